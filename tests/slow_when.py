"""When points come to land, in a slow way: all plain films are played, turning by turning."""

from baysout.fences import Fence
from baysout.turnings import turned_out
from tests.oracles import all_mouths, place_of


def is_land(fence, point):
    return place_of(fence.corners, point) != "off"


class AllFilms:
    """For each unlike stage of a fence all plain films that lead to it."""

    def __init__(self, fence):
        self.films = {fence.corners: [()]}
        self.order = [fence.corners]
        # Films of one turning more at a time.
        layer = {fence.corners: [()]}
        while layer:
            following = {}
            for corners, films in layer.items():
                for mouth in all_mouths(corners)[1]:
                    there = turned_out(Fence(corners), mouth).corners
                    following.setdefault(there, []).extend([film + (mouth,) for film in films])
            for corners, films in following.items():
                if corners not in self.films:
                    self.order.append(corners)
                self.films.setdefault(corners, []).extend(films)
            layer = following

    def soonest(self, point):
        """All films with as few turnings as can be behind which a point is on land."""
        films = [film for corners, films in self.films.items() if is_land(Fence(corners), point) for film in films]
        return [film for film in films if len(film) == min(map(len, films))]

    def latest(self, point):
        """All films with as many turnings as can be behind which a point is not on land."""
        films = [film for corners, films in self.films.items() if not is_land(Fence(corners), point) for film in films]
        return [film for film in films if len(film) == max(map(len, films))]
