"""All plain films of a fence: its stages, and the first mouths that lead from one to another."""

from baysout.checks import is_point
from baysout.errors import TooMany
from baysout.mouths import first_among, numbers_from
from baysout.outlines import twice_area
from baysout.turnings import half_round

MOST_FENCES = 300


class Plays:
    """The corners of all unlike stages, stage 0 first; for each one its moves: a dict from its first
    mouths to the numbers of the stages behind them."""

    def __init__(self, corners):
        self.rows = [corners]
        self.moves = []
        self.numbers = {corners: 0}
        while len(self.moves) < len(self.rows):
            row, found = self.rows[len(self.moves)], {}
            for mouth in first_among(row):
                found[mouth] = self.number_behind(row, mouth)
            self.moves.append(found)

    def number_behind(self, row, mouth):
        """The number of the stage behind a mouth, a new one if need be."""
        there = half_round(row, numbers_from(mouth[0], mouth[1], len(row)))
        if there not in self.numbers:
            if len(self.rows) >= MOST_FENCES:
                raise TooMany("fences", MOST_FENCES)
            self.numbers[there] = len(self.rows)
            self.rows.append(there)
        return self.numbers[there]

    def from_last(self):
        """The numbers of the stages, each one behind all that it leads to."""
        # The land grows by each turning.
        return [at for _, at in sorted([(-twice_area(row), at) for at, row in enumerate(self.rows)])]

    def turnings_left(self):
        """For each stage how many turnings a plain film from there that ends has: the least, and the most."""
        least, most = [0] * len(self.rows), [0] * len(self.rows)
        for at in self.from_last():
            following = list(self.moves[at].values())
            if following:
                least[at] = 1 + min([least[there] for there in following])
                most[at] = 1 + max([most[there] for there in following])
        return least, most

    def wins(self):
        """For each stage whether the one who is to turn out a first mouth there wins."""
        won = [False] * len(self.rows)
        for at in self.from_last():
            won[at] = any([not won[there] for there in self.moves[at].values()])
        return won

    def winning_mouths(self):
        """The first mouths of stage 0 by which the one who begins wins, ascending."""
        won = self.wins()
        return sorted([mouth for mouth, there in self.moves[0].items() if not won[there]])

    def film_along(self, left):
        """A plain film that ends, behind each turning of which as many are left as a list tells."""
        film, at = [], 0
        while left[at] > 0:
            mouths = [mouth for mouth, there in self.moves[at].items() if left[there] == left[at] - 1]
            film.append(mouths[0])
            at = self.moves[at][mouths[0]]
        return film

    def turnings_made(self):
        """For each stage how many turnings a plain film that leads to it has: the least, and the most."""
        # No film has as many turnings as there are stages.
        least, most = [len(self.rows)] * len(self.rows), [0] * len(self.rows)
        least[0] = 0
        for at in self.from_last()[::-1]:
            for there in self.moves[at].values():
                least[there] = min(least[there], least[at] + 1)
                most[there] = max(most[there], most[at] + 1)
        return least, most

    def film_to(self, made, at):
        """A plain film to a stage, along which as many turnings are made as a list tells."""
        film = []
        while made[at] > 0:
            found = [(ahead, mouth) for ahead, moves in enumerate(self.moves) for mouth, there in moves.items()
                     if there == at and made[ahead] == made[at] - 1]
            at, mouth = found[0]
            film.append(mouth)
        return film[::-1]

    def stage_behind(self, film):
        """The number of the stage behind any value, if it is a plain film, ended or not; None if it is none."""
        if not isinstance(film, (list, tuple)):
            return None
        at = 0
        for pair in film:
            if not is_point(pair) or tuple(pair) not in self.moves[at]:
                return None
            at = self.moves[at][tuple(pair)]
        return at

    def ends_behind(self, film):
        """Whether any value is a plain film that ends."""
        at = self.stage_behind(film)
        return at is not None and not self.moves[at]
