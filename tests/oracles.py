"""What the document tells, found in other, slower ways: by fractions, by angles, by trying all."""

from fractions import Fraction
from math import atan2, pi


def cross(one, other):
    return one[0] * other[1] - one[1] * other[0]


def less(one, other):
    return (one[0] - other[0], one[1] - other[1])


def on_stretch(one, other, point):
    """Whether a point is one + t (other - one), t from 0 to 1."""
    along, there = less(other, one), less(point, one)
    if along == (0, 0):
        return there == (0, 0)
    k = 0 if along[0] != 0 else 1
    t = Fraction(there[k]) / along[k]
    return 0 <= t <= 1 and all(t * along[i] == there[i] for i in (0, 1))


def common_points(one, other, third, fourth):
    """Points that two stretches have in common: the ends of what they share, or the one point."""
    points = {end for end in (one, other) if on_stretch(third, fourth, end)}
    points |= {end for end in (third, fourth) if on_stretch(one, other, end)}
    along, across = less(other, one), less(fourth, third)
    if cross(along, across) != 0:
        t = Fraction(cross(less(third, one), across), cross(along, across))
        u = Fraction(cross(less(third, one), along), cross(along, across))
        if 0 <= t <= 1 and 0 <= u <= 1:
            points.add((one[0] + t * along[0], one[1] + t * along[1]))
    return points


def ring(corners):
    """The sides, as pairs of their ends."""
    return list(zip(corners, list(corners[1:]) + list(corners[:1])))


def is_fence_row(corners):
    """Whether points are the corners of a fence, by what [4] says of its sides."""
    many, sides = len(corners), ring(corners)
    if many < 3 or many > 400 or len(set(corners)) < many:
        return False
    for i in range(many):
        for j in range(i):
            shared = common_points(*sides[i], *sides[j])
            wanted = set()
            if (i - j) % many == 1:
                wanted.add(corners[i])
            if (j - i) % many == 1:
                wanted.add(corners[j])
            if shared != wanted:
                return False
    return sum(cross(one, other) for one, other in sides) > 0


def place_of(corners, point):
    """Where a point is: by the sides that a line eastward from it meets."""
    if any(on_stretch(one, other, point) for one, other in ring(corners)):
        return "rim"
    met = 0
    for one, other in ring(corners):
        if (one[1] > point[1]) != (other[1] > point[1]):
            t = Fraction(point[1] - one[1]) / (other[1] - one[1])
            met += one[0] + t * (other[0] - one[0]) > point[0]
    return "within" if met % 2 else "off"


def box_of(corners, more=1):
    """All points of the box about corners, and around it."""
    low_x, high_x = min(x for x, _ in corners) - more, max(x for x, _ in corners) + more
    low_y, high_y = min(y for _, y in corners) - more, max(y for _, y in corners) + more
    return [(x, y) for x in range(low_x, high_x + 1) for y in range(low_y, high_y + 1)]


def is_covered(one, other):
    """Whether the land in other lies on that in one: each side is parted wherever sides of one meet it."""
    for start, end in ring(other):
        marks = {start, end}
        for low, high in ring(one):
            marks |= common_points(start, end, low, high)
        row = sorted(marks)
        for low, high in zip(row, row[1:]):
            middle = (Fraction(low[0] + high[0]) / 2, Fraction(low[1] + high[1]) / 2)
            if place_of(one, middle) == "off":
                return False
    return all(place_of(one, corner) != "off" for corner in other)


def hull_numbers(corners):
    """The corners that lie on no stretch between others, and in no triangle of others."""
    numbers = []
    for at, corner in enumerate(corners):
        others = [other for other in corners if other != corner]
        # A corner of the hull has all others strictly within some half plane through it: so it is
        # no corner if others lie on both sides of it on each line through it and another corner.
        if not in_hull_of(others, corner):
            numbers.append(at)
    return tuple(numbers)


def in_hull_of(points, spot):
    """Whether a spot is within the hull of points: there is no line that parts it from them."""
    for one in points:
        for other in points:
            side = less(other, one)
            if one != other and cross(side, less(spot, one)) < 0 and all(
                    cross(side, less(point, one)) >= 0 for point in points):
                return False
    # All points may lie on one line.
    base = less(points[1], points[0])
    if all(cross(base, less(point, points[0])) == 0 for point in points):
        if cross(base, less(spot, points[0])) != 0:
            return False
        return min(points) <= spot <= max(points)
    return True


def all_mouths(corners):
    """All mouths, and the first ones, pair by pair as [5] tells them."""
    many, hull = len(corners), hull_numbers(corners)
    mouths, first = [], []
    for a, b in zip(hull, hull[1:] + hull[:1]):
        row = [(a + k) % many for k in range((b - a) % many + 1)]
        base = less(corners[b], corners[a])
        on_line = {at: cross(base, less(corners[at], corners[a])) == 0 for at in row}
        found = []
        for i, p in enumerate(row):
            for j in range(i + 1, len(row)):
                inner = row[i:j + 1]
                if on_line[p] and on_line[row[j]] and not all(on_line[at] for at in inner):
                    found.append((i, j))
        mouths += [(row[i], row[j]) for i, j in found]
        if found:
            i, j = min(found)
            first.append((row[i], row[j]))
    return tuple(sorted(mouths)), tuple(sorted(first))


def lifted_angles(corners):
    """For each side how far one has turned in all, in radians, side 0 between 0 and a whole turn."""
    sides = [less(other, one) for one, other in ring(corners)]
    angles = [atan2(sides[0][1], sides[0][0]) % (2 * pi)]
    for before, side in zip(sides, sides[1:]):
        dot = before[0] * side[0] + before[1] * side[1]
        angles.append(angles[-1] + atan2(cross(before, side), dot))
    return angles


def sorted_places(corners):
    """The places of all sides: the endless row is written down, for many rounds, and put in order."""
    angles, many = lifted_angles(corners), len(corners)
    more = 3 + int((max(angles) - min(angles)) / pi)
    row = sorted((round(angles[at] + 2 * pi * k, 6), at + many * k) for at in range(many) for k in range(-more, more + 1))
    found = {number: place for place, (_, number) in enumerate(row)}
    less = sum(found[at] - at for at in range(many))
    assert less % many == 0
    return [found[at] - less // many for at in range(many)]


def field_by_places(corners):
    """The corner at place 0, the sides in order from there, and the corners that are no straight ones."""
    many, places = len(corners), sorted_places(corners)
    sides = [less(other, one) for one, other in ring(corners)]
    spot = corners[0]
    for side, place in zip(sides, places):
        times = (place - place % many) // many
        spot = (spot[0] - side[0] * times, spot[1] - side[1] * times)
    row = [side for place in range(many) for side, its in zip(sides, places) if its % many == place]
    walked = [spot]
    for side in row:
        walked.append((walked[-1][0] + side[0], walked[-1][1] + side[1]))
    assert walked.pop() == spot
    kept = [corner for at, corner in enumerate(walked) if cross(row[at - 1], row[at]) != 0]
    at = kept.index(min(kept))
    return (spot, tuple(row)), tuple(kept[at:] + kept[:at])


def put_half_round(corners, p, q):
    """The corners, those from p to q put half round about the middle of the two, one by one as [6] tells."""
    many, row = len(corners), list(corners)
    for i in range((q - p) % many + 1):
        (x, y), (a, b), (c, d) = corners[(q - i) % many], corners[p], corners[q]
        row[(p + i) % many] = (a + c - x, b + d - y)
    return tuple(row)


def all_headlands(corners):
    """All headlands, as [10] tells them: each pair is tried."""
    many, found = len(corners), []
    for p in range(many):
        for q in range(many):
            row = put_half_round(corners, p, q)
            if p != q and is_fence_row(row) and (p, q) in all_mouths(row)[0]:
                found.append((p, q))
    return tuple(found)


def word_corners(word):
    """The corners of a word, None if the walker doesn't come back: all points of the walk are written down."""
    way, spot, walk, ways = 1, 0, [], []
    for letter in word:
        way = way * {"l": 1j, "r": -1j, "f": 1}[letter]
        if letter == "f":
            walk.append(spot)
            ways.append(way)
            spot += way
    if spot != 0:
        return None
    return [(int(here.real), int(here.imag)) for at, here in enumerate(walk) if at == 0 or ways[at] != ways[at - 1]]


def rim_of_squares(squares):
    """The corners of the rim of unit squares, told by their lower left corners, from (0, 0) on, none straight."""
    edges = set()
    for x, y in squares:
        round_it = [(x, y), (x + 1, y), (x + 1, y + 1), (x, y + 1)]
        for edge in ring(round_it):
            if edge[::-1] in edges:
                edges.remove(edge[::-1])
            else:
                edges.add(edge)
    following = dict(edges)
    assert len(following) == len(edges)
    walked = [(0, 0)]
    while following[walked[-1]] != (0, 0):
        walked.append(following[walked[-1]])
    assert len(walked) == len(edges)
    many = len(walked)
    return tuple(spot for at, spot in enumerate(walked)
                 if cross(less(spot, walked[at - 1]), less(walked[(at + 1) % many], spot)) != 0)


def are_apart_slowly(one, other):
    """Whether the lands in two rows of corners have no point in common: each side beside each one."""
    for side in ring(one):
        for there in ring(other):
            if common_points(*side, *there):
                return False
    return place_of(one, other[0]) == "off" and place_of(other, one[0]) == "off"


def put_about(place, mouth, many):
    """The place with which a place is exchanged when a mouth is turned out: of the stretch in its round."""
    p, q = mouth
    last = q if q > p else q + many
    k = (place - p) // many
    # The stretch of this round goes from p + k n to the place ahead of last + k n.
    return p + last - 1 + 2 * k * many - place if place < last + k * many else place


def side_at(place, film, many):
    """The number of the side that stands at a place of the endless row behind a film."""
    for mouth in film[::-1]:
        place = put_about(place, mouth, many)
    return place


def place_behind(side, film, many):
    """The place at which a side of the endless row stands behind a film."""
    for mouth in film:
        side = put_about(side, mouth, many)
    return side


def places_that_add_up(corners, places):
    """The corners by places, in a slow way: the endless row is walked back from corner 0 to place 0, and on."""
    many, sides = len(corners), [less(other, one) for one, other in ring(corners)]
    row = {}
    far = max(abs(place) for place in places) // many + 2
    for side, place in enumerate(places):
        for k in range(-2 * far, 2 * far + 1):
            row[place + k * many] = (side + k * many, sides[side])
    # Sides that stand from 0 on and were ahead of side 0 are taken off, those that stand ahead of 0 now are put on.
    x, y = corners[0]
    for place, (number, (a, b)) in row.items():
        if -far * many <= place < 0 <= number:
            x, y = x + a, y + b
        if number < 0 <= place < far * many:
            x, y = x - a, y - b
    walked = [(x, y)]
    for place in range(many - 1):
        walked.append((walked[-1][0] + row[place][1][0], walked[-1][1] + row[place][1][1]))
    return tuple(walked)


def table_by_counting(film, many):
    """The table of a film, turning by turning: of two sides of a stretch the one behind passes the other one."""
    table, row = [[0] * many for _ in range(many)], None
    for at in range(len(film)):
        p, q = film[at]
        last = q if q > p else q + many
        row = [side_at(place, film[:at], many) for place in range(p, last)]
        for k, one in enumerate(row):
            for other in row[k + 1:]:
                table[one % many][other % many] += 1
                table[other % many][one % many] -= 1
    return tuple(tuple(each) for each in table)


def table_by_places(places, reach=6):
    """The table, as it is told: of all sides how many stand behind a side at first, and ahead of it in the end."""
    many = len(places)
    table = [[0] * many for _ in range(many)]
    for i in range(many):
        for j in range(many):
            for k in range(-reach, reach + 1):
                first, end = j + k * many, places[j] + k * many
                table[i][j] += (first > i and end < places[i]) - (first < i and end > places[i])
    return tuple(tuple(row) for row in table)
