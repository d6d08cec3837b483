"""Rooms that several tests use, a second way to find a path: to follow the sound, and all paths
of a room as judge and next_path tell them."""

import functools
import itertools
from fractions import Fraction

from roompaths.paths import judge, next_path

LEAST = -9223372036854775808
LARGEST = 9223372036854775807
DIRECTIONS = [(1, 0), (1, 1), (0, 1), (-1, 1), (-1, 0), (-1, -1), (0, -1), (1, -1)]


def room_of(corners, height=6, floor=0, ceiling=0, stuffs=None):
    """The list of a room with these corners."""
    room = [height, floor, ceiling]
    for i, (x, y) in enumerate(corners):
        room += [x, y, stuffs[i] if stuffs else 0]
    return room


BOX_CORNERS = [(0, 0), (10, 0), (10, 8), (0, 8)]
# Its lines run in all of the eight directions.
OCTAGON_CORNERS = [(4, 0), (8, 0), (12, 4), (12, 8), (8, 12), (4, 12), (0, 8), (0, 4)]
L_CORNERS = [(0, 0), (10, 0), (10, 4), (4, 4), (4, 10), (0, 10)]
# A block stands in its middle, from y = 4 up.
U_CORNERS = [(0, 0), (12, 0), (12, 8), (8, 8), (8, 4), (4, 4), (4, 8), (0, 8)]
TRIANGLE_CORNERS = [(0, 0), (12, 0), (0, 12)]
DIAMOND_CORNERS = [(6, 0), (12, 6), (6, 12), (0, 6)]
# A wedge of two slanted walls sticks into it from below.
ARROW_CORNERS = [(0, 0), (6, 6), (12, 0), (12, 12), (0, 12)]

BOX = room_of(BOX_CORNERS, stuffs=[0, 1, 2, 3], floor=4, ceiling=5)
OCTAGON = room_of(OCTAGON_CORNERS, height=10)
L_ROOM = room_of(L_CORNERS, height=5)
U_ROOM = room_of(U_CORNERS, height=7)
TRIANGLE = room_of(TRIANGLE_CORNERS, height=4)
DIAMOND = room_of(DIAMOND_CORNERS, height=9)
ARROW = room_of(ARROW_CORNERS, height=8)
ROOMS = (BOX, OCTAGON, L_ROOM, U_ROOM, TRIANGLE, DIAMOND, ARROW)


def count_walls(room):
    return len(room) // 3 + 1


class Numbers:
    """Numbers that look thrown, but are the same at each run."""

    def __init__(self, start):
        self.state = start

    def below(self, end):
        self.state = (self.state * 6364136223846793005 + 1442695040888963407) % 2 ** 64
        return (self.state >> 33) % end


def staircase_corners(n):
    """n corners, n even and at least 6: stairs of steps of one against two straight walls."""
    corners = [(0, 0), (n // 2 - 1, 0)]
    x, y = n // 2 - 1, 0
    while len(corners) < n - 1:
        y += 1
        corners.append((x, y))
        if len(corners) < n - 1:
            x -= 1
            corners.append((x, y))
    corners.append((0, y))
    return corners


def wandered(numbers):
    """Some corners below 7, in eight directions from one another but perhaps for the last line."""
    corners = [(numbers.below(7), numbers.below(7))]
    while len(corners) < 5 + numbers.below(4):
        dx, dy = DIRECTIONS[numbers.below(8)]
        step = 1 + numbers.below(5)
        x, y = corners[-1][0] + dx * step, corners[-1][1] + dy * step
        if 0 <= x < 7 and 0 <= y < 7:
            corners.append((x, y))
    return corners


def corners_of(room):
    return [(room[at], room[at + 1]) for at in range(3, len(room), 3)]


def lines_of(room):
    corners = corners_of(room)
    return [(corner, corners[(i + 1) % len(corners)]) for i, corner in enumerate(corners)]


def cross(v, w):
    return v[0] * w[1] - v[1] * w[0]


def is_on_line(line, x, y):
    (ax, ay), (bx, by) = line
    in_reach = min(ax, bx) <= x <= max(ax, bx) and min(ay, by) <= y <= max(ay, by)
    return in_reach and cross((bx - ax, by - ay), (x - ax, y - ay)) == 0


def is_within(room, x, y):
    """Strictly within the lines. The ray is nearly along x, so that it passes no whole
    corner but one that lies at x, y itself."""
    ray = (1000003, 1)
    crossed = 0
    for line in lines_of(room):
        if is_on_line(line, x, y):
            return False
        (ax, ay), (bx, by) = line
        way = (bx - ax, by - ay)
        turn = cross(ray, way)
        along = Fraction(cross((ax - x, ay - y), way), turn)
        share = Fraction(cross((ax - x, ay - y), ray), turn)
        assert share not in (0, 1)
        if along > 0 and 0 < share < 1:
            crossed += 1
    return crossed % 2 == 1


def pairs(room, numbers, count):
    """Some s and e, whole and inside, of a room in which no x and no y is above 12."""
    places = [(x, y) for x in range(13) for y in range(13) if is_within(room, x, y)]
    for _ in range(count):
        s, e = places[numbers.below(len(places))], places[numbers.below(len(places))]
        yield s + (1 + numbers.below(room[0] - 1),), e + (1 + numbers.below(room[0] - 1),)


def with_other_stuffs(room, numbers):
    """The same room, but each of its stuffs is another."""
    other = list(room)
    for at in [1, 2] + list(range(5, len(room), 3)):
        other[at] = (room[at] + 1 + numbers.below(7)) % 8
    return other


def mirrored(room, wall, p):
    lines = lines_of(room)
    x, y, z = p
    if wall >= len(lines):
        return (x, y, (0 if wall == len(lines) else 2 * room[0]) - z)
    (ax, ay), (bx, by) = lines[wall]
    if ay == by:
        return (x, 2 * ay - y, z)
    if ax == bx:
        return (2 * ax - x, y, z)
    if bx - ax == by - ay:
        return (ax + y - ay, ay + x - ax, z)
    return (ax - y + ay, ay - x + ax, z)


def touch_of_line(line, p, way):
    """How much of the way, above 0, until in plan it touches the line; None if never, 0 if it runs on it."""
    (ax, ay), (bx, by) = line
    go = (way[0], way[1])
    wall = (bx - ax, by - ay)
    there = (ax - p[0], ay - p[1])
    turn = cross(go, wall)
    if turn != 0:
        along = Fraction(cross(there, wall)) / turn
        return along if along > 0 and 0 <= Fraction(cross(there, go)) / turn <= 1 else None
    if is_on_line(line, p[0], p[1]):
        return 0
    if go == (0, 0) or cross(there, go) != 0:
        return None
    square = go[0] ** 2 + go[1] ** 2
    ends = [Fraction((cx - p[0]) * go[0] + (cy - p[1]) * go[1]) / square for cx, cy in line]
    return min(ends) if min(ends) > 0 else None


def first_touch(room, p, way):
    """How much of the way until it touches a wall for the first time; None if never, 0 if it runs on one."""
    touches = [touch_of_line(line, p, way) for line in lines_of(room)]
    if 0 in touches or (way[2] == 0 and p[2] in (0, room[0])):
        return 0
    if way[2] != 0:
        touches += [Fraction(z - p[2]) / way[2] for z in (0, room[0])]
    return min([touch for touch in touches if touch is not None and touch > 0], default=None)


def is_in_open_wall(room, wall, p):
    lines = lines_of(room)
    if wall >= len(lines):
        level = 0 if wall == len(lines) else room[0]
        return p[2] == level and not any(is_on_line(line, p[0], p[1]) for line in lines)
    if not 0 < p[2] < room[0] or not is_on_line(lines[wall], p[0], p[1]):
        return False
    return (p[0], p[1]) not in lines[wall]


def follow(room, s, e, walls):
    """The length squared of the path by the walls and its turns' places, for s and e inside; None
    if it is no path. The sound goes off towards the image of e and must touch just these walls."""
    aim = e
    for wall in reversed(walls):
        aim = mirrored(room, wall, aim)
    way = tuple(a - b for a, b in zip(aim, s))
    square = sum(k * k for k in way)
    if square == 0:
        return None if walls else (0, [])
    p, left, places = s, Fraction(1), []
    for wall in walls:
        touch = first_touch(room, p, way)
        if touch in (None, 0) or touch >= left:
            return None
        p, left = tuple(a + touch * b for a, b in zip(p, way)), left - touch
        if not is_in_open_wall(room, wall, p):
            return None
        places.append(p)
        ahead = tuple(a + b for a, b in zip(p, way))
        way = tuple(a - b for a, b in zip(mirrored(room, wall, ahead), p))
    touch = first_touch(room, p, way)
    if touch is not None and touch < left:
        return None
    assert tuple(a + left * b for a, b in zip(p, way)) == tuple(e)
    return square, places


def followed(room, s, e, walls):
    """What judge answers of s and e inside."""
    path = follow(room, s, e, walls)
    return [0] if path is None else [1, path[0]]


def shot(room, s, way):
    """The walls and the places where the sound turns that goes off from s by way and as far as way, and
    the place where it ends; None if it touches an edge or ends in a wall. A whole s and way end whole."""
    p, left, walls, places = s, Fraction(1), [], []
    while True:
        touch = first_touch(room, p, way)
        if touch is None or touch > left:
            end = [a + left * b for a, b in zip(p, way)]
            assert all(k == int(k) for k in end)
            return walls, places, tuple(int(k) for k in end)
        p, left = tuple(a + touch * b for a, b in zip(p, way)), left - touch
        walls.extend(wall for wall in range(count_walls(room)) if is_in_open_wall(room, wall, p))
        places.append(p)
        if left == 0 or len(walls) != len(places):
            return None
        ahead = tuple(a + b for a, b in zip(p, way))
        way = tuple(a - b for a, b in zip(mirrored(room, walls[-1], ahead), p))


def shots(room, numbers, count, reach):
    """Some paths: s, e, the walls, the turns' places, the length squared; each of at most four turns."""
    places = [(x, y) for x in range(13) for y in range(13) if is_within(room, x, y)]
    found = 0
    while found < count:
        s = places[numbers.below(len(places))] + (1 + numbers.below(room[0] - 1),)
        way = tuple(numbers.below(2 * reach + 1) - reach for _ in range(3))
        path = shot(room, s, way) if way != (0, 0, 0) else None
        if path is not None and len(path[0]) <= 4:
            found += 1
            yield s, path[2], path[0], path[1], sum(k * k for k in way)


def compare(one, other):
    """Below 0, 0 or above 0: two rows in order as paths are, in the document's words."""
    if one[0] != other[0]:
        return one[0] - other[0]
    if len(one) != len(other):
        return len(one) - len(other)
    for a, b in zip(one[1:], other[1:]):
        if a != b:
            return a - b
    return 0


def judged(room, s, e, most):
    """All paths of at most most turns, in order, as judge finds them by all rows of walls."""
    found = []
    for k in range(most + 1):
        for walls in itertools.product(range(count_walls(room)), repeat=k):
            answer = judge(*s, *e, room, list(walls))
            if answer[0] == 1:
                found.append([answer[1]] + list(walls))
    return sorted(found, key=functools.cmp_to_key(compare))


def walked(room, s, e, most):
    """The paths that next_path tells, from an empty row on until there is none."""
    row, found = [], []
    while True:
        answer = next_path(*s, *e, most, room, row)
        if answer == [-2]:
            return found
        assert answer[0] == 0 and len(answer) > 1, answer
        # So a path that is told again ends the walk too.
        assert not row or compare(row, answer[1:]) < 0, (row, answer)
        row = answer[1:]
        found.append(row)
