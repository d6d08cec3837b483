"""A room's acoustics: the ways of sound between two points of a room.

A room is its list, as it is handed in.
A point is four whole numbers (x, y, z, over): its place is x, y and z, each over
the fourth, which is at least 1. So a fraction stays exact.
A wall's plane is four whole numbers (a, b, c, d): the places with a * x + b * y + c * z = d;
on the wall's inner side a * x + b * y + c * z is above d.
"""

CORNERS_LEAST = 3
CORNERS_MOST = 64
LENGTH_MOST = 4095
STUFF_MOST = 7
TURNS_MOST = 4


def count_corners(room):
    return (len(room) - 3) // 3


def corner(room, i):
    """Corner i as a point; behind the last one comes corner 0 again."""
    at = 3 + 3 * (i % count_corners(room))
    return (room[at], room[at + 1], 0, 1)


def run(room, i):
    """How far line i goes along x and along y."""
    start = corner(room, i)
    end = corner(room, i + 1)
    return (end[0] - start[0], end[1] - start[1])


def side(a, b, p):
    """In plan: above 0 if p is to the left of the way from a to b, 0 if on its line, else below 0."""
    by_x = a[0] * (b[1] * p[3] - p[1] * b[3])
    by_y = a[1] * (b[0] * p[3] - p[0] * b[3])
    return by_x - by_y + a[3] * (b[0] * p[1] - p[0] * b[1])


def spread(p, a, b):
    """Of p on the line of a and b in plan: below 0 if strictly between them, 0 if at one, else above 0."""
    along_x = (a[0] * p[3] - p[0] * a[3]) * (b[0] * p[3] - p[0] * b[3])
    along_y = (a[1] * p[3] - p[1] * a[3]) * (b[1] * p[3] - p[1] * b[3])
    return along_x + along_y


def has_form(room):
    return len(room) % 3 == 0 and CORNERS_LEAST <= count_corners(room) <= CORNERS_MOST


def is_stuff(number):
    return 0 <= number <= STUFF_MOST


def has_right_head(room):
    return 1 <= room[0] <= LENGTH_MOST and is_stuff(room[1]) and is_stuff(room[2])


def is_corner_right(room, i):
    at = 3 + 3 * i
    in_reach = 0 <= room[at] <= LENGTH_MOST and 0 <= room[at + 1] <= LENGTH_MOST
    return in_reach and is_stuff(room[at + 2])


def has_direction(room, i):
    """Whether line i has a length and runs in one of the eight directions."""
    x = abs(run(room, i)[0])
    y = abs(run(room, i)[1])
    return x + y > 0 and (x == 0 or y == 0 or x == y)


def goes_straight_on(room, i):
    """Whether line i and the next one run in one direction or in opposite ones."""
    here = run(room, i)
    there = run(room, i + 1)
    return here[0] * there[1] == here[1] * there[0]


def lines_meet(room, i, j):
    """Whether lines i and j, their ends among them, have a point in common."""
    a = corner(room, i)
    b = corner(room, i + 1)
    c = corner(room, j)
    d = corner(room, j + 1)
    if side(a, b, c) == 0 and side(a, b, d) == 0:
        return spread(c, a, b) <= 0 or spread(d, a, b) <= 0 or spread(a, c, d) <= 0
    return side(a, b, c) * side(a, b, d) <= 0 and side(c, d, a) * side(c, d, b) <= 0


def meets_another(room, i):
    """Whether line i has a point in common with a line that isn't its neighbour."""
    n = count_corners(room)
    for j in range(n):
        if (j - i) % n not in (0, 1, n - 1) and lines_meet(room, i, j):
            return True
    return False


def twice_the_area(room):
    """Above 0 if the room is to the left of its lines as they are walked."""
    area = 0
    for i in range(count_corners(room)):
        start = corner(room, i)
        end = corner(room, i + 1)
        area = area + start[0] * end[1] - start[1] * end[0]
    return area


def breaks_rule(room, rule, i):
    if rule == 3:
        return not is_corner_right(room, i)
    if rule == 4:
        return not has_direction(room, i)
    if rule == 5:
        return goes_straight_on(room, i)
    return meets_another(room, i)


def room_fault(room):
    """The room's first fault as [rule, wall]; an empty list if it has none."""
    if not has_form(room):
        return [1, 0]
    if not has_right_head(room):
        return [2, 0]
    for rule in (3, 4, 5, 6):
        for i in range(count_corners(room)):
            if breaks_rule(room, rule, i):
                return [rule, i]
    if twice_the_area(room) < 0:
        return [7, 0]
    return []


def plane(room, wall):
    n = count_corners(room)
    if wall == n:
        return (0, 0, 1, 0)
    if wall == n + 1:
        return (0, 0, -1, -room[0])
    start = corner(room, wall)
    way = run(room, wall)
    # Eight directions: over the longer of the two, both become -1, 0 or 1.
    longer = max(abs(way[0]), abs(way[1]))
    a = -way[1] // longer
    b = way[0] // longer
    return (a, b, 0, a * start[0] + b * start[1])


def gap(flat, p):
    """Above 0 on the wall's inner side, below 0 on the outer one, 0 on the plane."""
    return flat[0] * p[0] + flat[1] * p[1] + flat[2] * p[2] - flat[3] * p[3]


def mirrored(flat, p):
    # The square of a, b, c together is 1 or 2, so the step across is whole.
    square = flat[0] * flat[0] + flat[1] * flat[1] + flat[2] * flat[2]
    step = 2 // square * gap(flat, p)
    return (p[0] - step * flat[0], p[1] - step * flat[1], p[2] - step * flat[2], p[3])


def images(room, s, walls):
    """s, then s mirrored in the first of the walls, that one in the second, and so on."""
    found = [s]
    for wall in walls:
        found.append(mirrored(plane(room, wall), found[-1]))
    return found


def is_within_lines(room, p):
    """Whether in plan p is strictly within the lines, on none of them."""
    crossed = 0
    for i in range(count_corners(room)):
        a = corner(room, i)
        b = corner(room, i + 1)
        where = side(a, b, p)
        if where == 0 and spread(p, a, b) <= 0:
            return False
        # A corner level with p counts as below it: a ray from p along x that goes
        # through a corner then crosses just as one a little above it would.
        a_above = a[1] * p[3] > p[1]
        b_above = b[1] * p[3] > p[1]
        if (b_above and not a_above and where > 0) or (a_above and not b_above and where < 0):
            crossed = crossed + 1
    return crossed % 2 == 1


def is_between_floor_and_ceiling(room, p):
    return 0 < p[2] < room[0] * p[3]


def is_inside(room, p):
    return is_between_floor_and_ceiling(room, p) and is_within_lines(room, p)


def refusal(room, most, walls, ends):
    """The refusal that's called for, an empty list if none is: most is how many turns are asked for,
    walls are those that are named, ends the points that must be inside."""
    fault = room_fault(room)
    if len(fault) > 0:
        return [-5] + fault
    if most > TURNS_MOST or max([0] + walls) > count_corners(room) + 1:
        return [-1]
    for p in ends:
        if not is_inside(room, p):
            return [-3]
    return []


def is_in_wall(room, wall, p):
    """Whether p, a point of the wall's plane, is in the open wall."""
    if wall >= count_corners(room):
        return is_within_lines(room, p)
    between = spread(p, corner(room, wall), corner(room, wall + 1)) < 0
    return between and is_between_floor_and_ceiling(room, p)


def middle(p, q):
    return (p[0] * q[3] + q[0] * p[3], p[1] * q[3] + q[1] * p[3], p[2] * q[3] + q[2] * p[3], 2 * p[3] * q[3])


def stands_between(room, i, p, q):
    """Whether in plan line i begins strictly between p and q, or crosses there."""
    a = corner(room, i)
    b = corner(room, i + 1)
    if side(p, q, a) == 0:
        return spread(a, p, q) < 0
    return side(a, b, p) * side(a, b, q) < 0 and side(p, q, a) * side(p, q, b) < 0


def is_clear(room, p, q):
    """Whether it is clear from p to q, each of them inside or in an open wall."""
    # With no corner and no crossing between, all points between are alike: inside,
    # outside, or on one wall. So the middle speaks for them all.
    for i in range(count_corners(room)):
        if stands_between(room, i, p, q):
            return False
    return is_inside(room, middle(p, q))


def turn_between(flat, seen, behind):
    """The plane's point between an image on the outer side and a point on the inner one; None if one isn't there."""
    outer = gap(flat, seen)
    inner = gap(flat, behind)
    # Off a wall's outer side no leg would be inside.
    if outer >= 0 or inner <= 0:
        return None
    return tuple([inner * seen[k] - outer * behind[k] for k in range(4)])


def path_turns(room, seen, e, walls):
    """Where the path by the walls from s, whose images seen holds, to e turns; None if it is no path.

    From the last turn back, each lies straight between the image in its wall and the stop behind it.
    """
    stops = [e]
    for k in range(len(walls) - 1, -1, -1):
        point = turn_between(plane(room, walls[k]), seen[k + 1], stops[-1])
        if point is None or not is_in_wall(room, walls[k], point):
            return None
        stops.append(point)
    stops.append(seen[0])
    stops.reverse()
    for k in range(len(stops) - 1):
        if not is_clear(room, stops[k], stops[k + 1]):
            return None
    return stops[1:-1]


def is_path(room, s, e, walls):
    return path_turns(room, images(room, s, walls), e, walls) is not None


def common_divisor(numbers):
    """The largest number that divides them all; none is below 0 and not all are 0."""
    found = 0
    for number in numbers:
        other = number
        while other != 0:
            rest = found % other
            found = other
            other = rest
    return found


def reduced(p):
    divisor = common_divisor(p)
    return [number // divisor for number in p]


def square_between(p, q):
    """The square of how far two whole points are from one another."""
    return (p[0] - q[0]) * (p[0] - q[0]) + (p[1] - q[1]) * (p[1] - q[1]) + (p[2] - q[2]) * (p[2] - q[2])


def longer_rows(planes, rows):
    """The rows with one more wall. A row is its walls and s mirrored in them."""
    longer = []
    for row in rows:
        for wall in range(len(planes)):
            # Sound meets a wall on its inner side, so the image that it seems to come from lies there too.
            if gap(planes[wall], row[1]) > 0:
                longer.append((row[0] + [wall], mirrored(planes[wall], row[1])))
    return longer


def ranked(square, walls):
    """What stands in order as a path of this length squared by these walls does."""
    return [square, len(walls)] + walls


def ranked_rows(room, s, e, most):
    """Every row of at most most walls that may be a path's, ranked, in order."""
    planes = [plane(room, wall) for wall in range(count_corners(room) + 2)]
    newest = [([], s)]
    rows = list(newest)
    for k in range(most):
        newest = longer_rows(planes, newest)
        rows.extend(newest)
    return sorted([ranked(square_between(row[1], e), row[0]) for row in rows])


def image(sx, sy, sz, room, walls):
    """0 and the point s mirrored in the walls one after another, or the refusal."""
    refused = refusal(room, len(walls), walls, [])
    if len(refused) > 0:
        return refused
    last = images(room, (sx, sy, sz, 1), walls)[-1]
    return [0, last[0], last[1], last[2]]


def judge(sx, sy, sz, ex, ey, ez, room, walls):
    """1 and the length squared of the path from s to e by the walls, 0 if there is none, or the refusal."""
    s = (sx, sy, sz, 1)
    e = (ex, ey, ez, 1)
    refused = refusal(room, len(walls), walls, [s, e])
    if len(refused) > 0:
        return refused
    seen = images(room, s, walls)
    if path_turns(room, seen, e, walls) is None:
        return [0]
    return [1, square_between(seen[-1], e)]


def turns(sx, sy, sz, ex, ey, ez, room, walls):
    """0 and of each turn of the path from s to e by the walls its point, or the refusal."""
    s = (sx, sy, sz, 1)
    e = (ex, ey, ez, 1)
    refused = refusal(room, len(walls), walls, [s, e])
    if len(refused) > 0:
        return refused
    points = path_turns(room, images(room, s, walls), e, walls)
    if points is None:
        return [-4]
    told = [0]
    for point in points:
        told.extend(reduced(point))
    return told


def next_path(sx, sy, sz, ex, ey, ez, most, room, behind):
    """0, the length squared and the walls of the first path of at most most turns behind a row, or the refusal."""
    s = (sx, sy, sz, 1)
    e = (ex, ey, ez, 1)
    refused = refusal(room, most, [], [s, e])
    if len(refused) > 0:
        return refused
    last = ranked(behind[0], behind[1:]) if len(behind) > 0 else []
    for row in ranked_rows(room, s, e, most):
        if row > last and is_path(room, s, e, row[2:]):
            return [0, row[0]] + row[2:]
    return [-2]


def count(sx, sy, sz, ex, ey, ez, most, within, room):
    """0 and how many paths of at most most turns have a length squared that isn't above within, or the refusal."""
    s = (sx, sy, sz, 1)
    e = (ex, ey, ez, 1)
    refused = refusal(room, most, [], [s, e])
    if len(refused) > 0:
        return refused
    rows = ranked_rows(room, s, e, most)
    return [0, len([row for row in rows if row[0] <= within and is_path(room, s, e, row[2:])])]


def nth(sx, sy, sz, ex, ey, ez, most, i, room):
    """0, the length squared and the walls of path number i, from 0, of at most most turns, or the refusal."""
    s = (sx, sy, sz, 1)
    e = (ex, ey, ez, 1)
    refused = refusal(room, most, [], [s, e])
    if len(refused) > 0:
        return refused
    paths = [row for row in ranked_rows(room, s, e, most) if is_path(room, s, e, row[2:])]
    if i >= len(paths):
        return [-2]
    return [0, paths[i][0]] + paths[i][2:]
