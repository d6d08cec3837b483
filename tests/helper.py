"""Rooms that several tests use, and how a test makes one."""

LEAST = -9223372036854775808
LARGEST = 9223372036854775807


def room_of(corners, height=6, floor=0, ceiling=0, stuffs=None):
    """The list of a room with these corners."""
    room = [height, floor, ceiling]
    for i, (x, y) in enumerate(corners):
        room += [x, y, stuffs[i] if stuffs else 0]
    return room


BOX_CORNERS = [(0, 0), (10, 0), (10, 8), (0, 8)]
# Its lines run in all of the eight directions.
OCTAGON_CORNERS = [(4, 0), (8, 0), (12, 4), (12, 8), (8, 12), (4, 12), (0, 8), (0, 4)]
L_CORNERS = [(0, 0), (10, 0), (10, 4), (4, 4), (4, 10), (0, 10)]
# A block stands in its middle, from y = 4 up.
U_CORNERS = [(0, 0), (12, 0), (12, 8), (8, 8), (8, 4), (4, 4), (4, 8), (0, 8)]
TRIANGLE_CORNERS = [(0, 0), (12, 0), (0, 12)]
DIAMOND_CORNERS = [(6, 0), (12, 6), (6, 12), (0, 6)]
# A wedge of two slanted walls sticks into it from below.
ARROW_CORNERS = [(0, 0), (6, 6), (12, 0), (12, 12), (0, 12)]

BOX = room_of(BOX_CORNERS, stuffs=[0, 1, 2, 3], floor=4, ceiling=5)
OCTAGON = room_of(OCTAGON_CORNERS, height=10)
L_ROOM = room_of(L_CORNERS, height=5)
U_ROOM = room_of(U_CORNERS, height=7)
TRIANGLE = room_of(TRIANGLE_CORNERS, height=4)
DIAMOND = room_of(DIAMOND_CORNERS, height=9)
ARROW = room_of(ARROW_CORNERS, height=8)
ROOMS = (BOX, OCTAGON, L_ROOM, U_ROOM, TRIANGLE, DIAMOND, ARROW)


class Numbers:
    """Numbers that look thrown, but are the same at each run."""

    def __init__(self, start):
        self.state = start

    def below(self, end):
        self.state = (self.state * 6364136223846793005 + 1442695040888963407) % 2 ** 64
        return (self.state >> 33) % end


def staircase_corners(n):
    """n corners, n even and at least 6: stairs of steps of one against two straight walls."""
    corners = [(0, 0), (n // 2 - 1, 0)]
    x, y = n // 2 - 1, 0
    while len(corners) < n - 1:
        y += 1
        corners.append((x, y))
        if len(corners) < n - 1:
            x -= 1
            corners.append((x, y))
    corners.append((0, y))
    return corners
