"""The call judge: whether there is a path by given walls, and its length squared."""

import itertools
import unittest

import roompaths.paths
from roompaths.paths import image, judge
from tests import helper


class JudgeCase(unittest.TestCase):
    def check(self, room, s, e, walls, expected):
        """judge's answer, the other way round too, and what following the sound tells."""
        self.assertEqual(judge(*s, *e, room, walls), expected)
        self.assertEqual(judge(*e, *s, room, walls[::-1]), expected)
        self.assertEqual(helper.followed(room, s, e, walls), expected)


class NoWall(JudgeCase):
    def test_clear(self):
        self.check(helper.BOX, (1, 1, 1), (9, 7, 5), [], [1, 116])
        self.check(helper.BOX, (3, 3, 1), (3, 3, 5), [], [1, 16])
        self.check(helper.L_ROOM, (2, 5, 1), (6, 2, 1), [], [1, 25])
        self.check(helper.U_ROOM, (2, 3, 3), (10, 3, 3), [], [1, 64])
        self.check(helper.ARROW, (2, 7, 3), (10, 7, 3), [], [1, 64])

    def test_one_point(self):
        for room in helper.ROOMS:
            self.check(room, (3, 7, 3), (3, 7, 3), [], [1, 0])

    def test_a_wall_in_the_way(self):
        self.check(helper.L_ROOM, (2, 9, 1), (9, 2, 1), [], [0])
        self.check(helper.U_ROOM, (2, 6, 3), (10, 6, 3), [], [0])
        self.check(helper.ARROW, (1, 2, 3), (11, 2, 3), [], [0])

    def test_a_corner_that_is_touched(self):
        self.check(helper.L_ROOM, (2, 6, 1), (6, 2, 1), [], [0])
        self.check(helper.L_ROOM, (2, 6, 1), (6, 2, 4), [], [0])
        self.check(helper.U_ROOM, (2, 6, 3), (6, 2, 3), [], [0])
        self.check(helper.ARROW, (2, 6, 1), (10, 6, 1), [], [0])

    def test_along_the_line_of_a_wall(self):
        self.check(helper.U_ROOM, (2, 4, 3), (10, 4, 3), [], [0])
        self.check(helper.U_ROOM, (2, 4, 1), (10, 4, 6), [], [0])
        self.check(helper.U_ROOM, (1, 4, 3), (3, 4, 3), [], [1, 4])
        self.check(helper.ARROW, (7, 7, 1), (8, 8, 1), [], [1, 2])

    def test_on_the_line_of_a_wall_ahead_of_its_end(self):
        self.check(helper.U_ROOM, (4, 1, 3), (4, 3, 3), [], [1, 4])
        self.check(helper.U_ROOM, (4, 3, 3), (4, 1, 6), [], [1, 13])


class OneWall(JudgeCase):
    def test_each_of_the_eight_directions(self):
        middle = (6, 6, 5)
        for wall in range(8):
            self.check(helper.OCTAGON, middle, middle, [wall], [1, 128 if wall % 2 else 144])
        for wall, square in ((0, 122), (1, 130), (2, 170), (3, 162), (4, 170), (5, 130), (6, 122), (7, 98)):
            self.check(helper.OCTAGON, (5, 5, 5), (6, 6, 5), [wall], [1, square])

    def test_floor_and_ceiling(self):
        self.check(helper.BOX, (2, 2, 2), (5, 6, 3), [4], [1, 50])
        self.check(helper.BOX, (2, 2, 2), (5, 6, 3), [5], [1, 74])
        self.check(helper.BOX, (2, 2, 2), (2, 2, 2), [4], [1, 16])
        self.check(helper.BOX, (2, 2, 2), (2, 2, 2), [5], [1, 64])
        self.check(helper.OCTAGON, (6, 6, 5), (6, 6, 5), [8], [1, 100])
        self.check(helper.OCTAGON, (6, 6, 5), (6, 6, 1), [9], [1, 196])

    def test_other_heights(self):
        self.check(helper.BOX, (2, 2, 1), (8, 2, 5), [0], [1, 68])

    def test_beyond_the_ends_of_the_wall(self):
        self.check(helper.OCTAGON, (1, 5, 5), (2, 5, 5), [0], [0])
        self.check(helper.OCTAGON, (10, 5, 5), (11, 5, 5), [0], [0])
        self.check(helper.L_ROOM, (1, 1, 1), (3, 1, 1), [2], [0])
        self.check(helper.L_ROOM, (2, 9, 1), (9, 2, 1), [6], [0])

    def test_at_a_corner(self):
        self.check(helper.OCTAGON, (3, 5, 5), (5, 5, 5), [0], [0])
        self.check(helper.OCTAGON, (3, 5, 5), (5, 5, 5), [7], [1, 52])
        self.check(helper.OCTAGON, (4, 5, 5), (5, 5, 5), [0], [1, 101])
        self.check(helper.OCTAGON, (7, 5, 5), (9, 5, 5), [0], [0])
        self.check(helper.L_ROOM, (3, 1, 1), (5, 1, 1), [2], [0])
        self.check(helper.L_ROOM, (3, 1, 1), (6, 1, 1), [2], [1, 45])

    def test_at_the_edge_of_floor_and_ceiling(self):
        # In plan the turn's point is the corner (4, 4).
        self.check(helper.U_ROOM, (2, 6, 1), (6, 2, 1), [8], [0])
        self.check(helper.U_ROOM, (2, 6, 6), (6, 2, 6), [9], [0])
        # In plan it is in the wall from (8, 4) to (4, 4).
        self.check(helper.U_ROOM, (3, 6, 1), (9, 2, 1), [8], [0])

    def test_the_turn_is_not_between(self):
        # s is above the plane of the wall y = 4, e below it.
        self.check(helper.L_ROOM, (2, 6, 1), (8, 2, 1), [2], [0])
        # s is in that plane, then both are.
        self.check(helper.L_ROOM, (2, 4, 1), (8, 2, 1), [2], [0])
        self.check(helper.L_ROOM, (2, 4, 1), (3, 4, 1), [2], [0])
        # Both are on the wall's other side.
        self.check(helper.U_ROOM, (2, 6, 1), (10, 6, 1), [4], [0])
        self.check(helper.U_ROOM, (2, 6, 1), (10, 6, 1), [0], [1, 208])

    def test_another_wall_in_the_way(self):
        self.check(helper.U_ROOM, (3, 7, 3), (9, 7, 3), [0], [0])
        self.check(helper.U_ROOM, (2, 6, 1), (10, 6, 1), [8], [0])
        self.check(helper.U_ROOM, (2, 6, 1), (10, 6, 1), [2], [0])
        # The first leg is clear, the second only in the last of these.
        self.check(helper.U_ROOM, (4, 2, 1), (9, 7, 1), [0], [0])
        self.check(helper.U_ROOM, (7, 2, 1), (9, 7, 1), [0], [1, 85])

    def test_a_leg_that_passes_a_corner(self):
        self.check(helper.U_ROOM, (3, 6, 3), (9, 6, 3), [0], [0])
        self.check(helper.U_ROOM, (6, 2, 1), (9, 7, 1), [0], [0])


class MoreWalls(JudgeCase):
    def test_two_walls(self):
        self.check(helper.BOX, (2, 2, 2), (8, 6, 3), [0, 1], [1, 165])
        self.check(helper.BOX, (2, 2, 2), (8, 6, 3), [1, 0], [0])
        self.check(helper.BOX, (2, 2, 2), (8, 4, 3), [0, 4], [1, 97])
        self.check(helper.BOX, (2, 2, 2), (8, 4, 3), [4, 0], [0])
        self.check(helper.BOX, (5, 4, 3), (5, 4, 3), [0, 2], [1, 256])
        self.check(helper.BOX, (5, 4, 3), (5, 4, 3), [5, 4], [1, 144])

    def test_two_walls_at_the_edge_between_them(self):
        self.check(helper.BOX, (2, 2, 2), (8, 4, 4), [0, 4], [0])
        self.check(helper.BOX, (2, 2, 2), (8, 4, 4), [4, 0], [0])
        self.check(helper.BOX, (2, 2, 4), (8, 4, 2), [0, 5], [0])
        self.check(helper.BOX, (2, 2, 4), (8, 4, 2), [5, 0], [0])
        self.check(helper.BOX, (2, 2, 2), (4, 4, 4), [0, 3], [0])
        self.check(helper.BOX, (2, 2, 2), (4, 4, 4), [3, 0], [0])

    def test_three_walls(self):
        self.check(helper.BOX, (5, 4, 1), (5, 4, 5), [0, 2, 0], [1, 592])
        self.check(helper.BOX, (2, 2, 2), (8, 5, 3), [0, 4, 1], [1, 174])
        self.check(helper.BOX, (2, 2, 2), (8, 5, 3), [4, 0, 1], [0])

    def test_four_walls(self):
        self.check(helper.BOX, (5, 4, 3), (5, 4, 3), [3, 1, 3, 1], [1, 1600])
        self.check(helper.BOX, (5, 4, 3), (5, 4, 3), [4, 5, 4, 5], [1, 576])
        self.check(helper.DIAMOND, (6, 5, 4), (6, 5, 4), [0, 1, 2, 3], [1, 576])
        # Here the same way leads into a corner.
        self.check(helper.DIAMOND, (3, 6, 4), (3, 6, 4), [0, 1, 2, 3], [0])

    def test_the_same_wall_twice_behind_one_another(self):
        for room in helper.ROOMS:
            for wall in range(helper.count_walls(room)):
                for walls in ([wall] * 2, [wall] * 3, [wall] * 4, [wall, wall, 0], [0, wall, wall]):
                    self.check(room, (3, 7, 3), (2, 7, 2), walls, [0])

    def test_walls_in_one_plane(self):
        # The walls 2 and 6 of this room are both of y = 8.
        self.check(helper.U_ROOM, (2, 6, 3), (10, 6, 3), [6, 2], [0])
        self.check(helper.U_ROOM, (2, 6, 3), (10, 6, 3), [2, 6], [0])


class AgainstFollowing(JudgeCase):
    """Every answer against the sound that is followed, the other promises on the way."""

    def compare(self, room, s, e, walls):
        answer = judge(*s, *e, room, walls)
        self.assertEqual(answer, helper.followed(room, s, e, walls), (room, s, e, walls))
        self.assertEqual(answer, judge(*e, *s, room, walls[::-1]), (room, s, e, walls))
        if answer != [0]:
            seen = image(*s, room, walls)
            self.assertEqual(answer, [1, sum((a - b) ** 2 for a, b in zip(seen[1:], e))])
        return len(answer) - 1

    def test_every_two_walls(self):
        numbers = helper.Numbers(1)
        for room in helper.ROOMS:
            paths = 0
            for s, e in helper.pairs(room, numbers, 12):
                for k in range(3):
                    for walls in itertools.product(range(helper.count_walls(room)), repeat=k):
                        paths += self.compare(room, s, e, list(walls))
            self.assertGreater(paths, 30)

    def test_every_four_walls_of_a_triangle(self):
        for s, e in (((3, 3, 1), (4, 5, 3)), ((2, 2, 2), (2, 2, 2))):
            paths = [0] * 5
            for k in range(5):
                for walls in itertools.product(range(5), repeat=k):
                    paths[k] += self.compare(helper.TRIANGLE, s, e, list(walls))
            self.assertGreater(min(paths), 0)

    def test_some_three_and_four_walls(self):
        numbers = helper.Numbers(2)
        for room in helper.ROOMS:
            paths = 0
            for s, e in helper.pairs(room, numbers, 400):
                walls = [numbers.below(helper.count_walls(room)) for _ in range(3 + numbers.below(2))]
                paths += self.compare(room, s, e, walls)
            self.assertGreater(paths, 0)

    def test_rooms_of_stairs(self):
        numbers = helper.Numbers(3)
        room = helper.room_of(helper.staircase_corners(24), height=5)
        paths = 0
        for s, e in helper.pairs(room, numbers, 30):
            for walls in [[]] + [[wall] for wall in range(26)]:
                paths += self.compare(room, s, e, walls)
        self.assertGreater(paths, 30)

    def test_rooms_of_many_shapes(self):
        numbers = helper.Numbers(5)
        rooms = paths = 0
        while rooms < 60:
            room = helper.room_of([(2 * x, 2 * y) for x, y in helper.wandered(numbers)])
            if image(1, 1, 1, room, [])[0] != 0:
                continue
            rooms += 1
            for s, e in helper.pairs(room, numbers, 8):
                for k in range(5):
                    paths += self.compare(room, s, e, [numbers.below(helper.count_walls(room)) for _ in range(k)])
        self.assertGreater(paths, 100)

    def test_the_largest_room(self):
        room = helper.room_of([(0, 0), (4095, 0), (4095, 4095), (0, 4095)], height=4095)
        s, e = (1, 4094, 1), (4094, 4093, 2)
        for walls in ([], [0], [0, 1, 2, 3], [1, 3, 1, 3], [4, 5, 4, 5], [3, 1, 0, 5], [0, 4, 1, 5]):
            self.compare(room, s, e, walls)
        self.assertEqual(judge(*s, *e, room, [3, 1, 3, 1])[0], 1)

    def test_other_stuffs_change_nothing(self):
        numbers = helper.Numbers(4)
        for room in helper.ROOMS:
            other = helper.with_other_stuffs(room, numbers)
            for s, e in helper.pairs(room, numbers, 60):
                walls = [numbers.below(helper.count_walls(room)) for _ in range(numbers.below(5))]
                self.assertEqual(judge(*s, *e, room, walls), judge(*s, *e, other, walls))


class Refused(unittest.TestCase):
    def test_not_inside(self):
        good = (3, 3, 3)
        outside = [(5, 0, 3), (10, 4, 3), (5, 8, 3), (0, 4, 3), (0, 0, 3), (10, 8, 3), (5, 4, 0), (5, 4, 6),
                   (5, 4, -1), (5, 4, 7), (-1, 4, 3), (11, 4, 3), (5, -1, 3), (5, 9, 3), (0, 0, 0),
                   (helper.LEAST, 4, 3), (5, helper.LARGEST, 3), (5, 4, helper.LEAST), (5, 4, helper.LARGEST),
                   (helper.LARGEST, helper.LARGEST, helper.LARGEST), (-8, 8, 3), (18, 8, 3), (-5, 0, 3), (15, 0, 3)]
        for bad in outside:
            for walls in ([], [0], [4, 5]):
                self.assertEqual(judge(*good, *bad, helper.BOX, walls), [-3], bad)
                self.assertEqual(judge(*bad, *good, helper.BOX, walls), [-3], bad)
                self.assertEqual(judge(*bad, *bad, helper.BOX, walls), [-3], bad)

    def test_inside_of_every_place(self):
        for room in helper.ROOMS + (helper.room_of(helper.staircase_corners(24)),):
            for x in range(-2, 15):
                for y in range(-2, 15):
                    expected = [1, 0] if helper.is_within(room, x, y) else [-3]
                    self.assertEqual(judge(x, y, 1, x, y, 1, room, []), expected, (room, x, y))

    def test_next_to_floor_and_ceiling(self):
        self.assertEqual(judge(5, 4, 1, 5, 4, 5, helper.BOX, []), [1, 16])
        low = [1] + helper.BOX[1:]
        for z in (-1, 0, 1, 2):
            self.assertEqual(judge(5, 4, z, 5, 4, z, low, []), [-3])

    def test_walls(self):
        self.assertEqual(judge(3, 3, 3, 5, 5, 5, helper.BOX, [0] * 5), [-1])
        self.assertEqual(judge(3, 3, 3, 5, 5, 5, helper.BOX, [0, 1] * 20), [-1])
        for room in helper.ROOMS:
            for wall in (helper.count_walls(room), helper.count_walls(room) + 1, helper.LARGEST):
                for walls in ([wall], [0, wall], [wall, 0, 0, 0], [0, 0, 0, wall]):
                    self.assertEqual(judge(3, 7, 3, 3, 7, 3, room, walls), [-1])
            self.assertNotEqual(judge(3, 7, 3, 3, 7, 3, room, [helper.count_walls(room) - 1]), [-1])

    def test_the_order(self):
        faulty = helper.room_of(helper.BOX_CORNERS[::-1])
        self.assertEqual(judge(3, 3, 3, 5, 5, 5, faulty, []), [-5, 7, 0])
        self.assertEqual(judge(-1, 3, 3, 5, 5, 5, faulty, [0] * 5), [-5, 7, 0])
        self.assertEqual(judge(-1, 3, 3, 5, 5, 5, [], [99]), [-5, 1, 0])
        self.assertEqual(judge(-1, 3, 3, 5, 5, 5, helper.BOX, [0] * 5), [-1])
        self.assertEqual(judge(3, 3, 3, 5, 5, 50, helper.BOX, [6]), [-1])
        self.assertEqual(judge(3, 3, 3, 5, 5, 50, helper.BOX, [5]), [-3])

    def test_every_fault_is_told(self):
        for at, value, expected in ((0, 0, [-5, 2, 0]), (5, 8, [-5, 3, 0]), (9, 9, [-5, 4, 1])):
            room = helper.BOX[:at] + [value] + helper.BOX[at + 1:]
            self.assertEqual(judge(3, 3, 3, 5, 5, 5, room, []), expected)
        self.assertEqual(
            judge(1, 1, 1, 1, 1, 1, helper.room_of([(0, 0), (5, 0), (10, 0), (10, 8), (0, 8)]), []), [-5, 5, 0])
        self.assertEqual(
            judge(1, 1, 1, 1, 1, 1, helper.room_of([(0, 0), (8, 8), (8, 0), (0, 8)]), []), [-5, 6, 0])


class Kept(unittest.TestCase):
    CALLS = (
        (2, 2, 2, 8, 6, 3, helper.BOX, [0, 1]),
        (2, 2, 2, 8, 6, 3, helper.BOX, [1, 0]),
        (2, 2, 2, 8, 6, 3, helper.BOX, []),
        (2, 2, 2, 8, 6, 33, helper.BOX, [0]),
        (2, 2, 2, 8, 6, 3, helper.BOX, [0] * 5),
        (2, 2, 2, 8, 6, 3, helper.BOX[:-1], [0]),
    )

    def test_one_list_of_whole_numbers(self):
        for call, size in zip(self.CALLS, (2, 1, 2, 1, 1, 3)):
            answer = judge(*call)
            self.assertIs(type(answer), list)
            self.assertEqual({type(number) for number in answer}, {int})
            self.assertEqual(len(answer), size)

    def test_what_is_handed_in_stays(self):
        for call in self.CALLS:
            room, walls = list(call[6]), list(call[7])
            judge(*call[:6], room, walls).append(1)
            self.assertEqual((room, walls), call[6:])

    def test_the_same_call_answers_the_same(self):
        first = [judge(*call) for call in self.CALLS]
        for answer in [judge(*call) for call in self.CALLS]:
            answer.append(0)
        again = [judge(*call) for call in reversed(self.CALLS)]
        self.assertEqual(first, again[::-1])

    def test_arguments_by_their_names(self):
        answer = roompaths.paths.judge(sx=2, sy=2, sz=2, ex=8, ey=6, ez=3, room=helper.BOX, walls=[0, 1])
        self.assertEqual(answer, [1, 165])


if __name__ == "__main__":
    unittest.main()
