"""The call image: s mirrored in walls one after another."""

import unittest

import roompaths.paths
from roompaths.paths import image
from tests import helper

WIDE = helper.room_of([(0, 0), (4095, 0), (4095, 4095), (0, 4095)], height=4095)


class Mirrored(unittest.TestCase):
    def check(self, s, room, walls, expected):
        self.assertEqual(image(s[0], s[1], s[2], room, walls), [0] + list(expected))

    def test_no_wall(self):
        for s in ((3, 2, 1), (0, 0, 0), (-7, 99, 12345), (helper.LEAST, helper.LARGEST, helper.LEAST)):
            self.check(s, helper.BOX, [], s)

    def test_walls_along_x(self):
        self.check((3, 2, 1), helper.BOX, [0], (3, -2, 1))
        self.check((3, 2, 1), helper.BOX, [2], (3, 14, 1))

    def test_walls_along_y(self):
        self.check((3, 2, 1), helper.BOX, [1], (17, 2, 1))
        self.check((3, 2, 1), helper.BOX, [3], (-3, 2, 1))

    def test_walls_by_both_as_much(self):
        self.check((5, 3, 2), helper.OCTAGON, [1], (11, -3, 2))
        self.check((5, 3, 2), helper.OCTAGON, [3], (17, 15, 2))
        self.check((5, 3, 2), helper.OCTAGON, [5], (-5, 13, 2))
        self.check((5, 3, 2), helper.OCTAGON, [7], (1, -1, 2))

    def test_floor_and_ceiling(self):
        self.check((3, 2, 1), helper.BOX, [4], (3, 2, -1))
        self.check((3, 2, 1), helper.BOX, [5], (3, 2, 11))
        self.check((5, 3, 2), helper.OCTAGON, [8], (5, 3, -2))
        self.check((5, 3, 2), helper.OCTAGON, [9], (5, 3, 18))
        self.check((1, 1, 1), helper.TRIANGLE, [3], (1, 1, -1))
        self.check((1, 1, 1), helper.TRIANGLE, [4], (1, 1, 7))

    def test_two_walls_in_their_order(self):
        self.check((3, 2, 1), helper.BOX, [0, 2], (3, 18, 1))
        self.check((3, 2, 1), helper.BOX, [2, 0], (3, -14, 1))
        self.check((3, 2, 1), helper.BOX, [4, 5], (3, 2, 13))
        self.check((3, 2, 1), helper.BOX, [5, 4], (3, 2, -11))
        self.check((5, 3, 2), helper.OCTAGON, [0, 1], (5, -3, 2))
        self.check((5, 3, 2), helper.OCTAGON, [1, 0], (11, 3, 2))
        self.check((5, 3, 2), helper.OCTAGON, [1, 3], (23, 9, 2))

    def test_four_walls(self):
        self.check((3, 2, 1), helper.BOX, [0, 1, 4, 5], (17, -2, 13))
        self.check((3, 2, 1), helper.BOX, [1, 3, 1, 3], (-37, 2, 1))
        self.check((5, 3, 2), helper.OCTAGON, [1, 3, 5, 7], (-27, 3, 2))

    def test_the_same_wall_twice(self):
        for room in helper.ROOMS:
            for wall in range(len(room) // 3 + 1):
                self.check((5, 3, 2), room, [wall, wall], (5, 3, 2))
                self.check((5, 3, 2), room, [wall] * 4, (5, 3, 2))
                self.check((-50, 31, 77), room, [wall, wall], (-50, 31, 77))

    def test_points_on_a_wall_stay(self):
        self.check((3, 0, 1), helper.BOX, [0], (3, 0, 1))
        self.check((10, 0, 1), helper.OCTAGON, [1], (8, 2, 1))
        self.check((10, 2, 1), helper.OCTAGON, [1], (10, 2, 1))
        self.check((3, 2, 6), helper.BOX, [5], (3, 2, 6))

    def test_points_outside(self):
        self.check((-3, 2, 1), helper.BOX, [3], (3, 2, 1))
        self.check((100, -200, 300), helper.BOX, [1, 0, 5], (-80, 200, -288))
        self.check((100, -200, 300), helper.OCTAGON, [1], (-192, 92, 300))

    def test_points_at_the_ends_of_the_numbers(self):
        low, high = helper.LEAST, helper.LARGEST
        self.check((low, low, low), WIDE, [0, 3, 4], (-low, -low, -low))
        self.check((low, low, low), WIDE, [1, 2, 5], (8190 - low, 8190 - low, 8190 - low))
        self.check((high, high, high), WIDE, [1, 2, 5], (8190 - high, 8190 - high, 8190 - high))
        self.check((low, high, low), helper.OCTAGON, [1], (high + 8, low - 8, low))
        self.check((low, high, low), helper.OCTAGON, [3], (20 - high, 20 - low, low))
        self.check((high, high, low), helper.OCTAGON, [3, 9], (20 - high, 20 - high, 20 - low))

    def test_as_far_and_straight_across_of_every_wall(self):
        for room in helper.ROOMS:
            n = len(room) // 3 - 1
            corners = [(room[3 + 3 * i], room[4 + 3 * i]) for i in range(n)]
            for wall in range(n):
                for s in ((5, 3, 2), (-9, 40, 1), (0, 0, 0), (10 ** 18, -10 ** 17, 3)):
                    answer = image(s[0], s[1], s[2], room, [wall])
                    self.assertEqual([answer[0], answer[3]], [0, s[2]])
                    (ax, ay), (bx, by) = corners[wall], corners[(wall + 1) % n]
                    dx, dy = bx - ax, by - ay
                    self.assertEqual(dx * (answer[1] - s[0]) + dy * (answer[2] - s[1]), 0)
                    self.assertEqual(dx * (answer[2] + s[1] - 2 * ay), dy * (answer[1] + s[0] - 2 * ax))

    def test_other_stuffs_change_nothing(self):
        bare = helper.room_of(helper.OCTAGON_CORNERS, height=10)
        other = helper.room_of(helper.OCTAGON_CORNERS, 10, 7, 3, [7, 6, 5, 4, 3, 2, 1, 0])
        for wall in range(10):
            self.assertEqual(image(5, 3, 2, bare, [wall, 3]), image(5, 3, 2, other, [wall, 3]))


class Refused(unittest.TestCase):
    def test_more_than_four_walls(self):
        self.assertEqual(image(3, 2, 1, helper.BOX, [0] * 5), [-1])
        self.assertEqual(image(3, 2, 1, helper.BOX, [0] * 40), [-1])
        self.assertEqual(image(3, 2, 1, helper.BOX, [99] * 5), [-1])
        self.assertEqual(image(3, 2, 1, helper.BOX, [0] * 4), [0, 3, 2, 1])

    def test_a_wall_above_the_ceiling(self):
        for room in helper.ROOMS:
            n = len(room) // 3 - 1
            self.assertEqual(image(3, 2, 1, room, [n + 1])[0], 0)
            for wall in (n + 2, n + 3, helper.LARGEST):
                for walls in ([wall], [0, wall], [0, 1, 0, wall], [wall, 0]):
                    self.assertEqual(image(3, 2, 1, room, walls), [-1])

    def test_a_fault_comes_first(self):
        faulty = [0] + helper.BOX[1:]
        for walls in ([], [0], [0] * 5, [6], [helper.LARGEST] * 40):
            self.assertEqual(image(3, 2, 1, faulty, walls), [-5, 2, 0])
            self.assertEqual(image(3, 2, 1, [], walls), [-5, 1, 0])
        self.assertEqual(image(3, 2, 1, helper.room_of([(0, 0), (10, 0), (10, 7), (0, 8)]), [9]), [-5, 4, 2])

    def test_a_point_outside_is_no_refusal(self):
        self.assertEqual(image(-1, -1, -1, helper.BOX, []), [0, -1, -1, -1])


class Kept(unittest.TestCase):
    CALLS = (
        (3, 2, 1, helper.BOX, [0, 5, 1]),
        (3, 2, 1, helper.BOX, [0] * 5),
        (3, 2, 1, helper.BOX[:-1], [0]),
        (3, 2, 1, helper.room_of(helper.BOX_CORNERS[::-1]), [0]),
        (5, 3, 2, helper.OCTAGON, []),
    )

    def test_one_list_of_whole_numbers(self):
        for call in self.CALLS:
            answer = image(*call)
            self.assertIs(type(answer), list)
            self.assertEqual({type(number) for number in answer}, {int})

    def test_what_is_handed_in_stays(self):
        for sx, sy, sz, room, walls in self.CALLS:
            given_room, given_walls = list(room), list(walls)
            answer = image(sx, sy, sz, given_room, given_walls)
            self.assertIsNot(answer, given_room)
            self.assertIsNot(answer, given_walls)
            answer.append(1)
            self.assertEqual((given_room, given_walls), (room, walls))

    def test_the_same_call_answers_the_same(self):
        first = [image(*call) for call in self.CALLS]
        for answer in [image(*call) for call in self.CALLS]:
            answer.append(0)
        again = [image(*call) for call in reversed(self.CALLS)]
        self.assertEqual(first, again[::-1])

    def test_arguments_by_their_names(self):
        self.assertEqual(roompaths.paths.image(sx=3, sy=2, sz=1, room=helper.BOX, walls=[0]), [0, 3, -2, 1])


if __name__ == "__main__":
    unittest.main()
