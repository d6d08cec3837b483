"""The call next_path: paths one after another, in order, from whatever row."""

import itertools
import unittest

import roompaths.paths
from roompaths.paths import next_path
from tests import helper
from tests.helper import compare, judged, walked


class NextCase(unittest.TestCase):
    def check(self, room, s, e, most):
        """That each path is told once, in order, and none is missing."""
        found = walked(room, s, e, most)
        self.assertEqual(found, judged(room, s, e, most), (room, s, e, most))
        return found

    def check_rows(self, room, s, e, most, found, rows):
        """Whatever row is handed over, the first of the found paths that's behind it is told."""
        for row in rows:
            behind = [path for path in found if not row or compare(path, row) > 0]
            expected = [0] + behind[0] if behind else [-2]
            self.assertEqual(next_path(*s, *e, most, room, row), expected, (room, s, e, most, row))


class Examples(NextCase):
    def test_a_box_from_its_middle(self):
        s = (5, 4, 3)
        expected = [[0], [36, 4], [36, 5], [64, 0], [64, 2], [100, 1], [100, 3]]
        self.assertEqual(walked(helper.BOX, s, s, 1), expected)
        self.assertEqual(walked(helper.BOX, s, s, 0), [[0]])
        # Two walls at an edge give no path from here, two against one another give two.
        opposite = [[144, 4, 5], [144, 5, 4], [256, 0, 2], [256, 2, 0], [400, 1, 3], [400, 3, 1]]
        self.assertEqual(walked(helper.BOX, s, s, 2), expected + opposite)

    def test_step_by_step(self):
        s, e = (2, 2, 2), (8, 6, 3)
        rows = [[], [53], [77, 4], [101, 0], [101, 2], [101, 5], [117, 1], [117, 3]]
        for row, path in zip(rows, rows[1:]):
            self.assertEqual(next_path(*s, *e, 1, helper.BOX, row), [0] + path)
        self.assertEqual(next_path(*s, *e, 1, helper.BOX, rows[-1]), [-2])
        self.assertEqual(next_path(*s, *e, 2, helper.BOX, [53]), [0, 77, 4])
        self.assertEqual(next_path(*s, *e, 0, helper.BOX, [53]), [-2])

    def test_of_one_length_the_fewer_turns_first(self):
        s, e = (9, 5, 7), (9, 9, 3)
        found = walked(helper.ARROW, s, e, 2)
        self.assertEqual([path for path in found if path[0] == 116], [[116, 3], [116, 5], [116, 1, 2]])
        self.assertEqual([path for path in found if path[0] == 152], [[152, 2, 3], [152, 2, 5]])
        self.assertEqual([path for path in found if path[0] == 164], [[164, 1, 3], [164, 2, 1]])

    def test_of_one_length_by_walls_as_numbers(self):
        s = (6, 6, 5)
        expected = [[0], [100, 8], [100, 9], [128, 1], [128, 3], [128, 5], [128, 7],
                    [144, 0], [144, 2], [144, 4], [144, 6]]
        self.assertEqual(walked(helper.OCTAGON, s, s, 1), expected)
        # As texts, 11 would come ahead of 7.
        stairs = helper.room_of([(4 * x, 4 * y) for x, y in helper.staircase_corners(12)], height=40)
        found = walked(stairs, (4, 14, 20), (4, 14, 20), 1)
        self.assertEqual(found, [[0], [64, 7], [64, 11], [784, 0], [1600, 12], [1600, 13]])

    def test_no_path_without_a_turn(self):
        s, e = (2, 9, 1), (9, 2, 1)
        self.assertEqual(walked(helper.L_ROOM, s, e, 0), [])
        self.assertEqual(walked(helper.L_ROOM, s, e, 1), [])
        self.assertEqual(walked(helper.L_ROOM, s, e, 2), [[242, 5, 0]])


class EachOnceInOrder(NextCase):
    def test_most_0_to_2(self):
        numbers = helper.Numbers(21)
        for room in helper.ROOMS:
            paths = 0
            for s, e in helper.pairs(room, numbers, 5):
                for most in range(3):
                    paths += len(self.check(room, s, e, most))
            self.assertGreater(paths, 30)

    def test_most_3(self):
        numbers = helper.Numbers(22)
        for room in (helper.BOX, helper.L_ROOM, helper.TRIANGLE, helper.DIAMOND, helper.ARROW):
            for s, e in helper.pairs(room, numbers, 2):
                found = self.check(room, s, e, 3)
                self.assertIn(4, [len(path) for path in found])

    def test_most_4(self):
        for room, s, e in ((helper.BOX, (9, 4, 1), (8, 7, 4)), (helper.TRIANGLE, (10, 1, 2), (1, 4, 3)),
                           (helper.TRIANGLE, (2, 2, 2), (2, 2, 2)), (helper.ARROW, (9, 5, 7), (2, 8, 3))):
            found = self.check(room, s, e, 4)
            self.assertIn(5, [len(path) for path in found])

    def test_one_point(self):
        for room in helper.ROOMS:
            found = self.check(room, (3, 7, 3), (3, 7, 3), 2)
            self.assertEqual(found[0], [0])
            self.assertGreater(len(found), 3)

    def test_rooms_of_many_shapes(self):
        numbers = helper.Numbers(23)
        rooms = paths = 0
        while rooms < 25:
            room = helper.room_of([(2 * x, 2 * y) for x, y in helper.wandered(numbers)])
            if next_path(1, 1, 1, 1, 1, 1, 0, room, [])[0] == -5:
                continue
            rooms += 1
            for s, e in helper.pairs(room, numbers, 2):
                paths += len(self.check(room, s, e, 2))
        self.assertGreater(paths, 150)

    def test_with_more_turns_all_paths_stay(self):
        numbers = helper.Numbers(24)
        for room in helper.ROOMS:
            for s, e in helper.pairs(room, numbers, 2):
                fewer = []
                for most in range(4):
                    found = walked(room, s, e, most)
                    self.assertEqual([path for path in found if len(path) <= most], fewer)
                    fewer = found

    def test_the_other_way_round(self):
        numbers = helper.Numbers(25)
        for room in helper.ROOMS:
            for s, e in helper.pairs(room, numbers, 3):
                there = walked(room, s, e, 3)
                back = [path[:1] + path[:0:-1] for path in walked(room, e, s, 3)]
                self.assertEqual(sorted(there), sorted(back))

    def test_other_stuffs_change_nothing(self):
        numbers = helper.Numbers(26)
        for room in helper.ROOMS:
            other = helper.with_other_stuffs(room, numbers)
            for s, e in helper.pairs(room, numbers, 3):
                self.assertEqual(walked(room, s, e, 2), walked(other, s, e, 2))


class LargeRooms(NextCase):
    """As many walls and turns as are handed in, and paths that must be among those told."""

    def check_shots(self, room, most, numbers, count, reach):
        for s, e, walls, places, length in helper.shots(room, numbers, count, reach):
            if len(walls) > most:
                continue
            path = [length] + walls
            # A row that's a little ahead of the path.
            row = path[:-1] + [path[-1] - 1] if path[-1] > 0 else path[:-1]
            while compare(row, path) < 0:
                told = next_path(*s, *e, most, room, row)[1:]
                self.assertLess(compare(row, told), 0)
                row = told
            self.assertEqual(row, path)

    def test_four_turns_by_eleven_walls(self):
        corners = [(2, 0), (8, 0), (12, 4), (12, 10), (10, 12), (6, 8), (4, 10), (0, 10), (0, 2)]
        room = helper.room_of(corners, height=9)
        self.assertEqual(helper.count_walls(room), 11)
        self.check_shots(room, 4, helper.Numbers(31), 60, 20)

    def test_three_turns_by_twenty_seven_walls(self):
        stairs = helper.staircase_corners(24)
        room = helper.room_of([(0, 2), (2, 0)] + [(x + 1, y) for x, y in stairs[1:-1]] + [(0, stairs[-1][1])], 7)
        self.assertEqual(helper.count_walls(room), 27)
        self.check_shots(room, 3, helper.Numbers(32), 40, 15)

    def test_two_turns_by_sixty_six_walls(self):
        room = helper.room_of(helper.staircase_corners(64), height=30)
        self.check_shots(room, 2, helper.Numbers(33), 20, 40)
        self.check(room, (1, 1, 1), (12, 12, 12), 1)

    def test_the_largest_room(self):
        room = helper.room_of([(0, 0), (4095, 0), (4095, 4095), (0, 4095)], height=4095)
        found = self.check(room, (1, 4094, 1), (4094, 4093, 2), 2)
        self.assertEqual(found[0], [16752651])
        self.assertGreater(found[-1][0], 8190 ** 2)


class WhateverRow(NextCase):
    ROOM, S, E = helper.ARROW, (9, 5, 7), (9, 9, 3)

    def setUp(self):
        self.found = judged(self.ROOM, self.S, self.E, 2)

    def check_these(self, rows):
        self.check_rows(self.ROOM, self.S, self.E, 2, self.found, rows)

    def test_a_length_alone(self):
        lengths = sorted({path[0] for path in self.found})
        self.check_these([[length] for length in lengths])
        self.check_these([[length - 1] for length in lengths] + [[length + 1] for length in lengths])
        self.assertEqual(next_path(*self.S, *self.E, 2, self.ROOM, [116]), [0, 116, 3])
        self.assertEqual(next_path(*self.S, *self.E, 2, self.ROOM, [115]), [0, 116, 3])
        self.assertEqual(next_path(*self.S, *self.E, 2, self.ROOM, [32]), [0, 52, 6])

    def test_below_the_first_and_above_the_last(self):
        first, last = self.found[0], self.found[-1]
        for row in ([0], [0, 0], [first[0] - 1], [first[0] - 1] + [99] * 39):
            self.assertEqual(next_path(*self.S, *self.E, 2, self.ROOM, row), [0] + first)
        for row in ([last[0] + 1], last, last + [0], [helper.LARGEST], [helper.LARGEST] * 40, [last[0] + 1, 0]):
            self.assertEqual(next_path(*self.S, *self.E, 2, self.ROOM, row), [-2])

    def test_a_path_itself(self):
        self.check_these(self.found)
        for path, behind in zip(self.found, self.found[1:]):
            self.assertEqual(next_path(*self.S, *self.E, 2, self.ROOM, path), [0] + behind)

    def test_a_length_with_other_walls(self):
        for length in sorted({path[0] for path in self.found}):
            for k in range(1, 3):
                for walls in itertools.product(range(0, 9, 2), repeat=k):
                    self.check_these([[length] + list(walls)])
        self.assertEqual(next_path(*self.S, *self.E, 2, self.ROOM, [116, 4]), [0, 116, 5])
        self.assertEqual(next_path(*self.S, *self.E, 2, self.ROOM, [116, 6]), [0, 116, 1, 2])
        self.assertEqual(next_path(*self.S, *self.E, 2, self.ROOM, [116, 1, 1]), [0, 116, 1, 2])
        self.assertEqual(next_path(*self.S, *self.E, 2, self.ROOM, [116, 0, 9]), [0, 116, 1, 2])
        self.assertEqual(next_path(*self.S, *self.E, 2, self.ROOM, [116, 1, 3]), [0, 136, 6, 3])

    def test_more_walls_than_most_or_than_four(self):
        for path in self.found:
            for many in (3, 4, 5, 6, 20, 38, 39):
                self.check_these([path[:1] + [wall] * many for wall in (0, 3, 6)])
            self.check_these([path + [0], path + [0, 0, 0]])
        self.assertEqual(next_path(*self.S, *self.E, 2, self.ROOM, [116] + [0] * 39), [0, 136, 6, 3])
        # The row has more walls than most, but a path of so many walls would not be behind it.
        self.assertEqual(next_path(*self.S, *self.E, 1, self.ROOM, [116, 1, 2]), [-2])
        self.assertEqual(next_path(*self.S, *self.E, 1, self.ROOM, [68, 1, 2]), [0, 116, 3])

    def test_more_walls_than_four_behind_paths_of_four(self):
        s, e = (10, 1, 2), (1, 4, 3)
        found = judged(helper.TRIANGLE, s, e, 4)
        lengths = sorted({path[0] for path in found if len(path) == 5})
        self.assertGreater(len(lengths), 3)
        for length in lengths:
            self.check_rows(helper.TRIANGLE, s, e, 4, found, [[length] + [0] * many for many in (3, 4, 5, 39)])

    def test_walls_that_the_room_does_not_have(self):
        for path in self.found:
            self.check_these([path[:1] + walls for walls in (
                [7], [99], [helper.LARGEST], [7, 0], [0, 7], [99, 99], [helper.LARGEST] * 2, [helper.LARGEST] * 39)])
        self.assertEqual(next_path(*self.S, *self.E, 2, self.ROOM, [116, 7]), [0, 116, 1, 2])
        self.assertEqual(next_path(*self.S, *self.E, 2, self.ROOM, [116, 1, 99]), [0, 136, 6, 3])
        self.assertEqual(next_path(*self.S, *self.E, 2, self.ROOM, [116, 0, 99]), [0, 116, 1, 2])

    def test_thrown_rows(self):
        numbers = helper.Numbers(41)
        for room in helper.ROOMS:
            for s, e in helper.pairs(room, numbers, 2):
                found = judged(room, s, e, 2)
                lengths = [path[0] for path in found] + [path[0] + 1 for path in found] + [0]
                for k in range(40):
                    row = [lengths[numbers.below(len(lengths))]]
                    row += [numbers.below(helper.count_walls(room) + 2) for _ in range(numbers.below(5))]
                    self.check_rows(room, s, e, 2, found, [row])


class Refused(unittest.TestCase):
    def test_no_path_at_all(self):
        for row in ([], [0], [1, 2, 3], [helper.LARGEST] * 40):
            self.assertEqual(next_path(2, 9, 1, 9, 2, 1, 0, helper.L_ROOM, row), [-2])
            self.assertEqual(next_path(2, 9, 1, 9, 2, 1, 1, helper.L_ROOM, row), [-2])
            self.assertEqual(next_path(2, 6, 3, 10, 6, 3, 0, helper.U_ROOM, row), [-2])

    def test_most(self):
        for most in (5, 6, 40, helper.LARGEST):
            for row in ([], [0], [1, 2, 3], [helper.LARGEST] * 40):
                self.assertEqual(next_path(2, 2, 2, 8, 6, 3, most, helper.BOX, row), [-1])
        for most in range(5):
            self.assertEqual(next_path(2, 2, 2, 8, 6, 3, most, helper.BOX, []), [0, 53])

    def test_not_inside(self):
        good = (3, 3, 3)
        outside = [(5, 0, 3), (10, 4, 3), (0, 0, 3), (5, 4, 0), (5, 4, 6), (5, 4, 7), (-1, 4, 3), (5, 9, 3),
                   (helper.LEAST, 4, 3), (5, helper.LARGEST, 3), (5, 4, helper.LEAST), (-8, 8, 3)]
        for bad in outside:
            for most, row in ((0, []), (2, [0, 1]), (4, [helper.LARGEST])):
                self.assertEqual(next_path(*good, *bad, most, helper.BOX, row), [-3], bad)
                self.assertEqual(next_path(*bad, *good, most, helper.BOX, row), [-3], bad)
                self.assertEqual(next_path(*bad, *bad, most, helper.BOX, row), [-3], bad)

    def test_a_row_is_never_refused(self):
        for row in ([0, 6], [0, helper.LARGEST], [0] * 6, [0] * 40, [52] + [99] * 39):
            self.assertEqual(next_path(2, 2, 2, 8, 6, 3, 1, helper.BOX, row), [0, 53])

    def test_the_order(self):
        faulty = helper.room_of(helper.BOX_CORNERS[::-1])
        self.assertEqual(next_path(3, 3, 3, 5, 5, 5, 1, faulty, []), [-5, 7, 0])
        self.assertEqual(next_path(-1, 3, 3, 5, 5, 5, 5, faulty, [helper.LARGEST]), [-5, 7, 0])
        self.assertEqual(next_path(-1, 3, 3, 5, 5, 5, helper.LARGEST, [], [helper.LARGEST]), [-5, 1, 0])
        self.assertEqual(next_path(-1, 3, 3, 5, 5, 5, 4, [6, 0, 0], []), [-5, 1, 0])
        self.assertEqual(next_path(-1, 3, 3, 5, 5, 5, 5, helper.BOX, [helper.LARGEST]), [-1])
        self.assertEqual(next_path(3, 3, 3, 5, 5, 50, 4, helper.BOX, [helper.LARGEST]), [-3])
        self.assertEqual(next_path(3, 3, 3, 5, 5, 5, 4, helper.BOX, [helper.LARGEST]), [-2])

    def test_every_fault_is_told(self):
        for at, value, expected in ((0, 0, [-5, 2, 0]), (5, 8, [-5, 3, 0]), (9, 9, [-5, 4, 1])):
            room = helper.BOX[:at] + [value] + helper.BOX[at + 1:]
            self.assertEqual(next_path(3, 3, 3, 5, 5, 5, 1, room, []), expected)
        self.assertEqual(
            next_path(1, 1, 1, 1, 1, 1, 1, helper.room_of([(0, 0), (5, 0), (10, 0), (10, 8), (0, 8)]), []), [-5, 5, 0])
        self.assertEqual(
            next_path(1, 1, 1, 1, 1, 1, 1, helper.room_of([(0, 0), (8, 8), (8, 0), (0, 8)]), []), [-5, 6, 0])


class Kept(unittest.TestCase):
    CALLS = (
        (2, 2, 2, 8, 6, 3, 2, helper.BOX, []),
        (2, 2, 2, 8, 6, 3, 2, helper.BOX, [117, 3]),
        (2, 2, 2, 8, 6, 3, 2, helper.BOX, [helper.LARGEST, 1]),
        (2, 2, 2, 8, 6, 33, 2, helper.BOX, []),
        (2, 2, 2, 8, 6, 3, 5, helper.BOX, []),
        (2, 2, 2, 8, 6, 3, 2, helper.BOX[:-1], []),
    )

    def test_one_list_of_whole_numbers(self):
        for call, size in zip(self.CALLS, (2, 4, 1, 1, 1, 3)):
            answer = next_path(*call)
            self.assertIs(type(answer), list)
            self.assertEqual({type(number) for number in answer}, {int})
            self.assertEqual(len(answer), size)

    def test_what_is_handed_in_stays(self):
        for call in self.CALLS:
            room, behind = list(call[7]), list(call[8])
            next_path(*call[:7], room, behind).append(1)
            self.assertEqual((room, behind), call[7:])

    def test_the_same_call_answers_the_same(self):
        first = [next_path(*call) for call in self.CALLS]
        for answer in [next_path(*call) for call in self.CALLS]:
            answer.append(0)
        again = [next_path(*call) for call in reversed(self.CALLS)]
        self.assertEqual(first, again[::-1])

    def test_arguments_by_their_names(self):
        answer = roompaths.paths.next_path(
            sx=2, sy=2, sz=2, ex=8, ey=6, ez=3, most=1, room=helper.BOX, behind=[53])
        self.assertEqual(answer, [0, 77, 4])


if __name__ == "__main__":
    unittest.main()
