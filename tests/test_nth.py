"""The call nth: path number i, and the document's promises over the whole program."""

import unittest

import roompaths.paths
from roompaths.paths import count, image, judge, next_path, nth, turns
from tests import helper
from tests.helper import compare, judged, walked
from tests.test_turns import TurnsCase

ELEVEN = helper.room_of([(2, 0), (8, 0), (12, 4), (12, 10), (10, 12), (6, 8), (4, 10), (0, 10), (0, 2)], height=9)
STAIRS = helper.room_of(helper.staircase_corners(24), height=7)
MANY = helper.room_of(helper.staircase_corners(64), height=30)


def listed(room, s, e, most):
    """The paths that nth tells, from number 0 on until there is none."""
    found = []
    while True:
        answer = nth(*s, *e, most, len(found), room)
        if answer == [-2]:
            return found
        assert answer[0] == 0 and len(answer) > 1, answer
        # So a path that is told again ends the walk too.
        assert not found or compare(found[-1], answer[1:]) < 0, (found[-1:], answer)
        found.append(answer[1:])


class NthCase(unittest.TestCase):
    def check(self, room, s, e, most):
        """That nth tells the paths that next_path tells, in that order, as many as count counts."""
        found = listed(room, s, e, most)
        self.assertEqual(found, walked(room, s, e, most), (room, s, e, most))
        self.assertEqual(count(*s, *e, most, helper.LARGEST, room), [0, len(found)], (room, s, e, most))
        for i in (len(found), len(found) + 1, 10 * len(found) + 5, helper.LARGEST - 1, helper.LARGEST):
            self.assertEqual(nth(*s, *e, most, i, room), [-2], (room, s, e, most, i))
        return found


class Examples(NthCase):
    def test_a_box(self):
        s, e = (2, 2, 2), (8, 6, 3)
        expected = [[53], [77, 4], [101, 0], [101, 2], [101, 5], [117, 1], [117, 3]]
        for i, path in enumerate(expected):
            self.assertEqual(nth(*s, *e, 1, i, helper.BOX), [0] + path)
        for i in (7, 8, 70, helper.LARGEST):
            self.assertEqual(nth(*s, *e, 1, i, helper.BOX), [-2])
        self.assertEqual(nth(*s, *e, 0, 0, helper.BOX), [0, 53])
        self.assertEqual(nth(*s, *e, 0, 1, helper.BOX), [-2])

    def test_a_box_from_its_middle(self):
        s = (5, 4, 3)
        expected = [[0], [36, 4], [36, 5], [64, 0], [64, 2], [100, 1], [100, 3], [144, 4, 5], [144, 5, 4],
                    [256, 0, 2], [256, 2, 0], [400, 1, 3], [400, 3, 1]]
        self.assertEqual(listed(helper.BOX, s, s, 2), expected)

    def test_of_one_length_the_fewer_turns_first(self):
        s, e = (9, 5, 7), (9, 9, 3)
        found = listed(helper.ARROW, s, e, 2)
        self.assertEqual([path for path in found if path[0] == 116], [[116, 3], [116, 5], [116, 1, 2]])
        self.assertEqual([path for path in found if path[0] == 152], [[152, 2, 3], [152, 2, 5]])
        self.assertEqual([path for path in found if path[0] == 164], [[164, 1, 3], [164, 2, 1]])

    def test_of_one_length_by_walls_as_numbers(self):
        s = (6, 6, 5)
        expected = [[0], [100, 8], [100, 9], [128, 1], [128, 3], [128, 5], [128, 7],
                    [144, 0], [144, 2], [144, 4], [144, 6]]
        self.assertEqual(listed(helper.OCTAGON, s, s, 1), expected)
        # As texts, 11 would come ahead of 7.
        stairs = helper.room_of([(4 * x, 4 * y) for x, y in helper.staircase_corners(12)], height=40)
        found = listed(stairs, (4, 14, 20), (4, 14, 20), 1)
        self.assertEqual(found, [[0], [64, 7], [64, 11], [784, 0], [1600, 12], [1600, 13]])

    def test_a_way_round_a_corner(self):
        s, e = (2, 9, 1), (9, 2, 1)
        self.assertEqual(nth(*s, *e, 2, 0, helper.L_ROOM), [0, 242, 5, 0])
        self.assertEqual(nth(*s, *e, 2, 1, helper.L_ROOM), [-2])
        self.assertEqual(nth(*s, *e, 1, 0, helper.L_ROOM), [-2])


class EachByItsNumber(NthCase):
    def test_most_0_to_3(self):
        numbers = helper.Numbers(71)
        for room in helper.ROOMS:
            for s, e in helper.pairs(room, numbers, 2):
                for most in range(3):
                    self.check(room, s, e, most)
            self.check(room, s, e, 3)

    def test_most_4(self):
        for room, s, e in ((helper.TRIANGLE, (10, 1, 2), (1, 4, 3)), (helper.L_ROOM, (2, 9, 1), (3, 2, 4)),
                           (helper.TRIANGLE, (2, 2, 2), (2, 2, 2))):
            found = self.check(room, s, e, 4)
            self.assertIn(5, [len(path) for path in found])

    def test_as_judge_finds_them(self):
        numbers = helper.Numbers(72)
        for room in helper.ROOMS:
            for s, e in helper.pairs(room, numbers, 2):
                self.assertEqual(listed(room, s, e, 2), judged(room, s, e, 2))
        for most in (3, 4):
            found = judged(helper.TRIANGLE, (3, 4, 1), (7, 2, 3), most)
            self.assertEqual(listed(helper.TRIANGLE, (3, 4, 1), (7, 2, 3), most), found)

    def test_rooms_of_many_shapes(self):
        numbers = helper.Numbers(73)
        rooms = 0
        while rooms < 20:
            room = helper.room_of([(2 * x, 2 * y) for x, y in helper.wandered(numbers)])
            if nth(1, 1, 1, 1, 1, 1, 0, 0, room)[0] == -5:
                continue
            rooms += 1
            for s, e in helper.pairs(room, numbers, 1):
                self.check(room, s, e, 2)

    def test_many_walls(self):
        for room, s, e, most in ((ELEVEN, (3, 3, 3), (10, 9, 2), 4), (STAIRS, (1, 1, 1), (3, 4, 5), 3),
                                 (MANY, (1, 1, 1), (12, 12, 12), 2)):
            found = walked(room, s, e, most)
            self.assertGreater(len(found), 10)
            for i in (0, 1, 2, len(found) // 3, len(found) // 2, len(found) - 2, len(found) - 1):
                self.assertEqual(nth(*s, *e, most, i, room), [0] + found[i])
            for i in (len(found), len(found) + 1, helper.LARGEST):
                self.assertEqual(nth(*s, *e, most, i, room), [-2])

    def test_the_largest_room(self):
        room = helper.room_of([(0, 0), (4095, 0), (4095, 4095), (0, 4095)], height=4095)
        found = self.check(room, (1, 4094, 1), (4094, 4093, 2), 2)
        self.assertEqual(found[0], [16752651])
        self.assertGreater(found[-1][0], 8190 ** 2)

    def test_one_point(self):
        for room in helper.ROOMS:
            for most in range(4):
                self.assertEqual(nth(3, 7, 3, 3, 7, 3, most, 0, room), [0, 0])
            self.assertGreater(nth(3, 7, 3, 3, 7, 3, 1, 1, room)[1], 0)
            self.assertEqual(nth(3, 7, 3, 3, 7, 3, 0, 1, room), [-2])


class Promises(TurnsCase):
    """Those of the document, over all of the calls."""

    def check_path(self, room, s, e, path):
        length, walls = path[0], path[1:]
        self.assertEqual(judge(*s, *e, room, walls), [1, length])
        self.assertEqual(judge(*e, *s, room, walls[::-1]), [1, length])
        self.assertEqual(helper.followed(room, s, e, walls), [1, length])
        seen = image(*s, room, walls)
        self.assertEqual(seen[0], 0)
        self.assertEqual(sum((a - b) ** 2 for a, b in zip(seen[1:], e)), length)
        # As many turns as walls, in their open walls; the legs clear, together as long as judge tells.
        self.check_laws(room, s, e, walls)

    def test_what_is_told_is_a_path(self):
        numbers = helper.Numbers(74)
        for room in helper.ROOMS:
            for s, e in helper.pairs(room, numbers, 1):
                for path in listed(room, s, e, 3):
                    self.check_path(room, s, e, path)
        for path in listed(helper.TRIANGLE, (10, 1, 2), (1, 4, 3), 4):
            self.check_path(helper.TRIANGLE, (10, 1, 2), (1, 4, 3), path)

    def test_what_sound_is_sent_off_is_told(self):
        numbers = helper.Numbers(75)
        for room in helper.ROOMS:
            for s, e, walls, places, length in helper.shots(room, numbers, 5, 15):
                if len(walls) <= 3:
                    ahead = count(*s, *e, 3, length - 1, room)[1]
                    behind = count(*s, *e, 3, length, room)[1]
                    same = [nth(*s, *e, 3, i, room) for i in range(ahead, behind)]
                    self.assertEqual(same.count([0, length] + walls), 1)
                    self.assertEqual({path[1] for path in same}, {length})

    def test_the_other_way_round(self):
        numbers = helper.Numbers(76)
        for room in helper.ROOMS:
            for s, e in helper.pairs(room, numbers, 2):
                there = listed(room, s, e, 2)
                back = [path[:1] + path[:0:-1] for path in listed(room, e, s, 2)]
                self.assertEqual(sorted(there), sorted(back))

    def test_with_more_turns_all_paths_stay(self):
        numbers = helper.Numbers(77)
        for room in helper.ROOMS:
            for s, e in helper.pairs(room, numbers, 1):
                fewer = []
                for most in range(4):
                    found = listed(room, s, e, most)
                    self.assertEqual([path for path in found if len(path) <= most], fewer)
                    fewer = found
        fewer = listed(helper.TRIANGLE, (10, 1, 2), (1, 4, 3), 3)
        found = listed(helper.TRIANGLE, (10, 1, 2), (1, 4, 3), 4)
        self.assertEqual([path for path in found if len(path) <= 4], fewer)
        self.assertGreater(len(found), len(fewer))

    def test_as_many_as_are_counted(self):
        numbers = helper.Numbers(78)
        for room in helper.ROOMS:
            for s, e in helper.pairs(room, numbers, 1):
                found = listed(room, s, e, 2)
                for within in [-1, 0, 50, 100, 200] + [path[0] + step for path in found for step in (-1, 0, 1)]:
                    expected = len([path for path in found if path[0] <= within])
                    self.assertEqual(count(*s, *e, 2, within, room), [0, expected])

    def test_other_stuffs_change_nothing(self):
        numbers = helper.Numbers(79)
        for room in helper.ROOMS:
            other = helper.with_other_stuffs(room, numbers)
            for s, e in helper.pairs(room, numbers, 1):
                found = listed(room, s, e, 2)
                self.assertEqual(found, listed(other, s, e, 2))
                self.assertEqual(found, walked(other, s, e, 2))
                for path in found:
                    walls = path[1:]
                    self.assertEqual(turns(*s, *e, room, walls), turns(*s, *e, other, walls))


class Refused(unittest.TestCase):
    def test_no_path_at_all(self):
        for i in (0, 1, helper.LARGEST):
            for most in (0, 1):
                self.assertEqual(nth(2, 9, 1, 9, 2, 1, most, i, helper.L_ROOM), [-2])
            self.assertEqual(nth(2, 6, 3, 10, 6, 3, 0, i, helper.U_ROOM), [-2])

    def test_most(self):
        for most in (5, 6, 40, helper.LARGEST):
            for i in (0, 1, helper.LARGEST):
                self.assertEqual(nth(2, 2, 2, 8, 6, 3, most, i, helper.BOX), [-1])
        for most in range(5):
            self.assertEqual(nth(2, 2, 2, 8, 6, 3, most, 0, helper.BOX), [0, 53])

    def test_not_inside(self):
        good = (3, 3, 3)
        outside = [(5, 0, 3), (10, 4, 3), (0, 0, 3), (5, 4, 0), (5, 4, 6), (5, 4, 7), (-1, 4, 3), (5, 9, 3),
                   (helper.LEAST, 4, 3), (5, helper.LARGEST, 3), (5, 4, helper.LEAST), (-8, 8, 3)]
        for bad in outside:
            for most, i in ((0, 0), (2, 3), (4, helper.LARGEST)):
                self.assertEqual(nth(*good, *bad, most, i, helper.BOX), [-3], bad)
                self.assertEqual(nth(*bad, *good, most, i, helper.BOX), [-3], bad)
                self.assertEqual(nth(*bad, *bad, most, i, helper.BOX), [-3], bad)
        # In the block that stands in the room's middle, and in its wall.
        self.assertEqual(nth(2, 2, 2, 6, 6, 2, 1, 0, helper.U_ROOM), [-3])
        self.assertEqual(nth(4, 6, 2, 2, 2, 2, 1, 0, helper.U_ROOM), [-3])

    def test_the_order(self):
        faulty = helper.room_of(helper.BOX_CORNERS[::-1])
        self.assertEqual(nth(3, 3, 3, 5, 5, 5, 1, 0, faulty), [-5, 7, 0])
        self.assertEqual(nth(-1, 3, 3, 5, 5, 5, 5, helper.LARGEST, faulty), [-5, 7, 0])
        self.assertEqual(nth(-1, 3, 3, 5, 5, 5, helper.LARGEST, helper.LARGEST, []), [-5, 1, 0])
        self.assertEqual(nth(-1, 3, 3, 5, 5, 5, 4, 10, [6, 0, 0]), [-5, 1, 0])
        self.assertEqual(nth(-1, 3, 3, 5, 5, 5, 5, helper.LARGEST, helper.BOX), [-1])
        self.assertEqual(nth(3, 3, 3, 5, 5, 50, 4, helper.LARGEST, helper.BOX), [-3])
        self.assertEqual(nth(3, 3, 3, 5, 5, 5, 4, helper.LARGEST, helper.BOX), [-2])

    def test_every_fault_is_told(self):
        for at, value, expected in ((0, 0, [-5, 2, 0]), (5, 8, [-5, 3, 0]), (9, 9, [-5, 4, 1])):
            room = helper.BOX[:at] + [value] + helper.BOX[at + 1:]
            self.assertEqual(nth(3, 3, 3, 5, 5, 5, 1, 0, room), expected)
        self.assertEqual(
            nth(1, 1, 1, 1, 1, 1, 1, 0, helper.room_of([(0, 0), (5, 0), (10, 0), (10, 8), (0, 8)])), [-5, 5, 0])
        self.assertEqual(
            nth(1, 1, 1, 1, 1, 1, 1, 0, helper.room_of([(0, 0), (8, 8), (8, 0), (0, 8)])), [-5, 6, 0])


class Kept(unittest.TestCase):
    CALLS = (
        (2, 2, 2, 8, 6, 3, 2, 0, helper.BOX),
        (2, 2, 2, 8, 6, 3, 2, 7, helper.BOX),
        (2, 2, 2, 8, 6, 3, 2, helper.LARGEST, helper.BOX),
        (2, 2, 2, 8, 6, 33, 2, 0, helper.BOX),
        (2, 2, 2, 8, 6, 3, 5, 0, helper.BOX),
        (2, 2, 2, 8, 6, 3, 2, 0, helper.BOX[:-1]),
    )

    def test_one_list_of_whole_numbers(self):
        for call, size in zip(self.CALLS, (2, 4, 1, 1, 1, 3)):
            answer = nth(*call)
            self.assertIs(type(answer), list)
            self.assertEqual({type(number) for number in answer}, {int})
            self.assertEqual(len(answer), size)

    def test_what_is_handed_in_stays(self):
        for call in self.CALLS:
            room = list(call[8])
            nth(*call[:8], room).append(1)
            self.assertEqual(room, call[8])

    def test_the_same_call_answers_the_same(self):
        first = [nth(*call) for call in self.CALLS]
        for answer in [nth(*call) for call in self.CALLS]:
            answer.append(0)
        again = [nth(*call) for call in reversed(self.CALLS)]
        self.assertEqual(first, again[::-1])

    def test_calls_of_other_functions_between_change_nothing(self):
        points = (2, 2, 2, 8, 6, 3)
        others = (
            lambda: image(2, 2, 2, helper.BOX, [0, 5]),
            lambda: judge(*points, helper.BOX, [0, 1]),
            lambda: turns(*points, helper.BOX, [0, 1]),
            lambda: next_path(*points, 2, helper.BOX, [53]),
            lambda: count(*points, 2, 101, helper.BOX),
            lambda: nth(2, 9, 1, 9, 2, 1, 2, 0, helper.L_ROOM),
            lambda: nth(2, 2, 2, 8, 6, 3, 2, 1, helper.BOX[:-1]),
        )
        first = [nth(*call) for call in self.CALLS]
        told = [other() for other in others]
        for other in others:
            other().append(0)
            self.assertEqual([nth(*call) for call in self.CALLS], first)
        self.assertEqual([other() for other in others], told)

    def test_arguments_by_their_names(self):
        answer = roompaths.paths.nth(
            sx=2, sy=2, sz=2, ex=8, ey=6, ez=3, most=1, i=1, room=helper.BOX)
        self.assertEqual(answer, [0, 77, 4])


if __name__ == "__main__":
    unittest.main()
