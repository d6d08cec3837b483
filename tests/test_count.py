"""The call count: how many paths aren't longer than told."""

import itertools
import unittest

import roompaths.paths
from roompaths.paths import count, judge, next_path
from tests import helper
from tests.helper import judged, walked


def withins(found):
    """Each length squared of these paths, one below it, one above it, what's between two, and the ends."""
    lengths = sorted({path[0] for path in found})
    between = [(a + b) // 2 for a, b in zip(lengths, lengths[1:])]
    near = [length + step for length in lengths for step in (-1, 0, 1)]
    return sorted(set(near + between + [helper.LEAST, -1, 0, 1, helper.LARGEST]))


def told_until(room, s, e, most, within):
    """How many paths next_path tells, from an empty row on, until the first that's longer."""
    row, told = [], 0
    while True:
        answer = next_path(*s, *e, most, room, row)
        if answer == [-2] or answer[1] > within:
            return told
        row, told = answer[1:], told + 1


class CountCase(unittest.TestCase):
    def check(self, room, s, e, most, found):
        """That of the found paths, which are all, just those count that aren't above within."""
        for within in withins(found):
            expected = len([path for path in found if path[0] <= within])
            self.assertEqual(count(*s, *e, most, within, room), [0, expected], (room, s, e, most, within))


class Examples(CountCase):
    def test_a_box(self):
        s, e = (2, 2, 2), (8, 6, 3)
        # The lengths squared of at most one turn: 53, 77, 101 three times, 117 twice.
        for within, expected in ((52, 0), (53, 1), (54, 1), (76, 1), (77, 2), (78, 2), (100, 2), (101, 5), (102, 5),
                                 (116, 5), (117, 7), (118, 7), (helper.LARGEST, 7)):
            self.assertEqual(count(*s, *e, 1, within, helper.BOX), [0, expected], within)
        for within, expected in ((52, 0), (53, 1), (helper.LARGEST, 1)):
            self.assertEqual(count(*s, *e, 0, within, helper.BOX), [0, expected], within)

    def test_a_box_from_its_middle(self):
        s = (5, 4, 3)
        for within, expected in ((0, 1), (35, 1), (36, 3), (64, 5), (99, 5), (100, 7), (143, 7), (144, 9), (255, 9),
                                 (256, 11), (400, 13), (401, 13)):
            self.assertEqual(count(*s, *s, 2, within, helper.BOX), [0, expected], within)

    def test_a_way_round_a_corner(self):
        s, e = (2, 9, 1), (9, 2, 1)
        for most, within, expected in ((0, helper.LARGEST, 0), (1, helper.LARGEST, 0), (2, 241, 0), (2, 242, 1),
                                       (2, helper.LARGEST, 1)):
            self.assertEqual(count(*s, *e, most, within, helper.L_ROOM), [0, expected], (most, within))

    def test_of_one_length_all_or_none(self):
        s, e = (9, 5, 7), (9, 9, 3)
        found = judged(helper.ARROW, s, e, 2)
        for length, same in ((116, [[3], [5], [1, 2]]), (152, [[2, 3], [2, 5]]), (164, [[1, 3], [2, 1]])):
            self.assertEqual([path[1:] for path in found if path[0] == length], same)
            shorter = count(*s, *e, 2, length - 1, helper.ARROW)[1]
            self.assertEqual(count(*s, *e, 2, length, helper.ARROW), [0, shorter + len(same)])
            self.assertEqual(count(*s, *e, 2, length + 1, helper.ARROW), [0, shorter + len(same)])


class Within(CountCase):
    def test_below_0(self):
        numbers = helper.Numbers(51)
        for room in helper.ROOMS:
            for s, e in helper.pairs(room, numbers, 2):
                for within in (-1, -2, -100, helper.LEAST):
                    self.assertEqual(count(*s, *e, 2, within, room), [0, 0])
                    self.assertEqual(count(*s, *s, 2, within, room), [0, 0])

    def test_0(self):
        for room in helper.ROOMS:
            for most in range(4):
                self.assertEqual(count(3, 7, 3, 3, 7, 3, most, 0, room), [0, 1])
                self.assertEqual(count(3, 7, 3, 3, 7, 2, most, 0, room), [0, 0])
                self.assertEqual(count(3, 7, 3, 3, 7, 2, most, 1, room), [0, 1])

    def test_the_largest(self):
        numbers = helper.Numbers(52)
        for room in helper.ROOMS:
            for s, e in helper.pairs(room, numbers, 2):
                found = walked(room, s, e, 3)
                for within in (found[-1][0], found[-1][0] + 1, helper.LARGEST - 1, helper.LARGEST):
                    self.assertEqual(count(*s, *e, 3, within, room), [0, len(found)])

    def test_never_fewer(self):
        numbers = helper.Numbers(53)
        for room in helper.ROOMS:
            for s, e in helper.pairs(room, numbers, 1):
                table = [[count(*s, *e, most, within, room)[1] for within in range(-50, 1000, 75)]
                         for most in range(4)]
                for row in table:
                    self.assertEqual(row, sorted(row))
                for column in zip(*table):
                    self.assertEqual(list(column), sorted(column))
                self.assertGreater(table[3][-1], table[0][-1])


class AsManyAsJudged(CountCase):
    def test_most_0_to_2(self):
        numbers = helper.Numbers(54)
        for room in helper.ROOMS:
            for s, e in helper.pairs(room, numbers, 2):
                for most in range(3):
                    self.check(room, s, e, most, judged(room, s, e, most))

    def test_most_3(self):
        for room, s, e in ((helper.L_ROOM, (2, 9, 1), (3, 2, 4)), (helper.DIAMOND, (3, 5, 2), (8, 7, 5)),
                           (helper.ARROW, (9, 5, 7), (2, 8, 3))):
            found = judged(room, s, e, 3)
            self.assertIn(4, [len(path) for path in found])
            self.check(room, s, e, 3, found)

    def test_most_4(self):
        for room, s, e in ((helper.TRIANGLE, (10, 1, 2), (1, 4, 3)), (helper.TRIANGLE, (2, 2, 2), (2, 2, 2)),
                           (helper.BOX, (9, 4, 1), (8, 7, 4))):
            found = judged(room, s, e, 4)
            self.assertIn(5, [len(path) for path in found])
            self.check(room, s, e, 4, found)

    def test_rooms_of_many_shapes(self):
        numbers = helper.Numbers(55)
        rooms = 0
        while rooms < 20:
            room = helper.room_of([(2 * x, 2 * y) for x, y in helper.wandered(numbers)])
            if count(1, 1, 1, 1, 1, 1, 0, 0, room)[0] == -5:
                continue
            rooms += 1
            for s, e in helper.pairs(room, numbers, 1):
                self.check(room, s, e, 2, judged(room, s, e, 2))

    def test_sixty_six_walls(self):
        room = helper.room_of(helper.staircase_corners(64), height=30)
        self.check(room, (1, 1, 1), (12, 12, 12), 1, judged(room, (1, 1, 1), (12, 12, 12), 1))

    def test_the_largest_room(self):
        room = helper.room_of([(0, 0), (4095, 0), (4095, 4095), (0, 4095)], height=4095)
        s, e = (1, 4094, 1), (4094, 4093, 2)
        self.check(room, s, e, 2, judged(room, s, e, 2))
        self.assertEqual(count(*s, *e, 2, 16752650, room), [0, 0])
        self.assertEqual(count(*s, *e, 2, 16752651, room), [0, 1])

    def test_as_the_sound_is_followed(self):
        numbers = helper.Numbers(56)
        for room in helper.ROOMS:
            for s, e in helper.pairs(room, numbers, 1):
                found = []
                for k in range(3):
                    for walls in itertools.product(range(helper.count_walls(room)), repeat=k):
                        path = helper.follow(room, s, e, list(walls))
                        if path is not None:
                            found.append([path[0]] + list(walls))
                self.check(room, s, e, 2, found)


class AsManyAsTold(CountCase):
    def test_until_the_first_that_is_longer(self):
        numbers = helper.Numbers(57)
        for room in helper.ROOMS:
            for s, e in helper.pairs(room, numbers, 1):
                for most in range(4):
                    for within in (-1, 0, 30, 100, 101, 250, 400):
                        expected = told_until(room, s, e, most, within)
                        self.assertEqual(count(*s, *e, most, within, room), [0, expected], (room, s, e, most, within))

    def test_until_there_is_none(self):
        eleven = helper.room_of(
            [(2, 0), (8, 0), (12, 4), (12, 10), (10, 12), (6, 8), (4, 10), (0, 10), (0, 2)], height=9)
        stairs = helper.room_of(helper.staircase_corners(24), height=7)
        many = helper.room_of(helper.staircase_corners(64), height=30)
        for room, s, e, most in ((helper.TRIANGLE, (10, 1, 2), (1, 4, 3), 4), (helper.ARROW, (9, 5, 7), (2, 8, 3), 4),
                                 (eleven, (3, 3, 3), (10, 9, 2), 4), (stairs, (1, 1, 1), (3, 4, 5), 3),
                                 (many, (1, 1, 1), (12, 12, 12), 2)):
            found = walked(room, s, e, most)
            self.assertGreater(len(found), 10)
            self.assertEqual(count(*s, *e, most, helper.LARGEST, room), [0, len(found)])
            half = found[len(found) // 2][0]
            expected = len([path for path in found if path[0] <= half])
            self.assertEqual(count(*s, *e, most, half, room), [0, expected])

    def test_the_other_way_round(self):
        numbers = helper.Numbers(58)
        for room in helper.ROOMS:
            for s, e in helper.pairs(room, numbers, 3):
                for within in (50, 100, 200, 300, helper.LARGEST):
                    self.assertEqual(count(*s, *e, 3, within, room), count(*e, *s, 3, within, room))

    def test_other_stuffs_change_nothing(self):
        numbers = helper.Numbers(59)
        for room in helper.ROOMS:
            other = helper.with_other_stuffs(room, numbers)
            for s, e in helper.pairs(room, numbers, 3):
                for within in (50, 100, 200, 300, helper.LARGEST):
                    self.assertEqual(count(*s, *e, 2, within, room), count(*s, *e, 2, within, other))

    def test_with_more_turns_all_paths_stay(self):
        numbers = helper.Numbers(60)
        for room in (helper.BOX, helper.L_ROOM, helper.TRIANGLE, helper.DIAMOND, helper.ARROW):
            for s, e in helper.pairs(room, numbers, 1):
                found = walked(room, s, e, 4)
                for most in range(5):
                    kept = [path for path in found if len(path) <= most + 1]
                    for within in (100, 200, 300, helper.LARGEST):
                        expected = len([path for path in kept if path[0] <= within])
                        self.assertEqual(count(*s, *e, most, within, room), [0, expected])

    def test_a_path_that_judge_finds_counts(self):
        numbers = helper.Numbers(61)
        for room in helper.ROOMS:
            for s, e, walls, places, length in helper.shots(room, numbers, 5, 15):
                if len(walls) <= 3:
                    self.assertEqual(judge(*s, *e, room, walls), [1, length])
                    before = count(*s, *e, 3, length - 1, room)[1]
                    self.assertGreater(count(*s, *e, 3, length, room)[1], before)


class Refused(unittest.TestCase):
    def test_no_path_is_no_refusal(self):
        for within in (helper.LEAST, -1, 0, 1, 1000, helper.LARGEST):
            for most in (0, 1):
                self.assertEqual(count(2, 9, 1, 9, 2, 1, most, within, helper.L_ROOM), [0, 0])
            self.assertEqual(count(2, 6, 3, 10, 6, 3, 0, within, helper.U_ROOM), [0, 0])

    def test_most(self):
        for most in (5, 6, 40, helper.LARGEST):
            for within in (helper.LEAST, 0, helper.LARGEST):
                self.assertEqual(count(2, 2, 2, 8, 6, 3, most, within, helper.BOX), [-1])
        for most in range(5):
            self.assertEqual(count(2, 2, 2, 8, 6, 3, most, 53, helper.BOX), [0, 1])

    def test_not_inside(self):
        good = (3, 3, 3)
        outside = [(5, 0, 3), (10, 4, 3), (0, 0, 3), (5, 4, 0), (5, 4, 6), (5, 4, 7), (-1, 4, 3), (5, 9, 3),
                   (helper.LEAST, 4, 3), (5, helper.LARGEST, 3), (5, 4, helper.LEAST), (-8, 8, 3)]
        for bad in outside:
            for most, within in ((0, 0), (2, helper.LEAST), (4, helper.LARGEST)):
                self.assertEqual(count(*good, *bad, most, within, helper.BOX), [-3], bad)
                self.assertEqual(count(*bad, *good, most, within, helper.BOX), [-3], bad)
                self.assertEqual(count(*bad, *bad, most, within, helper.BOX), [-3], bad)
        # In the block that stands in the room's middle, and in its wall.
        self.assertEqual(count(2, 2, 2, 6, 6, 2, 1, 100, helper.U_ROOM), [-3])
        self.assertEqual(count(4, 6, 2, 2, 2, 2, 1, 100, helper.U_ROOM), [-3])

    def test_the_order(self):
        faulty = helper.room_of(helper.BOX_CORNERS[::-1])
        self.assertEqual(count(3, 3, 3, 5, 5, 5, 1, 0, faulty), [-5, 7, 0])
        self.assertEqual(count(-1, 3, 3, 5, 5, 5, 5, -1, faulty), [-5, 7, 0])
        self.assertEqual(count(-1, 3, 3, 5, 5, 5, helper.LARGEST, helper.LEAST, []), [-5, 1, 0])
        self.assertEqual(count(-1, 3, 3, 5, 5, 5, 4, 10, [6, 0, 0]), [-5, 1, 0])
        self.assertEqual(count(-1, 3, 3, 5, 5, 5, 5, helper.LEAST, helper.BOX), [-1])
        self.assertEqual(count(3, 3, 3, 5, 5, 50, 4, helper.LEAST, helper.BOX), [-3])
        self.assertEqual(count(3, 3, 3, 5, 5, 5, 4, helper.LEAST, helper.BOX), [0, 0])

    def test_every_fault_is_told(self):
        for at, value, expected in ((0, 0, [-5, 2, 0]), (5, 8, [-5, 3, 0]), (9, 9, [-5, 4, 1])):
            room = helper.BOX[:at] + [value] + helper.BOX[at + 1:]
            self.assertEqual(count(3, 3, 3, 5, 5, 5, 1, 100, room), expected)
        self.assertEqual(
            count(1, 1, 1, 1, 1, 1, 1, 9, helper.room_of([(0, 0), (5, 0), (10, 0), (10, 8), (0, 8)])), [-5, 5, 0])
        self.assertEqual(
            count(1, 1, 1, 1, 1, 1, 1, 9, helper.room_of([(0, 0), (8, 8), (8, 0), (0, 8)])), [-5, 6, 0])


class Kept(unittest.TestCase):
    CALLS = (
        (2, 2, 2, 8, 6, 3, 2, 117, helper.BOX),
        (2, 2, 2, 8, 6, 3, 2, -1, helper.BOX),
        (2, 9, 1, 9, 2, 1, 0, helper.LARGEST, helper.L_ROOM),
        (2, 2, 2, 8, 6, 33, 2, 100, helper.BOX),
        (2, 2, 2, 8, 6, 3, 5, 100, helper.BOX),
        (2, 2, 2, 8, 6, 3, 2, 100, helper.BOX[:-1]),
    )

    def test_one_list_of_whole_numbers(self):
        for call, size in zip(self.CALLS, (2, 2, 2, 1, 1, 3)):
            answer = count(*call)
            self.assertIs(type(answer), list)
            self.assertEqual({type(number) for number in answer}, {int})
            self.assertEqual(len(answer), size)

    def test_what_is_handed_in_stays(self):
        for call in self.CALLS:
            room = list(call[8])
            count(*call[:8], room).append(1)
            self.assertEqual(room, call[8])

    def test_the_same_call_answers_the_same(self):
        first = [count(*call) for call in self.CALLS]
        for answer in [count(*call) for call in self.CALLS]:
            answer.append(0)
        again = [count(*call) for call in reversed(self.CALLS)]
        self.assertEqual(first, again[::-1])

    def test_arguments_by_their_names(self):
        answer = roompaths.paths.count(
            sx=2, sy=2, sz=2, ex=8, ey=6, ez=3, most=1, within=101, room=helper.BOX)
        self.assertEqual(answer, [0, 5])


if __name__ == "__main__":
    unittest.main()
