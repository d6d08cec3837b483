"""A room's faults: rules 1 to 7, told as -5, the rule and the wall."""

import unittest

from roompaths.paths import image
from tests import helper
from tests.helper import DIRECTIONS, room_of


def fault(room):
    """The room's fault as the call image tells it, (0, 0) for none."""
    answer = image(1, 1, 1, room, [])
    return tuple(answer[1:]) if answer[0] == -5 else (0, 0)


def changed(room, at, value):
    return room[:at] + [value] + room[at + 1:]


class RuleCase(unittest.TestCase):
    def check(self, room, rule, wall):
        self.assertEqual(image(1, 1, 1, room, []), [-5, rule, wall])

    def check_good(self, room):
        self.assertEqual(image(1, 1, 1, room, []), [0, 1, 1, 1])


class Rule1(RuleCase):
    def test_fewer_than_three_numbers(self):
        self.check([], 1, 0)
        self.check([6], 1, 0)
        self.check([6, 0], 1, 0)

    def test_no_corner(self):
        self.check([6, 0, 0], 1, 0)

    def test_not_three_numbers_a_corner(self):
        self.check(helper.BOX + [0], 1, 0)
        self.check(helper.BOX + [0, 0], 1, 0)
        self.check(helper.BOX[:-1], 1, 0)
        self.check(helper.BOX[:-2], 1, 0)

    def test_one_or_two_corners(self):
        self.check(room_of([(0, 0)]), 1, 0)
        self.check(room_of([(0, 0), (4, 0)]), 1, 0)

    def test_three_corners_are_enough(self):
        self.check_good(helper.TRIANGLE)

    def test_sixty_four_corners_are_not_too_many(self):
        self.check_good(room_of(helper.staircase_corners(64)))

    def test_sixty_five_corners(self):
        stairs = [(4 * x, 4 * y) for x, y in helper.staircase_corners(64)]
        cut = [(0, 1), (1, 0)] + stairs[1:]
        self.assertEqual(len(cut), 65)
        self.check(room_of(cut), 1, 0)
        self.check_good(room_of([(0, 1), (1, 0)] + [(4 * x, 4 * y) for x, y in helper.staircase_corners(62)[1:]]))

    def test_sixty_six_corners_and_three_hundred_numbers(self):
        self.check(room_of(helper.staircase_corners(66)), 1, 0)
        self.check([0] * 300, 1, 0)


class Rule2(RuleCase):
    def test_height(self):
        for height in (helper.LEAST, -1, 0, 4096, helper.LARGEST):
            self.check(changed(helper.BOX, 0, height), 2, 0)
        for height in (1, 2, 4094, 4095):
            self.check_good(changed(helper.BOX, 0, height))

    def test_stuffs_of_floor_and_ceiling(self):
        for at in (1, 2):
            for stuff in (helper.LEAST, -1, 8, helper.LARGEST):
                self.check(changed(helper.BOX, at, stuff), 2, 0)
            for stuff in range(8):
                self.check_good(changed(helper.BOX, at, stuff))


class Rule3(RuleCase):
    def test_each_number_of_each_corner(self):
        for i in range(4):
            for number in (0, 1):
                for value in (helper.LEAST, -1, 4096, helper.LARGEST):
                    self.check(changed(helper.BOX, 3 + 3 * i + number, value), 3, i)
            for value in (helper.LEAST, -1, 8, helper.LARGEST):
                self.check(changed(helper.BOX, 3 + 3 * i + 2, value), 3, i)
            for value in range(8):
                self.check_good(changed(helper.BOX, 3 + 3 * i + 2, value))

    def test_the_ends_of_x_and_y(self):
        self.check_good(room_of([(0, 0), (4095, 0), (4095, 4095), (0, 4095)], height=4095))
        self.check(room_of([(0, 0), (4096, 0), (4096, 4095), (0, 4095)]), 3, 1)
        self.check(room_of([(0, 0), (4095, 0), (4095, 4096), (0, 4096)]), 3, 2)
        self.check(room_of([(1, -1), (5, -1), (5, 3), (1, 3)]), 3, 0)
        self.check(room_of([(0, 1), (4, 1), (4, 3), (-1, 3)]), 3, 3)

    def test_the_first_corner_is_told(self):
        self.check(room_of([(0, 0), (10, 0), (10, 9999), (-1, 8)]), 3, 2)


class Rule4(RuleCase):
    def test_no_length(self):
        self.check(room_of([(0, 0), (0, 0), (10, 0), (10, 8), (0, 8)]), 4, 0)
        self.check(room_of([(0, 0), (10, 0), (10, 8), (10, 8), (0, 8)]), 4, 2)
        self.check(room_of([(0, 0), (10, 0), (10, 8), (0, 8), (0, 0)]), 4, 4)
        self.check(room_of([(3, 3), (3, 3), (3, 3)]), 4, 0)

    def test_none_of_the_eight_directions(self):
        self.check(room_of([(0, 0), (10, 1), (10, 8), (0, 8)]), 4, 0)
        self.check(room_of([(0, 0), (10, 0), (11, 8), (0, 8)]), 4, 1)
        self.check(room_of([(0, 0), (10, 0), (10, 8), (1, 9)]), 4, 2)
        self.check(room_of([(0, 0), (10, 0), (10, 8), (1, 8)]), 4, 3)
        self.check(room_of([(0, 0), (4095, 0), (0, 4094)]), 4, 1)

    def test_each_of_the_eight_directions(self):
        self.check_good(helper.OCTAGON)


class Rule5(RuleCase):
    def test_one_direction(self):
        self.check(room_of([(0, 0), (5, 0), (10, 0), (10, 8), (0, 8)]), 5, 0)
        self.check(room_of([(0, 0), (10, 0), (10, 8), (5, 8), (0, 8)]), 5, 2)
        self.check(room_of([(0, 0), (3, 3), (6, 6), (0, 6)]), 5, 0)
        self.check(room_of([(12, 0), (6, 6), (0, 12), (0, 0)]), 5, 0)

    def test_opposite_directions(self):
        self.check(room_of([(0, 0), (10, 0), (10, 8), (10, 4), (0, 4)]), 5, 1)
        self.check(room_of([(0, 0), (10, 0), (10, 8), (14, 12), (10, 8), (0, 8)]), 5, 2)

    def test_the_last_line_and_line_0(self):
        self.check(room_of([(5, 0), (10, 0), (10, 8), (0, 8), (0, 0)]), 5, 4)
        self.check(room_of([(3, 0), (10, 0), (10, 8), (8, 8), (8, 0)]), 5, 4)

    def test_the_first_line_is_told(self):
        self.check(room_of([(0, 0), (10, 0), (10, 4), (10, 8), (5, 8), (0, 8)]), 5, 1)


class Rule6(RuleCase):
    def test_lines_that_cross(self):
        self.check(room_of([(0, 0), (8, 8), (8, 0), (0, 8)]), 6, 0)
        self.check(room_of([(0, 0), (10, 0), (10, 8), (4, 8), (4, 4), (12, 4), (12, 9), (0, 9)]), 6, 1)

    def test_lines_that_cross_between_whole_numbers(self):
        self.check(room_of([(0, 0), (5, 5), (5, 0), (0, 5)]), 6, 0)

    def test_a_corner_on_a_line(self):
        self.check(room_of([(0, 0), (12, 0), (12, 8), (8, 8), (8, 0), (4, 4), (0, 4)]), 6, 0)
        self.check(room_of([(0, 0), (12, 0), (0, 12), (0, 6), (6, 6)]), 6, 1)
        self.check_good(room_of([(0, 0), (12, 0), (0, 12), (0, 5), (5, 5)]))

    def test_a_corner_on_a_corner(self):
        self.check(room_of([(0, 0), (4, 4), (8, 0), (8, 8), (4, 4), (0, 8)]), 6, 0)

    def test_lines_on_one_another(self):
        self.check(room_of([(0, 0), (10, 0), (10, 4), (6, 4), (6, 0), (3, 0), (3, 6), (0, 6)]), 6, 0)

    def test_lines_on_one_line_that_do_not_meet(self):
        self.check_good(helper.U_ROOM)

    def test_the_least_line_is_told(self):
        # Lines 2 and 5 cross.
        self.check(room_of([(0, 0), (12, 0), (12, 4), (4, 4), (4, 8), (8, 8), (8, 2), (0, 2)]), 6, 2)


class Rule7(RuleCase):
    def test_each_room_the_other_way_round(self):
        for corners in (helper.BOX_CORNERS, helper.OCTAGON_CORNERS, helper.L_CORNERS, helper.U_CORNERS,
                        helper.TRIANGLE_CORNERS, helper.DIAMOND_CORNERS, helper.ARROW_CORNERS):
            self.check_good(room_of(corners))
            self.check(room_of(corners[::-1]), 7, 0)


class FirstFault(RuleCase):
    def test_a_lower_rule_comes_first_whatever_its_wall(self):
        turned = room_of(helper.OCTAGON_CORNERS[::-1])
        self.check(turned, 7, 0)
        crossed = room_of([(0, 0), (0, 8), (8, 0), (8, 8)])
        self.check(crossed, 6, 1)
        straight = room_of([(0, 0), (8, 8), (8, 0), (4, 0), (0, 0), (0, 8)])
        self.check(straight, 5, 2)
        slanted = straight + [1, 7, 0]
        self.check(slanted, 4, 6)
        outside = slanted + [4096, 0, 0]
        self.check(outside, 3, 7)
        high = changed(outside, 0, 4096)
        self.check(high, 2, 0)
        self.check(high + [0], 1, 0)


def half_points(a, b):
    """Every point of the line from a to b whose x and y are whole or a half, times two."""
    steps = 2 * max(abs(b[0] - a[0]), abs(b[1] - a[1]))
    return {(2 * a[0] + (b[0] - a[0]) * 2 * k // steps, 2 * a[1] + (b[1] - a[1]) * 2 * k // steps)
            for k in range(steps + 1)}


def told_fault(corners):
    """Rules 4 to 7 of corners in reach, found another way: lines in eight directions
    that meet at all meet at a point of halves."""
    n = len(corners)
    ways = []
    for i in range(n):
        dx = corners[(i + 1) % n][0] - corners[i][0]
        dy = corners[(i + 1) % n][1] - corners[i][1]
        longer = max(abs(dx), abs(dy), 1)
        ways.append((dx / longer, dy / longer))
    for i in range(n):
        if ways[i] not in DIRECTIONS:
            return (4, i)
    for i in range(n):
        if abs(DIRECTIONS.index(ways[i]) - DIRECTIONS.index(ways[(i + 1) % n])) in (0, 4):
            return (5, i)
    points = [half_points(corners[i], corners[(i + 1) % n]) for i in range(n)]
    for i in range(n):
        others = [j for j in range(n) if j not in ((i - 1) % n, i, (i + 1) % n)]
        if any(points[i] & points[j] for j in others):
            return (6, i)
    # At the lowest corner, of those the leftmost, a room to the left turns left.
    low = min(range(n), key=lambda i: (corners[i][1], corners[i][0]))
    come, go = ways[low - 1], ways[low]
    return (7, 0) if come[0] * go[1] - come[1] * go[0] < 0 else (0, 0)


class AgainstAnotherWay(unittest.TestCase):
    def check(self, corners, seen):
        found = fault(room_of(corners))
        seen[found[0]] = seen.get(found[0], 0) + 1
        self.assertEqual(found, told_fault(corners), corners)

    def test_all_rooms_of_three_corners_on_a_small_grid(self):
        seen = {}
        for code in range(9 ** 3):
            self.check([(code // 9 ** k % 9 // 3, code // 9 ** k % 3) for k in range(3)], seen)
        self.assertEqual(sorted(seen), [0, 4, 5, 7])

    def test_all_rooms_of_four_corners_on_a_small_grid(self):
        seen = {}
        for code in range(9 ** 4):
            self.check([(code // 9 ** k % 9 // 3, code // 9 ** k % 3) for k in range(4)], seen)
        self.assertEqual(sorted(seen), [0, 4, 5, 6, 7])

    def test_many_rooms_of_more_corners(self):
        numbers = helper.Numbers(7)
        seen = {}
        for _ in range(20000):
            self.check(helper.wandered(numbers), seen)
        self.assertEqual(sorted(seen), [0, 4, 5, 6, 7])
        self.assertGreater(seen[0], 50)
        self.assertGreater(seen[7], 50)


if __name__ == "__main__":
    unittest.main()
