"""The call turns: where a path turns, as fractions without a common divisor."""

import itertools
import math
import unittest
from fractions import Fraction

import roompaths.paths
from roompaths.paths import judge, turns
from tests import helper


def fours(answer):
    return [answer[at:at + 4] for at in range(1, len(answer), 4)]


def places_of(answer):
    return [tuple(Fraction(number, four[3]) for number in four[:3]) for four in fours(answer)]


def told(places):
    """What turns answers of a path with these turns, found without a look at divisors of its own."""
    answer = [0]
    for place in places:
        over = math.lcm(*(Fraction(number).denominator for number in place))
        answer += [int(number * over) for number in place] + [over]
    return answer


def square(p, q):
    return sum((a - b) ** 2 for a, b in zip(p, q))


def exact_root(number):
    """The root of a fraction whose root is a fraction."""
    root = Fraction(math.isqrt(number.numerator), math.isqrt(number.denominator))
    assert root * root == number
    return root


class TurnsCase(unittest.TestCase):
    def check(self, room, s, e, walls, expected):
        self.assertEqual(turns(*s, *e, room, walls), expected)
        self.check_laws(room, s, e, walls)

    def check_none(self, room, s, e, walls):
        self.assertEqual(judge(*s, *e, room, walls), [0])
        self.assertEqual(turns(*s, *e, room, walls), [-4])
        self.assertEqual(turns(*e, *s, room, walls[::-1]), [-4])

    def check_laws(self, room, s, e, walls):
        """All that the document says of the turns told, and of the path the other way round."""
        where = (room, s, e, walls)
        answer = turns(*s, *e, room, walls)
        self.check_form(answer, walls, where)
        places = places_of(answer)
        for wall, place in zip(walls, places):
            self.assertTrue(helper.is_in_open_wall(room, wall, place), where)
            if wall >= helper.count_walls(room) - 2:
                self.assertTrue(helper.is_within(room, place[0], place[1]), where)
        stops = [s] + places + [e]
        for p, q in zip(stops, stops[1:]):
            self.check_clear(room, p, q)
        for wall, (before, place, behind) in zip(walls, zip(stops, stops[1:], stops[2:])):
            self.check_between(helper.mirrored(room, wall, before), place, behind)
        self.check_length(stops, judge(*s, *e, room, walls))
        back = fours(turns(*e, *s, room, walls[::-1]))
        self.assertEqual(back, fours(answer)[::-1], where)

    def check_form(self, answer, walls, where):
        self.assertEqual(len(answer), 1 + 4 * len(walls), where)
        self.assertEqual(answer[0], 0, where)
        for four in fours(answer):
            self.assertGreaterEqual(four[3], 1, where)
            self.assertEqual(math.gcd(*four), 1, where)

    def check_clear(self, room, p, q):
        touch = helper.first_touch(room, p, tuple(b - a for a, b in zip(p, q))) if p != q else None
        self.assertTrue(touch is None or touch >= 1, (room, p, q))
        middle = [Fraction(a + b) / 2 for a, b in zip(p, q)]
        self.assertTrue(0 < middle[2] < room[0], (room, p, q))
        self.assertTrue(helper.is_within(room, middle[0], middle[1]), (room, p, q))

    def check_between(self, p, place, q):
        share = exact_root(Fraction(square(p, place)) / square(p, q))
        self.assertTrue(0 < share < 1)
        self.assertEqual(tuple(a + share * (b - a) for a, b in zip(p, q)), place)

    def check_length(self, stops, judged):
        """The legs are parts of the length; together they must be all of it."""
        self.assertEqual([len(judged), judged[0]], [2, 1])
        legs = [square(p, q) for p, q in zip(stops, stops[1:])]
        if judged[1] == 0:
            self.assertEqual(legs, [0])
        else:
            self.assertEqual(sum(exact_root(Fraction(leg) / judged[1]) for leg in legs), 1)


class NoWall(TurnsCase):
    def test_clear(self):
        self.check(helper.BOX, (1, 1, 1), (9, 7, 5), [], [0])
        self.check(helper.L_ROOM, (2, 5, 1), (6, 2, 1), [], [0])
        self.check(helper.ARROW, (2, 7, 3), (10, 7, 3), [], [0])

    def test_one_point(self):
        for room in helper.ROOMS:
            self.check(room, (3, 7, 3), (3, 7, 3), [], [0])

    def test_not_clear(self):
        self.check_none(helper.L_ROOM, (2, 9, 1), (9, 2, 1), [])
        self.check_none(helper.L_ROOM, (2, 6, 1), (6, 2, 4), [])
        self.check_none(helper.U_ROOM, (2, 4, 3), (10, 4, 3), [])
        self.check_none(helper.ARROW, (2, 6, 1), (10, 6, 1), [])


class OneWall(TurnsCase):
    def test_each_of_the_eight_directions(self):
        middle = (6, 6, 5)
        feet = ((6, 0), (10, 2), (12, 6), (10, 10), (6, 12), (2, 10), (0, 6), (2, 2))
        for wall, (x, y) in enumerate(feet):
            self.check(helper.OCTAGON, middle, middle, [wall], [0, x, y, 5, 1])

    def test_floor_and_ceiling(self):
        self.check(helper.BOX, (2, 2, 2), (2, 2, 2), [4], [0, 2, 2, 0, 1])
        self.check(helper.BOX, (2, 2, 2), (2, 2, 2), [5], [0, 2, 2, 6, 1])
        self.check(helper.BOX, (1, 1, 1), (4, 3, 5), [4], [0, 9, 8, 0, 6])
        self.check(helper.BOX, (1, 1, 1), (4, 3, 5), [5], [0, 21, 16, 36, 6])

    def test_whole_places(self):
        self.check(helper.BOX, (2, 2, 2), (8, 2, 4), [0], [0, 5, 0, 3, 1])
        self.check(helper.BOX, (2, 2, 2), (8, 2, 4), [2], [0, 5, 8, 3, 1])

    def test_places_that_are_not_whole(self):
        # Halves and quarters, then fifths.
        self.check(helper.BOX, (2, 2, 2), (8, 6, 3), [0], [0, 14, 0, 9, 4])
        self.check(helper.BOX, (1, 1, 1), (7, 3, 2), [1], [0, 40, 10, 7, 4])
        self.check(helper.BOX, (1, 2, 1), (4, 3, 5), [0], [0, 11, 0, 13, 5])

    def test_a_place_with_numbers_that_are_0(self):
        self.check(helper.BOX, (2, 3, 4), (2, 3, 4), [3], [0, 0, 3, 4, 1])
        self.check(helper.BOX, (2, 3, 4), (3, 4, 5), [3], [0, 0, 17, 22, 5])
        moved = helper.room_of([(4, 0), (8, 4), (4, 8), (0, 4)], height=8)
        self.check(moved, (4, 4, 1), (4, 4, 1), [4], [0, 4, 4, 0, 1])

    def test_none(self):
        self.check_none(helper.OCTAGON, (3, 5, 5), (5, 5, 5), [0])
        self.check_none(helper.L_ROOM, (2, 6, 1), (8, 2, 1), [2])
        self.check_none(helper.U_ROOM, (2, 6, 1), (10, 6, 1), [4])
        self.check_none(helper.U_ROOM, (2, 6, 1), (10, 6, 1), [8])
        self.check_none(helper.U_ROOM, (3, 7, 3), (9, 7, 3), [0])


class MoreWalls(TurnsCase):
    def test_two_walls(self):
        self.check(helper.BOX, (2, 2, 2), (8, 6, 3), [0, 1], [0, 18, 0, 9, 4, 50, 22, 14, 5])
        self.check(helper.BOX, (5, 4, 3), (5, 4, 3), [5, 4], [0, 5, 4, 6, 1, 5, 4, 0, 1])
        self.check_none(helper.BOX, (2, 2, 2), (8, 6, 3), [1, 0])

    def test_three_walls(self):
        self.check(helper.BOX, (5, 4, 1), (5, 4, 5), [0, 2, 0], [0, 15, 0, 5, 3, 5, 8, 3, 1, 15, 0, 13, 3])
        self.check_none(helper.BOX, (2, 2, 2), (8, 5, 3), [4, 0, 1])

    def test_four_walls(self):
        self.check(helper.BOX, (5, 4, 3), (5, 4, 3), [3, 1, 3, 1], [0] + [0, 4, 3, 1, 10, 4, 3, 1] * 2)
        self.check(helper.DIAMOND, (6, 5, 4), (6, 5, 4), [0, 1, 2, 3],
                   [0, 11, 5, 4, 1, 11, 7, 4, 1, 1, 7, 4, 1, 1, 5, 4, 1])
        self.check_none(helper.DIAMOND, (3, 6, 4), (3, 6, 4), [0, 1, 2, 3])

    def test_the_same_wall_twice_behind_one_another(self):
        for room in helper.ROOMS:
            for wall in range(helper.count_walls(room)):
                for walls in ([wall] * 2, [wall] * 4, [0, wall, wall]):
                    self.check_none(room, (3, 7, 3), (2, 7, 2), walls)


class AgainstFollowing(TurnsCase):
    """Every answer against the sound that is followed."""

    def compare(self, room, s, e, walls):
        path = helper.follow(room, s, e, walls)
        if path is None:
            self.assertEqual(turns(*s, *e, room, walls), [-4], (room, s, e, walls))
            self.assertEqual(judge(*s, *e, room, walls), [0], (room, s, e, walls))
            return 0
        self.check(room, s, e, walls, told(path[1]))
        return 1

    def test_every_two_walls(self):
        numbers = helper.Numbers(11)
        for room in helper.ROOMS:
            paths = 0
            for s, e in helper.pairs(room, numbers, 5):
                for k in range(3):
                    for walls in itertools.product(range(helper.count_walls(room)), repeat=k):
                        paths += self.compare(room, s, e, list(walls))
            self.assertGreater(paths, 20)

    def test_every_four_walls_of_a_triangle(self):
        paths = [0] * 5
        for k in range(5):
            for walls in itertools.product(range(5), repeat=k):
                paths[k] += self.compare(helper.TRIANGLE, (3, 3, 1), (4, 5, 3), list(walls))
        self.assertGreater(min(paths), 0)

    def test_rooms_of_many_shapes(self):
        numbers = helper.Numbers(12)
        rooms = paths = 0
        while rooms < 40:
            room = helper.room_of([(2 * x, 2 * y) for x, y in helper.wandered(numbers)])
            if turns(1, 1, 1, 1, 1, 1, room, [])[0] == -5:
                continue
            rooms += 1
            for s, e in helper.pairs(room, numbers, 6):
                for k in range(5):
                    walls = [numbers.below(helper.count_walls(room)) for _ in range(k)]
                    paths += self.compare(room, s, e, walls)
        self.assertGreater(paths, 50)


class Shots(TurnsCase):
    """Paths with many turns: the sound is sent off, and where it ends is e."""

    def test_every_wall_in_paths_of_one_to_four_walls(self):
        numbers = helper.Numbers(13)
        met = {}
        for s, e, walls, places, length in helper.shots(helper.OCTAGON, numbers, 250, 22):
            self.assertEqual(judge(*s, *e, helper.OCTAGON, walls), [1, length])
            self.check(helper.OCTAGON, s, e, walls, told(places))
            for wall in walls:
                met[len(walls), wall] = True
        for key in itertools.product(range(1, 5), range(10)):
            self.assertIn(key, met)

    def test_all_kinds_of_places(self):
        numbers = helper.Numbers(14)
        kinds = dict.fromkeys(("whole", "not whole", "two divisors", "three divisors", "a 0"), 0)
        for room in helper.ROOMS:
            for s, e, walls, places, length in helper.shots(room, numbers, 60, 20):
                self.assertEqual(judge(*s, *e, room, walls), [1, length])
                self.check(room, s, e, walls, told(places))
                for place in places:
                    overs = {Fraction(number).denominator for number in place}
                    kinds["whole" if overs == {1} else "not whole"] += 1
                    kinds["two divisors"] += len(overs) == 2
                    kinds["three divisors"] += len(overs) == 3
                    kinds["a 0"] += 0 in place
        self.assertGreater(min(kinds.values()), 5, kinds)

    def test_rooms_of_stairs(self):
        numbers = helper.Numbers(15)
        room = helper.room_of(helper.staircase_corners(24), height=5)
        for s, e, walls, places, length in helper.shots(room, numbers, 40, 15):
            self.check(room, s, e, walls, told(places))

    def test_the_largest_room(self):
        room = helper.room_of([(0, 0), (4095, 0), (4095, 4095), (0, 4095)], height=4095)
        s = (1, 4094, 1)
        count = 0
        for way in ((12345, 3, 7), (-4100, -4099, 4097), (-2047, -8191, -4093), (8191, -4099, 4091), (16377, -3, 5)):
            walls, places, e = helper.shot(room, s, way)
            self.assertLessEqual(len(walls), 4)
            self.check(room, s, e, walls, told(places))
            count += len(walls)
        self.assertGreater(count, 12)

    def test_other_stuffs_change_nothing(self):
        numbers = helper.Numbers(16)
        for room in helper.ROOMS:
            other = helper.with_other_stuffs(room, numbers)
            for s, e, walls, places, length in helper.shots(room, numbers, 20, 15):
                self.assertEqual(turns(*s, *e, other, walls), told(places))
            for s, e in helper.pairs(room, numbers, 20):
                walls = [numbers.below(helper.count_walls(room)) for _ in range(numbers.below(5))]
                self.assertEqual(turns(*s, *e, room, walls), turns(*s, *e, other, walls))


class Refused(unittest.TestCase):
    def test_not_inside(self):
        good = (3, 3, 3)
        outside = [(5, 0, 3), (10, 4, 3), (0, 0, 3), (5, 4, 0), (5, 4, 6), (5, 4, 7), (-1, 4, 3), (5, 9, 3),
                   (helper.LEAST, 4, 3), (5, helper.LARGEST, 3), (5, 4, helper.LEAST), (-8, 8, 3)]
        for bad in outside:
            for walls in ([], [0], [4, 5], [0, 0]):
                self.assertEqual(turns(*good, *bad, helper.BOX, walls), [-3], bad)
                self.assertEqual(turns(*bad, *good, helper.BOX, walls), [-3], bad)
                self.assertEqual(turns(*bad, *bad, helper.BOX, walls), [-3], bad)

    def test_walls(self):
        self.assertEqual(turns(3, 3, 3, 5, 5, 5, helper.BOX, [0] * 5), [-1])
        self.assertEqual(turns(3, 3, 3, 5, 5, 5, helper.BOX, [0, 1] * 20), [-1])
        for room in helper.ROOMS:
            for wall in (helper.count_walls(room), helper.count_walls(room) + 1, helper.LARGEST):
                for walls in ([wall], [0, wall], [wall, 0, 0, 0], [0, 0, 0, wall]):
                    self.assertEqual(turns(3, 7, 3, 3, 7, 3, room, walls), [-1])
            self.assertEqual(turns(3, 7, 3, 3, 7, 3, room, [helper.count_walls(room) - 1]), [0, 3, 7, room[0], 1])

    def test_the_order(self):
        faulty = helper.room_of(helper.BOX_CORNERS[::-1])
        self.assertEqual(turns(3, 3, 3, 5, 5, 5, faulty, []), [-5, 7, 0])
        self.assertEqual(turns(-1, 3, 3, 5, 5, 5, faulty, [0] * 5), [-5, 7, 0])
        self.assertEqual(turns(-1, 3, 3, 5, 5, 5, [], [99]), [-5, 1, 0])
        self.assertEqual(turns(-1, 3, 3, 5, 5, 5, helper.BOX, [0] * 5), [-1])
        self.assertEqual(turns(3, 3, 3, 5, 5, 50, helper.BOX, [6]), [-1])
        self.assertEqual(turns(3, 3, 3, 5, 5, 50, helper.BOX, [5, 5]), [-3])
        self.assertEqual(turns(3, 3, 3, 5, 5, 5, helper.BOX, [5, 5]), [-4])

    def test_every_fault_is_told(self):
        for at, value, expected in ((0, 0, [-5, 2, 0]), (5, 8, [-5, 3, 0]), (9, 9, [-5, 4, 1])):
            room = helper.BOX[:at] + [value] + helper.BOX[at + 1:]
            self.assertEqual(turns(3, 3, 3, 5, 5, 5, room, []), expected)
        self.assertEqual(
            turns(1, 1, 1, 1, 1, 1, helper.room_of([(0, 0), (5, 0), (10, 0), (10, 8), (0, 8)]), []), [-5, 5, 0])
        self.assertEqual(
            turns(1, 1, 1, 1, 1, 1, helper.room_of([(0, 0), (8, 8), (8, 0), (0, 8)]), []), [-5, 6, 0])


class Kept(unittest.TestCase):
    CALLS = (
        (2, 2, 2, 8, 6, 3, helper.BOX, [0, 1]),
        (2, 2, 2, 8, 6, 3, helper.BOX, [1, 0]),
        (2, 2, 2, 8, 6, 3, helper.BOX, []),
        (2, 2, 2, 8, 6, 33, helper.BOX, [0]),
        (2, 2, 2, 8, 6, 3, helper.BOX, [0] * 5),
        (2, 2, 2, 8, 6, 3, helper.BOX[:-1], [0]),
    )

    def test_one_list_of_whole_numbers(self):
        for call, size in zip(self.CALLS, (9, 1, 1, 1, 1, 3)):
            answer = turns(*call)
            self.assertIs(type(answer), list)
            self.assertEqual({type(number) for number in answer}, {int})
            self.assertEqual(len(answer), size)

    def test_what_is_handed_in_stays(self):
        for call in self.CALLS:
            room, walls = list(call[6]), list(call[7])
            turns(*call[:6], room, walls).append(1)
            self.assertEqual((room, walls), call[6:])

    def test_the_same_call_answers_the_same(self):
        first = [turns(*call) for call in self.CALLS]
        for answer in [turns(*call) for call in self.CALLS]:
            answer.append(0)
        again = [turns(*call) for call in reversed(self.CALLS)]
        self.assertEqual(first, again[::-1])

    def test_arguments_by_their_names(self):
        answer = roompaths.paths.turns(sx=2, sy=2, sz=2, ex=8, ey=2, ez=4, room=helper.BOX, walls=[0])
        self.assertEqual(answer, [0, 5, 0, 3, 1])


if __name__ == "__main__":
    unittest.main()
