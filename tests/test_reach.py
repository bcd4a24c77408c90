"""stuck_person, reach_weight, can_reach, never_down and least_excess."""

import itertools
import random
import unittest

from basketrope.reach import can_reach, least_excess, never_down, reach_weight, stuck_person
from tests.plain import all_moves, distances, plain_groups, plain_stuck, plain_weight
from tests.samples import answer_twice

TOP = 10 ** 6
T = (4, (3, 4, 9, 20))
W = (3, (3, 4, 9, 20))


def drawn_tower(draw, people):
    """Return a tower of so many people, with few or with many equal weights, and mostly with somebody stuck."""
    most = draw.choice([3, 10, 3 * people + 1])
    return (draw.randint(1, 4), tuple([draw.randint(1, most) for _ in range(people)]))


def doubling_tower(draw, people):
    """Return a tower of so many people in which each weighs about as much as all lighter ones and the excess."""
    excess = draw.randint(1, 3)
    weights = []
    for _ in range(people):
        weights.append(min(TOP, max(1, excess + sum(weights) + draw.choice([0, 0, 0, 0, -1, 1]))))
    draw.shuffle(weights)
    return (excess, tuple(weights))


class ReachTest(unittest.TestCase):
    def check(self, tower, person, weight):
        """Check who is stuck and what can be reached."""
        self.assertEqual(repr(answer_twice(self, stuck_person, tower)), repr(person), tower)
        self.assertEqual(repr(answer_twice(self, reach_weight, tower)), repr(weight), tower)


class Stuck(ReachTest):
    def test_nobody(self):
        self.check((1, ()), None, 0)
        self.check((TOP, ()), None, 0)

    def test_one_person(self):
        for excess in (1, 2, 5, TOP - 1):
            self.check((excess, (excess,)), None, excess)
            self.check((excess, (1,)), None, 1)
            self.check((excess, (excess + 1,)), 0, 0)
        self.check((TOP, (TOP,)), None, TOP)
        self.check((1, (TOP,)), 0, 0)

    def test_just_the_sum_and_one_more(self):
        for excess in (1, 2, 9):
            for lighter in [(1,), (1, 1), (1, 2), (1, 2, 4)]:
                total = sum(lighter)
                for at in range(len(lighter) + 1):
                    before, behind = lighter[:at], lighter[at:]
                    just = excess + total
                    self.check((excess, (*before, just, *behind)), None, just + total)
                    self.check((excess, (*before, just + 1, *behind)), at, total)

    def test_each_person_just_at_the_bound(self):
        weights = (1, 2, 4, 8, 16, 32, 64)
        self.check((1, weights), None, 127)
        for at in range(1, len(weights)):
            heavier = weights[:at] + (weights[at] + 1,) + weights[at + 1:]
            self.check((1, heavier), at, 2 ** at - 1)
            self.check((2, heavier), None, 128)

    def test_equal_weights(self):
        for people in range(1, 25):
            self.check((5, (5,) * people), None, 5 * people)
            self.check((4, (5,) * people), 0, 0)
            self.check((6, (5,) * people), None, 5 * people)

    def test_equal_weights_do_not_count_as_lighter(self):
        self.check((2, (1, 4, 4)), 1, 1)
        self.check((2, (4, 1, 4)), 0, 1)
        self.check((2, (4, 4, 1)), 0, 1)
        self.check((3, (4, 4, 1)), None, 9)
        self.check((2, (2, 7, 2, 7)), 1, 4)
        self.check((3, (2, 7, 2, 7)), None, 18)
        self.check((3, (2, 8, 7, 2, 8, 7)), None, 34)

    def test_of_several_the_lightest(self):
        self.check((1, (100, 10, 1000)), 1, 0)
        self.check((1, (100, 1, 10, 1000)), 2, 1)
        self.check((3, (20, 3, 9, 4)), 0, 16)
        self.check((2, (9, 5, 9, 5, 9, 1)), 1, 1)

    def test_somebody_heavier_than_the_stuck_one_need_not_be_stuck(self):
        # The one of 10 is stuck, the one of 11 is not: the one of 10 counts for the sum.
        self.check((2, (11, 1, 10)), 2, 1)
        self.assertEqual(plain_stuck((2, (11, 1, 10))), [2])

    def test_order_of_the_people(self):
        for weights in itertools.permutations((3, 4, 9, 20)):
            self.check((4, weights), None, 36)
            self.check((3, weights), weights.index(20), 16)
            self.check((2, weights), weights.index(3), 0)

    def test_drawn_towers(self):
        draw = random.Random(1)
        for at in range(400):
            for tower in (drawn_tower(draw, at % 25), doubling_tower(draw, at % 21)):
                stuck = plain_stuck(tower)
                if stuck:
                    weight = sum([weight for weight in tower[1] if weight < tower[1][stuck[0]]])
                    self.check(tower, stuck[0], weight)
                else:
                    self.check(tower, None, sum(tower[1]))

    def test_the_greatest_weights(self):
        self.check((TOP, (TOP,) * 24), None, 24 * TOP)
        self.check((TOP - 1, (TOP,) * 24), 0, 0)
        self.check((1, (TOP,) * 23 + (1,)), 0, 1)

    def test_never_less_with_a_greater_excess_or_a_further_person(self):
        draw = random.Random(2)
        for at in range(300):
            excess, weights = doubling_tower(draw, at % 12)
            reached = reach_weight((excess, weights))
            self.assertLessEqual(reached, reach_weight((excess + 1, weights)))
            self.assertLessEqual(reached, reach_weight((excess, (*weights, draw.randint(1, 50)))))


class AgainstASearch(unittest.TestCase):
    def check(self, tower):
        """Check which groups and which people can come down against a search over all groups and moves."""
        groups = plain_groups(len(tower[1]))
        found = distances(all_moves(tower), ())
        reached = reach_weight(tower)
        for group in groups:
            self.assertIs(answer_twice(self, can_reach, tower, group), group in found, (tower, group))
            self.assertEqual(plain_weight(tower, group) <= reached, group in found)
        down = {person for group in found for person in group}
        never = tuple([person for person in range(len(tower[1])) if person not in down])
        self.assertEqual(repr(answer_twice(self, never_down, tower)), repr(never))

    def test_small_towers(self):
        draw = random.Random(3)
        for at in range(150):
            self.check(drawn_tower(draw, at % 6))
            self.check(doubling_tower(draw, at % 6))

    def test_all_orders(self):
        for weights in itertools.permutations((3, 4, 9, 20)):
            for excess in (1, 2, 3, 4):
                self.check((excess, weights))

    def test_eight_people(self):
        self.check((3, (3, 4, 9, 20, 3, 30, 72, 72)))


class TwoDozenPeople(unittest.TestCase):
    def reached_sums(self, tower):
        """Return the weights of all groups that can be reached: one bit each, going from weight to weight."""
        excess, weights = tower
        sums = 1
        for weight in weights:
            sums |= sums << weight
        reached = [0]
        for total in range(1, sum(weights) + 1):
            if sums >> total & 1 and total - reached[-1] <= excess:
                reached.append(total)
        return sum([1 << total for total in reached])

    def check(self, tower, draw):
        """Check drawn groups, and for each person whether one of the groups with this person can be reached."""
        _, weights = tower
        reached = self.reached_sums(tower)
        for _ in range(20):
            group = tuple(sorted(draw.sample(range(24), draw.randint(0, 24))))
            can = bool(reached >> plain_weight(tower, group) & 1)
            self.assertIs(answer_twice(self, can_reach, tower, group), can, (tower, group))
        never = []
        for person in range(24):
            sums = 1 << weights[person]
            for other in range(24):
                if other != person:
                    sums |= sums << weights[other]
            if not sums & reached:
                never.append(person)
        self.assertEqual(repr(answer_twice(self, never_down, tower)), repr(tuple(never)))

    def test_drawn_towers(self):
        draw = random.Random(4)
        for at in range(60):
            self.check((draw.randint(1, 4), tuple([draw.randint(1, [5, 40, 300][at % 3]) for _ in range(24)])), draw)

    def test_one_who_is_stuck_among_others(self):
        draw = random.Random(5)
        lighter = [draw.randint(1, 9) for _ in range(17)] + [1]
        bound = 3 + sum(lighter)
        for more in (0, 1):
            heavier = [bound + more, bound + more, bound + 5, 3 * bound, 4 * bound, 5 * bound]
            weights = lighter + heavier
            draw.shuffle(weights)
            tower = (3, tuple(weights))
            self.check(tower, draw)
            never = tuple([person for person in range(24) if weights[person] >= bound + more]) if more else ()
            self.assertEqual(never_down(tower), never)

    def test_equal_weights(self):
        draw = random.Random(6)
        for excess in (6, 7, 8):
            self.check((excess, (7,) * 24), draw)
        self.assertEqual(never_down((6, (7,) * 24)), tuple(range(24)))
        self.assertEqual(never_down((7, (7,) * 24)), ())

    def test_the_greatest_weights(self):
        tower = (TOP, (TOP,) * 24)
        self.assertIs(can_reach(tower, tuple(range(24))), True)
        self.assertEqual(never_down(tower), ())
        tower = (TOP - 1, (TOP,) * 24)
        self.assertIs(can_reach(tower, (0,)), False)
        self.assertEqual(never_down(tower), tuple(range(24)))
        tower = (1, (1, *[TOP] * 23))
        self.assertIs(can_reach(tower, (0,)), True)
        self.assertIs(can_reach(tower, (0, 23)), False)
        self.assertEqual(never_down(tower), tuple(range(1, 24)))


class Reached(unittest.TestCase):
    def check(self, tower, group, expected):
        """Check what can_reach says of the group."""
        self.assertIs(answer_twice(self, can_reach, tower, group), expected, (tower, group))

    def test_nobody_is_always_reached(self):
        for tower in [(1, ()), (1, (2,)), T, W, (1, (TOP,) * 24)]:
            self.check(tower, (), True)

    def test_one_person(self):
        for excess in (1, 2, TOP - 1):
            self.check((excess, (excess,)), (0,), True)
            self.check((excess, (excess + 1,)), (0,), False)
            self.assertEqual(answer_twice(self, never_down, (excess, (excess,))), ())
            self.assertEqual(answer_twice(self, never_down, (excess, (excess + 1,))), (0,))

    def test_all_who_are_lighter(self):
        self.check(W, (0, 1, 2), True)
        self.check(W, (3,), False)
        self.check(W, (0, 3), False)
        self.check(T, (0, 1, 2, 3), True)

    def test_never_down(self):
        self.assertEqual(answer_twice(self, never_down, (1, ())), ())
        self.assertEqual(answer_twice(self, never_down, (1, (9, 1, 8, 1))), (0, 2))
        self.assertEqual(answer_twice(self, never_down, (2, (11, 1, 10, 10))), (0, 2, 3))
        self.assertEqual(answer_twice(self, never_down, (1, (5, 5))), (0, 1))


class Least(unittest.TestCase):
    def check(self, weights, expected):
        """Check the least excess, whatever the excess of the tower is, and that with one less somebody is stuck."""
        for excess in (1, expected, 9, TOP):
            self.assertEqual(repr(answer_twice(self, least_excess, (excess, weights))), repr(expected), weights)
        self.assertIsNone(stuck_person((expected, weights)))
        self.assertEqual(never_down((expected, weights)), ())
        if expected > 1:
            self.assertIsNotNone(stuck_person((expected - 1, weights)))
            self.assertNotEqual(never_down((expected - 1, weights)), ())

    def test_nobody_and_one_person(self):
        self.check((), 1)
        for weight in (1, 2, 3, TOP - 1, TOP):
            self.check((weight,), weight)

    def test_equal_weights(self):
        for people in range(1, 25):
            self.check((1,) * people, 1)
            self.check((7,) * people, 7)
            self.check((TOP,) * people, TOP)

    def test_people_who_need_the_most(self):
        self.check((3, 4, 9, 20), 4)
        self.check((20, 9, 4, 3), 4)
        self.check((3, 4, 9, 18), 3)
        self.check((3, 4, 9, 19), 3)
        self.check((3, 6, 6), 3)
        self.check((3, 7, 7), 4)
        self.check((1, 2, 4), 1)
        self.check((1, 1, 1), 1)
        self.check((1, TOP), TOP - 1)

    def test_drawn_towers(self):
        draw = random.Random(7)
        for at in range(200):
            for _, weights in (drawn_tower(draw, at % 25), doubling_tower(draw, at % 21)):
                excess = 1
                while excess < 200 and plain_stuck((excess, weights)):
                    excess += 1
                if excess < 200:
                    self.check(weights, excess)

    def test_against_a_search(self):
        draw = random.Random(8)
        for at in range(40):
            weights = tuple([draw.randint(1, 9) for _ in range(at % 5)])
            excess = 1
            while tuple(range(len(weights))) not in distances(all_moves((excess, weights)), ()):
                excess += 1
            self.check(weights, excess)


if __name__ == "__main__":
    unittest.main()
