"""sums_of, fewest_moves and find_plan, and the bound of all functions for small towers."""

import itertools
import random
import unittest

from basketrope.bounds import SMALL
from basketrope.errors import TooLarge
from basketrope.moves import groups_of, is_plan
from basketrope.plans import certificate, certificate_holds, fewest_moves, find_plan, sums_of
from tests.plain import all_moves, distances, plain_groups, plain_sums
from tests.samples import answer_twice, odd_values

TOP = 10 ** 6
T = (4, (3, 4, 9, 20))
EIGHT = (4, (3, 4, 9, 20, 1, 39, 70, 140))


def drawn_towers(seed, many, people):
    """Return towers of so many people with light weights, many of them equal."""
    draw = random.Random(seed)
    return [(draw.randint(1, 5), tuple([draw.randint(1, 9) for _ in range(people)])) for _ in range(many)]


class Sums(unittest.TestCase):
    def check(self, tower):
        """Check the sums against those of all groups."""
        self.assertEqual(repr(answer_twice(self, sums_of, tower)), repr(plain_sums(tower)))

    def test_drawn_towers(self):
        for people in range(9):
            for tower in drawn_towers(people, 20, people):
                self.check(tower)

    def test_order_of_the_people_does_not_matter(self):
        for weights in itertools.permutations((3, 4, 9, 20)):
            self.assertEqual(sums_of((4, weights)), sums_of(T))

    def test_equal_weights(self):
        for people in range(9):
            self.assertEqual(sums_of((2, (7,) * people)), tuple(range(0, 7 * people + 1, 7)))

    def test_weights_that_are_all_different(self):
        self.assertEqual(sums_of((1, tuple([2 ** person for person in range(8)]))), tuple(range(256)))
        self.check(EIGHT)

    def test_the_greatest_weights(self):
        self.check((TOP, (TOP,) * 8))
        self.check((1, (TOP, TOP - 1, TOP - 2, TOP - 4, TOP - 8, TOP - 16, TOP - 32, TOP - 64)))

    def test_the_excess_does_not_matter(self):
        for excess in (1, 3, TOP):
            self.assertEqual(sums_of((excess, (5, 5, 1))), (0, 1, 5, 6, 10, 11))


class FewestTest(unittest.TestCase):
    def check(self, tower, start, goal, expected):
        """Check that a plan with the fewest moves is found if one is expected, and none otherwise."""
        self.assertEqual(repr(answer_twice(self, fewest_moves, tower, start, goal)), repr(expected))
        plan = answer_twice(self, find_plan, tower, start, goal)
        if expected is None:
            self.assertIsNone(plan)
        else:
            self.assertTrue(is_plan(tower, start, plan), (tower, start, goal))
            self.assertEqual(groups_of(tower, start, plan)[-1], goal)
            self.assertEqual(len(plan), expected, (tower, start, goal))


class AgainstASearch(FewestTest):
    def check_all(self, tower, starts):
        """Check all goals from each of the starts."""
        groups = plain_groups(len(tower[1]))
        moves = all_moves(tower)
        for start in starts:
            found = distances(moves, start)
            for goal in groups:
                self.check(tower, start, goal, found.get(goal))

    def test_up_to_four_people(self):
        for people in range(5):
            for tower in drawn_towers(10 + people, 12, people):
                self.check_all(tower, plain_groups(people))

    def test_five_and_six_people(self):
        draw = random.Random(20)
        for people in (5, 6):
            for tower in drawn_towers(20 + people, 5, people):
                groups = plain_groups(people)
                self.check_all(tower, [(), *draw.sample(groups, 3)])

    def test_eight_people(self):
        self.check_all(EIGHT, [()])
        for tower in drawn_towers(30, 1, 8):
            self.check_all(tower, [(), (2, 5)])

    def test_weights_with_gaps(self):
        for excess in range(1, 8):
            self.check_all((excess, (3, 20, 9, 4)), [(), (0,), (1,), (0, 2)])


class Fewest(FewestTest):
    def test_the_same_group(self):
        for tower in [(1, ()), (1, (5,)), T, EIGHT]:
            for group in plain_groups(len(tower[1]))[:40]:
                self.check(tower, group, group, 0)
                self.assertEqual(find_plan(tower, group, group), ())

    def test_a_lighter_goal(self):
        self.check((2, (1, 3)), (1,), (0,), None)
        self.check((2, (1, 3)), (0,), (), None)
        self.check((TOP, (1, 3)), (0, 1), (), None)
        self.check((TOP, (1, 3, 3)), (0, 1), (2,), None)

    def test_a_goal_of_the_same_weight(self):
        self.check((2, (1, 1)), (0,), (1,), None)
        self.check((9, (1, 3, 4)), (2,), (0, 1), None)
        self.check((9, (1, 3, 4)), (0, 1), (2,), None)
        self.check((9, (5, 5, 5)), (0, 2), (1, 2), None)

    def test_a_single_move(self):
        self.check((2, (1, 3)), (0,), (1,), 1)
        self.check((2, (2, 3)), (), (0,), 1)
        self.check((5, (2, 3)), (), (0, 1), 1)
        self.check((4, (2, 3)), (), (0, 1), 2)

    def test_through_a_group_of_another_weight(self):
        # From 5, but not from 4, the next move leads to 10.
        self.check((5, (4, 5, 1)), (), (0, 1), 2)
        self.check((5, (4, 5, 1)), (), (0, 1, 2), 2)
        self.check((4, (4, 5, 1)), (), (0, 1, 2), 3)

    def test_the_excess_at_a_gap(self):
        for gap in (1, 2, 10, TOP):
            self.check((gap, (gap,)), (), (0,), 1)
            if gap > 1:
                self.check((gap - 1, (gap,)), (), (0,), None)
        self.check((4, (3, 4, 9, 20)), (), (3,), 6)
        self.check((3, (3, 4, 9, 20)), (), (3,), None)
        self.check((3, (3, 4, 9, 20)), (), (0, 1, 2), 7)

    def test_as_many_moves_as_there_can_be(self):
        tower = (1, (128, 1, 64, 2, 32, 4, 16, 8))
        self.check(tower, (), tuple(range(8)), 255)
        self.check((2, tower[1]), (), tuple(range(8)), 128)
        self.check((TOP, tower[1]), (), tuple(range(8)), 1)

    def test_never_more_with_a_greater_excess(self):
        draw = random.Random(40)
        for _, weights in drawn_towers(41, 40, 6):
            start, goal = [draw.choice(plain_groups(6)) for _ in range(2)]
            fewest = [fewest_moves((excess, weights), start, goal) for excess in range(1, 12)]
            for less, more in zip(fewest, fewest[1:]):
                if less is not None:
                    self.assertLessEqual(more, less)


class TooManyPeople(unittest.TestCase):
    def check(self, function, *arguments):
        """Check that the call raises TooLarge with the bound."""
        with self.assertRaises(TooLarge) as caught:
            function(*arguments)
        self.assertEqual(repr(caught.exception.bound), "8")
        self.assertEqual(SMALL, 8)

    def test_more_than_eight(self):
        for people in (9, 10, 24):
            for weights in [(1,) * people, tuple(range(1, people + 1)), (TOP,) * people]:
                for excess in (1, TOP):
                    tower = (excess, weights)
                    everybody = tuple(range(people))
                    self.check(sums_of, tower)
                    for start, goal in [((), everybody), ((), ()), (everybody, ()), ((0,), (1,)), ((8,), (0, 8))]:
                        self.check(certificate, tower, start, goal)
                        self.check(fewest_moves, tower, start, goal)
                        self.check(find_plan, tower, start, goal)
                        for value in [("plan", ()), ("light",), ("gap", 0, 9), None]:
                            self.check(certificate_holds, tower, start, goal, value)

    def test_ahead_of_all_else(self):
        for value in odd_values():
            self.check(certificate_holds, (1, (1,) * 9), (), (0,), value)

    def test_eight_are_not_too_many(self):
        everybody = tuple(range(8))
        for tower in [EIGHT, (TOP, (TOP,) * 8), (1, (1,) * 8)]:
            self.assertEqual(sums_of(tower), plain_sums(tower))
            for start, goal in [((), everybody), (everybody, ()), ((3, 7), (3, 7))]:
                found = certificate(tower, start, goal)
                self.assertTrue(certificate_holds(tower, start, goal, found))
                plan = find_plan(tower, start, goal)
                self.assertEqual(plan is None, found[0] != "plan")
                self.assertEqual(fewest_moves(tower, start, goal), None if plan is None else len(plan))


if __name__ == "__main__":
    unittest.main()
