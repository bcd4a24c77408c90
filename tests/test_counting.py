"""count_plans and each_plan."""

import inspect
import itertools
import math
import random
import unittest

from basketrope.counting import count_plans, each_plan
from basketrope.errors import TooLarge
from basketrope.moves import groups_of, is_plan
from basketrope.plans import fewest_moves
from tests.plain import all_moves, plain_groups, shortest_plans
from tests.samples import answer_twice

TOP = 10 ** 6
T = (4, (3, 4, 9, 20))


def all_plans(tower, start, goal):
    """Return the plans of each_plan as a list."""
    return list(each_plan(tower, start, goal))


class CountingTest(unittest.TestCase):
    def check(self, tower, start, goal, plans):
        """Check that there are just these plans."""
        self.assertEqual(repr(answer_twice(self, count_plans, tower, start, goal)), repr(len(plans)))
        self.assertEqual(repr(answer_twice(self, all_plans, tower, start, goal)), repr(plans), (tower, start, goal))


class AgainstASearch(CountingTest):
    def check_all(self, tower, starts):
        """Check all goals from each of the starts."""
        moves = all_moves(tower)
        for start in starts:
            for goal in moves:
                self.check(tower, start, goal, shortest_plans(moves, start, goal))

    def test_up_to_three_people(self):
        draw = random.Random(1)
        for people in range(4):
            for _ in range(15):
                tower = (draw.randint(1, 5), tuple([draw.randint(1, 6) for _ in range(people)]))
                self.check_all(tower, plain_groups(people))

    def test_four_and_five_people(self):
        draw = random.Random(2)
        for people in (4, 4, 4, 4, 5, 5):
            tower = (draw.randint(1, 6), tuple([draw.randint(1, 6) for _ in range(people)]))
            self.check_all(tower, [(), *draw.sample(plain_groups(people), 2)])

    def test_gaps_and_excess(self):
        for excess in range(1, 8):
            self.check_all((excess, (3, 20, 9, 4)), [(), (0,), (2, 3)])

    def test_equal_weights(self):
        for excess in (1, 2, 3, 4, 5, 8):
            self.check_all((excess, (2, 2, 2, 2)), [(), (1,)])
            self.check_all((excess, (1, 2, 1, 2)), [(), (0, 2)])

    def test_weights_in_falling_order(self):
        for excess in (1, 2, 3, 7):
            self.check_all((excess, (4, 2, 1)), plain_groups(3))


class Counted(CountingTest):
    def test_the_same_group(self):
        for tower in [(1, ()), (1, (5,)), T, (1, (1,) * 8), (TOP, (TOP,) * 8)]:
            for group in plain_groups(len(tower[1]))[:40]:
                self.check(tower, group, group, [()])

    def test_no_plan(self):
        self.check((1, (1, 3)), (), (1,), [])
        self.check((1, (1, 3)), (), (0, 1), [])
        self.check((2, (1, 3)), (1,), (0,), [])
        self.check((2, (1, 3)), (0, 1), (), [])
        self.check((5, (3, 3)), (0,), (1,), [])
        self.check((5, (3, 3)), (1,), (0,), [])
        self.check((9, (1, 3, 4)), (2,), (0, 1), [])
        self.check((9, (1, 3, 4)), (0, 1), (2,), [])
        self.check((TOP - 1, (TOP,)), (), (0,), [])
        self.check((3, (3, 4, 9, 20)), (), (3,), [])

    def test_one_move(self):
        self.check((2, (1, 3)), (0,), (1,), [(((1,), (0,)),)])
        self.check((TOP, (TOP,)), (), (0,), [(((0,), ()),)])
        self.check((5, (2, 3)), (), (0, 1), [(((0, 1), ()),)])

    def test_as_many_moves_as_there_can_be(self):
        weights = (128, 1, 64, 2, 32, 4, 16, 8)
        everybody = tuple(range(8))
        self.assertEqual(count_plans((1, weights), (), everybody), 1)
        plans = all_plans((1, weights), (), everybody)
        self.assertEqual([len(plan) for plan in plans], [255])
        self.assertTrue(is_plan((1, weights), (), plans[0]))
        self.assertEqual(groups_of((1, weights), (), plans[0])[-1], everybody)
        # 255 by steps of at most 2: one of the 128 steps is a step of 1.
        self.assertEqual(count_plans((2, weights), (), everybody), 128)
        self.assertEqual(len(all_plans((2, weights), (), everybody)), 128)
        self.assertEqual(count_plans((TOP, weights), (), everybody), 1)

    def test_equal_people(self):
        for people in range(1, 9):
            for weight in (1, 7, TOP):
                tower = (weight, (weight,) * people)
                ways = 1
                for size in range(1, people):
                    ways *= math.comb(people, size)
                self.assertEqual(repr(count_plans(tower, (), tuple(range(people)))), repr(ways))

    def test_the_number_is_that_of_the_plans(self):
        draw = random.Random(3)
        for people in (6, 7, 8):
            for _ in range(12):
                tower = (draw.randint(2, 9), tuple([draw.randint(1, 40) for _ in range(people)]))
                start, goal = draw.choice(plain_groups(people)), draw.choice(plain_groups(people))
                count = count_plans(tower, start, goal)
                self.assertEqual(count == 0, fewest_moves(tower, start, goal) is None)
                if count < 3000:
                    self.assertEqual(len(all_plans(tower, start, goal)), count)


class OneAfterAnother(unittest.TestCase):
    def check_plans(self, tower, start, goal, plans):
        """Check that the plans are in ascending order, and that each of them is right."""
        for plan, beyond in zip(plans, plans[1:]):
            self.assertLess(plan, beyond)
        for plan in plans:
            self.assertTrue(is_plan(tower, start, plan))
            self.assertEqual(len(plan), fewest_moves(tower, start, goal))
            self.assertEqual(groups_of(tower, start, plan)[-1], goal)

    def test_it_is_a_generator(self):
        self.assertTrue(inspect.isgeneratorfunction(each_plan))
        self.assertTrue(inspect.isgenerator(each_plan(T, (), (0,))))

    def test_the_first_ones_of_very_many(self):
        everybody = tuple(range(8))
        for weight in (1, 5, TOP):
            tower = (weight, (weight,) * 8)
            self.assertEqual(count_plans(tower, (), everybody), 8 * 28 * 56 * 70 * 56 * 28 * 8)
            plans = list(itertools.islice(each_plan(tower, (), everybody), 500))
            self.check_plans(tower, (), everybody, plans)
            one_by_one = tuple([((person,), ()) for person in everybody])
            self.assertEqual(plans[0], one_by_one)
            self.assertEqual(plans[1], (*one_by_one[:6], ((6, 7), (0,)), ((0,), ())))
            self.assertEqual(plans[2], (*one_by_one[:6], ((6, 7), (1,)), ((1,), ())))

    def test_the_first_ones_of_long_plans(self):
        tower = (3, (128, 1, 64, 2, 32, 4, 16, 8))
        everybody = tuple(range(8))
        plans = list(itertools.islice(each_plan(tower, (0,), everybody), 50))
        self.check_plans(tower, (0,), everybody, plans)

    def test_all_of_many(self):
        tower = (2, (2, 2, 2, 2, 2))
        plans = all_plans(tower, (), (0, 1, 2, 3, 4))
        self.assertEqual(len(plans), 2500)
        self.check_plans(tower, (), (0, 1, 2, 3, 4), plans)

    def test_two_at_a_time(self):
        tower = (1, (1, 1, 1))
        one, other = each_plan(tower, (), (0, 1, 2)), each_plan(tower, (), (0, 1, 2))
        self.assertEqual([next(one), next(one)][1:], [next(other), next(other)][1:])
        self.assertEqual(list(one), list(other))


class TooManyPeople(unittest.TestCase):
    def test_more_than_eight(self):
        for people in (9, 10, 24):
            everybody = tuple(range(people))
            for tower in [(1, (1,) * people), (TOP, (TOP,) * people), (1, (TOP,) * people)]:
                for start, goal in [((), everybody), ((), ()), (everybody, ()), ((0,), (1,)), ((8,), (0, 8))]:
                    for function in (count_plans, all_plans):
                        with self.assertRaises(TooLarge) as caught:
                            function(tower, start, goal)
                        self.assertIs(type(caught.exception), TooLarge)
                        self.assertEqual(repr(caught.exception.bound), "8")

    def test_with_the_first_one_at_the_latest(self):
        with self.assertRaises(TooLarge):
            next(each_plan((1, (1,) * 9), (), ()))


if __name__ == "__main__":
    unittest.main()
