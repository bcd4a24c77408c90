"""is_plan and groups_of."""

import itertools
import random
import unittest

from basketrope.moves import groups_of, is_plan
from tests.plain import plain_groups, plain_moves
from tests.samples import PARTS, answer_twice, odd_values, replaced, reshaped

TOWER = (4, (3, 4, 5, 8))
TOP = 10 ** 6


def drawn_plan(draw, tower, start, most):
    """Return a plan of at most so many moves from start, and the groups to which they lead."""
    groups = [start]
    plan = []
    while len(plan) < most:
        moves = plain_moves(tower, groups[-1])
        if not moves:
            break
        move, reached = draw.choice(moves)
        plan.append(move)
        groups.append(reached)
    return tuple(plan), tuple(groups)


def drawn_plans(seed, many):
    """Return towers of up to five people, each with a start, a plan and its groups."""
    draw = random.Random(seed)
    drawn = []
    for at in range(many):
        people = at % 6
        tower = (draw.randint(1, 6), tuple([draw.randint(1, 6) for _ in range(people)]))
        start = draw.choice(plain_groups(people))
        drawn.append((tower, start, *drawn_plan(draw, tower, start, 8)))
    return drawn


def plainly_a_plan(tower, start, value):
    """Tell whether the value is a tuple of moves that are possible one after another."""
    if not isinstance(value, tuple):
        return False
    group = start
    for item in value:
        reached = [after for move, after in plain_moves(tower, group) if repr(move) == repr(item)]
        if not reached:
            return False
        group = reached[0]
    return True


def counting_plan(people):
    """Return a tower with weights 1, 2, 4 and so on, the plan from nobody with the most moves, and its groups."""
    groups = [tuple([person for person in range(people) if number >> person & 1]) for number in range(2 ** people)]
    plan = []
    for here, there in zip(groups, groups[1:]):
        down = tuple([person for person in there if person not in here])
        up = tuple([person for person in here if person not in there])
        plan.append((down, up))
    return (1, tuple([2 ** person for person in range(people)])), tuple(plan), tuple(groups)


class PlanTest(unittest.TestCase):
    def check(self, tower, start, value, expected):
        """Check what is_plan says of the value."""
        self.assertIs(answer_twice(self, is_plan, tower, start, value), expected, (tower, start, value))

    def check_plan(self, tower, start, plan, groups):
        """Check that it is a plan that leads through the groups."""
        self.check(tower, start, plan, True)
        self.assertEqual(repr(answer_twice(self, groups_of, tower, start, plan)), repr(groups))


class Plans(PlanTest):
    def test_drawn_plans(self):
        for tower, start, plan, groups in drawn_plans(1, 200):
            self.check_plan(tower, start, plan, groups)

    def test_the_empty_plan(self):
        for tower in [(1, ()), (2, (1, 3)), TOWER, (TOP, (TOP,) * 24)]:
            people = len(tower[1])
            for start in [(), tuple(range(people)), tuple(range(0, people, 2))]:
                self.check_plan(tower, start, (), (start,))

    def test_beginnings_and_ends(self):
        for tower, start, plan, groups in drawn_plans(2, 60):
            for at in range(len(plan) + 1):
                self.check_plan(tower, start, plan[:at], groups[:at + 1])
                self.check_plan(tower, groups[at], plan[at:], groups[at:])

    def test_all_pairs_of_moves(self):
        for tower in [(2, (1, 3)), (1, (1, 1)), (3, (2, 3, 4))]:
            groups = plain_groups(len(tower[1]))
            moves = [((), ())] + sorted({move for group in groups for move, _ in plain_moves(tower, group)})
            for start in groups:
                for pair in itertools.product(moves, repeat=2):
                    self.assertIs(is_plan(tower, start, pair), plainly_a_plan(tower, start, pair), (start, pair))


class ChangedPlans(PlanTest):
    def check_plainly(self, tower, start, value):
        """Check is_plan against the definition."""
        self.check(tower, start, value, plainly_a_plan(tower, start, value))

    def test_moves_exchanged(self):
        for tower, start, plan, _ in drawn_plans(3, 60):
            for one, other in itertools.combinations(range(len(plan)), 2):
                value = list(plan)
                value[one], value[other] = value[other], value[one]
                self.check_plainly(tower, start, tuple(value))
            self.check_plainly(tower, start, plan[::-1])

    def test_a_move_left_out_or_twice(self):
        for tower, start, plan, _ in drawn_plans(4, 60):
            for at in range(len(plan)):
                self.check_plainly(tower, start, plan[:at] + plan[at + 1:])
                # Whoever went up or down is in the wrong basket the second time.
                self.check(tower, start, plan[:at] + (plan[at],) + plan[at:], False)
                self.check_plainly(tower, start, plan + (plan[at],))

    def test_a_move_that_changes_nothing(self):
        for tower, start, plan, _ in drawn_plans(5, 60):
            for at in range(len(plan) + 1):
                self.check(tower, start, plan[:at] + (((), ()),) + plan[at:], False)

    def test_a_move_back(self):
        for tower, start, plan, _ in drawn_plans(6, 60):
            if plan:
                down, up = plan[-1]
                self.check(tower, start, plan + ((up, down),), False)

    def test_a_move_of_another_plan(self):
        draw = random.Random(7)
        for tower, start, plan, groups in drawn_plans(8, 60):
            for at in range(len(plan)):
                move, _ = draw.choice(plain_moves(tower, draw.choice(groups[:-1])))
                self.check_plainly(tower, start, plan[:at] + (move,) + plan[at + 1:])

    def test_another_start(self):
        for tower, start, plan, _ in drawn_plans(9, 60):
            for other in plain_groups(len(tower[1])):
                self.check_plainly(tower, other, plan)

    def test_parts_replaced(self):
        for tower, start, plan, _ in drawn_plans(10, 12):
            for value in replaced(plan[:3], (*PARTS, 3, (1,), ((0,), ()), ((1,), (0,)))) + reshaped(plan[:3]):
                self.check_plainly(tower, start, value)


class Steps(PlanTest):
    U = (2, (1, 3))
    PLAN = (((0,), ()), ((1,), (0,)), ((0,), ()))

    def test_the_steps(self):
        self.check_plan(self.U, (), self.PLAN, ((), (0,), (1,), (0, 1)))

    def test_only_the_last_move_is_wrong(self):
        self.check(self.U, (), self.PLAN[:2] + (((1,), ()),), False)
        self.check(self.U, (), self.PLAN + (((0,), ()),), False)
        self.check(self.U, (), self.PLAN + (None,), False)
        self.check((1, (1, 3)), (), self.PLAN, False)

    def test_only_the_first_move_is_wrong(self):
        self.check(self.U, (), self.PLAN[1:], False)
        self.check(self.U, (0,), self.PLAN, False)
        self.check(self.U, (0,), self.PLAN[1:], True)

    def test_lists(self):
        for value in [list(self.PLAN), [], [((0,), ())], ([(0,), ()],), (([0], ()),), (((0,), []),)]:
            self.check(self.U, (), value, False)

    def test_bools_among_the_people(self):
        for right, wrong in [(0, False), (1, True)]:
            self.check((4, (3, 4)), (), (((right,), ()),), True)
            self.check((4, (3, 4)), (), (((wrong,), ()),), False)
            self.check((4, (3, 4)), (), (((right,), ()),), True)
        self.check(self.U, (), (((0,), ()), ((True,), (0,)), ((0,), ())), False)
        self.check(self.U, (), (((0,), ()), ((1,), (False,)), ((0,), ())), False)
        self.check(self.U, (), self.PLAN, True)

    def test_a_single_move_is_no_plan(self):
        self.check(self.U, (), ((0,), ()), False)
        self.check(self.U, (), (((0,), ()),), True)

    def test_values_of_other_kinds(self):
        for value in odd_values():
            self.check(self.U, (), value, value == ())
            self.check(self.U, (0,), value, value == ())
            self.check(self.U, (), (value,), False)
            self.check(self.U, (), self.PLAN[:1] + (value,) + self.PLAN[1:], False)
            self.check(self.U, (), self.PLAN + (value,), False)


class LongPlans(PlanTest):
    def test_as_many_moves_as_groups(self):
        for people in range(11):
            tower, plan, groups = counting_plan(people)
            self.assertEqual(len(plan), 2 ** people - 1)
            self.check_plan(tower, (), plan, groups)

    def test_a_long_plan_with_one_thing_wrong(self):
        tower, plan, groups = counting_plan(10)
        for at in (0, 1, 500, 1021, 1022):
            self.check(tower, (), plan[:at] + plan[at + 1:], at == 1022)
            self.check(tower, (), plan[:at] + (plan[at],) + plan[at:], False)
            self.check(tower, (), plan[:at] + (list(plan[at]),) + plan[at + 1:], False)
            self.check(tower, groups[at + 1], plan, False)
        self.check(tower, (), list(plan), False)
        self.check(tower, (), plan + (((10,), ()),), False)

    def test_two_dozen_people(self):
        tower = (1, tuple(range(1, 25)))
        plan = []
        groups = [()]
        # The lightest one comes down, then each change is for the next heavier one, until nobody heavier is left.
        for heaviest in range(23, -1, -1):
            below = groups[-1]
            plan.append(((0,), ()))
            groups.append((0, *below))
            for person in range(heaviest):
                plan.append(((person + 1,), (person,)))
                groups.append((person + 1, *below))
        self.assertEqual(len(plan), 300)
        self.check_plan(tower, (), tuple(plan), tuple(groups))


if __name__ == "__main__":
    unittest.main()
