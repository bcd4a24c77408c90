"""certificate and certificate_holds."""

import itertools
import random
import unittest

from basketrope.plans import certificate, certificate_holds, find_plan
from tests.plain import all_moves, distances, plain_gap, plain_groups, plain_moves, plain_sums, plain_weight
from tests.samples import PARTS, answer_twice, odd_values, replaced, reshaped

TOP = 10 ** 6
LIGHT = ("light",)
TOWERS = (
    (1, ()), (1, (1,)), (1, (2,)), (2, (1, 3)), (1, (1, 3)), (2, (2, 2)), (1, (2, 2)), (3, (20, 3, 9, 4)),
    (4, (3, 4, 9, 20)), (5, (5, 5, 6, 11)), (TOP, (TOP, 1, TOP - 1)), (1, (4, 2, 1)), (2, (3, 3, 3, 9)),
)


def pairs(tower):
    """Return all pairs of groups."""
    return list(itertools.product(plain_groups(len(tower[1])), repeat=2))


def plainly_leads(tower, start, goal, value):
    """Tell whether the value is a plan that leads from start to goal, by going through all possible moves."""
    group = start
    for item in value:
        reached = [after for move, after in plain_moves(tower, group) if repr(move) == repr(item)]
        if not reached:
            return False
        group = reached[0]
    return group == goal


def plainly_holds(tower, start, goal, value):
    """Tell whether the value is a certificate, straight from the definition."""
    if not isinstance(value, tuple) or not value or not isinstance(value[0], str):
        return False
    word, *parts = value
    if (word, len(parts)) == ("light", 0):
        return start != goal and plain_weight(tower, goal) <= plain_weight(tower, start)
    if (word, len(parts)) == ("gap", 2):
        return [type(part) for part in parts] == [int, int] and plain_gap(tower, start, goal, *parts)
    if (word, len(parts)) == ("plan", 1):
        return isinstance(parts[0], tuple) and plainly_leads(tower, start, goal, parts[0])
    return False


class Made(unittest.TestCase):
    def check(self, tower, start, goal, word):
        """Check that a certificate of this kind is made, and that it holds."""
        made = answer_twice(self, certificate, tower, start, goal)
        self.assertEqual(made[0], word, (tower, start, goal))
        self.assertTrue(plainly_holds(tower, start, goal, made), (tower, start, goal, made))
        self.assertIs(certificate_holds(tower, start, goal, made), True)

    def check_all(self, tower, starts):
        """Check all goals from each of the starts: a plan exactly where a search finds one."""
        moves = all_moves(tower)
        for start in starts:
            found = distances(moves, start)
            for goal in moves:
                made = answer_twice(self, certificate, tower, start, goal)
                self.assertEqual(made[0] == "plan", goal in found, (tower, start, goal))
                self.assertTrue(plainly_holds(tower, start, goal, made), (tower, start, goal, made))

    def test_all_pairs(self):
        for tower in TOWERS:
            self.check_all(tower, plain_groups(len(tower[1])))

    def test_drawn_towers(self):
        draw = random.Random(1)
        for people in (1, 2, 3, 4, 5):
            for _ in range(8):
                tower = (draw.randint(1, 5), tuple([draw.randint(1, 12) for _ in range(people)]))
                groups = plain_groups(people)
                self.check_all(tower, draw.sample(groups, min(4, len(groups))))

    def test_eight_people(self):
        self.check_all((3, (3, 4, 9, 20, 1, 39, 70, 141)), [()])
        self.check_all((4, (3, 4, 9, 20, 1, 39, 70, 140)), [(0, 3)])

    def test_the_same_group(self):
        for tower in TOWERS:
            for group in plain_groups(len(tower[1])):
                self.assertEqual(certificate(tower, group, group), ("plan", ()))

    def test_a_goal_that_is_not_heavier(self):
        self.assertEqual(certificate((2, (1, 3)), (1,), (0,)), LIGHT)
        self.assertEqual(certificate((2, (1, 3)), (0, 1), ()), LIGHT)
        self.assertEqual(certificate((2, (3, 3)), (0,), (1,)), LIGHT)
        self.assertEqual(certificate((2, (3, 3)), (1,), (0,)), LIGHT)
        self.assertEqual(certificate((9, (1, 3, 4)), (2,), (0, 1)), LIGHT)

    def test_the_excess_at_a_gap(self):
        self.check((4, (3, 4, 9, 20)), (), (0, 1, 2, 3), "plan")
        self.check((3, (3, 4, 9, 20)), (), (0, 1, 2, 3), "gap")
        self.check((3, (3, 4, 9, 20)), (), (0, 1, 2), "plan")
        self.check((3, (3, 4, 9, 20)), (3,), (0, 1, 2, 3), "plan")
        self.check((TOP, (TOP,)), (), (0,), "plan")
        self.check((TOP - 1, (TOP,)), (), (0,), "gap")
        self.assertEqual(certificate((TOP - 1, (TOP,)), (), (0,)), ("gap", 0, TOP))

    def test_either_a_plan_or_a_bar(self):
        for tower in TOWERS:
            for start, goal in pairs(tower):
                found = distances(all_moves(tower), start)
                numbers = range(sum(tower[1]) + 1) if sum(tower[1]) < 50 else plain_sums(tower)
                gaps = any(
                    certificate_holds(tower, start, goal, ("gap", low, high))
                    for low, high in itertools.combinations(numbers, 2)
                )
                light = certificate_holds(tower, start, goal, LIGHT)
                self.assertEqual(gaps or light, goal not in found, (tower, start, goal))


class HoldsTest(unittest.TestCase):
    def check(self, tower, start, goal, value, expected):
        """Check what certificate_holds says of the value."""
        found = answer_twice(self, certificate_holds, tower, start, goal, value)
        self.assertIs(found, expected, (tower, start, goal, value))

    def check_plainly(self, tower, start, goal, value):
        """Check it against the definition."""
        self.check(tower, start, goal, value, plainly_holds(tower, start, goal, value))


class HoldingBars(HoldsTest):
    V = (1, (1, 3))

    def test_light_for_all_pairs(self):
        for tower in TOWERS:
            for start, goal in pairs(tower):
                light = start != goal and plain_weight(tower, goal) <= plain_weight(tower, start)
                self.check(tower, start, goal, LIGHT, light)

    def test_all_gaps(self):
        for tower in [(1, (1, 3)), (2, (1, 3)), (1, (2,)), (2, (2, 6)), (3, (6, 2)), (1, (2, 2)), (1, ())]:
            for start, goal in pairs(tower):
                for low, high in itertools.product(range(-2, sum(tower[1]) + 3), repeat=2):
                    found = certificate_holds(tower, start, goal, ("gap", low, high))
                    self.assertIs(found, plain_gap(tower, start, goal, low, high), (tower, start, goal, low, high))

    def test_the_ends_of_a_gap(self):
        tower = (1, (10, 20))
        self.check(tower, (0,), (1,), ("gap", 10, 20), True)
        self.check(tower, (0,), (1,), ("gap", 9, 20), False)
        self.check(tower, (0,), (1,), ("gap", 10, 21), False)
        self.check(tower, (0,), (1,), ("gap", 11, 19), True)
        self.check(tower, (0,), (0, 1), ("gap", 10, 20), True)
        self.check(tower, (0,), (0, 1), ("gap", 10, 21), False)
        self.check(tower, (0,), (0, 1), ("gap", 20, 30), True)
        self.check(tower, (0,), (0, 1), ("gap", 19, 30), False)
        self.check(tower, (0,), (0, 1), ("gap", 21, 29), True)
        self.check(tower, (), (0,), ("gap", 0, 10), True)
        self.check(tower, (), (0,), ("gap", -1, 10), False)
        self.check(tower, (), (0,), ("gap", 0, 11), False)

    def test_the_width_of_a_gap(self):
        for excess in (1, 2, 9):
            tower = (excess, (20,))
            for low in range(20):
                self.check(tower, (), (0,), ("gap", low, low + excess), False)
                self.check(tower, (), (0,), ("gap", low, low + excess + 1), low + excess + 1 <= 20)
                self.check(tower, (), (0,), ("gap", low + 1, low), False)
                self.check(tower, (), (0,), ("gap", low, low), False)

    def test_numbers_that_are_nobodys_weight(self):
        self.check((1, (1, 9)), (), (1,), ("gap", 2, 9), True)
        self.check((1, (1, 9)), (), (1,), ("gap", 2, 4), True)
        self.check((1, (1, 9)), (), (1,), ("gap", 2, 3), False)
        self.check((1, (1, 9)), (), (1,), ("gap", 6, 8), True)
        self.check((1, (1, 9)), (), (1,), ("gap", 0, 2), False)
        self.check((1, (1, 9)), (0,), (1,), ("gap", 0, 9), False)

    def test_another_order(self):
        self.check(self.V, (), (1,), ("gap", 3, 1), False)
        self.check(self.V, (), (1,), (1, 3, "gap"), False)
        self.check(self.V, (), (1,), ("gap", (1, 3)), False)
        self.check(self.V, (1,), (), ("gap", 1, 3), False)

    def test_bools_in_a_gap(self):
        self.check(self.V, (), (1,), ("gap", 1, 3), True)
        self.check(self.V, (), (1,), ("gap", True, 3), False)
        self.check(self.V, (), (1,), ("gap", 1, 3), True)
        self.check((1, (5,)), (), (0,), ("gap", False, 5), False)
        self.check((1, (5,)), (), (0,), ("gap", 0, 5), True)
        self.check((1, (5,)), (), (0,), ("gap", False, True), False)

    def test_words(self):
        for word in ["", "Gap", "gaps", "light", "plan", "bar", None, 0, True, ("gap",), ["gap"], {"gap": 1}]:
            self.check(self.V, (), (1,), (word, 1, 3), False)
        for word in ["", "Light", "gap", "plan", None, 0, True, LIGHT, [LIGHT], {"light": 1}]:
            self.check(self.V, (1,), (0,), (word,), False)
        for value in ["light", ["light"], ("light", None), ("light", ()), ("light", "light"), {"light": None}]:
            self.check(self.V, (1,), (0,), value, False)

    def test_a_bar_of_another_pair(self):
        for tower in TOWERS:
            made = {certificate(tower, start, goal) for start, goal in pairs(tower)}
            bars = [value for value in made if value[0] != "plan"]
            for start, goal in pairs(tower):
                for value in bars:
                    self.check_plainly(tower, start, goal, value)

    def test_parts_replaced(self):
        for value in [("gap", 1, 3), LIGHT]:
            for changed in replaced(value, (*PARTS, 3, 4, "gap", "light", "plan")) + reshaped(value):
                for start, goal in pairs(self.V):
                    self.check_plainly(self.V, start, goal, changed)


class HoldingPlans(HoldsTest):
    U = (2, (1, 3))
    PLAN = (((0,), ()), ((1,), (0,)), ((0,), ()))

    def test_plans_of_all_pairs(self):
        for tower in [(2, (1, 3)), (4, (3, 4, 9)), (2, (2, 2, 1))]:
            plans = [find_plan(tower, start, goal) for start, goal in pairs(tower)]
            for plan in {plan for plan in plans if plan is not None}:
                for start, goal in pairs(tower):
                    self.check_plainly(tower, start, goal, ("plan", plan))

    def test_plans_with_more_moves_than_needed(self):
        self.check((9, (1, 3)), (), (0, 1), ("plan", self.PLAN), True)
        self.check((9, (1, 3)), (), (0, 1), ("plan", (((0, 1), ()),)), True)
        self.check((9, (1, 3)), (), (0, 1), ("plan", (((1,), ()), ((0,), ()))), True)

    def test_plans_that_lead_elsewhere(self):
        self.check(self.U, (), (0, 1), ("plan", self.PLAN), True)
        self.check(self.U, (), (0, 1), ("plan", self.PLAN[:2]), False)
        self.check(self.U, (), (1,), ("plan", self.PLAN[:2]), True)
        self.check(self.U, (), (1,), ("plan", self.PLAN), False)
        self.check(self.U, (0,), (0, 1), ("plan", self.PLAN), False)
        self.check((1, (1, 3)), (), (0, 1), ("plan", self.PLAN), False)
        self.check((9, (4, 1, 3)), (), (0,), ("plan", (((1, 2), ()),)), False)

    def test_the_empty_plan(self):
        for tower in TOWERS:
            for start, goal in pairs(tower):
                self.check(tower, start, goal, ("plan", ()), start == goal)

    def test_parts_replaced(self):
        value = ("plan", self.PLAN)
        parts = (*PARTS, "light", (1,), ((0,), ()), ((1,), (0,)), self.PLAN)
        for changed in replaced(value, parts) + reshaped(value):
            for start, goal in [((), (0, 1)), ((), (1,)), ((0,), (0, 1)), ((1,), (0,)), ((0,), (0,))]:
                self.check_plainly(self.U, start, goal, changed)

    def test_bools_among_the_people(self):
        right = ("plan", self.PLAN)
        for wrong in [
            ("plan", (((False,), ()), ((1,), (0,)), ((0,), ()))),
            ("plan", (((0,), ()), ((True,), (0,)), ((0,), ()))),
            ("plan", (((0,), ()), ((1,), (False,)), ((0,), ()))),
        ]:
            self.check(self.U, (), (0, 1), right, True)
            self.check(self.U, (), (0, 1), wrong, False)
            self.check(self.U, (), (0, 1), right, True)

    def test_forms(self):
        for value in [self.PLAN, ["plan", self.PLAN], ("plan", list(self.PLAN)), ("plan", *self.PLAN), ("plan",),
                      ("plan", self.PLAN, None), ("Plan", self.PLAN), (self.PLAN, "plan"),
                      ("plan", (self.PLAN,)), (("plan", self.PLAN),), ("light", self.PLAN), ("gap", self.PLAN)]:
            self.check(self.U, (), (0, 1), value, False)

    def test_a_long_plan(self):
        tower = (1, tuple([2 ** person for person in range(8)]))
        plan = find_plan(tower, (), tuple(range(8)))
        self.assertEqual(len(plan), 255)
        self.check(tower, (), tuple(range(8)), ("plan", plan), True)
        self.check(tower, (), tuple(range(1, 8)), ("plan", plan[:-1]), True)
        for at in (0, 100, 254):
            self.check(tower, (), tuple(range(8)), ("plan", plan[:at] + plan[at + 1:]), False)
            self.check(tower, (), tuple(range(8)), ("plan", plan[:at] + (plan[at],) + plan[at:]), False)


class HoldingNothing(HoldsTest):
    def test_values_of_other_kinds(self):
        for tower in [(1, ()), (2, (1, 3)), (1, (1, 3))]:
            everybody = tuple(range(len(tower[1])))
            for start, goal in [((), ()), ((), everybody), (everybody, ())]:
                for value in odd_values():
                    self.check(tower, start, goal, value, False)
                    self.check(tower, start, goal, ("plan", value), value == () and start == goal)
                    self.check(tower, start, goal, ("plan", (value,)), False)
                    self.check(tower, start, goal, ("gap", value, value), False)
                    self.check(tower, start, goal, (value,), False)

    def test_odd_numbers_of_a_gap(self):
        tower = (1, (1, 3))
        for value in odd_values():
            self.check(tower, (), (1,), ("gap", value, 3), repr(value) == "1")
            self.check(tower, (), (1,), ("gap", 1, value), False)


if __name__ == "__main__":
    unittest.main()
