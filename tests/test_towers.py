"""is_tower and tower_error."""

import random
import unittest

from basketrope.towers import is_tower, tower_error
from tests.samples import WRONG_NUMBERS, answer_twice, odd_values

TOP = 10 ** 6
EDGES = (1, 2, TOP - 1, TOP)
TOWER = (None, "tower")
EXCESS = (None, "excess")
WEIGHTS = (None, "weights")


def drawn_towers(seed, many):
    """Return towers of none to 24 people, many of their numbers at the bounds."""
    draw = random.Random(seed)
    towers = []
    for at in range(many):
        weights = [draw.choice([*EDGES, draw.randint(1, TOP)]) for _ in range(at % 25)]
        towers.append((draw.choice([*EDGES, draw.randint(1, TOP)]), tuple(weights)))
    return towers


class TowerTest(unittest.TestCase):
    def check(self, value, error):
        """Check both functions: the error is the one expected (None for a tower)."""
        self.assertEqual(repr(answer_twice(self, tower_error, value)), repr(error), value)
        self.assertIs(answer_twice(self, is_tower, value), error is None, value)


class Towers(TowerTest):
    def test_towers(self):
        for tower in drawn_towers(1, 100):
            self.check(tower, None)

    def test_each_number_of_people(self):
        for people in range(25):
            for number in EDGES:
                self.check((number, (number,) * people), None)

    def test_towers_of_the_document(self):
        for tower in [(2, (1, 3)), (1, (1, 3)), (4, (3, 4, 9, 20)), (1, ()), (9, ()), (3, (20, 3, 9, 4))]:
            self.check(tower, None)

    def test_a_weight_left_out(self):
        for excess, weights in drawn_towers(2, 50):
            for at in range(len(weights)):
                self.check((excess, weights[:at] + weights[at + 1:]), None)

    def test_a_weight_put_in(self):
        for excess, weights in drawn_towers(3, 50):
            for at in range(len(weights) + 1):
                more = weights[:at] + (TOP,) + weights[at:]
                self.check((excess, more), None if len(more) <= 24 else WEIGHTS)


class WrongForm(TowerTest):
    def test_numbers_of_parts(self):
        for excess, weights in drawn_towers(4, 25):
            for value in [(), (excess,), (weights,), (excess, weights, excess), (excess, weights, weights),
                          (excess, weights, None), (excess, *weights, 1, 1), ((excess, weights),)]:
                self.check(value, TOWER)

    def test_parts_exchanged(self):
        for excess, weights in drawn_towers(5, 25):
            self.check((weights, excess), EXCESS)

    def test_lists_in_place_of_tuples(self):
        for excess, weights in drawn_towers(6, 25):
            self.check([excess, weights], TOWER)
            self.check([excess, list(weights)], TOWER)
            self.check((excess, list(weights)), WEIGHTS)
            self.check(([excess], weights), EXCESS)
            for at in range(len(weights)):
                self.check((excess, weights[:at] + ([weights[at]],) + weights[at + 1:]), (at, "weight"))

    def test_other_kinds(self):
        for value in odd_values():
            error = EXCESS if isinstance(value, tuple) and len(value) == 2 else TOWER
            self.check(value, error)

    def test_other_kinds_as_weights(self):
        for value in [None, True, False, 0, 1, TOP, "", "1", "ab", [], [1], [1, 3], {}, {"a": 1}, {"1": 1, "3": 3}]:
            self.check((2, value), WEIGHTS)

    def test_other_kinds_of_two_items(self):
        for value in ["12", ["2", "1"], [1, ()], {"a": 1, "b": ()}, [[], []]]:
            self.check(value, TOWER)


class WrongNumbers(TowerTest):
    def test_excess_replaced(self):
        for _, weights in drawn_towers(7, 25):
            for wrong in WRONG_NUMBERS:
                self.check((wrong, weights), EXCESS)

    def test_a_weight_replaced(self):
        for excess, weights in drawn_towers(8, 25):
            for at in range(len(weights)):
                for wrong in WRONG_NUMBERS:
                    self.check((excess, weights[:at] + (wrong,) + weights[at + 1:]), (at, "weight"))

    def test_a_wrong_weight_put_in(self):
        for excess, weights in drawn_towers(9, 25):
            for at in range(len(weights) + 1):
                for wrong in (0, True, None, TOP + 1):
                    error = (at, "weight") if len(weights) < 24 else WEIGHTS
                    self.check((excess, weights[:at] + (wrong,) + weights[at:]), error)

    def test_the_bounds(self):
        for number, right in [(-1, False), (0, False), (1, True), (TOP, True), (TOP + 1, False)]:
            self.check((number, ()), None if right else EXCESS)
            self.check((number, (5,)), None if right else EXCESS)
            self.check((5, (number,)), None if right else (0, "weight"))
            self.check((5, (5, number)), None if right else (1, "weight"))

    def test_the_bound_of_people(self):
        self.check((1, (1,) * 24), None)
        self.check((1, (1,) * 25), WEIGHTS)
        self.check((1, (1,) * 26), WEIGHTS)
        self.check((1, (1,) * 998), WEIGHTS)


class TwoThingsWrong(TowerTest):
    def test_the_form_comes_first(self):
        for value in [(0,), (0, (0,), 1), [0, (0,)], (0, None, None), (True, [0], 0)]:
            self.check(value, TOWER)

    def test_then_the_excess(self):
        for excess in WRONG_NUMBERS:
            for weights in [None, [], [1], "ab", (0,), (1, True), (1,) * 25, (0,) * 25]:
                self.check((excess, weights), EXCESS)

    def test_then_the_weights(self):
        for weights in [[0], [True, 0], (0,) * 25, (True,) * 25, (1,) * 24 + (None,), {"a": 0}]:
            self.check((1, weights), WEIGHTS)

    def test_then_the_first_weight(self):
        draw = random.Random(10)
        for excess, weights in drawn_towers(11, 100):
            if weights:
                wrong = draw.sample(range(len(weights)), draw.randint(1, len(weights)))
                value = list(weights)
                for at in wrong:
                    value[at] = draw.choice(WRONG_NUMBERS)
                self.check((excess, tuple(value)), (min(wrong), "weight"))


class OneAndTrue(TowerTest):
    def test_one_then_true_then_one(self):
        for right, wrong, error in [
            ((1, ()), (True, ()), EXCESS),
            ((1, (1,)), (True, (1,)), EXCESS),
            ((1, (1,)), (1, (True,)), (0, "weight")),
            ((1, (7, 1, 1)), (1, (7, 1, True)), (2, "weight")),
            ((1, (1,) * 24), (1, (1,) * 23 + (True,)), (23, "weight")),
        ]:
            self.check(right, None)
            self.check(wrong, error)
            self.check(right, None)

    def test_true_then_one_then_true(self):
        self.check((3, (True, 4)), (0, "weight"))
        self.check((3, (1, 4)), None)
        self.check((3, (True, 4)), (0, "weight"))
        self.check((True, (6,)), EXCESS)
        self.check((1, (6,)), None)
        self.check((True, (6,)), EXCESS)

    def test_zero_and_false_are_both_wrong(self):
        for number in (0, False, 0):
            self.check((number, ()), EXCESS)
            self.check((1, (number,)), (0, "weight"))


if __name__ == "__main__":
    unittest.main()
