"""is_group and weight_of."""

import itertools
import random
import unittest

from basketrope.towers import is_group, weight_of
from tests.samples import LONGEST_INT, answer_twice, odd_values

TOP = 10 ** 6


def drawn_tower(draw, people):
    """Return a tower of so many people."""
    return (draw.randint(1, TOP), tuple([draw.choice([1, 2, TOP, draw.randint(1, TOP)]) for _ in range(people)]))


def drawn_groups(seed, many):
    """Return towers of none to 24 people, each with a group of them."""
    draw = random.Random(seed)
    drawn = []
    for at in range(many):
        people = at % 25
        chosen = draw.sample(range(people), draw.randint(0, people))
        drawn.append((drawn_tower(draw, people), tuple(sorted(chosen))))
    return drawn


class GroupTest(unittest.TestCase):
    def check(self, tower, value, expected):
        """Check what is_group says of the value."""
        self.assertIs(answer_twice(self, is_group, tower, value), expected, (tower, value))


class Groups(GroupTest):
    def test_all_short_tuples(self):
        for people in range(5):
            tower = (1, tuple(range(1, people + 1)))
            groups = {group for size in range(people + 1) for group in itertools.combinations(range(people), size)}
            for size in range(people + 2):
                for value in itertools.product(range(-1, people + 1), repeat=size):
                    self.assertIs(is_group(tower, value), value in groups, (tower, value))

    def test_drawn_groups(self):
        for tower, group in drawn_groups(1, 200):
            self.check(tower, group, True)

    def test_nobody_and_everybody(self):
        for people in range(25):
            tower = (1, (3,) * people)
            self.check(tower, (), True)
            self.check(tower, tuple(range(people)), True)
            self.check(tower, tuple(range(people + 1)), False)

    def test_one_person(self):
        for people in range(25):
            tower = (1, (3,) * people)
            for person in range(people):
                self.check(tower, (person,), True)
            for nobody in [-1, -people - 1, people, people + 1, TOP, LONGEST_INT, -LONGEST_INT]:
                self.check(tower, (nobody,), False)

    def test_weights_do_not_matter(self):
        for weights in [(1, 2, 3), (3, 2, 1), (TOP, TOP, TOP)]:
            self.check((1, weights), (0, 1, 2), True)
            self.check((1, weights), (0, 2), True)
            self.check((1, weights), (2, 0), False)
            self.check((1, weights), (1, 2, 3), False)


class ChangedGroups(GroupTest):
    def test_a_person_left_out(self):
        for tower, group in drawn_groups(2, 50):
            for at in range(len(group)):
                self.check(tower, group[:at] + group[at + 1:], True)

    def test_a_person_put_in(self):
        for tower, group in drawn_groups(3, 50):
            for person in range(len(tower[1])):
                if person not in group:
                    self.check(tower, tuple(sorted([*group, person])), True)

    def test_a_person_twice(self):
        for tower, group in drawn_groups(4, 50):
            for at in range(len(group)):
                self.check(tower, group[:at] + (group[at],) + group[at:], False)
                self.check(tower, group + (group[at],), False)

    def test_another_order(self):
        draw = random.Random(5)
        for tower, group in drawn_groups(6, 100):
            mixed = tuple(draw.sample(group, len(group)))
            self.check(tower, mixed, mixed == group)
            self.check(tower, group[::-1], len(group) < 2)
            for at in range(1, len(group)):
                self.check(tower, group[:at - 1] + (group[at], group[at - 1]) + group[at + 1:], False)

    def test_somebody_who_is_not_there(self):
        for tower, group in drawn_groups(7, 50):
            people = len(tower[1])
            self.check(tower, (-1, *group), False)
            self.check(tower, (*group, people), False)
            self.check(tower, (*group, LONGEST_INT), False)
            if group:
                self.check(tower, (-1, *group[1:]), False)
                self.check(tower, (*group[:-1], people), False)

    def test_a_person_replaced_by_something_else(self):
        for tower, group in drawn_groups(8, 50):
            for at in range(len(group)):
                for wrong in [None, True, False, "", str(group[at]), (group[at],), [group[at]], {}, ()]:
                    self.check(tower, group[:at] + (wrong,) + group[at + 1:], False)

    def test_lists(self):
        for tower, group in drawn_groups(9, 50):
            self.check(tower, list(group), False)


class OtherKinds(GroupTest):
    def test_other_kinds(self):
        for tower in [(1, ()), (2, (1, 3)), (1, (7,) * 24)]:
            for value in odd_values():
                self.check(tower, value, value == ())

    def test_towers_are_no_groups(self):
        tower = (2, (1, 3))
        self.check(tower, tower, False)
        self.check(tower, (0, (1,)), False)

    def test_numbers_then_bools_then_numbers(self):
        tower = (2, (1, 3))
        for number, truth in [((0,), (False,)), ((1,), (True,)), ((0, 1), (False, True)), ((0, 1), (0, True)),
                              ((0, 1), (False, 1))]:
            self.check(tower, number, True)
            self.check(tower, truth, False)
            self.check(tower, number, True)

    def test_bools_then_numbers(self):
        tower = (5, (8, 8, 8))
        for value, expected in [((False, 2), False), ((0, 2), True), ((True, 2), False), ((1, 2), True)]:
            self.check(tower, value, expected)


class Weights(unittest.TestCase):
    def check(self, tower, group, expected):
        """Check the weight of the group, which is an int."""
        found = answer_twice(self, weight_of, tower, group)
        self.assertIs(type(found), int)
        self.assertEqual(found, expected, (tower, group))

    def test_nobody(self):
        for people in range(25):
            self.check((1, (7,) * people), (), 0)

    def test_one_person(self):
        tower = (3, (20, 3, 9, 4))
        for person, weight in [(0, 20), (1, 3), (2, 9), (3, 4)]:
            self.check(tower, (person,), weight)

    def test_each_person_counts_once(self):
        # Different groups have different weights here, so each sum tells who was counted.
        tower = (1, tuple([2 ** person for person in range(19, -1, -1)]))
        draw = random.Random(10)
        for _ in range(100):
            group = tuple(sorted(draw.sample(range(20), draw.randint(0, 20))))
            self.check(tower, group, int("".join(["01"[person in group] for person in range(20)]), 2))

    def test_drawn_groups(self):
        for tower, group in drawn_groups(11, 200):
            expected = 0
            for person, weight in enumerate(tower[1]):
                if person in group:
                    expected += weight
            self.check(tower, group, expected)

    def test_equal_weights(self):
        for size in range(25):
            self.check((1, (5,) * 24), tuple(range(size)), 5 * size)

    def test_the_heaviest(self):
        self.check((TOP, (TOP,) * 24), tuple(range(24)), 24 * TOP)

    def test_the_excess_does_not_matter(self):
        for excess in (1, 2, TOP):
            self.check((excess, (3, 4, 9, 20)), (1, 3), 24)


if __name__ == "__main__":
    unittest.main()
