"""is_move, after_move and move_between."""

import itertools
import random
import unittest

from basketrope.moves import after_move, is_move, move_between
from tests.plain import plain_groups, plain_moves, plain_weight
from tests.samples import LONGEST_INT, answer_twice, odd_values, replaced, reshaped

TOP = 10 ** 6

SMALL_TOWERS = (
    (1, ()), (1, (1,)), (1, (2,)), (2, (1, 3)), (1, (1, 3)), (2, (2, 2)), (3, (20, 3, 9, 4)), (4, (3, 4, 9, 20)),
    (5, (5, 5, 6, 11)), (TOP, (TOP, 1, TOP - 1)), (1, (4, 2, 1)),
)


def with_weights(excess, down, up):
    """Return a tower, a group and a move in which people of these weights go down and up; two more stay."""
    people = len(down) + len(up)
    above = tuple(range(len(down)))
    below = tuple(range(len(down), people))
    return (excess, (*down, *up, 50, 60)), (*below, people), (above, below)


class MoveTest(unittest.TestCase):
    def check(self, tower, group, value, expected):
        """Check what is_move says of the value."""
        self.assertIs(answer_twice(self, is_move, tower, group, value), expected, (tower, group, value))


class AllMoves(MoveTest):
    def test_all_pairs_of_groups(self):
        for tower in SMALL_TOWERS:
            groups = plain_groups(len(tower[1]))
            for group in groups:
                possible = {move for move, _ in plain_moves(tower, group)}
                for move in itertools.product(groups, groups):
                    self.assertIs(is_move(tower, group, move), move in possible, (tower, group, move))

    def test_all_pairs_of_short_tuples(self):
        tower = (3, (1, 2, 4))
        parts = [part for size in range(4) for part in itertools.product(range(-1, 4), repeat=size)]
        for group in plain_groups(3):
            possible = {move for move, _ in plain_moves(tower, group)}
            for move in itertools.product(parts, parts):
                self.assertIs(is_move(tower, group, move), move in possible, (group, move))

    def test_where_all_moves_lead(self):
        for tower in SMALL_TOWERS:
            for group in plain_groups(len(tower[1])):
                for move, reached in plain_moves(tower, group):
                    self.assertEqual(answer_twice(self, after_move, tower, group, move), reached)


class Loads(MoveTest):
    def test_heavier_by_one_to_excess(self):
        for excess in (1, 2, 7, TOP - 4):
            for more, expected in [(0, False), (1, True), (excess, True), (excess + 1, False)]:
                self.check(*with_weights(excess, (3 + more,), (3,)), expected)
                self.check(*with_weights(excess, (3,), (3 + more,)), False)
                self.check(*with_weights(excess, (TOP, 1 + more), (TOP, 1)), expected)

    def test_several_people(self):
        self.check(*with_weights(2, (3, 4), (6,)), True)
        self.check(*with_weights(2, (3, 4), (5,)), True)
        self.check(*with_weights(2, (3, 4), (4,)), False)
        self.check(*with_weights(2, (7,), (3, 4)), False)
        self.check(*with_weights(2, (8,), (3, 4)), True)
        self.check(*with_weights(2, (5, 5), (3, 3, 3)), True)

    def test_nobody_in_the_lower_basket(self):
        self.check((5, (5, 6)), (), ((0,), ()), True)
        self.check((5, (5, 6)), (), ((1,), ()), False)
        self.check((5, (5, 6)), (0,), ((1,), ()), False)
        self.check((11, (5, 6)), (), ((0, 1), ()), True)
        self.check((10, (5, 6)), (), ((0, 1), ()), False)

    def test_nobody_in_the_upper_basket(self):
        self.check((5, (5, 6)), (0,), ((), (0,)), False)
        self.check((5, (5, 6)), (0, 1), ((), (0, 1)), False)

    def test_nobody_in_both_baskets(self):
        for tower in SMALL_TOWERS:
            for group in plain_groups(len(tower[1])):
                self.check(tower, group, ((), ()), False)

    def test_the_greatest_loads(self):
        tower = (TOP, (TOP,) * 24)
        self.check(tower, (), ((0,), ()), True)
        self.check(tower, (), ((0, 1), ()), False)
        self.check(tower, tuple(range(11)), (tuple(range(11, 23)), tuple(range(11))), True)
        self.check(tower, tuple(range(12)), (tuple(range(12, 24)), tuple(range(12))), False)
        self.check((TOP - 1, (TOP,) * 24), (), ((0,), ()), False)


class WrongParts(MoveTest):
    TOWER = (3, (3, 4, 5, 6, 6))

    def test_somebody_in_the_wrong_part(self):
        group = (0, 1)
        self.check(self.TOWER, group, ((2,), (1,)), True)
        self.check(self.TOWER, group, ((1,), (0,)), False)
        self.check(self.TOWER, group, ((2,), (3,)), False)
        self.check(self.TOWER, group, ((1, 2), (0, 1)), False)
        self.check(self.TOWER, group, ((3, 4), (0, 1, 2)), False)
        self.check(self.TOWER, group, ((0,), ()), False)

    def test_the_same_person_in_both_parts(self):
        # The weights would do: 4 against 3, with 5 on both sides.
        self.check(self.TOWER, (0,), ((1, 2), (0, 2)), False)
        self.check(self.TOWER, (0, 2), ((1, 2), (0, 2)), False)
        self.check(self.TOWER, (0, 2), ((1,), (0,)), True)

    def test_parts_exchanged(self):
        self.check(self.TOWER, (0,), ((1,), (0,)), True)
        self.check(self.TOWER, (0,), ((0,), (1,)), False)
        self.check(self.TOWER, (1,), ((1,), (0,)), False)

    def test_parts_that_are_no_groups(self):
        group = (0, 1)
        self.check(self.TOWER, group, ((2, 3), (0, 1)), False)
        self.check((4, self.TOWER[1]), group, ((2, 3), (0, 1)), True)
        for down, up in [((3, 2), (0, 1)), ((2, 3), (1, 0)), ((2, 2), (0, 1)), ((2, 3), (0, 0, 1)), ((2, 5), (0, 1)),
                         ((2, 3), (-5, 1)), ((-3, 3), (0, 1))]:
            self.check((4, self.TOWER[1]), group, (down, up), False)

    def test_somebody_who_is_not_there(self):
        for nobody in (-1, 5, 6, 24, LONGEST_INT, -LONGEST_INT):
            self.check(self.TOWER, (0,), ((nobody,), (0,)), False)
            self.check(self.TOWER, (0,), ((1,), (nobody,)), False)
            self.check(self.TOWER, (), ((nobody,), ()), False)

    def test_numbers_of_parts(self):
        for value in [(), ((1,),), ((1,), (0,), ()), ((1,), (0,), (0,)), (1, 0), ((1,), 0), (1, (0,)), ((1, 0),)]:
            self.check(self.TOWER, (0,), value, False)


class OtherKinds(MoveTest):
    def test_lists(self):
        tower = (3, (3, 4, 5))
        self.check(tower, (0,), ((1,), (0,)), True)
        for value in [[(1,), (0,)], ([1], (0,)), ((1,), [0]), [[1], [0]], ((1,), []), ([1], ())]:
            self.check(tower, (0,), value, False)
        self.check(tower, (), ((0,), []), False)
        self.check(tower, (), ([0], ()), False)

    def test_bools_among_the_people(self):
        tower = (4, (3, 4, 5))
        for group, right, wrong in [
            ((0,), ((1,), (0,)), ((True,), (0,))),
            ((0,), ((1,), (0,)), ((1,), (False,))),
            ((1,), ((0, 2), (1,)), ((False, 2), (1,))),
            ((1,), ((2,), (1,)), ((2,), (True,))),
            ((), ((0,), ()), ((False,), ())),
        ]:
            self.check(tower, group, right, True)
            self.check(tower, group, wrong, False)
            self.check(tower, group, right, True)

    def test_parts_replaced(self):
        for tower, group in [((4, (3, 4, 5, 8)), (0, 1)), ((2, (1, 3)), (0,)), ((2, (1, 3)), ())]:
            possible = {repr(move) for move, _ in plain_moves(tower, group)}
            for move, _ in plain_moves(tower, group):
                for value in replaced(move) + reshaped(move):
                    self.check(tower, group, value, repr(value) in possible)

    def test_values_of_other_kinds(self):
        for tower, group in [((1, ()), ()), ((2, (1, 3)), ()), ((2, (1, 3)), (0,)), ((4, (3, 4, 5, 8)), (0, 1))]:
            for value in odd_values():
                self.check(tower, group, value, False)
            for part in odd_values():
                self.check(tower, group, (part, part), False)
                self.check(tower, group, (part, (1,)), False)

    def test_a_tower_and_a_group_are_no_moves(self):
        self.check((2, (1, 3)), (), (2, (1, 3)), False)
        self.check((2, (1, 3)), (), (0,), False)
        self.check((2, (1, 3)), (), (0, 1), False)


class After(unittest.TestCase):
    def check(self, tower, group, move, expected):
        """Check to which group the move leads."""
        self.assertEqual(repr(answer_twice(self, after_move, tower, group, move)), repr(expected))

    def test_after(self):
        tower = (4, (3, 4, 5, 8))
        self.check(tower, (), ((0,), ()), (0,))
        self.check(tower, (0, 1), ((3,), (1,)), (0, 3))
        self.check(tower, (1,), ((0, 2), (1,)), (0, 2))
        self.check(tower, (2, 3), ((0, 1), (2,)), (0, 1, 3))
        self.check(tower, (0, 1, 2), ((3,), (1,)), (0, 2, 3))

    def test_two_dozen_people(self):
        draw = random.Random(1)
        for _ in range(50):
            weights = tuple([draw.randint(1, 20) for _ in range(24)])
            sides = [draw.randint(0, 2) for _ in range(24)]
            group = tuple([person for person in range(24) if sides[person] == 0 or draw.randint(0, 1)])
            down = tuple([person for person in range(24) if sides[person] == 1 and person not in group])
            up = tuple([person for person in group if sides[person] == 0])
            tower = (TOP, weights)
            if plain_weight(tower, down) > plain_weight(tower, up):
                expected = tuple(sorted((set(group) - set(up)) | set(down)))
                self.assertTrue(is_move(tower, group, (down, up)))
                self.check(tower, group, (down, up), expected)


class Between(unittest.TestCase):
    def check(self, tower, start, goal):
        """Check that the move leads to the goal if the weights allow one, and that there is none otherwise."""
        move = answer_twice(self, move_between, tower, start, goal)
        if 1 <= plain_weight(tower, goal) - plain_weight(tower, start) <= tower[0]:
            self.assertTrue(is_move(tower, start, move), (tower, start, goal))
            self.assertEqual(after_move(tower, start, move), goal)
        else:
            self.assertIsNone(move, (tower, start, goal))

    def test_all_pairs_of_groups(self):
        for tower in SMALL_TOWERS:
            for start, goal in itertools.product(plain_groups(len(tower[1])), repeat=2):
                self.check(tower, start, goal)

    def test_the_moves_are_the_possible_ones(self):
        for tower in SMALL_TOWERS:
            groups = plain_groups(len(tower[1]))
            for start in groups:
                found = [(move_between(tower, start, goal), goal) for goal in groups]
                moves = sorted([pair for pair in found if pair[0] is not None])
                self.assertEqual(moves, sorted(plain_moves(tower, start)))

    def test_differences_at_the_bounds(self):
        for excess in (1, 2, 9, TOP - 2):
            for difference, there in [(0, False), (1, True), (excess, True), (excess + 1, False)]:
                tower = (excess, (1, 1 + difference, 500))
                expected = ((1,), (0,)) if there else None
                self.assertEqual(move_between(tower, (0,), (1,)), expected)
                self.assertEqual(move_between(tower, (0, 2), (1, 2)), expected)
                self.assertIsNone(move_between(tower, (1,), (0,)))
                self.check(tower, (0,), (1,))

    def test_the_same_group(self):
        for tower in SMALL_TOWERS:
            for group in plain_groups(len(tower[1])):
                self.assertIsNone(answer_twice(self, move_between, tower, group, group))

    def test_a_lighter_goal(self):
        self.assertIsNone(move_between((3, (3, 4)), (1,), (0,)))
        self.assertIsNone(move_between((3, (3, 4)), (0,), ()))
        self.assertIsNone(move_between((TOP, (3, 4)), (0, 1), (0,)))

    def test_people_in_both_groups_stay(self):
        self.assertEqual(move_between((3, (3, 4, 5, 8)), (0, 1, 2), (1, 2, 3)), None)
        self.assertEqual(move_between((5, (3, 4, 5, 8)), (0, 1, 2), (1, 2, 3)), ((3,), (0,)))
        self.assertEqual(move_between((5, (3, 4, 5, 8)), (1, 2), (0, 1, 2)), ((0,), ()))

    def test_two_dozen_people(self):
        draw = random.Random(2)
        for _ in range(100):
            tower = (draw.choice([1, 5, 50]), tuple([draw.randint(1, 9) for _ in range(24)]))
            start, goal = [tuple(sorted(draw.sample(range(24), 12))) for _ in range(2)]
            self.check(tower, start, goal)


if __name__ == "__main__":
    unittest.main()
