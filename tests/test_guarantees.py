"""The guarantees of point 2, over the whole program."""

import itertools
import random
import unittest

from basketrope.hoists import Hoist, PromisedHoist
from basketrope.moves import is_move, is_plan
from basketrope.plans import certificate, certificate_holds, fewest_moves, find_plan
from basketrope.promises import Promise
from basketrope.reach import can_reach, reach_weight, stuck_person
from basketrope.stones import fewest_stones, stones_for, stones_hold
from basketrope.towers import is_group, tower_error
from basketrope.values import Basket, Load
from tests.hoisting import V, do, drawn_edit
from tests.plain import all_moves, distances, plain_groups, plain_sums, plain_stones_hold, plain_weight

TOP = 10 ** 6


def drawn_towers(seed, many, most_people):
    """Return towers of few people, most of them light ones."""
    draw = random.Random(seed)
    towers = []
    for at in range(many):
        people = at % (most_people + 1)
        most = draw.choice([3, 8, 20])
        towers.append((draw.randint(1, 4), tuple([draw.randint(1, most) for _ in range(people)])))
    return towers


class PlansAndBars(unittest.TestCase):
    def test_either_a_plan_or_a_bar(self):
        for tower in drawn_towers(1, 40, 4):
            moves = all_moves(tower)
            sums = plain_sums(tower)
            for start in moves:
                found = distances(moves, start)
                for goal in moves:
                    bars = [("gap", low, high) for low, high in itertools.combinations(sums, 2)] + [("light",)]
                    barred = any([certificate_holds(tower, start, goal, bar) for bar in bars])
                    self.assertEqual(barred, goal not in found)
                    self.assertEqual(find_plan(tower, start, goal) is None, barred)
                    made = certificate(tower, start, goal)
                    self.assertIs(certificate_holds(tower, start, goal, made), True)
                    self.assertEqual(made[0] == "plan", not barred)


class Reach(unittest.TestCase):
    def test_the_groups_that_can_be_reached(self):
        for tower in drawn_towers(2, 200, 5):
            found = distances(all_moves(tower), ())
            stuck = stuck_person(tower)
            for group in plain_groups(len(tower[1])):
                light = plain_weight(tower, group) <= reach_weight(tower)
                self.assertEqual(group in found, light)
                self.assertIs(can_reach(tower, group), light)
                lighter = [person for person in group if stuck is None or tower[1][person] < tower[1][stuck]]
                self.assertEqual(light, len(lighter) == len(group))

    def test_a_greater_excess_or_a_further_person(self):
        draw = random.Random(3)
        for excess, weights in drawn_towers(4, 200, 7):
            groups = plain_groups(len(weights))
            start, goal = draw.choice(groups), draw.choice(groups)
            reached = reach_weight((excess, weights))
            fewest = fewest_moves((excess, weights), start, goal)
            for more in range(1, 6):
                self.assertGreaterEqual(reach_weight((excess + more, weights)), reached)
                self.assertGreaterEqual(reach_weight((excess, (*weights, draw.randint(1, 30)))), reached)
                if fewest is not None:
                    self.assertLessEqual(fewest_moves((excess + more, weights), start, goal), fewest)


class Stones(unittest.TestCase):
    def test_with_them_and_with_fewer(self):
        for tower in drawn_towers(5, 120, 3):
            stones = stones_for(tower)
            self.assertEqual(len(stones), fewest_stones(tower))
            if len(stones) + len(tower[1]) <= 6:
                self.assertTrue(plain_stones_hold(tower, stones))
                everybody = tuple(range(len(tower[1]) + len(stones)))
                self.assertIn(everybody, distances(all_moves((tower[0], (*tower[1], *stones))), ()))
            if 1 <= len(stones) <= 3:
                weights = range(1, max(tower[1]) + 2)
                for fewer in itertools.combinations_with_replacement(weights, len(stones) - 1):
                    self.assertIs(stones_hold(tower, fewer), False)

    def test_what_is_accepted_is_correct(self):
        draw = random.Random(6)
        for tower in drawn_towers(7, 200, 3):
            stones = tuple([draw.randint(1, 12) for _ in range(draw.randint(0, 3))])
            self.assertEqual(stones_hold(tower, stones), plain_stones_hold(tower, stones))


class ObjectsAsAnyValues(unittest.TestCase):
    def test_objects_of_the_package(self):
        for thing in (Load(()), Load((3,)), Basket(1), Promise(0), Hoist((1, ())), PromisedHoist((1, ()), 0)):
            self.assertEqual(tower_error(thing), (None, "tower"))
            self.assertEqual(tower_error((thing, ())), (None, "excess"))
            self.assertEqual(tower_error((1, thing)), (None, "weights"))
            self.assertEqual(tower_error((1, (1, thing))), (1, "weight"))
            for value in (thing, (thing,), (0, thing), [thing]):
                self.assertIs(is_group(V, value), False)
                self.assertIs(stones_hold(V, value), False)
            for value in (thing, (thing, ()), ((0,), thing), ((thing,), ())):
                self.assertIs(is_move(V, (), value), False)
                self.assertIs(is_plan(V, (), (value,)), False)
            for value in (thing, (thing,), ("plan", thing), ("gap", thing, 3), ("gap", 1, thing), (thing, 1, 3)):
                self.assertIs(certificate_holds(V, (), (1,), value), False)


class HoistsAfterEdits(unittest.TestCase):
    def check_like_new(self, hoist):
        """Check that the hoist tells what a new one with the same tower does."""
        new = Hoist(hoist.tower)
        self.assertEqual(repr([hoist.tower, hoist.reach, hoist.is_free]), repr([new.tower, new.reach, new.is_free]))
        self.assertEqual(repr(hoist.state()), repr(new.state()))
        self.assertEqual(repr(list(hoist.walk())), repr(list(new.walk())))
        self.assertIs(hoist == new, True)
        if len(hoist.tower[1]) <= 6:
            for goal in plain_groups(len(hoist.tower[1])):
                self.assertEqual(repr(hoist.certificate(goal)), repr(new.certificate(goal)))

    def test_many_edits_and_undos(self):
        draw = random.Random(8)
        for start in [(1, ()), (1, (1, 3)), (4, (3, 4, 9, 20)), (TOP, (TOP,) * 24)]:
            hoist = Hoist(start)
            for at in range(300):
                way = draw.random()
                if len(hoist) > 0 and (len(hoist) > 55 or way < 0.4):
                    hoist.undo()
                elif way < 0.5:
                    edits = [drawn_edit(draw, hoist.tower)]
                    hoist.attempt(edits, watch=self.check_like_new)
                else:
                    do(hoist, drawn_edit(draw, hoist.tower))
                if at % 7 == 0:
                    self.check_like_new(hoist)
            while len(hoist) > 0:
                hoist.undo()
            self.check_like_new(hoist)
            self.assertEqual(hoist.tower, start)


if __name__ == "__main__":
    unittest.main()
