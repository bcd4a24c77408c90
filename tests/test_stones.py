"""stones_for, fewest_stones and stones_hold."""

import itertools
import random
import unittest

from basketrope.reach import least_excess, reach_weight, stuck_person
from basketrope.stones import fewest_stones, stones_for, stones_hold
from basketrope.towers import is_weight
from basketrope.values import Load
from tests.plain import plain_stones_hold
from tests.samples import WRONG_NUMBERS, answer_twice, odd_values

TOP = 10 ** 6
V = (1, (1, 3))


def plain_stones(tower):
    """Return the stones straight from the description: everything before is kept in a list."""
    excess, weights = tower
    waiting = sorted(weights)
    before = []
    stones = []
    while waiting:
        if waiting[0] > excess + sum(before):
            stones.append(excess + sum(before))
            before.append(stones[-1])
        else:
            before.append(waiting.pop(0))
    return tuple(stones)


def drawn_towers(seed, many):
    """Return towers of none to 24 people, of light, heavy and mixed ones."""
    draw = random.Random(seed)
    towers = []
    for at in range(many):
        most = draw.choice([6, 50, 1000, TOP])
        weights = [draw.randint(1, draw.choice([6, most])) for _ in range(at % 25)]
        towers.append((draw.choice([1, 2, 3, 40, TOP // 50]), tuple(weights)))
    return towers


class For(unittest.TestCase):
    def check(self, tower, expected):
        """Check the stones and that they hold."""
        self.assertEqual(repr(answer_twice(self, stones_for, tower)), repr(expected), tower)
        self.assertEqual(repr(answer_twice(self, fewest_stones, tower)), repr(len(expected)), tower)
        self.assertIs(stones_hold(tower, expected), True)

    def test_nobody_stuck(self):
        self.check((1, ()), ())
        self.check((TOP, ()), ())
        self.check((1, (1,)), ())
        self.check((4, (3, 4, 9, 20)), ())
        self.check((TOP, (TOP,) * 24), ())
        self.check((1, (1, 2, 4, 8, 16)), ())

    def test_one_stuck(self):
        self.check(V, (2,))
        self.check((1, (3, 1)), (2,))
        self.check((3, (20, 3, 9, 4)), (19,))
        self.check((5, (6,)), (5,))
        self.check((5, (10,)), (5,))
        self.check((5, (11,)), (5, 10))

    def test_several_stuck(self):
        self.check((2, (9, 5, 9, 100)), (2, 4, 31, 62))
        self.check((1, (2, 2, 2)), (1,))
        self.check((1, (4, 4)), (1, 2))
        self.check((1, (10, 100, 1000)), (1, 2, 4, 8, 26, 52, 204, 408, 816))
        self.check((1, (11, 11, 1)), (2, 4, 8))

    def test_many_stones_for_one_person(self):
        self.check((1, (100,)), (1, 2, 4, 8, 16, 32, 64))
        self.check((1, (64,)), (1, 2, 4, 8, 16, 32))
        self.check((1, (65,)), (1, 2, 4, 8, 16, 32, 64))
        self.check((1, (TOP,)), tuple([2 ** at for at in range(20)]))
        self.check((1, (TOP,) * 24), tuple([2 ** at for at in range(20)]))
        self.check((TOP - 1, (TOP,)), (TOP - 1,))
        self.check((500000, (TOP,)), (500000,))
        self.check((499999, (TOP,)), (499999, 999998))

    def test_against_the_description(self):
        for tower in drawn_towers(1, 400):
            stones = plain_stones(tower)
            self.check(tower, stones)
            self.assertEqual(list(stones), sorted(set(stones)))
            self.assertTrue(all([is_weight(stone) for stone in stones]))

    def test_none_exactly_if_nobody_is_stuck(self):
        for excess, weights in drawn_towers(2, 200):
            least = least_excess((excess, weights))
            for other in (excess, least, least + 1, max(1, least - 1)):
                tower = (other, weights)
                self.assertEqual(stones_for(tower) == (), stuck_person(tower) is None)

    def test_the_order_of_the_people_does_not_matter(self):
        for weights in itertools.permutations((10, 100, 3, 10)):
            self.check((1, weights), (1, 2, 7, 34, 68))


class Hold(unittest.TestCase):
    def check(self, tower, value, expected):
        """Check what stones_hold says of the value."""
        self.assertIs(answer_twice(self, stones_hold, tower, value), expected, (tower, value))

    def test_the_stones_in_any_order(self):
        for tower in [V, (2, (9, 5, 9, 100)), (1, (4, 4)), (3, (20, 3, 9, 4)), (1, (20,))]:
            for stones in itertools.permutations(stones_for(tower)):
                self.check(tower, stones, True)

    def test_one_left_out(self):
        for tower in drawn_towers(3, 200):
            stones = stones_for(tower)
            for at in range(len(stones)):
                self.check(tower, stones[:at] + stones[at + 1:], False)

    def test_one_lighter_or_heavier(self):
        self.check((1, (4,)), (1, 2), True)
        self.check((1, (4,)), (1, 1), False)
        self.check((1, (4,)), (1, 3), False)
        self.check((1, (4,)), (2, 2), False)
        self.check((1, (3,)), (1, 1), True)
        for tower in drawn_towers(4, 200):
            stones = stones_for(tower)
            for at, stone in enumerate(stones):
                heavier = stones[:at] + (stone + 1,) + stones[at + 1:]
                # The sum of excess and everything before is less than this.
                self.check(tower, heavier, False)
                if stone > 1:
                    lighter = stones[:at] + (stone - 1,) + stones[at + 1:]
                    excess, weights = tower
                    reached = reach_weight((excess, weights + lighter))
                    self.check(tower, lighter, max([0, *weights]) <= reached)

    def test_further_stones(self):
        self.check(V, (2, 2), True)
        self.check(V, (2, TOP), True)
        self.check(V, (1,), True)
        self.check(V, (3,), False)
        self.check(V, (TOP,), False)
        self.check(V, (TOP, 2), True)
        self.check((4, (3, 4, 9, 20)), (), True)
        self.check((4, (3, 4, 9, 20)), (TOP,), True)
        self.check((1, ()), (), True)
        self.check((1, ()), (5, TOP), True)

    def test_more_stones_than_people_can_be(self):
        for many in (24, 25, 99, 100, 101, 1000):
            self.check((1, (many + 1,) * 24), (1,) * many, True)
            self.check((1, (many + 2,) * 24), (1,) * many, False)
            self.check((1, (2,)), (TOP,) * many, False)
            self.check((1, (2,)), (*(TOP,) * (many - 1), 1), True)

    def test_weights_at_the_bounds(self):
        self.check((TOP - 1, (TOP,)), (1,), True)
        self.check((TOP, (TOP,)), (TOP,), True)
        for wrong in WRONG_NUMBERS:
            self.check((4, (3,)), (wrong,), False)
            self.check((4, (3,)), (1, wrong), False)
            self.check((4, ()), (wrong, 1), False)
            self.check(V, (2, wrong), False)

    def test_values_of_other_kinds(self):
        for value in [*odd_values(), [2], [], {2: 2}, 2, "2", ((2,),), ([2],), (2, (2,))]:
            right = isinstance(value, tuple) and all([is_weight(stone) for stone in value])
            self.check((4, (3,)), value, right)
            self.check((1, ()), value, right)
        for value in (Load((2,)), Load(()), (Load((2,)),)):
            self.assertIs(stones_hold(V, value), False)
        self.check(V, [2], False)
        self.check(V, True, False)
        self.check((1, (2,)), (True,), False)
        self.check((1, (2,)), (1,), True)

    def test_against_a_search(self):
        draw = random.Random(5)
        for _ in range(250):
            tower = (draw.randint(1, 3), tuple([draw.randint(1, 12) for _ in range(draw.randint(0, 3))]))
            stones = tuple([draw.randint(1, 9) for _ in range(draw.randint(0, 3))])
            self.check(tower, stones, plain_stones_hold(tower, stones))


class Fewest(unittest.TestCase):
    def test_with_fewer_stones_not_everybody_comes_down(self):
        for tower in [V, (1, (4,)), (1, (8,)), (2, (3, 12)), (1, (2, 9)), (3, (4, 20, 4)), (2, (9, 5, 9))]:
            fewest = fewest_stones(tower)
            self.assertGreater(fewest, 0)
            for many in range(fewest):
                for stones in itertools.combinations_with_replacement(range(1, max(tower[1]) + 2), many):
                    self.assertIs(stones_hold(tower, stones), False, (tower, stones))

    def test_drawn_stones(self):
        draw = random.Random(6)
        for tower in drawn_towers(7, 150):
            fewest = fewest_stones(tower)
            for _ in range(5):
                if fewest > 0:
                    stones = tuple([draw.randint(1, max(tower[1])) for _ in range(fewest - 1)])
                    self.assertIs(stones_hold(tower, stones), False)


if __name__ == "__main__":
    unittest.main()
