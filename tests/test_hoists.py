"""Hoist: how it is made, its attributes, each edit, and undo."""

import random
import unittest

from basketrope.bounds import MAX_EDITS
from basketrope.errors import BadExcess, BadTower, BadWeight, NoPerson, NothingToUndo, TooManyEdits, TooManyPeople
from basketrope.hoists import Hoist, PromisedHoist
from basketrope.towers import is_tower, tower_error
from basketrope.values import Load
from tests.hoisting import TOP, U, V, WRONG_PLACES, HoistTest, check_hoist, do, drawn_edit, plain_tower
from tests.raising import check_only_read, check_raises
from tests.samples import WRONG_NUMBERS, odd_values

TOWERS = (V, U, (1, ()), (TOP, ()), (4, (3, 4, 9, 20)), (3, (20, 3, 9, 4)), (1, (TOP,) * 24), (TOP, (TOP,) * 24))


class Made(unittest.TestCase):
    def test_of_towers(self):
        for tower in TOWERS:
            check_hoist(self, Hoist(tower), [tower], [])

    def test_of_values_that_are_none(self):
        wrong = [[1, (1, 3)], (1, [1, 3]), (0, (1,)), (True, (1,)), (1, (1, 0)), (1, (1, True)), (1, (1,) * 25), (1,)]
        hoist = Hoist(V)
        for value in [*wrong, *odd_values(), hoist, (hoist, ()), Load((1,)), (1, Load((1,))), (1, (), 1), "1 / 1"]:
            self.assertFalse(is_tower(value))
            check_raises(self, BadTower, tower_error(value), Hoist, value)

    def test_errors_of_towers(self):
        check_raises(self, BadTower, (None, "tower"), Hoist, None)
        check_raises(self, BadTower, (None, "excess"), Hoist, (TOP + 1, None))
        check_raises(self, BadTower, (None, "weights"), Hoist, (TOP, (1,) * 25))
        check_raises(self, BadTower, (2, "weight"), Hoist, (TOP, (1, 1, TOP + 1, 0)))

    def test_attributes_are_only_read(self):
        hoist = Hoist(V)
        for name in ("tower", "reach", "is_free"):
            check_only_read(self, hoist, name)
        hoist.loosen(2)
        for name in ("tower", "reach", "is_free"):
            check_only_read(self, hoist, name)
        check_hoist(self, hoist, [V, U], [("loosen", 2)])

    def test_most_edits(self):
        for thing in (Hoist, Hoist(V), PromisedHoist, PromisedHoist(V, 0)):
            self.assertEqual(repr(thing.MOST_EDITS), "60")
        self.assertEqual(MAX_EDITS, 60)

    def test_each_hoist_by_itself(self):
        one, other = Hoist(V), Hoist(V)
        one.come(5)
        check_hoist(self, other, [V], [])
        other.leave(0)
        check_hoist(self, one, [V, (1, (1, 3, 5))], [("come", 5)])
        check_hoist(self, other, [V, (1, (3,))], [("leave", 0)])


class Edits(unittest.TestCase):
    def check(self, tower, edit, expected):
        """Check an edit of a new hoist, the tower it leads to, and that it can be undone."""
        hoist = Hoist(tower)
        self.assertEqual(repr(do(hoist, edit)), "1")
        check_hoist(self, hoist, [tower, expected], [edit])
        self.assertEqual(repr(hoist.undo()), "0")
        check_hoist(self, hoist, [tower], [])

    def test_come(self):
        self.check((1, ()), ("come", 8), (1, (8,)))
        self.check(V, ("come", 2), (1, (1, 3, 2)))
        self.check(V, ("come", 1), (1, (1, 3, 1)))
        self.check(V, ("come", TOP), (1, (1, 3, TOP)))
        self.check((2, (5,) * 23), ("come", 6), (2, (5,) * 23 + (6,)))

    def test_leave(self):
        self.check((1, (8,)), ("leave", 0), (1, ()))
        for person, rest in [(0, (4, 9, 20)), (1, (3, 9, 20)), (2, (3, 4, 20)), (3, (3, 4, 9))]:
            self.check((4, (3, 4, 9, 20)), ("leave", person), (4, rest))
        self.check((1, (7,) * 24), ("leave", 23), (1, (7,) * 23))
        self.check((1, (7, 5, 7)), ("leave", 2), (1, (7, 5)))

    def test_weigh(self):
        self.check((1, (8,)), ("weigh", 0, 1), (1, (1,)))
        for person, people in [(0, (5, 4, 9)), (1, (3, 5, 9)), (2, (3, 4, 5))]:
            self.check((4, (3, 4, 9)), ("weigh", person, 5), (4, people))
        self.check((1, (7,) * 24), ("weigh", 23, TOP), (1, (7,) * 23 + (TOP,)))
        self.check(V, ("weigh", 1, 3), V)
        self.check(V, ("weigh", 1, 2), (1, (1, 2)))

    def test_loosen(self):
        self.check(V, ("loosen", 2), U)
        self.check((9, (1, 3)), ("loosen", 2), U)
        self.check(V, ("loosen", 1), V)
        self.check(V, ("loosen", TOP), (TOP, (1, 3)))
        self.check((TOP, ()), ("loosen", 1), (1, ()))

    def test_versions_go_on(self):
        hoist = Hoist(V)
        self.assertEqual([hoist.weigh(1, 2), hoist.come(9), hoist.loosen(6), hoist.leave(0)], [1, 2, 3, 4])
        towers = [V, (1, (1, 2)), (1, (1, 2, 9)), (6, (1, 2, 9)), (6, (2, 9))]
        edits = [("weigh", 1, 2), ("come", 9), ("loosen", 6), ("leave", 0)]
        check_hoist(self, hoist, towers, edits)
        self.assertEqual([hoist.undo(), hoist.undo(), hoist.come(4)], [3, 2, 3])
        check_hoist(self, hoist, [*towers[:3], (1, (1, 2, 9, 4))], [*edits[:2], ("come", 4)])

    def test_those_behind_get_the_next_smaller_numbers(self):
        hoist = Hoist((4, (3, 4, 9, 20)))
        hoist.leave(1)
        hoist.weigh(1, 10)
        self.assertEqual(hoist.tower, (4, (3, 10, 20)))
        check_raises(self, NoPerson, 3, hoist.leave, 3)
        hoist.come(7)
        hoist.leave(3)
        self.assertEqual(hoist.tower, (4, (3, 10, 20)))

    def test_drawn_edits_and_undos(self):
        draw = random.Random(1)
        for start in TOWERS:
            for _ in range(6):
                hoist, towers, edits = Hoist(start), [start], []
                for _ in range(70):
                    if edits and (len(edits) == 60 or draw.random() < 0.3):
                        self.assertEqual(hoist.undo(), len(edits) - 1)
                        del towers[-1], edits[-1]
                    else:
                        edits.append(drawn_edit(draw, towers[-1]))
                        towers.append(plain_tower(towers[-1], edits[-1]))
                        self.assertEqual(do(hoist, edits[-1]), len(edits))
                check_hoist(self, hoist, towers, edits)


class Errors(HoistTest):
    def hoists(self):
        """Return hoists of several kinds, of none to three people."""
        edited = Hoist(V)
        edited.come(3)
        edited.loosen(7)
        undone = Hoist((3, (3, 4)))
        undone.leave(0)
        undone.undo()
        promised = [PromisedHoist(U, 4), PromisedHoist(V, 0)]
        return [Hoist(V), Hoist((1, ())), Hoist((TOP, (TOP,))), edited, undone, *promised]

    def test_wrong_weights(self):
        for hoist in self.hoists():
            for value in [*WRONG_NUMBERS, hoist, Load((1,)), (1,), 1 - TOP]:
                self.check(hoist, BadWeight, value, hoist.come, value)
                if hoist.tower[1]:
                    self.check(hoist, BadWeight, value, hoist.weigh, 0, value)
            for value in odd_values():
                if repr(value) not in ("1", "2", str(TOP)):
                    self.check(hoist, BadWeight, value, hoist.come, value)

    def test_the_very_value(self):
        hoist = Hoist(V)
        for value in ([1], {}, Load((1,)), ([],)):
            for shape, call in [
                (BadWeight, lambda: hoist.come(value)), (BadWeight, lambda: hoist.weigh(0, value)),
                (NoPerson, lambda: hoist.leave(value)), (NoPerson, lambda: hoist.weigh(value, value)),
                (BadExcess, lambda: hoist.loosen(value)),
            ]:
                with self.assertRaises(shape) as caught:
                    call()
                self.assertIs(caught.exception.value, value)

    def test_wrong_excess(self):
        for hoist in self.hoists():
            for value in [*WRONG_NUMBERS, hoist, TOP + 1, (2,)]:
                self.check(hoist, BadExcess, value, hoist.loosen, value)

    def test_wrong_people(self):
        for hoist in self.hoists():
            many = len(hoist.tower[1])
            for value in [*WRONG_PLACES, many, many + 1, -many, 24, hoist, Load((1,))]:
                if type(value) is not int or not 0 <= value < many:
                    self.check(hoist, NoPerson, value, hoist.leave, value)
                    self.check(hoist, NoPerson, value, hoist.weigh, value, 5)

    def test_no_person_is_a_lookup_error(self):
        with self.assertRaises(LookupError) as caught:
            Hoist(V).leave(2)
        self.assertNotIsInstance(caught.exception, ValueError)

    def test_weigh_asks_for_the_person_first(self):
        for hoist in self.hoists():
            for value in WRONG_NUMBERS:
                self.check(hoist, NoPerson, -1, hoist.weigh, -1, value)
                self.check(hoist, NoPerson, None, hoist.weigh, None, value)

    def test_too_many_people(self):
        for tower in [(1, (5,) * 24), (TOP, (TOP,) * 24)]:
            hoist = Hoist(tower)
            for weight in (1, 5, TOP):
                self.check_bare(hoist, TooManyPeople, hoist.come, weight)
            for value in WRONG_NUMBERS:
                self.check(hoist, BadWeight, value, hoist.come, value)
            self.assertEqual([hoist.weigh(23, 6), hoist.loosen(2), hoist.leave(0), hoist.come(7)], [1, 2, 3, 4])
            self.check_bare(hoist, TooManyPeople, hoist.come, 7)
            hoist.undo()
            self.assertEqual(hoist.come(8), 4)


class AsManyEditsAsThereCanBe(HoistTest):
    def full(self, tower=V):
        """Return a hoist on which 60 edits stand."""
        hoist = Hoist(tower)
        for at in range(60):
            self.assertEqual(hoist.loosen(at + 1), at + 1)
        return hoist

    def test_too_many_edits(self):
        hoist = self.full()
        towers = [V, *[(at + 1, (1, 3)) for at in range(60)]]
        edits = [("loosen", at + 1) for at in range(60)]
        check_hoist(self, hoist, towers, edits)
        for call, arguments in [
            (hoist.come, (5,)), (hoist.leave, (0,)), (hoist.weigh, (0, 5)), (hoist.loosen, (5,)),
            (hoist.come, (0,)), (hoist.come, (None,)), (hoist.leave, (2,)), (hoist.leave, (None,)),
            (hoist.weigh, (2, 5)), (hoist.weigh, (0, 0)), (hoist.weigh, (None, [])), (hoist.loosen, (0,)),
        ]:
            self.check_bare(hoist, TooManyEdits, call, *arguments)
        check_hoist(self, hoist, towers, edits)

    def test_ahead_of_too_many_people(self):
        hoist = self.full((1, (1,) * 24))
        self.check_bare(hoist, TooManyEdits, hoist.come, 5)

    def test_undo_makes_room(self):
        hoist = self.full()
        self.assertEqual([hoist.undo(), hoist.undo(), hoist.come(5), hoist.come(6)], [59, 58, 59, 60])
        self.check_bare(hoist, TooManyEdits, hoist.come, 7)
        self.assertEqual(hoist.tower, (58, (1, 3, 5, 6)))

    def test_undo_down_to_the_beginning(self):
        hoist = self.full()
        for at in range(60, 0, -1):
            self.assertEqual(hoist.tower, (at, (1, 3)))
            self.assertEqual(repr(hoist.undo()), repr(at - 1))
        check_hoist(self, hoist, [V], [])
        for _ in range(3):
            self.check_bare(hoist, NothingToUndo, hoist.undo)
        self.assertEqual(hoist.come(5), 1)

    def test_nothing_to_undo_on_a_new_hoist(self):
        for tower in TOWERS:
            hoist = Hoist(tower)
            self.check_bare(hoist, NothingToUndo, hoist.undo)
            check_hoist(self, hoist, [tower], [])

    def test_edits_that_raised_do_not_count(self):
        hoist = Hoist(V)
        for _ in range(70):
            self.check(hoist, BadWeight, 0, hoist.come, 0)
        self.assertEqual(hoist.come(1), 1)


if __name__ == "__main__":
    unittest.main()
