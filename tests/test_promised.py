"""PromisedHoist: its promise, and the edits that would break it."""

import random
import unittest

from basketrope.errors import (
    BadEdit, BadExcess, BadNumber, BadTower, BadWeight, Busy, NoPerson, Rejected, TooLow, TooManyEdits, TooManyPeople,
)
from basketrope.hoists import Hoist, PromisedHoist
from basketrope.promises import Promise
from basketrope.shells import Shell
from basketrope.towers import tower_error
from tests.hoisting import TOP, U, V, HoistTest, check_hoist, do, drawn_edit, plain_reach, plain_tower, snapshot
from tests.raising import check_only_read, check_raises, check_raises_bare
from tests.samples import LONGEST_INT, odd_values

LIMIT = 10 ** 8
T = (4, (3, 4, 9, 20))
WRONG_NUMBERS = (None, True, False, -1, LIMIT + 1, LONGEST_INT, -LONGEST_INT, "", "3", (), (3,), [3], {})


class Made(HoistTest):
    def test_kept_promises(self):
        for tower in [U, V, T, (1, ()), (TOP, (TOP,) * 24), (1, (5, 5))]:
            reach = plain_reach(tower)
            for least in sorted({0, reach // 2, max(0, reach - 1), reach}):
                hoist = PromisedHoist(tower, least)
                self.assertEqual(repr(hoist.least), repr(least))
                check_hoist(self, hoist, [tower], [])

    def test_broken_promises(self):
        for tower in [U, V, T, (1, ()), (TOP, (TOP,) * 24), (1, (5, 5))]:
            reach = plain_reach(tower)
            for least in (reach + 1, reach + 2, LIMIT - 1, LIMIT):
                check_raises(self, TooLow, reach, PromisedHoist, tower, least)

    def test_it_is_a_hoist_and_a_promise(self):
        hoist = PromisedHoist(U, 3)
        self.assertIsInstance(hoist, Hoist)
        self.assertIsInstance(hoist, Promise)
        self.assertTrue(issubclass(PromisedHoist, Hoist) and issubclass(PromisedHoist, Promise))
        self.assertFalse(issubclass(Hoist, Promise) or issubclass(Promise, Hoist))
        self.assertNotIsInstance(Hoist(U), Promise)

    def test_values_that_are_no_numbers(self):
        for value in [*WRONG_NUMBERS, Promise(3), Hoist(U)]:
            check_raises(self, BadNumber, value, PromisedHoist, U, value)
        for value in odd_values():
            if type(value) is not int:
                check_raises(self, BadNumber, value, PromisedHoist, U, value)

    def test_errors_in_their_order(self):
        for tower in [None, (0, ()), (1, [1]), (1, (1, 0)), (1, (1,) * 25)]:
            for least in [0, LIMIT, *WRONG_NUMBERS]:
                check_raises(self, BadTower, tower_error(tower), PromisedHoist, tower, least)
        check_raises(self, BadNumber, LIMIT + 1, PromisedHoist, V, LIMIT + 1)
        check_raises(self, TooLow, 1, PromisedHoist, V, LIMIT)

    def test_attributes_are_only_read(self):
        hoist = PromisedHoist(U, 3)
        for name in ("tower", "reach", "is_free", "least"):
            check_only_read(self, hoist, name)


class Edits(HoistTest):
    def test_leave(self):
        hoist = PromisedHoist(U, 4)
        self.check(hoist, TooLow, 0, hoist.leave, 0)
        self.check(hoist, TooLow, 1, hoist.leave, 1)
        hoist = PromisedHoist(U, 1)
        self.check(hoist, TooLow, 0, hoist.leave, 0)
        self.assertEqual(hoist.leave(1), 1)
        check_hoist(self, hoist, [U, (2, (1,))], [("leave", 1)])
        self.check(hoist, TooLow, 0, hoist.leave, 0)

    def test_by_one_and_just_kept(self):
        # Without the person of 20 the others weigh 16.
        for least, kept in [(15, True), (16, True), (17, False), (36, False)]:
            hoist = PromisedHoist(T, least)
            if kept:
                self.assertEqual(hoist.leave(3), 1)
                self.assertEqual(hoist.reach, 16)
            else:
                self.check(hoist, TooLow, 16, hoist.leave, 3)

    def test_weigh(self):
        hoist = PromisedHoist(T, 35)
        self.check(hoist, TooLow, 16, hoist.weigh, 3, 21)
        self.check(hoist, TooLow, 34, hoist.weigh, 3, 18)
        self.assertEqual(hoist.weigh(3, 19), 1)
        self.assertEqual(hoist.reach, 35)
        self.check(hoist, TooLow, 34, hoist.weigh, 0, 2)
        self.assertEqual(hoist.weigh(0, 4), 2)
        self.assertEqual(hoist.weigh(0, 3), 3)
        hoist = PromisedHoist((4, (3,)), 3)
        self.check(hoist, TooLow, 0, hoist.weigh, 0, 5)
        self.assertEqual(hoist.weigh(0, 4), 1)
        self.check(hoist, TooLow, 2, hoist.weigh, 0, 2)

    def test_loosen(self):
        hoist = PromisedHoist(T, 17)
        self.check(hoist, TooLow, 16, hoist.loosen, 3)
        self.check(hoist, TooLow, 0, hoist.loosen, 2)
        self.check(hoist, TooLow, 0, hoist.loosen, 1)
        self.assertEqual(hoist.loosen(5), 1)
        self.assertEqual(hoist.loosen(4), 2)
        hoist = PromisedHoist(T, 16)
        self.check(hoist, TooLow, 0, hoist.loosen, 2)
        self.assertEqual(hoist.loosen(3), 1)
        self.assertEqual([hoist.reach, hoist.beyond(hoist.reach)], [16, 0])

    def test_come(self):
        hoist = PromisedHoist(U, 4)
        self.assertEqual([hoist.come(50), hoist.reach, hoist.come(5), hoist.reach], [1, 4, 2, 9])
        hoist = PromisedHoist((1, ()), 0)
        self.assertEqual([hoist.come(9), hoist.reach, hoist.leave(0)], [1, 0, 2])

    def test_number_that_there_would_be_and_state(self):
        hoist = PromisedHoist(U, 3)
        self.assertEqual([hoist.beyond(hoist.reach), hoist.come(50), hoist.reach], [1, 1, 4])
        self.check(hoist, TooLow, 0, hoist.leave, 0)
        check_hoist(self, hoist, [U, (2, (1, 3, 50))], [("come", 50)])

    def test_behind_all_other_errors(self):
        hoist = PromisedHoist(T, 36)
        self.check(hoist, BadExcess, 0, hoist.loosen, 0)
        self.check(hoist, BadWeight, 0, hoist.weigh, 3, 0)
        self.check(hoist, NoPerson, 4, hoist.weigh, 4, 1)
        self.check(hoist, NoPerson, 4, hoist.leave, 4)
        self.check(hoist, NoPerson, True, hoist.leave, True)
        self.check(hoist, BadWeight, None, hoist.come, None)
        for _ in range(60):
            hoist.loosen(4)
        before = snapshot(hoist)
        for call, arguments in [(hoist.leave, (3,)), (hoist.weigh, (3, 1)), (hoist.loosen, (1,)), (hoist.come, (1,))]:
            check_raises_bare(self, TooManyEdits, call, *arguments)
        self.assertEqual(snapshot(hoist), before)
        full = PromisedHoist((1, (1,) * 24), 24)
        check_raises_bare(self, TooManyPeople, full.come, 1)
        self.check(full, BadWeight, TOP + 1, full.come, TOP + 1)
        self.check(full, TooLow, 23, full.leave, 0)

    def test_undo(self):
        hoist = PromisedHoist(T, 16)
        self.assertEqual([hoist.loosen(3), hoist.come(1), hoist.leave(4), hoist.loosen(4)], [1, 2, 3, 4])
        self.assertEqual([hoist.undo(), hoist.undo(), hoist.undo(), hoist.undo()], [3, 2, 1, 0])
        check_hoist(self, hoist, [T], [])
        self.assertEqual(hoist.least, 16)

    def test_drawn_edits(self):
        draw = random.Random(1)
        for tower in [U, V, T, (3, (2, 2, 5))]:
            for part in (0, 1, 2):
                least = plain_reach(tower) * part // 2
                hoist, towers, edits = PromisedHoist(tower, least), [tower], []
                for _ in range(100):
                    edit = drawn_edit(draw, towers[-1])
                    beyond = plain_tower(towers[-1], edit)
                    if len(edits) == 60 or (edits and draw.random() < 0.2):
                        self.assertEqual(hoist.undo(), len(edits) - 1)
                        del towers[-1], edits[-1]
                    elif plain_reach(beyond) < least:
                        check_raises(self, TooLow, plain_reach(beyond), do, hoist, edit)
                        check_raises(self, Rejected, 0, hoist.attempt, [edit])
                    else:
                        self.assertEqual(do(hoist, edit), len(edits) + 1)
                        towers.append(beyond)
                        edits.append(edit)
                check_hoist(self, hoist, towers, edits)
                self.assertEqual(hoist.least, least)


class Attempts(HoistTest):
    def test_broken_by_an_edit_in_between(self):
        hoist = PromisedHoist(T, 36)
        self.check(hoist, Rejected, 1, hoist.attempt, [("come", 1), ("loosen", 1), ("loosen", 9)])
        self.check(hoist, Rejected, 0, hoist.attempt, [("leave", 0), ("come", 3)])
        self.check(hoist, Rejected, 2, hoist.attempt, [("come", 5), ("loosen", 5), ("weigh", 3, 500)])
        self.check(hoist, BadEdit, 1, hoist.attempt, [("leave", 0), ("leave",)])
        self.assertEqual(hoist.attempt([("come", 5), ("loosen", 5), ("leave", 4)]), 3)
        self.assertEqual(hoist.reach, 36)

    def test_accepted_before_it_is_broken(self):
        hoist = PromisedHoist(T, 36)
        self.assertEqual(hoist.attempt([("come", 5), ("loosen", 1)], watch=lambda hoist: hoist.reach > 36), 1)
        self.check(hoist, Rejected, 1, hoist.attempt, [("come", 5), ("loosen", 1)], watch=lambda hoist: False)

    def test_beyond_while_watch_runs(self):
        hoist = PromisedHoist(U, 3)
        seen = []

        def watch(one):
            self.assertIs(one, hoist)
            seen.append((one.beyond(one.reach), one.beyond(3), one.least))
            check_raises(self, TooLow, 2, one.beyond, 2)
            check_raises(self, BadNumber, True, one.beyond, True)
            check_raises_bare(self, Busy, one.loosen, 1)

        self.assertEqual(hoist.attempt([("come", 5), ("loosen", 9)], watch=watch), 2)
        self.assertEqual(seen, [(6, 0, 3), (6, 0, 3)])

    def test_too_low_from_watch_is_passed_on(self):
        hoist = PromisedHoist(U, 3)
        self.check(hoist, TooLow, 1, hoist.attempt, [("come", 5)], watch=lambda one: one.beyond(1))


class AsAPromise(HoistTest):
    def test_beyond(self):
        for least in (0, 3, 4):
            hoist = PromisedHoist(U, least)
            for number in (least, least + 1, LIMIT):
                self.assertEqual(repr(hoist.beyond(number)), repr(number - least))
            for number in range(least):
                self.check(hoist, TooLow, number, hoist.beyond, number)
            for value in WRONG_NUMBERS:
                self.check(hoist, BadNumber, value, hoist.beyond, value)

    def test_in_a_shell(self):
        hoist = PromisedHoist(U, 3)
        shell = Shell(hoist)
        self.assertEqual(shell.execute("loosen 1"), "error TooLow")
        self.assertEqual(shell.execute("loosen 3"), "ok 1")
        self.assertEqual(hoist.tower, (3, (1, 3)))


if __name__ == "__main__":
    unittest.main()
