"""Hoist.attempt, with and without watch."""

import random
import unittest

from basketrope.errors import BadEdit, BadEdits, BadWeight, Busy, NoPerson, NothingToUndo, Rejected, RopeError
from basketrope.hoists import Hoist, PromisedHoist
from basketrope.plans import certificate
from basketrope.shells import Shell
from basketrope.values import Load
from tests.hoisting import TOP, V, W, check_hoist, do, drawn_edit, edited, plain_tower, snapshot
from tests.raising import check_raises, check_raises_bare
from tests.samples import WRONG_NUMBERS, odd_values

COME = ("come", 5)

# Items that are no edits.
WRONG_EDITS = (
    None, True, 0, "come", "", (), ("come",), ("come", 5, 5), ("leave",), ("leave", 0, 0), ("weigh", 0), ("weigh",),
    ("weigh", 0, 5, 5), ("loosen",), ("loosen", 1, 1), ("undo",), ("undo", 1), ("Come", 5), ("come ", 5), (" come", 5),
    ("state", 0), ("attempt", ()), ("_keep", 1), (5, "come"), (None, 5), (["come"], 5), ({}, 5), (("come",), 5),
    (True, 5), (1, 5), ["come", 5], [], {"come": 5}, "come 5", ("", 5), ((), 5), (("come", 5),), ("read", "1 / -"),
)

# Edits that raise an error, on a hoist of one to 23 people.
WRONG_VALUES = (
    *[("come", value) for value in WRONG_NUMBERS], *[("loosen", value) for value in WRONG_NUMBERS],
    *[("weigh", 0, value) for value in WRONG_NUMBERS], ("leave", -1), ("leave", 24), ("leave", None), ("leave", True),
    ("leave", [0]), ("leave", {}), ("weigh", -1, 5), ("weigh", 24, 5), ("weigh", "0", 5), ("weigh", [], []),
)


class AttemptTest(unittest.TestCase):
    def check_undone(self, hoist, shape, value, edits, **named):
        """Check the error of an attempt, and that nothing of it stays."""
        before = snapshot(hoist)
        check_raises(self, shape, value, hoist.attempt, edits, **named)
        self.assertEqual(snapshot(hoist), before)


class WithoutWatch(AttemptTest):
    def check_done(self, tower, edits):
        """Check an attempt whose edits are all right."""
        towers = [tower]
        for edit in edits:
            towers.append(plain_tower(towers[-1], edit))
        for batch in (list(edits), tuple(edits)):
            for named in ({}, {"watch": None}, {"watch": lambda hoist: False}):
                hoist = Hoist(tower)
                kept = repr(batch)
                self.assertEqual(repr(hoist.attempt(batch, **named)), repr(len(edits)))
                self.assertEqual(repr(batch), kept)
                check_hoist(self, hoist, towers, list(edits))
                for at in range(len(edits), 0, -1):
                    self.assertEqual(hoist.undo(), at - 1)
                    check_hoist(self, hoist, towers[:at], list(edits[:at - 1]))
                check_raises_bare(self, NothingToUndo, hoist.undo)

    def test_none_to_twenty(self):
        draw = random.Random(1)
        for many in range(21):
            edits = []
            tower = V
            for _ in range(many):
                edits.append(drawn_edit(draw, tower))
                tower = plain_tower(tower, edits[-1])
            self.check_done(V, edits)

    def test_each_edit(self):
        for edit in [COME, ("leave", 0), ("leave", 1), ("weigh", 1, 9), ("loosen", 7), ("loosen", 1)]:
            self.check_done(V, [edit])
        self.check_done((1, ()), [COME, ("leave", 0), COME, ("weigh", 0, TOP), ("loosen", TOP)])

    def test_after_other_edits(self):
        hoist = edited(V, [("come", 9), ("loosen", 3)])
        self.assertEqual(hoist.attempt([COME, ("leave", 0)]), 2)
        self.assertEqual(hoist.attempt([("leave", 0)]), 1)
        self.assertEqual(hoist.attempt(()), 0)
        towers = [V, (1, (1, 3, 9)), (3, (1, 3, 9)), (3, (1, 3, 9, 5)), (3, (3, 9, 5)), (3, (9, 5))]
        check_hoist(self, hoist, towers, [("come", 9), ("loosen", 3), COME, ("leave", 0), ("leave", 0)])

    def test_an_empty_batch(self):
        for hoist in (Hoist(V), edited(V, [("loosen", at) for at in range(1, 61)])):
            before = snapshot(hoist)
            for edits in ([], ()):
                self.assertEqual(repr(hoist.attempt(edits)), "0")
                self.assertEqual(repr(hoist.attempt(edits, watch=lambda hoist: self.fail("watch was called"))), "0")
            self.assertEqual(snapshot(hoist), before)

    def test_too_long(self):
        hoist = Hoist(V)
        for many in (21, 22, 1000):
            for edits in ([COME] * many, (COME,) * many, [None] * many):
                before = snapshot(hoist)
                check_raises_bare(self, BadEdits, hoist.attempt, edits)
                self.assertEqual(snapshot(hoist), before)
        self.assertEqual(hoist.attempt([("loosen", 1)] * 20), 20)

    def test_no_list_or_tuple(self):
        for hoist in (Hoist(V), edited(V, [COME])):
            before = snapshot(hoist)
            for value in [*odd_values(), {"come": 5}, "come", COME[0], Load((1,)), hoist]:
                if not isinstance(value, (list, tuple)):
                    check_raises_bare(self, BadEdits, hoist.attempt, value)
                    check_raises_bare(self, BadEdits, hoist.attempt, value, watch=self.fail)
            self.assertEqual(snapshot(hoist), before)

    def test_a_bare_edit_is_no_batch(self):
        self.check_undone(Hoist(V), BadEdit, 0, COME)

    def test_items_that_are_no_edits(self):
        for wrong in WRONG_EDITS:
            for at in (0, 1, 5, 19):
                edits = [COME] * at + [wrong] + [COME] * (19 - at)
                self.check_undone(Hoist(V), BadEdit, at, edits)
                self.check_undone(edited(V, [COME]), BadEdit, at, tuple(edits), watch=self.fail)
        for value in [*odd_values(), Load((1,)), Hoist(V), (Load(()), 5)]:
            self.check_undone(Hoist(V), BadEdit, 1, [COME, value])

    def test_the_first_item_that_is_no_edit(self):
        self.check_undone(Hoist(V), BadEdit, 1, [COME, None, ("leave",), COME, ()])
        # An edit with a wrong value would raise an error itself, but only when it is done.
        self.check_undone(Hoist(V), BadEdit, 2, [("come", 0), ("leave", 9), None])

    def test_edits_that_raise(self):
        for wrong in WRONG_VALUES:
            for at in (0, 1, 3, 19):
                edits = [COME] * at + [wrong] + [COME] * (19 - at)
                self.check_undone(Hoist(V), Rejected, at, edits)
                self.check_undone(edited(V, [("loosen", 3)]), Rejected, at, tuple(edits), watch=lambda hoist: False)

    def test_the_first_edit_that_raises(self):
        self.check_undone(Hoist(V), Rejected, 1, [COME, ("come", 0), COME, ("leave", 99), ("come", None)])
        self.check_undone(Hoist((1, ())), Rejected, 2, [COME, ("leave", 0), ("leave", 0), COME])
        self.check_undone(Hoist((1, (5,) * 22)), Rejected, 2, [COME] * 5)

    def test_too_many_edits(self):
        for many in range(40, 61):
            hoist = edited(V, [("loosen", at) for at in range(1, many + 1)])
            if many > 40:
                self.check_undone(hoist, Rejected, 60 - many, [("loosen", 1)] * 20)
                self.check_undone(hoist, Rejected, 60 - many, [("loosen", 1)] * (61 - many), watch=lambda hoist: 0)
            self.assertEqual(hoist.attempt([("loosen", 1)] * min(20, 60 - many)), min(20, 60 - many))
            self.assertEqual(len(hoist), min(60, many + 20))

    def test_a_wrong_value_where_too_many_edits_stand(self):
        hoist = edited(V, [("loosen", at) for at in range(1, 61)])
        self.check_undone(hoist, Rejected, 0, [("come", 0)])
        self.check_undone(hoist, BadEdit, 1, [COME, ("come",)])

    def test_the_hoist_goes_on_after_errors(self):
        hoist = edited(V, [COME])
        self.check_undone(hoist, Rejected, 1, [("leave", 0), ("come", 0)])
        self.assertEqual([hoist.attempt([("leave", 0)]), hoist.come(8), hoist.undo()], [1, 3, 2])
        check_hoist(self, hoist, [V, (1, (1, 3, 5)), (1, (3, 5))], [COME, ("leave", 0)])

    def test_watch_is_passed_by_keyword(self):
        with self.assertRaises(TypeError):
            Hoist(V).attempt([COME], lambda hoist: True)


class WithWatch(AttemptTest):
    def test_it_gets_this_hoist_after_each_edit(self):
        hoist = Hoist(V)
        seen = []

        def watch(one):
            self.assertIs(one, hoist)
            seen.append(snapshot(one))

        edits = [COME, ("leave", 0), ("loosen", 4)]
        self.assertEqual(hoist.attempt(edits, watch=watch), 3)
        self.assertEqual(seen, [snapshot(edited(V, edits[:at])) for at in (1, 2, 3)])

    def test_values_that_count_as_true(self):
        for answer in (True, 1, -1, "0", (0,), [None], {"a": 0}, Load((1,)), Hoist.come):
            for at in range(4):
                answers = [None] * at + [answer] + [None] * 4
                hoist = Hoist(V)
                done = hoist.attempt([COME, ("leave", 0), ("loosen", 4), COME], watch=lambda hoist: answers.pop(0))
                self.assertEqual(repr(done), repr(at + 1))
                self.assertEqual(hoist.edits(), (COME, ("leave", 0), ("loosen", 4), COME)[:at + 1])
                self.assertEqual(len(answers), 4)
                self.assertEqual(hoist.undo(), at)

    def test_values_that_do_not(self):
        for answer in (None, False, 0, "", (), [], {}, Load(())):
            hoist = Hoist(V)
            self.assertEqual(hoist.attempt([COME] * 20, watch=lambda hoist: answer), 20)
            self.assertEqual(len(hoist), 20)

    def test_the_edits_behind_are_not_even_tried(self):
        for wrong in WRONG_VALUES:
            hoist = Hoist(V)
            self.assertEqual(hoist.attempt([COME, wrong], watch=lambda hoist: True), 1)
            check_hoist(self, hoist, [V, (1, (1, 3, 5))], [COME])
            self.check_undone(hoist, BadEdit, 1, [COME, None], watch=lambda hoist: True)

    def test_accepted_by_what_it_sees(self):
        hoist = Hoist(V)
        done = hoist.attempt([("loosen", 1), ("loosen", 2), ("loosen", 3)], watch=lambda hoist: hoist.is_free)
        self.assertEqual([done, hoist.tower], [2, (2, (1, 3))])

    def test_exceptions_of_its_own(self):
        class Own(Exception):
            """An exception of the caller."""

        errors = (ValueError(1), KeyError("a"), IndexError(), TypeError(), StopIteration(), KeyboardInterrupt())
        for error in (Own(), *errors):
            for at in (1, 2, 3):
                self.check_exception(error, at)

    def test_exceptions_of_the_package(self):
        for error in (Busy(), Rejected(7), BadEdit(0), RopeError(), NoPerson(3), BadWeight([]), NothingToUndo()):
            for at in (1, 2, 3):
                self.check_exception(error, at)

    def check_exception(self, error, at):
        """Check that an exception that watch raises at its call number at undoes all, and is passed on itself."""
        hoist = edited(V, [("come", 9)])
        before = snapshot(hoist)
        calls = []

        def watch(_):
            calls.append(snapshot(hoist))
            if len(calls) == at:
                raise error

        with self.assertRaises(type(error)) as caught:
            hoist.attempt([COME, ("leave", 0), ("loosen", 4)], watch=watch)
        self.assertIs(caught.exception, error)
        self.assertEqual(len(calls), at)
        self.assertEqual(len(set([before, *calls])), at + 1)
        self.assertEqual(snapshot(hoist), before)
        self.assertEqual([hoist.come(4), hoist.attempt([COME], watch=lambda hoist: False), hoist.undo()], [2, 1, 2])

    def test_errors_of_queries_in_it(self):
        hoist = Hoist(V)
        before = snapshot(hoist)
        with self.assertRaises(LookupError):
            hoist.attempt([COME], watch=lambda hoist: hoist.state(version=2))
        self.assertEqual(snapshot(hoist), before)

    def test_an_answer_that_cannot_be_asked(self):
        class Odd:
            """A value that does not tell whether it counts as true."""

            def __bool__(self):
                raise KeyError("odd")

        hoist = Hoist(V)
        before = snapshot(hoist)
        with self.assertRaises(KeyError):
            hoist.attempt([COME], watch=lambda hoist: Odd())
        self.assertEqual(snapshot(hoist), before)
        self.assertEqual(hoist.come(4), 1)

    def test_all_queries_work_in_it(self):
        for start in (V, W, (1, ())):
            edits = [("come", 5), ("loosen", 3), ("weigh", 0, 2), ("leave", 0)]
            hoist = Hoist(start)
            towers = [start]

            def watch(one):
                towers.append(plain_tower(towers[-1], edits[len(towers) - 1]))
                check_hoist(self, one, towers, edits[:len(towers) - 1])
                goal = tuple(range(len(one.tower[1])))
                self.assertEqual(one.certificate(goal), certificate(towers[-1], (), goal))
                self.assertEqual(one.certificate((), version=0), ("plan", ()))
                self.assertEqual(one, Hoist(towers[-1]))
                self.assertEqual(Hoist.read("1 / 1,3"), Hoist(V))
                self.assertEqual(one.MOST_EDITS, 60)

            self.assertEqual(hoist.attempt(edits, watch=watch), 4)
            check_hoist(self, hoist, towers, edits)

    def test_the_list_changes_later(self):
        edits = [COME, ("leave", 0), ("loosen", 4)]

        def watch(_):
            edits.clear()
            edits.extend([None] * 30)

        hoist = Hoist(V)
        self.assertEqual(hoist.attempt(edits, watch=watch), 3)
        self.assertEqual(hoist.edits(), (COME, ("leave", 0), ("loosen", 4)))
        edits[0] = ("come", 7)
        self.assertEqual(hoist.edits(), (COME, ("leave", 0), ("loosen", 4)))

    def test_rejected_after_watch(self):
        hoist = edited(V, [("come", 9)])
        calls = []
        self.check_undone(hoist, Rejected, 2, [COME, COME, ("leave", 9), COME], watch=calls.append)
        self.assertEqual(len(calls), 2)
        self.assertEqual(hoist.come(4), 2)


class WhileWatchRuns(AttemptTest):
    def check_busy(self, hoist, edits):
        """Check that nothing changes the hoist while watch runs, and that all goes on behind it."""
        shell = Shell(hoist)
        calls = []

        def watch(one):
            before = snapshot(one)
            for call, arguments in [
                (one.come, (5,)), (one.come, (0,)), (one.leave, (0,)), (one.leave, (99,)), (one.weigh, (0, 5)),
                (one.weigh, (99, 0)), (one.loosen, (5,)), (one.loosen, (0,)), (one.undo, ()), (one.attempt, ([],)),
                (one.attempt, ([COME],)), (one.attempt, (None,)), (one.attempt, ([None],)), (hoist.undo, ()),
            ]:
                check_raises_bare(self, Busy, call, *arguments)
            check_raises_bare(self, Busy, one.attempt, [COME], watch=self.fail)
            for line in ("come 5", "leave 0", "weigh 0 5", "loosen 5", "undo", "come 0", "leave 99"):
                self.assertEqual(shell.execute(line), "error Busy")
            self.assertEqual(snapshot(one), before)
            calls.append(before)

        self.assertEqual(hoist.attempt(edits, watch=watch), len(edits))
        self.assertEqual(len(calls), len(edits))
        self.assertEqual(hoist.undo(), len(hoist))
        self.assertEqual(hoist.loosen(9), len(hoist))

    def test_busy(self):
        self.check_busy(Hoist(V), [COME])
        self.check_busy(Hoist(V), [COME, ("leave", 0), ("loosen", 4)])
        self.check_busy(edited(V, [COME, COME]), [("loosen", 4)] * 20)
        self.check_busy(PromisedHoist(V, 1), [("loosen", 4), COME])

    def test_ahead_of_too_many_edits(self):
        self.check_busy(edited(V, [("loosen", at) for at in range(1, 60)]), [COME])

    def test_ahead_of_too_many_people(self):
        self.check_busy(Hoist((1, (5,) * 23)), [COME])

    def test_busy_passed_on_undoes_all(self):
        for call in (lambda hoist: hoist.come(5), lambda hoist: hoist.undo(), lambda hoist: hoist.attempt([])):
            hoist = edited(V, [COME])
            before = snapshot(hoist)
            with self.assertRaises(Busy):
                hoist.attempt([COME, ("leave", 0)], watch=call)
            self.assertEqual(snapshot(hoist), before)
            self.assertEqual(hoist.undo(), 0)

    def test_another_hoist_is_not_busy(self):
        hoist, other = Hoist(V), Hoist(V)

        def watch(one):
            self.assertEqual(other.come(5), len(one))
            other.attempt([("loosen", 5)], watch=lambda _: self.assertRaises(Busy, one.undo) and None)
            self.assertRaises(Busy, one.undo)
            other.undo()

        self.assertEqual(hoist.attempt([COME, COME], watch=watch), 2)
        check_hoist(self, other, [V, (1, (1, 3, 5)), (1, (1, 3, 5, 5))], [COME, COME])
        self.assertEqual(hoist, other)

    def test_not_busy_between_attempts(self):
        hoist = Hoist(V)
        for at in range(1, 10):
            self.assertEqual(hoist.attempt([("loosen", at)], watch=lambda _: at % 2), 1)
            self.assertEqual(do(hoist, COME), at + 1)
            self.assertEqual(hoist.undo(), at)

    def test_attempts_again(self):
        for _ in range(2):
            hoist = edited(V, [COME])
            self.assertEqual(hoist.attempt([COME, ("leave", 0)], watch=lambda hoist: hoist.reach > 99), 2)
            self.assertEqual(hoist.tower, (1, (3, 5, 5)))


if __name__ == "__main__":
    unittest.main()
