"""Shell: each command, and every other line."""

import random
import unittest

from basketrope.hoists import Hoist, PromisedHoist
from basketrope.reach import least_excess
from basketrope.shells import Shell
from basketrope.stones import stones_for
from basketrope.texts import tower_text
from basketrope.values import Load
from tests.hoisting import TOP, V, check_hoist, drawn_edit, edited, plain_tower, snapshot
from tests.samples import odd_values

UNKNOWN = "unknown command"
T = (4, (3, 4, 9, 20))


class ShellTest(unittest.TestCase):
    def check(self, hoist, line, answer):
        """Check an answer that leaves the hoist as it is."""
        before = snapshot(hoist)
        self.assertEqual(repr(Shell(hoist).execute(line)), repr(answer), line)
        self.assertEqual(snapshot(hoist), before)


class Queries(ShellTest):
    def test_answers(self):
        for tower, answers in [
            (V, ["1 / 1,3", "1", "no", "2", "2"]),
            ((1, ()), ["1 / -", "0", "yes", "1", "-"]),
            (T, ["4 / 3,4,9,20", "36", "yes", "4", "-"]),
            ((1, (100,)), ["1 / 100", "0", "no", "100", "1,2,4,8,16,32,64"]),
            ((TOP, (TOP,) * 24), ["1000000 / 1000000" + ",1000000" * 23, "24000000", "yes", "1000000", "-"]),
            ((2, (11, 1, 10)), ["2 / 11,1,10", "1", "no", "9", "3,6"]),
        ]:
            hoist = Hoist(tower)
            for name, answer in zip(["tower", "reach", "free", "least", "stones"], answers):
                self.check(hoist, name, answer)
                self.check(hoist, name, answer)

    def test_after_edits(self):
        draw = random.Random(1)
        hoist, tower = Hoist(V), V
        shell = Shell(hoist)
        for at in range(60):
            edit = drawn_edit(draw, tower)
            tower = plain_tower(tower, edit)
            self.assertEqual(shell.execute(" ".join([str(part) for part in edit])), f"ok {at + 1}")
            self.assertEqual(hoist.tower, tower)
            self.assertEqual(shell.execute("tower"), tower_text(tower))
            self.assertEqual(shell.execute("reach"), str(hoist.reach))
            self.assertEqual(shell.execute("free"), "yes" if hoist.is_free else "no")
            self.assertEqual(shell.execute("least"), str(least_excess(tower)))
            stones = stones_for(tower)
            self.assertEqual(shell.execute("stones"), ",".join([str(stone) for stone in stones]) if stones else "-")


class Edits(ShellTest):
    def test_each_edit_and_undo(self):
        hoist = Hoist(V)
        shell = Shell(hoist)
        towers, edits = [V], []
        for line, edit in [
            ("come 9", ("come", 9)), ("leave 0", ("leave", 0)), ("weigh 1 4", ("weigh", 1, 4)),
            ("loosen 1000000", ("loosen", TOP)), ("come 1000000", ("come", TOP)), ("weigh 0 1", ("weigh", 0, 1)),
        ]:
            edits.append(edit)
            towers.append(plain_tower(towers[-1], edit))
            self.assertEqual(repr(shell.execute(line)), repr(f"ok {len(edits)}"))
            check_hoist(self, hoist, towers, edits)
        while edits:
            del towers[-1], edits[-1]
            self.assertEqual(repr(shell.execute("undo")), repr(f"ok {len(edits)}"))
            check_hoist(self, hoist, towers, edits)
        self.check(hoist, "undo", "error NothingToUndo")

    def test_errors(self):
        hoist = edited(V, [("come", 5)])
        for line, name in [
            ("come 0", "BadWeight"), ("come 1000001", "BadWeight"), ("come 99999999", "BadWeight"),
            ("leave 3", "NoPerson"), ("leave 99999999", "NoPerson"),
            ("weigh 3 0", "NoPerson"), ("weigh 3 5", "NoPerson"), ("weigh 0 0", "BadWeight"),
            ("weigh 2 1000001", "BadWeight"),
            ("loosen 0", "BadExcess"), ("loosen 1000001", "BadExcess"), ("loosen 99999999", "BadExcess"),
        ]:
            self.check(hoist, line, f"error {name}")
        self.check(Hoist((1, ())), "leave 0", "error NoPerson")
        self.check(Hoist(V), "undo", "error NothingToUndo")
        self.check(Hoist((1, (1,) * 24)), "come 1", "error TooManyPeople")
        self.check(PromisedHoist(V, 1), "leave 0", "error TooLow")
        full = edited(V, [("loosen", at) for at in range(1, 61)])
        for line in ("come 5", "leave 0", "weigh 0 1", "loosen 5", "come 0"):
            self.check(full, line, "error TooManyEdits")
        self.assertEqual(Shell(full).execute("undo"), "ok 59")

    def test_errors_that_the_hoist_does_not_name(self):
        class Odd(Hoist):
            """A hoist with a fault of its own."""

            def come(self, weight):
                raise KeyError(weight)

        with self.assertRaises(KeyError):
            Shell(Odd(V)).execute("come 5")

    def test_this_very_hoist(self):
        hoist, other = Hoist(V), Hoist(V)
        one, two, third = Shell(hoist), Shell(hoist), Shell(other)
        self.assertEqual([one.execute("come 5"), two.execute("leave 0")], ["ok 1", "ok 2"])
        self.assertEqual(one.execute("tower"), "1 / 3,5")
        self.assertEqual(hoist.come(7), 3)
        self.assertEqual(two.execute("tower"), "1 / 3,5,7")
        self.assertEqual([one.execute("undo"), two.execute("undo")], ["ok 2", "ok 1"])
        self.assertEqual([third.execute("tower"), third.execute("undo")], ["1 / 1,3", "error NothingToUndo"])
        check_hoist(self, hoist, [V, (1, (1, 3, 5))], [("come", 5)])

    def test_while_watch_runs(self):
        hoist = Hoist(V)
        shell = Shell(hoist)
        answers = []

        def watch(_):
            for line in ("come 5", "come 0", "leave 9", "weigh 0 1", "loosen 2", "undo", "come", "tower", "free"):
                answers.append(shell.execute(line))

        self.assertEqual(hoist.attempt([("come", 9), ("loosen", 9)], watch=watch), 2)
        busy = ["error Busy"] * 6 + [UNKNOWN]
        self.assertEqual(answers, [*busy, "1 / 1,3,9", "no", *busy, "9 / 1,3,9", "yes"])
        self.assertEqual(shell.execute("undo"), "ok 1")


class Unknown(ShellTest):
    def check_all(self, lines):
        """Check that all lines are unknown on hoists with and without people and edits."""
        full = edited((2, (5,) * 12), [("come", 5), ("loosen", 1)])
        for hoist in (Hoist(V), Hoist((1, ())), full, PromisedHoist(V, 1)):
            for line in lines:
                self.check(hoist, line, UNKNOWN)

    def test_other_numbers_of_words(self):
        names = ("undo", "tower", "reach", "free", "least", "stones")
        lines = [f"{name} 1" for name in names]
        lines += [f"{name} 1 1" for name in (*names, "come", "leave", "loosen")]
        lines += ["come", "leave", "weigh", "loosen", "weigh 0", "weigh 0 1 1", "come 1 1 1"]
        lines += ["tower tower", "undo undo", "come come", "come 1 undo", "1", "1 1", "0", "5 come"]
        self.check_all(lines)

    def test_numbers_that_are_written_otherwise(self):
        words = ("00", "01", "001", "+1", "-1", "-0", "1.0", "1e1", "0x1", "1_0", "one", "", "1,", "1,2", "-", "None")
        words += ("100000000", "000000001", "123456789", "1" * 20, "9" * 2000, "1" * 5000)
        words += ("True", "\u0661", "\u00b2", "1\u0661", "1\n", "\n1", "1\t", "\t1", "\u00a01")
        lines = [f"{name} {word}" for name in ("come", "leave", "loosen") for word in words]
        lines += [f"weigh {word} 1" for word in words] + [f"weigh 0 {word}" for word in words]
        self.check_all(lines)

    def test_eight_digits(self):
        hoist = Hoist(V)
        self.check(hoist, "leave 10000000", "error NoPerson")
        self.check(hoist, "leave 100000000", UNKNOWN)
        self.check(hoist, "weigh 99999999 99999999", "error NoPerson")
        self.check(hoist, "weigh 0 999999999", UNKNOWN)
        self.check(hoist, "weigh 999999999 0", UNKNOWN)

    def test_spaces_and_line_feeds(self):
        for line in ("come 5", "leave 0", "weigh 0 5", "loosen 5", "undo", "tower", "reach", "free", "least", "stones"):
            lines = [" " + line, line + " ", " " + line + " ", line + "\n", "\n" + line, line + "\t", line + "\r"]
            if " " in line:
                lines += [line.replace(" ", other) for other in ("  ", "   ", "\t", "\n", "", ",", "\u00a0", " \n")]
            self.check_all(lines)
        self.check_all(["", " ", "  ", "\n"])

    def test_names_of_other_methods(self):
        names = ("state", "edits", "attempt", "certificate", "walk", "read", "beyond", "is_free", "MOST_EDITS", "len")
        names += ("_keep", "__init__", "execute", "str", "help", "ok", "error", "Undo", "UNDO", "Tower", "stone", "-")
        self.check_all([*names, *[f"{name} 1" for name in names], *[f"{name} 1 1" for name in names]])

    def test_values_that_are_no_texts(self):
        values = [value for value in odd_values() if value not in ("tower",)]
        self.check_all([*values, b"tower", ("tower",), ["undo"], ("come", 5), Load(()), Hoist(V), 5])


class Constructor(unittest.TestCase):
    def test_it_changes_nothing(self):
        hoist = edited(V, [("come", 5)])
        before = snapshot(hoist)
        Shell(hoist)
        self.assertEqual(snapshot(hoist), before)


if __name__ == "__main__":
    unittest.main()
