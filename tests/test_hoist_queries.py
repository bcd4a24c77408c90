"""Hoist: state, certificate, walk, edits, read, its text and when it equals something."""

import inspect
import itertools
import random
import unittest

from basketrope import plans
from basketrope.errors import BadGroup, BadText, NoVersion, TooLarge
from basketrope.hoists import Hoist, PromisedHoist
from basketrope.promises import Promise
from basketrope.texts import tower_text
from basketrope.values import Load
from tests.hoisting import (
    TOP, U, V, W, WRONG_PLACES, HoistTest, check_hoist, do, drawn_edit, edited, plain_room, plain_tower, plain_walk,
    snapshot,
)
from tests.plain import plain_groups
from tests.raising import check_raises
from tests.samples import check_equal, odd_values


def drawn_hoist(draw, tower, many):
    """Return a hoist with so many edits, its towers and its edits."""
    hoist, towers, edits = Hoist(tower), [tower], []
    for _ in range(many):
        edits.append(drawn_edit(draw, towers[-1]))
        towers.append(plain_tower(towers[-1], edits[-1]))
        do(hoist, edits[-1])
    return hoist, towers, edits


class Versions(HoistTest):
    def test_each_version(self):
        draw = random.Random(1)
        for many in (0, 1, 2, 7, 60):
            for tower in (V, (1, ()), (4, (3, 4, 9, 20))):
                hoist, towers, edits = drawn_hoist(draw, tower, many)
                check_hoist(self, hoist, towers, edits)
                for version, expected in enumerate(towers):
                    self.assertEqual(repr(hoist.state(version=version)), repr(expected))
                    self.assertEqual(repr(list(hoist.walk(version=version))), repr(plain_walk(expected)))
                    if len(expected[1]) <= 8:
                        goal = tuple(range(len(expected[1])))
                        found = hoist.certificate(goal, version=version)
                        self.assertEqual(repr(found), repr(plans.certificate(expected, (), goal)))
                check_hoist(self, hoist, towers, edits)

    def test_values_that_are_no_version(self):
        for many in (0, 1, 5):
            hoist, _, _ = drawn_hoist(random.Random(2), V, many)
            for value in [*WRONG_PLACES[1:], many + 1, -many - 1, 61, hoist, Load((1,))]:
                self.check(hoist, NoVersion, value, hoist.state, version=value)
                self.check(hoist, NoVersion, value, hoist.certificate, (), version=value)
                self.check(hoist, NoVersion, value, lambda version: list(hoist.walk(version=version)), version=value)

    def test_versions_that_were_undone(self):
        hoist = edited(V, [("come", 5), ("come", 6), ("loosen", 9)])
        hoist.undo()
        self.check(hoist, NoVersion, 3, hoist.state, version=3)
        hoist.leave(0)
        self.assertEqual(hoist.state(version=3), (1, (3, 5, 6)))
        self.assertEqual(hoist.state(version=2), (1, (1, 3, 5, 6)))

    def test_kind_of_the_error(self):
        with self.assertRaises(LookupError) as caught:
            Hoist(V).state(version=1)
        self.assertNotIsInstance(caught.exception, ValueError)

    def test_version_is_passed_by_keyword(self):
        hoist = Hoist(V)
        for call in (lambda: hoist.state(0), lambda: hoist.certificate((), 0), lambda: hoist.walk(0)):
            with self.assertRaises(TypeError):
                call()


class Certificates(HoistTest):
    def test_against_section_2(self):
        for tower in [V, U, W, (1, ()), (4, (3, 4, 9, 20)), (1, (5, 5)), (2, (2, 2, 2))]:
            hoist = Hoist(tower)
            for goal in plain_groups(len(tower[1])):
                found = hoist.certificate(goal)
                self.assertEqual(repr(found), repr(plans.certificate(tower, (), goal)))
                self.assertEqual(repr(found), repr(hoist.certificate(goal)))
                self.assertTrue(plans.certificate_holds(tower, (), goal, found))

    def test_of_the_version(self):
        hoist = edited(V, [("loosen", 2), ("leave", 0)])
        self.assertEqual(hoist.certificate((1,), version=0), ("gap", 1, 3))
        self.assertEqual(hoist.certificate((1,), version=1), ("plan", (((0,), ()), ((1,), (0,)))))
        self.check(hoist, BadGroup, (1,), hoist.certificate, (1,))
        self.check(hoist, BadGroup, (1,), hoist.certificate, (1,), version=2)
        self.assertEqual(hoist.certificate((0,)), ("gap", 0, 3))

    def test_values_that_are_no_group(self):
        wrong = [(2,), (0, 2), (1, 0), (0, 0), (-1,), (True,), (0, True), (False,), [0], [], None, 0, "0", Load(())]
        for hoist in (Hoist(V), edited((1, (1, 3, 4)), [("leave", 2)]), PromisedHoist(V, 1)):
            for value in wrong:
                self.check(hoist, BadGroup, value, hoist.certificate, value)
                self.check(hoist, BadGroup, value, hoist.certificate, value, version=len(hoist))
            for value in odd_values():
                if repr(value) not in ("()", "(0,)"):
                    self.check(hoist, BadGroup, value, hoist.certificate, value)
        self.check(Hoist((1, ())), BadGroup, (0,), Hoist((1, ())).certificate, (0,))
        goal = [0]
        with self.assertRaises(BadGroup) as caught:
            Hoist(V).certificate(goal)
        self.assertIs(caught.exception.value, goal)

    def test_too_large(self):
        for people in (9, 10, 24):
            hoist = Hoist((1, (1,) * people))
            for goal in [(), (0,), tuple(range(people)), None, (True,), [0], (people,)]:
                self.check(hoist, TooLarge, 8, hoist.certificate, goal)
                self.check(hoist, TooLarge, 8, hoist.certificate, goal, version=0)

    def test_errors_in_their_order(self):
        hoist = Hoist((1, (1,) * 9))
        self.check(hoist, NoVersion, 1, hoist.certificate, None, version=1)
        self.check(hoist, TooLarge, 8, hoist.certificate, None, version=0)
        hoist.leave(8)
        self.check(hoist, NoVersion, 2, hoist.certificate, None, version=2)
        self.check(hoist, TooLarge, 8, hoist.certificate, None, version=0)
        self.check(hoist, BadGroup, None, hoist.certificate, None, version=1)
        self.check(hoist, BadGroup, (8,), hoist.certificate, (8,))
        self.check(hoist, TooLarge, 8, hoist.certificate, (8,), version=0)
        self.assertEqual(hoist.certificate((0,)), ("plan", (((0,), ()),)))


class Walks(HoistTest):
    def test_it_is_a_generator(self):
        self.assertTrue(inspect.isgenerator(Hoist(V).walk()))
        walk = Hoist(W).walk()
        self.assertEqual([next(walk), next(walk), next(walk), next(walk)], [(1, 0), (3, 2), (2, 1), (0, -1)])
        with self.assertRaises(StopIteration):
            next(walk)

    def test_against_the_definition(self):
        draw = random.Random(3)
        for at in range(200):
            most = draw.choice([2, 9, 60, TOP])
            tower = (draw.randint(1, most), tuple([draw.randint(1, most) for _ in range(at % 25)]))
            found = list(Hoist(tower).walk())
            for person, room in found:
                self.assertEqual(repr(room), repr(plain_room(tower, person)))
            order = [(tower[1][person], person) for person, _ in found]
            self.assertEqual(order, sorted(order))
            self.assertEqual(sorted([person for person, _ in found]), list(range(len(tower[1]))))

    def test_nobody_stuck_and_equal_weights(self):
        self.assertEqual(list(Hoist((1, ())).walk()), [])
        self.assertEqual(list(Hoist(V).walk()), [(0, 0), (1, -1)])
        self.assertEqual(list(Hoist((3, (5, 2, 5, 2))).walk()), [(1, 1), (3, 1), (0, 2), (2, 2)])
        self.assertEqual(list(Hoist((1, (9, 9))).walk()), [(0, -8), (1, -8)])
        self.assertEqual(repr(list(Hoist((2, (11, 1, 10))).walk())), "[(1, 1), (2, -7), (0, 2)]")

    def test_it_changes_nothing(self):
        hoist = edited(W, [("come", 5), ("loosen", 2)])
        before = snapshot(hoist)
        walk = hoist.walk()
        next(walk)
        self.assertEqual(snapshot(hoist), before)
        self.assertEqual(list(walk), plain_walk(hoist.tower)[1:])
        self.assertEqual(snapshot(hoist), before)


class EditsThatStand(unittest.TestCase):
    def test_edits(self):
        hoist = Hoist((1, (7,)))
        self.assertEqual(repr(hoist.edits()), "()")
        edits = (("weigh", 0, 8), ("come", 3), ("leave", 1), ("loosen", 1))
        for at, edit in enumerate(edits):
            do(hoist, edit)
            self.assertEqual(repr(hoist.edits()), repr(edits[:at + 1]))
        for at in range(len(edits), 0, -1):
            self.assertEqual(hoist.edits(), edits[:at])
            hoist.undo()
        self.assertEqual(hoist.edits(), ())

    def test_they_lead_to_the_same_tower(self):
        draw = random.Random(4)
        for _ in range(20):
            hoist, towers, _ = drawn_hoist(draw, V, 30)
            self.assertEqual(edited(V, hoist.edits()).tower, towers[-1])

    def test_earlier_answers_stay(self):
        hoist = edited(V, [("come", 5)])
        first = hoist.edits()
        hoist.come(6)
        hoist.undo()
        hoist.undo()
        self.assertEqual(first, (("come", 5),))


class Read(unittest.TestCase):
    def test_texts_of_towers(self):
        for tower in [V, U, W, (1, ()), (TOP, (TOP,) * 24)]:
            hoist = Hoist.read(tower_text(tower))
            self.assertIs(type(hoist), Hoist)
            check_hoist(self, hoist, [tower], [])
        one, other = Hoist.read("1 / 1,3"), Hoist.read("1 / 1,3")
        one.come(5)
        check_hoist(self, other, [V], [])

    def test_wrong_texts(self):
        for text, index in [
            ("", 0), ("0 / 1", 0), ("1 - 1", 1), ("1", 1), ("1 /", 2), ("1 / 1,0", 2), ("1 / 1 ", 3),
            ("1 / 01", 2), ("1 / 1" + ",1" * 24, 2), ("1000001 / -", 0), ("1 / 1000001", 2),
        ]:
            check_raises(self, BadText, index, Hoist.read, text)

    def test_values_that_are_no_texts(self):
        for value in [*odd_values(), V, Hoist(V)]:
            if not isinstance(value, str):
                check_raises(self, BadText, None, Hoist.read, value)

    def test_also_on_a_hoist(self):
        hoist = Hoist(V)
        check_hoist(self, hoist.read("2 / 5"), [(2, (5,))], [])
        check_hoist(self, hoist, [V], [])


class Texts(unittest.TestCase):
    def test_texts(self):
        self.assertEqual(str(Hoist(V)), "2 people, excess 1, reach 1, 0 edits")
        self.assertEqual(str(Hoist((1, ()))), "0 people, excess 1, reach 0, 0 edits")
        self.assertEqual(str(edited((1, ()), [("come", 1)])), "1 people, excess 1, reach 1, 1 edits")
        self.assertEqual(str(Hoist((TOP, (TOP,) * 24))), "24 people, excess 1000000, reach 24000000, 0 edits")
        self.assertEqual(str(edited(W, [("loosen", 5), ("leave", 1)])), "3 people, excess 5, reach 13, 2 edits")
        self.assertEqual(str(PromisedHoist(U, 3)), "2 people, excess 2, reach 4, 0 edits")

    def test_len(self):
        hoist = Hoist(V)
        for at in range(1, 20):
            hoist.loosen(at)
            self.assertEqual(repr(len(hoist)), repr(at))
        hoist.undo()
        self.assertEqual(len(hoist), 18)


class Equal(unittest.TestCase):
    def test_another_order_of_the_people(self):
        for weights in itertools.permutations((3, 4, 9, 3)):
            check_equal(self, Hoist((4, weights)), Hoist((4, (3, 3, 4, 9))), True)
        hoist = Hoist((1, ()))
        check_equal(self, hoist, hoist, True)
        check_equal(self, hoist, Hoist((1, ())), True)

    def test_other_edits(self):
        check_equal(self, Hoist(V), edited(V, [("loosen", 2), ("loosen", 1)]), True)
        check_equal(self, edited((5, (9, 1)), [("weigh", 0, 3), ("loosen", 1)]), Hoist(V), True)
        check_equal(self, edited(V, [("come", 5)]), edited(V, [("weigh", 0, 5), ("come", 1)]), True)
        hoist = edited(V, [("come", 5)])
        check_equal(self, hoist, Hoist(V), False)
        hoist.undo()
        check_equal(self, hoist, Hoist(V), True)

    def test_other_towers(self):
        for tower in [U, (1, (1,)), (1, (3,)), (1, ()), (1, (1, 3, 3)), (1, (1, 1, 3)), (1, (2, 2)), (3, (1, 1))]:
            check_equal(self, Hoist(V), Hoist(tower), False)

    def test_promised_hoists(self):
        check_equal(self, Hoist(U), PromisedHoist(U, 3), False)
        check_equal(self, Hoist(U), PromisedHoist(U, 0), False)
        check_equal(self, PromisedHoist(U, 3), PromisedHoist(U, 3), True)
        check_equal(self, PromisedHoist(U, 3), PromisedHoist((2, (3, 1)), 3), True)
        check_equal(self, PromisedHoist(U, 3), PromisedHoist(U, 2), False)
        check_equal(self, PromisedHoist(U, 3), PromisedHoist(U, 0), False)
        check_equal(self, PromisedHoist(U, 0), PromisedHoist(U, 0), True)
        check_equal(self, PromisedHoist(U, 1), PromisedHoist((3, (1, 3)), 1), False)
        check_equal(self, PromisedHoist(U, 3), Promise(3), False)

    def test_other_values(self):
        for hoist in (Hoist(V), Hoist((1, ())), PromisedHoist(V, 1)):
            for value in [*odd_values(), V, (1, ()), hoist.tower, str(hoist), len(hoist), Load((1, 3)), Promise(1)]:
                check_equal(self, hoist, value, False)


if __name__ == "__main__":
    unittest.main()
