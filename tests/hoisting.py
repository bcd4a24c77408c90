"""What several tests of hoists use."""

import unittest

from basketrope.hoists import Hoist, PromisedHoist
from tests.raising import check_raises, check_raises_bare
from tests.samples import LONGEST_INT

TOP = 10 ** 6
V = (1, (1, 3))
U = (2, (1, 3))
W = (3, (20, 3, 9, 4))

NAMES = ("come", "leave", "weigh", "loosen")

# Neither the number of a person nor a version, of however few people or edits.
WRONG_PLACES = (
    None, True, False, -1, -2, 10 ** 9, LONGEST_INT, -LONGEST_INT, "", "0", "a", (), (0,), [], [0], {}, {"0": 0},
)


def plain_tower(tower, edit):
    """Return the tower behind a right edit."""
    excess, weights = tower
    people = list(weights)
    name, *values = edit
    if name == "come":
        people.append(values[0])
    if name == "leave":
        del people[values[0]]
    if name == "weigh":
        people[values[0]] = values[1]
    if name == "loosen":
        excess = values[0]
    return (excess, tuple(people))


def plain_room(tower, person):
    """Return the room of a person: the excess and the weights of all lighter people, less the own weight."""
    excess, weights = tower
    return excess + sum([weight for weight in weights if weight < weights[person]]) - weights[person]


def plain_walk(tower):
    """Return all people with their rooms, the lighter ones first."""
    people = sorted([(weight, person) for person, weight in enumerate(tower[1])])
    return [(person, plain_room(tower, person)) for _, person in people]


def plain_reach(tower):
    """Return the weight of all people before the first one in the walk who is stuck and of another weight."""
    stuck = [tower[1][person] for person, room in plain_walk(tower) if room < 0]
    return sum([weight for weight in tower[1] if not stuck or weight < stuck[0]])


def do(hoist, edit):
    """Do an edit that is given as a tuple."""
    name, *values = edit
    return getattr(hoist, name)(*values)


def drawn_edit(draw, tower):
    """Return an edit that is right for the tower."""
    excess, weights = tower
    names = [name for name in NAMES if name != "come" or len(weights) < 24]
    name = draw.choice([name for name in names if name not in ("leave", "weigh") or weights])
    weight = draw.randint(1, draw.choice([3, 10, 2 * sum(weights) + 1])) % TOP + 1
    person = draw.randrange(len(weights)) if weights else None
    return {
        "come": ("come", weight), "leave": ("leave", person),
        "weigh": ("weigh", person, weight), "loosen": ("loosen", draw.randint(1, 12)),
    }[name]


def snapshot(hoist):
    """Return all that a hoist tells of itself, as a text."""
    states = [hoist.state(version=version) for version in range(len(hoist) + 1)]
    attributes = [hoist.tower, hoist.reach, hoist.is_free, hoist.MOST_EDITS]
    least = hoist.least if isinstance(hoist, PromisedHoist) else None
    return repr([*attributes, least, hoist.state(), states, list(hoist.walk()), hoist.edits(), len(hoist), str(hoist)])


def edited(tower, edits):
    """Return a new hoist on which the edits were done one after another."""
    hoist = Hoist(tower)
    for edit in edits:
        do(hoist, edit)
    return hoist


def check_hoist(test, hoist, towers, edits):
    """Check all that the hoist tells against its towers, from the first one on, and the edits between them."""
    tower = towers[-1]
    test.assertEqual(repr(hoist.tower), repr(tower))
    test.assertEqual(repr(hoist.state()), repr(tower))
    test.assertEqual(repr(hoist.state(version=None)), repr(tower))
    test.assertEqual(repr([hoist.state(version=at) for at in range(len(towers))]), repr(towers))
    test.assertEqual(repr(hoist.edits()), repr(tuple(edits)))
    test.assertEqual(len(hoist), len(edits))
    test.assertEqual(repr(hoist.reach), repr(plain_reach(tower)))
    test.assertIs(hoist.is_free, all([room >= 0 for _, room in plain_walk(tower)]))
    test.assertEqual(repr(list(hoist.walk())), repr(plain_walk(tower)))
    people, numbers = len(tower[1]), (tower[0], plain_reach(tower), len(edits))
    expected = "{} people, excess {}, reach {}, {} edits".format(people, *numbers)
    test.assertEqual(repr(str(hoist)), repr(expected))


class HoistTest(unittest.TestCase):
    """A test that checks errors of calls that change nothing."""

    def check(self, hoist, shape, value, function, *arguments, **named):
        """Check the error of a call, with its one field, and that the hoist is as before."""
        before = snapshot(hoist)
        check_raises(self, shape, value, function, *arguments, **named)
        self.assertEqual(snapshot(hoist), before)

    def check_bare(self, hoist, shape, function, *arguments, **named):
        """Check the error of a call, which has no fields, and that the hoist is as before."""
        before = snapshot(hoist)
        check_raises_bare(self, shape, function, *arguments, **named)
        self.assertEqual(snapshot(hoist), before)
