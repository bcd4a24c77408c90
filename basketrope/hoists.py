"""Hoists: towers that are edited, with undo."""

from basketrope.batches import check_batch, do_edit
from basketrope.bounds import MAX_EDITS, MAX_PEOPLE
from basketrope.checks import is_number_between
from basketrope.errors import BadExcess, BadGroup, BadTower, BadWeight, Busy, NoPerson, NothingToUndo, NoVersion
from basketrope.errors import Rejected, RopeError, TooManyEdits, TooManyPeople
from basketrope.plans import certificate, check_small
from basketrope.promises import Promise
from basketrope.reach import people_by_weight, reach_weight, room_of, stuck_person
from basketrope.texts import parse_tower
from basketrope.towers import is_excess, is_group, is_weight, tower_error


class Hoist:
    """A tower whose people and excess are changed by edits, of which the last one can be undone."""

    # MAX_EDITS; a value of a class is written out.
    MOST_EDITS = 60

    def __init__(self, tower):
        error = tower_error(tower)
        if error is not None:
            raise BadTower(error)
        # Both are tuples, so that attempt can put the earlier ones back whatever happens.
        self._towers = (tower,)
        self._edits = ()
        self._watched = False

    @property
    def tower(self):
        """The present tower."""
        return self._towers[-1]

    @property
    def reach(self):
        """What reach_weight returns for the present tower."""
        return reach_weight(self._towers[-1])

    @property
    def is_free(self):
        """Whether nobody is stuck at present."""
        return stuck_person(self._towers[-1]) is None

    def come(self, weight):
        """Add a person of any value as the weight behind the others, and return the new version."""
        self._check_edit()
        if not is_weight(weight):
            raise BadWeight(weight)
        excess, weights = self.tower
        if len(weights) == MAX_PEOPLE:
            raise TooManyPeople()
        return self._keep(("come", weight), (excess, (*weights, weight)))

    def leave(self, person):
        """Remove the person of any value as the number, and return the new version."""
        self._check_edit()
        self._check_person(person)
        excess, weights = self.tower
        return self._keep(("leave", person), (excess, (*weights[:person], *weights[person + 1:])))

    def weigh(self, person, weight):
        """Give the person of any value as the number another weight, and return the new version."""
        self._check_edit()
        self._check_person(person)
        if not is_weight(weight):
            raise BadWeight(weight)
        excess, weights = self.tower
        return self._keep(("weigh", person, weight), (excess, (*weights[:person], weight, *weights[person + 1:])))

    def loosen(self, excess):
        """Give the tower any value as its excess, and return the new version."""
        self._check_edit()
        if not is_excess(excess):
            raise BadExcess(excess)
        _, weights = self.tower
        return self._keep(("loosen", excess), (excess, weights))

    def undo(self):
        """Remove the last edit that stands, and return the new version."""
        self._check_idle()
        if len(self._edits) == 0:
            raise NothingToUndo()
        self._towers = self._towers[:-1]
        self._edits = self._edits[:-1]
        return len(self._edits)

    def attempt(self, edits, *, watch=None):
        """Do all edits of a list or tuple, or none, or those up to the one that watch accepts; return how many."""
        self._check_idle()
        check_batch(edits)
        batch = list(edits)
        kept_towers = self._towers
        kept_edits = self._edits
        done = None
        try:
            done = self._do_each(batch, watch)
        finally:
            self._watched = False
            # Whatever was raised here, also by watch, undoes all.
            if done is None:
                self._towers = kept_towers
                self._edits = kept_edits
        return done

    def state(self, *, version=None):
        """Return the tower of any value as the version; the present one for None."""
        if version is None:
            return self.tower
        if not is_number_between(version, 0, len(self._edits)):
            raise NoVersion(version)
        return self._towers[version]

    def certificate(self, goal, *, version=None):
        """Return a certificate from nobody to any value as the goal."""
        tower = self.state(version=version)
        check_small(tower)
        if not is_group(tower, goal):
            raise BadGroup(goal)
        return certificate(tower, (), goal)

    def walk(self, *, version=None):
        """Yield each person with the room, the lighter ones first."""
        tower = self.state(version=version)
        for person in people_by_weight(tower):
            yield (person, room_of(tower, person))

    def edits(self):
        """Return the edits that stand, as tuples of the name and the values."""
        return self._edits

    @classmethod
    def read(cls, text):
        """Return a new hoist with the tower of any value as the text."""
        return cls(parse_tower(text))

    def __len__(self):
        return len(self._edits)

    def __str__(self):
        return f"{len(self.tower[1])} people, excess {self.tower[0]}, reach {self.reach}, {len(self._edits)} edits"

    def __eq__(self, other):
        if not isinstance(other, Hoist):
            return False
        return likeness(self) == likeness(other)

    def _check_idle(self):
        """Raise an error while a watch of this hoist runs."""
        if self._watched:
            raise Busy()

    def _check_edit(self):
        """Raise an error if no edit can be done now."""
        self._check_idle()
        if len(self._edits) == MAX_EDITS:
            raise TooManyEdits()

    def _check_person(self, person):
        """Raise an error unless any value is the number of a person."""
        _, weights = self.tower
        if not is_number_between(person, 0, len(weights) - 1):
            raise NoPerson(person)

    def _check_tower(self, tower):
        """Raise an error if the hoist can't have this tower; a plain hoist can have any."""

    def _keep(self, edit, tower):
        """Let an edit stand that leads to the tower, and return the new version."""
        self._check_tower(tower)
        self._towers = (*self._towers, tower)
        self._edits = (*self._edits, edit)
        return len(self._edits)

    def _do_each(self, batch, watch):
        """Do the edits until watch accepts, and return how many were done."""
        for index, edit in enumerate(batch):
            self._do_one(index, edit)
            if watch is not None and self._is_accepted(watch):
                return index + 1
        return len(batch)

    def _do_one(self, index, edit):
        """Do the edit at the index of a batch."""
        name, *values = edit
        try:
            do_edit(self, name, values)
        except (RopeError, NoPerson) as e:
            raise Rejected(index) from e

    def _is_accepted(self, watch):
        """Tell whether watch accepts the hoist as it is."""
        self._watched = True
        accepted = bool(watch(self))
        self._watched = False
        return accepted


class PromisedHoist(Hoist, Promise):
    """A hoist whose reach is never less than was promised."""

    def __init__(self, tower, least):
        Hoist.__init__(self, tower)
        Promise.__init__(self, least)
        self._check_tower(tower)

    def _check_tower(self, tower):
        """Raise an error if the reach of the tower is less than was promised."""
        self.beyond(reach_weight(tower))


def likeness(hoist):
    """Return what is the same for hoists that are equal, and only for them."""
    excess, weights = hoist.tower
    promised = hoist.least if isinstance(hoist, PromisedHoist) else None
    return (excess, sorted(weights), promised)
