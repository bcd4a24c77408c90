"""A shell: a hoist that is worked by lines of text."""

from basketrope.batches import EDIT_VALUES, do_edit
from basketrope.errors import NoPerson, RopeError
from basketrope.reach import least_excess
from basketrope.stones import stones_for
from basketrope.texts import parse_number, tower_text, weights_text

UNKNOWN = "unknown command"

# The commands, besides undo, that take no number.
QUERIES = ("tower", "reach", "free", "least", "stones")


class Shell:
    """Commands for one hoist."""

    def __init__(self, hoist):
        self._hoist = hoist

    def execute(self, line):
        """Return the answer to any value as a line."""
        if not isinstance(line, str):
            return UNKNOWN
        name, *words = line.split(" ")
        numbers = [parse_number(word) for word in words]
        if None in numbers:
            return UNKNOWN
        if name in QUERIES and len(numbers) == 0:
            return self._answer(name)
        if EDIT_VALUES.get(name) == len(numbers) or (name == "undo" and len(numbers) == 0):
            return self._change(name, numbers)
        return UNKNOWN

    def _answer(self, name):
        """Return the answer to a query."""
        tower = self._hoist.tower
        if name == "tower":
            return tower_text(tower)
        if name == "reach":
            return str(self._hoist.reach)
        if name == "free":
            return "yes" if self._hoist.is_free else "no"
        if name == "least":
            return str(least_excess(tower))
        return weights_text(stones_for(tower))

    def _change(self, name, numbers):
        """Do an edit or an undo, and return the answer."""
        try:
            if name == "undo":
                version = self._hoist.undo()
            else:
                version = do_edit(self._hoist, name, numbers)
        except (RopeError, NoPerson) as e:
            return "error " + e.__class__.__name__
        return f"ok {version}"
