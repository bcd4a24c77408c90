"""Edits as tuples of a name and values, and lists of them."""

from basketrope.bounds import BATCH
from basketrope.errors import BadEdit, BadEdits

# The number of values that each edit takes.
EDIT_VALUES = {"come": 1, "leave": 1, "weigh": 2, "loosen": 1}


def is_edit(value):
    """Tell whether any value has the name of an edit and as many values as this one takes."""
    if not isinstance(value, tuple) or len(value) == 0:
        return False
    name, *values = value
    return isinstance(name, str) and EDIT_VALUES.get(name) == len(values)


def check_batch(value):
    """Raise an error unless any value is a list or tuple of edits, and not too many."""
    if not isinstance(value, (list, tuple)) or len(value) > BATCH:
        raise BadEdits()
    for index, edit in enumerate(value):
        if not is_edit(edit):
            raise BadEdit(index)


def do_edit(hoist, name, values):
    """Do the edit of this name on the hoist, and return the new version."""
    if name == "come":
        return hoist.come(*values)
    if name == "leave":
        return hoist.leave(*values)
    if name == "weigh":
        return hoist.weigh(*values)
    return hoist.loosen(*values)
