"""Who can come down, for towers of any size."""

from basketrope.towers import weight_of


def lighter_weight(tower, person):
    """Return the weight of all people who are lighter than the person."""
    _, weights = tower
    return sum([weight for weight in weights if weight < weights[person]])


def room_of(tower, person):
    """Return by how much the person could be heavier without being stuck."""
    excess, weights = tower
    return excess + lighter_weight(tower, person) - weights[person]


def people_by_weight(tower):
    """Return all people, the lighter ones first, of equal ones the smaller number."""
    _, weights = tower
    return sorted(range(len(weights)), key=lambda person: (weights[person], person))


def stuck_person(tower):
    """Return the lightest person who is stuck, or None if nobody is."""
    for person in people_by_weight(tower):
        if room_of(tower, person) < 0:
            return person
    return None


def reach_weight(tower):
    """Return the weight of all people who are lighter than the stuck person, or of all people."""
    _, weights = tower
    person = stuck_person(tower)
    return sum(weights) if person is None else lighter_weight(tower, person)


def can_reach(tower, group):
    """Tell whether some plan leads from nobody to the group."""
    return weight_of(tower, group) <= reach_weight(tower)


def never_down(tower):
    """Return the people who belong to no group that can be reached from nobody."""
    _, weights = tower
    # Of all groups with a person, the one with nobody else is the lightest.
    return tuple([person for person in range(len(weights)) if not can_reach(tower, (person,))])


def least_excess(tower):
    """Return the least excess with which nobody would be stuck."""
    _, weights = tower
    needed = [weights[person] - lighter_weight(tower, person) for person in range(len(weights))]
    return max([1, *needed])
