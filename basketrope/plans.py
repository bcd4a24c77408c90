"""Plans for small towers, and the reasons why there is none."""

from basketrope.bounds import SMALL
from basketrope.checks import is_number_between
from basketrope.errors import TooLarge
from basketrope.moves import groups_of, is_plan, move_between
from basketrope.towers import weight_of


def check_small(tower):
    """Raise an error if the tower has more people than a small one."""
    _, weights = tower
    if len(weights) > SMALL:
        raise TooLarge(SMALL)


def groups_by_weight(tower):
    """Return a dict with one group of each weight that groups of a small tower have."""
    _, weights = tower
    groups = {0: ()}
    for person, weight in enumerate(weights):
        without_person = list(groups.items())
        for total, group in without_person:
            groups.setdefault(total + weight, (*group, person))
    return groups


def sums_of(tower):
    """Return the weights of all groups, ascending, each of them once."""
    check_small(tower)
    return tuple(sorted(groups_by_weight(tower)))


def sums_between(tower, start, goal):
    """Return the weights of groups from that of the start to that of the goal."""
    low = weight_of(tower, start)
    high = weight_of(tower, goal)
    return [total for total in sums_of(tower) if low <= total <= high]


def find_bar(tower, start, goal):
    """Return a bar for a start and another group as the goal, or None if there is a plan."""
    if weight_of(tower, goal) <= weight_of(tower, start):
        return ("light",)
    excess, _ = tower
    sums = sums_between(tower, start, goal)
    for low, high in zip(sums, sums[1:]):
        if high - low > excess:
            return ("gap", low, high)
    return None


def stops_between(tower, start, goal):
    """Return the weights between start and goal at which the fewest moves stop, if no bar is there."""
    excess, _ = tower
    stops = [weight_of(tower, start)]
    sums = sums_between(tower, start, goal)
    for total, beyond in zip(sums, sums[1:]):
        # A move that goes as far as it can never costs a move more later.
        if beyond - stops[-1] > excess:
            stops.append(total)
    return stops[1:]


def certificate(tower, start, goal):
    """Return a plan that leads from start to goal, or a bar, as a certificate."""
    plan = find_plan(tower, start, goal)
    if plan is None:
        return find_bar(tower, start, goal)
    return ("plan", plan)


def certificate_holds(tower, start, goal, value):
    """Tell whether any value is a certificate for the start and the goal."""
    check_small(tower)
    if not isinstance(value, tuple) or len(value) == 0:
        return False
    kind, *parts = value
    if kind == "plan" and len(parts) == 1:
        return leads_to(tower, start, goal, parts[0])
    if kind == "light" and len(parts) == 0:
        return start != goal and weight_of(tower, goal) <= weight_of(tower, start)
    if kind == "gap" and len(parts) == 2:
        return is_gap(tower, start, goal, parts[0], parts[1])
    return False


def leads_to(tower, start, goal, value):
    """Tell whether any value is a plan that leads from start to goal."""
    return is_plan(tower, start, value) and groups_of(tower, start, value)[-1] == goal


def is_gap(tower, start, goal, low, high):
    """Tell whether any two values are the numbers of a gap between start and goal."""
    least = weight_of(tower, start)
    most = weight_of(tower, goal)
    if not is_number_between(low, least, most) or not is_number_between(high, least, most):
        return False
    excess, _ = tower
    return high - low > excess and not any([low < total < high for total in sums_of(tower)])


def fewest_moves(tower, start, goal):
    """Return the least number of moves that lead from start to goal, or None if none do."""
    plan = find_plan(tower, start, goal)
    return None if plan is None else len(plan)


def find_plan(tower, start, goal):
    """Return a plan of the fewest moves that leads from start to goal, or None if there is none."""
    check_small(tower)
    if start == goal:
        return ()
    if find_bar(tower, start, goal) is not None:
        return None
    groups = groups_by_weight(tower)
    route = [start, *[groups[stop] for stop in stops_between(tower, start, goal)], goal]
    return tuple([move_between(tower, here, there) for here, there in zip(route, route[1:])])
