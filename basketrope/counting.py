"""How many plans with the fewest moves there are for small towers, and which."""

from basketrope.moves import after_move, move_between
from basketrope.plans import check_small, sums_between
from basketrope.towers import weight_of


def weights_ahead(tower, start, goal):
    """Return a dict, from the goal down: for each weight those at which a plan of the fewest moves stops next."""
    excess, _ = tower
    left = {weight_of(tower, goal): 0}
    ahead = {weight_of(tower, goal): []}
    for total in sorted(sums_between(tower, start, goal)[:-1], reverse=True):
        within = [beyond for beyond in left if beyond <= total + excess]
        if len(within) > 0:
            least = min([left[beyond] for beyond in within])
            left[total] = least + 1
            ahead[total] = [beyond for beyond in within if left[beyond] == least]
    return ahead


def stops_by_weight(tower, goal):
    """Return a dict with the groups of each weight at which a plan can stop."""
    _, weights = tower
    groups = [()]
    for person in range(len(weights)):
        groups = [*groups, *[(*group, person) for group in groups]]
    stops = {}
    for group in groups:
        stops.setdefault(weight_of(tower, group), []).append(group)
    # From another group of the same weight nothing leads to the goal.
    stops[weight_of(tower, goal)] = [goal]
    return stops


def count_plans(tower, start, goal):
    """Return the number of plans with the fewest moves that lead from start to goal."""
    check_small(tower)
    if weight_of(tower, start) == weight_of(tower, goal):
        return 1 if start == goal else 0
    ahead = weights_ahead(tower, start, goal)
    stops = stops_by_weight(tower, goal)
    ways = {weight_of(tower, goal): 1}
    for total in list(ahead)[1:]:
        ways[total] = sum([len(stops[beyond]) * ways[beyond] for beyond in ahead[total]])
    return ways.get(weight_of(tower, start), 0)


def moves_onward(tower, group, ahead, stops):
    """Return the moves with which plans of the fewest moves go on from a group, the greatest first."""
    found = []
    for beyond in ahead.get(weight_of(tower, group), []):
        found.extend([move_between(tower, group, there) for there in stops[beyond]])
    return sorted(found, reverse=True)


def each_plan(tower, start, goal):
    """Yield the plans with the fewest moves that lead from start to goal, in ascending order."""
    check_small(tower)
    ahead = weights_ahead(tower, start, goal)
    stops = stops_by_weight(tower, goal)
    # Many plans go through the same group, and go on from it by the same moves.
    onward = {}
    # The plans that are begun, each with the group to which it leads; the last one goes on first.
    begun = [((), start)]
    while len(begun) > 0:
        plan, group = begun.pop()
        if group == goal:
            yield plan
        else:
            if group not in onward:
                onward[group] = moves_onward(tower, group, ahead, stops)
            for move in onward[group]:
                begun.append(((*plan, move), after_move(tower, group, move)))
