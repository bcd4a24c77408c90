"""Plain searches, straight from the definitions, to compare the program with."""

import itertools


def plain_groups(people):
    """Return all groups of so many people."""
    return [group for size in range(people + 1) for group in itertools.combinations(range(people), size)]


def plain_weight(tower, group):
    """Return the weight of a group."""
    total = 0
    for person in group:
        total += tower[1][person]
    return total


def plain_sums(tower):
    """Return the weights of all groups, ascending, each once."""
    return tuple(sorted({plain_weight(tower, group) for group in plain_groups(len(tower[1]))}))


def plain_moves(tower, group):
    """Return all moves that are possible from the group, each with the group to which it leads."""
    excess, weights = tower
    above = [person for person in range(len(weights)) if person not in group]
    moves = []
    for down in [chosen for size in range(len(above) + 1) for chosen in itertools.combinations(above, size)]:
        for up in [chosen for size in range(len(group) + 1) for chosen in itertools.combinations(group, size)]:
            if 0 < plain_weight(tower, down) - plain_weight(tower, up) <= excess:
                moves.append(((down, up), tuple(sorted((set(group) - set(up)) | set(down)))))
    return moves


def all_moves(tower):
    """Return a dict of the moves that are possible from each group."""
    return {group: plain_moves(tower, group) for group in plain_groups(len(tower[1]))}


def distances(moves, start):
    """Return the groups that plans from start lead to, each with its fewest moves, by a search in breadth."""
    found = {start: 0}
    waiting = [start]
    for group in waiting:
        for _, reached in moves[group]:
            if reached not in found:
                found[reached] = found[group] + 1
                waiting.append(reached)
    return found


def plain_gap(tower, start, goal, low, high):
    """Tell whether the two ints are the numbers of a gap."""
    return (
        low >= plain_weight(tower, start)
        and high <= plain_weight(tower, goal)
        and high - low > tower[0]
        and [total for total in plain_sums(tower) if low < total < high] == []
    )


def plain_stuck(tower):
    """Return all people who are stuck, the lighter ones first."""
    excess, weights = tower
    stuck = []
    for person in sorted(range(len(weights)), key=lambda one: weights[one]):
        lighter = [weight for weight in weights if weight < weights[person]]
        if weights[person] > excess + sum(lighter):
            stuck.append(person)
    return stuck


def shortest_plans(moves, start, goal):
    """Return all plans with the fewest moves that lead from start to goal, ascending, by a search in breadth."""
    found = distances(moves, start)
    if goal not in found:
        return []
    plans = {start: [()]}
    for group in sorted(found, key=lambda one: found[one]):
        for move, reached in moves[group]:
            if found[reached] == found[group] + 1 and found[reached] <= found[goal]:
                plans.setdefault(reached, []).extend([(*plan, move) for plan in plans[group]])
    return sorted(plans[goal])


def plain_stones_hold(tower, stones):
    """Tell whether everybody comes down with the stones, by a search over all groups."""
    excess, weights = tower
    found = distances(all_moves((excess, (*weights, *stones))), ())
    return set(range(len(weights))) <= {person for group in found for person in group}
