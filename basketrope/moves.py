"""Moves, and plans of several moves."""

from basketrope.towers import is_group, weight_of


def without(group, others):
    """Return the people of a group who do not belong to the other one."""
    return tuple([person for person in group if person not in others])


def is_move(tower, group, value):
    """Tell whether any value is a move that is possible from the group."""
    if not isinstance(value, tuple) or len(value) != 2:
        return False
    down, up = value
    if not is_group(tower, down) or not is_group(tower, up):
        return False
    # The group is at the bottom: nobody of it can come down, and only it can go up.
    if without(down, group) != down or without(up, group) != ():
        return False
    excess, _ = tower
    return 1 <= weight_of(tower, down) - weight_of(tower, up) <= excess


def after_move(tower, group, move):
    """Return the group to which a move that is possible from the group leads."""
    down, up = move
    return tuple(sorted([*without(group, up), *down]))


def move_between(tower, start, goal):
    """Return the move that leads from start to goal, or None if no possible one does."""
    # Those in both groups stay where they are, so no other move can lead there.
    move = (without(goal, start), without(start, goal))
    return move if is_move(tower, start, move) else None


def is_plan(tower, start, value):
    """Tell whether any value is a plan from start."""
    if not isinstance(value, tuple):
        return False
    group = start
    for move in value:
        if not is_move(tower, group, move):
            return False
        group = after_move(tower, group, move)
    return True


def groups_of(tower, start, plan):
    """Return the start and the groups to which the moves of a plan from it lead."""
    groups = [start]
    for move in plan:
        groups.append(after_move(tower, groups[-1], move))
    return tuple(groups)
