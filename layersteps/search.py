"""Searches over all commands of an order."""

from layersteps.commands import after_command, apply
from layersteps.distances import distance
from layersteps.orders import WORDS


def all_commands(order):
    """Return all commands for the layers of the order."""
    return [(word, layer) for word in WORDS for layer in order]


def following_counts(counts):
    """Take the number of scripts that lead to each order; return it for scripts with one command more."""
    following = {}
    for order in counts:
        for command in all_commands(order):
            reached = after_command(order, command)
            following[reached] = following.get(reached, 0) + counts[order]
    return following


def count_plans(order, target):
    """Return the number of shortest scripts that lead from the order to the target."""
    counts = {order: 1}
    for done in range(distance(order, target)):
        counts = following_counts(counts)
    return counts[target]


def following_sphere(sphere, seen):
    """Return the orders that one more command reaches for the first time, and note them as seen."""
    following = []
    for order in sphere:
        for command in all_commands(order):
            reached = after_command(order, command)
            if reached not in seen:
                seen[reached] = True
                following.append(reached)
    return following


def spheres(order):
    """Yield the targets to which the distance is 0, then those to which it is 1, and so on to the largest distance."""
    seen = {order: True}
    sphere = [order]
    while sphere:
        yield sphere
        sphere = following_sphere(sphere, seen)


def sphere_sizes(order):
    """Return the number of targets for each distance from the order."""
    return [len(sphere) for sphere in spheres(order)]


def hidden_commands(order, script, position, result):
    """Return the commands that, inserted into the script at the position, lead from the order to the result."""
    before = apply(order, script[:position])
    behind = script[position:]
    return [
        command
        for command in sorted(all_commands(order))
        if apply(after_command(before, command), behind) == result
    ]
