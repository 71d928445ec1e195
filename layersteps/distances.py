"""The fewest commands that lead from one order to another."""


def wrong_pairs(order, layers):
    """Return the pairs of the given layers, as they follow there, that stand the other way round in the order."""
    return [
        (front, behind)
        for at, front in enumerate(layers)
        for behind in layers[at + 1:]
        if order.index(behind) < order.index(front)
    ]


def stretch_cost(order, target, start, end):
    """Return the cost of a stretch of the target for the order."""
    outside = len(target) - (end - start)
    return outside + len(wrong_pairs(order, target[start:end]))


def all_stretches(size):
    """Return all stretches of a target with so many layers."""
    return [(start, end) for start in range(size) for end in range(start + 1, size + 1)]


def best_stretch(order, target):
    """Return a stretch of the target with the smallest cost for the order."""
    # A target without layers has no stretch; the empty one costs nothing there.
    return min(
        all_stretches(len(target)),
        key=lambda stretch: stretch_cost(order, target, stretch[0], stretch[1]),
        default=(0, 0),
    )


def distance(order, target):
    """Return the smallest number of commands that lead from the order to the target."""
    start, end = best_stretch(order, target)
    return stretch_cost(order, target, start, end)


def plan(order, target):
    """Return a shortest script that leads from the order to the target."""
    start, end = best_stretch(order, target)
    # The layer that is to stand outermost is moved last, so that no later one passes it.
    fronts = [("front", layer) for layer in reversed(target[:start])]
    backs = [("back", layer) for layer in target[end:]]
    # Now the stretch is contiguous. Its layers go up in the target's order, so each
    # step passes one layer that belongs behind: one step for each wrong pair.
    steps = [("up", front) for front, behind in wrong_pairs(order, target[start:end])]
    return tuple(fronts + backs + steps)
