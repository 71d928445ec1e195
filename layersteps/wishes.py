"""The fewest commands if only the first layers or only some pairs of layers matter."""

from layersteps.distances import distance, plan
from layersteps.search import spheres


def without(layers, left_out):
    """Return the layers except those that are left out."""
    return tuple(layer for layer in layers if layer not in left_out)


def nearest_with_top(order, top):
    """Return an order that begins with the layers of the top, at the smallest distance from the order."""
    # If a best stretch ends before the top does, the order of the other layers does not matter.
    # Else it contains the layers of the top from some index on, perhaps none. Another layer that
    # stands in front of one of these costs at least 1, inside of the stretch or outside, so it may
    # as well go to the back. The rest stand behind all of these, so behind one place of the order,
    # and cost nothing if they follow the top as they stand.
    targets = [
        top + without(order[place:], top) + without(order[:place], top)
        for place in range(len(order) + 1)
    ]
    return min(targets, key=lambda target: distance(order, target))


def distance_to_top(order, top):
    """Return the smallest number of commands after which the first layers are those of the top."""
    return distance(order, nearest_with_top(order, top))


def plan_to_top(order, top):
    """Return a shortest script after which the first layers are those of the top."""
    return plan(order, nearest_with_top(order, top))


def has_pairs(order, pairs):
    """Tell whether in each pair the first layer stands in front of the second one."""
    return all(order.index(front) < order.index(behind) for front, behind in pairs)


def distance_to_pairs(order, pairs):
    """Return the smallest number of commands after which all pairs stand as wished, or None."""
    for count, sphere in enumerate(spheres(order)):
        if any(has_pairs(target, pairs) for target in sphere):
            return count
    return None
