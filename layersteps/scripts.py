"""Comparing scripts on all orders of some layers."""

from layersteps.commands import after_command, apply


def normal_form(script):
    """Return the layers that a script of front and back leaves in front, and those that it leaves behind."""
    fronts = []
    backs = []
    seen = set()
    # From the end, so that the first command that is met for a layer is its last one.
    for word, layer in reversed(script):
        if layer not in seen:
            seen.add(layer)
            if word == "front":
                fronts.append(layer)
            else:
                backs.append(layer)
    # What was sent back later stands further behind.
    return (tuple(fronts), tuple(backs[::-1]))


def all_orders(layers):
    """Return the ascending list of all orders of the layers."""
    ascending = sorted(layers)
    found = [()]
    for size in range(len(layers)):
        found = [order + (layer,) for order in found for layer in ascending if layer not in order]
    return found


def first_difference(layers, first, second):
    """Return the first order of the layers for which the scripts lead to different results, or None."""
    for order in all_orders(layers):
        if apply(order, first) != apply(order, second):
            return order
    return None


def equal(layers, first, second):
    """Tell whether the scripts lead to the same result for all orders of the layers."""
    return first_difference(layers, first, second) is None


def commute(layers, one, other):
    """Tell whether the two commands may be exchanged, for all orders of the layers."""
    return equal(layers, (one, other), (other, one))


def reached_before(layers, script):
    """Return for each command the different orders to which the script may apply it."""
    rows = []
    current = all_orders(layers)
    for command in script:
        rows.append(current)
        current = list({after_command(order, command): True for order in current})
    return rows


def redundant_steps(layers, script):
    """Return the indices of the commands whose removal, alone, changes no result."""
    rows = reached_before(layers, script)
    # Where the commands behind the current one lead from each order: kept in tables, because
    # applying the script again for each removal and each order takes seconds for long scripts.
    results = {order: order for order in all_orders(layers)}
    found = []
    for at in reversed(range(len(script))):
        without_it = results
        results = {order: without_it[after_command(order, script[at])] for order in without_it}
        if all(results[order] == without_it[order] for order in rows[at]):
            found.append(at)
    return found[::-1]


def sources(script, result):
    """Return the ascending list of all orders that the script leads to the result."""
    return [order for order in all_orders(result) if apply(order, script) == result]
