"""Applying commands to an order of layers."""


def new_index(word, at, last):
    """Return the index to which the command word moves the layer at index `at`."""
    if word == "front":
        return 0
    if word == "back":
        return last
    if word == "up":
        return max(at - 1, 0)
    return min(at + 1, last)


def after_command(order, command):
    """Return the order after one command."""
    word, layer = command
    at = order.index(layer)
    others = order[:at] + order[at + 1:]
    to = new_index(word, at, len(others))
    return others[:to] + (layer,) + others[to:]


def apply(order, script):
    """Return the order after the script."""
    current = order
    for command in script:
        current = after_command(current, command)
    return current


def idle(order, script):
    """Return the indices of the commands that change nothing when they are applied."""
    found = []
    current = order
    for at, command in enumerate(script):
        following = after_command(current, command)
        if following == current:
            found.append(at)
        current = following
    return found
