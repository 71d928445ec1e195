"""Which values are orders of layers, and which are scripts for them."""

LETTERS = "abcdefghijklmnopqrstuvwxyz"
MOST_LETTERS = 8
MOST_LAYERS = 10
WORDS = ("front", "back", "up", "down")
MOST_COMMANDS = 60


def is_layer(value):
    """Tell whether the value is a layer."""
    if not isinstance(value, str):
        return False
    if not 1 <= len(value) <= MOST_LETTERS:
        return False
    return all(letter in LETTERS for letter in value)


def is_order(value):
    """Tell whether the value is an order."""
    if not isinstance(value, tuple):
        return False
    if not 1 <= len(value) <= MOST_LAYERS:
        return False
    # The items are checked before the set is built, because a list cannot be a member of a set.
    if not all(is_layer(item) for item in value):
        return False
    return len(set(value)) == len(value)


def is_command(order, value):
    """Tell whether the value is a command for a layer of the order."""
    if not isinstance(value, tuple):
        return False
    if len(value) != 2:
        return False
    return value[0] in WORDS and value[1] in order


def is_script(order, value):
    """Tell whether the value is a script for the layers of the order."""
    if not isinstance(value, tuple):
        return False
    if len(value) > MOST_COMMANDS:
        return False
    return all(is_command(order, item) for item in value)
