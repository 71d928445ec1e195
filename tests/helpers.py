"""What the tests compare the program with, written from the words of the document."""

import copy
import itertools
import random

WORDS = ("front", "back", "up", "down")
# Other names for the layers of the document's examples: with the same ascending order, and with another one.
SAME_ASCENDING = {"a": "bb", "b": "c", "c": "layer", "d": "z", "o": "zz"}
OTHER_ASCENDING = {"a": "zebra", "b": "up", "c": "m", "d": "front", "o": "abcdefgh"}
RENAMINGS = ({}, SAME_ASCENDING, OTHER_ASCENDING)
NAMES = ("a", "bb", "layer", "zebra", "abcdefgh", "m", "ab", "ba", "front", "z")


def all_commands(order):
    return [(word, layer) for word in WORDS for layer in order]


def step(order, command):
    """Take the layer out and put it in again."""
    word, layer = command
    row = list(order)
    at = row.index(layer)
    row.remove(layer)
    if word == "front":
        row.insert(0, layer)
    elif word == "back":
        row.append(layer)
    elif word == "up":
        row.insert(at - 1 if at > 0 else 0, layer)
    elif word == "down":
        row.insert(at + 1, layer)
    else:
        raise AssertionError(word)
    return tuple(row)


def walk(order, script):
    for command in script:
        order = step(order, command)
    return order


def searched_distances(order):
    """The distance to every target, by a search over all commands."""
    found = {order: 0}
    edge = [order]
    while edge:
        following = []
        for current in edge:
            for command in all_commands(current):
                reached = step(current, command)
                if reached not in found:
                    found[reached] = found[current] + 1
                    following.append(reached)
        edge = following
    return found


def defined_cost(order, target, start, end):
    """The cost of a stretch, as point [8] defines it."""
    inside = [target[at] for at in range(start, end)]
    turned = 0
    for one, other in itertools.combinations(inside, 2):
        if (order.index(one) < order.index(other)) != (target.index(one) < target.index(other)):
            turned += 1
    return len(target) - (end - start) + turned


def defined_stretches(size):
    return [(start, end) for start in range(size + 1) for end in range(size + 1) if start < end]


def smallest_cost(order, target):
    return min(defined_cost(order, target, start, end) for start, end in defined_stretches(len(target)))


def renamed(value, names):
    """The same value with other names for the layers; the words of commands are no keys of `names`, so they stay."""
    if isinstance(value, str):
        return names.get(value, value)
    if isinstance(value, (tuple, list)):
        return (list if isinstance(value, list) else tuple)(renamed(item, names) for item in value)
    return value


def sorted_orders(layers):
    return sorted(itertools.permutations(layers))


def differing_orders(layers, first, second):
    """All orders of the layers for which the scripts lead to different results, ascending."""
    return [order for order in sorted_orders(layers) if walk(order, first) != walk(order, second)]


def shuffled(source, layers):
    row = list(layers)
    source.shuffle(row)
    return tuple(row)


def random_script(source, order, length):
    return tuple(source.choice(all_commands(order)) for at in range(length))


def random_ends_script(source, layers, length):
    """A script that contains only "front" and "back"."""
    return tuple((source.choice(("front", "back")), source.choice(layers)) for at in range(length))


def sample_pairs(seed, sizes, each):
    """Orders with targets: the same one, the reversed one, near ones and far ones."""
    source = random.Random(seed)
    pairs = []
    for size in sizes:
        order = NAMES[:size]
        pairs.append((order, order))
        pairs.append((order, order[::-1]))
        for at in range(each):
            order = shuffled(source, NAMES[:size])
            pairs.append((order, shuffled(source, order)))
            pairs.append((order, walk(order, random_script(source, order, source.randint(1, 4)))))
    return pairs


def check_call(case, function, arguments):
    """A call does not modify its arguments, returns the same value again, and a list of its own each time."""
    before = copy.deepcopy(arguments)
    value = function(*arguments)
    case.assertEqual(arguments, before)
    again = function(*arguments)
    case.assertEqual(again, value)
    if isinstance(value, list):
        case.assertIsNot(again, value)
        value.append("more")
        case.assertEqual(function(*arguments), again)
