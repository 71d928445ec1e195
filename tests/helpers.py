"""What the tests compare the program with, written from the words of the document."""

import itertools
import random

WORDS = ("front", "back", "up", "down")
NAMES = ("a", "bb", "layer", "zebra", "abcdefgh", "m", "ab", "ba", "front", "z")


def all_commands(order):
    return [(word, layer) for word in WORDS for layer in order]


def step(order, command):
    """Take the layer out and put it in again."""
    word, layer = command
    row = list(order)
    at = row.index(layer)
    row.remove(layer)
    if word == "front":
        row.insert(0, layer)
    elif word == "back":
        row.append(layer)
    elif word == "up":
        row.insert(at - 1 if at > 0 else 0, layer)
    elif word == "down":
        row.insert(at + 1, layer)
    else:
        raise AssertionError(word)
    return tuple(row)


def walk(order, script):
    for command in script:
        order = step(order, command)
    return order


def searched_distances(order):
    """The distance to every target, by a search over all commands."""
    found = {order: 0}
    edge = [order]
    while edge:
        following = []
        for current in edge:
            for command in all_commands(current):
                reached = step(current, command)
                if reached not in found:
                    found[reached] = found[current] + 1
                    following.append(reached)
        edge = following
    return found


def defined_cost(order, target, start, end):
    """The cost of a stretch, as point [8] defines it."""
    inside = [target[at] for at in range(start, end)]
    turned = 0
    for one, other in itertools.combinations(inside, 2):
        if (order.index(one) < order.index(other)) != (target.index(one) < target.index(other)):
            turned += 1
    return len(target) - (end - start) + turned


def defined_stretches(size):
    return [(start, end) for start in range(size + 1) for end in range(size + 1) if start < end]


def shuffled(source, layers):
    row = list(layers)
    source.shuffle(row)
    return tuple(row)


def random_script(source, order, length):
    return tuple(source.choice(all_commands(order)) for at in range(length))


def sample_pairs(seed, sizes, each):
    """Orders with targets: the same one, the reversed one, near ones and far ones."""
    source = random.Random(seed)
    pairs = []
    for size in sizes:
        order = NAMES[:size]
        pairs.append((order, order))
        pairs.append((order, order[::-1]))
        for at in range(each):
            order = shuffled(source, NAMES[:size])
            pairs.append((order, shuffled(source, order)))
            pairs.append((order, walk(order, random_script(source, order, source.randint(1, 4)))))
    return pairs
