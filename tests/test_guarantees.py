"""The guarantees of point [3]."""

import itertools
import random
import unittest

from layersteps.commands import apply
from layersteps.distances import best_stretch, distance, stretch_cost
from layersteps.scripts import equal, normal_form
from tests.helpers import (
    NAMES,
    all_commands,
    defined_stretches,
    differing_orders,
    random_ends_script,
    sample_pairs,
    shuffled,
    walk,
)

SAMPLES = sample_pairs(23, range(1, 11), 15)
# One layer more still fits into an order.
SMALLER_SAMPLES = sample_pairs(29, range(1, 10), 25)


class DistanceGuaranteesTest(unittest.TestCase):
    def test_smallest_cost_of_a_stretch(self):
        for order, target in SAMPLES:
            costs = [stretch_cost(order, target, start, end) for start, end in defined_stretches(len(target))]
            self.assertEqual(distance(order, target), min(costs))
            start, end = best_stretch(order, target)
            self.assertEqual(distance(order, target), stretch_cost(order, target, start, end))

    def test_zero_exactly_for_equal_orders(self):
        for order, target in SAMPLES:
            self.assertEqual(distance(order, target) == 0, order == target)
            self.assertGreaterEqual(distance(order, target), 0)

    def test_less_than_the_number_of_layers(self):
        for order, target in SAMPLES:
            self.assertLess(distance(order, target), len(order))

    def test_reversed_order(self):
        source = random.Random(31)
        for size in range(1, 11):
            order = shuffled(source, NAMES[:size])
            self.assertEqual(distance(order, order[::-1]), size - 1)

    def test_one_command_lowers_it_by_at_most_one(self):
        for order, target in SAMPLES:
            before = distance(order, target)
            for command in all_commands(order):
                after = distance(apply(order, (command,)), target)
                self.assertGreaterEqual(after, before - 1, (order, target, command))

    def test_some_command_lowers_it(self):
        for order, target in SAMPLES:
            if order != target:
                nearest = min(distance(apply(order, (command,)), target) for command in all_commands(order))
                self.assertEqual(nearest, distance(order, target) - 1)

    def test_detours(self):
        source = random.Random(37)
        for order, target in SAMPLES:
            for third in (shuffled(source, order), order[::-1], target[::-1], order, target):
                through = distance(order, third) + distance(third, target)
                self.assertLessEqual(distance(order, target), through, (order, third, target))


class ChangedOrdersTest(unittest.TestCase):
    def test_mirrored_orders(self):
        for order, target in SAMPLES:
            self.assertEqual(distance(order[::-1], target[::-1]), distance(order, target))

    def test_renamed_layers(self):
        source = random.Random(41)
        for order, target in SAMPLES:
            for names in (shuffled(source, NAMES), tuple("qrstuvwxyz"), tuple("zyxwvutsrq")):
                renamed = dict(zip(order, names))
                self.assertEqual(
                    distance(tuple(renamed[layer] for layer in order), tuple(renamed[layer] for layer in target)),
                    distance(order, target),
                )

    def check_grown(self, before, after):
        self.assertGreaterEqual(after, before)
        self.assertLessEqual(after, before + 1)

    def test_one_more_layer_in_front(self):
        for order, target in SMALLER_SAMPLES:
            self.check_grown(distance(order, target), distance(("new",) + order, ("new",) + target))

    def test_one_more_layer_behind(self):
        for order, target in SMALLER_SAMPLES:
            self.check_grown(distance(order, target), distance(order + ("new",), target + ("new",)))


def without_command(layers, script):
    return len(set(layers) - {layer for word, layer in script})


def same_by_normal_forms(layers, first, second):
    """What the guarantee says about two scripts of front and back."""
    if normal_form(first) == normal_form(second):
        return True
    if without_command(layers, first) > 1 or without_command(layers, second) > 1:
        return False
    return walk(layers, first) == walk(layers, second)


class NormalFormGuaranteeTest(unittest.TestCase):
    def check(self, layers, first, second):
        same = not differing_orders(layers, first, second)
        self.assertEqual(same_by_normal_forms(layers, first, second), same, (layers, first, second))
        self.assertIs(equal(layers, first, second), same, (layers, first, second))

    def test_all_short_scripts(self):
        for layers, longest in ((("a",), 3), (("b", "a"), 3), (("b", "c", "a"), 2)):
            commands = [(word, layer) for word in ("front", "back") for layer in layers]
            scripts = [
                script
                for length in range(longest + 1)
                for script in itertools.product(commands, repeat=length)
            ]
            for first, second in itertools.combinations_with_replacement(scripts, 2):
                self.check(layers, first, second)

    def test_scripts_with_equal_normal_forms(self):
        source = random.Random(43)
        for size in range(1, 7):
            for at in range(8):
                layers = shuffled(source, NAMES[:size])
                script = random_ends_script(source, layers, source.randint(0, 10))
                fronts, backs = normal_form(script)
                moves = [("front", layer) for layer in fronts[::-1]] + [("back", layer) for layer in backs]
                shortest = tuple(moves)
                self.assertEqual(normal_form(shortest), (fronts, backs))
                self.check(layers, script, shortest)
                self.check(layers, script, shortest[1:])
                # Commands for layers that are moved again later do not count.
                earlier = tuple((source.choice(("front", "back")), layer) for layer in fronts + backs)
                self.check(layers, script, earlier + shortest)

    def test_scripts_that_leave_at_most_one_layer(self):
        source = random.Random(47)
        for size in range(1, 7):
            for at in range(8):
                layers = shuffled(source, NAMES[:size])
                result = shuffled(source, layers)
                scripts = []
                for cut in range(size + 1):
                    fronts = tuple(("front", layer) for layer in result[:cut][::-1])
                    scripts.append(fronts + tuple(("back", layer) for layer in result[cut:]))
                    scripts.append(fronts + tuple(("back", layer) for layer in result[cut + 1:]))
                first = source.choice(scripts)
                second = source.choice(scripts)
                self.check(layers, first, second)
                self.assertIs(equal(layers, first, second), True)

    def test_random_scripts(self):
        source = random.Random(53)
        for size in range(1, 7):
            for at in range(15):
                layers = shuffled(source, NAMES[:size])
                first = random_ends_script(source, layers, source.randint(0, 2 * size))
                second = random_ends_script(source, layers, source.randint(0, 2 * size))
                self.check(layers, first, second)


if __name__ == "__main__":
    unittest.main()
