"""The guarantees of point [3] that speak of distances."""

import random
import unittest

from layersteps.commands import apply
from layersteps.distances import best_stretch, distance, stretch_cost
from tests.helpers import NAMES, all_commands, defined_stretches, sample_pairs, shuffled

SAMPLES = sample_pairs(23, range(1, 11), 15)
# One layer more still fits into an order.
SMALLER_SAMPLES = sample_pairs(29, range(1, 10), 25)


class DistanceGuaranteesTest(unittest.TestCase):
    def test_smallest_cost_of_a_stretch(self):
        for order, target in SAMPLES:
            costs = [stretch_cost(order, target, start, end) for start, end in defined_stretches(len(target))]
            self.assertEqual(distance(order, target), min(costs))
            start, end = best_stretch(order, target)
            self.assertEqual(distance(order, target), stretch_cost(order, target, start, end))

    def test_zero_exactly_for_equal_orders(self):
        for order, target in SAMPLES:
            self.assertEqual(distance(order, target) == 0, order == target)
            self.assertGreaterEqual(distance(order, target), 0)

    def test_less_than_the_number_of_layers(self):
        for order, target in SAMPLES:
            self.assertLess(distance(order, target), len(order))

    def test_reversed_order(self):
        source = random.Random(31)
        for size in range(1, 11):
            order = shuffled(source, NAMES[:size])
            self.assertEqual(distance(order, order[::-1]), size - 1)

    def test_one_command_lowers_it_by_at_most_one(self):
        for order, target in SAMPLES:
            before = distance(order, target)
            for command in all_commands(order):
                after = distance(apply(order, (command,)), target)
                self.assertGreaterEqual(after, before - 1, (order, target, command))

    def test_some_command_lowers_it(self):
        for order, target in SAMPLES:
            if order != target:
                nearest = min(distance(apply(order, (command,)), target) for command in all_commands(order))
                self.assertEqual(nearest, distance(order, target) - 1)

    def test_detours(self):
        source = random.Random(37)
        for order, target in SAMPLES:
            for third in (shuffled(source, order), order[::-1], target[::-1], order, target):
                through = distance(order, third) + distance(third, target)
                self.assertLessEqual(distance(order, target), through, (order, third, target))


class ChangedOrdersTest(unittest.TestCase):
    def test_mirrored_orders(self):
        for order, target in SAMPLES:
            self.assertEqual(distance(order[::-1], target[::-1]), distance(order, target))

    def test_renamed_layers(self):
        source = random.Random(41)
        for order, target in SAMPLES:
            for names in (shuffled(source, NAMES), tuple("qrstuvwxyz"), tuple("zyxwvutsrq")):
                renamed = dict(zip(order, names))
                self.assertEqual(
                    distance(tuple(renamed[layer] for layer in order), tuple(renamed[layer] for layer in target)),
                    distance(order, target),
                )

    def check_grown(self, before, after):
        self.assertGreaterEqual(after, before)
        self.assertLessEqual(after, before + 1)

    def test_one_more_layer_in_front(self):
        for order, target in SMALLER_SAMPLES:
            self.check_grown(distance(order, target), distance(("new",) + order, ("new",) + target))

    def test_one_more_layer_behind(self):
        for order, target in SMALLER_SAMPLES:
            self.check_grown(distance(order, target), distance(order + ("new",), target + ("new",)))


if __name__ == "__main__":
    unittest.main()
