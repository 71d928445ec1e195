"""Points [7], [8] and [13] to [16]."""

import itertools
import string
import unittest

from layersteps.commands import apply
from layersteps.distances import best_stretch, distance, plan, stretch_cost
from layersteps.orders import is_script
from tests.helpers import (
    NAMES,
    defined_cost,
    defined_stretches,
    sample_pairs,
    searched_distances,
    smallest_cost,
    walk,
)

SAMPLES = sample_pairs(5, range(1, 11), 25)


class ExampleTest(unittest.TestCase):
    order = ("a", "b", "c", "d")

    def test_distance(self):
        self.assertEqual(distance(self.order, ("d", "a", "b", "c")), 1)
        self.assertEqual(distance(self.order, ("b", "a", "d", "c")), 2)

    def test_best_stretch(self):
        self.assertEqual(best_stretch(self.order, ("d", "a", "b", "c")), (1, 4))

    def test_stretch_cost(self):
        self.assertEqual(stretch_cost(self.order, ("b", "a", "d", "c"), 0, 4), 2)

    def test_plan(self):
        self.assertEqual(plan(self.order, ("d", "a", "b", "c")), (("front", "d"),))


class DistanceTest(unittest.TestCase):
    def test_against_a_search_from_all_orders_to_all_targets(self):
        for size in range(1, 6):
            for order in itertools.permutations(NAMES[:size]):
                found = searched_distances(order)
                for target in itertools.permutations(NAMES[:size]):
                    self.assertEqual(distance(order, target), found[target], (order, target))

    def test_against_a_search_for_six_layers(self):
        order = NAMES[:6]
        found = searched_distances(order)
        self.assertEqual(len(found), 720)
        for target in found:
            self.assertEqual(distance(order, target), found[target], target)

    def test_against_the_definition_of_cost(self):
        for order, target in SAMPLES:
            self.assertEqual(distance(order, target), smallest_cost(order, target), (order, target))

    def test_single_layer(self):
        self.assertEqual(distance(("a",), ("a",)), 0)


class StretchTest(unittest.TestCase):
    def test_cost_of_all_stretches(self):
        for order, target in SAMPLES:
            for start, end in defined_stretches(len(target)):
                self.assertEqual(
                    stretch_cost(order, target, start, end),
                    defined_cost(order, target, start, end),
                    (order, target, start, end),
                )

    def test_cost_of_one_layer(self):
        for size in range(1, 11):
            order = NAMES[:size]
            for start in range(size):
                self.assertEqual(stretch_cost(order, order[::-1], start, start + 1), size - 1)

    def test_cost_of_the_whole_target(self):
        for size in range(1, 11):
            order = NAMES[:size]
            self.assertEqual(stretch_cost(order, order, 0, size), 0)
            self.assertEqual(stretch_cost(order, order[::-1], 0, size), size * (size - 1) // 2)

    def test_best_stretch_has_the_smallest_cost(self):
        for order, target in SAMPLES:
            found = best_stretch(order, target)
            self.assertIsInstance(found, tuple)
            self.assertIn(found, defined_stretches(len(target)))
            self.assertEqual(defined_cost(order, target, found[0], found[1]), smallest_cost(order, target))

    def test_best_stretch_of_all_small_targets(self):
        for size in range(1, 6):
            order = NAMES[:size]
            for target in itertools.permutations(order):
                start, end = best_stretch(order, target)
                self.assertTrue(0 <= start < end <= size)
                self.assertEqual(defined_cost(order, target, start, end), smallest_cost(order, target))


class PlanTest(unittest.TestCase):
    def check(self, order, target, length):
        script = plan(order, target)
        self.assertIs(is_script(order, script), True, (order, target, script))
        self.assertEqual(len(script), length, (order, target, script))
        self.assertEqual(walk(order, script), target)
        self.assertEqual(apply(order, script), target)

    def test_samples(self):
        for order, target in SAMPLES:
            self.check(order, target, smallest_cost(order, target))
            self.assertEqual(len(plan(order, target)), distance(order, target))

    def test_all_small_targets(self):
        for size in range(1, 6):
            order = NAMES[:size]
            found = searched_distances(order)
            for target in found:
                self.check(order, target, found[target])

    def test_same_order(self):
        for size in range(1, 11):
            self.assertEqual(plan(NAMES[:size], NAMES[:size]), ())

    def test_reversed_order(self):
        for size in range(1, 11):
            self.check(NAMES[:size], NAMES[:size][::-1], size - 1)


class BeyondTheLimitsTest(unittest.TestCase):
    def test_no_layers(self):
        self.assertEqual(best_stretch((), ()), (0, 0))
        self.assertEqual(stretch_cost((), (), 0, 0), 0)
        self.assertEqual(distance((), ()), 0)
        self.assertEqual(plan((), ()), ())

    def test_eleven_to_fourteen_layers(self):
        for size in range(11, 15):
            order = tuple(string.ascii_lowercase[:size])
            for target in (order, order[::-1], order[5:] + order[:5], order[6:] + order[5::-1]):
                start, end = best_stretch(order, target)
                self.assertEqual(stretch_cost(order, target, start, end), smallest_cost(order, target))
                self.assertEqual(distance(order, target), smallest_cost(order, target))
                self.assertEqual(len(plan(order, target)), smallest_cost(order, target))
                self.assertEqual(walk(order, plan(order, target)), target)

    def test_stretches_outside_of_the_target(self):
        order = NAMES[:4]
        for start in range(-2, 7):
            for end in range(-2, 7):
                self.assertIsInstance(stretch_cost(order, order[::-1], start, end), int)


class ArgumentsTest(unittest.TestCase):
    def test_arguments_are_not_modified(self):
        for order, target in SAMPLES:
            before = (tuple(list(order)), tuple(list(target)))
            distance(order, target)
            best_stretch(order, target)
            stretch_cost(order, target, 0, len(target))
            plan(order, target)
            self.assertEqual((order, target), before)

    def test_same_call_same_value(self):
        for order, target in SAMPLES:
            self.assertEqual(best_stretch(order, target), best_stretch(order, target))
            self.assertEqual(plan(order, target), plan(order, target))


if __name__ == "__main__":
    unittest.main()
