"""Points [17] to [19]."""

import itertools
import random
import string
import unittest

from layersteps.distances import distance
from layersteps.orders import is_script
from layersteps.wishes import distance_to_pairs, distance_to_top, plan_to_top
from tests.helpers import (
    NAMES,
    RENAMINGS,
    check_call,
    renamed,
    searched_distances,
    shuffled,
    smallest_cost,
    walk,
)


def smallest_by_top(order):
    """For all tops the smallest distance to the orders that begin with them, by a search."""
    best = {}
    for target, cost in searched_distances(order).items():
        for size in range(len(target) + 1):
            best[target[:size]] = min(cost, best.get(target[:size], cost))
    return best


def smallest_of_ten(order, top):
    """The smallest distance to the orders that begin with the top; only few layers may be left."""
    rest = [layer for layer in order if layer not in top]
    return min(smallest_cost(order, top + ending) for ending in itertools.permutations(rest))


def tops_of_ten(seed, each):
    source = random.Random(seed)
    for size in range(11):
        for at in range(each):
            order = shuffled(source, NAMES)
            yield order, shuffled(source, order)[:size]
            # Only a few layers of such a top stand in another order.
            row = list(order)
            row.insert(source.randrange(10), row.pop(source.randrange(10)))
            yield order, tuple(row[10 - size:])


class TopTest(unittest.TestCase):
    def check(self, order, top, smallest):
        self.assertEqual(distance_to_top(order, top), smallest, (order, top))
        self.check_plan(order, top, smallest)

    def check_plan(self, order, top, length):
        script = plan_to_top(order, top)
        self.assertIs(is_script(order, script), True, (order, top, script))
        self.assertEqual(len(script), length, (order, top, script))
        self.assertEqual(walk(order, script)[:len(top)], top, (order, top, script))

    def test_examples(self):
        for names in RENAMINGS:
            order, top = renamed((("d", "a", "b", "c", "o"), ("a", "b", "c", "d")), names)
            self.check(order, top, 2)
            order, top = renamed((("a", "b", "c"), ("c",)), names)
            self.check(order, top, 1)

    def test_layers_that_were_not_wished_may_go_to_the_back(self):
        self.check(("x", "a", "b", "c", "d"), ("a", "b", "c", "d"), 1)
        self.check(("a", "b", "x", "c", "d"), ("a", "b", "c", "d"), 1)
        self.check(("a", "x", "b", "y", "c"), ("a", "b", "c"), 2)
        self.check(("x", "b", "a", "c", "d"), ("a", "b", "c", "d"), 2)

    def test_all_tops_of_up_to_six_layers(self):
        for size in range(1, 7):
            order = NAMES[:size]
            best = smallest_by_top(order)
            self.assertEqual(len(best), sum(len(list(itertools.permutations(order, many))) for many in range(size + 1)))
            for top in best:
                self.check(order, top, best[top])

    def test_all_orders_of_up_to_four_layers(self):
        for size in range(1, 5):
            for order in itertools.permutations(NAMES[:size]):
                best = smallest_by_top(order)
                for top in best:
                    self.check(order, top, best[top])

    def test_shuffled_orders_of_six_layers(self):
        source = random.Random(61)
        for at in range(5):
            order = shuffled(source, NAMES[4:])
            best = smallest_by_top(order)
            for top in source.sample(sorted(best), 100):
                self.check(order, top, best[top])

    def test_no_wish(self):
        for size in range(1, 11):
            self.check(NAMES[:size], (), 0)

    def test_all_layers_of_ten_wished(self):
        for order, top in tops_of_ten(67, 4):
            target = top + tuple(layer for layer in order if layer not in top)
            self.check(order, target, smallest_cost(order, target))
            self.check(order, order, 0)
            self.check(order, order[::-1], 9)

    def test_many_layers_of_ten_wished(self):
        for order, top in tops_of_ten(71, 4):
            if len(top) >= 6:
                self.check(order, top, smallest_of_ten(order, top))

    def test_one_layer_of_ten_wished(self):
        for at, layer in enumerate(NAMES):
            self.check(NAMES, (layer,), 0 if at == 0 else 1)

    def test_plans_for_ten_layers(self):
        for order, top in tops_of_ten(73, 20):
            self.check_plan(order, top, distance_to_top(order, top))

    def test_never_more_than_to_one_order(self):
        for order, top in tops_of_ten(79, 5):
            target = top + tuple(layer for layer in order if layer not in top)
            self.assertLessEqual(distance_to_top(order, top), distance(order, target))

    def test_beyond_the_limits(self):
        self.assertEqual(distance_to_top((), ()), 0)
        self.assertEqual(plan_to_top((), ()), ())
        order = tuple(string.ascii_lowercase[:12])
        self.check(order, order[::-1], 11)
        self.check(order, order[1:], 1)
        self.check(order, (), 0)


def smallest_by_pairs(found, pairs):
    """The smallest of the searched distances to the orders in which all pairs stand as wished."""
    fitting = [
        cost
        for target, cost in found.items()
        if all(target.index(front) < target.index(behind) for front, behind in pairs)
    ]
    return min(fitting) if fitting else None


def pairs_of(target):
    return tuple(itertools.combinations(target, 2))


def random_pairs(source, order, many):
    return tuple(tuple(source.sample(order, 2)) for at in range(many))


class PairsTest(unittest.TestCase):
    def check(self, order, found, pairs):
        self.assertEqual(distance_to_pairs(order, pairs), smallest_by_pairs(found, pairs), (order, pairs))

    def test_examples(self):
        for names in RENAMINGS:
            order = renamed(("a", "b", "c"), names)
            self.assertEqual(distance_to_pairs(order, renamed((("c", "a"),), names)), 1)
            self.assertIsNone(distance_to_pairs(order, renamed((("a", "b"), ("b", "a")), names)))

    def test_no_pairs(self):
        for size in range(1, 7):
            self.assertEqual(distance_to_pairs(NAMES[:size], ()), 0)

    def test_pairs_that_stand_already(self):
        for size in range(2, 7):
            order = NAMES[:size][::-1]
            self.assertEqual(distance_to_pairs(order, pairs_of(order)), 0)
            self.assertEqual(distance_to_pairs(order, ((order[0], order[-1]),)), 0)

    def test_all_choices_of_pairs_of_three_layers(self):
        every = list(itertools.permutations(NAMES[:3], 2))
        for order in itertools.permutations(NAMES[:3]):
            found = searched_distances(order)
            for many in range(len(every) + 1):
                for pairs in itertools.combinations(every, many):
                    self.check(order, found, pairs)

    def test_random_pairs(self):
        source = random.Random(83)
        for size in range(2, 7):
            for at in range(4):
                order = shuffled(source, NAMES[:size])
                found = searched_distances(order)
                for many in range(16):
                    self.check(order, found, random_pairs(source, order, many))

    def test_some_pairs_of_a_target(self):
        source = random.Random(89)
        for size in range(2, 7):
            for at in range(4):
                order = shuffled(source, NAMES[:size])
                found = searched_distances(order)
                every = pairs_of(shuffled(source, order))
                for many in range(len(every) + 1):
                    pairs = tuple(source.sample(every, many))
                    self.assertIsNotNone(distance_to_pairs(order, pairs))
                    self.check(order, found, pairs)

    def test_pairs_against_each_other(self):
        source = random.Random(97)
        for size in range(2, 7):
            order = shuffled(source, NAMES[:size])
            for length in range(2, size + 1):
                ring = source.sample(order, length)
                pairs = tuple(zip(ring, ring[1:] + ring[:1]))
                self.assertIsNone(distance_to_pairs(order, pairs), (order, pairs))
                # Without one pair of the ring such an order exists.
                self.assertIsNotNone(distance_to_pairs(order, pairs[1:]), (order, pairs))
                self.check(order, searched_distances(order), pairs[1:])

    def test_all_pairs_of_a_target(self):
        source = random.Random(101)
        for size in range(1, 7):
            for at in range(8):
                order = shuffled(source, NAMES[:size])
                target = shuffled(source, order)
                pairs = shuffled(source, pairs_of(target))
                self.assertEqual(distance_to_pairs(order, pairs), smallest_cost(order, target))
            self.assertEqual(distance_to_pairs(order, pairs_of(order[::-1])), size - 1)

    def test_the_same_pair_again(self):
        self.assertEqual(distance_to_pairs(("a", "b", "c"), (("c", "a"),) * 15), 1)

    def test_beyond_the_limits(self):
        self.assertEqual(distance_to_pairs((), ()), 0)
        order = NAMES[:7]
        self.assertEqual(distance_to_pairs(order, pairs_of(order[::-1])), 6)
        self.assertEqual(distance_to_pairs(order, ((order[6], order[0]),) * 20), 1)
        self.assertIsNone(distance_to_pairs(order, ((order[6], order[0]), (order[0], order[6]))))


class ArgumentsTest(unittest.TestCase):
    calls = (
        (distance_to_top, (("d", "a", "b", "c", "o"), ("a", "b", "c", "d"))),
        (plan_to_top, (("d", "a", "b", "c", "o"), ("a", "b", "c", "d"))),
        (distance_to_pairs, (("a", "b", "c"), (("c", "a"), ("b", "a")))),
    )

    def test_arguments_are_not_modified_and_lists_are_new(self):
        for function, arguments in self.calls:
            check_call(self, function, arguments)

    def test_kinds_of_results(self):
        for order, top in tops_of_ten(103, 1):
            self.assertIs(type(distance_to_top(order, top)), int)
            self.assertIs(type(plan_to_top(order, top)), tuple)
        self.assertIs(type(distance_to_pairs(("a", "b"), (("b", "a"),))), int)
        self.assertIs(type(distance_to_pairs(("a", "b"), ())), int)


if __name__ == "__main__":
    unittest.main()
