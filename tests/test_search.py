"""Points [26] to [28]."""

import itertools
import math
import random
import unittest

from layersteps.distances import distance
from layersteps.search import count_plans, hidden_commands, sphere_sizes
from tests.helpers import (
    NAMES,
    RENAMINGS,
    all_commands,
    check_call,
    random_script,
    renamed,
    searched_distances,
    shuffled,
    step,
    walk,
)


def counted_scripts(order, length):
    """For each order the number of scripts of this length that lead to it, by trying all scripts."""
    counts = {}
    for script in itertools.product(all_commands(order), repeat=length):
        reached = walk(order, script)
        counts[reached] = counts.get(reached, 0) + 1
    return counts


def searched_plans(order):
    """The number of shortest scripts to every target, by a search that goes away from the order only."""
    found = searched_distances(order)
    counts = {target: 0 for target in found}
    counts[order] = 1
    for current in sorted(found, key=found.get):
        for command in all_commands(current):
            reached = step(current, command)
            if found[reached] == found[current] + 1:
                counts[reached] += counts[current]
    return counts


class CountPlansTest(unittest.TestCase):
    def test_examples(self):
        for names in RENAMINGS:
            order, target = renamed((("a", "b"), ("b", "a")), names)
            self.assertEqual(count_plans(order, target), 4)

    def test_same_order(self):
        for size in range(1, 7):
            self.assertEqual(count_plans(NAMES[:size], NAMES[:size]), 1)

    def test_one_command(self):
        self.assertEqual(count_plans(("a", "b", "c", "d"), ("a", "c", "b", "d")), 2)
        self.assertEqual(count_plans(("a", "b", "c", "d"), ("b", "a", "c", "d")), 3)
        self.assertEqual(count_plans(("a", "b", "c", "d"), ("d", "a", "b", "c")), 1)

    def test_against_all_scripts(self):
        for size in range(1, 5):
            order = NAMES[:size][::-1]
            counts = [counted_scripts(order, length) for length in range(size)]
            for target, smallest in searched_distances(order).items():
                self.assertEqual(count_plans(order, target), counts[smallest][target], (order, target))

    def test_against_a_search_for_all_orders_of_up_to_four_layers(self):
        for size in range(1, 5):
            for order in itertools.permutations(NAMES[:size]):
                for target, many in searched_plans(order).items():
                    self.assertEqual(count_plans(order, target), many, (order, target))

    def test_against_a_search_for_five_and_six_layers(self):
        source = random.Random(163)
        for size, tried in ((5, 120), (6, 150)):
            order = shuffled(source, NAMES[:size])
            counts = searched_plans(order)
            for target in source.sample(sorted(counts), tried) + [order[::-1]]:
                self.assertEqual(count_plans(order, target), counts[target], (order, target))

    def test_beyond_the_limits(self):
        self.assertEqual(count_plans((), ()), 1)
        order = NAMES[:7]
        self.assertEqual(count_plans(order, order[1:] + order[:1]), 1)
        self.assertEqual(count_plans(order, (order[1], order[0]) + order[2:]), 3)


class SphereTest(unittest.TestCase):
    def test_examples(self):
        for names in RENAMINGS:
            for order in itertools.permutations(renamed(("a", "b", "c"), names)):
                self.assertEqual(sphere_sizes(order), [1, 4, 1])

    def test_against_a_search(self):
        source = random.Random(167)
        for size in range(1, 7):
            order = shuffled(source, NAMES[:size])
            found = list(searched_distances(order).values())
            self.assertEqual(sphere_sizes(order), [found.count(far) for far in range(max(found) + 1)])

    def test_against_the_distances(self):
        for size in range(1, 7):
            order = NAMES[:size]
            found = [distance(order, target) for target in itertools.permutations(order)]
            self.assertEqual(sphere_sizes(order), [found.count(far) for far in range(max(found) + 1)])

    def test_sum_and_ends(self):
        for size in range(1, 7):
            sizes = sphere_sizes(NAMES[:size])
            self.assertEqual(sum(sizes), math.factorial(size))
            # The largest distance is that of the reversed order.
            self.assertEqual(len(sizes), size)
            self.assertEqual(sizes[0], 1)
            self.assertGreater(sizes[-1], 0)

    def test_beyond_the_limits(self):
        self.assertEqual(sphere_sizes(()), [1])
        sizes = sphere_sizes(NAMES[:7])
        self.assertEqual([len(sizes), sum(sizes)], [7, math.factorial(7)])


def tried_commands(order, script, position, result):
    """All commands that lead to the result, by trying each at the position."""
    return sorted(
        command
        for command in set(all_commands(order))
        if walk(order, script[:position] + (command,) + script[position:]) == result
    )


def sample_recordings(seed):
    """Recorded scripts with a position and a result: with and without a command that fits."""
    source = random.Random(seed)
    for size in range(1, 11):
        for length in (0, 1, 2, 5, 20, 58, 59):
            order = shuffled(source, NAMES[:size])
            script = random_script(source, order, length)
            for position in sorted({0, 1, length // 2, length - 1, length} & set(range(length + 1))):
                hidden = random_script(source, order, 1)
                yield order, script, position, walk(order, script[:position] + hidden + script[position:])
                yield order, script, position, walk(order, script)
                yield order, script, position, shuffled(source, order)


class HiddenTest(unittest.TestCase):
    def test_examples(self):
        order = ("a", "b", "c")
        expected = [("down", "a"), ("front", "b"), ("up", "b")]
        self.assertEqual(hidden_commands(order, (), 0, ("b", "a", "c")), expected)
        for one, other, third in (("bb", "c", "z"), ("zebra", "up", "m"), ("up", "down", "front")):
            self.assertEqual(
                hidden_commands((one, other, third), (), 0, (other, one, third)),
                [("down", one), ("front", other), ("up", other)],
            )

    def test_samples(self):
        for order, script, position, result in sample_recordings(173):
            self.assertEqual(
                hidden_commands(order, script, position, result),
                tried_commands(order, script, position, result),
                (order, script, position, result),
            )

    def test_all_small_recordings(self):
        order = ("b", "c", "a")
        for length in range(3):
            for script in itertools.product(all_commands(order), repeat=length):
                for position in range(length + 1):
                    for result in itertools.permutations(order):
                        self.assertEqual(
                            hidden_commands(order, script, position, result),
                            tried_commands(order, script, position, result),
                        )

    def test_the_hidden_command_is_among_them(self):
        source = random.Random(179)
        for size in range(1, 11):
            order = shuffled(source, NAMES[:size])
            script = random_script(source, order, 60)
            for position in (0, 30, 59):
                recorded = script[:position] + script[position + 1:]
                self.assertIn(script[position], hidden_commands(order, recorded, position, walk(order, script)))

    def test_strictly_ascending(self):
        for order, script, position, result in sample_recordings(181):
            found = hidden_commands(order, script, position, result)
            self.assertTrue(all(one < other for one, other in zip(found, found[1:])), found)

    def test_one_layer(self):
        everything = [("back", "a"), ("down", "a"), ("front", "a"), ("up", "a")]
        self.assertEqual(hidden_commands(("a",), (), 0, ("a",)), everything)

    def test_no_command_fits(self):
        self.assertEqual(hidden_commands(("a", "b", "c"), (), 0, ("c", "b", "a")), [])

    def test_the_position_matters(self):
        order = ("a", "b", "c")
        script = (("front", "c"),)
        result = ("b", "c", "a")
        self.assertEqual(hidden_commands(order, script, 0, result), [])
        self.assertEqual(hidden_commands(order, script, 1, result), [("front", "b")])

    def test_beyond_the_limits(self):
        self.assertEqual(hidden_commands((), (), 0, ()), [])
        order = NAMES + ("q", "r")
        script = random_script(random.Random(191), order, 70)
        for position in (0, 35, 70):
            self.assertEqual(
                hidden_commands(order, script, position, walk(order, script)),
                tried_commands(order, script, position, walk(order, script)),
            )
        for position in (-2, -1, 71, 72):
            self.assertIsInstance(hidden_commands(order, script, position, order), list)


class ListsAndArgumentsTest(unittest.TestCase):
    order = ("a", "b", "c")
    calls = (
        (count_plans, (order, ("c", "b", "a"))),
        (sphere_sizes, (order,)),
        (hidden_commands, (order, (), 0, ("b", "a", "c"))),
        (hidden_commands, (order, (), 0, ("c", "b", "a"))),
        (hidden_commands, (order, (("up", "b"), ("front", "c")), 1, order)),
    )

    def test_arguments_are_not_modified_and_lists_are_new(self):
        for function, arguments in self.calls:
            check_call(self, function, arguments)

    def test_kinds_of_results(self):
        self.assertIs(type(count_plans(self.order, self.order)), int)
        self.assertIs(type(sphere_sizes(self.order)), list)
        self.assertTrue(all(type(size) is int for size in sphere_sizes(self.order)))
        found = hidden_commands(self.order, (), 0, ("b", "a", "c"))
        self.assertIs(type(found), list)
        self.assertTrue(all(type(command) is tuple for command in found))


if __name__ == "__main__":
    unittest.main()
