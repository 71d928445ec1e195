"""Points [20] to [25]."""

import itertools
import math
import random
import string
import unittest

from layersteps.scripts import commute, equal, first_difference, normal_form, redundant_steps, sources
from tests.helpers import (
    NAMES,
    RENAMINGS,
    WORDS,
    all_commands,
    check_call,
    differing_orders,
    random_ends_script,
    random_script,
    renamed,
    shuffled,
    sorted_orders,
    walk,
)

MANY_NAMES = tuple("l" + letter for letter in string.ascii_lowercase) + tuple(string.ascii_lowercase)


def last_words(script):
    return {layer: word for word, layer in script}


def defined_normal_form(script, order):
    """Where the script leaves its layers, if it is applied to an order that contains them."""
    last = last_words(script)
    left = walk(order, script)
    return (
        tuple(layer for layer in left if last.get(layer) == "front"),
        tuple(layer for layer in left if last.get(layer) == "back"),
    )


class NormalFormTest(unittest.TestCase):
    def check(self, script, order):
        self.assertEqual(normal_form(script), defined_normal_form(script, order), script)

    def test_examples(self):
        script = (("front", "a"), ("back", "b"), ("front", "c"), ("back", "a"))
        for names in RENAMINGS:
            self.assertEqual(normal_form(renamed(script, names)), renamed((("c",), ("b", "a")), names))
        # These layers have the names of commands.
        script = (("front", "back"), ("back", "front"), ("front", "up"), ("back", "back"))
        self.assertEqual(normal_form(script), (("up",), ("front", "back")))

    def test_empty_script(self):
        self.assertEqual(normal_form(()), ((), ()))

    def test_in_words(self):
        self.assertEqual(normal_form((("front", "a"), ("front", "b"))), (("b", "a"), ()))
        self.assertEqual(normal_form((("back", "a"), ("back", "b"))), ((), ("a", "b")))
        self.assertEqual(normal_form((("front", "a"), ("front", "b"), ("front", "a"))), (("a", "b"), ()))
        self.assertEqual(normal_form((("back", "a"), ("back", "b"), ("back", "a"))), ((), ("b", "a")))
        self.assertEqual(normal_form((("back", "a"), ("front", "a"))), (("a",), ()))

    def test_all_short_scripts(self):
        commands = [(word, layer) for word in ("front", "back") for layer in ("b", "c", "a")]
        for length in range(5):
            for script in itertools.product(commands, repeat=length):
                self.check(script, ("a", "b", "c"))

    def test_long_scripts(self):
        source = random.Random(107)
        for size in range(1, 11):
            for length in (1, 5, 20, 59, 60):
                order = shuffled(source, NAMES[:size])
                script = random_ends_script(source, order, length)
                self.check(script, order)
                self.check(script, shuffled(source, order))

    def test_however_many_layers(self):
        source = random.Random(109)
        for size in (11, 20, 40, 52):
            for at in range(5):
                order = shuffled(source, MANY_NAMES)[:size]
                self.check(random_ends_script(source, order, 60), order)
                self.check(tuple((source.choice(("front", "back")), layer) for layer in order), order)

    def test_result_for_an_order(self):
        source = random.Random(113)
        for size in range(1, 11):
            order = shuffled(source, NAMES[:size])
            script = random_ends_script(source, order, source.randint(0, 8))
            fronts, backs = normal_form(script)
            self.assertEqual(sorted(fronts + backs), sorted(last_words(script)))
            others = tuple(layer for layer in order if layer not in fronts + backs)
            self.assertEqual(walk(order, script), fronts + others + backs)

    def test_more_commands_than_a_script_has(self):
        script = random_ends_script(random.Random(127), NAMES, 80)
        self.check(script, NAMES)


def sample_comparisons(seed):
    """Layers with two scripts: unlike ones, nearly the same ones, and ones that differ for few orders."""
    source = random.Random(seed)
    for size in range(1, 7):
        layers = shuffled(source, NAMES[:size])
        for at in range(12):
            script = random_script(source, layers, source.randint(0, 12))
            yield layers, script, random_script(source, layers, source.randint(0, 12))
            place = source.randint(0, len(script))
            yield layers, script, script[:place] + random_script(source, layers, 1) + script[place:]
            yield layers, script, script[:place] + script[place + 1:]
            yield layers, script, script
        for ups in range(size):
            yield layers, (("up", layers[0]),) * ups, (("front", layers[0]),)
            yield layers, (("down", layers[0]),) * ups, (("back", layers[0]),)
        yield layers, random_script(source, layers, 60), random_script(source, layers, 60)


class CompareTest(unittest.TestCase):
    def check(self, layers, first, second):
        differing = differing_orders(layers, first, second)
        found = first_difference(layers, first, second)
        if differing:
            self.assertEqual(found, differing[0], (layers, first, second))
            self.assertIs(equal(layers, first, second), False, (layers, first, second))
        else:
            self.assertIsNone(found, (layers, first, second))
            self.assertIs(equal(layers, first, second), True, (layers, first, second))

    def test_example_of_first_difference(self):
        for names in RENAMINGS:
            layers, first, second = renamed((("a", "b", "c"), (("front", "a"),), (("up", "a"),)), names)
            smallest = min(renamed([("b", "c", "a"), ("c", "b", "a")], names))
            self.assertEqual(first_difference(layers, first, second), smallest)

    def test_example_of_equal(self):
        for one, other in (("a", "b"), ("zebra", "up"), ("up", "front"), ("back", "a")):
            self.assertIs(equal((one, other), (("front", one),), (("back", other),)), True)
            self.assertIs(equal((one, other, "x"), (("front", one),), (("back", other),)), False)

    def test_samples(self):
        for layers, first, second in sample_comparisons(131):
            self.check(layers, first, second)

    def test_all_short_scripts_of_two_and_three_layers(self):
        for layers, longest in ((("b", "a"), 2), (("b", "c", "a"), 1)):
            scripts = [
                script
                for length in range(longest + 1)
                for script in itertools.product(all_commands(layers), repeat=length)
            ]
            for first, second in itertools.product(scripts, repeat=2):
                self.check(layers, first, second)

    def test_the_order_of_the_layers_does_not_matter(self):
        first = (("up", "c"), ("up", "c"))
        second = (("front", "c"),)
        for layers in itertools.permutations(("a", "b", "c", "d")):
            self.assertEqual(first_difference(layers, first, second), ("a", "b", "d", "c"))
            self.assertIs(equal(layers, first, second), False)

    def test_one_layer(self):
        for first, second in itertools.product(all_commands(("a",)), repeat=2):
            self.assertIsNone(first_difference(("a",), (first,), (second,)))
            self.assertIs(equal(("a",), (first,), (second,)), True)

    def test_only_one_result_differs(self):
        layers = NAMES[:6]
        first = (("up", "a"),) * 4
        differing = differing_orders(layers, first, (("front", "a"),))
        self.assertTrue(all(order[-1] == "a" for order in differing))
        self.assertEqual(first_difference(layers, first, (("front", "a"),)), differing[0])
        self.assertIsNone(first_difference(layers, first + (("up", "a"),), (("front", "a"),)))


class CommuteTest(unittest.TestCase):
    def test_examples(self):
        for names in RENAMINGS:
            layers = renamed(("a", "b", "c"), names)
            self.assertIs(commute(layers, ("front", layers[0]), ("back", layers[1])), True)
            self.assertIs(commute(layers, ("front", layers[0]), ("front", layers[1])), False)

    def test_all_pairs_of_commands(self):
        for size in range(1, 7):
            layers = shuffled(random.Random(size), NAMES[:size])
            orders = sorted_orders(layers)
            for one, other in itertools.product(all_commands(layers), repeat=2):
                same = all(walk(order, (one, other)) == walk(order, (other, one)) for order in orders)
                self.assertIs(commute(layers, one, other), same, (layers, one, other))

    def test_a_command_with_itself(self):
        for size in range(1, 6):
            for command in all_commands(NAMES[:size]):
                self.assertIs(commute(NAMES[:size], command, command), True)


def defined_redundant(layers, script):
    orders = sorted_orders(layers)
    results = [walk(order, script) for order in orders]
    found = []
    for at in range(len(script)):
        shorter = script[:at] + script[at + 1:]
        if all(walk(order, shorter) == result for order, result in zip(orders, results)):
            found.append(at)
    return found


class RedundantTest(unittest.TestCase):
    def check(self, layers, script):
        self.assertEqual(redundant_steps(layers, script), defined_redundant(layers, script), (layers, script))

    def test_examples(self):
        for names in RENAMINGS:
            layers, script = renamed((("a", "b", "c"), (("up", "b"), ("front", "b"), ("up", "c"))), names)
            for row in itertools.permutations(layers):
                self.assertEqual(redundant_steps(row, script), [0])

    def test_empty_script(self):
        self.assertEqual(redundant_steps(("a", "b"), ()), [])

    def test_each_one_alone(self):
        self.assertEqual(redundant_steps(("a", "b", "c"), (("front", "a"), ("front", "a"))), [0, 1])
        self.assertEqual(redundant_steps(("a", "b"), (("front", "a"), ("back", "b"))), [0, 1])

    def test_a_command_that_is_undone(self):
        self.assertEqual(redundant_steps(("a", "b", "c"), (("up", "a"), ("down", "a"))), [])

    def test_one_layer(self):
        script = tuple((word, "a") for word in WORDS)
        self.assertEqual(redundant_steps(("a",), script), [0, 1, 2, 3])

    def test_all_short_scripts(self):
        for layers, longest in ((("b", "a"), 3), (("b", "c", "a"), 2)):
            for length in range(longest + 1):
                for script in itertools.product(all_commands(layers), repeat=length):
                    self.check(layers, script)

    def test_samples(self):
        source = random.Random(137)
        for size, longest in ((1, 60), (2, 60), (3, 60), (4, 30), (5, 12), (6, 8)):
            for at in range(12):
                layers = shuffled(source, NAMES[:size])
                self.check(layers, random_script(source, layers, source.randint(0, longest)))
                self.check(layers, random_ends_script(source, layers, source.randint(0, longest)))

    def test_sixty_commands(self):
        source = random.Random(139)
        for size in (3, 4):
            layers = shuffled(source, NAMES[:size])
            self.check(layers, random_script(source, layers, 60))
        layers = NAMES[:6]
        ends = tuple(("front", layer) for layer in layers)
        # Nothing before the last six commands has an effect; each of these has one, except the first:
        # the layer that it moves stands behind the others anyway.
        self.assertEqual(redundant_steps(layers, random_script(source, layers, 54) + ends), list(range(55)))


class SourcesTest(unittest.TestCase):
    def check(self, script, orders, results):
        leading = {}
        for order in orders:
            leading.setdefault(walk(order, script), []).append(order)
        for result in results:
            self.assertEqual(sources(script, result), leading.get(result, []), (script, result))

    def check_all(self, script, layers):
        orders = sorted_orders(layers)
        self.check(script, orders, orders)
        many = sum(len(sources(script, result)) for result in orders)
        self.assertEqual(many, math.factorial(len(layers)))

    def test_examples(self):
        expected = [("a", "b", "c"), ("b", "a", "c"), ("b", "c", "a")]
        self.assertEqual(sources((("front", "a"),), ("a", "b", "c")), expected)
        for names in RENAMINGS:
            result = renamed(("a", "b", "c"), names)
            self.assertEqual(sources((("front", result[0]),), result), sorted(renamed(expected, names)))

    def test_no_sources(self):
        self.assertEqual(sources((("front", "a"),), ("b", "a", "c")), [])

    def test_empty_script(self):
        for size in range(1, 7):
            self.assertEqual(sources((), NAMES[:size]), [NAMES[:size]])

    def test_every_result(self):
        source = random.Random(149)
        for size, lengths in ((1, (0, 1, 60)), (2, (1, 2, 60)), (3, (1, 2, 5, 60)), (4, (1, 2, 4, 10)), (5, (1, 3, 6))):
            for length in lengths:
                layers = shuffled(source, NAMES[:size])
                self.check_all(random_script(source, layers, length), layers)
                self.check_all(random_ends_script(source, layers, length), layers)

    def test_every_result_of_six_layers(self):
        layers = NAMES[:6]
        self.check_all((("up", "m"), ("front", "bb"), ("down", "a")), layers)

    def test_long_scripts_of_six_layers(self):
        source = random.Random(151)
        layers = NAMES[:6]
        orders = sorted_orders(layers)
        for at in range(3):
            script = random_script(source, layers, 60)
            self.check(script, orders, [walk(layers, script), shuffled(source, layers)])

    def test_strictly_ascending(self):
        source = random.Random(157)
        for size in range(2, 7):
            layers = shuffled(source, NAMES[:size])
            script = random_script(source, layers, 6)
            found = sources(script, walk(layers, script))
            self.assertIn(layers, found)
            self.assertTrue(all(one < other for one, other in zip(found, found[1:])))


class ListsAndArgumentsTest(unittest.TestCase):
    layers = ("a", "b", "c")
    script = (("up", "b"), ("front", "b"), ("up", "c"))
    calls = (
        (normal_form, ((("front", "a"), ("back", "b")),)),
        (first_difference, (layers, (("front", "a"),), (("up", "a"),))),
        (equal, (layers, script, script)),
        (commute, (layers, ("front", "a"), ("back", "b"))),
        (redundant_steps, (layers, script)),
        (redundant_steps, (layers, ())),
        (sources, (script, ("b", "c", "a"))),
        (sources, ((("front", "a"),), ("b", "a", "c"))),
        (sources, ((), layers)),
    )

    def test_arguments_are_not_modified_and_lists_are_new(self):
        for function, arguments in self.calls:
            check_call(self, function, arguments)

    def test_kinds_of_results(self):
        form = normal_form((("front", "a"), ("back", "b")))
        self.assertEqual([type(form), type(form[0]), type(form[1])], [tuple, tuple, tuple])
        self.assertIs(type(first_difference(self.layers, (), self.script)), tuple)
        self.assertIs(type(redundant_steps(self.layers, self.script)), list)
        self.assertIs(type(sources((), self.layers)), list)
        self.assertIs(type(sources((), self.layers)[0]), tuple)


class BeyondTheLimitsTest(unittest.TestCase):
    def test_no_layers(self):
        self.assertIsNone(first_difference((), (), ()))
        self.assertIs(equal((), (), ()), True)
        self.assertEqual(redundant_steps((), ()), [])
        self.assertEqual(sources((), ()), [()])

    def test_seven_layers_and_more_than_sixty_commands(self):
        layers = NAMES[:7]
        ups = (("up", "a"),) * 6
        self.assertIsNone(first_difference(layers, ups, (("front", "a"),)))
        self.assertIs(equal(layers, ups[1:], (("front", "a"),)), False)
        self.assertIs(commute(layers, ("front", "a"), ("back", "bb")), True)
        self.assertEqual(redundant_steps(layers, (("up", "a"), ("front", "a"))), [0])
        self.assertEqual(len(sources((("front", "a"),), layers)), 7)
        many = (("front", "b"),) * 70
        self.assertIs(equal(("a", "b"), many, many[:1]), True)
        self.assertEqual(redundant_steps(("a", "b"), many), list(range(70)))
        self.assertEqual(sources(many, ("b", "a")), [("a", "b"), ("b", "a")])


if __name__ == "__main__":
    unittest.main()
