"""Points [5], [6], [11] and [12]."""

import itertools
import random
import unittest

from layersteps.commands import apply, idle
from tests.helpers import NAMES, all_commands, random_script, shuffled, step, walk


def idle_by_steps(order, script):
    return [at for at in range(len(script)) if walk(order, script[:at]) == walk(order, script[:at + 1])]


def sample_scripts():
    source = random.Random(11)
    for size in range(1, 11):
        for length in (0, 1, 2, 5, 20, 59, 60):
            order = shuffled(source, NAMES[:size])
            yield order, random_script(source, order, length)


class ApplyTest(unittest.TestCase):
    def test_example(self):
        self.assertEqual(apply(("a", "b", "c", "d"), (("front", "c"), ("down", "a"))), ("c", "b", "a", "d"))

    def test_empty_script(self):
        for size in range(1, 11):
            self.assertEqual(apply(NAMES[:size], ()), NAMES[:size])

    def test_each_command_in_words(self):
        order = ("a", "b", "c", "d")
        self.assertEqual(apply(order, (("front", "c"),)), ("c", "a", "b", "d"))
        self.assertEqual(apply(order, (("back", "b"),)), ("a", "c", "d", "b"))
        self.assertEqual(apply(order, (("up", "c"),)), ("a", "c", "b", "d"))
        self.assertEqual(apply(order, (("down", "b"),)), ("a", "c", "b", "d"))
        self.assertEqual(apply(order, (("front", "d"),)), ("d", "a", "b", "c"))
        self.assertEqual(apply(order, (("back", "a"),)), ("b", "c", "d", "a"))

    def test_edges_change_nothing(self):
        for size in range(1, 11):
            order = NAMES[:size]
            for word in ("up", "front"):
                self.assertEqual(apply(order, ((word, order[0]),)), order)
            for word in ("down", "back"):
                self.assertEqual(apply(order, ((word, order[-1]),)), order)

    def test_single_commands(self):
        for size in range(1, 11):
            order = NAMES[:size]
            for command in all_commands(order):
                self.assertEqual(apply(order, (command,)), step(order, command))

    def test_up_and_down_exchange_neighbours(self):
        for size in range(2, 11):
            order = NAMES[:size]
            for at in range(size - 1):
                row = list(order)
                row[at], row[at + 1] = row[at + 1], row[at]
                self.assertEqual(apply(order, (("down", order[at]),)), tuple(row))
                self.assertEqual(apply(order, (("up", order[at + 1]),)), tuple(row))

    def test_all_short_scripts(self):
        order = ("b", "c", "a")
        for length in range(4):
            for script in itertools.product(all_commands(order), repeat=length):
                self.assertEqual(apply(order, script), walk(order, script))

    def test_long_scripts(self):
        for order, script in sample_scripts():
            self.assertEqual(apply(order, script), walk(order, script))

    def test_result_is_a_tuple(self):
        for order, script in sample_scripts():
            self.assertIsInstance(apply(order, script), tuple)

    def test_no_layers(self):
        self.assertEqual(apply((), ()), ())
        self.assertEqual(idle((), ()), [])

    def test_somewhat_beyond_the_limits(self):
        order = NAMES + ("q", "r")
        script = random_script(random.Random(3), order, 70)
        self.assertEqual(apply(order, script), walk(order, script))
        self.assertEqual(idle(order, script), idle_by_steps(order, script))


class IdleTest(unittest.TestCase):
    def test_example(self):
        self.assertEqual(idle(("a", "b"), (("up", "a"), ("down", "a"), ("down", "a"))), [0, 2])

    def test_empty_script(self):
        self.assertEqual(idle(("a", "b"), ()), [])

    def test_one_layer(self):
        self.assertEqual(idle(("a",), tuple(all_commands(("a",)))), [0, 1, 2, 3])

    def test_edges(self):
        order = ("a", "b", "c")
        for word in ("up", "front"):
            self.assertEqual(idle(order, ((word, "a"),)), [0])
            self.assertEqual(idle(order, ((word, "c"),)), [])
        for word in ("down", "back"):
            self.assertEqual(idle(order, ((word, "c"),)), [0])
            self.assertEqual(idle(order, ((word, "a"),)), [])

    def test_a_command_that_is_undone_is_not_idle(self):
        self.assertEqual(idle(("a", "b"), (("down", "a"), ("up", "a"))), [])

    def test_all_short_scripts(self):
        order = ("b", "c", "a")
        for length in range(4):
            for script in itertools.product(all_commands(order), repeat=length):
                self.assertEqual(idle(order, script), idle_by_steps(order, script))

    def test_long_scripts(self):
        for order, script in sample_scripts():
            self.assertEqual(idle(order, script), idle_by_steps(order, script))

    def test_the_list_is_new(self):
        order = ("a", "b")
        for script in ((), (("up", "a"),)):
            first = idle(order, script)
            second = idle(order, script)
            self.assertIsInstance(first, list)
            self.assertIsNot(first, second)
            first.append(99)
            self.assertEqual(idle(order, script), second)


class ArgumentsTest(unittest.TestCase):
    def test_arguments_are_not_modified(self):
        for order, script in sample_scripts():
            order_before = tuple(list(order))
            script_before = tuple(tuple(list(command)) for command in script)
            apply(order, script)
            idle(order, script)
            self.assertEqual(order, order_before)
            self.assertEqual(script, script_before)

    def test_same_call_same_value(self):
        for order, script in sample_scripts():
            self.assertEqual(apply(order, script), apply(order, script))
            self.assertEqual(idle(order, script), idle(order, script))


if __name__ == "__main__":
    unittest.main()
