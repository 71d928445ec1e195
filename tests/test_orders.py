"""Points [4], [5], [6], [9] and [10], and the exception of point [2] for `value`."""

import copy
import string
import unittest

from layersteps.orders import is_order, is_script
from tests.helpers import NAMES, WORDS


def nested(inner, levels, kind):
    for level in range(levels):
        inner = kind([inner])
    return inner


OTHER_KINDS = [
    0,
    1,
    -1,
    10 ** 40 - 1,
    -(10 ** 40 - 1),
    True,
    False,
    None,
    "",
    "a",
    "ab",
    "x" * 100,
    [],
    ["a"],
    ["a", "b"],
    [("a", "b")],
    (("a", "b"),),
    ((),),
    ([],),
    [[]],
    (0,),
    (1, 2),
    (True,),
    (None,),
    (None, "a"),
    ("a", None),
    ("a", ["b"]),
    (["a"], "b"),
    ("a", ("b",)),
    (("a",),),
    ("a",) * 300,
    ["a"] * 300,
    (0,) * 300,
    nested("a", 19, tuple),
    nested("a", 19, list),
    nested((), 19, list),
]


class OrderTest(unittest.TestCase):
    def accepts(self, value):
        self.assertIs(is_order(value), True, repr(value))

    def rejects(self, value):
        self.assertIs(is_order(value), False, repr(value))

    def test_example(self):
        self.rejects(("a", "a"))

    def test_number_of_layers(self):
        self.rejects(())
        for size in range(1, 11):
            self.accepts(NAMES[:size])
        self.rejects(NAMES + ("q",))
        self.rejects(tuple(string.ascii_lowercase))

    def test_length_of_names(self):
        for length in range(1, 9):
            self.accepts(("z" * length,))
            self.accepts(("a", "z" * length))
        for length in (0, 9, 10, 100):
            self.rejects(("z" * length,))
            self.rejects(("a", "z" * length))
            self.rejects(("z" * length, "a"))

    def test_every_letter(self):
        for letter in string.ascii_lowercase:
            self.accepts((letter,))
            self.accepts(("q" + letter + "q",))

    def test_other_characters(self):
        others = [chr(code) for code in range(300) if chr(code) not in string.ascii_lowercase]
        others += ["\u0131", "\u03b1", "\u0430", "\uff41", "\u00aa", "\U0001d41a", "\ud800"]
        for character in others:
            for name in (character, "a" + character, character + "a", "ab" + character + "cd"):
                self.rejects((name,))
                self.rejects(("b", name))
                self.rejects((name, "b"))

    def test_repeated_layers(self):
        for size in range(1, 10):
            for at in range(size):
                row = list(NAMES[:size])
                row.insert(size - at, row[at])
                self.rejects(tuple(row))
        self.accepts(("a", "aa", "aaa"))

    def test_one_item_of_another_kind(self):
        for wrong in (0, 7, True, False, None, [], (), ["a"], ("a",), "", "A", [["a"]]):
            for size in (1, 2, 5, 10):
                for at in range(size):
                    row = list(NAMES[:size])
                    row[at] = wrong
                    self.rejects(tuple(row))

    def test_two_items_of_other_kinds(self):
        for wrong in ([], ["a"], (), None, 1):
            self.rejects(("a", wrong, "b", wrong))

    def test_list_of_layers(self):
        for size in range(1, 11):
            self.rejects(list(NAMES[:size]))

    def test_values_of_other_kinds(self):
        for value in OTHER_KINDS:
            before = copy.deepcopy(value)
            self.rejects(value)
            self.assertEqual(value, before)


class ScriptTest(unittest.TestCase):
    order = ("a", "bb", "c")

    def accepts(self, value):
        self.assertIs(is_script(self.order, value), True, repr(value))

    def rejects(self, value):
        self.assertIs(is_script(self.order, value), False, repr(value))

    def test_example(self):
        self.assertIs(is_script(("a", "b"), (("up", "c"),)), False)

    def test_every_command(self):
        for word in WORDS:
            for layer in self.order:
                self.accepts(((word, layer),))
                self.accepts((("up", "a"), (word, layer)))

    def test_number_of_commands(self):
        for length in range(61):
            self.accepts((("down", "bb"),) * length)
        for length in (61, 62, 300):
            self.rejects((("down", "bb"),) * length)

    def test_unknown_words(self):
        for word in ("", "Front", "UP", "fron", "fronts", "left", "a", "p", " up", "up ", "u", "updown"):
            self.rejects(((word, "a"),))
            self.rejects((("up", "a"), (word, "a")))
            self.rejects(((word, "a"), ("up", "a")))

    def test_layers_that_the_order_does_not_have(self):
        for layer in ("", "b", "d", "A", "abbc", "bbb", "up", "z" * 100):
            self.rejects((("up", layer),))
            self.rejects((("up", "a"), ("up", layer)))
            self.rejects((("up", layer), ("up", "a")))

    def test_word_and_layer_exchanged(self):
        self.rejects((("a", "up"),))
        self.assertIs(is_script(("up", "a"), (("a", "up"),)), False)
        self.assertIs(is_script(("up", "a"), (("up", "up"),)), True)

    def test_commands_of_another_length(self):
        for wrong in ((), ("up",), ("a",), ("up", "a", "a"), ("up", "a", "bb"), ("up", "a", None)):
            self.rejects((wrong,))
            self.rejects((("up", "a"), wrong))

    def test_one_place_of_another_kind(self):
        right = (("front", "a"), ("up", "c"), ("back", "bb"))
        self.accepts(right)
        for wrong in (0, 1, True, False, None, [], (), ["up"], ("up",), ["a"], ("a",), [["a"]]):
            for at in range(3):
                word, layer = right[at]
                for command in (wrong, (wrong, layer), (word, wrong), (wrong, wrong)):
                    self.rejects(right[:at] + (command,) + right[at + 1:])

    def test_lists_where_tuples_are_asked(self):
        self.rejects([])
        self.rejects([("up", "a")])
        self.rejects((["up", "a"],))
        self.rejects([["up", "a"]])
        self.rejects((("up", "a"), ["up", "a"]))

    def test_strings_are_no_commands(self):
        self.assertIs(is_script(("a", "b"), ("ab",)), False)
        self.assertIs(is_script(("a", "b"), "ab"), False)
        self.assertIs(is_script(("a", "b"), ("up", "a")), False)

    def test_values_of_other_kinds(self):
        for value in OTHER_KINDS:
            before = copy.deepcopy(value)
            self.rejects(value)
            self.assertEqual(value, before)


if __name__ == "__main__":
    unittest.main()
