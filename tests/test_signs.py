"""are_signs, of anything."""

import unittest

from helper import SIGNS, nested, odd_things
from likenest.terms import are_signs

NAMES = ["a", "b", "c", "d", "e", "f", "g", "h", "i"]


class AreSigns(unittest.TestCase):
    def yes(self, thing):
        self.assertIs(are_signs(thing), True, thing)

    def no(self, thing):
        self.assertIs(are_signs(thing), False, repr(thing)[:200])

    def test_ordinary(self):
        self.yes(SIGNS)
        self.yes((("a", 0), ("f", 2)))
        self.yes((("f", 3), ("g", 1), ("a", 0)))

    def test_how_many(self):
        for many in range(1, 9):
            self.yes(tuple((name, 0) for name in NAMES[:many]))
        self.no(())
        self.no(tuple((name, 0) for name in NAMES))

    def test_letters_of_a_name(self):
        for name in ("a", "z", "ab", "zebra", "abcdef", "aaaaaa"):
            self.yes(((name, 0),))
        for name in ("", "abcdefg", "A", "aB", "Zoo", "a1", "1", "a b", " ", "a ", " a", "a-b", "a_b", "a\n", "\ta",
                     "`", "{", "a{", "`a", "~", "a/0", "x" * 4000):
            self.no(((name, 0),))
            self.no((("a", 0), (name, 1)))

    def test_every_sign_of_a_text_as_a_letter(self):
        for number in list(range(32, 127)) + [9, 10]:
            letter = chr(number)
            small = letter in "abcdefghijklmnopqrstuvwxyz"
            for name in (letter, "a" + letter, letter + "a", "ab" + letter + "cd"):
                self.assertIs(are_signs(((name, 0),)), small, repr(name))

    def test_names_of_other_kinds(self):
        for name in (None, True, 0, 7, ("a",), ["a"], {"a": 0}, (), [], {}, nested(tuple, 10), nested(list, 10)):
            self.no(((name, 0),))
            self.no((("b", 0), (name, 0)))

    def test_no_two_alike(self):
        self.no((("a", 0), ("a", 0)))
        self.no((("a", 0), ("a", 1)))
        self.no((("a", 0), ("f", 2), ("b", 0), ("f", 1)))
        self.no(tuple((name, 0) for name in NAMES[:7]) + (("a", 3),))
        self.yes((("a", 0), ("aa", 0), ("ab", 0), ("ba", 0)))

    def test_how_many_parts(self):
        for parts in (0, 1, 2, 3):
            self.yes((("a", 0), ("f", parts)))
            self.yes((("f", parts), ("a", 0)))
        for parts in (-1, 4, 5, 10 ** 39, -(10 ** 39), True, False, None, "", "0", "1", (), (0,), [], [0], {}, {0: 0}):
            self.no((("a", 0), ("f", parts)))
            self.no((("f", parts), ("a", 0)))
        self.no((("a", False),))
        self.no((("a", -1),))

    def test_one_without_parts(self):
        self.yes((("a", 0),))
        for parts in (1, 2, 3):
            self.no((("f", parts),))
        self.no((("f", 1), ("g", 2), ("h", 3)))
        self.no((("f", True), ("g", 1)))
        self.yes((("f", 1), ("g", 2), ("h", 3), ("a", 0)))

    def test_lists_in_the_place_of_tuples(self):
        self.no([("a", 0)])
        self.no((["a", 0],))
        self.no([["a", 0]])
        self.no((("a", 0), ["f", 2]))
        self.no(list(SIGNS))

    def test_tuples_of_other_lengths(self):
        for sign in ((), ("b",), ("b", 0, 0), ("b", 0, None), (0, "b"), (("b", 0),)):
            self.no((sign,))
            self.no((("a", 0), sign))
            self.no((sign, ("a", 0)))

    def test_dicts_and_texts(self):
        self.no({"a": 0})
        self.no({("a", 0): True})
        self.no(({"a": 0, "b": 0},))
        self.no("a")
        self.no(("a0",))
        self.no(("ab", "cd"))

    def test_anything(self):
        for thing in odd_things():
            self.no(thing)
            self.no((("a", 0), thing))
            if thing != ("a", 0):
                self.no((thing,))
                self.no((thing, ("b", 0)))

    def test_by_name(self):
        self.assertIs(are_signs(thing=SIGNS), True)
        self.assertIs(are_signs(thing=()), False)


if __name__ == "__main__":
    unittest.main()
