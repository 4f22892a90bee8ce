import unittest

from samples import ALIENS, BINARY
from treelaws.integers import is_integer
from treelaws.names import is_name


class NamesTest(unittest.TestCase):
    def test_names(self):
        for thing in ("a", "z", "a0", "z9", "leaf", "abcdefgh", "a1234567", "x0y1z2"):
            self.assertIs(is_name(thing), True, thing)

    def test_lengths(self):
        for length in range(12):
            self.assertIs(is_name("a" * length), 1 <= length <= 8, length)

    def test_each_sign_first_and_later(self):
        for sign in [chr(code) for code in range(32, 127)] + ["\n", "\t", "\xe4", "\u0661", "\xb2"]:
            letter, digit = "a" <= sign <= "z", "0" <= sign <= "9"
            self.assertIs(is_name(sign), letter, repr(sign))
            self.assertIs(is_name(sign + "b"), letter, repr(sign))
            self.assertIs(is_name("b" + sign), letter or digit, repr(sign))
            self.assertIs(is_name("b" + sign + "b"), letter or digit, repr(sign))

    def test_other_objects(self):
        for thing in ALIENS + (0, 1, ("a",), ["a"], {"a": "a"}, BINARY, b"a"):
            self.assertIs(is_name(thing), False)

    def test_integers_are_no_bools(self):
        for thing in (0, 1, -1, 10 ** 50):
            self.assertIs(is_integer(thing), True)
        for thing in (True, False, None, "1", (1,), [1], {1: 1}):
            self.assertIs(is_integer(thing), False)
