"""[0.1], [0.5], [0.7]: names, integers and rows."""

import unittest

from dealtrows.base.names import is_integer, is_name, is_row
from samples import EIGHTY, SIXTY, SIXTY_ONE, odd_values


class NamesTest(unittest.TestCase):
    def test_names(self):
        for value in ("a", "z", "az", "selfself", "abcdefgh", "schema", "type"):
            self.assertIs(is_name(value), True, value)

    def test_no_names(self):
        refused = ("", "abcdefghi", "A", "aB", "a1", "1", "a b", " a", "a ", "a\n", "\n", "a_b", "_", "`", "{", "-")
        for value in (*refused, 1, 0, ("a",), ["a"], {"a": 1}, None, True):
            self.assertIs(is_name(value), False, value)


class IntegersTest(unittest.TestCase):
    def test_integers(self):
        for value in (0, 1, -1, SIXTY, -SIXTY, 10 ** 59, 2 ** 64):
            self.assertIs(is_integer(value), True, value)

    def test_no_integers(self):
        for value in (True, False, SIXTY_ONE, -SIXTY_ONE, EIGHTY, -EIGHTY, "1", "", None, (1,), [1], {1: 1}, ()):
            self.assertIs(is_integer(value), False, value)


class RowsTest(unittest.TestCase):
    def test_rows(self):
        for value in ((0,), (1, 1), (1, 2, 3), (1, 2, 3, 4), (SIXTY, -SIXTY)):
            self.assertIs(is_row(value), True, value)

    def test_no_rows(self):
        refused = ((), (1, 2, 3, 4, 5), (True,), (1, False), (SIXTY_ONE,), (1, -SIXTY_ONE), ("1",), (None,), ((1,),))
        for value in (*refused, [1], [1, 2], 1, "1", "", None, True, {1: 2}, {(1,): 1}):
            self.assertIs(is_row(value), False, value)


class EveryValueTest(unittest.TestCase):
    def test_every_value_is_accepted(self):
        for value in odd_values():
            for asked in (is_name, is_integer, is_row):
                self.assertIs(asked(value), False, (asked, value))


if __name__ == "__main__":
    unittest.main()
