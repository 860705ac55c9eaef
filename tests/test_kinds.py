"""[2], [3] and [11]: the kinds of values."""

import unittest

from keptopen.kinds import is_chests, is_integer, is_name, is_number
from support import ANY, Case, copied, same


def ascending(thing):
    return all(thing[k] < thing[k + 1] for k in range(len(thing) - 1))


class Kinds(Case):
    def tells(self, call, right, wrong):
        for value in right:
            self.assertIs(call(value), True, value)
            self.assertIs(call(thing=value), True, value)
        for value in wrong:
            before = copied(value)
            self.assertIs(call(value), False, value)
            self.assertIs(call(thing=value), False, value)
            self.assertTrue(same(value, before))

    def test_integers(self):
        right = [0, 1, -1, 7, -3, 10**60 - 1, -(10**59)]
        self.tells(is_integer, right, [True, False, None, "1", "", (), (1,), [], [1], ((0,),)])
        self.assertEqual([is_integer(value) for value in ANY], [type(value) is int for value in ANY])

    def test_numbers(self):
        self.tells(is_number, [0, 1, 2, 10**60 - 1], [-1, -3, -(10**59), True, False, None, "0", "1", (), (0,), [0]])
        self.assertEqual([is_number(value) for value in ANY], [type(value) is int and value >= 0 for value in ANY])

    def test_names(self):
        right = ["a", "z", "abcdefgh", "zzzzzzzz", "qwertyui", "mnopxvsk"]
        wrong = [
            "", "abcdefghi", "A", "aB", "a1", "1", "a b", " a", "a ", "a\n", "\na", "a,b", "-", "_", "a_b", "{", "`", "~",
            None, True, 0, 1, ("a",), ["a"], (), [],
        ]
        self.tells(is_name, right, wrong)

    def test_each_character(self):
        for code in range(32, 127):
            self.assertIs(is_name(chr(code)), chr(code) in "abcdefghijklmnopqrstuvwxyz")
            self.assertIs(is_name("a" + chr(code)), chr(code) in "abcdefghijklmnopqrstuvwxyz")

    def test_chests(self):
        right = [("a",), ("a", "b"), ("a", "aa", "ab", "b"), ("abcdefgh",), tuple("abcdefghijklmnopqrstuvwxyz")]
        wrong = [
            (), [], ["a"], ["a", "b"], ("b", "a"), ("a", "a"), ("a", "c", "b"), ("a", "b", "b"), ("a", ""), ("A",), ("a", 1),
            (1,), (True,), (None,), (("a",),), (["a"],), ("a", ("b",)), "a", "ab", None, 1, True, ("a", "abcdefghi"), (1, 2),
        ]
        self.tells(is_chests, right, wrong)

    def test_chests_among_values_of_every_kind(self):
        for value in ANY:
            names = type(value) is tuple and len(value) > 0 and all(is_name(name) for name in value)
            self.assertIs(is_chests(value), names and ascending(value))


if __name__ == "__main__":
    unittest.main()
