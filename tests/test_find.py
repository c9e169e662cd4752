import unittest

from helper import NOT_RIGHT, NO_CATALOGUES, TOO_LONG, WRONG, ask, chain, coded, part
from studtube.parts import find

NAMES = ["a", "a0", "a1", "aa", "abcdefgh", "b", "brick24", "z9999999"]
CATALOGUE = "".join(part(name) for name in NAMES)
NO_NAMES = [
    "", "abcdefghi", "a23456789", "a" * 100, "1", "0a", "9", "A", "aB", "a b", " a", "a ", "a\n", "a_", "a-b",
    "a\0", "\0", "`", "{", "a/", "a:", "\xe9", "a\xff", "abcdefgH",
]


class Find(unittest.TestCase):
    def find(self, text, name):
        return ask(self, find, coded(text), coded(name))

    def test_each_part(self):
        for number, name in enumerate(NAMES):
            self.assertEqual([number], self.find(CATALOGUE, name))
        for number in range(64):
            self.assertEqual([number], self.find(chain(64), "a%d" % (10 + number)))
        self.assertEqual([0], self.find(part("only"), "only"))

    def test_name_that_no_part_has(self):
        for name in ("c", "abcdefg", "abcdefgg", "brick2", "z", "z9999998", "a00"):
            self.assertEqual([-3], self.find(CATALOGUE, name))

    def test_name_that_another_begins_with(self):
        self.assertEqual([-3], self.find(part("ab"), "a"))
        self.assertEqual([-3], self.find(part("a"), "ab"))
        self.assertEqual([1], self.find(part("a") + part("ab") + part("abc"), "ab"))

    def test_no_name(self):
        for name in NO_NAMES:
            self.assertEqual([-1], self.find(CATALOGUE, name), name)

    def test_shortest_and_longest_name(self):
        self.assertEqual([0], self.find(CATALOGUE, "a"))
        self.assertEqual([4], self.find(CATALOGUE, "abcdefgh"))
        self.assertEqual([-1], self.find(CATALOGUE, "abcdefghi"))

    def test_no_catalogue(self):
        for text in NO_CATALOGUES:
            self.assertEqual([-6], self.find(text, "a"))

    def test_not_right(self):
        for text in NOT_RIGHT:
            self.assertEqual([-8], self.find(text, "a"))
            self.assertEqual([-8], self.find(text, "b"))

    def test_too_long(self):
        name = coded("a")
        self.assertEqual([-2], find([0] * 1048577, name))
        self.assertEqual([-6], find([0] * 1048576, name))

    def test_first_of_several_refusals(self):
        for name in ("", "9", "abcdefghi"):
            self.assertEqual([-1], find(TOO_LONG, coded(name)))
            self.assertEqual([-1], self.find("", name))
            self.assertEqual([-1], self.find(WRONG, name))
        self.assertEqual([-6], self.find(WRONG + "x", "c"))
        self.assertEqual([-8], self.find(WRONG, "c"))
        self.assertEqual([-2], find(TOO_LONG, coded("c")))


if __name__ == "__main__":
    unittest.main()
