import unittest

from helper import LARGEST, ask, chain, coded, full_part, part, refuses_texts
from studtube.parts import name

NAMES = ["a", "a0", "a1", "aa", "abcdefgh", "b", "brick24", "q2w3e4r5", "z", "z9999999"]
CATALOGUE = "".join(part(each, [["#" * (number + 1)]], number + 10) for number, each in enumerate(NAMES))


class Name(unittest.TestCase):
    def name(self, k, text):
        return ask(self, name, k, coded(text))

    def test_each_part(self):
        for number, each in enumerate(NAMES):
            self.assertEqual([len(each)] + coded(each), self.name(number, CATALOGUE))
            self.assertEqual([len(each)] + coded(each), self.name(0, part(each)))

    def test_bytes_by_hand(self):
        self.assertEqual([1, 97], self.name(0, part("a")))
        self.assertEqual([1, 122], self.name(0, part("z")))
        self.assertEqual([4, 98, 48, 49, 57], self.name(0, part("b019")))
        self.assertEqual([8, 122, 97, 48, 57, 98, 121, 53, 99], self.name(0, part("za09by5c")))

    def test_name_like_the_first_word(self):
        self.assertEqual([4, 112, 97, 114, 116], self.name(0, part("part")))

    def test_last_part(self):
        text = chain(63) + full_part("b64", 3, 4, 5, 60)
        self.assertEqual([3, 97, 49, 48], self.name(0, text))
        self.assertEqual([3, 97, 55, 50], self.name(62, text))
        self.assertEqual([3, 98, 54, 52], self.name(63, text))
        self.assertEqual([-4], self.name(64, text))

    def test_no_such_part(self):
        self.assertEqual([-4], self.name(1, part("a")))
        for k in (10, 11, 64, 65535, 4294967296, LARGEST):
            self.assertEqual([-4], self.name(k, CATALOGUE))

    def test_refused_texts(self):
        for k in (0, 2, LARGEST):
            refuses_texts(self, name, k)


if __name__ == "__main__":
    unittest.main()
