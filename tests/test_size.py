import unittest

from helper import LARGEST, ask, chain, coded, full_part, part, refuses_texts
from studtube.parts import size

PARTS = [
    part("bare", [["##"], ["#."]], 7),
    part("brick", [["tt", "t#", "tt"], ["ss", "s.", "ss"]], 232),
    part("plate", [["bbb", "b.b", "bbb"]], 10),
    part("post", [["t"], ["#"], ["#"], ["s"]], 9999),
    part("studs", [["s#s#"]], 1),
    part("tubes", [["t", "t"], ["#", "."]], 1000),
]
SIZES = [
    [2, 1, 2, 7, 3, 0, 0],
    [2, 3, 2, 232, 11, 5, 5],
    [3, 3, 1, 10, 8, 8, 8],
    [1, 1, 4, 9999, 4, 1, 1],
    [4, 1, 1, 1, 4, 2, 0],
    [1, 2, 2, 1000, 3, 0, 2],
]
CATALOGUE = "".join(PARTS)


class Size(unittest.TestCase):
    def size(self, k, text):
        return ask(self, size, k, coded(text))

    def test_each_part(self):
        for number, wanted in enumerate(SIZES):
            self.assertEqual(wanted, self.size(number, CATALOGUE))
            self.assertEqual(wanted, self.size(0, PARTS[number]))

    def test_each_sign_alone(self):
        self.assertEqual([1, 1, 1, 1, 1, 0, 0], self.size(0, part("a", [["#"]])))
        self.assertEqual([1, 1, 1, 1, 1, 1, 0], self.size(0, part("a", [["s"]])))
        self.assertEqual([1, 1, 1, 1, 1, 0, 1], self.size(0, part("a", [["t"]])))
        self.assertEqual([1, 1, 1, 1, 1, 1, 1], self.size(0, part("a", [["b"]])))

    def test_largest_part(self):
        self.assertEqual([16, 16, 18, 9999, 4608, 0, 0], self.size(0, full_part("a", 16, 16, 18, 9999)))
        self.assertEqual([16, 16, 1, 1, 256, 256, 256], self.size(0, part("a", [["b" * 16] * 16])))

    def test_many_parts(self):
        text = chain(63) + full_part("b", 3, 4, 5, 60)
        self.assertEqual([1, 1, 1, 1, 1, 0, 0], self.size(62, text))
        self.assertEqual([3, 4, 5, 60, 60, 0, 0], self.size(63, text))
        self.assertEqual([-4], self.size(64, text))

    def test_no_such_part(self):
        self.assertEqual([-4], self.size(1, part("a")))
        for k in (6, 7, 64, 65535, 4294967296, LARGEST):
            self.assertEqual([-4], self.size(k, CATALOGUE))

    def test_refused_texts(self):
        for k in (0, 2, LARGEST):
            refuses_texts(self, size, k)


if __name__ == "__main__":
    unittest.main()
