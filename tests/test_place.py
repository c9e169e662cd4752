import unittest

from helper import (
    BY_HAND, LARGEST, NOT_RIGHT, NO_CATALOGUES, SIGNS, TOO_LONG, ask,
    chain, coded, part, refuses_texts, turned_layers,
)
from studtube.parts import place

CATALOGUE = part("a") + part("hand", BY_HAND[0], 12) + part("long", [["t#sb#"]]) + part("tall", [["t"], ["#"], ["s"]])
LARGE = (4, 5, 8, 65536, 4294967296, LARGEST)


class Place(unittest.TestCase):
    def place(self, k, r, x, y, z, text):
        return ask(self, place, k, r, x, y, z, coded(text))

    def holds(self, k, r, layers, text):
        """Each place, and none but these: the next ones and large ones are refused."""
        width, depth, height = len(layers[0][0]), len(layers[0]), len(layers)
        for z in range(height):
            for y in range(depth):
                for x in range(width):
                    self.assertEqual([SIGNS.index(layers[z][y][x])], self.place(k, r, x, y, z, text), (r, x, y, z))
        for more in (0, 1, LARGEST - 18):
            self.assertEqual([-4], self.place(k, r, width + more, 0, 0, text))
            self.assertEqual([-4], self.place(k, r, width + more, depth - 1, height - 1, text))
            self.assertEqual([-4], self.place(k, r, 0, depth + more, 0, text))
            self.assertEqual([-4], self.place(k, r, width - 1, depth + more, height - 1, text))
            self.assertEqual([-4], self.place(k, r, 0, 0, height + more, text))
            self.assertEqual([-4], self.place(k, r, width - 1, depth - 1, height + more, text))

    def test_by_hand(self):
        for r in range(4):
            self.holds(0, r, BY_HAND[r], part("hand", BY_HAND[0]))
            self.holds(1, r, BY_HAND[r], CATALOGUE)

    def test_numbers_by_hand(self):
        text = part("a", [["t#sb#"]])
        self.assertEqual([[3], [1], [2], [4], [1], [-4]], [self.place(0, 0, x, 0, 0, text) for x in range(6)])
        self.assertEqual([[1], [4], [2], [1], [3], [-4]], [self.place(0, 1, 0, y, 0, text) for y in range(6)])
        self.assertEqual([[1], [4], [2], [1], [3], [-4]], [self.place(0, 2, x, 0, 0, text) for x in range(6)])
        self.assertEqual([[3], [1], [2], [4], [1], [-4]], [self.place(0, 3, 0, y, 0, text) for y in range(6)])
        text = part("a", [["##", "#."]])
        self.assertEqual([0], self.place(0, 0, 1, 1, 0, text))
        self.assertEqual([0], self.place(0, 1, 1, 0, 0, text))
        self.assertEqual([0], self.place(0, 2, 0, 0, 0, text))
        self.assertEqual([0], self.place(0, 3, 0, 1, 0, text))

    def test_each_part_of_several(self):
        for r in range(4):
            self.holds(0, r, [["#"]], CATALOGUE)
            self.holds(2, r, turned_layers([["t#sb#"]], r), CATALOGUE)
            self.holds(3, r, [["t"], ["#"], ["s"]], CATALOGUE)

    def test_one_deep_and_one_wide(self):
        for layers in ([["t#."], ["#.t"], ["s#s"]], [["t", "#", "."], ["#", ".", "t"], ["s", "#", "s"]]):
            for r in range(4):
                self.holds(0, r, turned_layers(layers, r), part("a", layers))

    def test_sixteen_wide_or_deep(self):
        signs = "t##sb#tts##bst##"
        for layers in ([[signs]], [list(signs)]):
            for r in range(4):
                self.holds(0, r, turned_layers(layers, r), part("a", layers))

    def test_eighteen_high(self):
        layers = [["t"]] + [["#"]] * 16 + [["s"]]
        for r in range(4):
            self.holds(0, r, layers, part("a", layers))

    def test_corners_of_the_largest(self):
        rows = ["#" * 16] * 16
        layers = [["t" + "#" * 15] + rows[1:]] + [rows] * 16 + [rows[1:] + ["#" * 15 + "s"]]
        text = coded(part("a", layers))
        corners = [(0, 0), (0, 15), (15, 15), (15, 0)]
        for r in range(4):
            for x, y in corners:
                self.assertEqual([3 if (x, y) == corners[r] else 1], place(0, r, x, y, 0, text))
                self.assertEqual([2 if (x, y) == corners[r - 2] else 1], place(0, r, x, y, 17, text))
            for x, y, z in ((16, 0, 0), (0, 16, 0), (0, 0, 18)):
                self.assertEqual([-4], place(0, r, x, y, z, text))

    def test_large_places(self):
        for r in range(4):
            for large in LARGE:
                self.assertEqual([-4], self.place(1, r, large, 0, 0, CATALOGUE))
                self.assertEqual([-4], self.place(1, r, 0, large, 0, CATALOGUE))
                self.assertEqual([-4], self.place(1, r, 0, 0, large, CATALOGUE))
            self.assertEqual([-4], self.place(1, r, LARGEST, LARGEST, LARGEST, CATALOGUE))

    def test_no_such_turn(self):
        for r in LARGE:
            self.assertEqual([-1], self.place(1, r, 0, 0, 0, CATALOGUE))

    def test_no_such_part(self):
        for k in LARGE:
            for r in range(4):
                self.assertEqual([-4], self.place(k, r, 0, 0, 0, CATALOGUE))
        self.assertEqual([-4], self.place(1, 0, 0, 0, 0, part("a")))
        self.assertEqual([3], self.place(63, 0, 0, 0, 0, chain(63) + part("b", [["t"]])))
        self.assertEqual([-4], self.place(64, 0, 0, 0, 0, chain(63) + part("b", [["t"]])))

    def test_refused_texts(self):
        for k, x in ((0, 0), (0, LARGEST), (LARGEST, 0), (LARGEST, LARGEST)):
            for r in range(4):
                refuses_texts(self, place, k, r, x, 0, 0)

    def test_turn_refused_first(self):
        for k, x in ((0, 0), (0, LARGEST), (LARGEST, 0), (LARGEST, LARGEST)):
            for r in (4, LARGEST):
                self.assertEqual([-1], place(k, r, x, 0, 0, TOO_LONG))
                for text in NO_CATALOGUES + NOT_RIGHT + [CATALOGUE]:
                    self.assertEqual([-1], self.place(k, r, x, 0, 0, text))

    def test_no_such_part_nor_place(self):
        self.assertEqual([-4], self.place(LARGEST, 3, LARGEST, LARGEST, LARGEST, CATALOGUE))


if __name__ == "__main__":
    unittest.main()
