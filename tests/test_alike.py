import itertools
import unittest

from helper import BY_HAND, LARGEST, ask, chain, coded, full_part, part, refuses_texts, right_layers, turned_layers
from studtube.parts import alike, turned

CATALOGUE = "".join(part(name, layers) for name, layers in zip("abcd", BY_HAND)) + part("e")
LARGE = (5, 6, 8, 64, 65536, 4294967296, LARGEST)

# Two each, and by what they are alike: the first to the second, and the other way round.
PAIRS_BY_HAND = [
    ([["#"]], [["#"]], 0, 0),
    ([["#s"]], [["#", "s"]], 3, 1),
    ([["#s"]], [["s", "#"]], 1, 3),
    ([["#s"]], [["s#"]], 2, 2),
    ([["#.", "##"]], [["##", "#."]], 3, 1),
    ([["#.", "##"]], [[".#", "##"]], 1, 3),
    ([["#.", "##"]], [["##", ".#"]], 2, 2),
    ([["##.", ".##"]], [[".#", "##", "#."]], 1, 1),
    ([["t#."], [".#."], ["s##"]], [["t#."], [".#."], ["s##"]], 0, 0),
]
BY_SEVERAL = [
    ([["s"]], [["s"]], 0),
    ([["##", "##"]], [["##", "##"]], 0),
    ([["###", "#.#", "###"]], [["###", "#.#", "###"]], 0),
    ([["##.", ".##"]], [["##.", ".##"]], 0),
    ([["b#b"]], [["b", "#", "b"]], 1),
    ([["##"]], [["#", "#"]], 1),
    ([["s#", "#s"]], [["#s", "s#"]], 1),
    ([["##", "##"], ["s.", ".s"]], [["##", "##"], [".s", "s."]], 1),
]
BY_NONE = [
    # One cell.
    ([["###", "#.#", "###"]], [["###", "###", "###"]]),
    ([["##", "#."]], [["##", "##"]]),
    ([["##", "##"], ["#.", ".."]], [["##", "##"], ["##", ".."]]),
    # One stud, one tube, one for the other.
    ([["##s"]], [["###"]]),
    ([["##s"]], [["s#s"]]),
    ([["t##"]], [["###"]]),
    ([["t##"]], [["b##"]]),
    ([["s##"]], [["b##"]]),
    ([["s##"]], [["t##"]]),
    ([["#s#"]], [["s##"]]),
    # The width alone, the depth alone, the height alone.
    ([["##"]], [["###"]]),
    ([["##", "##"]], [["###", "###"]]),
    ([["#", "#"]], [["#", "#", "#"]]),
    ([["#"]], [["#"], ["#"]]),
    ([["##"]], [["##"], ["##"]]),
    ([["##"], ["#."]], [["##"], ["#."], ["#."]]),
    # As many cells, lying otherwise.
    ([["##"]], [["#"], ["#"]]),
    ([["#", "#"]], [["#"], ["#"]]),
    ([["##"], ["#."]], [["##", "#."]]),
    ([["##", "##"]], [["####"]]),
    # One another's mirror image or upside down.
    ([["##.", ".##"]], [[".##", "##."]]),
    ([["#..", "###"]], [["..#", "###"]]),
    ([["#s", "tb"]], [["#t", "sb"]]),
    ([["##"], ["#."]], [["#."], ["##"]]),
    ([["##", "#."], [".#", ".."]], [["##", ".#"], ["#.", ".."]]),
]


def least(first, second):
    for r in range(4):
        if turned_layers(first, r) == second:
            return r
    return -3


class Alike(unittest.TestCase):
    def alike(self, i, j, text):
        return ask(self, alike, i, j, coded(text))

    def holds(self, first, second, wanted):
        self.assertEqual(wanted, least(first, second))
        self.assertEqual([wanted], self.alike(0, 1, part("a", first) + part("b", second)))
        self.assertEqual([wanted], self.alike(1, 0, part("a", second) + part("b", first)))

    def test_by_each_turn(self):
        for i in range(4):
            for j in range(4):
                self.assertEqual([(j - i) % 4], self.alike(i, j, CATALOGUE))

    def test_pairs_by_hand(self):
        for first, second, there, back in PAIRS_BY_HAND:
            self.holds(first, second, there)
            self.holds(second, first, back)

    def test_by_several(self):
        for first, second, wanted in BY_SEVERAL:
            self.holds(first, second, wanted)
            self.holds(second, first, wanted)

    def test_by_none(self):
        for first, second in BY_NONE:
            self.holds(first, second, -3)
            self.holds(second, first, -3)
        for i in range(4):
            self.assertEqual([-3], self.alike(i, 4, CATALOGUE))
            self.assertEqual([-3], self.alike(4, i, CATALOGUE))

    def test_names_and_weights_aside(self):
        for layers in BY_HAND:
            text = part("a", layers, 1) + part("b2345678", layers, 9999) + part("c", layers, 1)
            for i, j in itertools.product(range(3), repeat=2):
                self.assertEqual([0], self.alike(i, j, text))
        text = part("a", BY_HAND[0], 1) + part("b2345678", BY_HAND[3], 9999)
        self.assertEqual([3], self.alike(0, 1, text))

    def test_each_to_itself(self):
        for k in range(5):
            self.assertEqual([0], self.alike(k, k, CATALOGUE))
        for number, (first, second) in enumerate(BY_NONE):
            self.assertEqual([0], self.alike(0, 0, part("a", first) + part("b", second)), number)
            self.assertEqual([0], self.alike(1, 1, part("a", first) + part("b", second)), number)

    def test_every_pair_of_small_parts(self):
        """Each found as told, mutual, and going on from part to part."""
        layers = [each for width, depth in ((1, 1), (2, 1), (1, 2)) for each in right_layers(width, depth, 1)]
        layers += list(right_layers(2, 2, 1, ".#s"))
        alike_to = {}
        for i, first in enumerate(layers):
            alike_to[i] = []
            for j, second in enumerate(layers):
                given = alike(0, 1, coded(part("a", first) + part("b", second)))
                self.assertEqual([least(first, second)], given)
                if given != [-3]:
                    alike_to[i].append(j)
        self.assertEqual(84, len(layers))
        for i in alike_to:
            self.assertIn(i, alike_to[i])
            for j in alike_to[i]:
                self.assertEqual(alike_to[i], alike_to[j])

    def test_alike_to_what_turned_gives(self):
        for r in range(4):
            then = bytes(turned(0, r, coded(part("a", BY_HAND[0])))[1:]).decode("ascii")
            text = then + part("b", BY_HAND[0])
            self.assertEqual([r], self.alike(1, 0, text))
            self.assertEqual([-r % 4], self.alike(0, 1, text))

    def test_one_wide_and_one_deep(self):
        signs = "t##sb#tts##bst##"
        self.holds([[signs]], [list(signs)], 3)
        self.holds([[signs]], [[signs[::-1]]], 2)
        self.holds([[signs]], [list(signs[::-1])], 1)
        self.holds([["t"]] + [["#"]] * 16 + [["s"]], [["t"]] + [["#"]] * 16 + [["s"]], 0)
        self.holds([["t"]] + [["#"]] * 16 + [["s"]], [["t"]] + [["#"]] * 15 + [["s"]], -3)

    def test_largest(self):
        rows = ["#" * 16] * 16
        marked = [rows] * 17 + [rows[1:] + ["." + "#" * 14 + "s"]]
        other = [rows] * 17 + [rows[1:] + ["s" + "#" * 14 + "."]]
        for r in range(4):
            self.holds(marked, turned_layers(marked, r), r)
            self.holds(marked, turned_layers(other, r), -3)
        text = full_part("a", 16, 16, 18) + full_part("b", 16, 16, 17) + full_part("c", 16, 15, 18)
        self.assertEqual([0], self.alike(0, 0, text))
        self.assertEqual([-3], self.alike(0, 1, text))
        self.assertEqual([-3], self.alike(0, 2, text))

    def test_last_parts(self):
        text = chain(62) + part("b", [["#s"]]) + part("c", [["#", "s"]])
        self.assertEqual([3], self.alike(62, 63, text))
        self.assertEqual([1], self.alike(63, 62, text))
        self.assertEqual([0], self.alike(0, 61, text))
        self.assertEqual([-3], self.alike(0, 63, text))
        self.assertEqual([-4], self.alike(63, 64, text))
        self.assertEqual([-4], self.alike(64, 63, text))

    def test_no_such_part(self):
        for large in LARGE:
            self.assertEqual([-4], self.alike(large, 0, CATALOGUE))
            self.assertEqual([-4], self.alike(0, large, CATALOGUE))
            self.assertEqual([-4], self.alike(4, large, CATALOGUE))
            self.assertEqual([-4], self.alike(large, large, CATALOGUE))
        self.assertEqual([-4], self.alike(0, 1, part("a")))
        self.assertEqual([-4], self.alike(1, 0, part("a")))
        self.assertEqual([0], self.alike(0, 0, part("a")))

    def test_refused_texts(self):
        for i, j in ((0, 0), (0, 2), (2, 0), (2, 2), (LARGEST, LARGEST)):
            refuses_texts(self, alike, i, j)

    def test_part_looked_for_ahead_of_turns(self):
        unlike = part("a") + part("b", [["s"]])
        self.assertEqual([-3], self.alike(0, 1, unlike))
        self.assertEqual([-4], self.alike(0, 2, unlike))
        self.assertEqual([-4], self.alike(2, 1, unlike))


if __name__ == "__main__":
    unittest.main()
