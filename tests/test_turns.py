import itertools
import unittest

from helper import (
    BY_HAND, LARGEST, ask, chain, coded, full_part, part, pinwheel,
    refuses_texts, right_layers, small_parts, turned_layers,
)
from studtube.parts import turns

LARGE = (64, 65, 65536, 4294967296, LARGEST)

# As they were after one turn, after two, only after four.
ONE = [
    [["#"]], [["s"]], [["t"]], [["b"]],
    [["t"], ["#"], ["s"]],
    [["##", "##"]],
    [["###", "#.#", "###"]],
    [[".#.", "###", ".#."]],
    [["s#s", "#t#", "s#s"]],
    [["bb", "bb"]],
    [["#.##", "###.", ".###", "##.#"]],
    [["#s##", "###s", "s###", "##s#"]],
    [["#t##", "#..t", "t..#", "##t#"]],
    [["###", "###", "###"], [".#.", "###", ".#."], [".s.", "s.s", ".s."]],
]
TWO = [
    [["##"]], [["#", "#"]], [["b#b"]], [["t", "s", "t"]],
    [["###", "###"]],
    [["##.", ".##"]],
    [["##.", "###", ".##"]],
    [["s#", "#s"]], [["#t", "t#"]], [["b#", "#b"]],
    [["sb", "bs"]], [["tb", "bt"]], [["st", "ts"]],
    [["##"], ["##"], ["ss"]],
    [["##", "##"], ["s.", ".s"]],
    [["t#", "#t"], ["##", "##"]],
    [["##", "##"], ["##", "##"], ["s#", "#s"]],
    [["#.#", "###", "#.#"]],
    [["#s#", "###", "#s#"]],
]
FOUR = [
    [["#s"]], [["#", "s"]], [["#b"]], [["t", "#"]],
    [["##", "#."]],
    [["##s", "###"]],
    [["##", "##", "#t"]],
    [["###", ".#."]],
    [["#s", "##"]], [["##", "t#"]], [["##", "#b"]],
    [["s#", "#t"]], [["ss", "##"]], [["tb", "bb"]],
    [["sb", "bb"]], [["b#", "#s"]],
    [["##"], ["#."]],
    [["##", "##"], ["#.", ".."]],
    [["t#", "##"], ["##", "##"]],
    [["##", "##"], ["##", "##"], ["##", "#s"]],
    [["##", "##"], ["##", "##"], ["##", ".#"]],
    [["#.#", "###", "###"]],
    [["s##", "###", "##t"]],
    BY_HAND[0],
]


def different(layers):
    return len({str(turned_layers(layers, r)) for r in range(4)})


class Turns(unittest.TestCase):
    def turns(self, k, text):
        return ask(self, turns, k, coded(text))

    def holds(self, wanted, layers):
        """Of the part, and of each of its turned ones."""
        self.assertEqual(wanted, different(layers), layers)
        for r in range(4):
            self.assertEqual([wanted], self.turns(0, part("a", turned_layers(layers, r))), (layers, r))

    def test_one(self):
        for layers in ONE:
            self.holds(1, layers)

    def test_two(self):
        for layers in TWO:
            self.holds(2, layers)

    def test_four(self):
        for layers in FOUR:
            self.holds(4, layers)

    def test_pinwheels(self):
        for signs in itertools.product("#stb", repeat=4):
            self.holds(1, pinwheel(*signs))

    def test_mirror_image_does_not_count(self):
        self.holds(4, [["###", "#.."]])
        self.holds(4, [["s.s", "###", "#.#"]])
        self.holds(2, [["#.#", "###", "#.#"]])
        self.holds(4, [["s#", "##"]])
        self.holds(2, [["##.", ".##"]])

    def test_every_small_part(self):
        found = {1: 0, 2: 0, 4: 0}
        for layers in small_parts():
            self.assertEqual([different(layers)], turns(0, coded(part("a", layers))))
            found[different(layers)] += 1
        self.assertEqual(696, sum(found.values()))
        for count in found:
            self.assertGreater(found[count], 10)

    def test_every_flat_part_of_cells_alone(self):
        for width, depth in ((3, 3), (3, 2), (2, 3), (4, 2)):
            for layers in right_layers(width, depth, 1, ".#"):
                self.assertEqual([different(layers)], turns(0, coded(part("a", layers))))

    def test_each_part_of_several(self):
        every = [(1, layers) for layers in ONE] + [(2, layers) for layers in TWO] + [(4, layers) for layers in FOUR]
        every = every[::5] + every[1::5] + every[2::5] + every[3::5] + every[4::5]
        text = "".join(part("p%d" % (10 + number), layers) for number, (wanted, layers) in enumerate(every))
        for number, (wanted, layers) in enumerate(every):
            self.assertEqual([wanted], self.turns(number, text))
        self.assertEqual([-4], self.turns(len(every), text))

    def test_names_and_weights_change_nothing(self):
        for name, weight in (("a", 1), ("abcdefgh", 9999), ("q2w3e4r5", 10), ("part", 999)):
            self.assertEqual([1], self.turns(0, part(name, ONE[-1], weight)))
            self.assertEqual([2], self.turns(0, part(name, TWO[-1], weight)))
            self.assertEqual([4], self.turns(0, part(name, FOUR[-1], weight)))

    def test_one_wide_and_one_deep(self):
        for signs, wanted in (("t##sb##tt##bs##t", 2), ("t##sb##tt##bs##b", 4), ("#" * 16, 2), ("#" * 15 + "s", 4)):
            self.holds(wanted, [[signs]])
            self.holds(wanted, [list(signs)])
        self.holds(1, [["t"]] + [["#"]] * 16 + [["s"]])

    def test_largest(self):
        rows = ["#" * 16] * 16
        middle = "#" * 14
        self.assertEqual([1], self.turns(0, full_part("a", 16, 16, 18)))
        self.assertEqual([2], self.turns(0, full_part("a", 16, 15, 18)))
        self.assertEqual([2], self.turns(0, full_part("a", 15, 16, 18)))
        self.holds(4, [rows] * 17 + [rows[1:] + [middle + "#s"]])
        self.holds(4, [rows] * 17 + [["s" + middle + "s"] + rows[1:]])
        self.holds(2, [rows] * 17 + [["s" + middle + "#"] + rows[2:] + ["#" + middle + "s"]])
        self.holds(1, [rows] * 17 + [["s" + middle + "s"] + rows[2:] + ["s" + middle + "s"]])
        self.holds(4, [["#t" + middle] + rows[1:]] + [rows] * 17)
        self.holds(2, [["#t" + middle] + rows[2:] + [middle + "t#"]] + [rows] * 17)
        self.holds(4, [rows] * 17 + [["." + middle + "#"] + rows[1:]])

    def test_last_part(self):
        text = chain(62) + part("b", [["##"]]) + part("c", [["#s"]])
        self.assertEqual([1], self.turns(0, text))
        self.assertEqual([1], self.turns(61, text))
        self.assertEqual([2], self.turns(62, text))
        self.assertEqual([4], self.turns(63, text))
        for k in LARGE:
            self.assertEqual([-4], self.turns(k, text))

    def test_no_such_part(self):
        self.assertEqual([1], self.turns(0, part("a")))
        for k in (1, 2, 4) + LARGE:
            self.assertEqual([-4], self.turns(k, part("a")))

    def test_refused_texts(self):
        for k in (0, 1, 2, 64, LARGEST):
            refuses_texts(self, turns, k)


if __name__ == "__main__":
    unittest.main()
