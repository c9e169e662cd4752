import itertools
import unittest

from helper import (
    BY_HAND, LARGEST, NOT_RIGHT, NO_CATALOGUES, SIGNS, TOO_LONG, ask,
    chain, coded, full_part, part, refuses_texts, small_parts, turned_layers,
)
from studtube.parts import check, judge, place, size, turned

TEXTS = [
    "part hand 3 2 2 120\nt#.\n#b#\ns#t\n#..\n",
    "part hand 2 3 2 120\n.#\n#b\nt#\nt.\n#.\ns#\n",
    "part hand 3 2 2 120\n#b#\n.#t\n..#\nt#s\n",
    "part hand 2 3 2 120\n#t\nb#\n#.\n#s\n.#\n.t\n",
]
CATALOGUE = part("a", [["s"]], 7) + TEXTS[0] + part("long", [["t#sb#"]], 9999) + part("tall", [["t"], ["#"], ["s"]])
LARGE = (4, 5, 8, 65536, 4294967296, LARGEST)


def answer(text):
    return [len(text)] + coded(text)


class Turned(unittest.TestCase):
    def turned(self, k, r, text):
        return ask(self, turned, k, r, coded(text))

    def turn_once(self, text):
        """The text of a catalogue's one part, turned once."""
        given = turned(0, 1, coded(text))
        self.assertEqual(len(given) - 1, given[0])
        return bytes(given[1:]).decode("ascii")

    def is_text(self, text, given):
        # As bytes: where long lists differ, unittest is very long at showing how.
        self.assertEqual(len(text), given[0])
        self.assertEqual(text.encode("ascii"), bytes(given[1:]))

    def holds(self, name, layers, weight=1):
        """At each r; and that what's given is right, with as many cells, studs and tubes."""
        text = part(name, layers, weight)
        counts = [text.partition("\n")[2].count(sign) for sign in SIGNS[1:]]
        counts = [sum(counts), counts[1] + counts[3], counts[2] + counts[3]]
        for r in range(4):
            layers_then = turned_layers(layers, r)
            given = turned(0, r, coded(text))
            self.is_text(part(name, layers_then, weight), given)
            self.assertEqual([1], judge(given[1:]))
            self.assertEqual([0], check(given[1:]))
            measures = [len(layers_then[0][0]), len(layers_then[0]), len(layers), weight]
            self.assertEqual(measures + counts, size(0, given[1:]))

    def test_by_hand(self):
        for r in range(4):
            self.assertEqual(answer(TEXTS[r]), self.turned(0, r, TEXTS[0]))
            self.assertEqual(answer(TEXTS[r]), self.turned(1, r, CATALOGUE))

    def test_from_each_turn(self):
        for start in range(4):
            self.assertEqual(part("hand", BY_HAND[start], 120), TEXTS[start])
            for r in range(4):
                self.assertEqual(answer(TEXTS[(start + r) % 4]), self.turned(0, r, TEXTS[start]))

    def test_bytes_by_hand(self):
        # part x9 1 3 1 30, and three rows of one place.
        head = [112, 97, 114, 116, 32, 120, 57, 32, 49, 32, 51, 32, 49, 32, 51, 48, 10]
        self.assertEqual([23] + head + [98, 10, 115, 10, 35, 10], self.turned(0, 1, "part x9 3 1 1 30\n#sb\n"))
        self.assertEqual([23] + head + [35, 10, 115, 10, 98, 10], self.turned(0, 3, "part x9 3 1 1 30\n#sb\n"))

    def test_each_part_of_several(self):
        for r in range(4):
            self.assertEqual(answer("part a 1 1 1 7\ns\n"), self.turned(0, r, CATALOGUE))
            self.assertEqual(answer("part tall 1 1 3 1\nt\n#\ns\n"), self.turned(3, r, CATALOGUE))
        self.assertEqual(answer("part long 5 1 1 9999\nt#sb#\n"), self.turned(2, 0, CATALOGUE))
        self.assertEqual(answer("part long 1 5 1 9999\n#\nb\ns\n#\nt\n"), self.turned(2, 1, CATALOGUE))
        self.assertEqual(answer("part long 5 1 1 9999\n#bs#t\n"), self.turned(2, 2, CATALOGUE))
        self.assertEqual(answer("part long 1 5 1 9999\nt\n#\ns\nb\n#\n"), self.turned(2, 3, CATALOGUE))

    def test_names_and_weights_stay(self):
        for name in ("a", "z", "abcdefgh", "q2w3e4r5", "part"):
            for weight in (1, 9, 10, 99, 100, 999, 1000, 9999):
                self.holds(name, [["t#."], ["s##"]], weight)

    def test_every_small_part(self):
        found = 0
        for layers in small_parts():
            self.holds("a", layers)
            found += 1
        self.assertEqual(696, found)

    def test_four_turns_one_after_another(self):
        for text in (TEXTS[0], part("a", [["t#sb#"]]), full_part("b", 3, 4, 5, 60), part("c", [["##.", ".#s", ".tb"]])):
            self.assertEqual(answer(text), self.turned(0, 0, text))
            once = self.turn_once(text)
            twice = self.turn_once(once)
            thrice = self.turn_once(twice)
            self.assertEqual(text, self.turn_once(thrice))
            self.assertEqual(answer(once), self.turned(0, 1, text))
            self.assertEqual(answer(twice), self.turned(0, 2, text))
            self.assertEqual(answer(thrice), self.turned(0, 3, text))

    def test_tells_what_place_tells(self):
        for r in range(4):
            then = turned(0, r, coded(TEXTS[0]))[1:]
            for x, y, z in itertools.product(range(4), repeat=3):
                self.assertEqual(place(0, r, x, y, z, coded(TEXTS[0])), place(0, 0, x, y, z, then))

    def test_one_wide_one_deep_one_cell(self):
        for sign in "#stb":
            self.holds("a", [[sign]])
        self.holds("a", [["t#."], ["#.t"], ["s#s"]])
        self.holds("a", [["t", "#", "."], ["#", ".", "t"], ["s", "#", "s"]])
        self.holds("a", [["t##sb#tts##bst##"]])
        self.holds("a", [list("t##sb#tts##bst##")])
        self.holds("a", [["t"]] + [["#"]] * 16 + [["s"]])

    def test_largest(self):
        rows = ["#" * 16] * 16
        first = ["t" + "#" * 15] + rows[1:]
        last = rows[2:] + ["." * 7 + "s" * 9, "##ss" * 4]
        self.holds("abcdefgh", [first] + [rows] * 16 + [last], 9999)
        text = full_part("abcdefgh", 16, 16, 18, 9999)
        for r in range(4):
            self.is_text(text, turned(0, r, coded(text)))

    def test_gives_one_part_alone(self):
        text = chain(63) + part("b", [["#s"]], 5)
        self.assertEqual(answer("part b 1 2 1 5\ns\n#\n"), self.turned(63, 1, text))
        self.assertEqual(answer("part a72 1 1 1 1\n#\n"), self.turned(62, 1, text))
        self.assertEqual([-4], self.turned(64, 1, text))

    def test_no_such_turn(self):
        self.assertEqual(answer(TEXTS[3]), self.turned(1, 3, CATALOGUE))
        for r in LARGE:
            self.assertEqual([-1], self.turned(1, r, CATALOGUE))

    def test_no_such_part(self):
        for k in LARGE:
            for r in range(4):
                self.assertEqual([-4], self.turned(k, r, CATALOGUE))
        self.assertEqual([-4], self.turned(1, 0, part("a")))

    def test_refused_texts(self):
        for k in (0, 4, LARGEST):
            for r in range(4):
                refuses_texts(self, turned, k, r)

    def test_turn_refused_first(self):
        for k in (0, 4, LARGEST):
            for r in (4, LARGEST):
                self.assertEqual([-1], turned(k, r, TOO_LONG))
                for text in NO_CATALOGUES + NOT_RIGHT + [CATALOGUE]:
                    self.assertEqual([-1], self.turned(k, r, text))


if __name__ == "__main__":
    unittest.main()
