import unittest

from helper import NOUGHTS, ONES, ask, no_rows, one_at, ones_in, rows_of, turned_layers
from studtube.parts import turn16

PICTURE = [
    "################",
    "#...............",
    "#...............",
    "#.....#.........",
    "#.....##........",
    "#.....###.......",
    "#.....####......",
    "#...............",
    "########........",
    "#...............",
    "#...............",
    "#...........##..",
    "#..............#",
    "#...............",
    "#...............",
    "................",
]
TURNED = [
    "#...........#...",
    "#...............",
    "#..........#....",
    "#..........#....",
    "#...............",
    "#...............",
    "#.....#.........",
    "#....##.........",
    "#...###.#.......",
    "#..####.#.......",
    "#.......#.......",
    "#.......#.......",
    "#.......#.......",
    "#.......#.......",
    "#.......#.......",
    "###############.",
]

# Rows and what they are turned clockwise, number by number.
BY_HAND = [
    (NOUGHTS, NOUGHTS),
    (ONES, ONES),
    # The corners.
    ([1] + [0] * 15, [0] * 15 + [1]),
    ([0] * 15 + [1], [0] * 15 + [32768]),
    ([0] * 15 + [32768], [32768] + [0] * 15),
    ([32768] + [0] * 15, [1] + [0] * 15),
    # A whole row, a whole column.
    ([65535] + [0] * 15, [1] * 16),
    ([1] * 16, [0] * 15 + [65535]),
    ([0] * 15 + [65535], [32768] * 16),
    ([32768] * 16, [65535] + [0] * 15),
    ([0, 0, 0, 65535] + [0] * 12, [8] * 16),
    # Steps and half planes.
    ([1, 3, 7, 15] + [0] * 12, [0] * 12 + [8, 12, 14, 15]),
    ([255] * 16, [0] * 8 + [65535] * 8),
    ([65535] * 8 + [0] * 8, [255] * 16),
    # From corner to corner.
    ([1 << y for y in range(16)], [32768 >> y for y in range(16)]),
    ([32768 >> y for y in range(16)], [1 << y for y in range(16)]),
    # Every other place.
    ([21845, 43690] * 8, [43690, 21845] * 8),
    (rows_of(PICTURE), rows_of(TURNED)),
]


class Turn16(unittest.TestCase):
    def turn16(self, rows):
        return ask(self, turn16, rows)

    def every(self):
        """Rows of many kinds."""
        return [rows for pair in BY_HAND for rows in pair] + [
            list(range(16)), list(range(65520, 65536)), [y * 4369 for y in range(16)],
            [1 << 15 - y | y for y in range(16)], [(y * y * 7919 + 13 * y) % 65536 for y in range(16)],
        ]

    def test_by_hand(self):
        for rows, wanted in BY_HAND:
            self.assertEqual(wanted, self.turn16(rows), rows)

    def test_each_place_by_itself(self):
        for y in range(16):
            for x in range(16):
                self.assertEqual(one_at(y, 15 - x), self.turn16(one_at(x, y)), (x, y))

    def test_all_places_but_one(self):
        for y in range(16):
            for x in range(16):
                given = [65535 - row for row in one_at(x, y)]
                self.assertEqual([65535 - row for row in one_at(y, 15 - x)], self.turn16(given), (x, y))

    def test_turned_as_a_picture_is(self):
        for rows in self.every():
            picture = ["".join("#" if row >> x & 1 else "." for x in range(16)) for row in rows]
            self.assertEqual(rows, rows_of(picture))
            self.assertEqual(rows_of(turned_layers([picture])[0]), self.turn16(rows))

    def test_four_turns_give_the_rows_again(self):
        for rows in self.every():
            turned = [rows]
            for _ in range(4):
                turned.append(self.turn16(turned[-1]))
            self.assertEqual(rows, turned[4])
            self.assertEqual([sum(1 << 15 - x for x in range(16) if row >> x & 1) for row in rows[::-1]], turned[2])

    def test_as_many_ones(self):
        for rows in self.every():
            self.assertEqual(ones_in(rows), ones_in(self.turn16(rows)))

    def test_sixteen_numbers_without_their_count(self):
        for rows in self.every():
            given = self.turn16(rows)
            self.assertEqual(16, len(given))
            self.assertTrue(all(0 <= row <= 65535 for row in given))

    def test_largest_number_in_each_row(self):
        for y in range(16):
            rows = [65535 if row == y else 0 for row in range(16)]
            self.assertEqual([1 << y] * 16, self.turn16(rows))

    def test_no_rows(self):
        for rows in no_rows():
            self.assertEqual([-1], self.turn16(rows), rows)

    def test_too_many_or_too_few_of_good_rows(self):
        for length in (0, 1, 14, 15, 17, 18, 64):
            self.assertEqual([-1], self.turn16((rows_of(PICTURE) * 4)[:length]))


if __name__ == "__main__":
    unittest.main()
