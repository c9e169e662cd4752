import unittest

from helper import LARGEST, NOUGHTS, ONES, ask, no_rows, one_at, ones_in, rows_of
from studtube.parts import fits16

EMPTY = ["................"]
HOOK = rows_of(["#...", "#...", "##.."] + EMPTY * 13)
HOOK_THERE = rows_of(EMPTY * 2 + ["...#", "...#", "...##"] + EMPTY * 11)
FRAME = rows_of(["#" * 16] + ["#" + "." * 14 + "#"] * 14 + ["#" * 16])
EVERY_OTHER = [21845, 43690] * 8
LAST_PLACE = [0] * 15 + [32768]
FIRST_PLACE = [1] + [0] * 15

# dx, dy, s, t and how many places.
BY_HAND = [
    (0, 0, NOUGHTS, NOUGHTS, 0),
    (0, 0, ONES, NOUGHTS, 0),
    (0, 0, NOUGHTS, ONES, 0),
    (0, 0, ONES, ONES, 256),
    (0, 0, HOOK, HOOK, 4),
    (0, 0, HOOK, ONES, 4),
    (0, 0, ONES, HOOK, 4),
    (0, 0, FRAME, FRAME, 60),
    # The hook to the one that lies 3 to the right and 2 to the back.
    (3, 2, HOOK, HOOK_THERE, 4),
    (0, 0, HOOK, HOOK_THERE, 0),
    (4, 2, HOOK, HOOK_THERE, 1),
    (3, 3, HOOK, HOOK_THERE, 2),
    (2, 2, HOOK, HOOK_THERE, 1),
    (3, 1, HOOK, HOOK_THERE, 2),
    (4, 3, HOOK, HOOK_THERE, 1),
    (3, 4, HOOK, HOOK_THERE, 1),
    (4, 4, HOOK, HOOK_THERE, 1),
    (2, 3, HOOK, HOOK_THERE, 0),
    (2, 1, HOOK, HOOK_THERE, 1),
    (2, 0, HOOK, HOOK_THERE, 1),
    (3, 0, HOOK, HOOK_THERE, 1),
    (4, 0, HOOK, HOOK_THERE, 0),
    (2, 3, HOOK_THERE, HOOK, 0),
    (3, 2, HOOK_THERE, HOOK, 0),
    (13, 14, HOOK_THERE, HOOK, 0),
    # Some of the ones go beyond the last row or the last place of a row.
    (14, 0, HOOK, ONES, 4),
    (15, 0, HOOK, ONES, 3),
    (0, 13, HOOK, ONES, 4),
    (0, 14, HOOK, ONES, 2),
    (0, 15, HOOK, ONES, 1),
    (15, 13, HOOK, ONES, 3),
    (14, 15, HOOK, ONES, 1),
    (15, 15, HOOK, ONES, 1),
    (1, 0, ONES, HOOK, 1),
    (0, 1, ONES, HOOK, 3),
    (0, 2, ONES, HOOK, 2),
    (1, 2, ONES, HOOK, 1),
    (0, 3, ONES, HOOK, 0),
    (2, 0, ONES, HOOK, 0),
    # From corner to corner.
    (15, 15, FIRST_PLACE, LAST_PLACE, 1),
    (15, 15, LAST_PLACE, FIRST_PLACE, 0),
    (1, 1, LAST_PLACE, FIRST_PLACE, 0),
    (1, 0, [32768] * 16, [1] * 16, 0),
    (0, 1, [0] * 15 + [65535], [65535] + [0] * 15, 0),
    (1, 0, [32768] * 16, [0] + [1] * 15, 0),
    # Rows and columns.
    (0, 5, [65535] + [0] * 15, [0] * 5 + [65535] + [0] * 10, 16),
    (5, 5, [65535] + [0] * 15, [0] * 5 + [65535] + [0] * 10, 11),
    (5, 0, [1] * 16, [32] * 16, 16),
    (5, 5, [1] * 16, [32] * 16, 11),
    (5, 4, [65535] + [0] * 15, [0] * 5 + [65535] + [0] * 10, 0),
    # Every other place.
    (0, 0, EVERY_OTHER, EVERY_OTHER, 128),
    (1, 0, EVERY_OTHER, EVERY_OTHER, 0),
    (0, 1, EVERY_OTHER, EVERY_OTHER, 0),
    (1, 1, EVERY_OTHER, EVERY_OTHER, 113),
    (2, 0, EVERY_OTHER, EVERY_OTHER, 112),
    (15, 15, FRAME, FRAME, 1),
    (15, 0, FRAME, FRAME, 16),
]
ROWS = [
    HOOK, HOOK_THERE, FRAME, EVERY_OTHER, [1 << y for y in range(16)], list(range(65520, 65536)),
    [(y * y * 7919 + 13 * y) % 65536 for y in range(16)], [(y * 40503 + 11) % 65536 for y in range(16)],
]


def places(rows):
    return {(x, y) for y, row in enumerate(rows) for x in range(16) if row >> x & 1}


def met(a, b, s, t):
    return len({(x + a, y + b) for x, y in places(s)} & places(t))


class Fits16(unittest.TestCase):
    def fits16(self, dx, dy, s, t):
        return ask(self, fits16, dx, dy, s, t)

    def test_by_hand(self):
        for dx, dy, s, t, wanted in BY_HAND:
            self.assertEqual([wanted], self.fits16(dx, dy, s, t), (dx, dy, s, t))

    def test_ones_at_every_shift(self):
        for a in range(16):
            for b in range(16):
                self.assertEqual([(16 - a) * (16 - b)], self.fits16(a, b, ONES, ONES))
                self.assertEqual([0], self.fits16(a, b, NOUGHTS, ONES))
                self.assertEqual([0], self.fits16(a, b, ONES, NOUGHTS))

    def test_one_place_to_each_other(self):
        """By the shift that takes one to the other, or by what's left of it where that would go round the end."""
        for first in range(256):
            x, y = first % 16, first // 16
            s = one_at(x, y)
            for second in range(256):
                u, v = second % 16, second // 16
                wanted = 1 if u >= x and v >= y else 0
                self.assertEqual([wanted], fits16((u - x) % 16, (v - y) % 16, s, one_at(u, v)), (x, y, u, v))

    def test_one_place_to_all_but_the_one_it_goes_to(self):
        for first in range(256):
            x, y = first % 16, first // 16
            s = one_at(x, y)
            for a in range(16 - x):
                for b in range(16 - y):
                    t = [65535 - row for row in one_at(x + a, y + b)]
                    self.assertEqual([0], fits16(a, b, s, t), (x, y, a, b))

    def test_one_place_by_every_other_shift(self):
        for x, y, u, v in ((0, 0, 15, 15), (3, 5, 3, 5), (3, 5, 9, 6), (15, 15, 0, 0), (15, 0, 0, 15), (0, 7, 8, 15)):
            for a in range(16):
                for b in range(16):
                    wanted = 1 if (x + a, y + b) == (u, v) else 0
                    self.assertEqual([wanted], self.fits16(a, b, one_at(x, y), one_at(u, v)))

    def test_every_shift_of_rows_of_many_kinds(self):
        for s in ROWS:
            for t in ROWS:
                for a in range(16):
                    for b in (range(16) if a < 2 else (0, 1, 6, 15)):
                        self.assertEqual([met(a, b, s, t)], fits16(a, b, s, t), (a, b, s, t))

    def test_the_other_way_round(self):
        self.assertEqual([1], self.fits16(2, 2, FIRST_PLACE, one_at(2, 2)))
        self.assertEqual([0], self.fits16(2, 2, one_at(2, 2), FIRST_PLACE))
        self.assertEqual([1], self.fits16(1, 4, one_at(3, 7), one_at(4, 11)))
        self.assertEqual([0], self.fits16(4, 1, one_at(3, 7), one_at(4, 11)))
        self.assertEqual([0], self.fits16(1, 4, one_at(4, 11), one_at(3, 7)))
        for s in ROWS:
            for t in ROWS:
                self.assertEqual(fits16(0, 0, s, t), fits16(0, 0, t, s))
            self.assertEqual([ones_in(s)], self.fits16(0, 0, s, s))

    def test_what_is_left_of_shifts(self):
        large = (0, 1, 14, 15, 16, 17, 30, 31, 32, 33, 255, 256, 65535, 4294967295, 4294967296, LARGEST - 15, LARGEST)
        self.assertEqual(15, LARGEST % 16)
        for dx in large:
            for dy in large:
                self.assertEqual([(16 - dx % 16) * (16 - dy % 16)], self.fits16(dx, dy, ONES, ONES))
                self.assertEqual([met(dx % 16, dy % 16, HOOK, FRAME)], self.fits16(dx, dy, HOOK, FRAME))
        self.assertEqual([1], self.fits16(LARGEST, LARGEST, FIRST_PLACE, LAST_PLACE))
        self.assertEqual([4], self.fits16(16, 16, HOOK, HOOK))
        self.assertEqual([4], self.fits16(19, 34, HOOK, HOOK_THERE))
        self.assertEqual([0], self.fits16(17, 31, LAST_PLACE, FIRST_PLACE))

    def test_largest_number_in_each_row(self):
        for y in range(16):
            rows = [65535 if row == y else 0 for row in range(16)]
            self.assertEqual([16], self.fits16(0, 0, rows, ONES))
            self.assertEqual([16], self.fits16(0, 0, ONES, rows))
            self.assertEqual([1], self.fits16(15, 0, rows, ONES))
            self.assertEqual([16], self.fits16(0, 15 - y, rows, ONES))
            self.assertEqual([16 if y < 15 else 0], self.fits16(0, 1, rows, ONES))
            self.assertEqual([16 if y > 0 else 0], self.fits16(0, 1, ONES, rows))

    def test_no_rows(self):
        """The first list is wrong, the second one, both; where the shift leaves the wrong row out, too."""
        for rows in no_rows():
            for dx, dy in ((0, 0), (15, 15), (16, 31), (LARGEST, LARGEST)):
                self.assertEqual([-1], fits16(dx, dy, rows, HOOK), rows)
                self.assertEqual([-1], fits16(dx, dy, HOOK, rows), rows)
                self.assertEqual([-1], fits16(dx, dy, rows, rows), rows)
            self.assertEqual([-1], self.fits16(1, 2, rows, NOUGHTS))
            self.assertEqual([-1], self.fits16(1, 2, NOUGHTS, rows))

    def test_one_list_too_long_and_the_other_too_large(self):
        for wrong in ([], [0] * 15, [0] * 17, [65535] * 64):
            for other in ([65536] + [0] * 15, [0] * 15 + [4294967295], [], [4294967295] * 64):
                self.assertEqual([-1], self.fits16(0, 0, wrong, other))
                self.assertEqual([-1], self.fits16(0, 0, other, wrong))


if __name__ == "__main__":
    unittest.main()
