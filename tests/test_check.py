import itertools
import unittest

from helper import SIGNS, TOO_LONG, ask, box, chain, coded, full_part, least_point, part
from studtube.parts import check

COVERED = [["s"], ["#"]]
STOPPED = [["#"], ["t"]]
TOO_WIDE = [["#."]]
APART = [["#.#"]]


class Check(unittest.TestCase):
    def check(self, text):
        return ask(self, check, coded(text))

    def assert_wrong(self, point, number, text):
        self.assertEqual([-8, point, number], self.check(text), text)

    def assert_all_boxes(self, width, depth, height, signs):
        for chosen in itertools.product(signs, repeat=width * depth * height):
            point = least_point(width, depth, height, chosen)
            wanted = [-8, point, 0] if point else [0]
            text = box("a", width, depth, height, "".join(chosen))
            self.assertEqual(wanted, check(coded(text)), text)

    def test_right(self):
        for sign in "#stb":
            self.assertEqual([0], self.check(part("a", [[sign]])))
        self.assertEqual([0], self.check("part brick24 2 3 2 232\ntt\nt.\ntt\nss\ns.\nss\n"))
        self.assertEqual([0], self.check(part("a") + part("b", [["tt"], ["#s"]])))
        self.assertEqual([0], self.check(full_part("a", 16, 16, 18, 9999)))
        for count in (1, 2, 3, 63, 64):
            self.assertEqual([0], self.check(chain(count)))

    def test_stud_below_a_cell(self):
        for below in "sb":
            self.assert_wrong(1, 0, part("a", [[below], ["#"]]))
            self.assert_wrong(1, 0, part("a", [["##"], [below + "#"], ["##"]]))
        self.assert_wrong(1, 0, part("a", [["##", "##"], ["##", "#s"], ["##", "##"]]))
        self.assertEqual([0], self.check(part("a", [["s#"], [".#"], ["##"]])))
        self.assertEqual([0], self.check(part("a", [["#s"], ["s."]])))

    def test_tube_above_a_cell(self):
        for above in "tb":
            self.assert_wrong(2, 0, part("a", [["#"], [above]]))
            self.assert_wrong(2, 0, part("a", [["##"], ["#" + above], ["#."]]))
        self.assertEqual([0], self.check(part("a", [["##"], [".#"], ["t#"]])))
        self.assertEqual([0], self.check(part("a", [["t"], ["s"]])))

    def test_side_without_a_cell(self):
        self.assert_wrong(3, 0, part("a", [[".#"]]))
        self.assert_wrong(3, 0, part("a", [["#."]]))
        self.assert_wrong(3, 0, part("a", [[".", "#"]]))
        self.assert_wrong(3, 0, part("a", [["#", "."]]))
        self.assert_wrong(3, 0, part("a", [["."], ["#"]]))
        self.assert_wrong(3, 0, part("a", [["#"], ["."]]))
        self.assert_wrong(3, 0, part("a", [["." * 15 + "#"] * 16] * 18))
        self.assertEqual([0], self.check(part("a", [["#.", "##"]])))
        self.assertEqual([0], self.check(part("a", [[".#.", "###", ".#."]])))

    def test_no_cell_at_all(self):
        self.assert_wrong(3, 0, part("a", [["."]]))
        self.assert_wrong(3, 0, part("a", [["..", ".."], ["..", ".."]]))
        self.assert_wrong(3, 1, part("a") + part("b", [["."]]))

    def test_cells_apart(self):
        self.assert_wrong(4, 0, part("a", [["#.#"]]))
        self.assert_wrong(4, 0, part("a", [["#", ".", "#"]]))
        self.assert_wrong(4, 0, part("a", [["#"], ["."], ["#"]]))

    def test_cells_that_share_an_edge_or_a_corner_alone(self):
        self.assert_wrong(4, 0, part("a", [["#.", ".#"]]))
        self.assert_wrong(4, 0, part("a", [[".#", "#."]]))
        self.assert_wrong(4, 0, part("a", [["#."], [".#"]]))
        self.assert_wrong(4, 0, part("a", [["#", "."], [".", "#"]]))
        self.assert_wrong(4, 0, part("a", [["#.", ".."], ["..", ".#"]]))
        self.assert_wrong(4, 0, part("a", [["##.", "##.", "..#"]]))

    def test_rows_end_where_the_part_ends(self):
        self.assert_wrong(4, 0, part("a", [["..#", "#.."]]))
        self.assert_wrong(4, 0, part("a", [["##", "..", ".."], ["..", "..", "##"]]))

    def test_long_way_from_cell_to_cell(self):
        snake = ["#" * 16, "." * 15 + "#", "#" * 16, "#" + "." * 15] * 4
        self.assertEqual([0], self.check(part("a", [snake])))
        self.assertEqual([0], self.check(part("a", [snake, ["#" + "." * 15] + ["." * 16] * 15] * 9)))
        broken = list(snake)
        broken[7] = "." * 16
        self.assert_wrong(4, 0, part("a", [broken]))

    def test_least_point_of_a_part(self):
        self.assert_wrong(1, 0, part("a", [["#"], ["t"], ["s"], ["#"]]))
        self.assert_wrong(1, 0, part("a", [["s"], ["t"]]))
        self.assert_wrong(1, 0, part("a", [["s."], ["#."]]))
        self.assert_wrong(1, 0, part("a", [["s.#"], ["#.."]]))
        self.assert_wrong(2, 0, part("a", [["#."], ["t."]]))
        self.assert_wrong(2, 0, part("a", [["#.#"], ["t.."]]))
        self.assert_wrong(3, 0, part("a", [["#.#."]]))
        ahead = part("b")
        self.assert_wrong(1, 1, ahead + part("a", COVERED))
        self.assert_wrong(2, 1, ahead + part("a", STOPPED))
        self.assert_wrong(3, 1, ahead + part("b", TOO_WIDE))
        self.assert_wrong(4, 1, ahead + part("b", APART))

    def test_first_part_that_is_wrong(self):
        wrong = {1: COVERED, 2: STOPPED, 3: TOO_WIDE, 4: APART}
        for first, second in itertools.product(wrong, repeat=2):
            text = part("a") + part("b", wrong[first]) + part("c", wrong[second])
            self.assert_wrong(first, 1, text)
        for point in wrong:
            self.assert_wrong(point, 0, part("b", wrong[point]) + part("a"))
            self.assert_wrong(5, 1, part("b") + part("a") + part("c", wrong[point]))
            self.assert_wrong(point, 64 - 1, chain(63) + part("b", wrong[point]))

    def test_names_in_order(self):
        names = ["a", "a0", "a00", "a1", "a10", "a9", "aa", "aaaaaaaa", "ab", "b", "b2", "z", "zzzzzzzz"]
        self.assertEqual([0], self.check("".join(part(name) for name in names)))
        for first, second in itertools.product(enumerate(names), repeat=2):
            wanted = [0] if first[0] < second[0] else [-8, 5, 1]
            self.assertEqual(wanted, self.check(part(first[1]) + part(second[1])), (first, second))

    def test_names_out_of_order(self):
        self.assert_wrong(5, 1, part("a") + part("a"))
        self.assert_wrong(5, 1, part("b") + part("a"))
        self.assert_wrong(5, 1, part("ab") + part("a"))
        self.assert_wrong(5, 2, part("a") + part("c") + part("b"))
        self.assert_wrong(5, 2, part("b") + part("c") + part("a"))
        self.assert_wrong(5, 1, part("c") + part("b") + part("a"))
        self.assert_wrong(5, 63, chain(63) + part("a"))

    def test_all_small_boxes(self):
        self.assert_all_boxes(1, 1, 4, SIGNS)
        self.assert_all_boxes(2, 1, 2, SIGNS)
        self.assert_all_boxes(1, 2, 2, SIGNS)
        self.assert_all_boxes(2, 2, 1, SIGNS)
        self.assert_all_boxes(2, 2, 2, ".#")
        self.assert_all_boxes(3, 3, 1, ".#")
        self.assert_all_boxes(3, 1, 3, ".#")
        self.assert_all_boxes(1, 3, 3, ".#")

    def test_no_catalogue(self):
        self.assertEqual([-6], self.check(""))
        self.assertEqual([-6], self.check("part a 1 1 1 1\n#"))
        self.assertEqual([-6], self.check(part("a") + "\n"))
        self.assertEqual([-6], self.check(chain(65)))

    def test_no_catalogue_is_told_ahead_of_not_right(self):
        self.assertEqual([-6], self.check(part("a", COVERED) + "x"))
        self.assertEqual([-6], self.check(part("b") + part("a") + "part"))

    def test_longest_text(self):
        self.assertEqual([-6], check([0] * 1048576))
        self.assertEqual([-2], check([0] * 1048577))
        self.assertEqual([-2], check(TOO_LONG))


if __name__ == "__main__":
    unittest.main()
