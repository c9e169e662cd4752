import unittest

from helper import ask, box, chain, coded, full_part, header, judged, part
from studtube.parts import judge


class Judge(unittest.TestCase):
    def judge(self, text):
        return ask(self, judge, coded(text))

    def assert_fault(self, good, rest):
        """Of good and rest, good is as much as a catalogue's text begins with."""
        self.assertEqual([-6, len(good)], self.judge(good + rest), (good, rest))

    def test_counts_the_parts(self):
        self.assertEqual([1], self.judge("part a 1 1 1 1\n#\n"))
        self.assertEqual([1], self.judge("part brick24 2 3 2 232\ntt\nt.\ntt\nss\n.s\nss\n"))
        self.assertEqual([2], self.judge("part a 1 1 1 1\nb\npart b 2 1 1 10\n#s\n"))
        for count in (1, 2, 3, 63, 64):
            self.assertEqual([count], self.judge(chain(count)))

    def test_takes_the_least_and_the_most(self):
        self.assertEqual([1], self.judge(full_part("z", 1, 1, 1, 1)))
        self.assertEqual([1], self.judge(full_part("z9999999", 16, 16, 18, 9999)))
        self.assertEqual([1], self.judge(full_part("a0", 16, 1, 1, 10)))
        self.assertEqual([1], self.judge(full_part("az", 1, 16, 18, 1000)))
        self.assertEqual([20], self.judge(full_part("a", 16, 16, 18) * 20))

    def test_takes_each_number_within_its_bounds(self):
        for number in range(1, 17):
            self.assertEqual([1], self.judge(full_part("a", number, 1, 1)))
            self.assertEqual([1], self.judge(full_part("a", 1, number, 1)))
        for number in range(1, 19):
            self.assertEqual([1], self.judge(full_part("a", 1, 1, number)))
        for number in range(1, 10000):
            self.assertEqual([1], judge(coded(full_part("a", 1, 1, 1, number))))

    def test_takes_catalogues_that_are_not_right(self):
        self.assertEqual([1], self.judge(box("a", 1, 1, 2, "sb")))
        self.assertEqual([1], self.judge(box("a", 3, 1, 1, "...")))
        self.assertEqual([1], self.judge(box("a", 3, 1, 1, "#.#")))
        self.assertEqual([3], self.judge(part("b") + part("a") + part("a")))

    def test_empty_text(self):
        self.assert_fault("", "")

    def test_cut_off_at_each_place(self):
        first = "part ab 2 1 2 16\n#.\nst\n"
        text = first + "part c1d2e3f4 1 2 1 9999\nb\n.\n"
        for end in range(len(text)):
            if end == len(first):
                self.assertEqual([1], self.judge(text[:end]))
            else:
                self.assert_fault(text[:end], "")

    def test_too_much_behind_the_last_part(self):
        for rest in ("\n", " ", "#", "0", "\0", "xpart "):
            self.assert_fault(part(), rest)
            self.assert_fault(chain(3), rest)
            self.assert_fault(chain(64), rest)
        self.assert_fault(part() + "p", "")
        self.assert_fault(part() + "p", "p")

    def test_sixty_fifth_part(self):
        self.assert_fault(chain(64), "p")
        self.assert_fault(chain(64), part("b"))
        self.assert_fault(chain(63) + "part ", "")

    def test_word_part(self):
        self.assert_fault("", "Part a 1 1 1 1\n#\n")
        self.assert_fault("", " part a 1 1 1 1\n#\n")
        self.assert_fault("", "\n")
        self.assert_fault("par", "d a 1 1 1 1\n#\n")
        self.assert_fault("part", "s a 1 1 1 1\n#\n")
        self.assert_fault("part", "\na 1 1 1 1\n#\n")
        self.assert_fault(part() + "pa", "st b 1 1 1 1\n#\n")

    def test_name(self):
        rest = " 1 1 1 1\n#\n"
        for name in ("a", "z", "a0", "z9", "abcdefgh", "a1234567"):
            self.assertEqual([1], self.judge("part " + name + rest))
        self.assert_fault("part ", rest)
        self.assert_fault("part abcdefgh", "i" + rest)
        self.assert_fault("part abcdefgh", "9" + rest)
        for digit in "0123456789":
            self.assert_fault("part ", digit + "a" + rest)
        for byte in "A`{/:_-\n\0\xe9\xff":
            self.assert_fault("part ", byte + rest)
            self.assert_fault("part a", byte + rest)
        self.assert_fault("part a", "\n")

    def test_width_and_depth(self):
        for ahead in ("part a ", "part a 3 "):
            self.assert_fault(ahead, "0 1 1 1\n")
            self.assert_fault(ahead + "1", "7 1 1 1\n")
            self.assert_fault(ahead + "2", "0 1 1 1\n")
            self.assert_fault(ahead + "10", "0 1 1 1\n")
            self.assert_fault(ahead + "16", "0 1 1 1\n")
            self.assert_fault(ahead, "01 1 1 1\n")
            self.assert_fault(ahead, "016 1 1 1\n")
            self.assert_fault(ahead, " 1 1 1\n")
            self.assert_fault(ahead, "-1 1 1 1\n")
            self.assert_fault(ahead, "+1 1 1 1\n")
            self.assert_fault(ahead, "a 1 1 1\n")
            self.assert_fault(ahead + "1", "a 1 1 1\n")
            self.assert_fault(ahead + "1", "\n")

    def test_height(self):
        ahead = "part a 3 4 "
        self.assert_fault(ahead, "0 1\n")
        self.assert_fault(ahead + "1", "9 1\n")
        self.assert_fault(ahead + "2", "0 1\n")
        self.assert_fault(ahead + "18", "0 1\n")
        self.assert_fault(ahead, "01 1\n")
        self.assert_fault(ahead + "18", "\n")

    def test_weight(self):
        ahead = "part a 3 4 18 "
        self.assert_fault(ahead, "0\n")
        self.assert_fault(ahead, "00\n")
        self.assert_fault(ahead, "01\n")
        self.assert_fault(ahead, "09999\n")
        self.assert_fault(ahead + "1000", "0\n")
        self.assert_fault(ahead + "9999", "0\n")
        self.assert_fault(ahead, "\n")
        self.assert_fault(ahead + "5", " \n")
        self.assert_fault(ahead + "5", "\r\n")
        self.assert_fault(ahead + "5", "#")

    def test_more_than_one_blank(self):
        words = ["part", "a", "1", "1", "1", "1"]
        for count in range(1, 6):
            ahead = " ".join(words[:count]) + " "
            self.assert_fault(ahead, " " + " ".join(words[count:]) + "\n#\n")

    def test_row(self):
        ahead = header("a", 3, 2, 2)
        self.assert_fault(ahead + "##", "\n###\n")
        self.assert_fault(ahead + "###", "#\n###\n")
        self.assert_fault(ahead + "###\n#.", "\n")
        self.assert_fault(ahead, "\n###\n")
        self.assert_fault(ahead + "###", "\r\n")
        for byte in "xSTB,-/o \0\t\x80\xff":
            self.assert_fault(ahead, byte + "##\n")
            self.assert_fault(ahead + "#.", byte + "\n")
            self.assert_fault(ahead + "###\nst", byte + "\n")

    def test_too_few_or_too_many_rows(self):
        self.assert_fault(header("a", 1, 2, 2) + "#\n#\n#\n", "")
        self.assert_fault(header("a", 1, 2, 2) + "#\n#\n#\n", part("b"))
        self.assert_fault(header("a", 1, 2, 2) + "#\n#\n#\n#\n", "#\n")
        self.assert_fault(header("a", 1, 2, 1) + "#\n", part("b"))
        self.assert_fault(header("a", 1, 2, 1) + "#\n#\n", "#\n" + part("b"))
        self.assert_fault(header("a", 1, 1, 3) + "#\n#\n", part("b"))
        self.assert_fault(header("a", 1, 1, 3) + "#\n#\n#\n", "#\n")
        self.assert_fault(header("a", 1, 1, 2) + "#\n", "\n#\n")

    def test_sign_that_begins_a_part_is_no_row(self):
        self.assert_fault(header("a", 1, 1, 2) + "t\n", "part b 1 1 1 1\n#\n")

    def test_every_small_change(self):
        text = "part ab 2 1 2 16\n#.\nst\npart c1 1 2 1 9\nb\n.\n"
        for at in range(len(text) + 1):
            tried = [text[:at] + text[at + 1:]]
            for byte in range(256):
                tried.append(text[:at] + chr(byte) + text[at:])
                tried.append(text[:at] + chr(byte) + text[at + 1:])
            for changed in tried:
                self.assertEqual(judged(changed), judge(coded(changed)), changed)

    def test_two_changes(self):
        text = "part a 10 1 1 9\n####.stb##\n"
        for at in range(len(text)):
            for later in range(at, len(text)):
                for sign in " 0\n":
                    changed = text[:at] + sign + text[at:later] + sign + text[later + 1:]
                    self.assertEqual(judged(changed), judge(coded(changed)), changed)

    def test_longest_text(self):
        self.assertEqual([-6, 0], judge([0] * 1048576))
        self.assertEqual([-2], judge([0] * 1048577))
        self.assertEqual([-2], judge((coded(chain(64)) * 2000)[:1048577]))
        self.assertEqual([-6, len(chain(64))], judge((coded(chain(64)) * 2000)[:1048576]))


if __name__ == "__main__":
    unittest.main()
