"""What the document promises over all calls together: A1 to A4, MAIN, and the interface."""

import contextlib
import inspect
import io
import itertools
import pathlib
import unittest

from helper import (
    BY_HAND, LARGEST, NOUGHTS, ONES, SIGNS, TOO_LONG, ask, chain, coded, full_part, judged,
    one_at, ones_in, part, pinwheel, rows_of, small_parts,
)
from studtube import parts

INTERFACE = {
    "judge": ["t"], "check": ["t"], "find": ["t", "s"], "size": ["k", "t"], "name": ["k", "t"],
    "place": ["k", "r", "x", "y", "z", "t"], "turned": ["k", "r", "t"], "alike": ["i", "j", "t"], "turns": ["k", "t"],
    "turn16": ["l"], "fits16": ["dx", "dy", "s", "t"],
}

# Of one, two and four different turns, some one another's turned, some almost.
LAYERS = [
    [["#"]], [["s"]], [["t"]], [["b"]], [["##"]], [["#", "#"]], [["s#"]], [["#s"]], [["s", "#"]], [["#", "s"]],
    [["##", "#."]], [["##", ".#"]], [[".#", "##"]], [["#.", "##"]], [["s#", "#s"]], [["#s", "s#"]], [["s#", "#t"]],
    [["##.", ".##"]], [[".##", "##."]], [[".#", "##", "#."]], [["#.", "##", ".#"]],
    pinwheel("#", "s", "t", "b"), pinwheel("#", "t", "s", "b"), [["##"], ["#."]], [["##"], [".#"]],
    [["#", "#"], ["#", "."]], [["#.#", "###", "#.#"]], [["###", ".#.", "###"]],
] + BY_HAND
NAMES = ["p%d" % (10 + number) for number in range(len(LAYERS))]
CATALOGUE = "".join(part(each, layers, 7 * number + 1) for number, (each, layers) in enumerate(zip(NAMES, LAYERS)))
ROWS = [
    NOUGHTS, ONES, one_at(0, 0), one_at(15, 3), list(range(16)), [1 << y for y in range(16)],
    [(y * y * 7919 + 13 * y) % 65536 for y in range(16)], rows_of(["##.#"] * 3 + ["...#" * 4] * 13),
]


def texted(given):
    return bytes(given[1:]).decode("ascii")


def turned_text(k, r, text):
    given = parts.turned(k, r, coded(text))
    if given[0] != len(given) - 1:
        raise AssertionError("no text: %r" % given)
    return texted(given)


def aside(text):
    """A part's text without its name and weight."""
    head, _, rows = text.partition("\n")
    return head.split(" ")[2:5], rows


def renamed(name, text):
    return " ".join(["part", name] + text.split(" ")[2:])


def told_part(k, r, text):
    """The text of part k turned r times, put together from what size, name and place tell."""
    t = coded(text)
    width, depth, height, weight = parts.size(k, t)[:4]
    if r % 2 == 1:
        width, depth = depth, width
    rows = ""
    for z, y in itertools.product(range(height), range(depth)):
        rows += "".join(SIGNS[parts.place(k, r, x, y, z, t)[0]] for x in range(width)) + "\n"
    return "part %s %d %d %d %d\n" % (texted(parts.name(k, t)), width, depth, height, weight) + rows


def told(text):
    """The text of a right catalogue, put together from what's told of its parts."""
    return "".join(told_part(k, 0, text) for k in range(parts.judge(coded(text))[0]))


class OneToOne(unittest.TestCase):
    def test_catalogue_tells_its_text(self):
        for text in (CATALOGUE, chain(64), part("abcdefgh", BY_HAND[0], 9999), full_part("z", 16, 2, 18)):
            self.assertEqual([0], parts.check(coded(text)))
            self.assertEqual(text, told(text))
        for layers in small_parts():
            text = part("a1", layers, 120)
            self.assertEqual(text, told(text))

    def test_another_text_is_another_catalogue(self):
        """Each byte put for each: what's none has its fault, what's right tells just the text that it's of."""
        text = part("ab", [["#t"], ["s."]], 16) + part("c1", [["b"]], 9)
        right = 0
        for at in range(len(text)):
            for byte in range(256):
                changed = text[:at] + chr(byte) + text[at + 1:]
                answer = parts.judge(coded(changed))
                self.assertEqual(judged(changed), answer)
                checked = parts.check(coded(changed))
                self.assertEqual(answer[0] == -6, checked == [-6])
                if checked == [0]:
                    self.assertEqual(changed, told(changed))
                    right += 1
        self.assertGreater(right, 100)

    def test_parts_texts_one_behind_the_other(self):
        texts = [turned_text(k, 0, CATALOGUE) for k in range(len(LAYERS))]
        self.assertEqual(CATALOGUE, "".join(texts))

    def test_each_name_is_found(self):
        for k in range(len(LAYERS)):
            self.assertEqual([k], parts.find(coded(CATALOGUE), parts.name(k, coded(CATALOGUE))[1:]))

    def test_first_of_what_is_wrong(self):
        wrong = part("a") + part("b", [["s."], ["t."]]) + part("a", [["#."]])
        self.assertEqual([3], parts.judge(coded(wrong)))
        self.assertEqual([-8, 1, 1], parts.check(coded(wrong)))


class PartsTurned(unittest.TestCase):
    def test_turned_and_read_again(self):
        """It's the catalogue of the turned part."""
        for k in range(len(LAYERS)):
            size = parts.size(k, coded(CATALOGUE))
            for r in range(4):
                text = turned_text(k, r, CATALOGUE)
                self.assertEqual([1], parts.judge(coded(text)))
                self.assertEqual([0], parts.check(coded(text)))
                self.assertEqual(told_part(k, r, CATALOGUE), text)
                self.assertEqual(text, told(text))
                sides = [size[1], size[0]] if r % 2 == 1 else size[:2]
                self.assertEqual(sides + size[2:], parts.size(0, coded(text)))
                self.assertEqual([0], parts.find(coded(text), coded(NAMES[k])))

    def test_turns_one_after_another(self):
        for k in range(len(LAYERS)):
            own = turned_text(k, 0, CATALOGUE)
            text = own
            for r in range(4):
                self.assertEqual(turned_text(k, r, CATALOGUE), text)
                for more in range(4):
                    self.assertEqual(turned_text(k, (r + more) % 4, CATALOGUE), turned_text(0, more, text))
                text = turned_text(0, 1, text)
            self.assertEqual(own, text)

    def test_alike_says_what_turned_texts_say(self):
        numbers = range(len(LAYERS))
        shapes = [[aside(turned_text(k, r, CATALOGUE)) for r in range(4)] for k in numbers]
        for i, j in itertools.product(numbers, repeat=2):
            wanted = shapes[i].index(shapes[j][0]) if shapes[j][0] in shapes[i] else -3
            self.assertEqual([wanted], parts.alike(i, j, coded(CATALOGUE)), (i, j))

    def test_alike_is_mutual_and_goes_on(self):
        numbers = range(len(LAYERS))
        answers = {pair: parts.alike(*pair, coded(CATALOGUE))[0] for pair in itertools.product(numbers, repeat=2)}
        count = [parts.turns(k, coded(CATALOGUE))[0] for k in numbers]
        size = [parts.size(k, coded(CATALOGUE)) for k in numbers]
        for i, j in answers:
            self.assertEqual(answers[i, j] == -3, answers[j, i] == -3)
            if answers[i, j] != -3:
                self.assertEqual(-answers[i, j] % count[i], answers[j, i])
                self.assertEqual(count[i], count[j])
                self.assertEqual(size[i][2], size[j][2])
                self.assertEqual(size[i][4:], size[j][4:])
                for k in numbers:
                    self.assertEqual(answers[i, k] == -3, answers[j, k] == -3)
                    if answers[j, k] != -3:
                        self.assertEqual((answers[i, j] + answers[j, k]) % count[i], answers[i, k])
        for k in numbers:
            self.assertEqual(0, answers[k, k])
        # Not all of them, nor each to itself alone.
        self.assertGreater(list(answers.values()).count(-3), 100)
        self.assertGreater(len([r for r in answers.values() if r > 0]), 30)

    def turns_as_alike_says(self, text):
        """Of a catalogue's one part: how many of its turned ones are alike by 0 to none ahead of them."""
        four = [turned_text(0, r, text) for r in range(4)]
        t = coded("".join(renamed("p%d" % r, four[r]) for r in range(4)))
        own = [r for r in range(4) if parts.alike(0, r, t) == [0]]
        first = [r for r in range(4) if [0] not in [parts.alike(before, r, t) for before in range(r)]]
        for r in range(4):
            self.assertEqual([min(turn for turn in range(4) if (r - turn) % 4 in own)], parts.alike(0, r, t))
            self.assertEqual([len(first)], parts.turns(r, t))
        self.assertEqual(4, len(own) * len(first))
        return len(first)

    def test_turns_says_what_alike_says(self):
        found = set()
        for k in range(len(LAYERS)):
            count = self.turns_as_alike_says(turned_text(k, 0, CATALOGUE))
            self.assertEqual([count], parts.turns(k, coded(CATALOGUE)))
            found.add(count)
        self.assertEqual({1, 2, 4}, found)

    def test_turns_of_every_small_part(self):
        for layers in small_parts():
            self.assertIn(self.turns_as_alike_says(part("a", layers)), (1, 2, 4))


class RowsTurned(unittest.TestCase):
    def test_four_turns(self):
        for rows in ROWS:
            then = rows
            for _ in range(4):
                then = parts.turn16(then)
                self.assertEqual(ones_in(rows), ones_in(then))
                self.assertEqual([ones_in(rows)], parts.fits16(0, 0, then, then))
            self.assertEqual(rows, then)

    def test_fits_turned_along(self):
        for s, t in itertools.product(ROWS, repeat=2):
            s_once, t_once = parts.turn16(s), parts.turn16(t)
            s_twice, t_twice = parts.turn16(s_once), parts.turn16(t_once)
            self.assertEqual(parts.fits16(0, 0, s, t), parts.fits16(0, 0, s_once, t_once))
            for b in range(16):
                self.assertEqual(parts.fits16(0, b, s, t), parts.fits16(b, 0, s_once, t_once))
            for a, b in ((1, 0), (0, 1), (1, 1), (3, 7), (9, 2), (15, 15)):
                self.assertEqual(parts.fits16(a, b, s, t), parts.fits16(a, b, t_twice, s_twice))

    def test_rows_are_turned_as_a_part_is(self):
        for rows in ROWS:
            layers = [["".join("s" if row >> x & 1 else "#" for x in range(16)) for row in rows]]
            t = coded(part("a", layers))
            then = parts.turn16(rows)
            for x, y in itertools.product(range(16), repeat=2):
                self.assertEqual([2 if then[y] >> x & 1 else 1], parts.place(0, 1, x, y, 0, t))


class Interface(unittest.TestCase):
    def calls(self):
        """Each call with what's answered and what's refused."""
        t = coded(CATALOGUE)
        s = coded(NAMES[3])
        return [
            ("judge", [t]), ("judge", [t[1:]]), ("judge", [TOO_LONG]), ("check", [t]), ("check", [t + t]),
            ("find", [t, s]), ("find", [t, []]), ("find", [t, s + s]), ("size", [3, t]), ("size", [LARGEST, t]),
            ("name", [3, t]), ("name", [3, t + t]), ("place", [3, 1, 0, 0, 0, t]), ("place", [3, 4, 0, 0, 0, t]),
            ("place", [3, 1, 9, 0, 0, t]), ("turned", [28, 3, t]), ("turned", [28, 4, t]), ("alike", [28, 30, t]),
            ("alike", [28, 0, t]), ("alike", [28, 99, t]), ("turns", [28, t]), ("turns", [99, t]), ("turns", [0, []]),
            ("turn16", [ROWS[6]]), ("turn16", [[]]), ("turn16", [[65536] * 16]), ("fits16", [1, 33, ROWS[6], ROWS[7]]),
            ("fits16", [1, 33, ROWS[6], []]), ("fits16", [1, 33, [65536] * 16, ROWS[6]]),
        ]

    def test_names_and_arguments(self):
        for call in INTERFACE:
            made = getattr(parts, call)
            self.assertTrue(inspect.isfunction(made))
            self.assertEqual("studtube.parts", made.__module__)
            self.assertEqual(call, made.__name__)
            given = inspect.signature(made).parameters.values()
            self.assertEqual(INTERFACE[call], [each.name for each in given])
            for each in given:
                self.assertEqual(inspect.Parameter.POSITIONAL_OR_KEYWORD, each.kind)
                self.assertIs(inspect.Parameter.empty, each.default)

    def test_each_is_called(self):
        self.assertEqual(set(INTERFACE), {call for call, given in self.calls()})

    def test_answers_are_lists_of_numbers_and_nothing_is_changed(self):
        for call, given in self.calls():
            self.assertGreater(len(ask(self, getattr(parts, call), *given)), 0)

    def test_how_many_numbers(self):
        for call, given in self.calls():
            answer = getattr(parts, call)(*given)
            if answer[0] == -6 and call == "judge":
                wanted = 2
            elif answer[0] == -8 and call == "check":
                wanted = 3
            elif answer[0] < 0:
                wanted = 1
            elif call in ("name", "turned"):
                wanted = answer[0] + 1
            else:
                wanted = {"turn16": 16, "size": 7}.get(call, 1)
            self.assertEqual(wanted, len(answer), (call, answer))

    def test_nothing_is_kept(self):
        """Whatever else is called between, and though what's answered and handed in is changed behind the call."""
        calls = self.calls()
        answers = [getattr(parts, call)(*given) for call, given in calls]
        for order in (calls[::-1], calls[1::2] + calls[::2], calls[::3] + calls[1::3] + calls[2::3]):
            for call, given in order:
                own = [list(value) if isinstance(value, list) else value for value in given]
                answer = getattr(parts, call)(*own)
                self.assertEqual(answers[calls.index((call, given))], answer)
                answer.append(17)
                for value in own:
                    if isinstance(value, list):
                        value.append(17)
        text = coded(part("a", [["#s"]]))
        self.assertEqual([4], parts.turns(0, text))
        text[-2] = text[-3]
        self.assertEqual([2], parts.turns(0, text))

    def test_answer_is_not_what_was_handed_in(self):
        for rows in (NOUGHTS, ONES):
            given = list(rows)
            self.assertEqual(given, parts.turn16(given))
            self.assertIsNot(given, parts.turn16(given))

    def test_nothing_is_printed(self):
        with contextlib.redirect_stdout(io.StringIO()) as out, contextlib.redirect_stderr(io.StringIO()) as err:
            for call, given in self.calls():
                getattr(parts, call)(*given)
        self.assertEqual("", out.getvalue() + err.getvalue())

    def test_readme_names_each_call(self):
        readme = (pathlib.Path(__file__).parent.parent / "README.md").read_text(encoding="ascii")
        for call in INTERFACE:
            self.assertIn("| `%s(%s)` |" % (call, ", ".join(INTERFACE[call])), readme)


if __name__ == "__main__":
    unittest.main()
