"""What the tests share: texts of parts, calls that are watched, and answers found another way."""

import itertools
import re

SIGNS = ".#stb"
LARGEST = 18446744073709551615
NOUGHTS = [0] * 16
ONES = [65535] * 16

# A right part with each kind of place, turned 0, 1, 2 and 3 times, by hand.
BY_HAND = [
    [["t#.", "#b#"], ["s#t", "#.."]],
    [[".#", "#b", "t#"], ["t.", "#.", "s#"]],
    [["#b#", ".#t"], ["..#", "t#s"]],
    [["#t", "b#", "#."], ["#s", ".#", ".t"]],
]


def coded(text):
    return list(text.encode("latin-1"))


def header(name="a", width=1, depth=1, height=1, weight=1):
    return "part %s %s %s %s %s\n" % (name, width, depth, height, weight)


def part(name="a", layers=(("#",),), weight=1):
    rows = "".join(row + "\n" for layer in layers for row in layer)
    return header(name, len(layers[0][0]), len(layers[0]), len(layers), weight) + rows


def full_part(name, width, depth, height, weight=1):
    return part(name, [["#" * width] * depth] * height, weight)


def chain(count):
    """A right catalogue of so many parts: a10, a11 and so on."""
    return "".join(part("a%d" % (10 + number)) for number in range(count))


def box(name, width, depth, height, signs):
    """A part whose places have these signs, one after another."""
    rows = [signs[at:at + width] for at in range(0, len(signs), width)]
    return part(name, [rows[at:at + depth] for at in range(0, len(rows), depth)])


def turned_layers(layers, r=1):
    """Each layer's columns, from the last on, as rows: so many times."""
    for _ in range(r):
        layers = [["".join(column) for column in zip(*rows)][::-1] for rows in layers]
    return layers


def pinwheel(one, two, three, four):
    """A part of one layer, as it was after one turn: its corners, then what's beside them, then the middle."""
    return [[one + two + three + one, three + four + four + two, two + four + four + three, one + three + two + one]]


def rows_of(picture):
    """Sixteen numbers: bit x of the y-th is whether # stands at x in the picture's y-th row."""
    return [sum(1 << x for x, sign in enumerate(row) if sign == "#") for row in picture]


def one_at(x, y):
    """Sixteen rows with a one at that place alone."""
    return [1 << x if row == y else 0 for row in range(16)]


def ones_in(rows):
    return sum(bin(row).count("1") for row in rows)


def no_rows():
    """Lists that aren't of sixteen numbers below 65,536: of another length, with one too large, or both."""
    for length in (0, 1, 2, 8, 15, 17, 18, 32, 63, 64):
        for number in (0, 1, 65535, 65536, 4294967295):
            yield [number] * length
    for number in (65536, 65537, 98304, 131071, 1 << 20, 1 << 31, 4294967295):
        yield [number] * 16
        for y in range(16):
            for others in (0, 65535):
                yield [number if row == y else others for row in range(16)]


WRONG = part("b") + part("a")
COVERED = part("a", [["s"], ["#"]])
TOO_LONG = (coded(COVERED) * 60000)[:1048577]
NO_CATALOGUES = [
    "", "part a 1 1 1 1\n#", "part abcdefghi 1 1 1 1\n#\n", part("a") + "\n", chain(65), WRONG + "x", COVERED + "x",
]
NOT_RIGHT = [
    WRONG, COVERED, part("a") + part("a"), part("a", [["."]]), part("a", [["#.#"]]), part("a") + part("b", [["#."]]),
    COVERED + part("b"),
]


class Kept(list):
    """A list that can't be changed."""

    def refuse(self, *given, **named):
        raise AssertionError("what is handed in was changed")

    append = clear = extend = insert = pop = remove = reverse = sort = refuse
    __setitem__ = __delitem__ = __iadd__ = __imul__ = refuse


def ask(test, call, *given):
    """Calls with lists that can't be changed, then twice with plain ones: the answer is to be the same."""
    answer = call(*[Kept(value) if isinstance(value, list) else value for value in given])
    plain = [list(value) if isinstance(value, list) else value for value in given]
    test.assertEqual(call(*plain), answer)
    test.assertEqual(call(*plain), answer)
    test.assertEqual(plain, list(given))
    test.assertIs(list, type(answer))
    for number in answer:
        test.assertIs(int, type(number))
    return answer


def refuses_texts(test, call, *given):
    """That a call whose last is a text refuses each that's too long, none or not right, whatever else is given."""
    test.assertEqual([-2], call(*given, TOO_LONG))
    test.assertEqual([-2], call(*given, [0] * 1048577))
    test.assertEqual([-6], call(*given, [0] * 1048576))
    for text in NO_CATALOGUES:
        test.assertEqual([-6], ask(test, call, *given, coded(text)))
    for text in NOT_RIGHT:
        test.assertEqual([-8], ask(test, call, *given, coded(text)))


def table(choices):
    """Each beginning of one of the choices, and whether it's one whole; none begins with another."""
    return {choice[:end]: end == len(choice) for choice in choices for end in range(1, len(choice) + 1)}


def numbers(most, end):
    return table([str(number) + end for number in range(1, most + 1)])


def behind(text, at, choices):
    """How far the text goes on from there as one of the choices does, and the choice if it's there whole."""
    end = at
    while end < len(text) and text[at:end + 1] in choices:
        end += 1
    whole = choices.get(text[at:end], False)
    return end, text[at:end] if whole else None


PART = table(["part "])
BLANK = table([" "])
PLACE = table(SIGNS)
ROW_END = table(["\n"])
WIDTHS = numbers(16, " ")
HEIGHTS = numbers(18, " ")
WEIGHTS = numbers(9999, "\n")
NAME = re.compile("(?:[a-z][a-z0-9]{0,7})?")


def behind_name(text, at):
    end = NAME.match(text, at).end()
    if end == at:
        return at, None
    return behind(text, end, BLANK)


def behind_part(text, at):
    at, found = behind(text, at, PART)
    if found:
        at, found = behind_name(text, at)
    measures = []
    for choices in (WIDTHS, WIDTHS, HEIGHTS, WEIGHTS):
        if found:
            at, found = behind(text, at, choices)
            measures.append(found)
    if found:
        width, depth, height = [int(number) for number in measures[:3]]
        for choices in ([PLACE] * width + [ROW_END]) * depth * height:
            if found:
                at, found = behind(text, at, choices)
    return at, found


def judged(text):
    """What judge is to answer, found by trying all that may stand at each place."""
    at, count = 0, 0
    while at < len(text) or count == 0:
        if count == 64:
            return [-6, at]
        at, found = behind_part(text, at)
        if not found:
            return [-6, at]
        count += 1
    return [count]


def hang_together(places):
    """By groups that are joined as long as two of them touch."""
    groups = [{place} for place in places]
    joined = True
    while joined:
        joined = False
        for one in groups:
            for other in groups:
                if one is not other and any(sum(abs(p - q) for p, q in zip(a, b)) == 1 for a in one for b in other):
                    one |= other
                    groups.remove(other)
                    joined = True
                    break
            if joined:
                break
    return len(groups) == 1


def least_point(width, depth, height, signs):
    """Which of the points 1 to 4 a part breaks first; 0: none."""
    places = [(x, y, z) for z in range(height) for y in range(depth) for x in range(width)]
    at = dict(zip(places, signs))
    cells = [place for place in places if at[place] != "."]
    pairs = [(at[x, y, z], at[x, y, z + 1]) for x, y, z in cells if (x, y, z + 1) in cells]
    if any(below in "sb" for below, above in pairs):
        return 1
    if any(above in "tb" for below, above in pairs):
        return 2
    for axis, length in enumerate((width, depth, height)):
        if not {0, length - 1} <= {place[axis] for place in cells}:
            return 3
    return 0 if hang_together(cells) else 4


def right_layers(width, depth, height, signs=SIGNS):
    """Of all parts of these measures and signs the layers of those that are right."""
    for chosen in itertools.product(signs, repeat=width * depth * height):
        if least_point(width, depth, height, chosen) == 0:
            rows = ["".join(chosen[at:at + width]) for at in range(0, len(chosen), width)]
            yield [rows[at:at + depth] for at in range(0, len(rows), depth)]


def small_parts():
    """The layers of all the right parts of seven small measures: 696."""
    for width, depth, height in ((1, 1, 1), (2, 1, 1), (1, 2, 1), (1, 1, 2), (2, 2, 1), (3, 1, 1), (2, 1, 2)):
        yield from right_layers(width, depth, height)
