"""Writes the text of a part."""


def coded(word):
    return [ord(sign) for sign in word]


def head(part):
    numbers = [part.width, part.depth, part.height, part.weight]
    return coded("part ") + part.name + coded(" " + " ".join([str(number) for number in numbers]) + "\n")


def text_of_part(part):
    text = head(part)
    for z in range(part.height):
        for y in range(part.depth):
            text.extend([part.sign_at(x, y, z) for x in range(part.width)] + coded("\n"))
    return text
