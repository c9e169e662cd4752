"""What a part's name is."""

LONGEST_NAME = 8


def is_digit(byte):
    return ord("0") <= byte <= ord("9")


def is_letter(byte):
    return ord("a") <= byte <= ord("z")


def fits_name(byte, index):
    return is_letter(byte) or (index > 0 and is_digit(byte))


def is_name(s):
    if len(s) == 0 or len(s) > LONGEST_NAME:
        return False
    return all([fits_name(byte, index) for index, byte in enumerate(s)])
