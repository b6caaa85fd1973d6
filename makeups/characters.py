"""The characters of formulas, told by their Unicode numbers."""

BLANK = 0x20
OPEN = 0x28
CLOSE = 0x29
PLUS = 0x2B
COMMA = 0x2C
DIVIDED = 0xF7
DASH = 0x2013
MINUS = 0x2212
ANGLE_OPEN = 0x27E8
ANGLE_CLOSE = 0x27E9

DIGITS = (0x30, 0x31, 0x32, 0x33, 0x34, 0x35, 0x36, 0x37, 0x38, 0x39)
RAISED_DIGITS = (0x2070, 0xB9, 0xB2, 0xB3, 0x2074, 0x2075, 0x2076, 0x2077, 0x2078, 0x2079)

# A row's signs are numbered from 1: alone, leaf before, leaf behind, stub before, stub behind.
ROW_SIGNS = (0x7C, 0x28, 0x29, 0x5B, 0x5D)

LETTERS = "ABCDEFGHIKLMNOPQRSTVXYZabcdefghiklmnopqrstvxyz"
OTHER_SIGNATURE_SIGNS = (0x3C0, 0x3C7, 0x2A, 0x2020)


def position(characters, character):
    """The place of a character among others, or -1."""
    for k in range(len(characters)):
        if characters[k] == character:
            return k
    return -1


def signature_sign(character):
    """The number of a signature's sign, 0 to 49, or -1."""
    letter = position([ord(x) for x in LETTERS], character)
    if letter >= 0:
        return letter
    other = position(OTHER_SIGNATURE_SIGNS, character)
    if other >= 0:
        return len(LETTERS) + other
    return -1


def signature_character(sign):
    """The character of a signature's sign, 0 to 49."""
    if sign < len(LETTERS):
        return ord(LETTERS[sign])
    return OTHER_SIGNATURE_SIGNS[sign - len(LETTERS)]


def row_sign(character):
    """The number of a row's sign, 1 to 5, or 0."""
    return position(ROW_SIGNS, character) + 1


def row_character(sign):
    """The character of a row's sign, 1 to 5."""
    return ROW_SIGNS[sign - 1]
