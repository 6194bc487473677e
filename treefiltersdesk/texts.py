"""Texts, kept as Python texts whose signs stand for the bytes of their UTF-8.

A plain sign stands for itself. Every other byte is a mark: a `~` and four digits of base 4,
written with the signs of DIGITS. Neither of these is plain, so a text can be looked for,
replaced or put into upper case in another one, and no mark is ever taken apart by it.
"""

# The signs of the bytes 32 to 122; those that aren't plain have the sign of a mark here.
SIGNS = " !\"#$~&'()*+,-./0123456789:;<=>?@ABCDEFGHIJKLMNOPQRSTUVWXYZ[\\]~_`abcdefghijklmnopqrstuvwxyz"
MARK = "~"
DIGITS = "{|}^"
CARRIAGE_RETURN = "~{{^|"
LABEL_SIGNS = "ABCDEFGHIJKLMNOPQRSTUVWXYZabcdefghijklmnopqrstuvwxyz0123456789-_.:"


def sign_of(byte):
    """The sign or the mark of a byte."""
    if byte == 9:
        return "\t"
    if byte == 10:
        return "\n"
    if 32 <= byte <= 122 and SIGNS[byte - 32] != MARK:
        return SIGNS[byte - 32]
    return MARK + DIGITS[byte // 64] + DIGITS[byte // 16 % 4] + DIGITS[byte // 4 % 4] + DIGITS[byte % 4]


def text_of(data):
    """The text whose UTF-8 is a list of bytes."""
    return "".join([sign_of(byte) for byte in data])


def byte_of(digits):
    """The byte of a mark, from its four digits."""
    value = 0
    for digit in digits:
        value = 4 * value + DIGITS.index(digit)
    return value


def bytes_of(text):
    """The bytes of the UTF-8 of a text."""
    pieces = text.split(MARK)
    data = [ord(sign) for sign in pieces[0]]
    for piece in pieces[1:]:
        data.append(byte_of(piece[:4]))
        data.extend([ord(sign) for sign in piece[4:]])
    return data


def length_of(text):
    """How many bytes the UTF-8 of a text has."""
    return len(text) - 4 * text.count(MARK)


def bytes_of_code_point(code):
    """The bytes of the UTF-8 of a code point."""
    if code < 128:
        return [code]
    if code < 2048:
        return [192 + code // 64, 128 + code % 64]
    if code < 65536:
        return [224 + code // 4096, 128 + code // 64 % 64, 128 + code % 64]
    return [240 + code // 262144, 128 + code // 4096 % 64, 128 + code // 64 % 64, 128 + code % 64]


def is_label(text):
    """Whether a text is a label."""
    if not isinstance(text, str) or not 1 <= len(text) <= 40:
        return False
    for sign in text:
        if sign not in LABEL_SIGNS:
            return False
    return True


def words_between_spaces(text):
    """The words of a text; an empty one stands wherever white space is at an end or goes on."""
    spaced = text.replace(CARRIAGE_RETURN, " ").replace("\n", " ").replace("\t", " ")
    return spaced.split(" ")


def is_blank(text):
    """Whether a text consists of white space only."""
    return "".join(words_between_spaces(text)) == ""
