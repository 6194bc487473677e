"""Reading: from the bytes of a notation to expressions."""

from treefiltersdesk.errors import Fault, NotDocument
from treefiltersdesk.expressions import DEEPEST, make_integer, make_list, make_string, make_symbol
from treefiltersdesk.texts import bytes_of_code_point, sign_of, text_of

WHITE_SPACE = (32, 9, 10, 13)
LINE_FEED = 10
QUOTATION_MARK = 34
OPENING = 40
CLOSING = 41
HYPHEN = 45
SEMICOLON = 59
BACKSLASH = 92
LETTER_U = 117
OPENING_BRACE = 123
CLOSING_BRACE = 125
SHORT_ESCAPES = {34: 34, 92: 92, 110: 10, 116: 9}


def read_document(data):
    """The blocks of a document."""
    try:
        blocks = read_expressions(data)
    except Fault:
        raise NotDocument() from None
    for block in blocks:
        if block.role != "block":
            raise NotDocument()
    return blocks


def read_expressions(data):
    """The expressions of a text; its first error of kind 1 to 6 is raised."""
    reader = Reader(data)
    levels = [[]]
    places = []
    reader.skip_white_space()
    while reader.at < len(data):
        place = reader.at
        if data[place] == OPENING:
            if len(places) == DEEPEST:
                raise Fault(6, place)
            places.append(place)
            levels.append([])
            reader.at += 1
        elif data[place] == CLOSING and places:
            parts = levels.pop()
            levels[-1].append(make_list(parts, places.pop()))
            reader.at += 1
        else:
            levels[-1].append(reader.read_simple())
        reader.skip_white_space()
    if places:
        raise Fault(1, len(data))
    return levels[0]


class Reader:
    """A text that is being read, and how far."""

    def __init__(self, data):
        self.data = data
        self.at = 0

    def skip_white_space(self):
        """Goes past white space and comments."""
        while self.at < len(self.data):
            if self.data[self.at] == SEMICOLON:
                self.skip_comment()
            elif self.data[self.at] in WHITE_SPACE:
                self.at += 1
            else:
                return

    def skip_comment(self):
        """Goes to the line feed that ends a comment, or to the end."""
        while self.at < len(self.data) and self.data[self.at] != LINE_FEED:
            self.at += 1

    def read_simple(self):
        """Reads a string, an integer or a symbol."""
        byte = self.data[self.at]
        if byte == QUOTATION_MARK:
            return self.read_string()
        if is_digit(byte):
            return self.read_integer()
        if is_letter(byte):
            return self.read_symbol()
        raise Fault(2, self.at)

    def read_integer(self):
        """Reads an integer, to its last digit."""
        place = self.at
        number = 0
        while self.at < len(self.data) and is_digit(self.data[self.at]):
            number = 10 * number + self.data[self.at] - 48
            self.at += 1
        digits = self.at - place
        if digits > 6 or digits > 1 and self.data[place] == 48:
            raise Fault(5, place)
        return make_integer(number, place)

    def read_symbol(self):
        """Reads a symbol, to its last sign."""
        place = self.at
        while self.at < len(self.data) and is_symbol_sign(self.data[self.at]):
            self.at += 1
        return make_symbol(text_of(self.data[place:self.at]), place)

    def read_string(self):
        """Reads a string, with both its quotation marks."""
        place = self.at
        pieces = []
        self.at += 1
        while self.at < len(self.data):
            byte = self.data[self.at]
            if byte == QUOTATION_MARK:
                self.at += 1
                return make_string("".join(pieces), place)
            pieces.append(self.read_character())
        raise Fault(1, len(self.data))

    def read_character(self):
        """Reads one character of a string or one escape sequence."""
        byte = self.data[self.at]
        if byte < 32:
            raise Fault(2, self.at)
        if byte == BACKSLASH:
            return self.read_escape()
        if byte < 128:
            self.at += 1
            return sign_of(byte)
        length = sequence_length(self.data, self.at)
        if length == 0:
            raise Fault(4, self.at)
        self.at += length
        return text_of(self.data[self.at - length:self.at])

    def read_escape(self):
        """Reads an escape sequence."""
        place = self.at
        if place + 1 == len(self.data):
            raise Fault(1, len(self.data))
        letter = self.data[place + 1]
        if letter == LETTER_U:
            return self.read_code_point()
        if letter not in SHORT_ESCAPES:
            raise Fault(3, place)
        self.at += 2
        return sign_of(SHORT_ESCAPES[letter])

    def read_code_point(self):
        """Reads an escape sequence with hexadecimal digits."""
        place = self.at
        end = place + 3
        code = 0
        while end < len(self.data) and hexadecimal_value(self.data[end]) >= 0:
            code = 16 * code + hexadecimal_value(self.data[end])
            end += 1
        if self.data[place + 2:place + 3] != [OPENING_BRACE] or self.data[end:end + 1] != [CLOSING_BRACE]:
            raise Fault(3, place)
        if not 1 <= end - place - 3 <= 6 or code > 1114111 or 55296 <= code <= 57343:
            raise Fault(3, place)
        self.at = end + 1
        return text_of(bytes_of_code_point(code))


def is_digit(byte):
    """Whether a byte is a decimal digit."""
    return 48 <= byte <= 57


def is_letter(byte):
    """Whether a byte is a lowercase letter."""
    return 97 <= byte <= 122


def is_symbol_sign(byte):
    """Whether a byte can go on in a symbol."""
    return is_letter(byte) or is_digit(byte) or byte == HYPHEN


def hexadecimal_value(byte):
    """The value of a hexadecimal digit, or -1."""
    if is_digit(byte):
        return byte - 48
    if 97 <= byte <= 102:
        return byte - 87
    return -1


def sequence_length(data, at):
    """The length of the UTF-8 sequence of several bytes that begins here; 0 if none does."""
    length = length_from_first(data[at])
    if length == 0 or at + length > len(data):
        return 0
    for byte in data[at + 1:at + length]:
        if not 128 <= byte <= 191:
            return 0
    return length if second_byte_fits(data[at], data[at + 1]) else 0


def length_from_first(byte):
    """How long a UTF-8 sequence of several bytes is by its first byte; 0 if none begins so."""
    if 194 <= byte <= 223:
        return 2
    if 224 <= byte <= 239:
        return 3
    if 240 <= byte <= 244:
        return 4
    return 0


def second_byte_fits(first, second):
    """Whether a sequence is neither overlong nor a surrogate nor beyond the last code point."""
    if first == 224:
        return second >= 160
    if first == 237:
        return second <= 159
    if first == 240:
        return second >= 144
    if first == 244:
        return second <= 143
    return True
