"""Writing: from the blocks of a document to the bytes of its canonical notation."""

from treefiltersdesk.texts import bytes_of

LINE_FEED = 10
SPACE = 32
QUOTATION_MARK = 34
OPENING = 40
CLOSING = 41
SHORT_ESCAPES = {34: "\\\"", 92: "\\\\", 10: "\\n", 9: "\\t"}
HEXADECIMAL = "0123456789abcdef"
BRACES = (123, 125)


def notation_of(blocks):
    """The canonical notation of a document."""
    notation = []
    for index, block in enumerate(blocks):
        if index > 0:
            notation.append(LINE_FEED)
        add_expression(block, notation)
    return notation


def add_expression(expression, notation):
    """Adds the canonical notation of an expression."""
    if expression.shape == "list":
        notation.append(OPENING)
        for index, part in enumerate(expression.parts):
            if index > 0:
                notation.append(SPACE)
            add_expression(part, notation)
        notation.append(CLOSING)
    elif expression.shape == "string":
        add_string(expression.text, notation)
    elif expression.shape == "integer":
        notation.extend(plain_bytes(str(expression.number)))
    else:
        notation.extend(plain_bytes(expression.text))


def add_string(text, notation):
    """Adds a text between quotation marks."""
    notation.append(QUOTATION_MARK)
    for byte in bytes_of(text):
        if byte in SHORT_ESCAPES:
            notation.extend(plain_bytes(SHORT_ESCAPES[byte]))
        elif byte < 32:
            notation.extend(long_escape(byte))
        else:
            notation.append(byte)
    notation.append(QUOTATION_MARK)


def long_escape(byte):
    """The escape sequence of a control character."""
    digits = HEXADECIMAL[byte] if byte < 16 else "1" + HEXADECIMAL[byte - 16]
    return plain_bytes("\\u") + [BRACES[0]] + plain_bytes(digits) + [BRACES[1]]


def plain_bytes(text):
    """The bytes of a text of plain signs."""
    return [ord(sign) for sign in text]
