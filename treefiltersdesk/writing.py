"""Writing: from the blocks of a document to its canonical notation, and how long this is."""

from treefiltersdesk.errors import TooLarge
from treefiltersdesk.texts import MARK, length_of, sign_of

OPENING_BRACE = 123
CLOSING_BRACE = 125
HEXADECIMAL = "0123456789abcdef"


def notation_of(blocks):
    """The canonical notation of a document, as a text."""
    return "\n".join([notation_of_expression(block) for block in blocks])


def notation_of_expression(expression):
    """The canonical notation of an expression."""
    if expression.shape == "list":
        return "(" + " ".join([notation_of_expression(part) for part in expression.parts]) + ")"
    if expression.shape == "string":
        return "\"" + escaped(expression.text) + "\""
    if expression.shape == "integer":
        return str(expression.number)
    return expression.text


def length_of_notation(blocks):
    """How many bytes the canonical notation of a document has."""
    return sum([size_of(block) for block in blocks]) + max(len(blocks) - 1, 0)


def size_of(expression):
    """How many bytes the canonical notation of an expression has."""
    # A template can put one expression into very many places, so it is measured once.
    if expression.size is None:
        expression.size = measured_size(expression)
    return expression.size


def measured_size(expression):
    """How many bytes the canonical notation of an expression has, measured anew; refuses a long text."""
    if expression.shape == "list":
        return sum([size_of(part) for part in expression.parts]) + max(len(expression.parts), 1) + 1
    if not isinstance(expression.text, str):
        raise TooLarge()
    return length_of(notation_of_expression(expression))


def escaped(text):
    """A text with its escape sequences."""
    text = text.replace("\\", "\\\\").replace("\"", "\\\"").replace("\n", "\\n").replace("\t", "\\t")
    if MARK in text:
        for byte in range(32):
            text = text.replace(sign_of(byte), long_escape(byte))
    return text


def long_escape(byte):
    """The escape sequence of a control character."""
    digits = HEXADECIMAL[byte] if byte < 16 else "1" + HEXADECIMAL[byte - 16]
    return "\\u" + sign_of(OPENING_BRACE) + digits + sign_of(CLOSING_BRACE)
