"""Expressions, and what each of them is in a document.

The items of a document are kept as their expressions. An expression is never changed once
it is made, so one may stand in several places.
"""

from treefiltersdesk.texts import is_label

DEEPEST = 16
ALIGNMENTS = ("none", "left", "center", "right")

# For each list of a document: its role, the forms of its first parts, the form of all its
# other parts, and how many of these there are at least. No symbol is called like the two
# names with parentheses: the list without a symbol, and the block that shares a symbol.
RULES = {
    "para": ("block", ("symbol",), "inline", 0),
    "heading": ("block", ("symbol", "level", "identifier"), "inline", 0),
    "(code block)": ("block", ("symbol", "identifier", "string"), "", 0),
    "formula": ("block", ("symbol", "identifier", "string"), "", 0),
    "rule": ("block", ("symbol",), "", 0),
    "quote": ("block", ("symbol",), "block", 0),
    "bullets": ("block", ("symbol",), "item", 1),
    "numbers": ("block", ("symbol", "integer"), "item", 1),
    "terms": ("block", ("symbol",), "term", 1),
    "table": ("block", ("symbol", "identifier", "caption", "align"), "row", 1),
    "figure": ("block", ("symbol", "identifier", "string"), "inline", 0),
    "group": ("block", ("symbol", "class"), "block", 0),
    "note": ("block", ("symbol", "label"), "block", 0),
    "code": ("inline", ("symbol", "string"), "", 0),
    "math": ("inline", ("symbol", "string"), "", 0),
    "break": ("inline", ("symbol",), "", 0),
    "noteref": ("inline", ("symbol", "label"), "", 0),
    "ref": ("inline", ("symbol", "label"), "", 0),
    "cite": ("inline", ("symbol",), "label", 1),
    "emph": ("inline", ("symbol",), "inline", 0),
    "strong": ("inline", ("symbol",), "inline", 0),
    "strike": ("inline", ("symbol",), "inline", 0),
    "super": ("inline", ("symbol",), "inline", 0),
    "sub": ("inline", ("symbol",), "inline", 0),
    "caps": ("inline", ("symbol",), "inline", 0),
    "link": ("inline", ("symbol", "string"), "inline", 0),
    "image": ("inline", ("symbol", "string"), "inline", 0),
    "span": ("inline", ("symbol", "class"), "inline", 0),
    "item": ("item", ("symbol",), "block", 0),
    "term": ("term", ("symbol", "inlines"), "block", 0),
    "caption": ("caption", ("symbol",), "inline", 0),
    "align": ("align", ("symbol",), "alignment", 1),
    "row": ("row", ("symbol",), "cell", 0),
    "cell": ("cell", ("symbol",), "inline", 0),
    "class": ("class", ("symbol",), "label", 0),
    "(inlines)": ("inlines", (), "inline", 0),
}


class Expression:
    """A list, a string, an integer or a symbol, as its shape tells.

    Its place is where it stands in the text that it was read from; one that was made otherwise
    has none. A block remembers its normal form, and an expression of a document the size of its
    canonical notation, once it is known.
    """

    def __init__(self, shape, place):
        self.shape = shape
        self.place = place
        self.text = ""
        self.number = 0
        self.parts = ()
        self.head = ""
        self.depth = 0
        self.role = ""
        self.normal = None
        self.size = None


def make_string(text, place=0):
    """A string; as a part of a list of items it is a text."""
    expression = Expression("string", place)
    expression.text = text
    expression.role = "inline"
    return expression


def make_integer(number, place=0):
    """An integer."""
    expression = Expression("integer", place)
    expression.number = number
    return expression


def make_symbol(name, place=0):
    """A symbol."""
    expression = Expression("symbol", place)
    expression.text = name
    return expression


def make_list(parts, place=0):
    """A list, with its depth and its role in a document."""
    expression = Expression("list", place)
    expression.parts = tuple(parts)
    expression.depth = 1 + max([part.depth for part in parts], default=0)
    if parts and parts[0].shape == "symbol":
        expression.head = parts[0].text
    expression.role = role_of_list(expression)
    return expression


def rule_of(expression):
    """The rule of a list, or None where no list of a document begins like it."""
    if expression.head == "code" and len(expression.parts) == 3:
        return RULES["(code block)"]
    if expression.head == "":
        return RULES["(inlines)"]
    return RULES.get(expression.head)


def role_of_list(expression):
    """What a list is in a document; an empty text if it is nothing there."""
    rule = rule_of(expression)
    if rule is None:
        return ""
    firsts = len(rule[1])
    parts = expression.parts
    if len(parts) < firsts + rule[3]:
        return ""
    for part, form in zip(parts[:firsts], rule[1]):
        if not has_form(part, form):
            return ""
    for part in parts[firsts:]:
        if not has_form(part, rule[2]):
            return ""
    if expression.head == "table" and not has_even_rows(expression):
        return ""
    return rule[0]


def has_form(expression, form):
    """Whether an expression has a form that a rule asks for."""
    if form == expression.role:
        return form != ""
    if form == "label":
        return expression.shape == "string" and is_label(expression.text)
    if form == "identifier":
        return expression.shape == "string" and (expression.text == "" or is_label(expression.text))
    if form == "level":
        return expression.shape == "integer" and 1 <= expression.number <= 6
    if form == "alignment":
        return expression.shape == "symbol" and expression.text in ALIGNMENTS
    return form in ("string", "integer", "symbol") and expression.shape == form


def has_even_rows(table):
    """Whether each row of a table has one cell for each column."""
    for row in table.parts[4:]:
        if len(row.parts) != len(table.parts[3].parts):
            return False
    return True
