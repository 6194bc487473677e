"""select, count and extract, compared with what the document's definitions say of each single item, word by word.

Here nothing is computed for several items at once, and nothing comes from the package: an item
knows its parent and its siblings, and a selector is asked of one item at a time.
"""

import random
import unittest

from tests.helper import BLOCK_KINDS, INLINE_KINDS, TREES, count, extract, parsed, select, unquoted, written


class Item:
    """An item, with all that the definitions of the document speak of."""

    def __init__(self, notation, is_block, parent, index, path):
        self.is_block = is_block
        self.parent = parent
        self.index = index
        self.path = path
        self.notation = written(notation)
        self.siblings = []
        self.parts = [part for mark, part in notation] if isinstance(notation, list) else [notation]
        self.kind = "text" if isinstance(notation, str) else self.parts[0]
        self.lists = [siblings_of(items, blocks, self, inner) for items, blocks, inner in self.contents()]

    def contents(self):
        """The contents of its lists, whether these are blocks, and the paths ahead of the items."""
        parts, path = self.parts, self.path
        if not self.is_block:
            firsts = {"emph": 1, "strong": 1, "strike": 1, "super": 1, "sub": 1, "caps": 1, "link": 2, "image": 2, "span": 2}
            return [(parts[firsts[self.kind]:], False, None)] if self.kind in firsts else []
        if self.kind in ("para", "heading", "figure"):
            return [(parts[{"para": 1, "heading": 3, "figure": 3}[self.kind]:], False, None)]
        if self.kind in ("quote", "group", "note"):
            return [(parts[1 if self.kind == "quote" else 2:], True, path + (0,))]
        if self.kind in ("bullets", "numbers"):
            items = parts[1 if self.kind == "bullets" else 2:]
            return [([part for mark, part in item[1:]], True, path + (number,)) for number, item in enumerate(items)]
        result = []
        if self.kind == "terms":
            for number, entry in enumerate(parts[1:]):
                result.append(([part for mark, part in entry[1][1]], False, None))
                result.append(([part for mark, part in entry[2:]], True, path + (number,)))
        if self.kind == "table":
            result.append(([part for mark, part in parts[2][1:]], False, None))
            for row in parts[4:]:
                result.extend([([part for mark, part in cell[1:]], False, None) for mark, cell in row[1:]])
        return result

    def children(self):
        return [item for items in self.lists for item in items]

    def descendants(self):
        result = []
        for child in self.children():
            result += [child] + child.descendants()
        return result

    def ancestors(self):
        return [self.parent] + self.parent.ancestors() if self.parent else []

    def plain(self):
        """Its plain text."""
        inner = [plain_of(items) for items in self.lists]
        if not self.is_block:
            if self.kind == "text":
                return unquoted(self.parts[0])
            if self.kind in ("code", "math", "ref"):
                return unquoted(self.parts[1])
            if self.kind == "cite":
                return ", ".join(unquoted(key) for key in self.parts[1:])
            return {"break": "\n", "noteref": ""}.get(self.kind, "".join(inner))
        if self.kind in ("para", "heading", "figure"):
            return inner[0] + "\n"
        if self.kind in ("code", "formula"):
            return unquoted(self.parts[2]) + "\n"
        if self.kind == "terms":
            return "".join(text + "\n" * (number % 2 == 0) for number, text in enumerate(inner))
        if self.kind == "table":
            columns = len(self.parts[3]) - 1
            rows = [inner[at:at + columns] for at in range(1, len(inner), columns)]
            return (inner[0] + "\n" if self.lists[0] else "") + "".join("\t".join(row) + "\n" for row in rows)
        return "".join(inner)


def siblings_of(notations, are_blocks, parent, path):
    """The items of one list."""
    items = [Item(notation, are_blocks, parent, index, path + (index,) if are_blocks else None)
             for index, notation in enumerate(notations)]
    for item in items:
        item.siblings = items
    return items


def plain_of(items):
    return "".join(item.plain() for item in items)


def labels_of(item):
    """The labels and identifiers that the selector `label` speaks of."""
    if item.kind == "cite":
        return [unquoted(key) for key in item.parts[1:]]
    at = {"heading": 2, "formula": 1, "table": 1, "figure": 1, "note": 1, "ref": 1, "noteref": 1}
    return [unquoted(item.parts[at[item.kind]])] if item.kind in at else []


def holds(selector, item):
    """Whether a selector holds for an item."""
    head = selector[0][1]
    arguments = [part for mark, part in selector[1:]]
    text = unquoted(arguments[0]) if head in ("label", "class", "target", "text") else ""
    at = item.index
    targets = {"figure": 2, "link": 1, "image": 1}
    rules = {
        "any": lambda: True,
        "kind": lambda: item.kind == arguments[0],
        "level": lambda: item.kind == "heading" and int(arguments[0]) <= int(item.parts[1]) <= int(arguments[1]),
        "label": lambda: text in labels_of(item),
        "class": lambda: item.kind in ("group", "span") and text in [unquoted(label) for mark, label in item.parts[1][1:]],
        "target": lambda: item.kind in targets and unquoted(item.parts[targets[item.kind]]).startswith(text),
        "text": lambda: text in item.plain(),
        "empty": lambda: set(item.plain()) <= set(" \t\n\r"),
        "first": lambda: item == item.siblings[0],
        "last": lambda: item == item.siblings[-1],
        "index": lambda: at == int(arguments[0]),
        "and": lambda: all(holds(argument, item) for argument in arguments),
        "or": lambda: any(holds(argument, item) for argument in arguments),
        "not": lambda: not holds(arguments[0], item),
        "parent": lambda: item.parent is not None and holds(arguments[0], item.parent),
        "ancestor": lambda: any(holds(arguments[0], other) for other in item.ancestors()),
        "child": lambda: any(holds(arguments[0], other) for other in item.children()),
        "descendant": lambda: any(holds(arguments[0], other) for other in item.descendants()),
        "next": lambda: at + 1 < len(item.siblings) and holds(arguments[0], item.siblings[at + 1]),
        "previous": lambda: at > 0 and holds(arguments[0], item.siblings[at - 1]),
    }
    return rules[head]()


def found(selector, tree):
    """The items of a document for which a selector holds."""
    outermost = siblings_of([part for mark, part in parsed(tree)], True, None, ())
    everything = []
    for item in outermost:
        everything += [item] + item.descendants()
    condition = parsed(selector)[0][1]
    return [item for item in everything if holds(condition, item)]


class Writer:
    """Writes documents and selectors, the same ones for the same number."""

    def __init__(self, number):
        self.random = random.Random(number)

    def some(self, write, depth, least=0):
        return " ".join(write(depth - 1) for turn in range(self.random.choice([least, 1, 1, 2, 3]) if depth > 0 else least))

    def string(self):
        return self.random.choice(['""', '"a"', '"b"', '" "', '"ab"', '"a b"', '"\\n"', '"k, l"', '"\\u{1f600}"', '"\u00e9"', '"\\t"'])

    def label(self):
        return self.random.choice(['"a"', '"b"', '"k"', '"l"'])

    def identifier(self):
        return self.random.choice(['""', self.label()])

    def inline(self, depth):
        kind = self.random.choice(INLINE_KINDS + ["text"] * 6)
        inner = self.some(self.inline, depth) if kind not in ("text", "code", "math", "break", "noteref", "ref", "cite") else ""
        forms = {"text": "%s" % self.string(), "break": "(break)", "cite": "(cite " + " ".join([self.label()] * self.random.choice([1, 2])) + ")",
                 "span": "(span (class " + self.label() * self.random.choice([0, 1]) + ") " + inner + ")"}
        first = self.string() if kind in ("code", "math", "link", "image") else self.label() if kind in ("noteref", "ref") else ""
        return forms.get(kind, "(" + kind + " " + first + " " + inner + ")")

    def list_item(self, depth):
        return "(item " + self.some(self.block, depth) + ")"

    def entry(self, depth):
        return "(term (" + self.some(self.inline, depth) + ") " + self.some(self.block, depth) + ")"

    def table(self, depth):
        columns = self.random.choice([1, 2])
        rows = ["(row " + " ".join("(cell " + self.some(self.inline, depth) + ")" for column in range(columns)) + ")"
                for row in range(self.random.choice([1, 2]))]
        caption = "(caption " + self.some(self.inline, depth) + ")"
        return "(table " + self.identifier() + " " + caption + " (align" + " none" * columns + ") " + " ".join(rows) + ")"

    def block(self, depth):
        kind = self.random.choice(BLOCK_KINDS + ["para", "quote", "bullets", "terms", "note"])
        if kind == "table":
            return self.table(depth)
        firsts = {"heading": str(self.random.randint(1, 6)) + " " + self.identifier(), "code": self.identifier() + self.string(),
                  "formula": self.identifier() + self.string(), "numbers": str(self.random.randint(0, 12)),
                  "figure": self.identifier() + self.string(), "group": "(class " + self.label() + ")", "note": self.label()}
        inner = {"para": self.inline, "heading": self.inline, "figure": self.inline, "quote": self.block, "group": self.block,
                 "note": self.block, "bullets": self.list_item, "numbers": self.list_item, "terms": self.entry}
        least = 1 if kind in ("bullets", "numbers", "terms") else 0
        content = self.some(inner[kind], depth, least) if kind in inner else ""
        return "(" + kind + " " + firsts.get(kind, "") + " " + content + ")"

    def tree(self):
        """A document of at most 600 bytes."""
        while True:
            tree = self.some(self.block, 5)
            if len(tree.encode()) <= 600:
                return tree

    def selector(self, depth):
        heads = "any kind kind kind level label class target text text empty first last index".split()
        if depth > 0:
            heads += "and or not parent ancestor child descendant next previous".split() * 2
        head = self.random.choice(heads)
        if head in ("and", "or"):
            return "(" + head + " " + self.some(self.selector, depth) + ")"
        if head in ("not", "parent", "ancestor", "child", "descendant", "next", "previous"):
            return "(" + head + " " + self.selector(depth - 1) + ")"
        arguments = {"kind": self.random.choice(BLOCK_KINDS + INLINE_KINDS),
                     "level": "%d %d" % (self.random.randint(1, 3), self.random.randint(2, 6)), "label": self.identifier(), "class": self.label(), "target": self.string(), "text": self.string(),
                     "index": str(self.random.randint(0, 3))}
        return "(" + head + " " + arguments.get(head, "") + ")"


class Definitions(unittest.TestCase):
    def compare(self, selector, tree):
        """The answers are those of the definitions; it gives back how many items the selector holds for."""
        items = found(selector, tree)
        paths = [item.path for item in items if item.is_block]
        self.assertEqual(select(selector, tree), paths, (selector, tree))
        self.assertEqual(count(selector, tree), (len(paths), len(items) - len(paths)), (selector, tree))
        notations = [item.notation for item in items if item.is_block]
        self.assertEqual(extract(selector, tree), "\n".join(notations), (selector, tree))
        return len(items)

    def test_many_selectors_on_many_documents(self):
        sizes = []
        for number in range(300):
            writer = Writer(number)
            tree = writer.tree()
            sizes += [self.compare(writer.selector(3), tree) for turn in range(12)]
        # There are enough pairs of which something is to be seen.
        self.assertGreater(len([size for size in sizes if size > 0]), 1000)

    def test_each_simple_selector_on_each_document(self):
        simple = ["(kind " + kind + ")" for kind in BLOCK_KINDS + INLINE_KINDS]
        simple += ["(any)", "(level 2 5)", '(label "x")', '(label "")', '(class "a")', '(target "u")', '(text "a")', '(text "\\n")', "(empty)",
                   "(first)", "(last)", "(index 1)"]
        for tree in TREES:
            for selector in simple:
                self.compare(selector, tree)
                for head in ["not", "parent", "ancestor", "child", "descendant", "next", "previous"]:
                    self.compare("(" + head + " " + selector + ")", tree)
