"""What the tests share: texts instead of lists of bytes, and shorthands for programs."""

import re
import unittest

from treefiltersdesk import filters


def to_bytes(text):
    """The list of bytes of a text, of a bytes object or of a list."""
    return list(text.encode("utf-8")) if isinstance(text, str) else list(text)


def check(program):
    """The answer of check."""
    return filters.check(to_bytes(program))


def numbers(answer):
    """The numbers of an answer, or its error code."""
    assert type(answer) is list and all(type(number) is int for number in answer), answer
    if answer[0] < 0:
        assert len(answer) == 1, answer
        return answer[0]
    return answer


def counted(answer):
    """What an answer has after the count that it begins with, or its error code."""
    answer = numbers(answer)
    if isinstance(answer, int):
        return answer
    assert answer[0] == len(answer) - 1, answer
    return answer[1:]


def apply(program, tree):
    """The notation that apply answers, or its error code."""
    answer = counted(filters.apply(to_bytes(program), to_bytes(tree)))
    return answer if isinstance(answer, int) else bytes(answer).decode("utf-8")


def trace(program, tree):
    """The numbers that trace answers, without their count, or its error code."""
    return counted(filters.trace(to_bytes(program), to_bytes(tree)))


def is_stable(program, tree):
    """The number that is_stable answers, or its error code."""
    answer = numbers(filters.is_stable(to_bytes(program), to_bytes(tree)))
    if isinstance(answer, int):
        return answer
    assert answer in ([0], [1]), answer
    return answer[0]


def select(selector, tree):
    """The paths that select answers, or its error code."""
    answer = numbers(filters.select(to_bytes(selector), to_bytes(tree)))
    if isinstance(answer, int):
        return answer
    assert min(answer) >= 0, answer
    paths = []
    at = 1
    while at < len(answer):
        paths.append(tuple(answer[at + 1:at + 1 + answer[at]]))
        assert len(paths[-1]) == answer[at] and answer[at] % 2 == 1, answer
        at += 1 + answer[at]
    assert answer[0] == len(paths), answer
    return paths


def count(selector, tree):
    """The numbers of blocks and of inline elements that count answers, or its error code."""
    answer = numbers(filters.count(to_bytes(selector), to_bytes(tree)))
    if isinstance(answer, int):
        return answer
    assert len(answer) == 2 and min(answer) >= 0, answer
    return tuple(answer)


def extract(selector, tree):
    """The notation that extract answers, or its error code."""
    answer = counted(filters.extract(to_bytes(selector), to_bytes(tree)))
    return answer if isinstance(answer, int) else bytes(answer).decode("utf-8")


def quoted(text):
    """The canonical notation of a text."""
    text = text.replace("\\", "\\\\").replace('"', '\\"').replace("\n", "\\n").replace("\t", "\\t")
    return '"' + "".join("\\u{%x}" % ord(sign) if ord(sign) < 32 else sign for sign in text) + '"'


ESCAPES = {"\\n": "\n", "\\t": "\t", '\\"': '"', "\\\\": "\\"}


def unquoted(string):
    """The text of a string."""
    return re.sub(r"\\u\{([0-9a-f]+)\}|\\.", lambda match: chr(int(match[1], 16)) if match[1] else ESCAPES[match[0]], string[1:-1])


PIECES = re.compile(r'"(?:[^"\\]|\\.)*"|[()*]|[a-z0-9-]+')


def parsed(notation):
    """The expressions of a notation in which stars mark some: pairs of its mark and its characters or its parts."""
    levels = [[]]
    marks = [False]
    for piece in PIECES.findall(notation):
        if piece == "*":
            marks[-1] = True
        elif piece == "(":
            levels.append([])
            marks.append(False)
        elif piece == ")":
            parts = levels.pop()
            marks.pop()
            levels[-1].append((marks[-1], parts))
            marks[-1] = False
        else:
            levels[-1].append((marks[-1], piece))
            marks[-1] = False
    return levels[0]


def written(parts):
    """The canonical notation of an expression, of its characters or its parts."""
    if isinstance(parts, list):
        return "(" + " ".join(written(part) for mark, part in parts) + ")"
    return quoted(unquoted(parts)) if parts.startswith('"') else parts


def block_lists(parts):
    """The lists of blocks of a block, of its parts."""
    head = parts[0][1]
    if head in ("quote", "group", "note"):
        return [parts[1 if head == "quote" else 2:]]
    if head in ("bullets", "numbers"):
        return [item[1:] for mark, item in parts[1 if head == "bullets" else 2:]]
    return [entry[2:] for mark, entry in parts[1:]] if head == "terms" else []


def blocks_with_paths(siblings, path=()):
    """The blocks of a list and those in them, in the order of the notation: their paths, marks and parts."""
    result = []
    for index, (mark, parts) in enumerate(siblings):
        result.append((path + (index,), mark, parts))
        for number, inner in enumerate(block_lists(parts)):
            result.extend(blocks_with_paths(inner, path + (index, number)))
    return result


class Finding(unittest.TestCase):
    """Tests of selectors on documents as they are, in which stars mark what is to be found."""

    def assert_found(self, selector, starred):
        """The selector holds for just the blocks and inline elements that have a star in front of them."""
        pieces = PIECES.findall(starred)
        tree = PIECES.sub(lambda match: "" if match[0] == "*" else match[0], starred)
        blocks = [(path, parts) for path, mark, parts in blocks_with_paths(parsed(starred)) if mark]
        paths = [path for path, parts in blocks]
        self.assertEqual(select(selector, tree), paths, (selector, starred))
        self.assertEqual(extract(selector, tree), "\n".join(written(parts) for path, parts in blocks), (selector, starred))
        self.assertEqual(count(selector, tree), (len(paths), pieces.count("*") - len(paths)), (selector, starred))


def normal(tree):
    """The canonical notation of the normal form of a document."""
    return apply("", tree)


def normal_inlines(inlines):
    """The canonical notation of the normal form of inline elements."""
    notation = normal('(note "n" (heading 1 "" ' + inlines + "))")
    assert notation.startswith('(note "n" (heading 1 ""') and notation.endswith("))"), notation
    return notation[len('(note "n" (heading 1 ""'):-2].lstrip(" ")


def marked_blocks(selector, tree):
    """The notation of a document with a star ahead of each block for which a selector holds."""
    notation = apply("(blocks " + selector + ' (before (formula "MARK" "")))', tree)
    return notation.replace('(formula "MARK" "")\n', "*").replace('(formula "MARK" "") ', "*")


def marked_inlines(selector, tree):
    """The notation of a document with a star ahead of each inline element for which a selector holds."""
    notation = apply("(inlines " + selector + ' (before (math "MARK")))', tree)
    return notation.replace('(math "MARK") ', "*")


def on_block(actions, block):
    """What becomes of a document of one block, or of the blocks at the outermost level, by actions."""
    return apply("(blocks (not (parent (any))) " + actions + ")", block)


def on_inline(actions, inline):
    """What becomes of a heading's inline elements, at its outermost level, by actions."""
    notation = apply("(inlines (parent (kind heading)) " + actions + ")", '(heading 1 "" ' + inline + ")")
    if isinstance(notation, int):
        return notation
    assert notation.startswith('(heading 1 ""'), notation
    return notation[len('(heading 1 ""'):-1].lstrip(" ")


TREES = [
    "",
    "(rule)",
    '(para "a")',
    '(para " a  b " (emph "c " (strong "d")) (break) "e" (link "u" "f" (image "v" " g ")) (code " h ")) (para)',
    '(heading 1 "x" "A") (para "text " (ref "x") (noteref "n") (cite "k" "l")) (note "n" (para "N" (span (class "c") "s")))',
    '(quote (rule) (quote (para "a"))) (quote (quote (para "b"))) (bullets (item (para "c")) (item)) (bullets (item (rule)))',
    '(numbers 1 (item (para "1")) (item)) (numbers 3 (item (quote (code "c" "x = 1;")))) (numbers 7 (item (formula "f" "y")))',
    '(terms (term ("t" (strong "u")) (para "d") (bullets (item (rule)))) (term () (heading 3 "" "h")))',
    '(table "t" (caption "c" (sub "d")) (align left none) (row (cell "a") (cell (math "b"))) (row (cell) (cell (caps "x"))))',
    '(figure "f" "u.png" "Caption " (super "1")) (group (class "a" "b") (para "g") (group (class) (rule)) (group (class "c")))',
    '(note "n" (note "m" (note "o" (note "p" (para (emph (strong (strike (sub "deep")))))))))',
    '(rule) (rule) (para (emph "a") " " (emph "b") (span (class) "c")) (rule) (heading 6 "" (link "" (link "v" "w")))',
    '(para "\u00e9\u20ac\U0001f600~%^{|}" (code "\\u{1f}\\"\\\\") (math "\\n\\t"))',
]
BLOCK_KINDS = "para heading code formula rule quote bullets numbers terms table figure group note".split()
INLINE_KINDS = "text code math break noteref ref cite emph strong strike super sub caps link image span".split()
