"""What the tests share: texts instead of lists of bytes, and shorthands for programs."""

from treefiltersdesk import filters


def to_bytes(text):
    """The list of bytes of a text, of a bytes object or of a list."""
    return list(text.encode("utf-8")) if isinstance(text, str) else list(text)


def check(program):
    """The answer of check."""
    return filters.check(to_bytes(program))


def numbers(answer):
    """The numbers of an answer, or its error code."""
    assert type(answer) is list and all(type(number) is int for number in answer), answer
    if answer[0] < 0:
        assert len(answer) == 1, answer
        return answer[0]
    return answer


def counted(answer):
    """What an answer has after the count that it begins with, or its error code."""
    answer = numbers(answer)
    if isinstance(answer, int):
        return answer
    assert answer[0] == len(answer) - 1, answer
    return answer[1:]


def apply(program, tree):
    """The notation that apply answers, or its error code."""
    answer = counted(filters.apply(to_bytes(program), to_bytes(tree)))
    return answer if isinstance(answer, int) else bytes(answer).decode("utf-8")


def trace(program, tree):
    """The numbers that trace answers, without their count, or its error code."""
    return counted(filters.trace(to_bytes(program), to_bytes(tree)))


def is_stable(program, tree):
    """The number that is_stable answers, or its error code."""
    answer = numbers(filters.is_stable(to_bytes(program), to_bytes(tree)))
    if isinstance(answer, int):
        return answer
    assert answer in ([0], [1]), answer
    return answer[0]


def normal(tree):
    """The canonical notation of the normal form of a document."""
    return apply("", tree)


def normal_inlines(inlines):
    """The canonical notation of the normal form of inline elements."""
    notation = normal('(note "n" (heading 1 "" ' + inlines + "))")
    assert notation.startswith('(note "n" (heading 1 ""') and notation.endswith("))"), notation
    return notation[len('(note "n" (heading 1 ""'):-2].lstrip(" ")


def marked_blocks(selector, tree):
    """The notation of a document with a star ahead of each block for which a selector holds."""
    notation = apply("(blocks " + selector + ' (before (formula "MARK" "")))', tree)
    return notation.replace('(formula "MARK" "")\n', "*").replace('(formula "MARK" "") ', "*")


def marked_inlines(selector, tree):
    """The notation of a document with a star ahead of each inline element for which a selector holds."""
    notation = apply("(inlines " + selector + ' (before (math "MARK")))', tree)
    return notation.replace('(math "MARK") ', "*")


def on_block(actions, block):
    """What becomes of a document of one block, or of the blocks at the outermost level, by actions."""
    return apply("(blocks (not (parent (any))) " + actions + ")", block)


def on_inline(actions, inline):
    """What becomes of a heading's inline elements, at its outermost level, by actions."""
    notation = apply("(inlines (parent (kind heading)) " + actions + ")", '(heading 1 "" ' + inline + ")")
    if isinstance(notation, int):
        return notation
    assert notation.startswith('(heading 1 ""'), notation
    return notation[len('(heading 1 ""'):-1].lstrip(" ")


TREES = [
    "",
    "(rule)",
    '(para "a")',
    '(para " a  b " (emph "c " (strong "d")) (break) "e" (link "u" "f" (image "v" " g ")) (code " h ")) (para)',
    '(heading 1 "x" "A") (para "text " (ref "x") (noteref "n") (cite "k" "l")) (note "n" (para "N" (span (class "c") "s")))',
    '(quote (rule) (quote (para "a"))) (quote (quote (para "b"))) (bullets (item (para "c")) (item)) (bullets (item (rule)))',
    '(numbers 1 (item (para "1")) (item)) (numbers 3 (item (quote (code "c" "x = 1;")))) (numbers 7 (item (formula "f" "y")))',
    '(terms (term ("t" (strong "u")) (para "d") (bullets (item (rule)))) (term () (heading 3 "" "h")))',
    '(table "t" (caption "c" (sub "d")) (align left none) (row (cell "a") (cell (math "b"))) (row (cell) (cell (caps "x"))))',
    '(figure "f" "u.png" "Caption " (super "1")) (group (class "a" "b") (para "g") (group (class) (rule)) (group (class "c")))',
    '(note "n" (note "m" (note "o" (note "p" (para (emph (strong (strike (sub "deep")))))))))',
    '(rule) (rule) (para (emph "a") " " (emph "b") (span (class) "c")) (rule) (heading 6 "" (link "" (link "v" "w")))',
    '(para "\u00e9\u20ac\U0001f600~%^{|}" (code "\\u{1f}\\"\\\\") (math "\\n\\t"))',
]
BLOCK_KINDS = "para heading code formula rule quote bullets numbers terms table figure group note".split()
INLINE_KINDS = "text code math break noteref ref cite emph strong strike super sub caps link image span".split()
