"""select, count and extract: the plain text of each kind of block and inline element, by `text` and `empty`."""

from tests.helper import Finding, count, quoted, select

# Blocks, and their plain text.
BLOCKS = [
    ("(para)", "\n"),
    ('(para "a b")', "a b\n"),
    ('(para "a" (break) (emph "b" (code "c")) (noteref "n") (ref "r") (cite "k" "l") "d")', "a\nbcrk, ld\n"),
    ('(para " a " "" (break) " ")', " a \n \n"),
    ('(heading 2 "i")', "\n"),
    ('(heading 2 "i" "a" (strong "b"))', "ab\n"),
    ('(figure "i" "u")', "\n"),
    ('(figure "i" "u" "a" (link "v" "b"))', "ab\n"),
    ('(code "l" "")', "\n"),
    ('(code "l" "x\\n\\ty\\n")', "x\n\ty\n\n"),
    ('(formula "i" "")', "\n"),
    ('(formula "i" "x \\\\ y")', "x \\ y\n"),
    ("(rule)", ""),
    ("(quote)", ""),
    ('(quote (para "a") (rule) (para "b"))', "a\nb\n"),
    ('(quote (quote (para "a") (para)) (quote))', "a\n\n"),
    ("(bullets (item))", ""),
    ('(bullets (item (para "a") (para "b")) (item) (item (rule) (para "c")))', "a\nb\nc\n"),
    ("(numbers 5 (item) (item))", ""),
    ('(numbers 5 (item (para "a")) (item (bullets (item (para "b")))))', "a\nb\n"),
    ("(terms (term ()))", "\n"),
    ('(terms (term ("a" (emph "b"))))', "ab\n"),
    ('(terms (term ("a" (emph "b")) (para "c") (rule)) (term () (para "d")) (term ("e")))', "ab\nc\n\nd\ne\n"),
    ('(table "i" (caption) (align none) (row (cell)))', "\n"),
    ('(table "i" (caption) (align left right) (row (cell "a") (cell "b" (emph "c"))) (row (cell) (cell "d")))', "a\tbc\n\td\n"),
    ('(table "i" (caption "t" (sub "u")) (align none none none) (row (cell) (cell) (cell)))', "tu\n\t\t\n"),
    ('(table "i" (caption (noteref "n")) (align center) (row (cell "a")))', "\na\n"),
    ('(table "i" (caption "") (align center) (row (cell "a")))', "\na\n"),
    ('(group (class "c"))', ""),
    ('(group (class) (para "a") (code "l" "b"))', "a\nb\n"),
    ('(note "n")', ""),
    ('(note "n" (heading 1 "i" "a") (note "m" (para "b")))', "a\nb\n"),
]
# Inline elements, and their plain text.
INLINES = [
    ('""', ""),
    ('" a  b\\n"', " a  b\n"),
    ('(code "")', ""),
    ('(code " x\\t")', " x\t"),
    ('(math "")', ""),
    ('(math "\\\\frac\\"")', "\\frac\""),
    ("(break)", "\n"),
    ('(noteref "n")', ""),
    ('(ref "r")', "r"),
    ('(cite "k")', "k"),
    ('(cite "k" "l" "k")', "k, l, k"),
    ("(emph)", ""),
    ('(emph "a" (break) (strong "b"))', "a\nb"),
    ('(strong (code "a") " " (math "b"))', "a b"),
    ('(strike "a" (noteref "n") "b")', "ab"),
    ('(super (ref "r") (cite "k" "l"))', "rk, l"),
    ('(sub (caps (emph "a")))', "a"),
    ('(caps "" "a" "")', "a"),
    ('(link "u")', ""),
    ('(link "u" "a" (emph "b"))', "ab"),
    ('(image "u")', ""),
    ('(image "u" "a" (break))', "a\n"),
    ('(span (class "c"))', ""),
    ('(span (class) "a" (image "u" "b"))', "ab"),
]
OTHER_SIGNS = "\n\t ,;abcdeiklmnrtuvxy0123456789\\\"\r"


class PlainTexts(Finding):
    def assert_plain(self, holds, text):
        """The plain text, of which holds(selector) tells whether it contains one, is this text and no longer one."""
        self.assertTrue(holds("(text " + quoted(text) + ")"))
        for sign in OTHER_SIGNS:
            self.assertFalse(holds("(text " + quoted(sign + text) + ")"), (sign, text))
            self.assertFalse(holds("(text " + quoted(text + sign) + ")"), (text, sign))
        self.assertEqual(holds("(empty)"), text.strip(" \t\n\r") == "")
        self.assertEqual(holds("(not (empty))"), text.strip(" \t\n\r") != "")

    def test_blocks(self):
        outermost = "(and (not (parent (any))) %s)"
        for block, text in BLOCKS:
            with self.subTest(block=block):
                self.assert_plain(lambda selector: select(outermost % selector, block) == [(0,)], text)

    def test_blocks_in_a_list(self):
        inner = '(and (parent (label "z")) %s)'
        for block, text in BLOCKS:
            tree = '(terms (term ("z") (note "z" ' + block + ")))"
            with self.subTest(block=block):
                self.assert_plain(lambda selector: select(inner % selector, tree) == [(0, 0, 0, 0, 0)], text)
                self.assertEqual(count("(and (kind terms) (text " + quoted("z\n" + text) + "))", tree), (1, 0))

    def test_inline_elements(self):
        outermost = "(and (parent (not (parent (any)))) %s)"
        for inline, text in INLINES:
            for form in ["(para %s)", '(figure "f" "" %s)', "(terms (term (%s)))"]:
                with self.subTest(inline=inline):
                    self.assert_plain(lambda selector: count(outermost % selector, form % inline) == (0, 1), text)

    def test_each_kind_of_block_empty_and_not(self):
        self.assert_found("(empty)",
                          '*(para) *(para *" ") (para "a") *(heading 1 "") (heading 1 "" "a") *(code "c" "") (code "c" "x")')
        self.assert_found("(empty)", '*(formula "f" "\\t") (formula "f" "x") *(rule) *(quote *(rule)) (quote (para "a") *(rule))')
        self.assert_found("(empty)",
                          '*(bullets (item) (item *(rule))) (bullets (item) (item (para "a"))) '
                          '*(numbers 9 (item)) (numbers 9 (item (para "a")))')
        self.assert_found("(empty)",
                          '*(terms (term ())) (terms (term ("a"))) (terms (term () (para "b"))) *(terms (term (*" ") *(para)))')
        self.assert_found("(empty)",
                          '*(figure "f" "u") (figure "f" "u" "a") *(group (class "c")) '
                          '(group (class "c") (para "a")) *(note "n") (note "n" (para "a"))')
        self.assert_found("(empty)",
                          '*(table "t" (caption) (align none none) (row (cell) (cell))) '
                          '(table "t" (caption "a") (align none) (row (cell)))')
        self.assert_found("(empty)", '(table "t" (caption) (align none none) (row (cell) (cell "a")))')

    def test_each_kind_of_inline_element_empty_and_not(self):
        self.assert_found("(empty)",
                          '(para "a" *"" *" \\t\\n\\u{d}" (code "a") *(code "") (math "a") *(math " ") *(break) *(noteref "n"))')
        self.assert_found("(empty)",
                          '(para (ref "r") (cite "k") *(emph) (strong "a") *(strike *(noteref "n")) (super "a") *(sub *(break)) (caps (ref "r")))')
        self.assert_found("(empty)",
                          '(para *(link "u") (link "u" "a") *(image "u") (image "" "a") *(span (class "c")) (span (class) "a" *" "))')
        self.assert_found("(empty)",
                          '(para (code "\u00a0") (code "\\u{b}") (code "\\u{c}") (code "\\u{0}") (code "\\u{1f}") (code "\\u{85}"))')
        self.assert_found("(not (empty))", '*(para *"a" " " *(emph *"b" (break)))')


class Texts(Finding):
    def test_it_contains_the_text(self):
        self.assert_found('(text "ab")', '*(para *"xaby" (code "a") *(code "ab") *(math "ab") (code "ba") (code "AB"))')
        self.assert_found('(text "ab")',
                          '*(para (emph "a") (emph "b")) *(heading 1 "" "a" "b") (para "a" (break) "b") (para "a") (para "b")')
        self.assert_found('(text "ab")',
                          '(figure "ab" "ab") (group (class "ab")) (note "ab") (code "ab" "") (para (link "ab") (noteref "ab"))')
        self.assert_found('(text "")', '*(rule) *(para *"" *(image "u")) *(quote)')
        self.assert_found('(text "1")', '(numbers 1 (item (rule))) (heading 1 "1") *(para *"1")')

    def test_over_the_ends_of_blocks(self):
        self.assert_found('(text "a\\nb")',
                          '*(quote (para "a") (para "b")) *(bullets (item (para "a")) (item (rule)) (item (para "b")))')
        self.assert_found('(text "a\\nb")',
                          '*(terms (term ("a") (para "b"))) *(terms (term ("a")) (term ("b"))) (terms (term ("b") (para "a")))')
        self.assert_found('(text "a\\nb")',
                          '*(table "" (caption "a") (align none) (row (cell "b"))) '
                          '(table "" (caption "a" (break)) (align none) (row (cell "b")))')
        self.assert_found('(text "a\\tb")',
                          '*(table "" (caption) (align none none) (row (cell "a") (cell "b"))) '
                          '(table "" (caption "a") (align none) (row (cell "b")))')
        self.assert_found('(text "a\\n\\nb")',
                          '(quote (para "a") (para "b")) *(quote (para "a") (para) (para "b")) '
                          '*(quote (para "a") (heading 1 "") (para "b"))')
        self.assert_found('(text "\\n")',
                          '(rule) *(para) *(heading 1 "") *(para *(break)) (bullets (item)) *(terms (term ())) *(code "" "")')

    def test_keys(self):
        self.assert_found('(text "k, l")',
                          '*(para *(cite "k" "l")) (para (cite "k") (cite "l")) *(para *(cite "j" "k" "l")) (para (cite "l" "k"))')
        self.assert_found('(text ", ")', '(para (cite "k")) *(para *(cite "k" "l"))')

    def test_other_characters(self):
        self.assert_found('(text "\u00e9")', '*(para *"caf\u00e9s" (code "caf\u00ea") (code "e") (code "\u00c9"))')
        self.assert_found('(text "\u20ac")', '*(para *"1 \u20ac" (code "\u20ad") (code "\u00ac"))')
        self.assert_found('(text "\u0082")', '*(para "\u20ac" *(code "\u0082"))')
        self.assert_found('(text "\\u{1f600}")', '*(para *"\U0001f600" (code "\U0001f601") (code "\\u{1f60}"))')
        self.assert_found('(text "\\u{d}")', '*(para (code "a") *(code "a\\u{d}") (code "d"))')
        self.assert_found('(text "\\u{0}")', '*(para (code "0") *(code "a\\u{0}") (code ""))')
        self.assert_found('(text "~")', '*(para *"~" (code "\u00e9\\u{1}|%^{}") *(code "%~"))')
        self.assert_found('(text "{")', '*(para *"a{" (code "\u00e9\u20ac~|}") (code "%^"))')
        self.assert_found('(text "\\"\\\\")', '*(para *"\\u{22}\\u{5c}" (code "\\\\\\""))')
