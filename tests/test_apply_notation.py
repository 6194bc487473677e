"""apply: which documents and programs it reads, and how it writes documents."""

import unittest

from tests.helper import apply, normal

BLOCKS = [
    '(para "a")',
    '(heading 1 "")',
    '(heading 6 "a-Z_0.9:" "a" (emph "b"))',
    '(code "" "")',
    '(code "c" " x  y ")',
    '(formula "" "")',
    '(formula "f" "x")',
    "(rule)",
    '(quote (rule) (para "a"))',
    "(bullets (item))",
    '(bullets (item (rule) (rule)) (item) (item (bullets (item))))',
    "(numbers 0 (item))",
    '(numbers 999999 (item (rule)) (item))',
    "(terms (term ()))",
    '(terms (term ("a" (emph "b")) (rule) (para "c")) (term () (rule)) (term ("d")))',
    '(table "" (caption) (align none) (row (cell)))',
    '(table "t" (caption "c" (emph "d")) (align left center right none)'
    ' (row (cell "a") (cell) (cell (code "b")) (cell "c")) (row (cell) (cell) (cell) (cell)))',
    '(figure "" "")',
    '(figure "f" " u " "a" (emph "b"))',
    '(group (class "a" "b" "a") (rule))',
    '(note "n")',
    '(note "n" (rule) (rule))',
]

INLINES = [
    '"a"', '(code "")', '(code " a  b ")', '(math "")', '(math "\\n")', '(noteref "n")', '(ref "r")', '(cite "a")',
    '(cite "a" "b" "a")', '(emph "a")', '(strong "a")', '(strike "a")', '(super "a")', '(sub "a")', '(caps "a")',
    '(link "" "a")', '(link " u " "a" (emph "b"))', '(image "")', '(image "u" "a" (emph "b"))', '(span (class "a") "a")',
    '(span (class "b" "a" "b") "a" (emph "b"))', '"a" (break) "b"',
    '(emph "a" (strong "b" (strike "c" (super "d" (sub "e" (caps "f"))))))',
]


class Blocks(unittest.TestCase):
    def test_canonical_blocks_stay(self):
        for block in BLOCKS:
            self.assertEqual(normal(block), block)
            self.assertEqual(normal("(note \"n\" " + block + ")"), "(note \"n\" " + block + ")")

    def test_canonical_inline_elements_stay(self):
        for inline in INLINES:
            self.assertEqual(normal("(para " + inline + ")"), "(para " + inline + ")")

    def test_blocks_are_separated_by_line_feeds(self):
        self.assertEqual(normal("(rule)(rule) (rule)"), "(rule)\n(rule)\n(rule)")
        self.assertEqual(normal(""), "")
        self.assertEqual(normal(" ; nothing"), "")

    def test_parts_are_separated_by_single_spaces(self):
        self.assertEqual(
            normal(' (heading;c\n1""\t"a"(emph"b" ) \r\n);d\n ( rule\n)'), '(heading 1 "" "a" (emph "b"))\n(rule)')
        self.assertEqual(normal('(terms(term( "a" )(rule))(term(;\n)))'), '(terms (term ("a") (rule)) (term ()))')


class Strings(unittest.TestCase):
    def written(self, string):
        notation = normal('(code "" "' + string + '")')
        self.assertTrue(notation.startswith('(code "" "') and notation.endswith('")'))
        return notation[len('(code "" "'):-2]

    def test_short_escapes(self):
        self.assertEqual(self.written("\\\"\\\\\\n\\t"), "\\\"\\\\\\n\\t")
        self.assertEqual(self.written("\\u{22}\\u{5c}\\u{a}\\u{9}"), "\\\"\\\\\\n\\t")

    def test_long_escapes(self):
        for code in range(32):
            if code not in (9, 10):
                self.assertEqual(self.written("a\\u{%06x}b" % code), "a\\u{%x}b" % code)

    def test_all_other_characters(self):
        for code in list(range(32, 300)) + [0x7ff, 0x800, 0xd7ff, 0xe000, 0xfffd, 0xffff, 0x10000, 0x3ffff, 0x40000, 0x40fff, 0x41000,
                                             0x7ffff, 0x80000, 0xbffff, 0xc0000, 0xfffff, 0x100000, 0x10ffff]:
            if chr(code) not in '"\\':
                self.assertEqual(self.written("a" + chr(code) + "b"), "a" + chr(code) + "b")
                self.assertEqual(self.written("a\\u{%x}b" % code), "a" + chr(code) + "b")

    def test_length_counts_bytes(self):
        # The helper compares the length with the number of bytes.
        self.assertEqual(normal('(para "\\u{20ac}\\u{1f600}")'), '(para "\u20ac\U0001f600")')


class NoDocument(unittest.TestCase):
    def assert_refused(self, trees):
        for tree in trees:
            self.assertEqual(apply("", tree), -20, tree)
            self.assertEqual(apply("", "(rule) " + tree), -20, tree)
            self.assertEqual(apply("", '(note "n" ' + tree + ")"), -20, tree)
            self.assertEqual(apply("(blocks (kind x))", tree), -21, tree)

    def test_no_blocks(self):
        self.assert_refused([
            '"a"', "1", "x", "()", "(x)", "(1)", '("para")', "((rule))", '(emph "a")', "(break)", '(code "a")', "(item)",
            "(term ())", "(row)", "(cell)", "(caption)", "(class)", "(align none)", '(link "u")', '(image "u")',
            '(noteref "a")', '(cite "a")', '(math "a")', '(span (class))', "(self)", "(content)", "(inlines)",
            "(block)", "(paragraph)"])

    def test_blocks_with_wrong_parts(self):
        self.assert_refused([
            "(para 1)", "(para a)", "(para (rule))", "(para (para))", '(para ("a"))', "(para ())", "(para (x))",
            "(heading)", "(heading 1)", '(heading "" 1)', '(heading 0 "")', '(heading 7 "")', '(heading "1" "")',
            '(heading 1 "a b")', "(heading 1 a)", '(heading 1 "" (rule))', '(heading 1 "" 1)', '(heading 1 "a" a)',
            "(code)", '(code "" "" "")', '(code "a b" "c")', '(code a "b")', '(code "a" b)', '(code "a" 1)',
            "(formula)", '(formula "a")', '(formula "a b" "")', '(formula "" a)', '(formula "" "" "")',
            "(rule 1)", '(rule "a")', "(rule (rule))",
            '(quote "a")', "(quote 1)", '(quote (emph "a"))', "(quote (item))",
            "(figure)", '(figure "a")', '(figure "a b" "")', '(figure "" 1)', '(figure "" "" (rule))', '(figure "" a)',
            "(group)", "(group (rule))", '(group ("a"))', '(group (class "") (rule))', '(group (class "a b"))',
            "(group (class a))", '(group (class "a") "a")', '(group (class) (class))', '(group "a")',
            "(note)", '(note "")', '(note "a b")', '(note "a" "b")', "(note (rule))", "(note a)", '(note "a" (emph))'])

    def test_lists_and_tables_with_wrong_parts(self):
        self.assert_refused([
            "(bullets)", "(bullets (rule))", '(bullets (item "a"))', "(bullets (item) (rule))", "(bullets item)",
            "(bullets 1 (item))", "(bullets ())", "(bullets (item (item)))",
            "(numbers)", "(numbers 1)", "(numbers (item))", '(numbers "1" (item))', "(numbers 1 (rule))",
            "(numbers 1 2 (item))", "(numbers 1000000 (item))", "(numbers 01 (item))", '(numbers 1 (item "a"))',
            "(terms)", "(terms (term))", '(terms (term "a"))', "(terms (rule))", "(terms (term (rule)))",
            '(terms (term (emph "a")))', '(terms (term ("a") "b"))', "(terms (term () ()))", "(terms (item))",
            '(terms (term ("a" (rule))))', "(terms (term (1)))",
            "(table)", '(table "")', '(table "" (caption) (align none))', '(table "" (caption) (align) (row))',
            '(table "" (caption) (align none) (row))', '(table "" (caption) (align none) (row (cell) (cell)))',
            '(table "" (caption) (align none none) (row (cell)))', '(table "a b" (caption) (align none) (row (cell)))',
            '(table (caption) (align none) (row (cell)))', '(table "" (align none) (row (cell)))',
            '(table "" (caption) (row (cell)))', '(table "" (caption) (align middle) (row (cell)))',
            '(table "" (caption) (align "none") (row (cell)))', '(table "" (caption (rule)) (align none) (row (cell)))',
            '(table "" (caption) (align none) (row (rule)))', '(table "" (caption) (align none) (row (cell (rule))))',
            '(table "" (caption) (align none) (cell))', '(table "" (align none) (caption) (row (cell)))',
            '(table "" (caption) (align none) (row (cell)) (row))',
            '(table "" (caption) (align none) (row (cell)) (row (cell) (cell)))',
            '(table "" "a" (align none) (row (cell)))'])

    def test_inline_elements_with_wrong_parts(self):
        self.assert_refused(["(para " + inline + ")" for inline in [
            "(code)", '(code "a" "b")', "(code a)", "(code 1)", "(math)", '(math "a" "b")', "(math (break))",
            "(break 1)", '(break "a")', "(noteref)", '(noteref "")', '(noteref "a b")', '(noteref "a" "b")',
            "(noteref a)", "(ref)", '(ref "")', '(ref "a b")', '(ref "a" "b")', "(ref 1)",
            "(cite)", '(cite "")', '(cite "a" "")', '(cite "a" b)', '(cite "a b")', "(cite 1)",
            "(emph 1)", "(emph (rule))", "(strong a)", "(strike (x))", "(super ())", "(sub (item))", "(caps (para))",
            "(link)", '(link (emph "a"))', "(link 1)", '(link "" (rule))', '(link "" 1)', "(image)", "(image a)",
            '(image "" (rule))', "(span)", '(span "a")', '(span (class "") "a")', '(span (class "a") 1)',
            '(span (class "a b"))', "(span (class a))", "(span (emph))", "(style)", "(small-caps)", "(text)",
            '(text "a")']])

    def test_labels(self):
        for label in ["a" * 41, "\u00e9", "a/b", "\\n", "a\\u{0}"]:
            self.assert_refused([form % label for form in [
                '(heading 1 "%s")', '(code "%s" "")', '(formula "%s" "")', '(figure "%s" "")', '(group (class "%s"))',
                '(note "%s")', '(para (ref "%s"))', '(para (noteref "%s"))', '(para (cite "%s"))',
                '(para (span (class "%s")))', '(table "%s" (caption) (align none) (row (cell)))']])
        self.assertEqual(normal('(note "' + "a" * 40 + '")'), '(note "' + "a" * 40 + '")')

    def test_no_expressions(self):
        self.assert_refused(["(rule", "(para \"a)", ")", "(RULE)", '(para "\\q")', "(numbers 0000 (item))", "("])
        for tree in [b'(para "\x80")', b"\xef\xbb\xbf(rule)", b'(para "\xed\xa0\x80")', b'(para "\x01")', b'"\xc3', b"("]:
            self.assertEqual(apply("", tree), -20)

    def test_depth(self):
        self.assertEqual(normal('(note "n" ' * 15 + "(rule)" + ")" * 15), '(note "n" ' * 15 + "(rule)" + ")" * 15)
        self.assertEqual(normal('(note "n" ' * 16 + "(rule)" + ")" * 16), -20)
        # A string is no list.
        self.assertEqual(normal('(note "n" ' * 15 + '(para "a")' + ")" * 15).count("("), 16)
        self.assertEqual(normal('(note "n" ' * 15 + '(para (emph "a"))' + ")" * 15), -20)


class NoProgram(unittest.TestCase):
    PROGRAMS = [
        "(", ")", '"\\q"', b'"\x80', "00", "(" * 17, "(x)", "(blocks)", "(repeat 0)", "(repeat a)", "(blocks (kind x))",
        "(blocks (any) (x))", "(blocks (any)) (any)", "rule", '(blocks (any) (add-class ""))', "(when (any) (x))"]

    def test_no_program(self):
        for program in self.PROGRAMS:
            self.assertEqual(apply(program, "(rule)"), -21, program)
            self.assertEqual(apply(program, ""), -21, program)

    def test_no_program_and_no_document(self):
        for program in self.PROGRAMS:
            for tree in ["(", "x", '(para "\\q")', "(heading 0)"]:
                self.assertEqual(apply(program, tree), -21, program)

    def test_errors_that_would_never_be_executed(self):
        self.assertEqual(apply("(when (not (any)) (blocks (kind x)))", "(rule)"), -21)
        self.assertEqual(apply("(when (not (any)) (blocks (any) (replace (x))))", "(rule)"), "(rule)")

    def test_no_document_whatever_the_program_does(self):
        self.assertEqual(apply("(blocks (any) (replace (x)))", "(rule) x"), -20)
        self.assertEqual(apply("(blocks (any) (remove))", "(x)"), -20)
