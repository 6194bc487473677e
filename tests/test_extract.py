"""extract: the canonical notation of each form, of the document as it is, however long it becomes."""

import unittest

from tests.helper import TREES, apply, count, extract, normal, select, to_bytes
from treefiltersdesk import filters

# Forms of blocks and of inline elements in canonical notation, none of which its normal form would need to be.
BLOCKS = [
    "(para)", '(para "")', '(para " a " "" "b")', '(heading 1 "")', '(heading 6 "a-Z_0.9:" "a" (emph "b"))', '(code "" "")',
    '(code "c" " x  y ")', '(formula "" "")', '(formula "f" "x")', "(rule)", "(quote)", '(quote (rule) (para "a"))',
    "(bullets (item))", "(bullets (item (rule) (rule)) (item) (item (bullets (item))))", "(numbers 0 (item))",
    "(numbers 999999 (item (rule)) (item))", "(terms (term ()))", '(terms (term ("a" (emph "b")) (rule) (para "c")) (term () (rule)) (term ("d")))',
    '(table "" (caption) (align none) (row (cell)))', '(table "t" (caption "c" (emph "d")) (align left center right none)'
    ' (row (cell "a") (cell) (cell (code "b")) (cell "c")) (row (cell) (cell) (cell) (cell)))',
    '(figure "" "")', '(figure "f" " u " "a" (emph "b"))', "(group (class))", '(group (class "a" "b" "a") (rule))', '(note "n")',
    '(note "n" (rule) (rule))']
INLINES = [
    '""', '"a"', '" "', '(code "")', '(code " a  b ")', '(math "")', '(math "\\n")', "(break)", '(noteref "n")', '(ref "r")', '(cite "a")',
    '(cite "a" "b" "a")', "(emph)", '(emph "a")', '(strong "a")', '(strike "a")', '(super "a")', '(sub "a")', '(caps "a")',
    '(link "")', '(link " u " "a" (emph "b"))', '(image "")', '(image "u" "a" (emph "b"))', "(span (class))",
    '(span (class "b" "a" "b") "a" (emph "b"))', '(emph "a" (emph "b" (strike "c" (super "d" (sub "e" (caps "f"))))))']
OUTERMOST = "(not (parent (any)))"


def loosened(notation, gap):
    """A notation with more white space or comments than it needs, wherever these can be."""
    pieces = []
    in_string = False
    for number, sign in enumerate(notation):
        if sign == '"' and not notation[:number].endswith("\\"):
            in_string = not in_string
            pieces.append(sign if not in_string else gap + sign)
            if not in_string:
                pieces.append(gap)
        elif in_string:
            pieces.append(sign)
        else:
            pieces.append(gap + sign + gap if sign in "()" else gap if sign in " \n" else sign)
    return gap + "".join(pieces) + gap


class Canonical(unittest.TestCase):
    def assert_extracted(self, tree, notation):
        """The outermost blocks of a tree have this canonical notation."""
        self.assertEqual(extract(OUTERMOST, tree), notation, tree)

    def test_each_form_of_block(self):
        for block in BLOCKS:
            self.assert_extracted(block, block)
            for outer in ['(note "n" ' + block + ")", "(terms (term () " + block + ") (term ()))", "(bullets (item) (item " + block + "))"]:
                self.assertEqual(extract("(parent (any))", outer).split("\n")[0], block)
                self.assert_extracted(outer, outer)

    def test_each_form_of_inline_element(self):
        for inline in INLINES:
            for form in ["(para %s)", '(heading 1 "" "a" %s)', '(figure "" "" %s %s)', "(terms (term (%s)) (term (%s %s)))",
                         '(table "" (caption %s) (align none none) (row (cell %s) (cell "a" %s)))', '(para (emph %s) (link "u" %s))',
                         '(para (image "u" %s) (span (class "c") %s))']:
                tree = form.replace("%s", inline)
                self.assert_extracted(tree, tree)

    def test_line_feeds_between_blocks(self):
        self.assert_extracted("(rule)(rule) (rule)", "(rule)\n(rule)\n(rule)")
        self.assert_extracted(" ".join(BLOCKS[:12]), "\n".join(BLOCKS[:12]))
        self.assert_extracted("".join(BLOCKS[12:]), "\n".join(BLOCKS[12:]))
        self.assertEqual(filters.extract(to_bytes("(any)"), to_bytes(" (rule)( rule ) ")), [13] + to_bytes("(rule)\n(rule)"))

    def test_white_space_and_comments(self):
        for gap in [" ", "\t", "\n", "\r", "\r\n", " \t\r\n ", ";\n", "; (x) \"\n", " ;;a;\\q\n\t", ";\u20ac\n", ";\r\n"]:
            for block in BLOCKS + ["(para " + inline + ")" for inline in INLINES]:
                tree = loosened(block, gap)
                if len(to_bytes(tree)) <= 600:
                    self.assert_extracted(tree, block)
        self.assert_extracted(' (heading;c\n1""\t"a"(emph"b" ) \r\n);d\n ( rule\n);', '(heading 1 "" "a" (emph "b"))\n(rule)')
        self.assert_extracted(b';\xff\xfe"\n(para;\x80(\n"a";\x00\x01\n)', '(para "a")')
        self.assert_extracted('(numbers 7(item(rule))(item;\n))', "(numbers 7 (item (rule)) (item))")
        self.assert_extracted('(terms(term()(rule))(term("a""b")))', '(terms (term () (rule)) (term ("a" "b")))')
        self.assert_extracted('(table"t"(caption"c")(align left none)(row(cell"a")(cell)))',
                              '(table "t" (caption "c") (align left none) (row (cell "a") (cell)))')

    def test_no_white_space_at_all(self):
        self.assert_extracted('(heading 1"i""a""b")(group(class"a""b")(rule))(para(cite"a""b")(span(class"a")"b"))',
                              '(heading 1 "i" "a" "b")\n(group (class "a" "b") (rule))\n(para (cite "a" "b") (span (class "a") "b"))')


class Strings(unittest.TestCase):
    FORMS = ['(para "%s")', '(code "c" "%s")', '(formula "" "%s")', '(figure "" "%s")', '(para (code "%s"))', '(para (math "%s"))',
             '(para (link "%s"))', '(para (image "%s" "a"))', '(terms (term ("%s")))', '(table "" (caption "%s") (align none) (row (cell)))']

    def assert_written(self, string, canonical):
        for form in self.FORMS:
            self.assertEqual(extract("(any)", form.replace("%s", string)), form.replace("%s", canonical))

    def test_short_escapes(self):
        self.assert_written('\\"', '\\"')
        self.assert_written("\\\\", "\\\\")
        self.assert_written("\\n", "\\n")
        self.assert_written("\\t", "\\t")
        for code, canonical in [(34, '\\"'), (92, "\\\\"), (10, "\\n"), (9, "\\t")]:
            for form in ["%x", "%03x", "%06x"]:
                self.assert_written("a\\u{" + form % code + "}b", "a" + canonical + "b")
        self.assert_written("\\\\n\\\\u{1}\\\\\\\"", "\\\\n\\\\u{1}\\\\\\\"")

    def test_long_escapes(self):
        for code in range(32):
            if code not in (9, 10):
                for form in ["%x", "%02x", "%04x", "%06x"]:
                    self.assert_written("a\\u{" + form % code + "}b", "a\\u{%x}b" % code)
        self.assert_written("\\u{0}\\u{1}\\u{f}\\u{10}\\u{1f}", "\\u{0}\\u{1}\\u{f}\\u{10}\\u{1f}")
        self.assert_written("\\u{000000}0\\u{d}d", "\\u{0}0\\u{d}d")

    def test_all_other_characters(self):
        codes = list(range(32, 300)) + [0x7ff, 0x800, 0xfff, 0x1000, 0x20ac, 0xd7ff, 0xe000, 0xfeff, 0xfffd, 0xffff, 0x10000, 0x1f600, 0x40000,
                                        0xfffff, 0x100000, 0x10ffff]
        for code in codes:
            if chr(code) not in '"\\':
                self.assert_written("a" + chr(code) + "b", "a" + chr(code) + "b")
                self.assert_written("a\\u{%x}b" % code, "a" + chr(code) + "b")

    def test_lengths_are_numbers_of_bytes(self):
        for text, size in [("a", 1), ("\u007f", 1), ("\u0080", 2), ("\u07ff", 2), ("\u0800", 3), ("\uffff", 3), ("\U00010000", 4), ("\\u{1f}", 6),
                           ("\\n", 2), ("\\u{7f}", 1), ("\\u{10ffff}", 4)]:
            answer = filters.extract(to_bytes("(any)"), to_bytes('(para "' + text + '")'))
            self.assertEqual((answer[0], len(answer)), (9 + size, 10 + size))

    def test_labels_and_integers_and_symbols(self):
        self.assertEqual(extract("(any)", '(heading 3 "\\u{61}\\u{2e}b")'), '(heading 3 "a.b")')
        self.assertEqual(extract("(any)", '(note "\\u{00006e}" (para (cite "\\u{6b}" "l") (span (class "\\u{63}"))))').split("\n")[0],
                         '(note "n" (para (cite "k" "l") (span (class "c"))))')
        self.assertEqual(extract("(any)", "(numbers 0 (item))(numbers 10 (item))(numbers 100000 (item))"),
                         "(numbers 0 (item))\n(numbers 10 (item))\n(numbers 100000 (item))")


class Blocks(unittest.TestCase):
    def test_blocks_inside_selected_blocks(self):
        self.assertEqual(extract("(kind quote)", "(quote (quote (rule)) (quote (quote)))"),
                         "(quote (quote (rule)) (quote (quote)))\n(quote (rule))\n(quote (quote))\n(quote)")
        self.assertEqual(extract("(any)", '(bullets (item (para "a")) (item (rule))) (rule)'),
                         '(bullets (item (para "a")) (item (rule)))\n(para "a")\n(rule)\n(rule)')
        self.assertEqual(extract("(descendant (kind rule))", '(note "n" (terms (term ("a") (rule)) (term () (para "b"))))'),
                         '(note "n" (terms (term ("a") (rule)) (term () (para "b"))))\n(terms (term ("a") (rule)) (term () (para "b")))')
        self.assertEqual(extract("(kind rule)", "(quote (rule)) (numbers 1 (item (rule))) (rule)"), "(rule)\n(rule)\n(rule)")

    def test_blocks_alone(self):
        self.assertEqual(extract("(or (kind emph) (kind text))", '(para "a" (emph "b"))'), "")
        self.assertEqual(extract('(text "b")', '(para "a" (emph "b")) (para "c")'), '(para "a" (emph "b"))')

    def test_no_selected_block(self):
        for selector, tree in [("(or)", "(rule)"), ("(any)", ""), ("(kind text)", '(para "a")'), ("(any)", ";"),
                               ("(parent (any))", '(rule) (para "a")')]:
            self.assertEqual(filters.extract(to_bytes(selector), to_bytes(tree)), [0])

    def test_documents_stay_as_they_are(self):
        for tree in ["(para)\n(para)", "(quote)\n(quote)\n(group (class))", "(quote (rule))\n(quote (rule))", "(bullets (item))\n(bullets (item))",
                     "(numbers 1 (item))\n(numbers 2 (item))", '(group (class) (rule))', '(para " a  b " "c" "" "d\\t")', '(para (break) "a" (break))',
                     '(para (emph "a") (emph "b"))', '(para (emph (emph "a")) (link "u" (link "v" "b")) (span (class) "c") (sub))',
                     '(para (span (class "a" "a") "a"))', "(quote (para))", '(heading 1 "" " " "\\n")', '(code "" "")\n(para "\\n")']:
            self.assertEqual(extract(OUTERMOST, tree), tree)
        self.assertEqual(normal('(para " a  b " "c")'), '(para "a b c")')
        self.assertEqual(extract("(kind para)", "(group (class) (para) (quote (para))) (para)"), "(para)\n(para)\n(para)")
        # Neighbours in what is extracted aren't joined either.
        self.assertEqual(extract("(kind quote)", "(quote (rule)) (rule) (quote (rule))"), "(quote (rule))\n(quote (rule))")

    def test_what_is_extracted_is_a_document(self):
        for tree in TREES:
            for selector in ["(any)", OUTERMOST, "(parent (any))", "(child (any))"]:
                notation = extract(selector, tree)
                if len(to_bytes(notation)) <= 600:
                    self.assertEqual(extract(OUTERMOST, notation), notation)
                    self.assertEqual(len(select(OUTERMOST, notation)), count(selector, tree)[0])

    def test_of_a_normal_form(self):
        for tree in TREES:
            self.assertEqual(extract(OUTERMOST, normal(tree)), normal(tree))


class Long(unittest.TestCase):
    """There is no bound of 3000 bytes, and no -28."""

    def test_a_long_text_in_many_blocks(self):
        for head in ["(quote ", '(note "n" ', '(group (class "c") ', "(group (class) "]:
            inner = '(para "' + "a" * (591 - 15 * (len(head) + 1)) + '")'
            tree = head * 15 + inner + ")" * 15
            self.assertEqual(len(tree), 600)
            expected = "\n".join(head * depth + inner + ")" * depth for depth in range(15, -1, -1))
            self.assertGreater(len(expected), 6000)
            self.assertEqual(extract("(any)", tree), expected)
            self.assertEqual(extract("(not (kind para))", tree), expected[:expected.rindex("\n")])
            self.assertEqual(extract("(kind para)", tree), inner)

    def test_lists_in_lists(self):
        for head in ["(bullets (item ", "(numbers 1 (item ", "(terms (term () "]:
            inner = '(para "' + "\u20ac" * ((591 - 7 * (len(head) + 2)) // 3) + '")'
            tree = head * 7 + inner + "))" * 7
            self.assertLessEqual(len(to_bytes(tree)), 600)
            expected = "\n".join(head * depth + inner + "))" * depth for depth in range(7, -1, -1))
            self.assertGreater(len(to_bytes(expected)), 3000)
            self.assertEqual(extract("(any)", tree), expected)

    def test_long_escape_sequences(self):
        inner = '(code "" "' + "\\u{1f}" * 70 + '")'
        tree = "(quote " * 15 + inner + ")" * 15
        self.assertLessEqual(len(tree), 600)
        answer = filters.extract(to_bytes("(any)"), to_bytes(tree))
        self.assertEqual(answer[0], len(answer) - 1)
        self.assertEqual(answer[0], 16 * len(inner) + 8 * 120 + 15)

    def test_many_blocks(self):
        self.assertEqual(extract("(any)", "(rule)" * 100), "\n".join(["(rule)"] * 100))
        tree = "(quote" + "(rule)" * 98 + ")"
        self.assertEqual(extract("(any)", tree), "(quote" + " (rule)" * 98 + ")" + "\n(rule)" * 98)
        self.assertEqual(extract("(last)", tree), "(quote" + " (rule)" * 98 + ")\n(rule)")
        tree = "(quote " * 14 + "(rule)" * 64 + ")" * 14
        self.assertEqual(len(extract("(kind quote)", tree)), sum(8 * depth + 7 * 64 - 1 for depth in range(1, 15)) + 13)

    def test_bounds_of_programs_hold_for_programs_alone(self):
        tree = "(quote " * 15 + '(para "' + "a" * 450 + '")' + ")" * 15
        self.assertEqual(apply("(blocks (any) (after (self)))", tree), -28)
        self.assertEqual(len(extract("(any)", tree)), 16 * 459 + 8 * 120 + 15)
