"""apply: every row of the table of selectors, for blocks and for inline elements."""

import unittest

from tests.helper import apply, marked_blocks, marked_inlines

BLOCKS = {
    "para": '(para "a")',
    "heading": '(heading 1 "")',
    "code": '(code "" "a")',
    "formula": '(formula "" "a")',
    "rule": "(rule)",
    "quote": "(quote (rule))",
    "bullets": "(bullets (item))",
    "numbers": "(numbers 1 (item))",
    "terms": "(terms (term ()))",
    "table": '(table "" (caption) (align none) (row (cell)))',
    "figure": '(figure "" "")',
    "group": '(group (class "x") (rule))',
    "note": '(note "n")',
}
INLINES = {
    "text": '"a"',
    "code": '(code "a")',
    "math": '(math "a")',
    "noteref": '(noteref "n")',
    "ref": '(ref "r")',
    "cite": '(cite "k")',
    "emph": '(emph (math "a"))',
    "strong": '(strong (math "a"))',
    "strike": '(strike (math "a"))',
    "super": '(super (math "a"))',
    "sub": '(sub (math "a"))',
    "caps": '(caps (math "a"))',
    "link": '(link "u" (math "a"))',
    "image": '(image "u")',
    "span": '(span (class "x") (math "a"))',
}


class Selectors(unittest.TestCase):
    def assert_blocks(self, selector, expected):
        """The selector holds for just the blocks that have a star in front of them."""
        self.assertEqual(marked_blocks(selector, expected.replace("*", "")), expected, selector)

    def assert_inlines(self, selector, expected):
        """The selector holds for just the inline elements that have a star in front of them."""
        self.assertEqual(marked_inlines(selector, expected.replace("*", "")), expected, selector)


class Simple(Selectors):
    def test_any(self):
        self.assert_blocks("(any)", '*(para "a" (emph "b"))\n*(quote *(rule) *(bullets (item *(rule)) (item)))')
        self.assert_inlines("(any)", '(para *"a" *(emph *(link "u" *"b")) *(code "c"))')
        self.assertEqual(marked_blocks("(any)", ""), "")

    def test_steps_select_their_own_items_alone(self):
        self.assert_blocks("(any)", '*(para "a")')
        self.assert_inlines("(any)", '(para *"a")\n(rule)')
        self.assertEqual(apply("(inlines (kind para) (remove))", '(para "a")'), '(para "a")')
        self.assertEqual(apply("(blocks (kind text) (remove))", '(para "a")'), '(para "a")')

    def test_kind_of_blocks(self):
        for kind in BLOCKS:
            for other in BLOCKS:
                expected = ("*" if kind == other else "") + BLOCKS[other]
                if kind == "rule" and other in ("quote", "group"):
                    expected = expected.replace("(rule)", "*(rule)")
                self.assert_blocks("(kind " + kind + ")", expected)
        for kind in INLINES:
            if kind != "code":
                self.assert_blocks("(kind " + kind + ")", "\n".join(BLOCKS.values()))

    def test_kind_of_inline_elements(self):
        for kind in INLINES:
            for other in INLINES:
                expected = ("*" if kind == other else "") + INLINES[other]
                if kind == "math" and other != "math":
                    expected = expected.replace("(math", "*(math")
                self.assert_inlines("(kind " + kind + ")", "(para " + expected + ")")
        self.assert_inlines("(kind break)", '(para "a" *(break) "b")')
        for kind in BLOCKS:
            if kind != "code":
                self.assert_inlines("(kind " + kind + ")", "(para " + " ".join(INLINES.values()) + ")")

    def test_kind_code_of_both(self):
        self.assert_blocks("(kind code)", '(para (code "a"))\n*(code "" "b")')
        self.assert_inlines("(kind code)", '(para *(code "a"))\n(code "" "b")')

    def test_level(self):
        headings = ['(heading %d "")' % level for level in range(1, 7)]
        for low in range(1, 7):
            for high in range(1, 7):
                marked = ["*" * (low <= level <= high) + headings[level - 1] for level in range(1, 7)]
                self.assert_blocks("(level %d %d)" % (low, high), "\n".join(marked))
        self.assert_blocks("(level 1 6)", '(rule)\n(numbers 1 (item))\n(note "n" *(heading 3 ""))')
        self.assert_inlines("(level 1 6)", '(heading 1 "" "a")')
        self.assert_inlines("(parent (level 2 3))", '(heading 1 "" "a")\n(heading 2 "" *"a" *(emph "b"))')


class Attributes(Selectors):
    def test_label_of_blocks(self):
        for block in ['(heading 1 "%s")', '(formula "%s" "x")', '(figure "%s" "x")',
                      '(table "%s" (caption "x") (align none) (row (cell)))']:
            self.assert_blocks('(label "x")', "*" + block % "x")
            for label in ["", "y", "xx", "X"]:
                self.assert_blocks('(label "x")', block % label)
            self.assert_blocks('(label "")', "*" + block % "")
            self.assert_blocks('(label "")', block % "x")
        self.assert_blocks('(label "x")', '*(note "x" (note "y" *(note "x")))')
        self.assert_blocks('(label "")', '(note "x")')

    def test_label_of_other_blocks(self):
        self.assert_blocks('(label "x")', '(code "x" "x")\n(group (class "x") (rule))\n(para "x" (ref "x"))\n(rule)')
        self.assert_blocks('(label "")', '(code "" "")\n(para "x")\n(rule)\n(quote (rule))\n(bullets (item))')

    def test_label_of_inline_elements(self):
        self.assert_inlines('(label "x")', '(para *(ref "x") (ref "y") *(noteref "x") (noteref "xx"))')
        self.assert_inlines('(label "x")', '(para *(cite "x") *(cite "y" "x") (cite "y") *(cite "x" "x" "z"))')
        self.assert_inlines('(label "")', '(para (ref "x") (noteref "x") (cite "x") "a" (emph "b"))')
        self.assert_inlines('(label "x")', '(para "x" (code "x") (link "x" "x") (span (class "x") (math "x")))')
        self.assert_inlines('(label "x")', '(heading 1 "x" "a")')

    def test_names_of_the_notation_are_no_labels(self):
        self.assert_inlines('(label "cite")', '(para (cite "x") *(cite "cite") (ref "x"))')
        self.assert_inlines('(class "class")', '(para (span (class "x") "a") *(span (class "class") "b"))')
        self.assert_blocks('(class "class")', '(group (class "x") (rule))\n*(group (class "class") (rule))')

    def test_class(self):
        self.assert_blocks('(class "x")', '*(group (class "x") (rule))\n(group (class "y") *(group (class "y" "x") (rule)))')
        self.assert_blocks('(class "x")', '(note "x")\n(heading 1 "x")\n(group (class "xx" "X") (rule))')
        self.assert_inlines('(class "x")', '(para *(span (class "x") "a") (span (class "y") *(span (class "z" "x") "a")))')
        self.assert_inlines('(class "x")', '(para (ref "x") (span (class "xy" "ax") "a"))')
        self.assert_inlines('(class "x")', '(group (class "x") (para "a"))')

    def test_target(self):
        self.assert_blocks('(target "ab")',
                           '*(figure "" "ab")\n*(figure "" "abc")\n(figure "ab" "a")\n(figure "" "xab")\n(figure "" "")')
        self.assert_blocks('(target "")', '*(figure "" "")\n*(figure "" "a")\n(heading 1 "")\n(rule)')
        self.assert_inlines('(target "ab")', '(para *(link "ab" "a") *(image "abc") (link "a" "ab") (image "bab") (code "ab"))')
        self.assert_inlines('(target "")', '(para *(link "" "a") *(image "x") "a" (span (class "x") "b"))')
        self.assert_inlines('(target "\u20ac")', '(para *(link "\u20ac" "a") (link "\u20ad" "b") (image "a\u20ac"))')
        self.assert_inlines('(target " \\n")', '(para *(link " \\nx" "a") (link " n" "a"))')


class Texts(Selectors):
    def test_text_of_inline_elements(self):
        self.assert_inlines('(text "ab")', '(para *"xaby" (code "a") *(code "ab") *(math "ab") (code "ba"))')
        self.assert_inlines('(text "ab")', '(para *(emph "a" *(strong *"ab")) *(link "ab" *"ab") (image "ab"))')
        self.assert_inlines('(text "ab")', '(para *(emph "a" (strong "b")) *(span (class "ab") "a" (break) *(code "ab")))')
        self.assert_inlines('(text "x")', '(para *(ref "x") (noteref "x") *(cite "y" "x") (link "x" "a"))')
        self.assert_inlines('(text "y, x")', '(para *(cite "y" "x") (cite "x" "y") *(cite "z" "y" "x"))')
        self.assert_inlines('(text "a\\nb")', '(para *(emph "a" (break) "b") *(code "a\\nb") (emph "ab"))')

    def test_text_of_a_break(self):
        self.assert_inlines('(text "\\n")', '(para "a" *(break) "b")')
        self.assert_inlines('(not (text "\\n"))', '(para *"a" (break) *"b")')

    def test_empty_text(self):
        self.assert_blocks('(text "")', '*(rule)\n*(para "a")\n*(note "n" *(bullets (item)))')
        self.assert_inlines('(text "")', '(para *"a" *(noteref "n") *(image "u") *(code ""))')

    def test_text_of_blocks(self):
        for block in ['(para "a")', '(heading 1 "" "a")', '(figure "" "" "a")', '(code "" "a")', '(formula "" "a")']:
            self.assert_blocks('(text "a\\n")', "*" + block)
            self.assert_blocks('(text "a\\n\\n")', block)
            self.assert_blocks('(text "\\na")', block)
        self.assert_blocks('(text "x")', '(code "x" "a")\n(formula "x" "a")\n(figure "x" "x" "a")\n(heading 1 "x" "a")\n(note "x")')
        self.assert_blocks('(text "\\n")', '(rule)\n*(heading 1 "")\n*(code "" "")\n*(figure "" "")\n(bullets (item))')

    def test_text_of_blocks_in_blocks(self):
        for head, tail in [("(quote ", ")"), ('(group (class "x") ', ")"), ('(note "x" ', ")"), ("(bullets (item ", "))"),
                           ("(numbers 1 (item ", "))")]:
            self.assert_blocks('(text "a\\nb\\n")', "*" + head + '(para "a") (rule) (heading 1 "" "b")' + tail)
            self.assert_blocks('(text "a\\n\\nb")', head + '(para "a") (para "b")' + tail)
        self.assert_blocks('(text "a\\nb\\n")', '*(bullets (item (para "a")) (item (para "b")))')
        self.assert_blocks('(text "1")', '(numbers 1 (item (rule)))')

    def test_text_of_a_term_list(self):
        terms = '(terms (term ("a" (emph "b")) (para "c") (rule)) (term () (para "d")) (term ("e")))'
        for text in ["ab\\nc\\n\\nd\\ne\\n", "ab", "e\\n"]:
            self.assertTrue(marked_blocks('(and (kind terms) (text "' + text + '"))', terms).startswith("*"), text)
        for text in ["abc", "c\\nd", "\\nab", "e\\n\\n"]:
            self.assertFalse(marked_blocks('(and (kind terms) (text "' + text + '"))', terms).startswith("*"), text)

    def test_text_of_a_table(self):
        table = '(table "i" (caption "c" (emph "d")) (align none left) (row (cell "a") (cell "b")) (row (cell) (cell "e")))'
        for text in ["cd\\na\\tb\\n\\te\\n", "cd\\n", "\\te"]:
            self.assert_blocks('(text "' + text + '")', "*" + table)
        for text in ["\\ncd", "e\\n\\n", "ab", "i", "b\\n\\n"]:
            self.assert_blocks('(text "' + text + '")', table)
        without = '(table "i" (caption) (align none) (row (cell "a")))'
        self.assert_blocks('(text "a\\n")', "*" + without)
        self.assert_blocks('(text "\\na")', without)
        # A caption that isn't an empty list has its line, though nothing stands in it.
        self.assert_blocks('(text "\\na")', '*(table "i" (caption (noteref "n")) (align none) (row (cell "a")))')

    def test_other_characters(self):
        self.assert_inlines('(text "\u00e9")', '(para *"caf\u00e9s" (code "caf\u00ea") (code "e") (code "\u00c9"))')
        self.assert_inlines('(text "\u20ac")', '(para *"1 \u20ac" (code "\u20ad") (code "\u00ac"))')
        self.assert_inlines('(text "\u0082")', '(para "\u20ac" *(code "\u0082"))')
        self.assert_inlines('(text "\\u{d}")', '(para "a" *(code "a\\u{d}") (code "d"))')
        self.assert_inlines('(text "~")', '(para *"~" (code "\u00e9\\u{1}|%^{}") *(code "%~"))')
        self.assert_inlines('(text "{")', '(para *"a{" (code "\u00e9\u20ac~|}") (code "%^"))')
        self.assert_inlines('(text "%")', '(para *"a%" (code "\u00e9~&$|}"))')
        self.assert_inlines('(text "A")', '(para *"A" (code "a"))')

    def test_empty(self):
        self.assert_inlines("(empty)", '(para *(noteref "n") *(image "u") *(code "") *(math " \\t\\n\\u{d}") (code " a") (ref "r"))')
        self.assert_inlines("(empty)", '(para *(emph *(noteref "n")) (sub (code "b") *(code " ")) *(strong *(code " ")))')
        self.assert_inlines("(empty)", '(para "a" *(break) "b")')
        self.assert_inlines("(empty)", '(para (code "\u00a0") (code "\\u{b}") (code "\\u{c}") (code "\\u{0}"))')
        self.assert_blocks("(empty)", '*(rule)\n*(heading 1 "")\n*(code "" " ")\n(para "a")\n*(bullets (item) (item *(rule)))')
        self.assert_blocks("(empty)", '*(note "n")\n*(figure "f" "u")\n*(terms (term ()))\n(terms (term ("a")))')
        self.assert_blocks("(empty)", '*(table "" (caption) (align none none) (row (cell) (cell)))')


class Positions(Selectors):
    def test_first_last_and_index_of_blocks(self):
        tree = '%s(rule)\n%s(note "n" %s(rule) %s(heading 1 "") %s(rule))\n%s(bullets (item %s(rule)) (item %s(rule) %s(rule)))'
        for selector, marks in [("(first)", "1010001 10"), ("(last)", "0000111 01"), ("(index 0)", "1010001 10"),
                                ("(index 1)", "0101000 01"), ("(index 2)", "0000110 00"), ("(index 3)", "0000000 00"),
                                ("(index 999999)", "0000000 00"), ("(and (first) (last))", "0000001 00")]:
            stars = tuple("*" * int(mark) for mark in marks.replace(" ", ""))
            self.assert_blocks(selector, tree % stars)

    def test_first_last_and_index_of_inline_elements(self):
        tree = '(para %s"a" %s(emph %s"b") %s"c")\n(heading 1 "" %s"d")'
        for selector, marks in [("(first)", "10101"), ("(last)", "00111"), ("(index 0)", "10101"), ("(index 1)", "01000"),
                                ("(index 2)", "00010"), ("(index 3)", "00000")]:
            self.assert_inlines(selector, tree % tuple("*" * int(mark) for mark in marks))

    def test_each_list_has_its_own_siblings(self):
        terms = '(terms (term (%s"a" %s(emph %s"b")) (para %s"c")) (term (%s"d") (para %s"e") (para %s"f")))'
        self.assert_inlines("(first)", terms % ("*", "", "*", "*", "*", "*", "*"))
        self.assert_inlines("(index 1)", terms % ("", "*", "", "", "", "", ""))
        self.assert_blocks("(first)", '*(terms (term ("a" (emph "b")) *(rule) (rule)) (term () *(rule) (rule)))')
        self.assert_blocks("(last)", '*(terms (term ("a" (emph "b")) (rule) *(rule)) (term () (rule) *(rule)))')
        table = '(table "" (caption %s"a" %s(emph %s"b")) (align none none) (row (cell %s"c") (cell %s"d" %s(code "e"))))'
        self.assert_inlines("(first)", table % ("*", "", "*", "*", "*", ""))
        self.assert_inlines("(last)", table % ("", "*", "*", "*", "", "*"))
        self.assert_blocks("(first)", "*(numbers 1 (item *(rule) (rule)) (item) (item *(rule)))")

    def test_next_and_previous(self):
        self.assert_blocks("(next (kind rule))", '(rule)\n*(para "a")\n(rule)\n*(note "n" *(rule) (rule))\n(rule)')
        self.assert_blocks("(previous (kind rule))", '(rule)\n*(para "a")\n(rule)\n*(note "n" (rule) *(rule))\n(heading 1 "")')
        self.assert_blocks("(next (any))", '*(rule)\n*(quote (rule))\n(rule)')
        self.assert_blocks("(previous (any))", "(rule)\n*(quote (rule))\n*(rule)")
        self.assert_blocks("(next (any))", "(bullets (item (rule)) (item *(rule) (rule)))")
        self.assert_blocks("(previous (any))", "(bullets (item (rule)) (item (rule) *(rule)))")
        self.assert_inlines("(next (kind text))", '(para *(code "a") "b" *(emph "c") "d")')
        self.assert_inlines("(previous (kind text))", '(para (code "a") "b" *(emph "c") "d" *(code "e"))')
        self.assert_inlines("(next (any))", '(terms (term ("a") (para "b")))')
        self.assert_inlines("(previous (any))", '(table "" (caption "a") (align none) (row (cell "b")) (row (cell "c")))')
        self.assert_blocks("(next (next (kind rule)))", '*(para "a")\n(para "b")\n(rule)')
        self.assert_blocks("(next (not (kind rule)))", '*(para "a")\n*(para "b")\n(para "c")\n(rule)')
        self.assert_blocks("(not (next (kind rule)))", '*(para "a")\n(para "b")\n*(rule)')


class Combinations(Selectors):
    def test_and_or_not(self):
        tree = '%s(rule)\n%s(heading 1 "x")\n%s(heading 2 "")\n%s(para "a")'
        for selector, marks in [
                ("(and)", "1111"), ("(or)", "0000"), ("(not (and))", "0000"), ("(not (or))", "1111"),
                ("(and (kind heading))", "0110"), ("(or (kind heading))", "0110"), ("(not (kind heading))", "1001"),
                ('(and (kind heading) (label ""))', "0010"), ('(or (kind rule) (label ""))', "1010"),
                ("(and (any) (any) (first))", "1000"), ("(and (first) (last))", "0000"),
                ("(or (first) (last) (kind note))", "1001"), ("(or (kind note) (first) (kind table))", "1000"),
                ("(not (not (first)))", "1000"), ("(and (not (first)) (not (last)))", "0110"),
                ("(or (and (first) (last)) (and (index 1)))", "0100"), ("(and (or (first) (index 1)) (or (index 1) (last)))", "0100")]:
            self.assert_blocks(selector, tree % tuple("*" * int(mark) for mark in marks))
        self.assert_inlines("(and)", '(para *"a")')
        self.assert_inlines("(or)", '(para "a")')
        self.assert_inlines('(not (text "a"))', '(para "a" *(emph *"b"))')

    def test_parent(self):
        self.assert_blocks("(parent (any))", '(rule)\n(note "n" *(rule) *(quote *(rule)))\n(bullets (item *(rule)) (item *(rule)))')
        self.assert_blocks("(not (parent (any)))", '*(rule)\n*(note "n" (quote (rule)))')
        self.assert_blocks("(parent (kind note))", '(note "n" *(rule) *(quote (rule)))')
        self.assert_blocks("(parent (parent (any)))", '(note "n" (rule) (quote *(rule) *(note "m" *(rule))))')
        self.assert_inlines("(parent (kind para))", '(para *"a" *(emph "b"))\n(heading 1 "" "c")')
        self.assert_inlines("(parent (kind emph))", '(para "a" (emph *"b" *(strong "c")))')
        self.assert_inlines("(parent (kind terms))", '(terms (term (*"a") (para "b")))')
        self.assert_inlines("(parent (kind table))",
                            '(table "" (caption *"a") (align none) (row (cell *"b")) (row (cell *(emph "c"))))')
        self.assert_inlines("(parent (kind figure))", '(figure "" "" *"a")')
        self.assert_inlines("(parent (first))", '(para *"a" *(emph "b"))\n(para "c" (emph "d") (strong (emph *"e")))')
        self.assert_inlines('(parent (text "b"))', '(para *"a" *(emph *"b"))')

    def test_ancestor(self):
        self.assert_blocks("(ancestor (kind note))", '(note "n" *(rule) *(quote *(rule) *(bullets (item *(rule)))))\n(quote (rule))')
        self.assert_blocks("(ancestor (any))", "(rule)\n(quote *(quote *(rule)))")
        self.assert_inlines("(ancestor (kind quote))", '(quote (para *"a" *(emph *"b")))\n(para "c")')
        self.assert_inlines("(ancestor (kind emph))", '(para "a" (emph *"b" *(strong *"c")))')
        self.assert_blocks("(ancestor (not (kind note)))", '(note "n" (rule) (quote *(rule)))')
        self.assert_blocks("(ancestor (ancestor (any)))", "(quote (quote *(rule) *(quote *(rule))))")
        self.assert_blocks("(not (ancestor (kind quote)))", "*(note \"n\" *(quote (rule) (quote (rule))))")

    def test_child(self):
        self.assert_blocks("(child (kind rule))", '*(quote (rule))\n(note "n" (heading 1 "") *(quote (rule)))\n*(note "m" (rule))')
        self.assert_blocks("(child (kind text))", '*(para "a" (emph "b"))\n(para (emph "b"))\n(rule)\n*(heading 1 "" "c")')
        self.assert_blocks("(child (any))", "(bullets (item) (item))\n(rule)\n*(bullets (item) (item (rule)))\n(heading 1 \"\")")
        self.assert_blocks("(child (kind emph))", '*(terms (term ((emph "a"))))\n(terms (term () (para "b")))')
        self.assert_blocks("(child (kind rule))", '*(terms (term ()) (term ("a") (rule)))\n(terms (term ("b")))')
        self.assert_blocks("(child (kind text))", '*(table "" (caption "a") (align none) (row (cell)))')
        self.assert_blocks("(child (kind text))", '*(table "" (caption) (align none none) (row (cell) (cell)) (row (cell) (cell "a")))')
        self.assert_inlines("(child (kind text))", '(para "a" *(emph "b" *(strong "c")) (sub (code "d")) *(image "u" "e"))')
        self.assert_inlines("(child (any))", '(para "a" (code "b") (image "u") *(link "u" "c"))')
        self.assert_inlines("(child (child (any)))", '(para *(emph (strong "a")) (sub "b"))')
        self.assert_blocks("(child (not (kind rule)))", '(quote (rule))\n*(note "n" (rule) (heading 1 ""))')

    def test_descendant(self):
        self.assert_blocks("(descendant (kind rule))", '*(quote *(note "n" (rule)))\n*(note "n" *(bullets (item (heading 1 "")) (item (rule))))\n(rule)')
        self.assert_blocks("(descendant (kind code))", '*(para "a" (emph (strong (code "b"))))\n(para "c")\n*(quote (para "a") *(para (code "x")))')
        self.assert_blocks("(descendant (any))", '(rule)\n*(para "a")\n(note "n")\n*(note "n" (rule))')
        self.assert_inlines("(descendant (kind code))", '(para *(emph "a" *(strong (code "b"))) (code "c") "d")')
        self.assert_blocks("(descendant (descendant (kind text)))", '*(note "n" *(quote (para "a")) (para "b"))')
        self.assert_blocks("(not (descendant (kind text)))", '(para "a")\n*(rule)\n(note "n" (para "a") *(quote *(rule)))')

    def test_within_one_another(self):
        self.assert_blocks("(and (kind note) (child (previous (kind rule))))", '*(note "a" (rule) (heading 1 ""))\n(note "b" (heading 1 "") (rule))')
        self.assert_inlines("(parent (next (kind code)))", '(para (emph *"a") (code "b") (emph "c"))')
        self.assert_inlines("(ancestor (level 2 2))", '(heading 1 "" "a")\n(heading 2 "" *"a" *(emph *"b"))')
        self.assert_inlines("(ancestor (child (kind code)))", '(para *"a" *(emph *"b") *(code "c"))\n(para "d")')
        self.assert_blocks('(descendant (and (kind text) (text "a") (ancestor (kind emph))))', '*(para "b" (emph "a"))\n(para "a" (emph "b"))')
        self.assert_blocks("(not (or (parent (any)) (next (kind rule)) (previous (kind rule))))",
                           '(note "n" (note "m"))\n*(rule)\n(note "n")\n*(note "n")')


class When(unittest.TestCase):
    def holds(self, selector, tree):
        return apply("(when " + selector + ' (blocks (any) (remove)))', tree) == ""

    def test_blocks_and_inline_elements(self):
        tree = '(note "n" (para "a" (emph "b")))'
        for selector in ["(any)", "(kind note)", "(kind para)", "(kind text)", "(kind emph)", '(text "b")', "(parent (kind emph))"]:
            self.assertTrue(self.holds(selector, tree), selector)
        for selector in ["(kind rule)", "(kind code)", "(or)", '(text "c")', "(index 2)", '(label "x")']:
            self.assertFalse(self.holds(selector, tree), selector)

    def test_nothing_holds_in_a_document_without_items(self):
        for selector in ["(any)", "(and)", "(not (any))", "(empty)"]:
            self.assertEqual(apply("(when " + selector + " (blocks (any) (replace (x))))", ""), "")
            self.assertEqual(apply("(when " + selector + " (blocks (any) (replace (x))))", "(para)"), "")
