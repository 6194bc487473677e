"""apply: the normal form, also where no step is executed."""

import unittest

from tests.helper import apply, normal, normal_inlines

STYLES = ["emph", "strong", "strike", "super", "sub", "caps"]


class Inlines(unittest.TestCase):
    def assert_normal(self, inlines, expected):
        self.assertEqual(normal_inlines(inlines), expected, inlines)
        self.assertEqual(normal_inlines(expected), expected)


class Texts(Inlines):
    def test_texts_become_one(self):
        self.assert_normal('"a" "b" "c"', '"abc"')
        self.assert_normal('"a" "" "b"', '"ab"')
        self.assert_normal('"a" (code "b") "c" "d"', '"a" (code "b") "cd"')

    def test_empty_texts_vanish(self):
        self.assert_normal('""', "")
        self.assert_normal('"" "" (code "") ""', '(code "")')

    def test_white_space_becomes_one_space(self):
        self.assert_normal('"a  b"', '"a b"')
        self.assert_normal('"a\\t\\n\\u{d} \\u{d}b"', '"a b"')
        self.assert_normal('"a\\tb\\nc\\u{d}d"', '"a b c d"')
        self.assert_normal('"a " " b"', '"a b"')
        self.assert_normal('"a" " " " " "b"', '"a b"')
        self.assert_normal('"a " (code "b") " c"', '"a " (code "b") " c"')

    def test_white_space_at_the_ends_is_left_out(self):
        self.assert_normal('" a "', '"a"')
        self.assert_normal('" \\n\\t\\u{d}"', "")
        self.assert_normal('" " "\\u{d}" "a" "\\t"', '"a"')
        self.assert_normal('" " (code "a") " "', '(code "a")')

    def test_other_characters_are_no_white_space(self):
        for character in ["\\u{b}", "\\u{c}", "\\u{0}", "\\u{1c}", "\\u{1f}", "\x7f", "\u0085", "\u00a0", "\u2003", "\u2028",
                          "\u3000", "\ufeff"]:
            self.assert_normal('" ' + character + "a" + character * 2 + 'b"', '"' + character + "a" + character * 2 + 'b"')

    def test_white_space_in_other_elements_stays(self):
        self.assert_normal('(code " a  b ")', '(code " a  b ")')
        self.assert_normal('(math "  ")', '(math "  ")')
        self.assert_normal('" " (code "  ") " "', '(code "  ")')
        self.assert_normal('(link " u  v " " a  b ")', '(link " u  v " "a b")')


class Breaks(Inlines):
    def test_breaks_take_the_place_of_white_space(self):
        self.assert_normal('"a" (break) "b"', '"a" (break) "b"')
        self.assert_normal('"a " (break) " b"', '"a" (break) "b"')
        self.assert_normal('"a " (break) " " (break) "\\n" "b"', '"a" (break) (break) "b"')
        self.assert_normal('(code "a") (break) (break) (break) (code "b")', '(code "a") (break) (break) (break) (code "b")')

    def test_breaks_at_the_ends_are_left_out(self):
        self.assert_normal('(break) "a" (break)', '"a"')
        self.assert_normal('" " (break) " " (break) "a" (break) (break) " "', '"a"')
        self.assert_normal('(break) " " (break)', "")
        self.assert_normal('(break) (code "a") (break)', '(code "a")')


class Wrappers(Inlines):
    def test_empty_elements_vanish(self):
        for style in STYLES:
            self.assert_normal("(" + style + ")", "")
            self.assert_normal("(" + style + ' "")', "")
            self.assert_normal("(" + style + ' " ")', "")
        self.assert_normal('(link "u")', "")
        self.assert_normal('(span (class "a"))', "")
        self.assert_normal('"a" (emph (strong) (link "u") (span (class "c") "")) "b"', '"ab"')
        self.assert_normal('(image "u")', '(image "u")')

    def test_equal_neighbours_become_one(self):
        for style in STYLES:
            self.assert_normal("(" + style + ' "a") (' + style + ' "b")', "(" + style + ' "ab")')
            self.assert_normal("(" + style + ' "a") "" (' + style + ' (code "b"))', "(" + style + ' "a" (code "b"))')
        self.assert_normal('(link "u" "a") (link "u" "b")', '(link "u" "ab")')
        self.assert_normal('(span (class "x" "y") "a") (span (class "x" "y") "b")', '(span (class "x" "y") "ab")')
        self.assert_normal('(emph (strong "a")) (emph (strong "b") "c")', '(emph (strong "ab") "c")')

    def test_other_neighbours_stay(self):
        self.assert_normal('(emph "a") (strong "b")', '(emph "a") (strong "b")')
        self.assert_normal('(link "u" "a") (link "v" "b")', '(link "u" "a") (link "v" "b")')
        self.assert_normal('(link "u" "a") (link "" "b")', '(link "u" "a") (link "" "b")')
        self.assert_normal(
            '(span (class "x" "y") "a") (span (class "y" "x") "b")', '(span (class "x" "y") "a") (span (class "y" "x") "b")')
        self.assert_normal('(span (class "x") "a") (span (class "x" "x") "b")',
                           '(span (class "x") "a") (span (class "x" "x") "b")')
        self.assert_normal('(span (class "u") "a") (link "u" "b")', '(span (class "u") "a") (link "u" "b")')
        self.assert_normal('(emph "a") "b" (emph "c")', '(emph "a") "b" (emph "c")')
        self.assert_normal('(emph (strong "a")) (strong (emph "b"))', '(emph (strong "a")) (strong (emph "b"))')
        self.assert_normal('(emph "a") (code "x") (emph "b")', '(emph "a") (code "x") (emph "b")')
        self.assert_normal('(emph "a") (ref "x") (emph "b")', '(emph "a") (ref "x") (emph "b")')

    def test_style_inside_the_same_style(self):
        for style in STYLES:
            self.assert_normal("(" + style + ' "a" (' + style + ' "b"))', "(" + style + ' "ab")')
            self.assert_normal("(" + style + ' (span (class "x") (' + style + ' "b")))',
                               "(" + style + ' (span (class "x") "b"))')
        self.assert_normal('(emph (strong (emph "a") "b"))', '(emph (strong "ab"))')
        self.assert_normal('(emph (link "u" (strong (emph "a"))))', '(emph (link "u" (strong "a")))')

    def test_link_inside_a_link(self):
        self.assert_normal('(link "u" "a" (link "v" "b") "c")', '(link "u" "abc")')
        self.assert_normal('(link "u" (emph (link "u" "b")))', '(link "u" (emph "b"))')
        self.assert_normal('(link "u" (link "v" (emph "a")) (emph "b"))', '(link "u" (emph "ab"))')
        self.assert_normal('(link "u" (link "v" "b")) (link "u" "c")', '(link "u" "bc")')

    def test_span_without_classes(self):
        self.assert_normal('(span (class) "a")', '"a"')
        self.assert_normal('(span (class) (emph "a") "b") (emph "c")', '(emph "a") "b" (emph "c")')
        self.assert_normal('(emph "a") (span (class) (emph "b"))', '(emph "ab")')

    def test_span_inside_a_span_stays(self):
        self.assert_normal('(span (class "x") (span (class "x") "a"))', '(span (class "x") (span (class "x") "a"))')

    def test_six_styles_around_one_another(self):
        inlines = '(emph (strong (strike (super (sub (caps (link "u" (span (class "x") "a"))))))))'
        self.assert_normal(inlines, inlines)


class Gaps(Inlines):
    def test_common_beginning_of_the_wrappers(self):
        self.assert_normal('(emph "a ") "b"', '(emph "a") " b"')
        self.assert_normal('"a" (emph " b")', '"a " (emph "b")')
        self.assert_normal('(emph "a") " " (emph "b")', '(emph "a b")')
        self.assert_normal('(emph "a") (strong " ") (emph "b")', '(emph "a b")')
        self.assert_normal('(emph "a" (strong " b"))', '(emph "a " (strong "b"))')
        self.assert_normal('(emph (strong "a ") "b")', '(emph (strong "a") " b")')
        self.assert_normal('(emph (strong "a")) " " (emph (strike "b"))', '(emph (strong "a") " " (strike "b"))')
        self.assert_normal('(emph (strong "a")) " " (emph (strong "b"))', '(emph (strong "a b"))')
        self.assert_normal('(emph "a ") (strong " b")', '(emph "a") " " (strong "b")')
        self.assert_normal('(link "u" "a") " " (link "v" "b")', '(link "u" "a") " " (link "v" "b")')
        self.assert_normal('(emph (strong "a")) " " (strike (strong "b"))', '(emph (strong "a")) " " (strike (strong "b"))')
        self.assert_normal('(emph (strong "a")) " " (strong "b")', '(emph (strong "a")) " " (strong "b")')

    def test_breaks(self):
        self.assert_normal('(emph "a" (break)) "b"', '(emph "a") (break) "b"')
        self.assert_normal('(emph "a") (break) (emph "b")', '(emph "a" (break) "b")')
        self.assert_normal('(emph "a" (strong (break)) "b")', '(emph "a" (break) "b")')
        self.assert_normal('(emph "a ") (break) (strong (break) "b")', '(emph "a") (break) (break) (strong "b")')
        self.assert_normal('(emph (strong "a" (break)) (strike (break)) " " (strong "b"))',
                           '(emph (strong "a" (break) (break) "b"))')

    def test_gaps_at_the_ends(self):
        self.assert_normal('(emph " a ")', '(emph "a")')
        self.assert_normal('(emph " ") "a" (strong (break))', '"a"')

    def test_gaps_beside_other_runs(self):
        for run in ['(code "x")', '(math "x")', '(noteref "x")', '(ref "x")', '(cite "x")', '(image "x")']:
            self.assert_normal('" " ' + run + ' " "', run)
            self.assert_normal('"a" (emph " " ' + run + ' " ") "b"', '"a " (emph ' + run + ') " b"')
            self.assert_normal(run + " " + run, run + " " + run)


class Images(Inlines):
    def test_children_on_their_own(self):
        self.assert_normal('"a " (image "u" " b  c ") " d"', '"a " (image "u" "b c") " d"')
        self.assert_normal('(image "u" (break) "" (emph))', '(image "u")')
        self.assert_normal('(emph (image "u" (emph "a")))', '(emph (image "u" (emph "a")))')
        self.assert_normal('(link "u" (image "v" (link "w" "a")))', '(link "u" (image "v" (link "w" "a")))')
        self.assert_normal('(image "u" (image "v" (emph " a") (emph "b")))', '(image "u" (image "v" (emph "ab")))')

    def test_images_are_not_joined(self):
        self.assert_normal('(image "u" "a") (image "u" "a")', '(image "u" "a") (image "u" "a")')
        self.assert_normal('(emph (image "u")) (emph (image "u"))', '(emph (image "u") (image "u"))')


class Blocks(unittest.TestCase):
    def assert_normal(self, blocks, expected):
        self.assertEqual(normal(blocks), expected, blocks)
        self.assertEqual(normal('(note "n" ' + blocks + ")"), ('(note "n" ' + expected).replace("\n", " ").rstrip() + ")")
        self.assertEqual(normal(expected), expected)

    def test_lists_of_inline_elements(self):
        self.assert_normal('(para " a" "b ")', '(para "ab")')
        self.assert_normal('(heading 1 "" " a" (emph))', '(heading 1 "" "a")')
        self.assert_normal('(heading 1 "" " ")', '(heading 1 "")')
        self.assert_normal('(figure "" " u " " a" "b")', '(figure "" " u " "ab")')
        self.assert_normal('(terms (term (" a" "b ") (para "c ")) (term (" ") (para " ")))',
                           '(terms (term ("ab") (para "c")) (term ()))')
        self.assert_normal('(table "" (caption " a ") (align none left) (row (cell " b") (cell "c" "d")) (row (cell " ") (cell)))',
                           '(table "" (caption "a") (align none left) (row (cell "b") (cell "cd")) (row (cell) (cell)))')

    def test_texts_of_blocks_stay(self):
        self.assert_normal('(code "" " a  b ")', '(code "" " a  b ")')
        self.assert_normal('(formula "" " a  b ")', '(formula "" " a  b ")')

    def test_lists_of_blocks(self):
        for head, tail in [('(note "m" ', ")"), ("(bullets (item (rule)) (item ", "))"), ("(numbers 1 (item ", "))"),
                           ("(terms (term () ", "))"), ("(quote (rule) ", ")"), ('(group (class "x") (rule) ', ")")]:
            self.assert_normal(head + '(para) (quote) (para "a") (group (class) (rule))' + tail,
                               head + '(para "a") (rule)' + tail)

    def test_empty_paragraphs(self):
        self.assert_normal('(para) (rule) (para "") (para " ") (para (break)) (para (emph)) (para "a")', '(rule)\n(para "a")')
        self.assert_normal("(para)", "")
        self.assert_normal('(para (code ""))', '(para (code ""))')
        self.assert_normal('(para (image "u"))', '(para (image "u"))')

    def test_empty_quotes_and_groups(self):
        self.assert_normal("(quote)", "")
        self.assert_normal("(quote (para) (quote (para)))", "")
        self.assert_normal('(group (class "x"))', "")
        self.assert_normal('(group (class "x") (para) (group (class "y") (quote)))', "")
        self.assert_normal("(group (class))", "")

    def test_other_blocks_stay_without_content(self):
        for block in ['(heading 1 "")', '(code "" "")', '(formula "" "")', "(bullets (item))", "(numbers 1 (item))",
                      "(terms (term ()))", '(table "" (caption) (align none) (row (cell)))', '(figure "" "")', '(note "a")']:
            self.assert_normal(block, block)
        self.assert_normal("(bullets (item (para)) (item))", "(bullets (item) (item))")

    def test_groups_without_classes(self):
        self.assert_normal('(group (class) (rule) (para "a"))', '(rule)\n(para "a")')
        self.assert_normal("(group (class) (group (class) (rule)))", "(rule)")
        self.assert_normal('(group (class "x") (group (class) (rule)))', '(group (class "x") (rule))')
        self.assert_normal('(group (class "x" "x") (rule)) (group (class "x" "x") (rule))',
                           '(group (class "x" "x") (rule))\n(group (class "x" "x") (rule))')

    def test_quotes_are_joined(self):
        self.assert_normal('(quote (rule)) (quote (para "a"))', '(quote (rule) (para "a"))')
        self.assert_normal("(quote (rule)) (quote (rule)) (quote (rule))", "(quote (rule) (rule) (rule))")
        self.assert_normal("(quote (rule)) (rule) (quote (rule))", "(quote (rule))\n(rule)\n(quote (rule))")
        self.assert_normal("(quote (rule)) (para) (quote) (quote (rule))", "(quote (rule) (rule))")
        self.assert_normal("(quote (rule)) (group (class) (quote (rule))) (quote (rule))", "(quote (rule) (rule) (rule))")
        self.assert_normal('(quote (rule)) (group (class "x") (quote (rule)))',
                           '(quote (rule))\n(group (class "x") (quote (rule)))')

    def test_quotes_are_joined_where_they_meet(self):
        self.assert_normal("(quote (quote (rule))) (quote (quote (rule)))", "(quote (quote (rule) (rule)))")
        self.assert_normal("(quote (bullets (item))) (quote (bullets (item)) (rule))", "(quote (bullets (item) (item)) (rule))")
        self.assert_normal("(quote (numbers 1 (item))) (quote (numbers 2 (item)))", "(quote (numbers 1 (item) (item)))")
        self.assert_normal("(quote (numbers 1 (item))) (quote (numbers 1 (item)))", "(quote (numbers 1 (item)) (numbers 1 (item)))")
        self.assert_normal("(quote (quote (quote (rule)))) (quote (quote (quote (rule)))) (quote (quote (quote (rule))))",
                           "(quote (quote (quote (rule) (rule) (rule))))")
        self.assert_normal("(quote (quote (bullets (item)) (rule))) (quote (quote (bullets (item))))",
                           "(quote (quote (bullets (item)) (rule) (bullets (item))))")

    def test_bullet_lists_are_joined(self):
        self.assert_normal('(bullets (item (rule))) (bullets (item) (item (para "a")))',
                           '(bullets (item (rule)) (item) (item (para "a")))')
        self.assert_normal("(bullets (item)) (bullets (item)) (bullets (item))", "(bullets (item) (item) (item))")
        self.assert_normal("(bullets (item (quote (rule)))) (bullets (item (quote (rule))))",
                           "(bullets (item (quote (rule))) (item (quote (rule))))")
        self.assert_normal("(bullets (item)) (rule) (bullets (item))", "(bullets (item))\n(rule)\n(bullets (item))")

    def test_numbered_lists_that_go_on_are_joined(self):
        self.assert_normal("(numbers 1 (item)) (numbers 2 (item (rule)))", "(numbers 1 (item) (item (rule)))")
        self.assert_normal("(numbers 0 (item) (item) (item)) (numbers 3 (item)) (numbers 4 (item) (item))",
                           "(numbers 0 (item) (item) (item) (item) (item) (item))")
        self.assert_normal("(numbers 999998 (item)) (numbers 999999 (item) (item))", "(numbers 999998 (item) (item) (item))")

    def test_other_numbered_lists_are_not_joined(self):
        for start in ["0", "1", "2", "4", "999999"]:
            blocks = "(numbers 1 (item) (item))\n(numbers " + start + " (item))"
            self.assert_normal(blocks, blocks)
        blocks = "(numbers 1 (item))\n(numbers 3 (item))\n(numbers 2 (item))"
        self.assert_normal(blocks, blocks)
        self.assert_normal("(numbers 1 (item)) (numbers 2 (item)) (numbers 2 (item))",
                           "(numbers 1 (item) (item))\n(numbers 2 (item))")

    def test_other_neighbours_are_not_joined(self):
        for block in ['(para "a")', '(heading 1 "a" "b")', '(code "" "a")', '(formula "" "a")', "(rule)", "(terms (term ()))",
                      '(table "" (caption) (align none) (row (cell)))', '(figure "" "")', '(group (class "x") (rule))',
                      '(note "a" (rule))', "(numbers 5 (item))"]:
            self.assert_normal(block + " " + block, block + "\n" + block)
        self.assert_normal("(quote (rule)) (bullets (item)) (numbers 1 (item)) (bullets (item)) (quote (rule))",
                           "(quote (rule))\n(bullets (item))\n(numbers 1 (item))\n(bullets (item))\n(quote (rule))")

    def test_joined_through_what_vanishes(self):
        self.assert_normal('(numbers 1 (item)) (para " ") (numbers 2 (item))', "(numbers 1 (item) (item))")
        self.assert_normal('(bullets (item)) (group (class "x")) (bullets (item))', "(bullets (item) (item))")
        self.assert_normal("(group (class) (numbers 1 (item)) (numbers 2 (item))) (group (class) (numbers 3 (item)))",
                           "(numbers 1 (item) (item) (item))")


class WithoutSteps(unittest.TestCase):
    def test_programs_that_change_nothing(self):
        tree = '(para " a " (emph "b " (emph)) "c") (para) (quote (rule)) (quote (rule)) (group (class) (bullets (item)))'
        expected = '(para "a " (emph "b") " c")\n(quote (rule) (rule))\n(bullets (item))'
        for program in ["", "; a comment", "(repeat 3)", "(when (any))", "(when (not (any)) (blocks (any) (remove)))",
                        "(blocks (any))", "(inlines (any))", "(blocks (not (any)) (remove))", "(inlines (or) (remove))",
                        "(repeat 50 (blocks (any)) (repeat 50 (inlines (any))))"]:
            self.assertEqual(apply(program, tree), expected, program)

    def test_normal_form_is_there_as_the_first_step_begins(self):
        self.assertEqual(apply('(inlines (text "ab") (replace "c"))', '(para "a" "b")'), '(para "c")')
        self.assertEqual(apply("(blocks (index 1) (remove))", "(para) (rule) (heading 1 \"\")"), "(rule)")
        self.assertEqual(apply("(when (kind group) (blocks (any) (remove)))", "(group (class) (rule))"), "(rule)")

    def test_normal_form_is_there_after_each_step(self):
        self.assertEqual(apply("(blocks (kind rule) (remove)) (blocks (kind quote) (replace (rule)))",
                               '(quote (rule)) (quote (rule)) (note "a" (quote (para "b")))'), '(note "a" (rule))')
        self.assertEqual(apply('(inlines (kind code) (remove)) (inlines (text "ab") (replace "c"))',
                               '(para "a" (code "x") "b")'), '(para "c")')


if __name__ == "__main__":
    unittest.main()
