"""apply: every row of the table of actions, and templates."""

import unittest

from tests.helper import apply, on_block, on_inline
from tests.test_selectors import BLOCKS, INLINES


class Actions(unittest.TestCase):
    def assert_block(self, actions, block, expected):
        self.assertEqual(on_block(actions, block), expected, (actions, block))

    def assert_inline(self, actions, inline, expected):
        self.assertEqual(on_inline(actions, inline), expected, (actions, inline))

    def assert_blocks_stay(self, actions, kinds):
        for kind in kinds:
            self.assert_block(actions, BLOCKS[kind], BLOCKS[kind])

    def assert_inlines_stay(self, actions, kinds):
        for kind in kinds:
            self.assert_inline(actions, INLINES[kind], INLINES[kind])


def without(table, kinds):
    """The kinds of a table but these."""
    return [kind for kind in table if kind not in kinds.split()]


class Removing(Actions):
    def test_each_kind(self):
        for kind in BLOCKS:
            self.assert_block("(remove)", BLOCKS[kind], "")
        for kind in INLINES:
            self.assert_inline("(remove)", INLINES[kind], "")
        self.assertEqual(apply("(inlines (kind break) (remove))", '(para "a" (break) "b")'), '(para "ab")')

    def test_the_items_around_stay(self):
        self.assertEqual(apply("(blocks (kind rule) (remove))", '(bullets (item (rule)) (item (rule) (note "n")))'),
                         '(bullets (item) (item (note "n")))')
        self.assertEqual(apply("(inlines (any) (remove))", '(terms (term ("a") (para "b")))\n(heading 1 "" "c")'),
                         '(terms (term ()))\n(heading 1 "")')
        self.assertEqual(apply("(inlines (any) (remove))", '(table "" (caption "a") (align none) (row (cell "b")))'),
                         '(table "" (caption) (align none) (row (cell)))')

    def test_actions_after_it(self):
        self.assert_block("(remove) (replace (self) (content))", "(rule)", "")
        self.assert_block("(remove) (replace (note \"n\" (self)))", "(rule)", '(note "n")')
        self.assert_block("(remove) (unwrap) (lower) (upper-case)", "(quote (rule))", "")
        self.assert_inline('(remove) (before "a") (after "b")', '"c"', '"ab"')

    def test_items_before_and_after_stay(self):
        self.assert_block('(before (note "a")) (after (note "b")) (remove)', "(rule)", '(note "a")\n(note "b")')


class Unwrapping(Actions):
    def test_blocks(self):
        self.assert_block("(unwrap)", '(quote (rule) (para "a"))', '(rule)\n(para "a")')
        self.assert_block("(unwrap)", '(group (class "x") (rule) (para "a"))', '(rule)\n(para "a")')
        self.assert_block("(unwrap)", '(note "x" (rule) (para "a"))', '(rule)\n(para "a")')
        self.assert_block("(unwrap)", '(note "x")', "")
        self.assert_block("(unwrap)", '(bullets (item (rule) (para "a")) (item) (item (para "b")))', '(rule)\n(para "a")\n(para "b")')
        self.assert_block("(unwrap)", '(numbers 3 (item (rule) (para "a")) (item) (item (para "b")))', '(rule)\n(para "a")\n(para "b")')
        self.assert_block("(unwrap)", "(bullets (item))", "")
        self.assert_blocks_stay("(unwrap)", without(BLOCKS, "quote group note bullets numbers"))

    def test_blocks_that_stay_with_their_content(self):
        for block in ['(terms (term ("a") (rule)))', '(figure "f" "u" "a")', '(heading 2 "h" "a")',
                      '(table "" (caption "a") (align none) (row (cell "b")))']:
            self.assert_block("(unwrap)", block, block)

    def test_inline_elements(self):
        for style in "emph strong strike super sub caps".split():
            self.assert_inline("(unwrap)", "(" + style + ' "a" (math "b"))', '"a" (math "b")')
        self.assert_inline("(unwrap)", '(link "u" "a" (math "b"))', '"a" (math "b")')
        self.assert_inline("(unwrap)", '(image "u" "a" (math "b"))', '"a" (math "b")')
        self.assert_inline("(unwrap)", '(span (class "x") "a" (math "b"))', '"a" (math "b")')
        self.assert_inline("(unwrap)", '(image "u")', "")
        self.assert_inlines_stay("(unwrap)", "text code math noteref ref cite".split())

    def test_one_level_alone(self):
        self.assert_block("(unwrap)", "(quote (note \"n\" (rule)))", '(note "n" (rule))')
        self.assert_block("(unwrap) (unwrap)", "(quote (note \"n\" (rule)) (rule))", "(rule)\n(rule)")
        self.assert_inline("(unwrap)", '(emph (strong "a"))', '(strong "a")')


class Templates(Actions):
    def test_replace(self):
        self.assert_block("(replace)", "(rule)", "")
        self.assert_block('(replace (rule) (para "a"))', '(para "b")', '(rule)\n(para "a")')
        self.assert_inline("(replace)", '"a"', "")
        self.assert_inline('(replace "x" (emph "y"))', '"a"', '"x" (emph "y")')

    def test_self(self):
        for kind in BLOCKS:
            self.assert_block("(replace (self))", BLOCKS[kind], BLOCKS[kind])
            self.assert_block('(replace (note "x" (self) (rule)))', BLOCKS[kind], '(note "x" ' + BLOCKS[kind] + " (rule))")
        for kind in INLINES:
            self.assert_inline("(replace (self))", INLINES[kind], INLINES[kind])
            self.assert_inline('(replace (link "x" (self) (math "")))', INLINES[kind],
                               '(link "x" ' + ('(math "a")' if kind == "link" else INLINES[kind]) + ' (math ""))')
        self.assert_inline("(replace (self) (self) (self))", '(math "a")', '(math "a") (math "a") (math "a")')

    def test_content(self):
        contents = {
            "para": '(para "a" (emph "b"))', "heading": '(heading 2 "x" "a" (emph "b"))', "figure": '(figure "x" "u" "a" (emph "b"))',
            "table": '(table "x" (caption "a") (align none none) (row (cell (emph "b")) (cell)))'}
        for kind in contents:
            self.assert_block("(replace (para (content)))", contents[kind], '(para "a" (emph "b"))')
        for block in ['(quote (rule) (note "n"))', '(group (class "x") (rule) (note "n"))', '(note "x" (rule) (note "n"))',
                      '(bullets (item (rule)) (item) (item (note "n")))', '(numbers 7 (item (rule) (note "n")))',
                      '(terms (term ()) (term () (rule)) (term () (note "n")))']:
            self.assert_block("(replace (content))", block, '(rule)\n(note "n")')
        for kind in ["code", "formula", "rule"]:
            self.assert_block('(replace (note "x" (content)))', BLOCKS[kind], '(note "x")')
        for inline in ['(emph "a" (math "b"))', '(caps "a" (math "b"))', '(link "u" "a" (math "b"))', '(image "u" "a" (math "b"))',
                       '(span (class "x") "a" (math "b"))']:
            self.assert_inline("(replace (content))", inline, '"a" (math "b")')
        for kind in "text code math noteref ref cite".split():
            self.assert_inline('(replace (image "x" (content)))', INLINES[kind], '(image "x")')

    def test_order_of_the_lists(self):
        table = ('(table "" (caption "a") (align none none) (row (cell "b" (math "c")) (cell "d"))'
                 ' (row (cell "e") (cell "f")))')
        self.assert_block("(replace (para (content)))", table, '(para "ab" (math "c") "def")')
        self.assert_block("(replace (para (content)))", '(terms (term ("a" "b")) (term ("c")))', '(para "abc")')
        # Terms and blocks come mixed, so they stand nowhere together.
        self.assert_block("(replace (para (content)))", '(terms (term ("a") (rule)))', -33)
        self.assert_block("(replace (content))", '(terms (term ("a") (rule)))', -33)

    def test_at_any_depth(self):
        self.assert_block('(replace (bullets (item (quote (self)) (rule)) (item (self))))', '(para "a")',
                          '(bullets (item (quote (para "a")) (rule)) (item (para "a")))')
        self.assert_block('(replace (terms (term ((content) (emph (strong (content)))) (self))))', '(para "a")',
                          '(terms (term ("a" (emph (strong "a"))) (para "a")))')
        self.assert_block('(replace (table "" (caption (content)) (align none) (row (cell (content) "b"))))', '(para "a")',
                          '(table "" (caption "a") (align none) (row (cell "ab")))')
        self.assert_block('(replace (heading 1 "" (content)) (self) (quote (quote (quote (self)))))', '(para "a")',
                          '(heading 1 "" "a")\n(para "a")\n(quote (quote (quote (para "a"))))')
        self.assert_block("(replace (terms (term ((content)) (self)) (term () (self))))", '(para "a")',
                          '(terms (term ("a") (para "a")) (term () (para "a")))')

    def test_strings_in_other_places(self):
        self.assert_inline('(replace (link (self) "x"))', '"a b"', '(link "a b" "x")')
        self.assert_inline("(replace (code (self)))", '"a b"', '(code "a b")')
        self.assert_inline("(replace (ref (self)))", '"a"', '(ref "a")')
        self.assert_inline("(replace (cite (self) (self)))", '"a"', '(cite "a" "a")')
        self.assert_inline('(replace (span (class "x" (self)) "b"))', '"a"', '(span (class "x" "a") "b")')
        self.assert_inline("(replace (math (content)))", '(emph "a")', '(math "a")')
        self.assert_block('(replace (code "" (content)))', '(para "a")', '(code "" "a")')
        self.assert_block('(replace (heading 1 (content) (content)))', '(para "a")', '(heading 1 "a" "a")')
        self.assert_block('(replace (note (content) (self)))', '(para "a")', '(note "a" (para "a"))')

    def test_lists_that_are_written_otherwise(self):
        self.assert_block('(replace ( self ) (quote (;\ncontent\n)))', '(note "n" (rule))', '(note "n" (rule))\n(quote (rule))')
        for template in ["self", "content", "(self 1)", "(content content)", "((self))", "((content))", '("self")', "(self ())"]:
            self.assert_block("(replace " + template + ")", "(rule)", -33)
            self.assert_inline("(replace " + template + ")", '"a"', -33)
        self.assert_inline('(replace (emph (self 1)))', '"a"', -33)

    def test_several_current_items(self):
        self.assert_block('(unwrap) (replace (self) (self))', '(note "n" (rule) (para "a"))', '(rule)\n(para "a")\n(rule)\n(para "a")')
        self.assert_block('(unwrap) (replace (quote (self)))', '(note "n" (rule) (para "a"))', '(quote (rule) (para "a"))')
        self.assert_block('(unwrap) (replace (para (content)))', '(note "n" (para "a") (rule) (heading 1 "" (emph "b")))',
                          '(para "a" (emph "b"))')

    def test_before_and_after(self):
        self.assert_block('(before (note "a"))', "(rule)", '(note "a")\n(rule)')
        self.assert_block('(after (note "a"))', "(rule)", '(rule)\n(note "a")')
        self.assert_block('(before (note "a") (note "b"))', "(rule)", '(note "a")\n(note "b")\n(rule)')
        self.assert_block('(before (note "a")) (before (note "b") (note "c"))', "(rule)", '(note "a")\n(note "b")\n(note "c")\n(rule)')
        self.assert_block('(after (note "a")) (after (note "b") (note "c"))', "(rule)", '(rule)\n(note "b")\n(note "c")\n(note "a")')
        self.assert_block("(before) (after)", "(rule)", "(rule)")
        self.assert_inline('(before "a") (after "b")', '(math "x")', '"a" (math "x") "b"')
        self.assert_inline('(after "a") (after "b") (before "c") (before "d")', '(math "x")', '"cd" (math "x") "ba"')

    def test_before_and_after_with_the_items(self):
        self.assert_block("(before (quote (self)))", "(rule)", "(quote (rule))\n(rule)")
        self.assert_block("(after (content))", '(note "n" (rule))', '(note "n" (rule))\n(rule)')
        self.assert_inline('(after (emph (self)) (content))', '(strong "a")', '(strong "a") (emph (strong "a")) "a"')

    def test_items_before_and_after_are_not_current(self):
        self.assert_block('(before (heading 1 "")) (lower) (after (heading 1 "")) (lower)', '(heading 2 "")',
                          '(heading 1 "")\n(heading 4 "")\n(heading 1 "")')
        self.assert_inline('(before "a") (after "a") (upper-case) (replace (self) (self))', '"b"', '"aBBa"')
        self.assert_block('(before (rule)) (remove) (replace (note "n" (self)))', '(para "a")', '(rule)\n(note "n")')

    def test_actions_see_what_was_changed(self):
        self.assert_block('(lower) (before (self)) (lower) (after (self)) (lower)', '(heading 1 "")',
                          '(heading 2 "")\n(heading 4 "")\n(heading 3 "")')
        self.assert_inline('(replace "xy") (replace-text "x" "z") (replace (emph (self))) (replace-text "y" "w")', '"a"', '(emph "zw")')


class Levels(Actions):
    def test_set_level(self):
        for level in range(1, 7):
            for other in range(1, 7):
                self.assert_block("(set-level %d)" % other, '(heading %d "x" "a")' % level, '(heading %d "x" "a")' % other)
        self.assert_blocks_stay("(set-level 3)", without(BLOCKS, "heading"))

    def test_raise_and_lower(self):
        for level in range(1, 7):
            self.assert_block("(raise)", '(heading %d "x" "a")' % level, '(heading %d "x" "a")' % max(level - 1, 1))
            self.assert_block("(lower)", '(heading %d "x" "a")' % level, '(heading %d "x" "a")' % min(level + 1, 6))
        self.assert_block("(raise) (raise)", '(heading 5 "")', '(heading 3 "")')
        self.assert_block("(lower) (raise) (lower)", '(heading 6 "")', '(heading 6 "")')
        self.assert_blocks_stay("(raise)", without(BLOCKS, "heading"))
        self.assert_blocks_stay("(lower)", without(BLOCKS, "heading"))

    def test_inline_elements_stay(self):
        for action in ["(set-level 3)", "(raise)", "(lower)"]:
            self.assert_inlines_stay(action, INLINES)

    def test_just_the_current_items(self):
        block = '(note "n" (heading 3 ""))'
        for action in ["(set-level 1)", "(raise)", "(lower)"]:
            self.assert_block(action, block, block)
        self.assert_block("(unwrap) (lower)", '(note "n" (heading 3 "") (rule) (heading 6 ""))', '(heading 4 "")\n(rule)\n(heading 6 "")')


class Attributes(Actions):
    def test_set_label_of_blocks(self):
        for block in ['(heading 1 "%s" "a")', '(formula "%s" "a")', '(figure "%s" "u" "a")',
                      '(table "%s" (caption "a") (align none) (row (cell "b")))']:
            for old in ["", "x", "new"]:
                for new in ["", "new"]:
                    self.assert_block('(set-label "' + new + '")', block % old, block % new)
        self.assert_block('(set-label "new")', '(note "x" (rule))', '(note "new" (rule))')
        self.assert_block('(set-label "")', '(note "x" (rule))', '(note "x" (rule))')
        for label in ["", "new"]:
            self.assert_blocks_stay('(set-label "' + label + '")', without(BLOCKS, "heading formula figure table note"))

    def test_set_label_of_inline_elements(self):
        for kind in ["ref", "noteref"]:
            self.assert_inline('(set-label "new")', "(" + kind + ' "x")', "(" + kind + ' "new")')
            self.assert_inline('(set-label "")', "(" + kind + ' "x")', "(" + kind + ' "x")')
        for label in ["", "new"]:
            self.assert_inlines_stay('(set-label "' + label + '")', without(INLINES, "ref noteref"))

    def test_add_class(self):
        self.assert_block('(add-class "x")', '(group (class "a") (rule))', '(group (class "a" "x") (rule))')
        self.assert_block('(add-class "x")', '(group (class "x" "a") (rule))', '(group (class "x" "a") (rule))')
        self.assert_block('(add-class "x") (add-class "y") (add-class "x")', '(group (class "a") (rule))', '(group (class "a" "x" "y") (rule))')
        self.assert_inline('(add-class "x")', '(span (class "a") "b")', '(span (class "a" "x") "b")')
        self.assert_inline('(add-class "x")', '(span (class "a" "x") "b")', '(span (class "a" "x") "b")')
        self.assert_block('(replace (group (class) (self))) (add-class "x")', "(rule)", '(group (class "x") (rule))')
        self.assert_blocks_stay('(add-class "z")', without(BLOCKS, "group"))
        self.assert_inlines_stay('(add-class "z")', without(INLINES, "span"))

    def test_names_of_the_notation_are_no_classes(self):
        self.assert_block('(add-class "class")', '(group (class "a") (rule))', '(group (class "a" "class") (rule))')
        self.assert_inline('(add-class "class")', '(span (class "a") "b")', '(span (class "a" "class") "b")')
        self.assert_block('(remove-class "class")', '(group (class "class" "a") (rule))', '(group (class "a") (rule))')

    def test_remove_class(self):
        self.assert_block('(remove-class "x")', '(group (class "x" "a" "x" "b" "x") (rule))', '(group (class "a" "b") (rule))')
        self.assert_block('(remove-class "x")', '(group (class "a" "xx") (rule))', '(group (class "a" "xx") (rule))')
        self.assert_block('(remove-class "x")', '(group (class "x") (rule))', "(rule)")
        self.assert_inline('(remove-class "x")', '(span (class "x" "a" "x") "b")', '(span (class "a") "b")')
        self.assert_inline('(remove-class "x")', '(span (class "x") "b")', '"b"')
        self.assert_block('(remove-class "x") (add-class "y")', '(group (class "x") (rule))', '(group (class "y") (rule))')
        self.assert_blocks_stay('(remove-class "n")', BLOCKS)
        self.assert_inlines_stay('(remove-class "n")', INLINES)

    def test_just_the_classes_of_the_current_items(self):
        block = '(note "n" (group (class "x") (rule)))'
        self.assert_block('(remove-class "x") (add-class "y")', block, block)
        inline = '(emph (span (class "x") "a"))'
        self.assert_inline('(remove-class "x") (add-class "y")', inline, inline)

    def test_set_target(self):
        for target in ["", "new", "a b", "\u20ac"]:
            self.assert_block('(set-target "' + target + '")', '(figure "f" "u" "a")', '(figure "f" "' + target + '" "a")')
            self.assert_inline('(set-target "' + target + '")', '(link "u" "a")', '(link "' + target + '" "a")')
            self.assert_inline('(set-target "' + target + '")', '(image "u" "a")', '(image "' + target + '" "a")')
            self.assert_blocks_stay('(set-target "' + target + '")', without(BLOCKS, "figure"))
            self.assert_inlines_stay('(set-target "' + target + '")', without(INLINES, "link image"))
        self.assert_inline('(set-target "x")', '(emph (link "u" "a"))', '(emph (link "u" "a"))')


class Texts(Actions):
    EVERYWHERE = [
        '(para "%s")', '(heading 1 "" "%s")', '(figure "" "" "%s")', '(quote (para "%s") (para "%s"))',
        '(group (class "x") (para "%s"))', '(note "n" (para "%s") (note "m" (para "%s")))',
        '(bullets (item (para "%s")) (item (para "%s")))', '(numbers 1 (item (para "%s")) (item (para "%s")))',
        '(terms (term ("%s") (para "%s")) (term ("%s") (para "%s")))',
        '(table "" (caption "%s") (align none none) (row (cell "%s") (cell "%s")) (row (cell "%s") (cell (emph "%s"))))',
        '(para (emph (strong "%s" (link "u" "%s"))) (image "u" "%s" (span (class "x") "%s")))']

    def test_replace_text_at_any_depth(self):
        for block in self.EVERYWHERE:
            count = block.count("%s")
            self.assert_block('(replace-text "a" "xy")', block % (("banana",) * count), block % (("bxynxynxy",) * count))
            self.assert_block("(upper-case)", block % (("aBz",) * count), block % (("ABZ",) * count))
            self.assert_block("(lower-case)", block % (("aBZ",) * count), block % (("abz",) * count))

    def test_text_elements_alone(self):
        for action in ['(replace-text "a" "b")', "(upper-case)", '(replace-text "u" "v")', '(replace-text "x" "y")']:
            self.assert_blocks_stay(action, without(BLOCKS, "para"))
            self.assert_inlines_stay(action, without(INLINES, "text"))
        block = '(para (code "a") (math "a") (ref "a") (noteref "a") (cite "a") (link "a" "0") (span (class "a") "0"))'
        for action in ['(replace-text "a" "b")', "(upper-case)"]:
            self.assert_block(action, block, block)
        block = '(note "A" (code "A" "A") (formula "A" "A") (figure "A" "A") (heading 1 "A"))'
        for action in ['(replace-text "A" "b")', "(lower-case)"]:
            self.assert_block(action, block, block)

    def test_from_left_to_right_without_overlapping(self):
        self.assert_inline('(replace-text "aa" "b")', '"aaaaa"', '"bba"')
        self.assert_inline('(replace-text "aba" "x")', '"ababa-abaaba"', '"xba-xx"')
        self.assert_inline('(replace-text "ab" "a")', '"abb"', '"ab"')
        self.assert_inline('(replace-text "a" "aa")', '"aba"', '"aabaa"')
        self.assert_inline('(replace-text "ab" "")', '"aabb"', '"ab"')

    def test_replace_text_with_nothing(self):
        self.assert_inline('(replace-text "a" "")', '"a"', "")
        self.assert_block('(replace-text "a" "")', '(note "n" (para "aa") (para "ab"))', '(note "n" (para "b"))')
        self.assert_block('(replace-text "a" " ")', '(para "xay" (emph "a"))', '(para "x y")')

    def test_texts_are_not_looked_at_together(self):
        self.assert_block('(replace-text "ab" "x")', '(para "a" (emph "b"))', '(para "a" (emph "b"))')
        # In one step texts side by side aren't one yet.
        self.assert_inline('(replace "a" "b") (replace-text "ab" "x")', '"c"', '"ab"')

    def test_white_space_and_escapes(self):
        self.assert_inline('(replace-text " " "_")', '"a b  c"', '"a_b_c"')
        self.assert_inline('(replace-text "_" " \\n\\t\\u{d}")', '"a_b_"', '"a b"')
        self.assert_inline('(replace-text "\\"" "\\\\")', '"a\\"b"', '"a\\\\b"')
        self.assert_inline('(replace-text "\\u{1}" "\\u{1f}\\u{0}")', '"a\\u{1}b"', '"a\\u{1f}\\u{0}b"')

    def test_other_characters(self):
        self.assert_inline('(replace-text "\u00e9" "\U0001f600")', '"caf\u00e9\u00e8"', '"caf\U0001f600\u00e8"')
        self.assert_inline('(replace-text "\u20ac" "")', '"1\u20ac\u20ad"', '"1\u20ad"')
        self.assert_inline('(replace-text "~" "-")', '"~\u00e9\\u{1}{|}^%~"', '"-\u00e9\\u{1}{|}^%-"')
        self.assert_inline('(replace-text "{" "-")', '"{\u00e9\\u{1}~|}^%"', '"-\u00e9\\u{1}~|}^%"')
        self.assert_inline('(replace-text "^" "-")', '"{\u00e9\u20ac\\u{1}~|}^%"', '"{\u00e9\u20ac\\u{1}~|}-%"')
        self.assert_inline('(replace-text "%" "~")', '"50% {}"', '"50~ {}"')

    def test_case_of_ascii_letters_alone(self):
        self.assert_inline("(upper-case)", '"azAZ09 @[`{\u00e4\u00c4\u00df\u0131\u017f\u03b1\U0001f600"', '"AZAZ09 @[`{\u00e4\u00c4\u00df\u0131\u017f\u03b1\U0001f600"')
        self.assert_inline("(lower-case)", '"azAZ09 @[`{\u00e4\u00c4\u0130\u212a\u0391"', '"azaz09 @[`{\u00e4\u00c4\u0130\u212a\u0391"')

    def test_each_text_of_several_current_items(self):
        self.assert_block('(unwrap) (replace-text "a" "b")', '(note "n" (para "a") (rule) (quote (para (emph "a"))))',
                          '(para "b")\n(rule)\n(quote (para (emph "b")))')


class Several(Actions):
    def test_one_after_another(self):
        self.assert_block('(set-label "x") (lower) (replace-text "a" "b") (upper-case)', '(heading 1 "" "a")', '(heading 2 "x" "B")')
        self.assert_block('(upper-case) (replace-text "a" "b")', '(heading 1 "" "a")', '(heading 1 "" "A")')
        self.assert_block("(unwrap) (unwrap)", '(note "n" (quote (rule)) (note "m" (quote (rule))))', "(rule)\n(quote (rule))")
        self.assert_inline('(unwrap) (replace (strong (self)))', '(emph "a" (math "b"))', '(strong "a" (math "b"))')
        self.assert_inline('(set-target "x") (unwrap)', '(link "u" "a")', '"a"')

    def test_no_actions(self):
        for kind in BLOCKS:
            self.assert_block("", BLOCKS[kind], BLOCKS[kind])
