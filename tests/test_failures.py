"""apply: the bounds of programs and documents, wrong templates, and which failure counts."""

import unittest

from tests.helper import apply, normal

GROW = '(inlines (text "a") (replace-text "a" "ab"))'


def notes(count, inner):
    """Blocks with so many notes around them."""
    return '(note "n" ' * count + inner + ")" * count


def quotes(count, inner):
    """A template with so many quotes around it."""
    return "(quote " * count + inner + ")" * count


OUTERMOST = "(blocks (not (parent (any))) "


class Steps(unittest.TestCase):
    def test_two_hundred(self):
        self.assertEqual(apply("(repeat 50 (repeat 4 " + GROW + "))", '(para "a")'), '(para "a' + "b" * 200 + '")')
        self.assertEqual(apply("(repeat 50 (repeat 4 " + GROW + ")) (blocks (any))", '(para "a")'), -28)
        self.assertEqual(apply("(blocks (any)) (repeat 50 (repeat 4 " + GROW + "))", '(para "a")'), -28)
        self.assertEqual(apply("(repeat 50 (repeat 5 " + GROW + "))", '(para "a")'), -28)

    def test_steps_that_select_or_change_nothing_count(self):
        for step in ["(blocks (or))", "(inlines (or))", "(blocks (any))", "(inlines (kind code) (remove))"]:
            self.assertEqual(apply("(repeat 50 " + GROW + step * 3 + ")", '(para "a")'), '(para "a' + "b" * 50 + '")', step)
            self.assertEqual(apply("(repeat 50 " + GROW + step * 3 + ")" + step, '(para "a")'), -28, step)

    def test_repeat_and_when_do_not_count(self):
        program = "(repeat 50 (repeat 1) (when (any)) (when (or) (blocks (any))) (when (any) (repeat 4 " + GROW + ")))"
        self.assertEqual(apply(program, '(para "a")'), '(para "a' + "b" * 200 + '")')
        self.assertEqual(apply(program + "(when (any)) (repeat 50)", '(para "a")'), '(para "a' + "b" * 200 + '")')
        self.assertEqual(apply(program + "(when (any) (blocks (any)))", '(para "a")'), -28)
        self.assertEqual(apply(program + "(repeat 1 (inlines (or)))", '(para "a")'), -28)
        self.assertEqual(apply(program + "(when (or) (blocks (any)))", '(para "a")'), '(para "a' + "b" * 200 + '")')

    def test_of_a_document_without_blocks(self):
        self.assertEqual(apply("(blocks (any))" * 40, ""), "")
        self.assertEqual(apply("(repeat 50 (repeat 50 (blocks (any))))", ""), "")


class Size(unittest.TestCase):
    def test_three_thousand_bytes(self):
        program = '(inlines (any) (replace-text "a" "xxxxxxxxxx"))'
        self.assertEqual(apply(program, '(para "' + "a" * 299 + 'b")'), '(para "' + "x" * 2990 + 'b")')
        self.assertEqual(apply(program, '(para "' + "a" * 299 + 'bb")'), -28)

    def test_bytes_count_and_not_characters(self):
        program = '(inlines (any) (replace-text "a" "\u20ac\u20ac\u20acx"))'
        self.assertEqual(apply(program, '(para "' + "a" * 299 + 'b")'), '(para "' + "\u20ac\u20ac\u20acx" * 299 + 'b")')
        self.assertEqual(apply(program, '(para "' + "a" * 299 + 'bb")'), -28)

    def test_escapes_count_as_they_are_written(self):
        program = '(inlines (any) (replace-text "a" "\\u{1f}\\"\\\\"))'
        self.assertEqual(apply(program, '(para "' + "a" * 299 + 'b")'), '(para "' + "\\u{1f}\\\"\\\\" * 299 + 'b")')
        self.assertEqual(apply(program, '(para "' + "a" * 299 + 'bb")'), -28)
        program = '(inlines (any) (replace-text "a" "\\u{c}\\u{c}"))'
        self.assertEqual(apply(program, '(para "' + "a" * 299 + 'b")'), '(para "' + "\\u{c}\\u{c}" * 299 + 'b")')
        self.assertEqual(apply(program, '(para "' + "a" * 299 + 'bb")'), -28)

    def test_parentheses_spaces_and_line_feeds_count(self):
        # 50 formulas of 59 bytes, and 49 line feeds: 2999 bytes.
        program = '(blocks (any) (replace ' + '(self)' * 50 + '))'
        self.assertEqual(len(apply(program, '(formula "" "' + "a" * 44 + '")')), 50 * 59 + 49)
        self.assertEqual(apply(program, '(formula "" "' + "a" * 45 + '")'), -28)
        program = '(blocks (any) (replace ' + '(self)' * 50 + '))(blocks (first) (set-label "a"))'
        self.assertEqual(len(apply(program, '(formula "" "' + "a" * 44 + '")')), 3000)
        program = '(blocks (any) (replace ' + '(self)' * 50 + '))(blocks (first) (set-label "ab"))'
        self.assertEqual(apply(program, '(formula "" "' + "a" * 44 + '")'), -28)
        # Each list item has 73 bytes and a space ahead of it.
        tree = '(note "n" ' + "(rule)" * 8 + ")"
        self.assertEqual(len(apply("(blocks (kind note) (replace (bullets " + "(item (self))" * 40 + ")))", tree)), 9 + 40 * 74)
        self.assertEqual(apply("(blocks (kind note) (replace (bullets " + "(item (self))" * 41 + ")))", tree), -28)

    def test_after_each_step(self):
        big = '(inlines (any) (replace-text "a" "xxxxxxxxxxx"))'
        for last in ["(blocks (any) (remove))", "(inlines (any) (remove))", '(inlines (any) (replace-text "x" ""))']:
            self.assertEqual(apply(big + last, '(para "' + "a" * 299 + '")'), -28)
        self.assertEqual(apply("(when (any) " + big + ")", '(para "' + "a" * 299 + '")'), -28)
        self.assertEqual(apply("(repeat 1 " + big + ")", '(para "' + "a" * 299 + '")'), -28)

    def test_what_is_larger_within_a_step(self):
        program = '(inlines (any) (replace-text "a" "xxxxxxxxxxx") (replace-text "x" ""))'
        self.assertEqual(apply(program, '(para "' + "a" * 299 + 'b")'), '(para "b")')
        program = '(inlines (any) (replace-text "a" "xxxxxxxxxxx") (remove))'
        self.assertEqual(apply(program, '(para "' + "a" * 299 + '")'), "")

    def test_the_normal_form_counts(self):
        program = '(inlines (any) (replace-text "a" "            "))'
        self.assertEqual(apply(program, '(para "' + "ab" * 270 + '")'), '(para "' + " ".join("b" * 270) + '")')

    def test_many_items(self):
        self.assertEqual(apply("(blocks (any) (replace (self) (self)))", notes(15, "(rule)")), -28)
        self.assertEqual(apply("(blocks (any) (replace (self) (rule) (self)))", quotes(14, "(rule)")), -28)
        self.assertEqual(apply("(inlines (any) (replace " + "(self)" * 80 + "))", "(para " + '(ref "a") ' * 59 + ")"), -28)


class DepthAfterAStep(unittest.TestCase):
    def test_blocks(self):
        tree = notes(14, '(note "x")')
        self.assertEqual(apply('(blocks (label "x") (replace (note "m" (rule))))', tree), notes(14, '(note "m" (rule))'))
        self.assertEqual(apply('(blocks (label "x") (replace (note "m" (quote (rule)))))', tree), -28)
        self.assertEqual(apply('(blocks (label "x") (after (bullets (item))))', tree), notes(14, '(note "x") (bullets (item))'))
        self.assertEqual(apply('(blocks (label "x") (after (bullets (item (rule)))))', tree), -28)
        self.assertEqual(apply('(blocks (label "x") (after (terms (term ()))))', tree), -28)
        self.assertEqual(apply('(blocks (label "x") (after (group (class "x") (rule))))', tree), notes(14, '(note "x") (group (class "x") (rule))'))

    def test_lists_without_parts(self):
        self.assertEqual(apply('(blocks (label "x") (replace (terms (term ()))))', notes(13, '(note "x")')), notes(13, "(terms (term ()))"))
        self.assertEqual(apply('(blocks (label "x") (replace (terms (term ()))))', notes(14, '(note "x")')), -28)

    def test_inline_elements(self):
        tree = notes(14, '(para "a")')
        self.assertEqual(apply('(inlines (any) (replace (emph (self))))', tree), notes(14, '(para (emph "a"))'))
        self.assertEqual(apply('(inlines (any) (replace (emph (strong (self)))))', tree), -28)
        self.assertEqual(apply('(inlines (any) (replace (span (class "x") (self))))', tree), -28)
        self.assertEqual(apply('(inlines (any) (replace (emph (self))))', notes(15, '(para "a")')), -28)
        self.assertEqual(apply('(inlines (any) (replace (self) "b"))', notes(15, '(para "a")')), notes(15, '(para "ab")'))

    def test_steps_that_would_mend_it(self):
        tree = notes(15, '(para "a")')
        self.assertEqual(apply("(inlines (any) (replace (emph (self)))) (blocks (any) (remove))", tree), -28)

    def test_the_normal_form_counts(self):
        tree = notes(15, '(para "a")')
        self.assertEqual(apply("(blocks (kind para) (replace (group (class) (self))))", tree), tree)
        self.assertEqual(apply("(inlines (any) (replace (self) (emph)))", tree), tree)
        self.assertEqual(apply("(inlines (any) (replace (emph (self)) (emph)))", tree), -28)


class DepthWithinAStep(unittest.TestCase):
    def test_filled_template(self):
        # The filled template is removed again, so just its own depth can be too much.
        for count in range(4):
            expected = "" if count <= 2 else -28
            self.assertEqual(apply(OUTERMOST + "(replace " + quotes(13, "(self)") + ") (remove))", notes(count, "(rule)")), expected)
            self.assertEqual(apply(OUTERMOST + "(replace " + quotes(13, "(content)") + ") (remove))", notes(count + 1, "(rule)")), expected)
        self.assertEqual(apply(OUTERMOST + "(before " + quotes(13, "(self)") + "))", notes(2, "(rule)")).count("(quote"), 13)
        self.assertEqual(apply(OUTERMOST + "(before " + quotes(13, "(self)") + "))", notes(3, "(rule)")), -28)
        self.assertEqual(apply(OUTERMOST + "(after " + quotes(13, "(self)") + "))", notes(2, "(rule)")).count("(quote"), 13)
        self.assertEqual(apply(OUTERMOST + "(after " + quotes(13, "(self)") + "))", notes(3, "(rule)")), -28)

    def test_filled_template_of_inline_elements(self):
        self.assertEqual(apply("(inlines (parent (kind para)) (replace " + "(emph " * 13 + "(self)" + ")" * 13 + ") (remove))",
                               '(para (emph (emph (emph "a"))))'), "")
        self.assertEqual(apply("(inlines (parent (kind para)) (replace " + "(emph " * 13 + "(self)" + ")" * 13 + ") (remove))",
                               '(para (emph (strong (sub (caps "a")))))'), -28)

    def test_current_items(self):
        # What stands before the inner rule makes the outermost item too deep for any template.
        program = "(blocks (or (kind rule) (not (parent (any)))) (before " + quotes(2, "(note \"m\")") + ") (remove))"
        self.assertEqual(apply(program, notes(13, "(rule)")), quotes(2, '(note "m")'))
        self.assertEqual(apply(program, notes(14, "(rule)")), -28)

    def test_current_items_whatever_stands_in_the_template(self):
        program = "(blocks (or (kind rule) (not (parent (any)))) (%s) (remove) (replace " + quotes(2, "(note \"m\")") + "))"
        for name in ["replace", "before", "after", "before (rule)", "replace (rule)", "after (note \"x\")"]:
            self.assertIsInstance(apply(program % name, notes(13, "(rule)")), str, name)
            self.assertEqual(apply(program % name, notes(14, "(rule)")), -28, name)

    def test_without_a_template_nothing_is_too_deep(self):
        program = "(blocks (or (kind rule) (not (parent (any)))) (unwrap) (add-class \"x\") (remove) (replace " + quotes(2, "(note \"m\")") + "))"
        self.assertEqual(apply(program, notes(14, "(rule)")), quotes(2, '(note "m")'))
        self.assertEqual(apply(program, notes(15, "(rule)")), quotes(2, '(note "m")'))

    def test_just_the_current_items_count(self):
        # After the unwrapping the note is gone, and its content is just not too deep.
        program = "(blocks (or (kind rule) (not (parent (any)))) (unwrap) (before) (remove) (replace " + quotes(2, "(note \"m\")") + "))"
        self.assertEqual(apply(program, notes(14, "(rule)")), quotes(2, '(note "m")'))
        self.assertEqual(apply(program, notes(15, "(rule)")), -28)

    def test_items_deeper_than_sixteen_after_inner_changes(self):
        self.assertEqual(apply("(blocks (any) (replace (note \"m\" (self))))", notes(7, "(rule)")).count("note"), 15)
        self.assertEqual(apply("(blocks (any) (replace (note \"m\" (self))))", notes(8, "(rule)")), -28)


class WrongTemplates(unittest.TestCase):
    def test_blocks(self):
        for template in ['"a"', "1", "x", "()", "(x)", "(break)", '(emph "a")', '(code "a")', "(item (self))", "(para (self))",
                         "(heading 0 \"\")", "(heading (self))", "(quote 1)", "(bullets)", "(bullets (self))", "(note \"\")",
                         '(note "a b" (self))', "(group (self))", "(terms (term (self)))", "(figure (self))", "(quote (item))",
                         '(table "" (caption) (align none) (row (self)))', "(rule (self))", "(quote \"x\" (self))",
                         "(blocks (any))", "(any)", '(code "a b" "")', "(numbers 1)", "(para (rule))", "(self) x", "x (self)"]:
            for name in ["replace", "before", "after"]:
                self.assertEqual(apply("(blocks (any) (" + name + " " + template + "))", "(rule)"), -33, template)

    def test_inline_elements(self):
        for template in ["1", "x", "()", "(x)", "(rule)", '(para "a")', '(code "" "a")', "(emph 1)", "(emph (rule))", "(link (code))",
                         "(link)", "(link (emph))", '(ref "")', '(ref "a b")', "(noteref)", "(cite)", "(span)", '(span "a")',
                         '(span (class "") "a")', "(break (self))", "(code (self) (self))", "(math)", "(self) x", "(item)"]:
            for name in ["replace", "before", "after"]:
                self.assertEqual(apply("(inlines (any) (" + name + " " + template + "))", '(para "a")'), -33, template)

    def test_what_depends_on_the_items(self):
        self.assertEqual(apply("(inlines (kind text) (replace (ref (self))))", '(para "ab")'), '(para (ref "ab"))')
        self.assertEqual(apply("(inlines (kind text) (replace (ref (self))))", '(para "a b")'), -33)
        self.assertEqual(apply("(inlines (kind text) (replace (ref (self))))", '(para "' + "a" * 40 + '")'), '(para (ref "' + "a" * 40 + '"))')
        self.assertEqual(apply("(inlines (kind text) (replace (ref (self))))", '(para "' + "a" * 41 + '")'), -33)
        self.assertEqual(apply("(blocks (any) (replace (para (content))))", "(quote (rule))"), -33)
        self.assertEqual(apply("(blocks (kind quote) (replace (para (content))))", '(quote (para "a"))'), -33)
        self.assertEqual(apply("(inlines (any) (replace (link (content) \"x\")))", '(para (emph "a"))'), -33)
        self.assertEqual(apply("(inlines (kind emph) (replace (link (content) \"x\")))", '(para (emph "a"))'), '(para (link "a" "x"))')
        self.assertEqual(apply("(blocks (any) (replace (bullets (item (self)) (content))))", "(note \"n\" (rule))"), -33)

    def test_items_that_are_not_selected(self):
        self.assertEqual(apply("(blocks (kind note) (replace (x)))", "(rule)"), "(rule)")
        self.assertEqual(apply("(inlines (any) (replace (x)))", "(rule)"), "(rule)")

    def test_what_is_removed_again(self):
        self.assertEqual(apply("(blocks (any) (replace (x)) (remove))", "(rule)"), -33)
        self.assertEqual(apply("(blocks (any) (remove) (replace (x)))", "(rule)"), -33)
        self.assertEqual(apply("(blocks (any) (remove) (before (x)))", "(rule)"), -33)
        self.assertEqual(apply("(blocks (any) (replace (x))) (blocks (any) (remove))", "(rule)"), -33)
        self.assertEqual(apply("(blocks (not (parent (any))) (remove)) (blocks (any) (replace (x)))", "(note \"n\" (rule))"), "")


class SeveralFailures(unittest.TestCase):
    DEEP = "(replace " + quotes(13, "(self)") + ")"

    def test_of_one_template_the_depth_counts(self):
        template = "(replace (x " + quotes(12, "(self)") + "))"
        self.assertEqual(apply(OUTERMOST + template + ")", notes(2, "(rule)")), -33)
        self.assertEqual(apply(OUTERMOST + template + ")", notes(3, "(rule)")), -28)
        template = "(replace (x) " + quotes(13, "(self)") + ")"
        self.assertEqual(apply(OUTERMOST + template + ")", notes(3, "(rule)")), -28)
        # The rule gives a valid template and becomes what is deep; the text of the term is no block.
        program = "(blocks (or (kind rule) (kind terms)) (replace (content)) (after " + quotes(2, '(note "m")') + "))"
        self.assertEqual(apply(program, '(terms (term ("a") ' + notes(11, "(rule)") + "))"), -33)
        self.assertEqual(apply(program, '(terms (term ("a") ' + notes(12, "(rule)") + "))"), -28)

    def test_from_left_to_right(self):
        # Of a quote the template is just not valid, of many notes it is too deep, too.
        program = OUTERMOST + "(replace (table \"\" (caption) (align none) (row (cell " + "(emph " * 8 + "(content)" + ")" * 8 + ")))))"
        self.assertEqual(apply(program, "(quote (rule))" + notes(6, "(rule)")), -33)
        self.assertEqual(apply(program, notes(6, "(rule)") + "(quote (rule))"), -28)

    def test_inner_items_first(self):
        # The inner rule gives no valid template, the note around it one that is too deep.
        program = "(blocks (any) (replace (bullets " + quotes(12, "(self)") + ")))"
        self.assertEqual(apply(program, notes(5, "(rule)")), -33)
        self.assertEqual(apply(OUTERMOST[:-1] + " (replace (bullets " + quotes(12, "(self)") + ")))", notes(5, "(rule)")), -28)

    def test_actions_in_order(self):
        deep = notes(3, "(rule)")
        self.assertEqual(apply(OUTERMOST + self.DEEP + " (replace (x)))", deep), -28)
        self.assertEqual(apply(OUTERMOST + "(replace (x)) " + self.DEEP + ")", deep), -33)
        self.assertEqual(apply(OUTERMOST + "(before (x)) " + self.DEEP + ")", deep), -33)
        self.assertEqual(apply(OUTERMOST + "(before " + quotes(13, "(self)") + ") (after (x)))", deep), -28)

    def test_a_template_counts_ahead_of_what_comes_after_the_step(self):
        tree = '(heading 1 "" "' + "a" * 299 + '") (rule)'
        self.assertEqual(apply('(blocks (any) (replace-text "a" "xxxxxxxxxxx") (replace (para (content))))', tree + "(quote (rule))"), -33)
        self.assertEqual(apply('(blocks (any) (replace-text "a" "xxxxxxxxxxx") (replace (para (content))))', tree), -28)

    def test_steps_in_order(self):
        grow = "(repeat 50 (repeat 4 " + GROW + "))"
        self.assertEqual(apply(grow + "(blocks (any) (replace (x)))", '(para "a")'), -28)
        self.assertEqual(apply("(blocks (any) (replace (x)))" + grow + "(blocks (any))", '(para "a")'), -33)
        self.assertEqual(apply('(inlines (any) (replace-text "a" "xxxxxxxxxxx"))(blocks (any) (replace (x)))', '(para "' + "a" * 299 + '")'), -28)
        self.assertEqual(apply('(blocks (any) (replace (x)))(inlines (any) (replace-text "a" "xxxxxxxxxxx"))', '(para "' + "a" * 299 + '")'), -33)

    def test_the_document_at_the_beginning_has_no_bound_but_its_own(self):
        self.assertEqual(normal(notes(15, "(rule)")), notes(15, "(rule)"))
