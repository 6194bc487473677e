"""apply: steps, and the order in which they decide and change."""

import unittest

from tests.helper import apply

# Each execution appends a "b" to the first text "a..".
GROW = '(inlines (text "a") (replace-text "a" "ab"))'


class OneStep(unittest.TestCase):
    def test_all_selected_items_are_changed(self):
        self.assertEqual(apply('(blocks (kind heading) (lower))', '(heading 1 "") (quote (heading 2 "") (rule)) (heading 3 "")'),
                         '(heading 2 "")\n(quote (heading 3 "") (rule))\n(heading 4 "")')
        self.assertEqual(apply("(inlines (kind emph) (unwrap))", '(para (emph "a") " " (strong (emph "b")))\n(heading 1 "" (emph "c"))'),
                         '(para "a " (strong "b"))\n(heading 1 "" "c")')

    def test_steps_leave_the_other_items(self):
        tree = '(para "a" (code "b"))\n(code "" "c")'
        self.assertEqual(apply("(blocks (kind code) (remove))", tree), '(para "a" (code "b"))')
        self.assertEqual(apply("(inlines (kind code) (remove))", tree), '(para "a")\n(code "" "c")')

    def test_it_is_decided_ahead_of_any_change(self):
        self.assertEqual(apply("(blocks (first) (remove))", "(rule) (heading 1 \"\") (note \"n\")"), '(heading 1 "")\n(note "n")')
        self.assertEqual(apply("(blocks (previous (kind rule)) (remove))", "(rule) (rule) (rule) (rule)"), "(rule)")
        self.assertEqual(apply("(blocks (next (kind rule)) (remove))", "(rule) (rule) (rule)"), "(rule)")
        self.assertEqual(apply('(inlines (text "a") (replace-text "a" "b"))', '(para (emph "a"))'), '(para (emph "b"))')
        self.assertEqual(apply("(blocks (child (kind rule)) (after (rule)))", "(quote (note \"n\" (rule)))"),
                         '(quote (note "n" (rule)) (rule))')
        self.assertEqual(apply('(blocks (text "a") (replace-text "a" "c") (after (heading 1 "")))', '(note "n" (para "a"))'),
                         '(note "n" (para "c") (heading 1 ""))\n(heading 1 "")')

    def test_new_items_are_not_changed_in_the_same_step(self):
        self.assertEqual(apply("(blocks (kind rule) (after (rule)))", "(rule)"), "(rule)\n(rule)")
        self.assertEqual(apply("(blocks (any) (replace (quote (rule))))", "(rule)"), "(quote (rule))")
        self.assertEqual(apply("(inlines (kind text) (after (emph \"b\")))", '(para "a")'), '(para "a" (emph "b"))')

    def test_inner_items_are_changed_ahead_of_those_around_them(self):
        self.assertEqual(apply("(blocks (any) (replace (quote (self)) (rule)))", '(note "n" (note "m"))'),
                         '(quote (note "n" (quote (note "m")) (rule)))\n(rule)')
        self.assertEqual(apply("(blocks (kind note) (after (content)))", '(note "a" (note "b" (rule)))'),
                         '(note "a" (note "b" (rule)) (rule))\n(note "b" (rule))\n(rule)')
        self.assertEqual(apply("(inlines (any) (replace (self) (self)))", '(para (emph "a"))'), '(para (emph "aaaa"))')
        self.assertEqual(apply("(blocks (any) (unwrap))", '(note "a" (note "b" (bullets (item (rule)) (item (rule)))))'), "(rule)\n(rule)")
        self.assertEqual(apply('(blocks (kind note) (unwrap) (before (rule)))', '(note "a" (note "b" (note "c")))'), "(rule)\n(rule)\n(rule)")

    def test_lists_of_all_blocks_are_changed(self):
        tree = ('(bullets (item %s) (item %s))\n(numbers 1 (item %s))\n(terms (term ("a") %s))\n(note "n" %s)\n'
                '(group (class "x") %s)\n(quote %s)')
        self.assertEqual(apply("(blocks (kind rule) (replace (note \"r\")))", tree % (("(rule)",) * 7)), tree % (('(note "r")',) * 7))
        tree = ('(para %s)\n(heading 1 "" %s)\n(terms (term (%s) (para %s)))\n(figure "" "" %s)\n'
                '(table "" (caption %s) (align none none) (row (cell %s) (cell %s)) (row (cell) (cell %s)))\n'
                '(para (emph %s) (link "u" %s) (image "u" %s) (span (class "x") %s))')
        self.assertEqual(apply('(inlines (kind math) (replace (ref "r")))', tree % (('(math "")',) * 13)), tree % (('(ref "r")',) * 13))

    def test_normal_form_comes_after_the_whole_step(self):
        # An empty paragraph and texts side by side are there until the step ends.
        self.assertEqual(apply('(blocks (any) (replace-text "a" "") (replace (para (content))))', '(note "n" (para "a"))'), -33)
        self.assertEqual(apply('(blocks (any) (replace-text "a" "") (replace (para (content))))', '(note "n")\n(para "a")'), "")
        self.assertEqual(apply('(inlines (any) (before "x") (replace-text "xa" "y"))', '(para (emph "a"))'), '(para "x" (emph "xa"))')
        self.assertEqual(apply('(blocks (kind note) (unwrap) (replace (bullets (item (self)))))', '(note "n" (quote (rule)) (rule))'),
                         "(bullets (item (quote (rule)) (rule)))")
        self.assertEqual(apply('(blocks (kind quote) (replace (note "x" (self) (self))))', "(quote (rule))"),
                         '(note "x" (quote (rule) (rule)))')


class Steps(unittest.TestCase):
    def test_one_after_another(self):
        self.assertEqual(apply('(blocks (kind rule) (replace (note "n"))) (blocks (kind note) (replace (code "" "x")))', '(rule) (note "m")'),
                         '(code "" "x")\n(code "" "x")')
        self.assertEqual(apply('(inlines (kind emph) (replace (strong (content))))(inlines (kind strong) (replace (sub (content))))',
                               '(para (emph "a"))'), '(para (sub "a"))')
        self.assertEqual(apply("(blocks (last) (remove))(blocks (last) (remove))", '(rule) (heading 1 "") (note "n")'), "(rule)")


class Repeat(unittest.TestCase):
    def test_runs_to_its_end(self):
        for times in [1, 2, 3, 49, 50]:
            self.assertEqual(apply("(repeat %d %s)" % (times, GROW), '(para "a")'), '(para "a' + "b" * times + '")')

    def test_stops_early(self):
        self.assertEqual(apply("(repeat 50 (blocks (and (kind rule) (first)) (remove)))", '(rule) (rule) (para "a")'), '(para "a")')
        # Were the second loop not to stop by itself, the bound of 200 steps would be passed.
        program = "(repeat 50 (repeat 50 (blocks (kind rule) (remove)))" + GROW + ")"
        self.assertEqual(apply(program, '(rule) (para "a")'), '(para "a' + "b" * 50 + '")')
        self.assertEqual(apply("(repeat 50 (blocks (any)) (blocks (any)) (blocks (any)) (blocks (any)))" * 8, "(rule)"), "(rule)")

    def test_stops_after_an_execution_that_left_the_document_as_it_was(self):
        # The steps change it, but all of them together don't.
        steps = '(inlines (kind text) (upper-case)) (inlines (kind text) (lower-case))'
        self.assertEqual(apply("(repeat 50 (repeat 50 " + steps + ")" + GROW + ")", '(para "a")'), '(para "a' + "b" * 50 + '")')
        self.assertEqual(apply("(repeat 50 (repeat 50 " + steps + ")" + "(blocks (any))" * 2 + GROW + ")", '(para "a")'), -28)

    def test_an_execution_that_changes_something_is_followed_by_another(self):
        self.assertEqual(apply('(repeat 3 (blocks (kind note) (replace (rule))) (blocks (kind quote) (replace (note "n"))))', "(quote (rule))"),
                         "(rule)")
        self.assertEqual(apply('(repeat 1 (blocks (kind note) (replace (rule))) (blocks (kind quote) (replace (note "n"))))', "(quote (rule))"),
                         '(note "n")')

    def test_all_steps_are_executed_in_order_each_time(self):
        self.assertEqual(apply('(repeat 3 (inlines (kind text) (replace-text "a" "ab")) (inlines (kind text) (replace-text "a" "ac")))',
                               '(para "a")'), '(para "acbcbcb")')

    def test_without_steps(self):
        self.assertEqual(apply("(repeat 50)", "(rule)"), "(rule)")

    def test_within_one_another(self):
        self.assertEqual(apply("(repeat 3 (repeat 4 " + GROW + "))", '(para "a")'), '(para "a' + "b" * 12 + '")')
        self.assertEqual(apply("(repeat 50 " * 16 + ")" * 16, "(rule)"), "(rule)")
        self.assertEqual(apply("(repeat 1 " * 13 + GROW + ")" * 13, '(para "a")'), '(para "ab")')


class When(unittest.TestCase):
    def test_both_outcomes(self):
        for selector, holds in [("(kind rule)", True), ("(kind note)", False), ("(kind text)", True), ("(kind code)", False)]:
            answer = apply("(when " + selector + " " + GROW + ")", '(rule) (para "a")')
            self.assertEqual(answer, '(rule)\n(para "a' + "b" * holds + '")', selector)

    def test_steps_in_order(self):
        self.assertEqual(apply('(when (any) (inlines (any) (replace-text "a" "ab")) (inlines (any) (replace-text "a" "ac")))', '(para "a")'),
                         '(para "acb")')

    def test_the_condition_is_decided_once(self):
        self.assertEqual(apply("(when (kind rule) (blocks (kind rule) (remove)) " + GROW + ")", '(rule) (para "a")'), '(para "ab")')

    def test_the_document_counts_as_it_is_then(self):
        self.assertEqual(apply("(blocks (kind rule) (remove)) (when (kind rule) " + GROW + ")", '(rule) (para "a")'), '(para "a")')
        self.assertEqual(apply('(blocks (kind para) (after (rule))) (when (kind rule) ' + GROW + ")", '(para "a")'), '(para "ab")\n(rule)')

    def test_within_one_another(self):
        self.assertEqual(apply("(when (any) (when (kind rule) " + GROW + ") " + GROW + ")", '(para "a")'), '(para "ab")')
        self.assertEqual(apply("(repeat 5 (when (not (text \"abbb\")) " + GROW + "))", '(para "a")'), '(para "abbb")')
        self.assertEqual(apply("(when (or) (repeat 5 " + GROW + ") (when (any) " + GROW + "))", '(para "a")'), '(para "a")')

    def test_without_steps(self):
        self.assertEqual(apply("(when (any))", "(rule)"), "(rule)")
