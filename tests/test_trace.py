"""trace: how many steps were executed, and for how many items the selector of each held."""

import unittest

from tests.helper import TREES, apply, normal, trace
from tests.test_requirements import PROGRAMS

# Each execution appends a "b" to the first text "a..".
GROW = '(inlines (text "a") (replace-text "a" "ab"))'

TREE = """
    (heading 2 "h" "Head" (emph "e"))
    (quote (para "a" (code "c")) (rule))
    (group (class "k") (note "n" (para (link "url" "b") (break) (ref "r"))))
    (figure "f" "url" "cap")
"""

# For each selector, for how many blocks and for how many inline elements of the document it holds.
SELECTORS = {
    "(any)": (8, 10),
    "(kind para)": (2, 0),
    "(kind text)": (0, 5),
    "(kind code)": (0, 1),
    "(level 1 2)": (1, 0),
    "(level 3 6)": (0, 0),
    '(label "h")': (1, 0),
    '(label "n")': (1, 0),
    '(label "r")': (0, 1),
    '(label "")': (0, 0),
    '(class "k")': (1, 0),
    '(target "u")': (1, 1),
    '(text "b")': (3, 2),
    "(empty)": (1, 1),
    "(first)": (4, 6),
    "(last)": (4, 6),
    "(index 1)": (2, 3),
    "(and (first) (kind para))": (2, 0),
    "(and)": (8, 10),
    "(or (kind rule) (kind break))": (1, 1),
    "(or)": (0, 0),
    "(not (kind text))": (8, 5),
    "(parent (any))": (4, 10),
    "(parent (kind quote))": (2, 0),
    "(ancestor (kind group))": (2, 4),
    "(child (kind text))": (3, 2),
    "(descendant (kind text))": (7, 2),
    "(next (kind rule))": (1, 0),
    "(next (kind break))": (0, 1),
    "(previous (kind heading))": (1, 0),
    "(previous (kind text))": (0, 2),
}


class Numbers(unittest.TestCase):
    def test_one_number_for_each_step(self):
        self.assertEqual(trace("(blocks (any))", '(rule) (para "a")'), [2])
        self.assertEqual(trace("(blocks (kind rule)) (blocks (any)) (inlines (any)) (inlines (kind code))", '(rule) (para "a")'),
                         [1, 2, 1, 0])
        self.assertEqual(trace("(inlines (any)) (blocks (any)) (blocks (kind note)) (blocks (kind rule))", '(rule) (para "a")'),
                         [1, 2, 0, 1])

    def test_without_steps(self):
        for tree in TREES:
            self.assertEqual(trace("", tree), [])
            self.assertEqual(trace(" ; none\n", tree), [])

    def test_a_document_without_blocks(self):
        for tree in ["", " ; none", "(para)", "(quote (quote)) (group (class))", '(para " " (break))']:
            self.assertEqual(trace("(blocks (any)) (inlines (any)) (blocks (or))", tree), [0, 0, 0], tree)

    def test_steps_that_select_nothing(self):
        self.assertEqual(trace("(blocks (or) (remove)) (inlines (or) (remove)) (blocks (kind note) (replace (x)))", '(para "a")'), [0, 0, 0])
        self.assertEqual(trace("(blocks (kind text)) (inlines (kind para))", '(para "a")'), [0, 0])

    def test_selected_items_that_stay_as_they_are(self):
        self.assertEqual(trace('(blocks (any) (set-level 1)) (inlines (any) (replace (self)))', '(rule) (para "a")'), [2, 1])

    def test_selectors(self):
        for selector, held in SELECTORS.items():
            self.assertEqual(trace("(blocks " + selector + ") (inlines " + selector + ")", TREE), list(held), selector)

    def test_blocks_at_every_depth(self):
        self.assertEqual(trace("(blocks (any))", '(note "n" ' * 15 + "(rule)" + ")" * 15), [16])
        self.assertEqual(trace("(blocks (kind rule))", '(rule) (note "n" (rule) (quote (rule) (bullets (item (rule)) (item (rule)))))'), [5])
        self.assertEqual(trace("(blocks (kind rule))", '(numbers 3 (item (rule)) (item (group (class "x") (rule)))) (terms (term ("a") (rule)))'), [3])
        self.assertEqual(trace("(inlines (any))", '(note "n" (rule) (quote (rule)))'), [0])

    def test_inline_elements_at_every_depth(self):
        self.assertEqual(trace("(inlines (any))", '(para "a" (emph "b" (strong "c" (link "u" "d" (image "v" "e")))))'), [9])
        self.assertEqual(trace("(inlines (kind text))", '(heading 1 "" "a") (figure "" "" "b" (span (class "x") "c")) (terms (term ("d") (para "e")))'), [5])
        self.assertEqual(trace("(inlines (kind text))", '(table "" (caption "a") (align none left) (row (cell "b") (cell (sub "c"))) (row (cell) (cell "d")))'), [4])
        self.assertEqual(trace("(blocks (any))", '(para "a" (emph "b"))'), [1])

    def test_symbols_of_blocks_and_inline_elements(self):
        self.assertEqual(trace("(blocks (kind code)) (inlines (kind code))", '(code "" "a") (code "" "b") (para (code "c"))'), [2, 1])


class AsTheStepBegins(unittest.TestCase):
    def test_what_earlier_steps_changed(self):
        self.assertEqual(trace("(blocks (any) (after (rule))) (blocks (any) (after (rule))) (blocks (any))", '(note "n")'), [1, 2, 4])
        self.assertEqual(trace("(blocks (kind rule) (remove)) (blocks (kind rule))", "(rule) (quote (rule))"), [2, 0])
        self.assertEqual(trace("(inlines (any) (remove)) (blocks (any))", '(rule) (para "a")'), [1, 1])

    def test_what_the_step_itself_changes(self):
        self.assertEqual(trace("(blocks (any) (replace (rule) (rule) (rule)))", "(rule) (rule)"), [2])
        self.assertEqual(trace("(blocks (first) (remove))", "(rule) (rule) (rule)"), [1])
        self.assertEqual(trace("(blocks (kind rule) (remove))", "(quote (rule) (rule)) (rule)"), [3])

    def test_inner_items_of_selected_ones(self):
        self.assertEqual(trace("(blocks (any) (remove))", '(note "n" (note "m" (rule)))'), [3])

    def test_the_normal_form_at_the_beginning(self):
        self.assertEqual(trace("(blocks (any))", "(quote (rule)) (quote (rule)) (quote) (para)"), [3])
        self.assertEqual(trace("(blocks (any))", "(group (class) (rule) (rule)) (bullets (item)) (bullets (item))"), [3])
        self.assertEqual(trace("(inlines (any))", '(para "a" "b" (emph) (emph "c") (emph "d") (span (class) "e"))'), [4])
        self.assertEqual(trace('(blocks (text "a b"))', '(para "a  " (break) " b") (para "a \\t b")'), [1])

    def test_the_normal_form_after_each_step(self):
        self.assertEqual(trace("(blocks (kind rule) (replace (quote (self)))) (blocks (kind quote))", "(rule) (rule)"), [2, 1])
        self.assertEqual(trace('(inlines (kind code) (replace "x")) (inlines (any))', '(para "a" (code "b") "c")'), [1, 1])


class RepeatAndWhen(unittest.TestCase):
    def test_repeat_stops_after_an_execution_that_changed_nothing(self):
        # The execution that changed nothing has a number, too.
        self.assertEqual(trace("(repeat 5 (blocks (and (kind rule) (first)) (remove)))", '(rule) (rule) (para "a")'), [1, 1, 0])
        self.assertEqual(trace("(repeat 50 (blocks (any)))", "(rule)"), [1])
        self.assertEqual(trace("(repeat 50 (blocks (kind rule) (remove)) (inlines (any)))", '(rule) (para "a")'), [1, 1, 0, 1])
        self.assertEqual(trace("(repeat 50 (blocks (first) (replace (self) (rule))) (blocks (last) (remove)))", "(rule)"), [1, 1])

    def test_repeat_runs_to_its_end(self):
        for times in [1, 2, 3, 49, 50]:
            self.assertEqual(trace("(repeat %d %s)" % (times, GROW), '(para "a")'), [1] * times)
        self.assertEqual(trace("(repeat 3 (blocks (any) (after (rule))))", "(rule)"), [1, 2, 4])
        self.assertEqual(trace("(repeat 2 (blocks (and (kind rule) (first)) (remove)))", "(rule) (rule) (rule)"), [1, 1])

    def test_repeat_in_repeat(self):
        self.assertEqual(trace("(repeat 3 (repeat 4 " + GROW + ") (blocks (any)))", '(para "a")'), [1, 1, 1, 1, 1] * 3)
        program = "(repeat 3 (repeat 9 (blocks (and (kind rule) (first)) (remove))) (blocks (kind note) (replace (rule))))"
        self.assertEqual(trace(program, '(rule) (rule) (note "n")'), [1, 1, 0, 1, 1, 0, 0, 0, 0])

    def test_when_with_both_outcomes(self):
        self.assertEqual(trace("(when (kind rule) (blocks (any)) (inlines (any)))", '(rule) (para "a")'), [2, 1])
        self.assertEqual(trace("(when (kind note) (blocks (any)) (inlines (any)))", '(rule) (para "a")'), [])
        self.assertEqual(trace("(when (kind text) (blocks (any))) (when (kind code) (blocks (any)))", '(rule) (para "a")'), [2])
        self.assertEqual(trace("(when (kind rule) (blocks (kind rule) (remove))) (when (kind rule) (inlines (any)))", '(rule) (para "a")'), [1])

    def test_repeat_and_when_have_no_numbers(self):
        self.assertEqual(trace("(repeat 5) (when (any)) (when (or))", "(rule)"), [])
        self.assertEqual(trace("(repeat 5 (repeat 5) (when (any)) (when (or) (blocks (any))))", "(rule)"), [])
        self.assertEqual(trace("(when (any) (repeat 2 (when (any) (blocks (any)))))", "(rule)"), [1])

    def test_the_condition_is_decided_each_time(self):
        self.assertEqual(trace('(repeat 9 (when (not (text "abbb")) ' + GROW + "))", '(para "a")'), [1, 1, 1])


class Bounds(unittest.TestCase):
    def test_two_hundred_steps(self):
        program = "(repeat 50 (repeat 4 " + GROW + "))"
        self.assertEqual(trace(program, '(para "a")'), [1] * 200)
        self.assertEqual(trace(program + "(when (any)) (repeat 50) (when (or) (blocks (any)))", '(para "a")'), [1] * 200)
        self.assertEqual(trace("(repeat 50 (repeat 3 " + GROW + ") (blocks (or)))", '(para "a")'), [1, 1, 1, 0] * 50)

    def test_one_step_too_many(self):
        program = "(repeat 50 (repeat 4 " + GROW + "))"
        for more in ["(blocks (any))", "(inlines (or))", "(when (any) (blocks (any)))", "(repeat 1 (blocks (or)))"]:
            self.assertEqual(trace(program + more, '(para "a")'), -28, more)
            self.assertEqual(trace(more + program, '(para "a")'), -28, more)


class Refusals(unittest.TestCase):
    def test_no_program(self):
        for program in ["(", ")", "(x)", "rule", "(blocks)", "(blocks (x))", "(blocks (any) (x))", "(repeat 0)", "(repeat 51)",
                        '(blocks (kind "rule"))', '(inlines (any) (replace-text "" "a"))', '"', "(any)", "(blocks (any)) (remove)", "((",
                        b"(blocks (text \"\xff\"))"]:
            self.assertEqual(trace(program, "(rule)"), -21, program)

    def test_no_document(self):
        for tree in ["(", "(x)", "rule", '"a"', '(emph "a")', "(heading 7 \"\")", '(code "a")', "(para (rule))", "(rule) 1", "(" * 17 + ")" * 17,
                     b"(para \"\xff\")"]:
            self.assertEqual(trace("(blocks (any))", tree), -20, tree)
            self.assertEqual(trace("", tree), -20, tree)

    def test_the_program_is_checked_first(self):
        self.assertEqual(trace("(x)", "(x)"), -21)
        self.assertEqual(trace("(", "("), -21)

    def test_the_parameters_are_checked_ahead_of_any_step(self):
        self.assertEqual(trace("(blocks (any) (replace (x)))", "(x)"), -20)
        self.assertEqual(trace("(blocks (any) (replace (x))) (x)", "(rule)"), -21)

    def test_wrong_templates(self):
        self.assertEqual(trace("(blocks (any) (replace (item (self))))", "(rule)"), -33)
        self.assertEqual(trace("(inlines (any) (after (rule)))", '(para "a")'), -33)
        self.assertEqual(trace("(blocks (any)) (blocks (kind rule) (remove)) (inlines (any) (before 1)) (blocks (any))", '(rule) (para "a")'), -33)
        self.assertEqual(trace("(blocks (any)) (inlines (any) (before 1))", "(rule)"), [1, 0])

    def test_too_large_or_too_deep(self):
        big = '(inlines (any) (replace-text "a" "xxxxxxxxxxx"))'
        self.assertEqual(trace(big, '(para "' + "a" * 299 + '")'), -28)
        self.assertEqual(trace("(blocks (any)) (when (any) " + big + ") (blocks (any))", '(para "' + "a" * 299 + '")'), -28)
        self.assertEqual(trace("(blocks (any) (replace (note \"m\" (self))))", '(note "n" ' * 7 + "(rule)" + ")" * 7), [8])
        self.assertEqual(trace("(blocks (any) (replace (note \"m\" (self))))", '(note "n" ' * 8 + "(rule)" + ")" * 8), -28)
        self.assertEqual(trace("(blocks (any)) (blocks (first) (replace " + "(quote " * 13 + "(self)" + ")" * 15, '(note "n" (note "m"))'), -28)

    def test_it_fails_as_apply_does(self):
        for program in PROGRAMS + ["(repeat 40 (blocks (any) (after (self))))", "(repeat 40 (blocks (last) (replace (quote (self)) (rule))))"]:
            for tree in TREES:
                applied = apply(program, tree)
                traced = trace(program, tree)
                self.assertEqual(isinstance(applied, int), isinstance(traced, int))
                if isinstance(applied, int):
                    self.assertEqual(traced, applied)
                else:
                    self.assertEqual(trace(program, normal(tree)), traced)
