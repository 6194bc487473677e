"""is_stable: whether a program, applied to its own result, changes it."""

import unittest

from tests.helper import TREES, apply, is_stable, normal, to_bytes
from tests.test_requirements import PROGRAMS

GROW = '(inlines (text "a") (replace-text "a" "ab"))'
SWAP = '(inlines (kind text) (replace-text "a" "x") (replace-text "b" "a") (replace-text "x" "b"))'


class Results(unittest.TestCase):
    def test_programs_that_change_nothing(self):
        for tree in TREES:
            for program in ["(blocks (any))", "(inlines (or) (remove))", "(repeat 3 (blocks (any) (replace (self))))", "(when (or) (blocks (any) (remove)))"]:
                self.assertEqual(is_stable(program, tree), 1, (program, tree))

    def test_programs_that_change_once(self):
        for program in ["(blocks (kind rule) (remove))", "(inlines (any) (upper-case))", "(blocks (kind heading) (set-level 3))",
                        '(blocks (kind rule) (replace (note "n")))', "(inlines (kind emph) (replace (strong (content))))",
                        "(blocks (any) (remove))", '(when (kind rule) (blocks (kind rule) (replace (heading 6 "" "x"))))',
                        "(repeat 3 (blocks (kind rule) (replace (quote (note \"n\")))))"]:
            self.assertEqual(is_stable(program, '(rule) (para (emph "a")) (heading 1 "" "b")'), 1, program)

    def test_programs_that_change_each_time(self):
        for program in ["(blocks (kind para) (after (rule)))", GROW, "(blocks (any) (replace (note \"n\" (self))))", "(blocks (last) (remove))",
                        "(repeat 2 (blocks (first) (remove)))", "(when (kind rule) (blocks (kind rule) (before (rule))))"]:
            self.assertEqual(is_stable(program, '(rule) (para "a") (rule) (rule) (rule) (rule)'), 0, program)

    def test_programs_that_change_just_their_result(self):
        program = '(blocks (kind quote) (replace (note "n"))) (blocks (kind rule) (replace (quote (rule))))'
        self.assertEqual(is_stable(program, "(rule)"), 0)
        self.assertEqual(is_stable(program, "(quote (rule))"), 1)

    def test_the_level_that_can_go_no_further(self):
        self.assertEqual(is_stable("(blocks (any) (lower))", '(heading 4 "")'), 0)
        self.assertEqual(is_stable("(blocks (any) (lower))", '(heading 5 "")'), 1)
        self.assertEqual(is_stable("(blocks (any) (lower))", '(heading 6 "")'), 1)

    def test_the_result_is_not_compared_with_the_tree(self):
        # The program applied twice gives the tree again, but its result is another document.
        self.assertEqual(apply(SWAP + SWAP, '(para "ab")'), '(para "ab")')
        self.assertEqual(is_stable(SWAP, '(para "ab")'), 0)
        # The tree is changed, by the program or by the normal form, but the result isn't.
        self.assertEqual(is_stable("(blocks (kind rule) (remove))", '(rule) (para "a")'), 1)
        self.assertEqual(is_stable("(blocks (kind rule) (remove))", '( para " a"  "b" )(para)'), 1)

    def test_small_differences(self):
        self.assertEqual(is_stable('(inlines (any) (replace-text "a" "A"))', '(para "ab")'), 1)
        self.assertEqual(is_stable('(inlines (any) (replace-text "ab" "b"))', '(para "aab")'), 0)
        self.assertEqual(is_stable('(blocks (label "a") (set-label "b")) (blocks (label "c") (set-label "a"))', '(heading 1 "c")'), 0)
        self.assertEqual(is_stable('(inlines (target "a") (set-target "b")) (inlines (target "c") (set-target "a"))', '(para (link "c" "x"))'), 0)

    def test_an_empty_program(self):
        for tree in TREES:
            self.assertEqual(is_stable("", tree), 1, tree)
        self.assertEqual(is_stable(" ; nothing", '(quote (para " a ")) (quote (para)) (para (emph "b ") (emph "c"))'), 1)

    def test_an_empty_document(self):
        for program in PROGRAMS + ["", "(blocks (any) (replace (x)))", "(inlines (any) (remove))", "(repeat 50 (repeat 50 (blocks (any))))"]:
            self.assertEqual(is_stable(program, ""), 1, program)
            self.assertEqual(is_stable(program, "(para) (quote (para \" \"))"), 1, program)

    def test_a_result_without_blocks(self):
        self.assertEqual(is_stable("(blocks (any) (remove))", '(rule) (para "a")'), 1)

    def test_a_result_longer_than_a_tree_can_be(self):
        program = '(inlines (text "a") (replace-text "a" "' + "b" * 50 + '"))'
        self.assertEqual(is_stable(program, '(para "' + "a" * 50 + '")'), 1)
        program = "(blocks (kind note) (replace " + '(formula "" "0123456789")' * 20 + "))"
        self.assertEqual(is_stable(program, '(note "n") (note "m") (note "o")'), 1)

    def test_as_apply_tells(self):
        answers = set()
        for tree in TREES:
            for program in PROGRAMS + [GROW, SWAP]:
                once = apply(program, tree)
                if isinstance(once, int) or len(to_bytes(once)) > 600:
                    continue
                twice = apply(program, once)
                expected = twice if isinstance(twice, int) else int(twice == once)
                self.assertEqual(is_stable(program, tree), expected, (program, tree))
                self.assertEqual(is_stable(program, normal(tree)), expected, (program, tree))
                answers.add(expected)
        self.assertEqual(answers, {0, 1})


class Refusals(unittest.TestCase):
    def test_no_program(self):
        for program in ["(", "x", "(x)", "(blocks)", "(repeat 0)", "(blocks (any) (remove 1))", '"a"', "(any)", b"\xff", b"(blocks (text \"\xff\"))"]:
            self.assertEqual(is_stable(program, "(rule)"), -21, program)

    def test_no_document(self):
        for tree in ["(", "x", "(x)", '"a"', '(para (rule))', "(heading 0 \"\")", "(quote (para) 1)", b"\xff", b"(para \"\xff\")"]:
            self.assertEqual(is_stable("", tree), -20, tree)
            self.assertEqual(is_stable("(blocks (any) (replace (x)))", tree), -20, tree)

    def test_the_program_is_checked_first(self):
        self.assertEqual(is_stable("(x)", "(x)"), -21)
        self.assertEqual(is_stable("(", ""), -21)

    def test_the_first_application_fails(self):
        self.assertEqual(is_stable("(blocks (any) (replace (item (self))))", "(rule)"), -33)
        self.assertEqual(is_stable("(blocks (any)) (inlines (any) (after (rule)))", '(para "a")'), -33)
        self.assertEqual(is_stable('(inlines (any) (replace-text "a" "xxxxxxxxxxx"))', '(para "' + "a" * 299 + '")'), -28)
        self.assertEqual(is_stable("(repeat 50 (repeat 5 " + GROW + "))", '(para "a")'), -28)
        self.assertEqual(is_stable("(blocks (any) (replace (note \"m\" (self))))", '(note "n" ' * 8 + "(rule)" + ")" * 8), -28)

    def test_the_application_to_the_result_fails_by_a_template(self):
        program = '(blocks (kind note) (replace (x))) (blocks (kind rule) (replace (note "n")))'
        self.assertEqual(apply(program, "(rule)"), '(note "n")')
        self.assertEqual(is_stable(program, "(rule)"), -33)
        program = '(inlines (kind text) (replace (ref (self)) "a b"))'
        self.assertEqual(apply(program, '(para "x")'), '(para (ref "x") "a b")')
        self.assertEqual(is_stable(program, '(para "x")'), -33)

    def test_the_application_to_the_result_makes_it_too_long(self):
        program = '(inlines (any) (replace-text "a" "aaaaaaaaaa"))'
        self.assertEqual(is_stable(program, '(para "' + "a" * 29 + '")'), 0)
        self.assertEqual(is_stable(program, '(para "' + "a" * 30 + '")'), -28)

    def test_the_application_to_the_result_makes_it_too_deep(self):
        program = '(blocks (not (parent (any))) (replace (note "m" (self))))'
        self.assertEqual(is_stable(program, '(note "n" ' * 13 + "(rule)" + ")" * 13), 0)
        self.assertEqual(is_stable(program, '(note "n" ' * 14 + "(rule)" + ")" * 14), -28)
        self.assertEqual(is_stable(program, '(note "n" ' * 15 + "(rule)" + ")" * 15), -28)

    def test_the_application_to_the_result_has_too_many_steps(self):
        program = "(when (kind note) (repeat 50 (repeat 5 " + GROW + '))) (blocks (kind rule) (replace (note "n")))'
        self.assertEqual(apply(program, '(rule) (para "a")'), '(note "n")\n(para "a")')
        self.assertEqual(is_stable(program, '(rule) (para "a")'), -28)

    def test_each_application_has_its_own_steps(self):
        self.assertEqual(is_stable("(repeat 50 (repeat 3 " + GROW + "))", '(para "a")'), 0)
        self.assertEqual(is_stable("(repeat 50 (repeat 4 " + GROW + "))", '(para "a")'), 0)
        self.assertEqual(is_stable("(repeat 50 (blocks (or)) (blocks (or)) (blocks (or)) " + GROW + ")", '(para "a")'), 0)
        self.assertEqual(is_stable("(blocks (any))" * 40 + "(inlines (any))", "(rule)"), 1)

    def test_a_program_that_fails_just_on_a_third_application(self):
        program = ('(blocks (kind quote) (replace (x))) (blocks (kind note) (replace (quote (rule))))'
                   '(blocks (kind formula) (replace (note "n")))')
        self.assertEqual(is_stable(program, '(formula "" "")'), 0)
        self.assertEqual(is_stable(program, '(note "n")'), -33)
