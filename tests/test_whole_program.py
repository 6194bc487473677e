"""The requirements 1 to 6 over the whole program: what all operations together answer, with inputs of each one's own."""

import unittest

from tests.helper import BLOCK_KINDS, INLINE_KINDS, apply, check, count, extract, is_stable, normal, select, to_bytes, trace

OUTERMOST = "(not (parent (any)))"


def step(name, selector, actions):
    return "(" + name + " " + selector + " " + actions + ")"


class Selection(unittest.TestCase):
    """1. A step that selects nothing changes nothing."""

    # Documents, and selectors that hold for nothing in their normal form.
    INPUTS = [
        ("", ["(any)", "(not (any))", "(empty)"]),
        ("(para) (quote) (group (class))", ["(any)", "(kind para)", "(kind group)"]),
        ('(heading 2 "h" "Title") (para "some " (emph "text"))', ["(level 1 1)", "(level 3 6)", '(label "t")', '(text "other")', "(kind break)"]),
        ('(bullets (item (para "x")) (item (numbers 3 (item (rule)) (item))))', ["(index 1)", "(next (any))", "(ancestor (kind quote))"]),
        ('(figure "f" "pic.png" "see " (link "page" "here"))', ['(target "png")', '(target "pages")', '(class "f")', "(child (kind rule))"]),
        ('(table "t" (caption) (align none) (row (cell (cite "k" "l"))))', ['(label "")', "(descendant (kind text))", '(text "kl")']),
    ]

    def test_nothing_is_changed(self):
        for tree, selectors in self.INPUTS:
            for selector in selectors:
                self.assertEqual((count(selector, normal(tree)), extract(selector, normal(tree))), ((0, 0), ""), (selector, tree))
                for name in ["blocks", "inlines"]:
                    for actions in ["(remove)", "(replace (x))", "(before (rule) \"a\")", "(upper-case) (unwrap) (set-target \"z\")"]:
                        program = step(name, selector, actions)
                        self.assertEqual(apply(program, tree), normal(tree))
                        self.assertEqual((trace(program, tree), is_stable(program, tree)), ([0], 1))

    def test_what_is_of_the_other_sort_is_not_selected(self):
        tree = '(quote (para "a" (code "b"))) (code "c" "d")'
        self.assertEqual(apply("(blocks (kind text) (remove))", tree), normal(tree))
        self.assertEqual(apply("(inlines (kind quote) (remove))", tree), normal(tree))
        self.assertEqual(apply("(inlines (kind code) (remove))", tree), '(quote (para "a"))\n(code "c" "d")')
        self.assertEqual(apply("(blocks (kind code) (remove))", tree), '(quote (para "a" (code "b")))')


class Composition(unittest.TestCase):
    """2. Two programs one after another have the effect of both together."""

    PROGRAMS = [
        "", "; nothing", '(blocks (kind heading) (raise) (set-label "top"))', "(inlines (kind strong) (unwrap))",
        '(repeat 4 (inlines (kind text) (replace-text "aa" "a")))', "(when (kind quote) (blocks (kind quote) (unwrap)))",
        "(blocks (first) (after (para \"end\")))", '(inlines (kind link) (replace (content) (ref "see")))',
        "(blocks (empty) (remove)) (blocks (last) (lower))"]
    TREES = ["", '(heading 3 "" "aaaa " (strong "b")) (quote (rule) (para "aaa"))', '(quote (quote (para (link "u" (strong "c"))))) (note "n")',
             '(para "aa") (numbers 1 (item (heading 1 "x" "aaaaaa"))) (numbers 2 (item (rule)))']

    def test_both_together(self):
        for tree in self.TREES:
            for one in self.PROGRAMS:
                between = apply(one, tree)
                for other in self.PROGRAMS:
                    both = one + "\n" + other
                    self.assertEqual(check(both), [0, check(one)[1] + check(other)[1]])
                    self.assertEqual(apply(both, tree), apply(other, between), (both, tree))
                    self.assertEqual(trace(both, tree), trace(one, tree) + trace(other, between), (both, tree))

    def test_stability_is_the_same_program_twice(self):
        for tree in self.TREES:
            for program in self.PROGRAMS:
                self.assertEqual(is_stable(program, tree), int(apply(program + "\n" + program, tree) == apply(program, tree)), (program, tree))


class Removal(unittest.TestCase):
    """3. After removing all items of a kind there is none."""

    TREES = [
        '(para "a" (emph (emph (strike "b" (super "c")))) (break) "d" (caps (sub "e")) (strong (noteref "n"))) (rule) (note "n" (rule))',
        '(quote (quote (rule)) (para "x")) (bullets (item (bullets (item (code "" "y"))))) (group (class "g") (group (class "h") (rule)))',
        '(terms (term ("t" (math "m") (ref "r")) (terms (term ("u") (figure "" "f" (image "i" "v")))))) (numbers 1 (item (numbers 2 (item (rule)))))',
        '(heading 1 "" (link "u" "a" (span (class "s") "b" (cite "k")))) (table "" (caption (code "c")) (align none) (row (cell "d")))'
        ' (formula "" "z")',
    ]

    def test_none_is_left(self):
        for tree in self.TREES:
            for position, (name, kinds) in enumerate([("blocks", BLOCK_KINDS), ("inlines", INLINE_KINDS)]):
                for kind in kinds:
                    selector = "(kind " + kind + ")"
                    program = step(name, selector, "(remove)")
                    left = apply(program, tree)
                    self.assertEqual(count(selector, left)[position], 0, (program, tree))
                    self.assertEqual(trace(program + program, tree)[1], 0)
                    self.assertEqual(is_stable(program, tree), 1)
                    if name == "blocks":
                        self.assertEqual((select(selector, left), extract(selector, left)), ([], ""))

    def test_each_kind_is_there_before(self):
        for position, kinds in enumerate([BLOCK_KINDS, INLINE_KINDS]):
            for kind in kinds:
                self.assertTrue(any(count("(kind " + kind + ")", normal(tree))[position] for tree in self.TREES), kind)


class Templates(unittest.TestCase):
    """4. Replacing items by themselves changes nothing."""

    TREES = [
        '(heading 1 "a" "b" (emph "c")) (quote (para (link "u" "d")) (bullets (item (rule)) (item)))',
        '(terms (term ("a" (image "b" "c")) (note "n" (group (class "x") (para "d")))))', '(para " a " (emph (emph "b")) (break)) (para)',
        '(table "t" (caption "c") (align left none) (row (cell "a") (cell (code "b")))) (figure "f" "g" (ref "h"))',
        "(quote " * 15 + "(rule)" + ")" * 15]
    SELECTORS = ["(any)", "(first)", "(not (kind para))", "(child (kind text))", "(ancestor (any))", "(parent (any))", OUTERMOST]

    def test_nothing_is_changed(self):
        for tree in self.TREES:
            for selector in self.SELECTORS:
                for position, name in enumerate(["blocks", "inlines"]):
                    program = step(name, selector, "(replace (self))")
                    self.assertEqual(apply(program, tree), normal(tree), (program, tree))
                    self.assertEqual(apply(step(name, selector, "(replace (self)) " * 3), tree), normal(tree))
                    self.assertEqual(trace(program, tree), [count(selector, normal(tree))[position]])
                    self.assertEqual(is_stable(program, tree), 1)

    def test_twice_themselves(self):
        self.assertEqual(apply("(blocks (kind rule) (replace (self) (self)))", "(rule) (para \"a\")"), '(rule)\n(rule)\n(para "a")')
        self.assertEqual(is_stable("(blocks (kind rule) (replace (self) (self)))", "(rule)"), 0)


class Bounds(unittest.TestCase):
    """5. At most 200 steps are executed each time that a program is applied."""

    ROW = '(inlines (kind text) (replace-text "x" "xy"))'

    def test_two_hundred_and_no_more(self):
        for tree in ['(para "x")', '(quote (heading 1 "" (strong "x")))']:
            for form in ["(repeat 50 %s %s %s %s)", "(repeat 5 (repeat 40 %s))", "(repeat 25 (when (any) %s (repeat 7 %s)))",
                         "(repeat 2 (repeat 50 %s (when (any) %s)))"]:
                program = form.replace("%s", self.ROW)
                self.assertEqual(trace(program, tree), [1] * 200)
                self.assertEqual(apply(program, tree), tree.replace("x", "x" + "y" * 200))
                for more in ["(blocks (or))", "(inlines (any))", "(repeat 1 (blocks (any)))", "(when (any) (inlines (or)))"]:
                    self.assertEqual([apply(program + more, tree), trace(program + more, tree), is_stable(program + more, tree)], [-28] * 3)
                    self.assertEqual([operation(more + program, tree) for operation in [apply, trace, is_stable]], [-28] * 3)
                for other in ["(when (or) (blocks (any)))", "(repeat 50)", "(when (any))", "(repeat 50 (when (any) (repeat 3)))"]:
                    self.assertEqual(trace(other + program + other, tree), [1] * 200)

    def test_each_application_has_its_own(self):
        # After 200 steps the result is another one, and the second application executes 200 steps, too.
        program = "(repeat 50 (repeat 4 " + self.ROW + "))"
        self.assertEqual(is_stable(program, '(para "x")'), 0)
        self.assertEqual(trace(program, '(para "x")'), trace(program, apply(program, '(para "x")')))
        # A program without an end on its result alone.
        endless = "(when (kind rule) (repeat 50 (repeat 50 (blocks (first) (before (rule)) (after (rule)))))) (blocks (any) (replace (rule)))"
        self.assertEqual(trace(endless, '(para "a")'), [1])
        self.assertEqual(is_stable(endless, '(para "a")'), -28)

    def test_steps_alone_count(self):
        self.assertEqual(trace("(repeat 50 (repeat 50 (repeat 50)))", "(rule)"), [])
        self.assertEqual(trace("(repeat 50 (repeat 50 (when (any))))", "(rule)"), [])
        self.assertEqual(trace("(blocks(or))" * 50, "(rule)"), [0] * 50)


class Paths(unittest.TestCase):
    """6. The selected paths are those of the selected blocks."""

    # Documents, with the notation of each of their blocks by its path.
    DOCUMENTS = [
        ('(rule) (quote (para "a") (rule))', {
            (0,): "(rule)", (1,): '(quote (para "a") (rule))', (1, 0, 0): '(para "a")', (1, 0, 1): "(rule)"}),
        ('(bullets (item) (item (heading 1 "" "h") (note "n" (rule))))', {
            (0,): '(bullets (item) (item (heading 1 "" "h") (note "n" (rule))))', (0, 1, 0): '(heading 1 "" "h")',
            (0, 1, 1): '(note "n" (rule))', (0, 1, 1, 0, 0): "(rule)"}),
        ('(terms (term ("t" (emph "u"))) (term ("v") (code "c" "d") (numbers 3 (item (para)) (item (group (class) (rule))))))', {
            (0,): '(terms (term ("t" (emph "u"))) (term ("v") (code "c" "d") (numbers 3 (item (para)) (item (group (class) (rule))))))',
            (0, 1, 0): '(code "c" "d")', (0, 1, 1): "(numbers 3 (item (para)) (item (group (class) (rule))))", (0, 1, 1, 0, 0): "(para)",
            (0, 1, 1, 1, 0): "(group (class) (rule))", (0, 1, 1, 1, 0, 0, 0): "(rule)"}),
        ('(figure "f" "u" "a" (image "v" "b")) (table "" (caption "c") (align none) (row (cell "d"))) (formula "g" "x")', {
            (0,): '(figure "f" "u" "a" (image "v" "b"))', (1,): '(table "" (caption "c") (align none) (row (cell "d")))', (2,): '(formula "g" "x")'}),
    ]
    SELECTORS = ["(any)", "(or)", "(kind rule)", "(kind code)", '(text "a")', "(empty)", "(first)", "(last)", "(index 1)", "(not (first))",
                 "(parent (any))", "(ancestor (kind terms))", "(child (kind rule))", "(descendant (any))", "(next (any))", "(previous (any))",
                 '(label "n")', '(target "u")', "(level 1 3)", "(and (descendant (kind rule)) (parent (any)))"]

    def test_paths_counts_and_notations_of_the_same_blocks(self):
        for tree, blocks in self.DOCUMENTS:
            for selector in self.SELECTORS:
                paths = select(selector, tree)
                self.assertEqual(len(paths), count(selector, tree)[0], (selector, tree))
                self.assertEqual("\n".join(blocks[path] for path in paths), extract(selector, tree), (selector, tree))
                self.assertEqual(paths, [path for path in blocks if path in paths])
            self.assertEqual(select("(any)", tree), list(blocks))

    def test_a_path_leads_to_a_block_for_which_the_selector_holds(self):
        for tree, blocks in self.DOCUMENTS:
            for selector in self.SELECTORS:
                paths = select(selector, tree)
                for path in blocks:
                    # The block on this path alone: its index, and that of each block around it.
                    there = OUTERMOST
                    for depth in range(0, len(path), 2):
                        there = "(and (index %d) %s)" % (path[depth], there if depth == 0 else "(parent " + there + ")")
                    held = select("(and " + there + " " + selector + ")", tree)
                    self.assertEqual(path in held, path in paths, (selector, tree, path))

    def test_as_many_as_a_step_selects(self):
        for tree, blocks in self.DOCUMENTS:
            for selector in self.SELECTORS:
                self.assertEqual(trace("(blocks " + selector + ") (inlines " + selector + ")", normal(tree)), list(count(selector, normal(tree))))
                self.assertLessEqual(len(to_bytes(tree)), 600)
