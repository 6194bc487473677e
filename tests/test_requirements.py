"""The requirements 1 to 6, each on programs and trees of several kinds."""

import unittest

from tests.helper import BLOCK_KINDS, INLINE_KINDS, TREES, apply, blocks_with_paths, count, normal, parsed, select, to_bytes

PROGRAMS = [
    "(blocks (any))",
    "(blocks (kind rule) (remove))",
    '(blocks (kind para) (after (rule)) (replace-text "a" "bb"))',
    "(blocks (or (kind quote) (kind bullets) (kind group)) (unwrap))",
    "(blocks (kind heading) (lower) (set-label \"z\") (before (note \"q\" (self))))",
    "(inlines (kind emph) (replace (strong (content))))",
    "(inlines (kind text) (upper-case))",
    '(inlines (or (kind strong) (kind link)) (replace (span (class "y") (content)) (break)))',
    "(repeat 3 (blocks (and (not (parent (any))) (first)) (unwrap) (after (rule))))",
    '(when (kind table) (blocks (kind table) (replace (para (content)))))',
    "(blocks (not (parent (any))) (replace (quote (self))))",
]

EMPTY_SELECTORS = [
    "(or)", "(not (any))", "(index 999)", '(text "nowhere")', '(label "nowhere")', '(class "nowhere")',
    '(target "nowhere")', "(and (level 2 1) (any))", "(level 2 1)", "(parent (or))", "(ancestor (or))", "(child (or))",
    "(descendant (or))", "(next (or))", "(previous (or))", "(and (first) (not (first)))", "(next (first))",
    "(previous (last))", "(parent (kind text))"]

ACTIONS = [
    "(remove)", "(unwrap)", "(replace)", "(replace (x))", "(before (x))", "(after (x))", "(set-level 1)", "(raise)",
    "(lower)", '(set-label "a")', '(add-class "a")', '(remove-class "a")', '(set-target "a")', '(replace-text "a" "b")',
    "(upper-case)", "(lower-case)"]


class Requirements(unittest.TestCase):
    def test_selection(self):
        for tree in TREES:
            for selector in EMPTY_SELECTORS:
                for name in ["blocks", "inlines"]:
                    program = "(" + name + " " + selector + " " + " ".join(ACTIONS) + ")"
                    self.assertEqual(apply(program, tree), normal(tree), program)
            for action in ACTIONS:
                self.assertEqual(apply("(blocks (kind text) " + action + ")", tree), normal(tree), action)
                self.assertEqual(apply("(inlines (kind para) " + action + ")", tree), normal(tree), action)

    def test_composition(self):
        for tree in TREES:
            for one in PROGRAMS:
                between = apply(one, tree)
                if len(to_bytes(between)) > 600:
                    continue
                for other in PROGRAMS:
                    self.assertEqual(apply(one + other, tree), apply(other, between), (one, other, tree))
                    self.assertEqual(apply(one + " ; and then\n" + other, tree), apply(other, between))

    def test_removal(self):
        for tree in TREES:
            for name, kinds in [("blocks", BLOCK_KINDS), ("inlines", INLINE_KINDS)]:
                for kind in kinds:
                    removal = "(" + name + " (kind " + kind + ") (remove))"
                    removed = apply(removal, tree)
                    self.assertIsInstance(removed, str)
                    self.assertEqual(apply(removal + "(" + name + " (kind " + kind + ") (replace (x)))", tree), removed)
                    if kind != "code":
                        self.assertNotIn("(" + kind + " ", removed)
                        self.assertNotIn("(" + kind + ")", removed)
            self.assertEqual(apply("(blocks (any) (remove))", tree), "")

    def test_templates(self):
        for tree in TREES:
            for name in ["blocks", "inlines"]:
                for selector in ["(any)", "(first)", "(last)", "(parent (any))", "(child (any))", "(empty)"]:
                    for actions in ["(replace (self))", "(replace (self)) (replace (self))", "(before) (after)"]:
                        self.assertEqual(apply("(" + name + " " + selector + " " + actions + ")", tree), normal(tree))

    def test_bounds(self):
        grow = '(inlines (kind text) (replace-text "a" "ab"))'
        for tree in ['(para "a")', '(rule) (heading 1 "" (emph "a"))']:
            for program in ["(repeat 50 (repeat 4 %s))", "(repeat 4 (repeat 50 %s))", "(repeat 40 (repeat 5 (when (any) %s)))",
                            "(when (any) (repeat 50 (repeat 2 (repeat 2 %s))))"]:
                program = program.replace("%s", grow)
                self.assertEqual(apply(program, tree), normal(tree.replace('"a"', '"a' + "b" * 200 + '"')))
                self.assertEqual(apply(program + "(inlines (any))", tree), -28)
            # Each application has its own 200 steps.
            self.assertIsInstance(apply("(repeat 50 (repeat 4 " + grow + "))", tree), str)
            self.assertEqual(apply("(repeat 50 (repeat 50 (repeat 50 " + grow + ")))", tree), -28)

    def test_paths(self):
        for tree in TREES:
            parts_at = {path: parts for path, mark, parts in blocks_with_paths(parsed(tree))}
            for kind in BLOCK_KINDS:
                paths = select("(kind " + kind + ")", tree)
                self.assertEqual(len(paths), count("(kind " + kind + ")", tree)[0])
                self.assertEqual(paths, [path for path in parts_at if parts_at[path][0][1] == kind])
            self.assertEqual(select("(any)", tree), list(parts_at))

    def test_paths_of_more_selectors(self):
        for tree in TREES:
            every = select("(any)", tree)
            for selector in EMPTY_SELECTORS:
                self.assertEqual((select(selector, tree), count(selector, tree)), ([], (0, 0)))
            for index in range(3):
                self.assertEqual(select("(index %d)" % index, tree), [path for path in every if path[-1] == index])
            self.assertEqual(select("(parent (any))", tree), [path for path in every if len(path) > 1])
            self.assertEqual(select("(ancestor (parent (any)))", tree), [path for path in every if len(path) > 3])
            self.assertEqual(select("(previous (any))", tree), [path for path in every if path[-1] > 0])
            self.assertEqual(select("(next (any))", tree), [path for path in every if path[:-1] + (path[-1] + 1,) in every])
            for selector in ["(empty)", '(text "a")', "(descendant (kind emph))", "(last)", '(label "x")', '(class "c")']:
                paths = select(selector, tree)
                others = select("(not " + selector + ")", tree)
                self.assertEqual(sorted(paths + others), sorted(every))
                self.assertEqual((len(paths), len(others)), (count(selector, tree)[0], count("(not " + selector + ")", tree)[0]))
