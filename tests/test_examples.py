"""The rows of the document's examples."""

import unittest

from tests.helper import apply, check, count, is_stable, select, to_bytes, trace
from treefiltersdesk import filters


class Examples(unittest.TestCase):
    def test_check_finds_a_wrong_number_of_executions(self):
        self.assertEqual(check("(blocks (kind rule) (remove)) (repeat 0)"), [9, 38])

    def test_check_finds_what_is_no_step(self):
        self.assertEqual(check("(x)"), [7, 0])

    def test_apply_removes_rules(self):
        self.assertEqual(apply("(blocks (kind rule) (remove))", '(rule) (para "a") (quote (rule))'), '(para "a")')

    def test_apply_replaces_a_style(self):
        self.assertEqual(
            apply("(inlines (kind emph) (replace (strong (content))))", '(para (emph "a"))'), '(para (strong "a"))')

    def test_apply_lowers_a_heading_and_adds_a_rule(self):
        self.assertEqual(
            apply("(blocks (level 1 6) (lower) (after (rule)))", '(heading 1 "" "A")'), '(heading 2 "" "A")\n(rule)')

    def test_apply_refuses_a_template(self):
        self.assertEqual(apply("(blocks (any) (replace (item (self))))", "(rule)"), -33)

    def test_trace_counts_rules(self):
        program = "(repeat 5 (blocks (and (kind rule) (first)) (remove)))"
        tree = '(rule) (rule) (para "a")'
        self.assertEqual(trace(program, tree), [1, 1, 0])
        self.assertEqual(filters.trace(to_bytes(program), to_bytes(tree)), [3, 1, 1, 0])

    def test_is_stable_finds_ever_more_rules(self):
        program = "(blocks (kind para) (after (rule)))"
        self.assertEqual(is_stable(program, '(para "a")'), 0)
        self.assertEqual(filters.is_stable(to_bytes(program), to_bytes('(para "a")')), [0])

    def test_select_finds_what_stands_after_a_rule(self):
        selector = "(previous (kind rule))"
        tree = '(rule) (quote (rule) (para "a"))'
        self.assertEqual(select(selector, tree), [(1,), (1, 0, 1)])
        self.assertEqual(filters.select(to_bytes(selector), to_bytes(tree)), [2, 1, 1, 3, 1, 0, 1])

    def test_count_finds_what_stands_in_a_paragraph(self):
        selector = "(ancestor (kind para))"
        tree = '(para "a" (emph "b"))'
        self.assertEqual(count(selector, tree), (0, 3))
        self.assertEqual(filters.count(to_bytes(selector), to_bytes(tree)), [0, 3])

    def test_answers_as_lists(self):
        self.assertEqual(filters.check(to_bytes("(when (any))(when (any))")), [0, 2])
        self.assertEqual(filters.apply([], to_bytes("( rule )")), [6] + to_bytes("(rule)"))
        self.assertEqual(filters.apply([], []), [0])
        self.assertEqual(filters.apply([40], []), [-21])
        self.assertEqual(filters.trace([], []), [0])
        self.assertEqual(filters.trace([40], []), [-21])
        self.assertEqual(filters.is_stable([], []), [1])
        self.assertEqual(filters.is_stable([40], []), [-21])
        self.assertEqual(filters.select(to_bytes("(any)"), to_bytes("(rule)")), [1, 1, 0])
        self.assertEqual(filters.select([40], []), [-21])
        self.assertEqual(filters.count(to_bytes("(any)"), to_bytes("(rule)")), [1, 0])
        self.assertEqual(filters.count([40], []), [-21])
        self.assertEqual(filters.extract(to_bytes("(any)"), to_bytes("(rule)")), [6] + to_bytes("(rule)"))
        self.assertEqual(filters.extract([40], []), [-21])
