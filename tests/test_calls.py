"""Calls as such: what is handed in, what is kept, and inputs as large as the bounds let them be."""

import unittest

from tests.helper import TREES, apply, check, count, extract, is_stable, normal, select, to_bytes, trace
from tests.test_requirements import PROGRAMS
from treefiltersdesk import filters


class Untouchable(list):
    """A list that can't be changed."""

    def refuse(self, *arguments, **names):
        raise AssertionError("what is handed in was changed")

    append = clear = extend = insert = pop = remove = reverse = sort = refuse
    __setitem__ = __delitem__ = __iadd__ = __imul__ = refuse


FAILING = ["(", "(x)", "(blocks (any) (replace (x)))", "(blocks (any) (replace (self) (quote (x))))", "(repeat 0)",
           "(repeat 50 (repeat 50 (inlines (any) (after \"a\"))))"]
SELECTORS = ["(any)", "(kind rule)", '(text "a")', "(or (empty) (label \"x\"))", "(descendant (kind text))", "(not (previous (any)))", "(or)"]
NO_SELECTORS = ["", "(", "(x)", "(any) (any)", "(level 0 1)", "(text \"\\q\")"]


class HandedIn(unittest.TestCase):
    def test_lists_are_as_they_were(self):
        for program in PROGRAMS + FAILING:
            for tree in TREES + ["(", "(x)"]:
                one = Untouchable(to_bytes(program))
                other = Untouchable(to_bytes(tree))
                filters.check(one)
                filters.apply(one, other)
                filters.trace(one, other)
                filters.is_stable(one, other)
                self.assertEqual(list(one), to_bytes(program))
                self.assertEqual(list(other), to_bytes(tree))

    def test_selectors_are_as_they_were(self):
        for selector in SELECTORS + NO_SELECTORS:
            for tree in TREES + ["(", "(x)", "(para) (para)"]:
                one = Untouchable(to_bytes(selector))
                other = Untouchable(to_bytes(tree))
                filters.select(one, other)
                filters.count(one, other)
                filters.extract(one, other)
                self.assertEqual(list(one), to_bytes(selector))
                self.assertEqual(list(other), to_bytes(tree))

    def test_answers_are_lists_of_their_own(self):
        answer = filters.apply([], to_bytes("(rule)"))
        answer.append(1)
        self.assertEqual(filters.apply([], to_bytes("(rule)")), [6] + to_bytes("(rule)"))
        answer = filters.check([])
        answer.clear()
        self.assertEqual(filters.check([]), [0, 0])
        program = to_bytes("(blocks (any))")
        answer = filters.trace(program, [])
        answer.append(1)
        self.assertEqual(filters.trace(program, []), [1, 0])
        answer = filters.is_stable(program, [])
        answer.clear()
        self.assertEqual(filters.is_stable(program, []), [1])
        selector = to_bytes("(any)")
        for operation, expected in [(filters.select, [1, 1, 0]), (filters.count, [1, 0]), (filters.extract, [6] + to_bytes("(rule)"))]:
            answer = operation(selector, to_bytes("(rule)"))
            answer.append(1)
            self.assertEqual(operation(selector, to_bytes("(rule)")), expected)

    def test_the_same_list_twice(self):
        data = to_bytes("; both\n")
        self.assertEqual(filters.apply(data, data), [0])
        self.assertEqual(filters.trace(data, data), [0])
        self.assertEqual(filters.is_stable(data, data), [1])
        self.assertEqual(filters.select(data, data), [-21])
        data = to_bytes("(any)")
        self.assertEqual(filters.count(data, data), [-20])
        self.assertEqual(filters.extract(data, data), [-20])


class Kept(unittest.TestCase):
    def test_the_same_answers_whatever_was_called_before(self):
        calls = [(program, tree) for program in PROGRAMS + FAILING for tree in TREES]
        first = [apply(program, tree) for program, tree in calls]
        checked = [check(program) for program in PROGRAMS + FAILING]
        again = [apply(program, tree) for program, tree in reversed(calls)]
        self.assertEqual(first, list(reversed(again)))
        self.assertEqual(checked, [check(program) for program in PROGRAMS + FAILING])
        self.assertEqual(first[::7], [apply(program, tree) for program, tree in calls[::7]])

    def test_whatever_other_operations_were_called_before(self):
        calls = [(program, tree) for program in PROGRAMS + FAILING for tree in TREES]
        applied = [apply(program, tree) for program, tree in calls]
        traced = [trace(program, tree) for program, tree in calls]
        stable = [is_stable(program, tree) for program, tree in calls]
        self.assertEqual({type(answer) for answer in traced}, {int, list})
        self.assertEqual(set(stable), {0, 1, -21, -28, -33})
        for number in reversed(range(len(calls))):
            program, tree = calls[number]
            answers = (is_stable(program, tree), apply(program, tree), trace(program, tree))
            self.assertEqual(answers, (stable[number], applied[number], traced[number]), calls[number])

    def test_selectors_whatever_was_called_before(self):
        calls = [(selector, tree) for selector in SELECTORS + NO_SELECTORS for tree in TREES + ["(x)"]]
        selected = [select(selector, tree) for selector, tree in calls]
        counted = [count(selector, tree) for selector, tree in calls]
        extracted = [extract(selector, tree) for selector, tree in calls]
        for number in reversed(range(len(calls))):
            selector, tree = calls[number]
            apply("(blocks " + selector + " (remove))", tree)
            answers = (extract(selector, tree), count(selector, tree), select(selector, tree))
            self.assertEqual(answers, (extracted[number], counted[number], selected[number]), calls[number])


class Extremes(unittest.TestCase):
    """Inputs of 600 bytes."""

    def test_long_texts(self):
        tree = '(para "' + "a" * 591 + '")'
        self.assertEqual(len(tree), 600)
        self.assertEqual(normal(tree), tree)
        self.assertEqual(apply('(inlines (any) (replace-text "' + "a" * 560 + '" ""))', tree), '(para "' + "a" * 31 + '")')
        self.assertEqual(check('(blocks (text "' + "a" * 583 + '"))'), [0, 1])
        self.assertEqual(check('"' + "a" * 599), [1, 600])
        self.assertEqual(check(";" * 600), [0, 0])
        self.assertEqual(check(" " * 600), [0, 0])
        self.assertEqual(check("a" * 600), [7, 0])
        self.assertEqual(check(b"\xff" * 600), [2, 0])
        self.assertEqual(check("(" * 600), [6, 16])
        self.assertEqual(normal(" " * 593 + "(rule) "), "(rule)")

    def test_deep_programs(self):
        for head in ["(repeat 2 ", "(when (any) "]:
            program = head * 15 + "(blocks)" + ")" * 15
            self.assertEqual(check(program), [8, 15 * len(head)])
        for head in ["(repeat 1 ", "(when (any) "]:
            program = head * 13 + "(blocks (not (any)))" + ")" * 13
            self.assertEqual(apply(program, "(rule)"), "(rule)")
        self.assertEqual(apply("(blocks " + "(not " * 14 + "(any)" + ")" * 14 + " (remove))", "(rule)"), "")
        self.assertEqual(apply("(blocks " + "(not " * 13 + "(any)" + ")" * 13 + " (remove))", "(rule)"), "(rule)")
        self.assertEqual(apply("(blocks (any) (replace " + "(quote " * 13 + "(self)" + ")" * 15, "(rule)"),
                         "(quote " * 13 + "(rule)" + ")" * 13)

    def test_wide_programs(self):
        self.assertEqual(check("(repeat 1)" * 60), [0, 60])
        self.assertEqual(check("(blocks(or))" * 50), [0, 50])
        self.assertEqual(apply("(blocks(or))" * 50, "(rule)"), "(rule)")
        self.assertEqual(apply("(blocks (or" + "(or)" * 140 + "(any)) (remove))", "(rule)"), "")
        self.assertEqual(apply("(blocks (and" + "(and)" * 110 + ") (remove))", "(rule)"), "")
        self.assertEqual(apply("(blocks (any)" + "(lower)" * 83 + ")", '(heading 1 "")'), '(heading 6 "")')
        self.assertEqual(apply("(blocks (any) (before" + "(rule)" * 95 + "))", "(rule)"), "\n".join(["(rule)"] * 96))

    def test_deep_trees(self):
        for head, tail, most in [("(quote ", ")", 15), ('(note "n" ', ")", 15), ('(group (class "a") ', ")", 15),
                                 ("(bullets (item ", "))", 7), ("(numbers 1 (item ", "))", 7), ("(terms (term () ", "))", 7)]:
            tree = head * most + "(rule)" + tail * most
            self.assertEqual(normal(tree), tree)
            self.assertEqual(apply("(blocks (kind rule) (replace (note \"m\")))", tree), head * most + '(note "m")' + tail * most)
            self.assertEqual(apply("(blocks (any) (replace (self)))", tree), tree)
            self.assertEqual(apply("(blocks (any) (unwrap))", tree),
                             "(rule)" if head.startswith(("(q", "(no", "(g", "(b", "(nu")) else tree)
        tree = "(para " + "(emph (strong (strike (sub (super (caps (link \"u\" " + '(span (class "x") ' * 7 + '"a"' + ")" * 15
        self.assertEqual(normal(tree), tree)
        self.assertEqual(apply("(inlines (any) (unwrap))", tree), '(para "a")')

    def test_wide_trees(self):
        self.assertEqual(normal("(rule)" * 100), "\n".join(["(rule)"] * 100))
        self.assertEqual(normal("(quote(rule))" * 46), "(quote" + " (rule)" * 46 + ")")
        self.assertEqual(normal("(bullets(item))" * 40), "(bullets" + " (item)" * 40 + ")")
        self.assertEqual(normal("(para)" * 100), "")
        self.assertEqual(normal("(para" + '"a"' * 198 + ")"), '(para "' + "a" * 198 + '")')
        self.assertEqual(normal("(para" + '(sub"a")' * 74 + ")"), '(para (sub "' + "a" * 74 + '"))')
        self.assertEqual(normal('(para"a"' + "(break)" * 83 + '"b")'), '(para "a"' + " (break)" * 83 + ' "b")')
        self.assertEqual(normal('(table""(caption)(align none' + " none" * 50 + ")(row" + "(cell)" * 51 + "))").count("(cell)"), 51)
        self.assertEqual(normal('(terms' + "(term())" * 74 + ")"), "(terms" + " (term ())" * 74 + ")")
        self.assertEqual(apply('(blocks (kind rule) (replace (note "n")))', "(quote" + "(rule)" * 98 + ")"),
                         "(quote" + ' (note "n")' * 98 + ")")

    def test_many_selected_items_and_steps(self):
        program = '(repeat 50 (blocks (last) (replace (para "a") (para "a"))) (blocks (last) (remove)) (repeat 2 (inlines (any) (upper-case))))'
        self.assertEqual(apply(program, "(rule)" * 100), "\n".join(["(rule)"] * 99 + ['(para "A")']))
        program = "(repeat 50 (blocks (descendant (descendant (kind rule))) (after (rule))) (blocks (kind rule) (remove)))"
        self.assertEqual(apply(program, '(note "n" ' * 15 + "(rule)" + ")" * 15), '(note "n" ' * 14 + '(note "n")' + ")" * 14)

    def test_traces_and_stability(self):
        program = "(inlines (any)" + " " * 185 + "(remove)) (repeat 50 (repeat 50 (blocks (kind rule) (remove))))"
        program = "; " + "x" * (597 - len(program)) + "\n" + program
        tree = "(rule)" * 99 + "(para)"
        self.assertEqual((len(program), len(tree)), (600, 600))
        self.assertEqual(trace(program, tree), [0, 99, 0, 0])
        self.assertEqual(is_stable(program, tree), 1)
        self.assertEqual(trace("(blocks(or))" * 50, tree), [0] * 50)
        self.assertEqual(trace("(blocks(any))" * 46, tree), [99] * 46)
        self.assertEqual(trace('(inlines (text "' + "a" * 583 + '"))', '(para "' + "a" * 591 + '")'), [1])
        self.assertEqual(trace("(repeat 1 " * 13 + "(blocks (any))" + ")" * 13, '(note "n" ' * 15 + "(rule)" + ")" * 15), [16])
        self.assertEqual(is_stable("(blocks (any) (before" + "(rule)" * 95 + "))", "(rule)"), -28)
        self.assertEqual(is_stable("(blocks (any) (replace" + "(self)" * 94 + "))", "(quote(rule))" * 46), -28)
        self.assertEqual(is_stable("(repeat 50 (repeat 50 (blocks (kind rule) (remove))))", "(rule)" * 100), 1)
        self.assertEqual(trace(";" * 600, " " * 600), [])
        self.assertEqual(is_stable(" " * 600, ";" * 600), 1)
        self.assertEqual(trace(" " * 600, "(" * 600), -20)
        self.assertEqual(is_stable("(" * 600, "(" * 600), -21)
