"""select, count and extract: what is no selector, and what is no document."""

import unittest

from tests.helper import count, extract, select, to_bytes
from treefiltersdesk import filters

OPERATIONS = [select, count, extract]
LEVELS = "(heading 1 \"\") (rule)"


class Refusals(unittest.TestCase):
    def assert_refused(self, code, selectors, trees):
        """Each operation answers the code for each selector with each tree."""
        for operation in OPERATIONS:
            for selector in selectors:
                for tree in trees:
                    self.assertEqual(operation(selector, tree), code, (operation.__name__, selector, tree))

    def assert_no_selectors(self, selectors):
        """None of the texts is a selector, whatever the tree is, and neither is one with one of them in it."""
        self.assert_refused(-21, selectors, ["", "(rule)", '(para "a")', "(", "x", "(heading 0)", b"\xff"])
        for form in [b"(not %s)", b"(and (any) %s)", b"(or %s (any))", b"(child %s)"]:
            inner = [form % bytes(to_bytes(selector)) for selector in selectors if selector not in ("", " ", "; (any)")]
            self.assert_refused(-21, inner, ["(rule)", "("])


class NoSelector(Refusals):
    def test_not_exactly_one(self):
        for selector in ["", " ", "\n\t\r", "; (any)", "(any) (any)", "(any)(any)", "(any) (first) (last)", "(any) x", "(any) 1",
                         '(any) "a"', "(any) ()", "(any) (x)", "(any) )", "(any) ("]:
            self.assert_refused(-21, [selector], ["", "(rule)", "(", "(x)"])
        self.assertEqual(select("; one\n (any) ; and no other (any)", "(rule)"), [(0,)])
        self.assertEqual(count("\t(any)\r\n", "(rule)"), (1, 0))

    def test_steps_and_actions(self):
        self.assert_no_selectors(["(blocks (any))", "(inlines (any))", "(blocks (any) (remove))", "(repeat 1 (blocks (any)))", "(when (any))",
                                  "(remove)", "(unwrap)", "(replace (self))", "(set-level 1)", "(raise)", "(upper-case)", "(self)"])

    def test_too_early_an_end(self):
        self.assert_refused(-21, ["(", "(any", "(and (any)", '(text "', '(text "a', '(text "\\', '(text "a\\', "(any ; )"], ["", "(rule)", "("])

    def test_unexpected_bytes(self):
        self.assert_no_selectors([b"(any \xff)", b"\x80", b"(Any)", b"(any')", b"(any_)", b"(-any)", b"(any \x00)", b"(any \x0b)",
                                  b'(text "a\nb")', b'(text "\t")', b'(text "\x1f")', b'(text "\x00")', b"[any]", b"(index -1)"])
        self.assert_refused(-21, [")", "(any))", b"(any)\xef\xbb\xbf", b"\xef\xbb\xbf(any)", "(any),"], ["", "(rule)", "("])

    def test_escape_sequences(self):
        self.assert_no_selectors(['(text "%s")' % escape for escape in [
            "\\a", "\\r", "\\'", "\\u", "\\u{}", "\\u{g}", "\\u{A}", "\\u{0000000}", "\\u{110000}", "\\u{d800}", "\\u{dfff}", "\\u{1", "\\U{1}",
            "\\u{ 1}", "\\u0031", "\\N"]])

    def test_invalid_utf8(self):
        self.assert_no_selectors([b'(text "' + data + b'")' for data in [
            b"\x80", b"\xbf", b"\xc0\x80", b"\xc1\xbf", b"\xc3", b"\xc3a", b"\xe0\x9f\xbf", b"\xe2\x82", b"\xed\xa0\x80", b"\xed\xbf\xbf",
            b"\xf0\x8f\xbf\xbf", b"\xf0\x9f\x98", b"\xf4\x90\x80\x80", b"\xf5\x80\x80\x80", b"\xff", b"\xe9"]])
        self.assert_refused(-21, [b'(text "\xc3', b'(text "\xe2\x82', b'(text "\xf0\x9f\x98'], ["(rule)", "("])

    def test_integers(self):
        self.assert_no_selectors(["(index 00)", "(index 01)", "(index 1000000)", "(index 0999999)", "(level 01 2)", "(level 1 06)", "000", "1234567"])
        self.assertEqual((count("(index 0)", "(rule)"), count("(index 999999)", "(rule)")), ((1, 0), (0, 0)))

    def test_depth(self):
        for head in ["(not ", "(and ", "(parent ", "(next "]:
            self.assert_refused(-21, [head * 16 + "(any)" + ")" * 16, head * 16, "(" * 17], ["", "(rule)", "("])
            self.assertIsInstance(select(head * 15 + "(any)" + ")" * 15, "(rule)"), list)
        self.assert_refused(-21, ["(any " + "(" * 16 + ")" * 17], ["(rule)"])

    def test_what_is_no_selector_where_one_is_needed(self):
        self.assert_no_selectors(["()", "(x)", "any", '"any"', "1", '("any")', "((any))", "(1)", "(any-thing)", "(anything)", "(para)",
                                  "(self)", "(content)", "(selector)", "(s)", "(and and)", "(or 1)", '(not "a")', "(parent para)", "(child ())",
                                  "(next (rule))", "(previous (x))", "(ancestor rule)", "(descendant (kind))", "(and (any) x (any))"])

    def test_wrong_numbers_of_arguments(self):
        self.assert_no_selectors([
            "(any 1)", "(any (any))", "(kind)", "(kind para rule)", "(level)", "(level 1)", "(level 1 2 3)", "(label)", '(label "a" "b")',
            "(class)", '(class "a" "b")', "(target)", '(target "" "")', "(text)", '(text "" "")', '(empty "")', "(first 0)", "(last (any))",
            "(index)", "(index 1 2)", "(not)", "(not (any) (any))", "(parent)", "(parent (any) (any))", "(ancestor)", "(child)",
            "(child (any) (any))", "(descendant)", "(next)", "(next (any) (any))", "(previous)", "(previous (any) 1)"])

    def test_arguments_of_another_kind(self):
        self.assert_no_selectors([
            '(kind "para")', "(kind 1)", "(kind (para))", '(level "1" 2)', "(level 1 a)", "(level (any) 1)", "(label a)", "(label 1)", "(label ())",
            "(class a)", "(class 1)", "(target a)", "(target 1)", "(text a)", "(text 1)", '(text ("a"))', '(index "1")', "(index a)", "(index ())"])

    def test_arguments_out_of_their_range(self):
        self.assert_no_selectors([
            "(level 0 1)", "(level 1 0)", "(level 7 1)", "(level 1 7)", "(level 999999 1)", "(kind item)", "(kind term)", "(kind cell)",
            "(kind row)", "(kind any)", "(kind paragraph)", "(kind caption)", "(kind class)", "(kind small-caps)", '(label "a b")',
            '(label " ")', '(label "\u00e9")', '(label "%s")' % ("a" * 41), '(class "")', '(class "a/b")', '(class "%s")' % ("a" * 41)])
        self.assertEqual(select("(level 6 1)", LEVELS), [])
        self.assertEqual(select('(label "")', LEVELS), [(0,)])
        self.assertEqual(select('(label "%s")' % ("a" * 40), LEVELS), [])
        self.assertEqual(select('(class "%s")' % ("a" * 40), LEVELS), [])
        self.assertEqual(select('(target "a b")', LEVELS), [])


class NoDocument(Refusals):
    SELECTORS = ["(any)", "(or)", "(kind rule)", "(descendant (not (text \"a\")))"]

    def test_no_document(self):
        self.assert_refused(-20, self.SELECTORS, [
            "(", ")", "(rule", '(para "a', '(para "\\q")', "(RULE)", "x", "1", '"a"', "()", "(x)", "(item)", '(emph "a")', '(code "a")',
            "(rule) x", "x (rule)", "(para (rule))", '(quote "a")', "(heading 7 \"\")", '(heading 1 "a b")', "(bullets)", "(bullets (rule))",
            "(numbers 1)", "(numbers 1000000 (item))", "(numbers 01 (item))", "(terms (term))", '(note "")', '(group "a")', "(para (cite))",
            '(table "" (caption) (align) (row))', '(table "" (caption) (align none) (row))', '(figure "")', "(" * 17, "(rule 1)",
            b'(para "\x80")', b'(para "\xed\xa0\x80")', b'(para "\x01")', b"\xef\xbb\xbf(rule)", b"(rule) \xff", "(any)", "(blocks (any))"])

    def test_of_more_than_one_fault(self):
        self.assert_refused(-20, self.SELECTORS, [
            "(x) (y)", "(heading 0 \"a b\") (", '(para "\\q") (para "\\q")', "(quote (item) (bullets)) )", b'(x "\xff\\q") 00 (', "() () ()"])

    def test_too_deep(self):
        self.assert_refused(-20, self.SELECTORS, ["(quote " * 16 + "(rule)" + ")" * 16, '(note "n" ' * 15 + '(para (emph "a"))' + ")" * 15])
        self.assertEqual(count("(any)", '(note "n" ' * 15 + '(para "a")' + ")" * 15), (16, 1))

    def test_both_wrong(self):
        self.assert_refused(-21, ["", "(", "(x)", "(any) (any)", "(blocks (any))", "(level 0 1)"],
                            ["(", "(x)", "1", "(heading 0)", b"\xff", "(x) (y)"])

    def test_an_error_result_is_the_code_alone(self):
        for operation in [filters.select, filters.count, filters.extract]:
            self.assertEqual(operation([], []), [-21])
            self.assertEqual(operation([40], [40]), [-21])
            self.assertEqual(operation(to_bytes("(any)"), [40]), [-20])
