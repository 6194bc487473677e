"""select: the paths of blocks and their order; select and count: documents that aren't in their normal form."""

from tests.helper import Finding, count, normal, select, to_bytes
from treefiltersdesk import filters


class Paths(Finding):
    def test_blocks_of_the_document(self):
        self.assertEqual(select("(any)", '(rule) (para "a") (heading 1 "" (emph "b"))'), [(0,), (1,), (2,)])
        self.assertEqual(select("(kind para)", '(rule) (para "a") (heading 1 "") (para)'), [(1,), (3,)])
        self.assertEqual(select("(kind note)", '(rule) (para "a")'), [])

    def test_each_kind_of_list_of_blocks(self):
        for tree, path in [
                ("(quote (rule))", (0, 0, 0)),
                ('(quote (para) (rule))', (0, 0, 1)),
                ("(group (class) (rule))", (0, 0, 0)),
                ('(group (class "a" "b" "c") (para) (para) (rule))', (0, 0, 2)),
                ('(note "n" (para) (rule))', (0, 0, 1)),
                ("(bullets (item (rule)))", (0, 0, 0)),
                ("(bullets (item) (item (para)) (item (para) (rule)))", (0, 2, 1)),
                ("(numbers 7 (item (rule)))", (0, 0, 0)),
                ("(numbers 7 (item) (item (para) (para) (rule)) (item))", (0, 1, 2)),
                ("(terms (term () (rule)))", (0, 0, 0)),
                ('(terms (term ("a" "b") (para) (rule)))', (0, 0, 1)),
                ('(terms (term ("a")) (term () (para)) (term ((emph "c")) (para) (rule)) (term ("d")))', (0, 2, 1)),
                ('(para) (quote) (bullets (item)) (terms (term ()) (term () (rule)))', (3, 1, 0))]:
            self.assertEqual(select("(kind rule)", tree), [path], tree)

    def test_several_levels(self):
        tree = ('(quote (group (class "c") (rule)) (note "n" (bullets (item) (item (rule) (numbers 5 (item (rule)) (item) (item'
                ' (terms (term ("t") (rule)) (term ()) (term ("u" "v") (para "p") (rule)))))))))(rule)')
        deep = (0, 0, 1, 0, 0)
        self.assertEqual(select("(kind rule)", tree), [
            (0, 0, 0, 0, 0), deep + (1, 0), deep + (1, 1, 0, 0), deep + (1, 1, 2, 0, 0, 0), deep + (1, 1, 2, 0, 2, 1), (1,)])
        self.assertEqual(select("(kind terms)", tree), [deep + (1, 1, 2, 0)])
        self.assertEqual(select("(kind para)", tree), [deep + (1, 1, 2, 0, 2, 0)])
        self.assertEqual(select("(kind numbers)", tree), [deep + (1, 1)])
        self.assertEqual(select("(kind bullets)", tree), [deep])
        self.assertEqual(select("(ancestor (kind bullets))", tree), [
            deep + (1, 0), deep + (1, 1), deep + (1, 1, 0, 0), deep + (1, 1, 2, 0), deep + (1, 1, 2, 0, 0, 0),
            deep + (1, 1, 2, 0, 2, 0), deep + (1, 1, 2, 0, 2, 1)])

    def test_the_order_of_the_notation(self):
        tree = ('(note "n" (quote (rule) (para "a" (emph "b"))) (rule)) (terms (term ("c") (rule) (bullets (item (rule)) (item (rule))))'
                ' (term () (rule))) (rule)')
        self.assertEqual(select("(any)", tree), [
            (0,), (0, 0, 0), (0, 0, 0, 0, 0), (0, 0, 0, 0, 1), (0, 0, 1), (1,), (1, 0, 0), (1, 0, 1), (1, 0, 1, 0, 0),
            (1, 0, 1, 1, 0), (1, 1, 0), (2,)])
        self.assert_found("(any)", '*(note "n" *(quote *(rule) *(para *"a" *(emph *"b"))) *(rule)) *(terms (term (*"c") *(rule)'
                          ' *(bullets (item *(rule)) (item *(rule)))) (term () *(rule))) *(rule)')

    def test_as_answered(self):
        tree = to_bytes('(rule) (terms (term ("a")) (term () (para) (quote (rule)))) (rule)')
        self.assertEqual(filters.select(to_bytes("(kind rule)"), tree), [3, 1, 0, 5, 1, 1, 1, 0, 0, 1, 2])
        self.assertEqual(filters.select(to_bytes("(kind text)"), tree), [0])
        self.assertEqual(filters.count(to_bytes("(kind text)"), tree), [0, 1])
        self.assertEqual(filters.count(to_bytes("(kind rule)"), tree), [3, 0])

    def test_inline_elements_have_no_paths(self):
        tree = '(para (emph "a") "b") (figure "" "" (image "u" "c"))'
        self.assertEqual((select("(or (kind emph) (kind text) (kind image))", tree), count("(parent (any))", tree)), ([], (0, 5)))
        self.assertEqual(select("(child (kind image))", tree), [(1,)])

    def test_a_block_selected_inside_a_selected_one(self):
        self.assert_found("(kind quote)", '*(quote *(quote (rule) *(quote)) (rule)) (note "n" *(quote *(quote)))')
        self.assert_found("(descendant (kind rule))", '*(quote *(bullets (item *(note "n" (rule))))) (quote) (rule)')


class NotInNormalForm(Finding):
    """Documents are considered as they are."""

    def test_paragraphs_quotes_and_groups_with_nothing_in_them(self):
        self.assert_found("(any)", '*(para) *(quote) *(group (class)) *(group (class "c")) *(quote *(para) *(quote))')
        self.assert_found("(index 2)", '(para) (para " ") *(para "a") (quote)')
        self.assert_found("(not (child (any)))", '*(para) (para *"") *(quote) (quote *(para)) *(group (class))')

    def test_groups_without_classes(self):
        self.assert_found("(kind group)", '*(group (class) (rule)) *(group (class) *(group (class "c") (rule)))')
        self.assert_found("(kind rule)", '(group (class) *(rule) (group (class) *(rule)))')
        self.assertEqual(select("(kind rule)", '(group (class) (rule) (group (class) (rule)))'), [(0, 0, 0), (0, 0, 1, 0, 0)])

    def test_neighbours_that_would_be_joined(self):
        self.assert_found("(kind quote)", '*(quote (rule)) *(quote (rule)) *(quote)')
        self.assert_found("(previous (kind quote))", '(quote (rule)) *(quote (rule)) *(rule)')
        self.assert_found("(first)", '*(bullets (item *(rule)) (item *(rule))) (bullets (item *(rule) (rule)))')
        self.assertEqual(select("(kind rule)", "(bullets (item (rule))) (bullets (item (rule)))"), [(0, 0, 0), (1, 0, 0)])
        self.assertEqual(select("(kind rule)", "(numbers 1 (item (rule))) (numbers 2 (item (rule)))"), [(0, 0, 0), (1, 0, 0)])
        self.assertEqual(select("(kind rule)", "(quote (rule)) (quote (rule))"), [(0, 0, 0), (1, 0, 0)])

    def test_neighbouring_texts_and_elements(self):
        self.assert_found("(kind text)", '(para *"a" *"b" *"" *" ") (para (emph *"c") (emph *"d"))')
        self.assert_found("(kind emph)", '(para *(emph "a") *(emph "b") *(emph *(emph)))')
        self.assert_found('(text "ab")', '*(para "a" "b") *(para *"ab") (para "a" " b")')
        self.assert_found("(last)", '*(para "a" *"b")')

    def test_white_space(self):
        self.assert_found('(text " ")', '*(para *" a") *(para "a" *" ") *(para *"a  b") (para "a")')
        self.assert_found('(text "  ")', '*(para *"a  b") (para "a b") *(para " " " ") *(para *"\\u{20} ")')
        self.assert_found('(text "\\t")', '*(para *"a\\tb") (para "a b") *(para *"\\t")')
        self.assert_found('(text " \\n")', '*(para " ") *(para "a " (break)) *(para *(link "u" " " (break)))')
        self.assert_found("(kind break)", '(para *(break)) (heading 1 "" *(break) "a" *(break))')

    def test_wrappers_that_would_be_left_out(self):
        self.assert_found("(parent (kind emph))", '(para (emph *(emph *"a")))')
        self.assert_found('(ancestor (kind link))', '(para (link "u" *(link "v" *"a")))')
        self.assert_found("(kind span)", '(para *(span (class) "a") *(span (class)))')
        self.assert_found("(child (kind emph))", '*(para *(emph *(emph (emph))))')

    def test_the_normal_form_has_other_paths(self):
        tree = '(para) (quote (group (class) (para " a "))) (quote (rule))'
        self.assertEqual(normal(tree), '(quote (para "a") (rule))')
        self.assertEqual(select("(or (kind para) (kind rule))", tree), [(0,), (1, 0, 0, 0, 0), (2, 0, 0)])
        self.assertEqual(select("(or (kind para) (kind rule))", normal(tree)), [(0, 0, 0), (0, 0, 1)])
        self.assertEqual((count("(any)", tree), count("(any)", normal(tree))), ((6, 1), (3, 1)))


class EmptyAndLongest(Finding):
    def test_empty_trees(self):
        for tree in ["", " ", "\t\r\n", "; nothing", ";\n;", b";\xff\xfe\n "]:
            for selector in ["(any)", "(and)", "(or)", "(not (any))", "(empty)", '(text "")', "(first)", "(not (parent (any)))"]:
                self.assertEqual(select(selector, tree), [])
                self.assertEqual(count(selector, tree), (0, 0))
        self.assertEqual(filters.select(to_bytes("(any)"), []), [0])
        self.assertEqual(filters.count(to_bytes("(any)"), []), [0, 0])

    def test_wide_trees(self):
        tree = "(rule)" * 100
        self.assertEqual(len(tree), 600)
        self.assertEqual(select("(any)", tree), [(index,) for index in range(100)])
        self.assertEqual(filters.select(to_bytes("(last)"), to_bytes(tree)), [1, 1, 99])
        self.assertEqual(select("(not (next (any)))", tree), [(99,)])
        self.assertEqual(count("(previous (any))", tree), (99, 0))
        tree = '(para' + '""' * 297 + ")"
        self.assertEqual((len(tree), count("(any)", tree), select("(any)", tree)), (600, (1, 297), [(0,)]))
        self.assertEqual(count("(index 296)", tree), (0, 1))
        tree = "(terms" + "(term()(rule))" * 42 + ")"
        self.assertEqual(select("(kind rule)", tree), [(0, entry, 0) for entry in range(42)])
        tree = '(table""(caption)(align none)' + '(row(cell""))' * 43 + ")"
        self.assertEqual((count("(first)", tree), count("(next (any))", tree)), ((1, 43), (0, 0)))

    def test_long_texts(self):
        tree = '(para "' + "a" * 591 + '")'
        selector = '(text "' + "a" * 591 + '")'
        self.assertEqual((len(tree), len(selector)), (600, 600))
        self.assertEqual((select(selector, tree), count(selector, tree)), ([(0,)], (1, 1)))
        self.assertEqual(count(selector.replace("aa", "ab", 1), tree), (0, 0))
        selector = '(text "' + "\u20ac" * 197 + '")'
        tree = '(para "' + "\u20ac" * 197 + '")'
        self.assertEqual(count(selector, tree), (1, 1))
        self.assertEqual(count(" " * 595 + "(any)", " " * 594 + "(rule)"), (1, 0))
        self.assertEqual(count("(any);" + "x" * 594, "(rule);" + "x" * 593), (1, 0))
        self.assertEqual(count("(any);" + "x" * 594, b"(rule);" + b"\xff" * 593), (1, 0))

    def test_wide_selectors(self):
        tree = '(rule) (para "a")'
        for selector, expected in [("(or" + "(or)" * 147 + "(any))", (2, 1)), ("(and" + "(and)" * 118 + "(or))", (0, 0)),
                                   ("(and" + "(and)" * 119 + ")", (2, 1)), ("(or" + "(kind rule)" * 54 + ")", (1, 0))]:
            self.assertLessEqual(len(selector), 600)
            self.assertEqual(count(selector, tree), expected)

    def test_deep_selectors(self):
        tree = '(rule) (quote (para "a"))'
        for depth in range(16):
            self.assertEqual(count("(not " * depth + "(kind rule)" + ")" * depth, tree), ((1, 0), (2, 1))[depth % 2])
        self.assertEqual(count("(not " * 16 + "(any)" + ")" * 16, tree), -21)
        for head in ["(and ", "(or ", "(parent ", "(next ", "(previous "]:
            self.assertEqual(select(head * 15 + "(any)" + ")" * 15, "(rule)" * 100),
                             {"(and ": [(index,) for index in range(100)], "(or ": [(index,) for index in range(100)], "(parent ": [],
                              "(next ": [(index,) for index in range(85)], "(previous ": [(index,) for index in range(15, 100)]}[head])
            self.assertEqual(select(head * 16 + "(any)" + ")" * 16, "(rule)" * 100), -21)

    def test_deep_trees(self):
        for head, tail, most, step in [("(quote ", ")", 15, (0, 0)), ('(note "n" (para)', ")", 15, (0, 1)),
                                       ("(group (class) ", ")", 15, (0, 0)), ("(bullets (item)(item ", "))", 7, (1, 0)),
                                       ("(numbers 1 (item ", "))", 7, (0, 0)), ('(terms (term ("a"))(term () (para)', "))", 7, (1, 1))]:
            tree = head * most + "(rule)" + tail * most
            self.assertLessEqual(len(tree), 600)
            self.assertEqual(select("(kind rule)", tree), [(0,) + step * most])
            self.assertEqual(select("(descendant (kind rule))", tree), [(0,) + step * depth for depth in range(most)])
            self.assertEqual(select("(ancestor (not (parent (any))))", tree)[-1], (0,) + step * most)
            self.assertEqual(count("(and (kind rule)" + "(ancestor (any))" * 30 + ")", tree), (1, 0))
            self.assertEqual(select("(parent " * 15 + "(any)" + ")" * 15, tree)[-1:], [(0,) + step * most] if most == 15 else [])
            self.assertEqual(select("(any)", head * 16 + "(rule)" + tail * 16), -20)
        tree = "(para " + "(emph (strong (strike (sub (super (caps (link \"u\" " + '(span (class "x") ' * 7 + '"a"' + ")" * 15
        self.assertEqual((count("(any)", tree), count("(child (any))", tree), count('(text "a")', tree)), ((1, 15), (1, 14), (1, 15)))
        self.assertEqual(count("(parent " * 15 + "(any)" + ")" * 15, tree), (0, 1))
