"""select, count and extract: every row of the table of selectors, on documents as they are."""

from tests.helper import BLOCK_KINDS, INLINE_KINDS, Finding

# A block and an inline element of each kind, with nothing in them that needn't be.
BLOCKS = {
    "para": "(para)",
    "heading": '(heading 1 "")',
    "code": '(code "" "")',
    "formula": '(formula "" "")',
    "rule": "(rule)",
    "quote": "(quote)",
    "bullets": "(bullets (item))",
    "numbers": "(numbers 1 (item))",
    "terms": "(terms (term ()))",
    "table": '(table "" (caption) (align none) (row (cell)))',
    "figure": '(figure "" "")',
    "group": "(group (class))",
    "note": '(note "n")',
}
INLINES = {
    "text": '""',
    "code": '(code "")',
    "math": '(math "")',
    "break": "(break)",
    "noteref": '(noteref "n")',
    "ref": '(ref "r")',
    "cite": '(cite "k")',
    "emph": "(emph)",
    "strong": "(strong)",
    "strike": "(strike)",
    "super": "(super)",
    "sub": "(sub)",
    "caps": "(caps)",
    "link": '(link "")',
    "image": '(image "")',
    "span": "(span (class))",
}

# Each kind of list, with a place for its items.
LISTS_OF_BLOCKS = [
    "%s",
    "(rule) (quote %s)",
    "(group (class) %s)",
    '(note "n" %s)',
    "(bullets (item %s))",
    "(bullets (item) (item %s) (item))",
    "(numbers 7 (item (para)) (item %s))",
    '(terms (term ("t") %s))',
    '(terms (term () (para)) (term ("t" "u") %s) (term ("v")))',
]
LISTS_OF_INLINES = [
    "(para %s)",
    '(heading 1 "" %s)',
    '(figure "" "" %s)',
    "(terms (term (%s)))",
    '(terms (term ("t")) (term (%s) (para "p")) (term ("u")))',
    '(table "" (caption %s) (align none) (row (cell)))',
    '(table "" (caption) (align none) (row (cell %s)))',
    '(table "" (caption "c") (align none none) (row (cell "a") (cell %s)) (row (cell) (cell)))',
    '(table "" (caption "c") (align none none) (row (cell "a") (cell)) (row (cell %s) (cell "b")))',
    '(para (emph %s))', '(para "a" (strong %s))', '(para (strike %s) "a")', '(para (super %s))', '(para (sub %s))',
    '(para (caps (caps %s)))', '(para (link "" %s))', '(para (image "" %s))', '(para (span (class "c") %s))',
]


def stars(marks):
    """What stands in front of each item: a star for a 1."""
    return tuple("*" * int(mark) for mark in marks)


class Kinds(Finding):
    def test_any(self):
        self.assert_found("(any)",
                          '*(para *"a" *(emph *(link "u" *"b")) *(code "c")) *(quote *(rule) *(bullets (item *(rule)) (item)))')
        self.assert_found("(any)", "*(para) *(group (class))")
        self.assert_found("(not (any))", '(para "a" (emph "b")) (quote (rule))')

    def test_each_kind(self):
        self.assertEqual((list(BLOCKS), list(INLINES)), (BLOCK_KINDS, INLINE_KINDS))
        for kind in BLOCK_KINDS + INLINE_KINDS:
            inlines = ["*" * (kind == name) + INLINES[name] for name in INLINES]
            blocks = ["*" * (kind == name) + BLOCKS[name] for name in BLOCKS]
            blocks[0] = blocks[0].replace(")", " " + " ".join(inlines) + ")")
            self.assert_found("(kind " + kind + ")", " ".join(blocks))
            self.assert_found("(kind " + kind + ")", "*" * (kind == "bullets") + "(bullets (item " + " ".join(blocks) + "))")

    def test_the_kind_code_of_both(self):
        self.assert_found("(kind code)", '*(code "" "a") (para *(code "a") (math "a")) (quote *(code "a" "a"))')

    def test_level(self):
        headings = ['(heading %d "")' % level for level in range(1, 7)]
        for low in range(1, 7):
            for high in range(1, 7):
                marked = ["*" * (low <= level <= high) + headings[level - 1] for level in range(1, 7)]
                self.assert_found("(level %d %d)" % (low, high), "(numbers 1 (item " + " ".join(marked) + '))')
        self.assert_found("(level 1 6)", " ".join(["*" * (name == "heading") + BLOCKS[name] for name in BLOCKS]))
        self.assert_found("(level 1 6)",
                          "(para " + " ".join(INLINES.values()) + ')*(heading 2 "" ' + " ".join(INLINES.values()) + ")")


class Attributes(Finding):
    def test_label_of_blocks(self):
        for block in ['(heading 1 "%s")', '(formula "%s" "x")', '(figure "%s" "x")',
                      '(table "%s" (caption) (align none) (row (cell)))']:
            self.assert_found('(label "x")', "*" + block % "x" + " " + block % "" + " " + block % "xx" + " " + block % "X")
            self.assert_found('(label "")', block % "x" + " *" + block % "")
        self.assert_found('(label "x")', '*(note "x" (note "y" *(note "x")))')
        self.assert_found('(label "")', '(note "x")')

    def test_label_of_inline_elements(self):
        self.assert_found('(label "x")', '(para *(ref "x") (ref "y") *(noteref "x") (noteref "xx") *(cite "x") (cite "y"))')
        self.assert_found('(label "x")', '(para *(cite "y" "x") *(cite "x" "x" "z") (cite "xx" "y"))')
        self.assert_found('(label "")', '(para (ref "x") (noteref "x") (cite "x") "" (code ""))')

    def test_items_without_label(self):
        others = ["para", "code", "rule", "quote", "bullets", "numbers", "terms", "group"]
        self.assert_found('(label "")', " ".join(BLOCKS[kind] for kind in others) + " (para " + " ".join(INLINES.values()) + ")")
        self.assert_found('(label "x")', '(code "x" "x") (group (class "x")) (para "x" (code "x") (math "x"))')
        self.assert_found('(label "x")', '(para (link "x" "x") (image "x") (span (class "x")))')

    def test_class(self):
        self.assert_found('(class "x")',
                          '*(group (class "x")) (group (class "y") *(group (class "y" "x") (rule))) (group (class))')
        self.assert_found('(class "x")',
                          '(para *(span (class "x") "x") (span (class "y") *(span (class "z" "x"))) (span (class)))')
        self.assert_found('(class "x")',
                          '(note "x") (heading 1 "x") (group (class "xx" "X")) (para (ref "x") (span (class "xy" "ax") "x"))')
        self.assert_found('(class "x")', '*(group (class "x" "x") (para "x" *(span (class "x" "y" "x"))))')

    def test_target(self):
        self.assert_found('(target "ab")',
                          '*(figure "" "ab") *(figure "" "abc") (figure "ab" "a") (figure "" "xab") (figure "" "")')
        self.assert_found('(target "ab")', '(para *(link "ab" "a") *(image "abc") (link "a" "ab") (image "bab") (code "ab"))')
        everything = " ".join(["*" * (kind == "figure") + BLOCKS[kind] for kind in BLOCKS])
        inlines = " ".join(["*" * (kind in ("link", "image")) + INLINES[kind] for kind in INLINES])
        self.assert_found('(target "")', everything + " (para " + inlines + ")")
        self.assert_found('(target "\u20ac")',
                          '*(figure "" "\u20ac") (para *(link "\u20ac" "a") (link "\u20ad") (image "a\u20ac"))')
        self.assert_found('(target " \\n")', '(para *(link " \\nx" "a") (link " n" "a"))')


class Positions(Finding):
    ROWS = [
        ("(first)", "100"), ("(last)", "001"), ("(index 0)", "100"), ("(index 1)", "010"), ("(index 2)", "001"), ("(index 3)", "000"),
        ("(index 999999)", "000"), ("(not (first))", "011"), ("(not (last))", "110"), ("(and (first) (last))", "000"),
        ("(next (any))", "110"), ("(previous (any))", "011"), ("(next (kind code))", "100"), ("(previous (kind code))", "001"),
        ("(next (not (kind code)))", "010"), ("(previous (not (kind code)))", "010"), ("(next (next (any)))", "100"),
        ("(previous (previous (any)))", "001"), ("(next (first))", "000"), ("(previous (last))", "000"),
        ("(next (last))", "010"), ("(previous (first))", "010"), ("(next (previous (any)))", "110"),
        ("(not (next (any)))", "001"), ("(not (previous (any)))", "100")]

    def assert_in_list(self, place, kinds, notations):
        """In a list with three items of these kinds, which are nowhere else, the selectors hold as they should."""
        among = "(or " + " ".join("(kind " + kind + ")" for kind in kinds) + ")"
        for selector, marks in self.ROWS:
            marked = " ".join(star + notations[kind] for star, kind in zip(stars(marks), kinds))
            self.assert_found("(and " + among + " " + selector + ")", place % marked)

    def test_in_each_list_of_blocks(self):
        for place in LISTS_OF_BLOCKS:
            self.assert_in_list(place, ["formula", "code", "heading"], BLOCKS)

    def test_in_each_list_of_inline_elements(self):
        for place in LISTS_OF_INLINES:
            self.assert_in_list(place, ["math", "code", "ref"], INLINES)

    def test_an_item_alone(self):
        for selector, star in [("(and (first) (last) (index 0))", "*"), ("(or (next (any)) (previous (any)) (index 1))", "")]:
            for place in LISTS_OF_BLOCKS:
                self.assert_found("(and (kind formula) " + selector + ")", place % (star + '(formula "" "")'))
            for place in LISTS_OF_INLINES:
                self.assert_found("(and (kind math) " + selector + ")", place % (star + '(math "")'))

    def test_the_items_of_other_lists_are_no_siblings(self):
        for selector, marks in [("(first)", "111"), ("(last)", "111"), ("(next (any))", "000"), ("(previous (any))", "000"),
                                ("(index 0)", "111"), ("(index 1)", "000")]:
            for form in ["(bullets (item %s(rule)) (item %s(rule)) (item %s(rule)))",
                         "(numbers 1 (item %s(rule)) (item %s(rule)) (item) (item %s(rule)))",
                         "(terms (term () %s(rule)) (term () %s(rule)) (term () %s(rule)))"]:
                self.assert_found("(and (kind rule) " + selector + ")", form % stars(marks))
            for form in ['(terms (term (%s(math "")) (para %s(math ""))) (term (%s(math ""))))',
                         '(table "" (caption %s(math "")) (align none none) (row (cell %s(math "")) (cell %s(math ""))))',
                         '(table "" (caption) (align none) (row (cell %s(math ""))) (row (cell %s(math ""))) (row (cell %s(math ""))))',
                         '(para %s(math "")) (para %s(math "")) (para (emph %s(math "")))']:
                self.assert_found("(and (kind math) " + selector + ")", form % stars(marks))

    def test_a_term_and_the_blocks_of_its_entry(self):
        tree = '(terms (term (%s"a" %s"b") %s(rule) %s(rule)))'
        for selector, marks in [("(and (parent (any)) (first))", "1010"), ("(and (parent (any)) (last))", "0101"),
                                ("(index 1)", "0101"), ("(next (any))", "1010"), ("(previous (any))", "0101"), ("(index 2)", "0000")]:
            self.assert_found(selector, tree % stars(marks))

    def test_texts_one_after_another(self):
        self.assert_found("(and (kind text) (first))", '(para *"a" "" "b")')
        self.assert_found("(and (kind text) (last))", '(para "a" "" *"b")')
        self.assert_found("(index 1)", '(para "a" *"" "b")')
        self.assert_found('(next (text "b"))', '(para "a" *"" "b")')
        self.assert_found("(previous (empty))", '(para "a" "" *"b")')


class Combinations(Finding):
    def test_and_or_not(self):
        tree = '%s(rule) %s(heading 1 "x") %s(heading 2 "") %s(code "c" "d")'
        for selector, marks in [
                ("(and)", "1111"), ("(or)", "0000"), ("(not (and))", "0000"), ("(not (or))", "1111"),
                ("(and (kind heading))", "0110"), ("(or (kind heading))", "0110"), ("(not (kind heading))", "1001"),
                ('(and (kind heading) (label ""))', "0010"), ('(or (kind rule) (label ""))', "1010"),
                ("(and (any) (any) (first))", "1000"), ("(and (first) (last))", "0000"), ("(or (first) (last) (kind note))", "1001"),
                ("(not (not (first)))", "1000"), ("(and (not (first)) (not (last)))", "0110"),
                ("(and (or (first) (index 1)) (or (index 1) (last)))", "0100")]:
            self.assert_found(selector, tree % stars(marks))
        self.assert_found("(and)", '*(para *"a" *(emph *"b"))')
        self.assert_found("(or)", '(para "a" (emph "b"))')
        self.assert_found("(or (kind emph) (kind para))", '*(para "a" *(emph "b"))')
        self.assert_found('(and (text "b") (not (kind emph)))', '*(para "a" (emph *"b"))')

    def test_parent(self):
        self.assert_found("(parent (any))", '(rule) (note "n" *(rule) *(quote *(para *"a" *(emph *"b"))))')
        self.assert_found("(not (parent (any)))", '*(rule) *(note "n" (rule)) *(para "a")')
        self.assert_found("(parent (kind note))", '(note "n" *(rule) *(quote (rule))) (rule)')
        self.assert_found("(parent (kind para))", '(para *"a" *(emph "b")) (heading 1 "" "c")')
        self.assert_found("(parent (kind heading))", '(heading 1 "" *"a" *(emph "b")) (para "c")')
        self.assert_found("(parent (kind emph))", '(para "a" (emph *"b" *(strong "c")))')
        self.assert_found("(parent (parent (kind quote)))", '(quote (para *"a" *(emph "b")) (rule) (quote *(rule)))')

    def test_parent_in_each_kind_of_list(self):
        for kind, place in [("quote", "(quote %s)"), ("group", "(group (class) %s)"), ("note", '(note "m" %s)'),
                            ("bullets", "(bullets (item) (item %s))"), ("numbers", "(numbers 1 (item %s) (item))"),
                            ("terms", "(terms (term ()) (term () %s))")]:
            self.assert_found("(parent (kind " + kind + "))", place % "*(rule)" + " (rule)")
        for kind, place in [("para", "(para %s)"), ("heading", '(heading 1 "" %s)'), ("figure", '(figure "" "" %s)'),
                            ("terms", "(terms (term ()) (term (%s)))"),
                            ("table", '(table "" (caption %s) (align none) (row (cell)))'),
                            ("table", '(table "" (caption) (align none) (row (cell)) (row (cell %s)))'),
                            ("emph", "(para (emph %s))"), ("strong", "(para (strong %s))"), ("strike", "(para (strike %s))"),
                            ("super", "(para (super %s))"), ("sub", "(para (sub %s))"), ("caps", "(para (caps %s))"),
                            ("link", '(para (link "" %s))'), ("image", '(para (image "" %s))'), ("span", "(para (span (class) %s))")]:
            self.assert_found("(parent (kind " + kind + "))", place % '*"a" *(code "b")' + ' (code "" "")')

    def test_ancestor(self):
        self.assert_found("(ancestor (kind note))", '(note "n" *(rule) *(quote *(rule) *(bullets (item *(rule)))))(quote (rule))')
        self.assert_found("(ancestor (kind quote))", '(quote *(para *"a" *(emph *(strong *"b")))) (para "c")')
        self.assert_found("(ancestor (any))", '(para *"a" *(emph *"b")) (quote *(rule))')
        self.assert_found("(ancestor (kind emph))", '(para "a" (emph *"b" *(strong *"c")))')
        self.assert_found("(ancestor (ancestor (any)))", '(quote (quote *(rule) *(para *"a")))(para "a" (emph *"b"))')
        self.assert_found("(not (ancestor (kind terms)))", '*(terms (term ("a") (quote (rule)))) *(para *"b")')
        self.assert_found("(ancestor (kind table))",
                          '(table "" (caption *(emph *"a")) (align none) (row (cell *(emph *(sub *"b")))))')
        self.assert_found('(ancestor (label "f"))', '(figure "f" "" *(image "" *"a" *(span (class) *"b"))) (figure "g" "" "a")')
        self.assert_found("(and (kind text) (ancestor (kind bullets)))",
                          '(bullets (item (numbers 1 (item (terms (term (*"a") (group (class) (para (link "" *"b"))))))))) (para "c")')

    def test_child(self):
        self.assert_found("(child (kind text))", '*(para "a" *(emph "b")) (para (code "c")) (rule) *(heading 1 "" "c")')
        self.assert_found("(child (any))",
                          '(bullets (item) (item)) (rule) *(bullets (item) (item (rule))) (heading 1 "") *(quote (para))')
        self.assert_found("(child (kind emph))", '*(terms (term ((emph "a"))))(terms (term () (para)))*(figure "" "" (emph))')
        self.assert_found("(child (kind rule))",
                          '*(terms (term ()) (term ("a") (rule))) (terms (term ("b"))) *(group (class) (rule))')
        self.assert_found("(child (kind math))", '*(table "" (caption (math "")) (align none) (row (cell))) (para "a")')
        self.assert_found("(child (kind math))",
                          '*(table "" (caption) (align none none) (row (cell) (cell)) (row (cell) (cell (math ""))))')
        self.assert_found("(child (kind code))",
                          '*(para *(link "" (code "")) (code "") *(image "" (code "")) *(span (class) (code "")))')
        self.assert_found("(child (child (kind text)))", '*(quote (para "a")) *(para (emph "a")) (quote (rule)) (para "a")')
        self.assert_found("(child (not (kind rule)))", '(quote (rule)) *(note "n" (rule) (heading 1 ""))')

    def test_descendant(self):
        self.assert_found("(descendant (kind code))",
                          '*(quote *(para "a" *(emph *(strong (code "b")) (sub "c")))) (para "a") (note "n" (rule))')
        self.assert_found("(descendant (kind rule))",
                          '*(note "n" *(bullets (item (heading 1 "")) (item (rule)))) (rule) *(terms (term ()) (term () (rule)))')
        self.assert_found("(descendant (any))", '(rule) *(para "a") (para) (note "n") *(note "n" (para))')
        self.assert_found("(descendant (descendant (kind text)))", '*(note "n" *(quote (para "a")) (para "b")) (para "c")')
        self.assert_found("(not (descendant (kind text)))", '(para *"a") *(rule) (note "n" (para *"a") *(quote *(rule)))')
        self.assert_found("(descendant (kind break))",
                          '*(table "" (caption) (align none) (row (cell *(emph (break))))) *(figure "" "" (break)) (para)')
        self.assert_found('(descendant (and (kind text) (text "a") (ancestor (kind emph))))',
                          '*(para "b" *(emph "a")) (para "a" (emph "b"))')

    def test_within_one_another(self):
        self.assert_found("(child (previous (kind rule)))", '*(note "a" (rule) (para)) (note "b" (para) (rule))')
        self.assert_found("(parent (next (kind code)))", '(para (emph *"b") (code "c") (sub "d"))')
        self.assert_found("(ancestor (level 2 2))", '(heading 1 "" "a") (heading 2 "" *"a" *(emph *"b"))')
        self.assert_found("(ancestor (child (kind code)))", '(para *"a" *(emph *"b") *(code "c")) (para "d")')
        self.assert_found("(previous (descendant (kind text)))", '(quote (para "a")) *(rule) (para (emph "b") *"c" (sub))')
        self.assert_found("(next (not (child (any))))", '*(quote (para "a")) (rule) (para *(emph "b") "c" (sub "d"))')
