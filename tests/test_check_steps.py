"""check: the errors of kind 7 to 9, and their order."""

import unittest

from tests.helper import check

SELECTORS = [
    "(any)", "(kind para)", "(level 1 6)", '(label "a")', '(label "")', '(class "a")', '(target "")', '(target "a b")',
    '(text "")', '(text "a b")', "(empty)", "(first)", "(last)", "(index 0)", "(index 999999)", "(and)", "(or)",
    "(and (any))", "(or (any) (first) (last))", "(not (any))", "(parent (any))", "(ancestor (any))", "(child (any))",
    "(descendant (any))", "(next (any))", "(previous (any))"]

ACTIONS = [
    "(remove)", "(unwrap)", "(replace)", "(replace (self) (content))", "(before)", "(before (rule))", "(after)",
    "(after (rule))", "(set-level 1)", "(set-level 6)", "(raise)", "(lower)", '(set-label "")', '(set-label "a")',
    '(add-class "a")', '(remove-class "a")', '(set-target "")', '(set-target "a b")', '(replace-text "a" "")',
    '(replace-text " " "b")', "(upper-case)", "(lower-case)"]

KINDS = ("para heading code formula rule quote bullets numbers terms table figure group note "
         "text math break noteref ref cite emph strong strike super sub caps link image span").split()

NOT_LABELS = ["a b", "\u00e9", "a/b", "a\\n", "a" * 41, "(", "\\u{0}", "a,b", "~", "a~", "{|}^", "\u212a"]
LABELS = ["a" * 40, "Az-_.:09", "0", "-", "_", ".", ":"]


def selecting(selector):
    """A program with a selector, and where it stands."""
    return "(blocks " + selector + ")", 8


def acting(action):
    """A program with an action, and where it stands."""
    return "(inlines (any) " + action + ")", 15


class Allowed(unittest.TestCase):
    def test_steps(self):
        for step in ["(blocks (any))", "(inlines (any))", "(repeat 1)", "(repeat 50)", "(when (any))",
                     "(blocks (any) (remove) (remove))", "(repeat 2 (when (any) (repeat 3 (inlines (any)))))",
                     "(when (any) (blocks (any)) (inlines (any)))"]:
            self.assertEqual(check(step), [0, 1], step)

    def test_selectors_and_actions(self):
        for selector in SELECTORS:
            self.assertEqual(check(selecting(selector)[0]), [0, 1], selector)
            self.assertEqual(check("(inlines " + selector + ")"), [0, 1], selector)
            self.assertEqual(check("(when (not " + selector + "))"), [0, 1], selector)
        for action in ACTIONS:
            self.assertEqual(check(acting(action)[0]), [0, 1], action)
            self.assertEqual(check("(blocks (any) " + action + ")"), [0, 1], action)

    def test_kinds(self):
        for kind in KINDS:
            self.assertEqual(check("(blocks (kind " + kind + "))"), [0, 1], kind)


class Kind7(unittest.TestCase):
    def test_no_step(self):
        for text in ["(x)", "()", "((blocks (any)))", '"a"', "1", "blocks", "(any)", "(remove)", '("blocks" (any))',
                     "(1)", "(block (any))", "(content)", "(self)", "(item)"]:
            self.assertEqual(check(text), [7, 0], text)
            self.assertEqual(check("(when (any)) " + text), [7, 13], text)
            self.assertEqual(check("(repeat 2 " + text + ")"), [7, 10], text)
            self.assertEqual(check("(when (any) (repeat 3)" + text + ")"), [7, 22], text)

    def test_no_selector(self):
        for text in ["(x)", "()", "((any))", '"a"', "1", "any", "(blocks (any))", "(remove)", '("any")', "(repeat 1)"]:
            for head in ["(blocks ", "(inlines ", "(when ", "(blocks (not ", "(when (and (any) ", "(blocks (or ",
                         "(blocks (parent ", "(blocks (ancestor ", "(blocks (child ", "(blocks (descendant ",
                         "(blocks (next ", "(blocks (previous "]:
                program = head + text + ")" * head.count("(")
                program = program if head != "(when (and (any) " else head + text + "))"
                self.assertEqual(check(program), [7, len(head)], program)

    def test_no_action(self):
        for text in ["(x)", "()", "((remove))", '"a"', "1", "remove", "(any)", "(blocks (any))", '("remove")', "(self)"]:
            self.assertEqual(check(acting(text)[0]), [7, 15], text)
            self.assertEqual(check("(blocks (any) (remove) " + text + ")"), [7, 23], text)


class Kind8(unittest.TestCase):
    def test_step_without_arguments(self):
        for step in ["(blocks)", "(inlines)", "(repeat)", "(when)"]:
            self.assertEqual(check(step), [8, 0], step)
            self.assertEqual(check("(repeat 1 " + step + ")"), [8, 10], step)

    def test_number_of_arguments_of_selectors(self):
        for selector in ["(any (any))", "(any 1)", "(kind)", "(kind para para)", "(level)", "(level 1)", "(level 1 2 3)",
                         "(label)", '(label "a" "b")', "(class)", '(class "a" "b")', "(target)", '(target "a" "b")',
                         "(text)", '(text "a" "b")', "(empty 1)", "(first 1)", "(last 1)", "(index)", "(index 1 2)",
                         "(not)", "(not (any) (any))", "(parent)", "(parent (any) (any))", "(ancestor)",
                         "(ancestor (any) (any))", "(child)", "(child (any) (any))", "(descendant)",
                         "(descendant (any) (any))", "(next)", "(next (any) (any))", "(previous)",
                         "(previous (any) (any))"]:
            self.assertEqual(check(selecting(selector)[0]), [8, 8], selector)

    def test_number_of_arguments_of_actions(self):
        for action in ["(remove 1)", "(unwrap 1)", "(set-level)", "(set-level 1 2)", "(raise 1)", "(lower 1)",
                       "(set-label)", '(set-label "a" "b")', "(add-class)", '(add-class "a" "b")', "(remove-class)",
                       '(remove-class "a" "b")', "(set-target)", '(set-target "a" "b")', "(replace-text)",
                       '(replace-text "a")', '(replace-text "a" "b" "c")', "(upper-case 1)", "(lower-case 1)"]:
            self.assertEqual(check(acting(action)[0]), [8, 15], action)

    def test_kind_without_a_symbol(self):
        for argument in ['"para"', "1", "(para)", "()"]:
            self.assertEqual(check("(blocks (kind " + argument + "))"), [8, 8], argument)

    def test_no_integer(self):
        for argument in ['"1"', "a", "(1)", "()"]:
            self.assertEqual(check("(repeat " + argument + ")"), [8, 8], argument)
            self.assertEqual(check("(blocks (level " + argument + " 2))"), [8, 15], argument)
            self.assertEqual(check("(blocks (level 1 " + argument + "))"), [8, 17], argument)
            self.assertEqual(check("(blocks (index " + argument + "))"), [8, 15], argument)
            self.assertEqual(check("(blocks (any) (set-level " + argument + "))"), [8, 25], argument)

    def test_no_string(self):
        for argument in ["1", "a", '("a")', "()"]:
            for name in ["label", "class", "target", "text"]:
                head = "(blocks (" + name + " "
                self.assertEqual(check(head + argument + "))"), [8, len(head)], argument)
            for name in ["set-label", "add-class", "remove-class", "set-target"]:
                head = "(blocks (any) (" + name + " "
                self.assertEqual(check(head + argument + "))"), [8, len(head)], argument)
            self.assertEqual(check("(blocks (any) (replace-text " + argument + ' "b"))'), [8, 28], argument)
            self.assertEqual(check('(blocks (any) (replace-text "a" ' + argument + "))"), [8, 32], argument)


class Kind9(unittest.TestCase):
    def test_ranges(self):
        for number in ["0", "51", "999999"]:
            self.assertEqual(check("(repeat " + number + ")"), [9, 8], number)
        for number in ["0", "7", "999999"]:
            self.assertEqual(check("(blocks (level " + number + " 2))"), [9, 15], number)
            self.assertEqual(check("(blocks (level 1 " + number + "))"), [9, 17], number)
            self.assertEqual(check("(blocks (any) (set-level " + number + "))"), [9, 25], number)
        for number in "123456":
            self.assertEqual(check("(blocks (level " + number + " 1) (set-level " + number + "))"), [0, 1], number)
            self.assertEqual(check("(blocks (level 1 " + number + "))"), [0, 1], number)

    def test_unknown_kinds(self):
        for kind in ["x", "block", "item", "term", "row", "cell", "class", "paragraph", "caption", "any", "a-b"]:
            self.assertEqual(check("(blocks (kind " + kind + "))"), [9, 14], kind)

    def test_labels(self):
        for name in ["(label ", "(class "]:
            for text in NOT_LABELS:
                self.assertEqual(check("(blocks " + name + '"' + text + '"))'), [9, 15], text)
            for text in LABELS:
                self.assertEqual(check("(blocks " + name + '"' + text + '"))'), [0, 1], text)
        for name in ["(set-label ", "(add-class ", "(remove-class "]:
            for text in NOT_LABELS:
                head = "(blocks (any) " + name
                self.assertEqual(check(head + '"' + text + '"))'), [9, len(head)], text)
            for text in LABELS:
                self.assertEqual(check("(blocks (any) " + name + '"' + text + '"))'), [0, 1], text)

    def test_empty_strings(self):
        self.assertEqual(check('(blocks (class ""))'), [9, 15])
        self.assertEqual(check('(blocks (any) (add-class ""))'), [9, 25])
        self.assertEqual(check('(blocks (any) (remove-class ""))'), [9, 28])
        self.assertEqual(check('(blocks (any) (replace-text "" "b"))'), [9, 28])


class Order(unittest.TestCase):
    def test_from_left_to_right(self):
        self.assertEqual(check("(repeat 0) (x)"), [9, 8])
        self.assertEqual(check("(x) (repeat 0)"), [7, 0])
        self.assertEqual(check("(blocks (kind x) (x))"), [9, 14])
        self.assertEqual(check("(blocks (any) (raise 1) (x))"), [8, 14])
        self.assertEqual(check("(when (x) (y))"), [7, 6])
        self.assertEqual(check("(repeat 1 (blocks (any)) (blocks (level 0 1)) (x))"), [9, 40])
        self.assertEqual(check("(blocks (or (not (index a)) (x)))"), [8, 24])

    def test_from_the_outside_to_the_inside(self):
        self.assertEqual(check("(blocks (not (x) (y)))"), [8, 8])
        self.assertEqual(check("(blocks (level 0))"), [8, 8])
        self.assertEqual(check('(blocks (any) (replace-text ""))'), [8, 14])
        self.assertEqual(check("(x (y (z)))"), [7, 0])

    def test_each_argument_completely(self):
        self.assertEqual(check('(blocks (level 0 "a"))'), [9, 15])
        self.assertEqual(check('(blocks (level "a" 0))'), [8, 15])
        self.assertEqual(check('(blocks (any) (replace-text "" 1))'), [9, 28])
        self.assertEqual(check('(blocks (any) (replace-text 1 ""))'), [8, 28])
        self.assertEqual(check("(repeat 0 (x))"), [9, 8])

    def test_templates_are_not_checked(self):
        for name in ["replace", "before", "after"]:
            for template in ["x", "1", '"a"', "()", "(x)", "(para (x 0))", "(heading 9)", "(self 1)", "(blocks)"]:
                self.assertEqual(check("(blocks (any) (" + name + " " + template + "))"), [0, 1], template)
                self.assertEqual(check("(inlines (any) (" + name + " " + template * 2 + ") (x))")[0], 7, template)
