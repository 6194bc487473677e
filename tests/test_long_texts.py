"""Texts that several actions of one step make longer than any memory."""

import random
import re
import resource
import unittest
from unittest import mock

from tests.helper import apply, is_stable, on_block, on_inline, trace
from treefiltersdesk import longtexts
from treefiltersdesk.texts import bytes_of, text_of


LIMITS = resource.getrlimit(resource.RLIMIT_AS)


def setUpModule():
    """Lets a text that is written out after all fail soon, not take all the memory there is."""
    most = 4 * 1024 ** 3
    resource.setrlimit(resource.RLIMIT_AS, (most if LIMITS[1] == resource.RLIM_INFINITY else min(most, LIMITS[1]), LIMITS[1]))


def tearDownModule():
    resource.setrlimit(resource.RLIMIT_AS, LIMITS)


def replacing(old, new):
    """An action `replace-text`."""
    return '(replace-text "' + old + '" "' + new + '")'


GROW = replacing("a", "a" * 12)
SHRINK = replacing("a" * 12, "a")
WIDEN = replacing(" ", " " * 12)


def notes(count, inner):
    """Blocks with so many notes around them."""
    return '(note "n" ' * count + inner + ")" * count


class WhatBecomesOfThem(unittest.TestCase):
    def test_what_stays_long(self):
        for tree in ['(para "a")', '(heading 1 "" "b" (emph "a"))', '(figure "" "" "a")', '(rule) (quote (para "xa"))']:
            self.assertEqual(apply("(blocks (any) " + GROW * 15 + ")", tree), -28, tree)
            self.assertEqual(apply("(inlines (any) " + GROW * 15 + ")", tree), -28, tree)
        self.assertEqual(apply("(inlines (any) " + GROW * 15 + ") (blocks (any) (remove))", '(para "a")'), -28)

    def test_what_is_shortened_again(self):
        for times in range(1, 9):
            self.assertEqual(on_block(GROW * times + SHRINK * times, '(para "a b (a) aa")'), '(para "a b (a) aa")')
            self.assertEqual(on_inline(GROW * times + SHRINK * (times - 1), '"a"'), '"' + "a" * 12 + '"')
        self.assertEqual(on_inline(GROW * 8 + SHRINK * 4, '"a"'), -28)

    def test_what_is_left_over(self):
        # 12 ** 7 is 7 * 5118829 + 5, and then 5118829 is odd.
        self.assertEqual(12 ** 7, 7 * 5118829 + 5)
        self.assertEqual(on_inline(GROW * 7 + replacing("a" * 7, "b") + replacing("bb", ""), '"a"'), '"b' + "a" * 5 + '"')
        self.assertEqual(on_inline(replacing("a", "ab") + GROW * 7 + replacing("a" * 7, "c") + replacing("cc", ""), '"aa"'),
                         '"caaaaabcaaaaab"')

    def test_the_longest_text_that_fits(self):
        grow = replacing("a", "a" * 10) * 5
        shrink = replacing("a" * 10, "a") * 4
        self.assertEqual(on_block(grow + shrink, '(para "' + "a" * 299 + 'b")'), '(para "' + "a" * 2990 + 'b")')
        self.assertEqual(on_block(grow + shrink, '(para "' + "a" * 299 + 'bb")'), -28)
        grow = replacing("a", "\u00e9" * 10) + replacing("\u00e9", "\u00e9" * 10) * 4
        shrink = replacing("\u00e9" * 10, "\u00e9") * 4
        self.assertEqual(on_block(grow + shrink, '(para "' + "a" * 149 + 'bbbbbbbbbbb")'), '(para "' + "\u00e9" * 1490 + 'bbbbbbbbbbb")')
        self.assertEqual(on_block(grow + shrink, '(para "' + "a" * 149 + 'bbbbbbbbbbbb")'), -28)

    def test_what_is_deleted(self):
        self.assertEqual(on_block(GROW * 15 + replacing("a", ""), '(para "a")'), "")
        self.assertEqual(on_block(GROW * 15 + replacing("a", ""), '(para "cab")'), '(para "cb")')
        self.assertEqual(on_inline(GROW * 15 + replacing("aa", ""), '"a" (emph "ba")'), '(emph "b")')

    def test_what_is_removed_or_replaced(self):
        self.assertEqual(on_block(GROW * 15 + "(remove)", '(para "a")'), "")
        self.assertEqual(on_block(GROW * 15 + "(replace (rule))", '(para "a")'), "(rule)")
        self.assertEqual(on_inline(GROW * 15 + '(replace "b")', '"a"'), '"b"')
        self.assertEqual(on_inline("(before (self)) " + GROW * 15 + "(remove)", '"a"'), '"a"')
        self.assertEqual(on_block("(after (self)) " + GROW * 14 + '(replace (note "n"))', '(para "a")'), '(note "n")\n(para "a")')
        self.assertEqual(on_inline(GROW * 14 + "(after (self)) (remove)", '"a"'), -28)

    def test_letters(self):
        self.assertEqual(on_inline(GROW * 7 + "(upper-case)" + replacing("A" * 12, "A") * 7, '"ab"'), '"AB"')
        self.assertEqual(on_inline(GROW * 7 + "(upper-case)" + GROW + "(lower-case)" + SHRINK * 7, '"Aa"'), '"aa"')
        self.assertEqual(on_inline(GROW * 7 + "(upper-case)" + SHRINK * 7, '"a"'), -28)
        # These are 2 ** 15 - 1 letters, and of each eight but the last seven ones one is left each time.
        self.assertEqual(on_inline(replacing("a", "aAa") * 14 + "(lower-case)" + replacing("a" * 8, "a") * 5, '"a"'), '"' + "a" * 7 + '"')

    def test_several_letters(self):
        # Each "ab" becomes six of them; all of them stand one after another.
        grow = replacing("ab", "ab" * 6)
        self.assertEqual(on_inline(grow * 9 + replacing("ab" * 6, "ab") * 9, '"xaby"'), '"xaby"')
        self.assertEqual(on_inline(grow * 9 + replacing("ba", "") + replacing("ab", ""), '"xaby"'), '"xy"')
        self.assertEqual(on_inline(grow * 9 + replacing("ba", "c") + replacing("cc", "c") * 3 + replacing("c", ""), '"ab"'), '"ab"')
        # The text becomes its Fibonacci word and goes back again.
        there = replacing("b", "c") + replacing("a", "ab") + replacing("c", "a")
        back = replacing("ab", "c") + replacing("a", "b") + replacing("c", "a")
        self.assertEqual(on_inline(there * 4 + back * 4, '"a"'), '"a"')
        self.assertEqual(apply("(blocks (any) " + there * 4 + back * 4 + ")", notes(9, '(para "a")')), notes(9, '(para "a")'))


class WhiteSpace(unittest.TestCase):
    def test_gaps(self):
        self.assertEqual(on_block(WIDEN * 15, '(para "a a")'), '(para "a a")')
        self.assertEqual(on_block(WIDEN * 15, '(para "a b" (emph "c d") " " (break) "e")'), '(para "a b" (emph "c d") (break) "e")')
        self.assertEqual(on_inline("(before \" \")" + WIDEN * 15 + '(after " ")', '"a b"'), '"a b"')

    def test_gaps_at_the_ends(self):
        self.assertEqual(on_block(replacing("x", " ") + WIDEN * 14, '(para "xaxxbx")'), '(para "a b")')
        self.assertEqual(on_block(replacing("x", " ") + WIDEN * 14, '(para "xx")'), "")
        self.assertEqual(on_block(replacing("x", " ") + WIDEN * 14, '(para "a" (emph "x") "b")'), '(para "a b")')
        self.assertEqual(on_block(replacing("x", " ") + WIDEN * 14, '(para "a" (emph "xb"))'), '(para "a " (emph "b"))')

    def test_white_space_of_each_kind(self):
        for sign in ["\\t", "\\n", "\\u{d}", "\\n \\t"]:
            grow = replacing("a", "a" + sign) + replacing(sign, sign * 9) * 9
            self.assertEqual(on_inline(grow, '"ab"'), '"a b"', sign)
        grow = replacing(" ", " \\t\\n\\u{d}") + replacing("\\t", " \\t\\t ") * 12
        self.assertEqual(on_inline(grow, '"a b"'), '"a b"')
        self.assertEqual(on_inline(replacing("a", "a" * 12 + "\u2003") * 12, '"a"'), -28)

    def test_words(self):
        grow = replacing("a", "a a a a a a")
        self.assertEqual(on_inline(grow * 10, '"a"'), -28)
        self.assertEqual(on_inline(grow * 10 + replacing("a", ""), '"ba"'), '"b"')
        self.assertEqual(on_inline(grow * 10 + replacing("a ", "") + WIDEN * 3, '"b a c"'), '"b c"')
        self.assertEqual(on_inline(grow * 10 + replacing("a ", "") + replacing("a", " "), '"bac"'), '"b c"')

    def test_words_and_gaps_that_just_fit(self):
        # All the gaps are more than 10 ** 7 spaces, each gap one space in the end.
        program = "(inlines (any) " + replacing("b", "aaaaaa") + ") (inlines (any) " + replacing("a", " a") + WIDEN * 4 + ")"
        self.assertEqual(apply(program, '(para "' + "b" * 249 + 'aa")'), '(para "' + " ".join("a" * 1496) + '")')
        self.assertEqual(apply(program, '(para "' + "b" * 249 + 'aaa")'), -28)

    def test_the_step_after(self):
        program = "(blocks (any) " + WIDEN * 15 + ') (inlines (text "a b") (upper-case)) (blocks (empty) (remove))'
        self.assertEqual(apply(program, '(rule) (para "a b")'), '(para "A B")')


class InTemplates(unittest.TestCase):
    def test_as_the_content_of_code(self):
        self.assertEqual(on_inline(GROW * 15 + "(replace (code (self)))", '"a"'), -28)
        self.assertEqual(on_inline(GROW * 5 + "(replace (code (self)))" + SHRINK * 5, '"a"'), -28)
        self.assertEqual(on_inline(GROW * 5 + SHRINK * 5 + "(replace (code (self)))", '"a"'), '(code "a")')
        self.assertEqual(on_block(WIDEN * 5 + '(replace (code "" (content)))', '(para "a b")'), -28)
        self.assertEqual(on_block(WIDEN * 5 + '(replace (code "" (content))) (replace (rule))', '(para "a b")'), "(rule)")
        self.assertEqual(on_inline(WIDEN * 5 + "(replace (code (self)))", '"a b"'), -28)

    def test_code_of_signs_with_several_bytes(self):
        grow = replacing("a", "\u20ac" * 10) + replacing("\u20ac", "\u20ac" * 10) * 2
        self.assertEqual(on_block(grow + replacing("\u20ac" * 10, "\u20ac") + '(replace (code "" (content)))', '(para "' + "a" * 9 + '")'),
                         '(code "" "' + "\u20ac" * 900 + '")')
        self.assertEqual(on_block(grow + '(replace (code "" (content)))', '(para "' + "a" * 9 + '")'), -28)

    def test_as_a_label(self):
        for template in ["(ref (self))", "(noteref (self))", "(cite (self))", "(span (class (self)))", "(ref (self)) (emph)"]:
            self.assertEqual(on_inline(GROW * 14 + "(replace " + template + ")", '"a"'), -33, template)
        for template in ["(note (content))", '(figure (content) "")', '(heading 1 (content))', '(formula (content) "")', "(group (class (content)))"]:
            self.assertEqual(on_block(GROW * 14 + "(replace " + template + ")", '(para "a")'), -33, template)
        self.assertEqual(on_inline(GROW * 6 + SHRINK * 6 + "(replace (ref (self)))", '"a"'), '(ref "a")')

    def test_as_a_target(self):
        self.assertEqual(on_inline(GROW * 14 + '(replace (link (self) "b"))', '"a"'), -28)
        self.assertEqual(on_inline(GROW * 14 + "(replace (image (self)))", '"a"'), -28)
        self.assertEqual(on_block(GROW * 14 + '(replace (figure "" (content)))', '(para "a")'), -28)
        self.assertEqual(on_inline(GROW * 13 + '(replace (image (self))) (set-target "u")', '"a"'), '(image "u")')
        self.assertEqual(on_block(GROW * 13 + '(replace (figure "" (content))) (set-target "u")', '(para "a")'), '(figure "" "u")')

    def test_links_that_are_left_out(self):
        # A link without children vanishes, and a link in a link doesn't count.
        self.assertEqual(on_inline(GROW * 14 + '(replace (link (self)) "b")', '"a"'), '"b"')
        self.assertEqual(on_inline(GROW * 14 + '(replace (link "u" (link (self) "b")))', '"a"'), '(link "u" "b")')
        self.assertEqual(on_inline(GROW * 14 + '(replace (link (self)) (link (self) "b"))', '"a"'), -28)

    def test_templates_are_filled_ahead_of_the_bounds(self):
        self.assertEqual(on_block(GROW * 14 + "(replace (x))", '(para "a")'), -33)
        self.assertEqual(apply("(blocks (any) " + GROW * 10 + ") (blocks (any) (replace (x)))", '(para "a")'), -28)
        self.assertEqual(apply("(blocks (any) " + GROW * 14 + "(after (item (self))))", '(para "a") (rule)'), -33)

    def test_many_copies(self):
        self.assertEqual(on_block(GROW * 8 + "(replace" + "(self)" * 20 + ")" + SHRINK * 4, '(para "a")'), -28)
        self.assertEqual(on_block(GROW * 6 + "(replace" + "(self)" * 20 + ")" + SHRINK * 6, '(para "a")'), "\n".join(['(para "a")'] * 20))
        self.assertEqual(on_block(GROW * 8 + "(replace" + "(self)" * 20 + ") (remove)", '(para "a")'), "")
        program = "(blocks (any) (replace (self) (self)) " + replacing("a", "aa") + ")"
        self.assertEqual(apply(program, notes(14, '(para "a")')), -28)
        program = "(inlines (any) (replace (self) (self)) " + replacing("a", "aa") + ")"
        self.assertEqual(apply(program, "(para " + '(span (class "x") ' * 13 + '"a"' + ")" * 14), -28)


class AroundOneAnother(unittest.TestCase):
    """The items around a text change it, too: with 14 notes it goes through 15 times the actions."""

    def test_what_stays_long(self):
        self.assertEqual(apply("(blocks (any) " + GROW * 16 + ")", notes(14, '(para "a")')), -28)
        self.assertEqual(apply("(inlines (any) " + GROW * 10 + ")", "(para " + '(span (class "x") ' * 14 + '"a"' + ")" * 15), -28)

    def test_what_is_removed(self):
        self.assertEqual(apply("(blocks (any) " + GROW * 16 + "(remove))", notes(14, '(para "a")')), "")
        self.assertEqual(apply("(blocks (any) " + GROW * 15 + "(replace (rule)))", notes(14, '(para "a")')), "(rule)")

    def test_what_is_shortened_again(self):
        tree = notes(14, '(para "a b")')
        self.assertEqual(apply("(blocks (any) " + GROW * 8 + SHRINK * 8 + ")", tree), tree)
        self.assertEqual(apply("(blocks (any) " + WIDEN * 16 + ")", tree), tree)
        program = "(blocks (any) " + GROW * 8 + "(replace (content)))"
        self.assertEqual(apply(program, notes(14, "(rule)")), "")

    def test_each_selected_item_counts(self):
        self.assertEqual(apply("(blocks (any) " + GROW + ")", notes(2, '(para "a")')), notes(2, '(para "' + "a" * 12 ** 3 + '")'))
        self.assertEqual(apply("(blocks (any) " + GROW + ")", notes(3, '(para "a")')), -28)
        self.assertEqual(apply("(blocks (not (kind note)) " + GROW + ")", notes(14, '(para "a")')), notes(14, '(para "' + "a" * 12 + '")'))


class OtherOperations(unittest.TestCase):
    def test_trace(self):
        self.assertEqual(trace("(blocks (any) " + WIDEN * 15 + ") (inlines (any) (upper-case))", '(para "a a")'), [1, 1])
        self.assertEqual(trace("(blocks (any) " + GROW * 15 + "(remove)) (blocks (any))", '(para "a")'), [1, 0])
        self.assertEqual(trace("(blocks (any)) (blocks (any) " + GROW * 15 + ")", '(para "a")'), -28)

    def test_is_stable(self):
        self.assertEqual(is_stable("(blocks (any) " + WIDEN * 15 + ")", '(para "a a")'), 1)
        self.assertEqual(is_stable("(blocks (any) " + GROW * 7 + SHRINK * 7 + replacing("b", "c") + ")", '(para "ab")'), 1)
        self.assertEqual(is_stable("(blocks (any) " + GROW * 7 + SHRINK * 7 + replacing("b", "bb") + ")", '(para "ab")'), 0)
        self.assertEqual(is_stable("(blocks (any) " + GROW * 15 + ")", '(para "a")'), -28)
        self.assertEqual(is_stable("(blocks (any) " + GROW * 13 + ") (blocks (kind rule) (replace (para \"a\")))", "(rule)"), -28)

    def test_in_repeat(self):
        self.assertEqual(trace("(repeat 50 (blocks (any) " + WIDEN * 15 + "))", '(para "a a")'), [1])
        program = "(repeat 3 (inlines (any) " + GROW * 7 + SHRINK * 6 + "))"
        self.assertEqual(apply(program, '(para "a")'), '(para "' + "a" * 12 ** 3 + '")')


def written(text):
    """All signs of a text, however it is kept."""
    if isinstance(text, str):
        return text
    return "".join(written(piece) for piece in text.pieces) * text.times


def changed(text, changes):
    """A text after changes, each two texts for a replacement or the name of a letter case."""
    for change in changes:
        if change == "upper":
            text = longtexts.in_upper_case(text)
        elif change == "lower":
            text = longtexts.in_lower_case(text)
        else:
            text = longtexts.replaced(text, *change)
    return text


class Changes(unittest.TestCase):
    """Long texts compared with Python's own, with bounds that make nearly each text a long one."""

    UNITS = ["a", "ab", "ab ", "aA b\n", ["a", "b", "\u00e9", "\u20ac", "\r", " "]]

    def some_text(self, chance, units, least, most):
        """A text of some of these units."""
        pieces = [chance.choice(units) for number in range(chance.randint(least, most))]
        return text_of(list("".join(pieces).encode()))

    def some_changes(self, chance, units):
        """Some changes."""
        changes = []
        for number in range(chance.randint(1, 12)):
            kind = chance.choice(["replace"] * 8 + ["upper", "lower"])
            if kind == "replace":
                changes.append((self.some_text(chance, units, 1, 4), self.some_text(chance, units, 0, chance.choice([1, 3, 6]))))
            else:
                changes.append(kind)
        return changes

    def compare(self, text, changes):
        """Compares both after each change, as long as Python's own isn't all too long."""
        plain = text
        for change in changes:
            plain = getattr(plain, change)() if isinstance(change, str) else plain.replace(*change)
            if len(plain) > 5000:
                return
            text = changed(text, [change])
            self.assertEqual(written(text), plain, changes)
            self.assertEqual(longtexts.number_of_signs(text), len(plain))
            self.assertEqual(longtexts.plain_if_short(text), text)
            if not isinstance(text, str):
                spaced = re.sub(rb"[ \n\t\r]+", b" ", bytes(bytes_of(plain)))
                self.assertEqual(bytes(bytes_of(written(longtexts.with_short_gaps(text)))), spaced, changes)

    def test_random_changes(self):
        chance = random.Random(6)
        for longest_plain in [0, 10, 100]:
            for longest_piece in [0, 1, 3, 20]:
                with mock.patch.multiple(longtexts, LONGEST_PLAIN=longest_plain, LONGEST_PIECE=longest_piece):
                    for number in range(100):
                        units = chance.choice(self.UNITS)
                        self.compare(self.some_text(chance, units, 0, 12), self.some_changes(chance, units))

    def test_many_repetitions(self):
        # What is 10 ** 60 signs long can't be written out, but its length is known.
        text = changed("a", [("a", "a" * 10)] * 60)
        self.assertEqual(text.length, 10 ** 60)
        self.assertEqual(changed(text, [("a" * 10, "a")] * 57), "a" * 1000)
        self.assertEqual(changed(text, [("aaa", "b")]).length, (10 ** 60 - 1) // 3 + 1)
        self.assertEqual(changed(text, [("aaa", "b"), ("b", "")]), "a")
        self.assertEqual(changed(text, [("a" * 7, "b"), ("b", "")]), "a" * (10 ** 60 % 7))
        self.assertEqual(changed(text, ["upper", ("a", ""), ("A" * 10, "A")] * 1 + [("A" * 10, "A")] * 57), "A" * 100)
        text = changed("a", [("a", "ab")] * 3 + [("a", "a" * 10), ("b", "b" * 10)] * 30)
        self.assertEqual(text.length, 4 * 10 ** 30)
        self.assertEqual(changed(text, [("a" * 10, "a"), ("b" * 10, "b")] * 30), "abbb")
        self.assertEqual(changed(text, [("aab", "aac"), ("a", "")]).length, 3 * 10 ** 30)

    def test_little_room_for_much_text(self):
        """The pieces stay few: what is alike is kept once."""
        for changes in [[("a", "a" * 12)] * 200, [("ab", "ab" * 6)] * 200, [("a", "aab")] * 200, [("a", "x"), ("b", "a"), ("x", "ab")] * 100,
                        [("a", "a" * 12)] * 100 + [("aaaaa", "b"), ("bbb", "c"), ("ccccccc", "d"), ("dd", "a")] * 9,
                        [("a", "abcbabcba"), ("c", "bab"), ("bb", "cab")] * 40]:
            text = changed("ab", changes)
            known = {}
            left = [text]
            while left:
                piece = left.pop()
                if not isinstance(piece, str) and piece not in known:
                    known[piece] = True
                    left.extend(piece.pieces)
            self.assertLess(len(known), 1000)
            self.assertLess(sum(len(piece.pieces) for piece in known), 30000)
            self.assertGreater(text.length, 10 ** 20)
