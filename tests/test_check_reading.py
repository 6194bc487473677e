"""check: the number of steps, and the errors of kind 1 to 6."""

import unittest

from tests.helper import apply, check

STEP = "(blocks (any))"


def in_string(data):
    """A program with bytes in a string, and where the first of them stands."""
    head = b'(blocks (text "'
    return list(head + data), len(head)


class Steps(unittest.TestCase):
    def test_number_of_outermost_steps(self):
        self.assertEqual(check(""), [0, 0])
        self.assertEqual(check(" \t\r\n"), [0, 0])
        self.assertEqual(check(STEP), [0, 1])
        self.assertEqual(check(STEP * 3), [0, 3])
        self.assertEqual(check("(repeat 2 " + STEP * 3 + ")(when (any) " + STEP + ")"), [0, 2])

    def test_white_space_and_comments(self):
        self.assertEqual(check(" \t(\r\nblocks\n(\tany ) ) "), [0, 1])
        self.assertEqual(check("; a ( comment \" \\\n(blocks;x\n(any;y\n);z\n)"), [0, 1])
        self.assertEqual(check("(blocks (any)) ; to the end"), [0, 1])
        self.assertEqual(check(b";\xff\x80\xc3\x00\x01\n(blocks (any));\xe2"), [0, 1])
        self.assertEqual(check(";"), [0, 0])
        # A carriage return doesn't end a comment.
        self.assertEqual(check(";\r)\n"), [0, 0])

    def test_without_white_space(self):
        self.assertEqual(check('(blocks(text"a")(replace-text"a""b")(set-level 1)(remove))' + STEP), [0, 2])
        self.assertEqual(check("(repeat 2(blocks(index 3)))"), [0, 1])
        self.assertEqual(check('(blocks(any)(replace"a"x"b"1(x)2"c"))'), [0, 1])
        # A number ends where no digit follows, a symbol where no sign of a symbol follows.
        self.assertEqual(check("(blocks (level 1a))"), [8, 16])
        self.assertEqual(check("(blocks (level 1 2a))"), [8, 8])
        self.assertEqual(check('(blocks (kind a1"b"))'), [8, 8])


class Kind1(unittest.TestCase):
    def test_list_without_end(self):
        for text in ["(", "(blocks", "(blocks ", "(blocks (any)", "(1", "(blocks ; (any))", "((", '("a"']:
            self.assertEqual(check(text), [1, len(text)], text)

    def test_string_without_end(self):
        for text in ['"', '"a', '("a', '"a b(', '"\\"', '"\\n', '"\\u{41}', '(blocks (text "))']:
            self.assertEqual(check(text), [1, len(text)], text)

    def test_backslash_at_the_end(self):
        self.assertEqual(check('"ab\\'), [1, 4])
        self.assertEqual(check('"\\\\\\'), [1, 4])

    def test_position_counts_bytes(self):
        self.assertEqual(check('("\u20ac'), [1, 5])


class Kind2(unittest.TestCase):
    def test_unexpected_bytes(self):
        self.assertEqual(check(")"), [2, 0])
        self.assertEqual(check(STEP + " )"), [2, 15])
        self.assertEqual(check("())"), [2, 2])
        for byte in list(b"A_-+.:'#*/\\{}[]<>@`~^%$&,!?|=") + [0, 1, 8, 11, 12, 14, 31, 127, 128, 195, 255]:
            self.assertEqual(check([byte]), [2, 0], byte)
            self.assertEqual(check(list(b"(a ") + [byte]), [2, 3], byte)

    def test_after_a_symbol_or_an_integer(self):
        self.assertEqual(check("(aB)"), [2, 2])
        self.assertEqual(check("(a_b)"), [2, 2])
        self.assertEqual(check("(1-2)"), [2, 2])
        self.assertEqual(check("(-1)"), [2, 1])
        self.assertEqual(check("(1.5)"), [2, 2])
        self.assertEqual(check("(a-1-z9 B)"), [2, 8])

    def test_first_and_last_signs_that_are_allowed(self):
        self.assertEqual(check("(blocks (any) (replace a z a09z- 0 9 z0))"), [0, 1])

    def test_control_characters_in_a_string(self):
        for byte in range(32):
            program, place = in_string(b"a" + bytes([byte]))
            self.assertEqual(check(program), [2, place + 1], byte)
        for byte in (32, 127):
            self.assertEqual(check(b'(blocks (text "' + bytes([byte]) + b'"))'), [0, 1], byte)


class Kind3(unittest.TestCase):
    def assert_wrong_escape(self, data):
        program, place = in_string(b"a" + data)
        self.assertEqual(check(program), [3, place + 1], data)
        if data[-1:] != b'"':
            self.assertEqual(check(program + list(b'"))')), [3, place + 1], data)

    def test_unknown_escapes(self):
        for letter in b"abcdefghijklmopqrsvwxyzNTU0/'(){} ;\n\t\x00\x7f\x80\xc3\xff":
            self.assert_wrong_escape(b"\\" + bytes([letter]))

    def test_incomplete_escapes(self):
        for escape in [b"\\u", b"\\u{", b"\\u{a", b"\\u{10ffff", b"\\u{}", b"\\u}", b"\\u41", b"\\u41}", b"\\ua}",
                       b"\\u {41}", b"\\u{ 41}", b"\\u{41 }", b"\\u{41\"", b"\\u{41)", b"\\u(41}", b"\\u{"]:
            self.assert_wrong_escape(escape)

    def test_wrong_digits(self):
        for escape in [b"\\u{g}", b"\\u{A}", b"\\u{4F}", b"\\u{0000041}", b"\\u{1234567}", b"\\u{-1}", b"\\u{:}",
                       b"\\u{/}", b"\\u{`}", b"\\u{0x41}"]:
            self.assert_wrong_escape(escape)

    def test_what_is_no_code_point(self):
        for escape in [b"\\u{d800}", b"\\u{dabc}", b"\\u{00dfff}", b"\\u{dfff}", b"\\u{110000}", b"\\u{ffffff}"]:
            self.assert_wrong_escape(escape)

    def test_escapes_that_are_allowed(self):
        for escape in ["\\\"", "\\\\", "\\n", "\\t", "\\u{0}", "\\u{000000}", "\\u{d7ff}", "\\u{e000}", "\\u{ffff}",
                       "\\u{10ffff}", "\\u{00000a}", "\\u{abcde}", "\\u{9}", "\\u{f}"]:
            self.assertEqual(check('(blocks (text "' + escape + '"))'), [0, 1], escape)


class Kind4(unittest.TestCase):
    def assert_wrong_sequence(self, data):
        program, place = in_string(b"a\xc3\xa9" + data)
        self.assertEqual(check(program), [4, place + 3], data)
        self.assertEqual(check(program + list(b'"))')), [4, place + 3], data)

    def test_sequences_that_are_none(self):
        for data in [b"\x80", b"\xbf", b"\xf5\x80\x80\x80", b"\xf8\x88\x80\x80\x80", b"\xfe", b"\xff"]:
            self.assert_wrong_sequence(data)

    def test_overlong_forms(self):
        for data in [b"\xc0\x80", b"\xc1\xbf", b"\xe0\x80\x80", b"\xe0\x9f\xbf", b"\xf0\x80\x80\x80", b"\xf0\x8f\xbf\xbf"]:
            self.assert_wrong_sequence(data)

    def test_surrogates_and_numbers_beyond_the_last(self):
        for data in [b"\xed\xa0\x80", b"\xed\xbf\xbf", b"\xf4\x90\x80\x80", b"\xf4\xbf\xbf\xbf"]:
            self.assert_wrong_sequence(data)

    def test_wrong_or_missing_bytes(self):
        for data in [b"\xc2", b"\xc2a", b"\xc2\xc2\x80", b"\xe2\x82", b"\xe2\x82a", b"\xe2a\x82", b"\xe2\x82\xc0",
                     b"\xf0\x9f\x98", b"\xf0\x9f\x98a", b"\xf0\x9fa\x80", b"\xf0\x9f\x98\xc0", b"\xdf\x7f", b"\xdf\xc0"]:
            self.assert_wrong_sequence(data)

    def test_cut_off_by_the_end(self):
        for data in [b"\xc2", b"\xe2", b"\xe2\x82", b"\xf0", b"\xf0\x9f", b"\xf0\x9f\x98"]:
            self.assertEqual(check(b'"' + data), [4, 1], data)

    def test_sequences_that_are_allowed(self):
        for data in [b"\xc2\x80", b"\xdf\xbf", b"\xe0\xa0\x80", b"\xe1\x80\x80", b"\xec\xbf\xbf", b"\xed\x80\x80",
                     b"\xed\x9f\xbf", b"\xee\x80\x80", b"\xef\xbf\xbf", b"\xf0\x90\x80\x80", b"\xf1\x80\x80\x80",
                     b"\xf3\xbf\xbf\xbf", b"\xf4\x80\x80\x80", b"\xf4\x8f\xbf\xbf"]:
            self.assertEqual(check(b'(blocks (text "' + data + b'"))'), [0, 1], data)
            self.assertEqual(apply("", b'(para "' + data + b'")'), '(para "' + data.decode() + '")')


class Kind5(unittest.TestCase):
    def test_too_many_digits(self):
        self.assertEqual(check("(a 1234567)"), [5, 3])
        self.assertEqual(check("(a 1000000"), [5, 3])
        self.assertEqual(check("1" * 600), [5, 0])

    def test_leading_zeros(self):
        for text in ["00", "01", "000000", "0000001", "09"]:
            self.assertEqual(check("(a " + text + ")"), [5, 3], text)

    def test_integers_that_are_allowed(self):
        self.assertEqual(check("(blocks (index 0))(blocks (index 999999))(blocks (index 100000))"), [0, 3])


class Kind6(unittest.TestCase):
    def test_seventeenth_list(self):
        self.assertEqual(check("(" * 17), [6, 16])
        self.assertEqual(check("(" * 17 + ")" * 17), [6, 16])
        self.assertEqual(check("(repeat 1 " * 16 + "("), [6, 160])
        self.assertEqual(check("(when (any) " * 16), [6, 15 * 12 + 6])
        self.assertEqual(check("(blocks " + "(not " * 15 + "(any)" + ")" * 16), [6, 8 + 15 * 5])

    def test_sixteenth_list(self):
        self.assertEqual(check("(blocks " + "(not " * 14 + "(any)" + ")" * 15), [0, 1])
        self.assertEqual(check("(repeat 1 " * 16 + ")" * 16), [0, 1])
        self.assertEqual(check("(" * 16), [1, 16])

    def test_lists_side_by_side_do_not_count(self):
        self.assertEqual(check("(repeat 1 " * 15 + "(repeat 1)(repeat 2)" + ")" * 15), [0, 1])


class FirstError(unittest.TestCase):
    def test_the_first_one_in_the_text_counts(self):
        self.assertEqual(check('(A "\\q" 01'), [2, 1])
        self.assertEqual(check('(a "\\q" A 01'), [3, 3 + 1])
        self.assertEqual(check('(a 01 "\\q" A'), [5, 3])
        self.assertEqual(check(b'(a "\xff\\q" 01'), [4, 4])
        self.assertEqual(check("(" * 17 + "A"), [6, 16])

    def test_the_text_is_read_whole_ahead_of_checking(self):
        self.assertEqual(check("(x) ("), [1, 5])
        self.assertEqual(check("(x) )"), [2, 4])
        self.assertEqual(check('(repeat 0) (a "\\q")'), [3, 15])
        self.assertEqual(check(b'(blocks) "\x80"'), [4, 10])
        self.assertEqual(check("(blocks (kind x)) 00"), [5, 18])
        self.assertEqual(check("(x)" + "(" * 17), [6, 19])
