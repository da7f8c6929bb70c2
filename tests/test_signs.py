"""[53] and clearfloor/signs.py in the interface."""

import unittest

from clearfloor.signs import byte_of, bytes_of, is_plain, text_of

PRINTABLE = [chr(code) for code in range(32, 127) if code != 37]
ROW = ["\n", "\t"] + PRINTABLE
OTHERS = [chr(code) for code in range(32) if code not in (9, 10)]
OTHERS += ["%", "\x7f", "\x80", "\xa0", "\xe4", "\xff", "\u0663", "\u2028", "\uff21", "\U0001f916"]


class SignsTest(unittest.TestCase):
    def test_the_byte_of_every_sign(self):
        self.assertEqual(len(ROW), 96)
        for at, sign in enumerate(ROW):
            self.assertEqual(byte_of(sign), at + 1, repr(sign))

    def test_some_of_them_by_hand(self):
        pairs = [("\n", 1), ("\t", 2), (" ", 3), ("!", 4), ("$", 7), ("&", 8), ("0", 18), ("9", 27), ("A", 35)]
        pairs += [("Z", 60), ("[", 61), ("\\", 62), ("a", 67), ("z", 92), ("{", 93), ("~", 96)]
        for sign, byte in pairs:
            self.assertEqual(byte_of(sign), byte, repr(sign))
            self.assertEqual(text_of([byte]), sign)

    def test_characters_that_are_no_signs(self):
        for sign in OTHERS:
            self.assertEqual(byte_of(sign), 0, repr(sign))
            self.assertFalse(is_plain(sign), repr(sign))

    def test_every_character_of_a_text_must_be_a_sign(self):
        for sign in OTHERS:
            for text in ("ab" + sign, sign + "ab", "a" + sign + "b", sign * 2):
                self.assertFalse(is_plain(text), repr(text))
        for sign in ROW:
            self.assertTrue(is_plain(sign))
        self.assertTrue(is_plain("".join(ROW)))
        self.assertTrue(is_plain("robots 2 patience 4\n#A#\n+.b"))

    def test_is_plain_is_true_or_false(self):
        for text in ("", "a", "%"):
            self.assertIsInstance(is_plain(text), bool)

    def test_the_empty_text(self):
        self.assertTrue(is_plain(""))
        self.assertEqual(bytes_of(""), [])
        self.assertEqual(text_of([]), "")

    def test_bytes_of_texts(self):
        self.assertEqual(bytes_of("go 3\n"), [73, 81, 3, 21, 1])
        self.assertEqual(bytes_of("".join(ROW)), list(range(1, 97)))
        self.assertEqual(text_of(list(range(1, 97))), "".join(ROW))

    def test_they_undo_one_another(self):
        for first in ROW:
            for second in ROW:
                text = first + second + first
                self.assertEqual(text_of(bytes_of(text)), text)
        for byte in range(1, 97):
            self.assertEqual(bytes_of(text_of([byte, 96, byte])), [byte, 96, byte])

    def test_lists(self):
        row = [35, 36]
        self.assertEqual(text_of(row), "AB")
        self.assertEqual(row, [35, 36])
        found = bytes_of("AB")
        found.append(9)
        self.assertEqual(bytes_of("AB"), [35, 36])
