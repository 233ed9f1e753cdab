"""What is refused, at what may be and at one more, and in which order."""

import unittest

import reference
from envelopewords.desk import fold, words
from reference import signs

A = ord("a")
FFI = 0xFB03


class RefusalCase(unittest.TestCase):

    def refused(self, text, answer):
        self.assertEqual(fold(text), answer)
        self.assertEqual(words(text), answer)

    def taken(self, text):
        """Neither refuses the text, and both answer as the reference does."""
        self.assertGreaterEqual(fold(text)[0], 0)
        self.assertEqual(fold(text), reference.fold(text))
        self.assertEqual(words(text), reference.words(text))


class TestBounds(RefusalCase):

    def test_512_numbers(self):
        self.assertEqual(fold([32] * 511 + [A]), [1, A])
        self.assertEqual(words([32] * 511 + [A]), [1, 511, 1, 0, 0, 1, A])
        self.taken([0x301] * 512)

    def test_513_numbers(self):
        self.refused([32] * 513, [-2])
        self.refused([0x301] * 513, [-2])
        self.refused([10] * 600, [-2])

    def test_8_lines_with_words(self):
        eight = signs("\n".join("abcdefgh"))
        self.assertEqual(fold(eight), [15] + eight)
        self.assertEqual(words(eight)[0], 8)
        self.assertEqual(words(eight)[-6:], [14, 1, 7, 0, 1, ord("h")])
        self.taken(eight + [10])

    def test_lines_without_words_do_not_count(self):
        self.taken([10] * 20 + signs("\n \n'\n".join("abcdefgh")) + [10] * 20)

    def test_9_lines_with_words(self):
        self.refused(signs("\n".join("abcdefghi")), [-2])
        self.refused(signs("\n\n".join("abcdefghi")) + [10], [-2])

    def test_128_words(self):
        text = [A, 32] * 128
        self.assertEqual(fold(text), [255] + text[:-1])
        self.assertEqual(words(text)[0], 128)
        self.taken([A, 32] * 127 + [A, 10])
        self.taken(([A, 32] * 15 + [A, 10]) * 8)

    def test_129_words(self):
        self.refused([A, 32] * 129, [-2])
        self.refused([A, 32] * 128 + [A], [-2])
        self.refused(([A, 32] * 15 + [A, 10]) * 7 + [A, 32] * 17, [-2])

    def test_32_letters(self):
        self.assertEqual(fold([A] * 32), [32] + [A] * 32)
        self.assertEqual(words([A] * 32), [1, 0, 32, 0, 0, 32] + [A] * 32)
        self.taken([A, 0x301] * 32)
        self.taken([A] * 32 + [32] + [A] * 32)
        self.taken([0x31] * 32)

    def test_33_letters(self):
        self.refused([A] * 33, [-2])
        self.refused([A, 0x301] * 33, [-2])
        self.refused([0x31] * 33, [-2])
        self.refused([A, 32] + [A] * 33, [-2])
        self.refused([A] * 33 + [10, A], [-2])

    def test_32_letters_by_characters_that_stand_for_several(self):
        self.taken([A] * 30 + [0xC6])
        self.taken([A] * 29 + [FFI])
        self.taken([FFI] * 10 + [0xDF])
        self.assertEqual(words([0xC6] * 16)[:6], [1, 0, 16, 0, 0, 32])

    def test_characters_that_stand_for_several_go_over_32_letters(self):
        self.refused([A] * 31 + [0xC6], [-2])
        self.refused([A] * 30 + [FFI], [-2])
        self.refused([A] * 31 + [FFI], [-2])
        self.refused([FFI] * 11, [-2])
        self.refused([0xC6] * 17, [-2])
        self.refused([FFI] * 512, [-2])


class TestNoWideCharacter(RefusalCase):

    def test_numbers_that_are_none(self):
        for number in (0, -1, -10, -97, 55296, 55297, 56320, 57342, 57343, 1114112, 1114113,
                       reference.LEAST, reference.LEAST + 1, reference.GREATEST, reference.GREATEST - 1):
            with self.subTest(number=number):
                self.refused([number], [-6, 0])
                self.refused([A, number, A], [-6, 1])

    def test_numbers_that_are_some(self):
        for number in (1, 2, 55294, 55295, 57344, 57345, 1114110, 1114111):
            with self.subTest(number=number):
                self.assertEqual(fold([A, number, A]), [3, A, 32, A])
                self.assertEqual(words([A, number, A]), [2, 0, 1, 0, 0, 1, A, 2, 1, 0, 0, 1, A])

    def test_place_of_the_first(self):
        self.refused([A, 32, 0, A, -1, 55296], [-6, 2])
        self.refused([A, 1114112, 0], [-6, 1])
        self.refused([0x301, 10, 57343, 0], [-6, 2])
        self.refused([32] * 511 + [0], [-6, 511])
        self.refused([0] * 512, [-6, 0])


class TestOrder(RefusalCase):

    def test_too_many_numbers_ahead_of_no_wide_character(self):
        self.refused([0] * 513, [-2])
        self.refused([32] * 512 + [0], [-2])
        self.refused([reference.LEAST] + [32] * 599, [-2])

    def test_no_wide_character_ahead_of_too_many_lines(self):
        text = signs("\n".join("abcdefghi"))
        self.refused(text + [0], [-6, 17])
        self.refused([55296] + text, [-6, 0])

    def test_no_wide_character_ahead_of_too_many_words(self):
        self.refused([A, 32] * 129 + [0], [-6, 258])
        self.refused([0] + [A, 32] * 129, [-6, 0])

    def test_no_wide_character_ahead_of_too_many_letters(self):
        self.refused([A] * 33 + [1114112], [-6, 33])
        self.refused([-1] + [A] * 33, [-6, 0])
        self.refused([A] * 16 + [0] + [A] * 17, [-6, 16])


if __name__ == "__main__":
    unittest.main()
