"""Words, their places, spans and lines, and the text folded."""

import itertools
import unittest

import reference
from envelopewords.desk import fold, words
from reference import signs

ACUTE = 0x301
QUOTE = 0x27


def told(place, span, line, digits, letters):
    """What words answers of one word."""
    return [place, span, line, digits, len(letters)] + signs(letters)


def folded(written):
    """What fold answers when the text folded is what's written."""
    return [len(written)] + signs(written)


class TestWords(unittest.TestCase):

    def test_ordinary_text(self):
        text = signs("Jos\u00e9 M\u00fcller\nStra\u00dfe 12b\n1010 Wien")
        self.assertEqual(fold(text), folded("jose muller\nstrasse 12b\n1010 wien"))
        self.assertEqual(words(text), [6]
                         + told(0, 4, 0, 0, "jose") + told(5, 6, 0, 0, "muller")
                         + told(12, 6, 1, 0, "strasse") + told(19, 3, 1, 0, "12b")
                         + told(23, 4, 2, 1, "1010") + told(28, 4, 2, 0, "wien"))

    def test_empty_text(self):
        self.assertEqual(fold([]), [0])
        self.assertEqual(words([]), [0])

    def test_text_without_words(self):
        for text in ([32], [10], [ACUTE], [10, 10, 32, QUOTE, 10], [ACUTE] * 512, [10] * 512, [44] * 512):
            self.assertEqual(fold(text), [0])
            self.assertEqual(words(text), [0])

    def test_vanishing_before_a_word(self):
        text = [QUOTE, ACUTE] + signs("ab")
        self.assertEqual(fold(text), folded("ab"))
        self.assertEqual(words(text), [1] + told(2, 2, 0, 0, "ab"))

    def test_vanishing_within_a_word(self):
        text = signs("a") + [ACUTE, QUOTE] + signs("bc") + [ACUTE] + signs("d")
        self.assertEqual(fold(text), folded("abcd"))
        self.assertEqual(words(text), [1] + told(0, 7, 0, 0, "abcd"))

    def test_vanishing_behind_a_word(self):
        text = signs("ab") + [ACUTE, QUOTE] + signs(" ") + [QUOTE] + signs("c") + [ACUTE]
        self.assertEqual(fold(text), folded("ab c"))
        self.assertEqual(words(text), [2] + told(0, 2, 0, 0, "ab") + told(6, 1, 0, 0, "c"))

    def test_vanishing_between_parting_characters_makes_no_word(self):
        text = signs("a '-' b\n'\nc")
        self.assertEqual(fold(text), folded("a b\nc"))
        self.assertEqual(words(text), [3] + told(0, 1, 0, 0, "a") + told(6, 1, 0, 0, "b") + told(10, 1, 1, 0, "c"))

    def test_vanishing_beside_a_parting_character_does_not_join(self):
        text = signs("a' 'b\n'c")
        self.assertEqual(fold(text), folded("a b\nc"))
        self.assertEqual(words(text), [3] + told(0, 1, 0, 0, "a") + told(4, 1, 0, 0, "b") + told(7, 1, 1, 0, "c"))

    def test_span_counts_characters_not_letters(self):
        text = [0xFB03, ACUTE, 0xC6, ACUTE]
        self.assertEqual(words(text), [1] + told(0, 3, 0, 0, "ffiae"))

    def test_several_parting_characters(self):
        text = signs("  a,. -b  ")
        self.assertEqual(fold(text), folded("a b"))
        self.assertEqual(words(text), [2] + told(2, 1, 0, 0, "a") + told(7, 1, 0, 0, "b"))

    def test_several_line_ends(self):
        text = signs("\n\na\n\n\nb\n\n")
        self.assertEqual(fold(text), folded("a\nb"))
        self.assertEqual(words(text), [2] + told(2, 1, 0, 0, "a") + told(6, 1, 1, 0, "b"))

    def test_lines_without_words_are_not_numbered(self):
        text = signs(" - \n'\na b\n,,\n \nc\n'\nd")
        self.assertEqual(fold(text), folded("a b\nc\nd"))
        self.assertEqual(words(text), [4] + told(6, 1, 0, 0, "a") + told(8, 1, 0, 0, "b")
                         + told(15, 1, 1, 0, "c") + told(19, 1, 2, 0, "d"))

    def test_blanks_about_a_line_end_are_left_out(self):
        self.assertEqual(fold(signs("a \n b , \n")), folded("a\nb"))

    def test_digits_alone(self):
        for written, digits in (("0", 1), ("9", 1), ("0123456789", 1), ("12b", 0), ("b12", 0), ("1a2", 0),
                                ("a", 0), ("z", 0)):
            self.assertEqual(words(signs(written)), [1] + told(0, len(written), 0, digits, written))

    def test_digits_with_vanishing_and_other_digits(self):
        text = signs("1'2") + [0xB3, 0xFF14]
        self.assertEqual(words(text), [1] + told(0, 5, 0, 1, "1234"))
        self.assertEqual(words(signs("1") + [0x2116]), [1] + told(0, 2, 0, 0, "1no"))


class TestAgainstReference(unittest.TestCase):

    def check(self, text):
        if fold(text) != reference.fold(text):
            self.fail(f"fold({text})")
        if words(text) != reference.words(text):
            self.fail(f"words({text})")

    def test_all_short_texts_of_few_characters(self):
        for size in range(7):
            for text in itertools.product((0x61, 0x31, QUOTE, 32, 10), repeat=size):
                self.check(list(text))

    def test_short_texts_with_wrong_numbers_and_several_letters(self):
        for size in range(5):
            for text in itertools.product((0x41, 0xFB03, 0xC6, 0xB2, ACUTE, 0xD7, 10, 0, 55296), repeat=size):
                self.check(list(text))

    def test_long_texts(self):
        pool = [0x61, 0x5A, 0x37, 0xFB04, 0xDF, ACUTE, 0xAD, 32, 44, 10, 0x1F600, 0xE9]
        for size in range(0, 513, 8):
            text = [pool[number % len(pool)] for number in reference.draw(size, size + 1)]
            # With line ends as they fall most long texts are refused; without them most are not.
            self.check(text)
            self.check([32 if c == 10 else c for c in text])


if __name__ == "__main__":
    unittest.main()
