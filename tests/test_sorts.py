"""Of which sort each number of a text is: its letter, several letters, vanishing, ending a line, parting, none."""

import itertools
import unittest

import reference
from envelopewords.desk import sorts
from reference import GREATEST, LEAST, signs, sort_of

PARTS = 0
VANISHES = 1
ENDS = 2
NONE = 3
SEVERAL = 256


class SortsCase(unittest.TestCase):

    def check(self, number, sort):
        """The number is of the sort, by itself and among others."""
        self.assertEqual(sorts([number]), [1, sort], f"{number:X}")
        self.assertEqual(sorts([65, number, number, 32]), [4, 97, sort, sort, 0], f"{number:X}")


class TestEachSort(SortsCase):

    def test_all_in_one_text(self):
        self.assertEqual(sorts(signs("O'\u00c9\u00df 7\n") + [0, -1]), [9, 111, 1, 101, 256, 0, 55, 2, 3, 3])

    def test_plain_letters_are_themselves(self):
        for letter in signs(reference.LETTERS):
            self.check(letter, letter)

    def test_great_letters_are_the_small_ones(self):
        for great in range(65, 91):
            self.check(great, great + 32)

    def test_letters_of_other_rows(self):
        for character, letter in ((0xAA, "a"), (0xBA, "o"), (0xB9, "1"), (0xB2, "2"), (0xB3, "3"), (0x2070, "0"),
                                  (0x2074, "4"), (0x2079, "9"), (0x2080, "0"), (0x2089, "9"), (0xC0, "a"),
                                  (0xC7, "c"), (0xD0, "d"), (0xF0, "d"), (0xD8, "o"), (0xF8, "o"), (0xFF, "y"),
                                  (0x131, "i"), (0x138, "k"), (0x149, "n"), (0x17F, "s"), (0x218, "s"), (0x219, "s"),
                                  (0x21A, "t"), (0x21B, "t"), (0xFF10, "0"), (0xFF19, "9"), (0xFF21, "a"),
                                  (0xFF3A, "z"), (0xFF41, "a"), (0xFF5A, "z")):
            self.check(character, ord(letter))

    def test_several_letters(self):
        for character in (0xC6, 0xDE, 0xDF, 0xE6, 0xFE, 0x132, 0x133, 0x14A, 0x14B, 0x152, 0x153, 0x1E9E, 0x2116,
                          0xFB00, 0xFB01, 0xFB02, 0xFB03, 0xFB04, 0xFB05, 0xFB06):
            self.check(character, SEVERAL)

    def test_signs_among_the_letters(self):
        self.check(0xD7, PARTS)
        self.check(0xF7, PARTS)
        self.check(0xDF, SEVERAL)
        self.check(0xFF, ord("y"))

    def test_each_that_vanishes(self):
        vanishing = ([0x27, 0x60, 0xAD, 0xB4, 0x2BC] + list(range(0x300, 0x370))
                     + [0x200B, 0x200C, 0x200D, 0x2018, 0x2019, 0x2060, 0xFEFF])
        self.assertEqual(sorted(reference.VANISH), sorted(vanishing))
        for character in vanishing:
            self.check(character, VANISHES)

    def test_beside_those_that_vanish(self):
        for character in (0x26, 0x28, 0x5F, 0xAC, 0xAE, 0xB5, 0x2BB, 0x2BD, 0x2FF, 0x370, 0x200A, 0x200E, 0x2017,
                          0x201A, 0x205F, 0x2061, 0xFEFE, 0xFF00):
            self.check(character, PARTS)
        self.check(0x61, ord("a"))
        self.check(0xB3, ord("3"))

    def test_line_feed_alone_ends_a_line(self):
        self.check(10, ENDS)
        for character in (9, 11, 12, 13, 0x85, 0x2028, 0x2029):
            self.check(character, PARTS)

    def test_others_part(self):
        for character in (1, 2, 3, 32, 44, 45, 127, 128, 0xA0, 0x3B1, 0x3042, 0xD7FF, 0xE000, 0xFFFF, 0x10000,
                          0x1F600, 0x10FFFF):
            self.check(character, PARTS)


class TestNoWideCharacters(SortsCase):

    def test_0_and_below(self):
        for number in (0, -1, -2, -10, -32, -65, -97, -256, -65536, LEAST + 1, LEAST):
            self.check(number, NONE)
        self.check(1, PARTS)

    def test_55296_to_57343(self):
        for number in range(55296, 57344):
            if sorts([number]) != [1, NONE]:
                self.fail(f"sorts of {number}")
        for number in (55296, 56319, 56320, 57343):
            self.check(number, NONE)
        self.check(55295, PARTS)
        self.check(57344, PARTS)

    def test_1114112_and_more(self):
        for number in (1114112, 1114113, 1114122, 1114112 + 97, 2 ** 24 + 97, GREATEST - 1, GREATEST):
            self.check(number, NONE)
        self.check(1114111, PARTS)

    def test_they_leave_the_others_as_they_are(self):
        self.assertEqual(sorts([0, 97, LEAST, 10, GREATEST, 0x300, 55296]), [7, 3, 97, 3, 2, 3, 1, 3])

    def test_letters_beyond_a_byte_are_none(self):
        for step in (-65536, -256, 0x110000, 2 ** 30):
            for letter in signs("az09\n'"):
                self.check(letter + step, NONE)


class TestTable(SortsCase):

    def test_first_and_last_of_each_row(self):
        for first, last, each in reference.letter_ranges():
            for character, letters in ((first, each[0]), (last, each[-1])):
                self.check(character, ord(letters) if len(letters) == 1 else SEVERAL)

    def test_one_beside_each(self):
        for first, last, each in reference.letter_ranges():
            self.check(first - 1, sort_of(first - 1))
            self.check(last + 1, sort_of(last + 1))

    def test_one_beside_each_that_has_no_neighbour(self):
        # Written out, so that the answer does not hang on the reference.
        for character in (0x2F, 0x3A, 0x40, 0x5B, 0x7B, 0xA9, 0xAB, 0xB1, 0xB8, 0xBB, 0xBF, 0x180, 0x217, 0x21C,
                          0x1E9D, 0x1E9F, 0x206F, 0x2071, 0x2073, 0x207A, 0x207F, 0x208A, 0x2115, 0x2117, 0xFAFF,
                          0xFB07, 0xFF0F, 0xFF1A, 0xFF20, 0xFF3B, 0xFF40, 0xFF5B):
            self.check(character, PARTS)

    def test_every_one_of_the_first_65536(self):
        for start in range(0, 0x10000, 512):
            text = list(range(start, start + 512))
            self.assertEqual(sorts(text), [512] + [sort_of(number) for number in text])

    def test_beyond_them(self):
        low = sorted(reference.STAND) + sorted(reference.VANISH) + [0, 10, 32, 0xFFFF]
        for plane in range(0x10000, 0x110000, 0x10000):
            for start in range(0, len(low), 512):
                text = [plane + character for character in low[start:start + 512]]
                self.assertEqual(sorts(text), [len(text)] + [PARTS] * len(text))


class TestSizes(SortsCase):

    def test_empty_text(self):
        self.assertEqual(sorts([]), [0])

    def test_every_size(self):
        for size in range(513):
            self.assertEqual(sorts([65] * size), [size] + [97] * size)

    def test_512_numbers(self):
        for number, sort in ((65, 97), (0xDF, SEVERAL), (0x301, VANISHES), (10, ENDS), (32, PARTS), (0, NONE)):
            self.assertEqual(sorts([number] * 512), [512] + [sort] * 512)

    def test_513_numbers_and_more(self):
        for number in (65, 0xDF, 0x301, 10, 32, 0, LEAST, GREATEST):
            for size in (513, 514, 599, 600):
                self.assertEqual(sorts([number] * size), [-2])

    def test_nothing_else_is_refused(self):
        # What fold and words refuse: too many lines, words, letters of a word.
        self.assertEqual(sorts([97, 10] * 256), [512] + [97, 2] * 256)
        self.assertEqual(sorts([97, 32] * 256), [512] + [97, 0] * 256)
        self.assertEqual(sorts([97] * 33), [33] + [97] * 33)

    def test_each_by_itself_in_every_row_of_few(self):
        few = (97, 0xFB03, 0x27, 10, 44, 0, 55296)
        for size in range(5):
            for text in itertools.product(few, repeat=size):
                self.assertEqual(sorts(list(text)), [size] + [sort_of(number) for number in text])


if __name__ == "__main__":
    unittest.main()
