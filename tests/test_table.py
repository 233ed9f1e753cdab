"""Which characters stand for which letters, vanish, end a line or part; asked through fold and words."""

import unittest

import reference
from envelopewords.desk import fold, words
from reference import signs

A = ord("a")
B = ord("b")


def expected_fold(character):
    """What fold answers of the character between an a and a b."""
    if character in reference.STAND:
        folded = "a" + reference.STAND[character] + "b"
    elif character in reference.VANISH:
        folded = "ab"
    else:
        folded = "a\nb" if character == 10 else "a b"
    return [len(folded)] + signs(folded)


def expected_words(character):
    """What words answers of the character between an a and a b."""
    if character in reference.STAND or character in reference.VANISH:
        letters = "a" + reference.STAND.get(character, "") + "b"
        return [1, 0, 3, 0, 0, len(letters)] + signs(letters)
    line = 1 if character == 10 else 0
    return [2, 0, 1, 0, 0, 1, A, 2, 1, line, 0, 1, B]


class TableCase(unittest.TestCase):

    def check(self, character):
        with self.subTest(character=f"{character:X}"):
            self.assertEqual(fold([A, character, B]), expected_fold(character))
            self.assertEqual(words([A, character, B]), expected_words(character))


class TestRows(TableCase):

    def test_first_and_last_of_each_range_stand_for_their_letters(self):
        for first, last, each in reference.letter_ranges():
            for character, letters in ((first, each[0]), (last, each[-1])):
                with self.subTest(character=f"{character:X}"):
                    self.assertEqual(fold([character]), [len(letters)] + signs(letters))
                    digits = 1 if letters.isdigit() else 0
                    self.assertEqual(words([character]), [1, 0, 1, 0, digits, len(letters)] + signs(letters))

    def test_just_outside_of_each_range(self):
        for first, last, each in reference.letter_ranges():
            self.check(first - 1)
            self.check(last + 1)

    def test_outside_of_the_ranges_that_have_no_neighbour(self):
        # Written out, so that the answer does not hang on the reference: all of these part.
        for character in (0x2F, 0x3A, 0x40, 0x5B, 0x7B, 0xA9, 0xAB, 0xB1, 0xB8, 0xBB, 0xBF, 0xD7, 0xF7,
                          0x180, 0x217, 0x21C, 0x1E9D, 0x1E9F, 0x206F, 0x2071, 0x2073, 0x207A, 0x207F,
                          0x208A, 0x2115, 0x2117, 0xFAFF, 0xFB07, 0xFF0F, 0xFF1A, 0xFF20, 0xFF3B, 0xFF40, 0xFF5B):
            with self.subTest(character=f"{character:X}"):
                self.assertEqual(fold([A, character, B]), [3, A, 32, B])
                self.assertEqual(words([A, character, B]), [2, 0, 1, 0, 0, 1, A, 2, 1, 0, 0, 1, B])

    def test_one_two_and_three_letters(self):
        written = {0xE9: "e", 0x17F: "s", 0xFF21: "a", 0xFF5A: "z", 0xC6: "ae", 0xE6: "ae",
                   0xDE: "th", 0xFE: "th", 0xDF: "ss", 0x1E9E: "ss", 0xFF: "y", 0xF0: "d", 0x133: "ij",
                   0x153: "oe", 0x14B: "ng", 0x2116: "no", 0xFB03: "ffi", 0xFB04: "ffl", 0xFB06: "st"}
        for character, letters in written.items():
            with self.subTest(character=f"{character:X}"):
                self.assertEqual(fold([character]), [len(letters)] + signs(letters))
                self.assertEqual(words([character]), [1, 0, 1, 0, 0, len(letters)] + signs(letters))

    def test_times_and_division_signs_part(self):
        for character in (0xD7, 0xF7):
            self.assertEqual(fold([A, character, B]), [3, A, 32, B])
            self.assertEqual(words([A, character, B])[0], 2)

    def test_digits_of_every_kind(self):
        text = [0x30, 0x39, 0xB9, 0xB2, 0xB3, 0x2070, 0x2074, 0x2079, 0x2080, 0x2089, 0xFF10, 0xFF19]
        self.assertEqual(fold(text), [12] + signs("091230490909"))
        self.assertEqual(words(text), [1, 0, 12, 0, 1, 12] + signs("091230490909"))


class TestOthers(TableCase):

    def test_ends_of_vanishing_ranges(self):
        for first, last in reference.vanishing_ranges():
            for character in (first, last):
                with self.subTest(character=f"{character:X}"):
                    self.assertEqual(fold([A, character, B]), [2, A, B])
                    self.assertEqual(words([A, character, B]), [1, 0, 3, 0, 0, 2, A, B])
                    self.assertEqual(fold([character]), [0])
                    self.assertEqual(words([character]), [0])

    def test_just_outside_of_vanishing_ranges(self):
        for first, last in reference.vanishing_ranges():
            self.check(first - 1)
            self.check(last + 1)

    def test_parting_beside_vanishing(self):
        for character in (0x26, 0x28, 0x5F, 0xAC, 0xAE, 0xB5, 0x2BB, 0x2BD, 0x2FF, 0x370, 0x200A, 0x200E,
                          0x2017, 0x201A, 0x205F, 0x2061, 0xFEFE, 0xFF00):
            with self.subTest(character=f"{character:X}"):
                self.assertEqual(fold([A, character, B]), [3, A, 32, B])

    def test_line_feed_alone_ends_a_line(self):
        self.assertEqual(fold([A, 10, B]), [3, A, 10, B])
        self.assertEqual(words([A, 10, B]), [2, 0, 1, 0, 0, 1, A, 2, 1, 1, 0, 1, B])
        for character in (9, 11, 12, 13, 0x85, 0x2028, 0x2029):
            self.assertEqual(fold([A, character, B]), [3, A, 32, B])

    def test_every_character_of_the_first_65536(self):
        for character in range(1, 0x10000):
            if reference.is_wide(character):
                if fold([A, character, B]) != expected_fold(character):
                    self.fail(f"fold of {character:X}")
                if words([A, character, B]) != expected_words(character):
                    self.fail(f"words of {character:X}")

    def test_characters_beyond_them_part(self):
        low = sorted(reference.STAND) + sorted(reference.VANISH) + [0, 10, 32, 0xFFFF]
        for plane in range(0x10000, 0x110000, 0x10000):
            for character in low:
                if fold([A, plane + character, B]) != [3, A, 32, B]:
                    self.fail(f"fold of {plane + character:X}")
                if words([A, plane + character, B])[0] != 2:
                    self.fail(f"words of {plane + character:X}")


if __name__ == "__main__":
    unittest.main()
