"""What apart, chain, one and nth refuse, at what may be and at one more, and in which order."""

import unittest

from envelopewords.desk import apart, chain, nth, one
from reference import LETTERS, signs

NO_LETTERS = [byte for byte in range(256) if byte not in LETTERS.encode("ascii")]

LONG = signs(LETTERS[:32])
TOO_LONG = signs(LETTERS[:33])
CHAINED = signs(LETTERS[:16])
NOT_CHAINED = signs(LETTERS[:17])

LAST_I = 4294967295


class RefusalCase(unittest.TestCase):

    def refused(self, call, word, other, answer):
        """The call refuses the two, whichever stands first."""
        self.assertEqual(call(word, other), answer, (word, other))
        self.assertEqual(call(other, word), answer, (other, word))


class TestNoWord(RefusalCase):

    def test_bytes_that_are_no_letters(self):
        self.assertEqual(len(NO_LETTERS), 220)
        for byte in NO_LETTERS:
            for call in (apart, chain):
                for other in ([], [97], [byte]):
                    self.refused(call, [byte], other, [-1])
                self.refused(call, [97, byte], [97, 98], [-1])
                self.refused(call, [byte, 97, 98], [97, 98], [-1])
                self.refused(call, [97, byte, 98], [97, 98], [-1])

    def test_bytes_that_are_letters(self):
        for letter in signs(LETTERS):
            self.assertEqual(apart([letter], []), [1])
            self.assertEqual(apart([], [letter]), [1])
            self.assertEqual(chain([letter], []), [1, 1, letter, 0])
            self.assertEqual(chain([], [letter]), [1, 0, 1, letter])

    def test_bytes_beside_the_letters(self):
        for byte in (0, 1, 10, 32, 47, 58, 64, 65, 90, 91, 96, 123, 127, 128, 255):
            self.refused(apart, [byte], [97], [-1])
            self.refused(chain, [byte], [97], [-1])

    def test_no_letter_at_the_end_of_a_long_word(self):
        self.refused(apart, LONG[:31] + [32], LONG, [-1])
        self.refused(apart, LONG[:31] + [32], LONG[:31] + [32], [-1])
        self.refused(chain, CHAINED[:15] + [32], CHAINED, [-1])

    def test_33_letters_and_more(self):
        for call in (apart, chain):
            for size in (33, 34, 59, 60):
                for other in ([], [97], [97] * size):
                    self.refused(call, [97] * size, other, [-1])
            self.refused(call, TOO_LONG, [97], [-1])
            self.refused(call, TOO_LONG, LONG, [-1])
            self.refused(call, TOO_LONG, TOO_LONG, [-1])

    def test_32_letters(self):
        self.assertEqual(apart(LONG, LONG), [0])
        self.assertEqual(apart([97] * 32, [98]), [32])
        self.assertEqual(apart([98], [97] * 32), [32])

    def test_60_bytes(self):
        for byte in (0, 32, 97, 255):
            for call in (apart, chain):
                self.refused(call, [byte] * 60, [97], [-1])


class TestTooLongForAChain(RefusalCase):

    def test_16_letters(self):
        self.assertEqual(chain(CHAINED, CHAINED), [0, 16] + CHAINED)
        self.assertEqual(chain(CHAINED, CHAINED[:15]), [1, 16] + CHAINED + [15] + CHAINED[:15])
        self.assertEqual(chain(CHAINED[:15], CHAINED), [1, 15] + CHAINED[:15] + [16] + CHAINED)

    def test_17_letters_and_more(self):
        for size in (17, 18, 31, 32):
            for other in ([], [97], CHAINED, [97] * size, [98] * 32):
                self.refused(chain, [97] * size, other, [-2])
        self.refused(chain, NOT_CHAINED, CHAINED, [-2])
        self.refused(chain, NOT_CHAINED, NOT_CHAINED, [-2])
        self.refused(chain, LONG, LONG, [-2])

    def test_apart_takes_them(self):
        self.assertEqual(apart(NOT_CHAINED, CHAINED), [1])
        self.assertEqual(apart(CHAINED, NOT_CHAINED), [1])


class TestNoWordByItself(unittest.TestCase):

    def refused(self, word):
        """one refuses it, and nth does, whatever i is: -1 stands ahead of -3."""
        self.assertEqual(one(word), [-1], word)
        for i in (0, 1, 107, 5000, LAST_I):
            self.assertEqual(nth(i, word), [-1], (i, word))

    def test_bytes_that_are_no_letters(self):
        for byte in NO_LETTERS:
            for word in ([byte], [97, byte], [byte, 97], [97, byte, 97], [byte] * 32, [byte] * 60):
                self.refused(word)

    def test_no_letter_at_the_end_of_a_long_word(self):
        for byte in (0, 10, 32, 47, 58, 65, 90, 96, 123, 255):
            self.refused(LONG[:31] + [byte])
            self.refused([byte] + LONG[:31])

    def test_33_letters_and_more(self):
        for size in (33, 34, 59, 60):
            self.refused([97] * size)
            self.refused([48] * size)
        self.refused(TOO_LONG)

    def test_bytes_that_are_letters(self):
        for letter in signs(LETTERS):
            self.assertEqual(one([letter]), [107])
            self.assertEqual(nth(0, [letter]), [0])

    def test_32_letters(self):
        self.assertEqual(one(LONG), [1183])
        self.assertEqual(nth(0, LONG), [31] + LONG[:31])


class TestNoneThere(unittest.TestCase):

    def refused_from(self, count, word):
        """There are just so many: the last is told, and from there on nothing is."""
        self.assertEqual(one(word), [count], word)
        self.assertNotEqual(nth(count - 1, word), [-3], word)
        for i in (count, count + 1, 2 * count, 65535, 65536, 2147483647, 2147483648, LAST_I - 1, LAST_I):
            self.assertEqual(nth(i, word), [-3], (i, word))

    def test_short_words(self):
        self.refused_from(36, [])
        self.refused_from(107, [97])
        self.refused_from(107, [48])
        self.refused_from(177, signs("aa"))
        self.refused_from(179, signs("ab"))

    def test_every_i_behind_the_last(self):
        for i in range(36, 300):
            self.assertEqual(nth(i, []), [-3], i)
        for i in range(107, 300):
            self.assertEqual(nth(i, [97]), [-3], i)

    def test_31_and_32_letters(self):
        self.refused_from(2267, LONG[:31])
        self.refused_from(2207, [97] * 31)
        self.refused_from(1183, LONG)
        self.refused_from(1121, [97] * 32)


class TestOrder(RefusalCase):

    def test_no_word_ahead_of_too_long_for_a_chain(self):
        for long in (NOT_CHAINED, LONG):
            self.refused(chain, long, [65], [-1])
            self.refused(chain, long, TOO_LONG, [-1])
            self.refused(chain, long, [97] * 60, [-1])
            self.refused(chain, long, long[:-1] + [0], [-1])
            self.refused(chain, long[:-1] + [0], [97], [-1])
            self.refused(chain, long[:-1] + [0], [], [-1])


if __name__ == "__main__":
    unittest.main()
