"""What near refuses, at what may be and at one more, and in which order."""

import itertools
import unittest

from envelopewords.desk import near
from reference import LETTERS, list_refusal, listed, signs

LAST_MOST = 4294967295

# What may stand in no list: neither a letter nor a line feed.
NEVER = [byte for byte in range(256) if byte != 10 and byte not in LETTERS.encode("ascii")]

LONG = signs(LETTERS[:32])
TOO_LONG = signs(LETTERS[:33])

# None of these is a word.
NO_WORDS = ([65], [10], [0], [97, 32], [97, 10], [97] * 33, TOO_LONG, LONG[:31] + [255], [97] * 60, [0] * 60)

# A list of just as many bytes as may be.
FULL = [97, 10] * 2048


class RefusalCase(unittest.TestCase):

    def refused(self, given, answer):
        """near refuses the list, whatever most and the word are: also where the word is none."""
        for most in (0, 2, LAST_MOST):
            for a in ([], [97], LONG):
                self.assertEqual(near(most, given, a), answer, given)
        for a in NO_WORDS:
            self.assertEqual(near(1, given, a), answer, (given, a))


class TestTooManyBytes(RefusalCase):

    def test_4096_bytes(self):
        self.assertEqual(len(FULL), 4096)
        self.assertEqual(near(0, FULL, [97]), [2048] + list(range(2048)))
        self.assertEqual(near(0, FULL, [98]), [0])
        whole = (LONG + [10]) * 124 + signs("abc\n")
        self.assertEqual(len(whole), 4096)
        self.assertEqual(near(0, whole, signs("abc")), [1, 124])

    def test_4097_bytes_and_more(self):
        for more in ([97], [10], [97, 10], [98, 99, 10], [97] * 33 + [10], [97, 10] * 102):
            self.refused(FULL + more, [-2])
        self.refused([98] + FULL, [-2])
        self.assertEqual(len((LONG + [10]) * 124 + signs("abcd\n")), 4097)
        self.refused((LONG + [10]) * 124 + signs("abcd\n"), [-2])

    def test_ahead_of_bytes_that_cannot_stand_there(self):
        for byte in (0, 10, 32, 65, 255):
            self.refused([byte] + FULL, [-2])
            self.refused(FULL[:100] + [byte] + FULL[100:], [-2])
            self.refused([byte] * 4097, [-2])
            self.refused([byte] * 4300, [-2])
        self.refused([97] * 4097, [-2])
        self.refused(FULL + [97], [-2])

    def test_4096_bytes_with_one_that_cannot_stand_there(self):
        self.refused([0] + FULL[1:], [-6, 0])
        self.refused(FULL[:4095] + [97], [-6, 4096])
        self.refused(FULL[:4095] + [0], [-6, 4095])
        self.refused(FULL[:4094] + [10, 10], [-6, 4094])
        self.refused([97] * 4096, [-6, 32])
        self.refused([10] * 4096, [-6, 0])


class TestBytesThatCannotStandThere(RefusalCase):

    def test_every_byte_that_never_can(self):
        self.assertEqual(len(NEVER), 219)
        for byte in NEVER:
            self.assertEqual(near(1, [byte], []), [-6, 0])
            self.assertEqual(near(1, [byte, 10], [97]), [-6, 0])
            self.assertEqual(near(1, [97, byte, 10], [97]), [-6, 1])
            self.assertEqual(near(1, [97, 98, byte, 98, 10], [97]), [-6, 2])
            self.assertEqual(near(1, [97, 10, byte], [97]), [-6, 2])
            self.assertEqual(near(1, [97, 10, byte, 98, 10], [97]), [-6, 2])
            self.assertEqual(near(1, [97, 10, 98, 10, byte, byte], [97]), [-6, 4])
            self.assertEqual(near(1, LONG + [byte, 10], [97]), [-6, 32])
            self.assertEqual(near(1, LONG[:31] + [byte, 10], [97]), [-6, 31])

    def test_every_letter_can(self):
        for letter in signs(LETTERS):
            self.assertEqual(near(0, [letter, 10], [letter]), [1, 0])
            self.assertEqual(near(0, [97, letter, 10], [97, letter]), [1, 0])
            self.assertEqual(near(0, [97, 10, letter, 10], [letter])[-1], 1)

    def test_at_every_place_of_a_list(self):
        given = signs("wien\nb\n1010\n")
        for byte in (0, 9, 13, 32, 47, 58, 65, 90, 96, 123, 128, 255):
            for place in range(len(given) + 1):
                self.refused(given[:place] + [byte] + given[place:], [-6, place])
                self.refused(given[:place] + [byte] + given[place + 1:], [-6, place])

    def test_line_feed_where_no_word_stands_before_it(self):
        self.refused([10], [-6, 0])
        self.refused([10, 10], [-6, 0])
        self.refused([10, 97, 10], [-6, 0])
        self.refused([97, 10, 10], [-6, 2])
        self.refused([97, 10, 10, 98, 10], [-6, 2])
        self.refused(signs("ab\ncd\n\n"), [-6, 6])
        self.refused(LONG + [10, 10], [-6, 33])

    def test_33rd_letter(self):
        self.refused(TOO_LONG + [10], [-6, 32])
        self.refused([97] * 33, [-6, 32])
        self.refused([97] * 60 + [10], [-6, 32])
        self.refused([97, 10] + [98] * 33 + [10], [-6, 34])
        self.refused(LONG + [10] + TOO_LONG + [10, 97, 10], [-6, 65])
        self.assertEqual(near(0, LONG + [10], LONG), [1, 0])
        self.assertEqual(near(0, (LONG + [10]) * 3, LONG), [3, 0, 1, 2])

    def test_letters_are_counted_anew_behind_a_line_feed(self):
        given = [97] * 31 + [10] + [98] * 32 + [10] + [99] * 2 + [10]
        self.assertEqual(near(0, given, [98] * 32), [1, 1])
        self.refused([97] * 31 + [10] + [98] * 33 + [10], [-6, 64])

    def test_no_line_feed_at_the_end(self):
        self.refused([97], [-6, 1])
        self.refused(signs("wien"), [-6, 4])
        self.refused(signs("a\nb"), [-6, 3])
        self.refused(signs("a\nbern"), [-6, 6])
        self.refused(LONG, [-6, 32])
        self.refused(LONG[:31], [-6, 31])
        self.refused([97, 10] + LONG, [-6, 34])

    def test_where_several_meet_the_first_place(self):
        self.refused([97, 10, 10, 65, 10], [-6, 2])
        self.refused([97, 65, 10, 10], [-6, 1])
        self.refused([65, 10, 10], [-6, 0])
        self.refused([10, 65], [-6, 0])
        self.refused([97] * 33 + [0], [-6, 32])
        self.refused([97] * 31 + [0] + [97] * 33, [-6, 31])
        self.refused([97, 10, 10] + [97] * 33, [-6, 2])
        self.refused([97] * 33 + [10, 10], [-6, 32])
        self.refused([65, 97], [-6, 0])
        self.refused([97, 10, 65, 97], [-6, 2])
        self.refused([97, 10, 10, 97], [-6, 2])
        self.refused([97] * 34, [-6, 32])

    def test_all_short_lists(self):
        for size in range(7):
            for given in itertools.product((97, 48, 10, 65), repeat=size):
                refused = list_refusal(given)
                answer = near(LAST_MOST, list(given), [])
                if answer != refused if refused else answer[0] != given.count(10):
                    self.fail(f"{given}: {answer}")

    def test_long_words_one_after_another(self):
        for first, second in itertools.product((1, 31, 32, 33), repeat=2):
            for ends in ([], [10], [10, 10], [0]):
                given = [97] * first + [10] + [98] * second + ends
                answer = near(0, given, [])
                self.assertEqual(answer, list_refusal(given) or [0], given)


class TestNoWord(unittest.TestCase):

    def refused(self, a):
        for given in ([], listed(["a"]), listed(["wien", "a", "wien"]), LONG + [10], FULL):
            for most in (0, 32, LAST_MOST):
                self.assertEqual(near(most, given, a), [-1], a)

    def test_bytes_that_are_no_letters(self):
        for byte in NEVER + [10]:
            for a in ([byte], [97, byte], [byte, 97], [97, byte, 97]):
                self.assertEqual(near(1, [97, 10], a), [-1], a)
                self.assertEqual(near(1, [], a), [-1], a)

    def test_no_words(self):
        for a in NO_WORDS:
            self.refused(a)
        for size in (33, 34, 59, 60):
            self.refused([97] * size)
            self.refused([48] * size)

    def test_no_letter_at_the_end_of_a_long_word(self):
        for byte in (0, 10, 32, 47, 58, 65, 90, 96, 123, 255):
            self.refused(LONG[:31] + [byte])
            self.refused([byte] + LONG[:31])

    def test_words(self):
        for a in ([], [97], LONG, [48] * 32):
            self.assertEqual(near(0, [], a), [0])


class TestOrder(unittest.TestCase):

    def test_the_list_ahead_of_the_word(self):
        for a in NO_WORDS:
            self.assertEqual(near(0, FULL + [97, 10], a), [-2])
            self.assertEqual(near(0, [0] * 4097, a), [-2])
            self.assertEqual(near(0, [0], a), [-6, 0])
            self.assertEqual(near(0, [97], a), [-6, 1])
            self.assertEqual(near(0, [97, 10, 10], a), [-6, 2])
            self.assertEqual(near(0, [97] * 33 + [10], a), [-6, 32])
            self.assertEqual(near(0, [97, 10], a), [-1])


if __name__ == "__main__":
    unittest.main()
