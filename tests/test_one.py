"""How many words are one slip from a word, which is the i-th of them, and promise 4."""

import itertools
import unittest

from envelopewords.desk import apart, nth, one
from reference import LETTERS, drawn_words, in_order, one_slip_from, signs, words_up_to, written

ASCENDING_31 = LETTERS[:31]
ASCENDING_32 = LETTERS[:32]

# Counted by hand: one letter less, as many by a change, as many by changing places, one letter more.
COUNTED = (
    ("", 0 + 0 + 0 + 36),
    ("a", 1 + 35 + 0 + 71),
    ("z", 1 + 35 + 0 + 71),
    ("0", 1 + 35 + 0 + 71),
    ("9", 1 + 35 + 0 + 71),
    ("aa", 1 + 70 + 0 + 106),
    ("ab", 2 + 70 + 1 + 106),
    ("ba", 2 + 70 + 1 + 106),
    ("00", 1 + 70 + 0 + 106),
    ("12", 2 + 70 + 1 + 106),
    ("a1", 2 + 70 + 1 + 106),
    ("aaa", 1 + 105 + 0 + 141),
    ("aab", 2 + 105 + 1 + 141),
    ("baa", 2 + 105 + 1 + 141),
    ("aba", 3 + 105 + 2 + 141),
    ("abc", 3 + 105 + 2 + 141),
    ("111", 1 + 105 + 0 + 141),
    ("aabb", 2 + 140 + 1 + 176),
    ("abba", 3 + 140 + 2 + 176),
    ("1010", 4 + 140 + 3 + 176),
    ("1150", 3 + 140 + 2 + 176),
    ("strasse", 6 + 245 + 5 + 281),
    ("0123456789", 10 + 350 + 9 + 386),
    ("0" * 31, 1 + 1085 + 0 + 1121),
    ("a" * 31, 1 + 1085 + 0 + 1121),
    ("a" * 15 + "b" * 16, 2 + 1085 + 1 + 1121),
    (ASCENDING_31, 31 + 1085 + 30 + 1121),
    ("a" * 32, 1 + 1120 + 0),
    ("7" * 32, 1 + 1120 + 0),
    ("a" * 16 + "b" * 16, 2 + 1120 + 1),
    ("ab" * 16, 32 + 1120 + 31),
    ("12" * 16, 32 + 1120 + 31),
    (ASCENDING_32, 32 + 1120 + 31),
)

# Of each word: places in order, and the words there; followed by hand.
PLACED = (
    ("a", {0: "", 1: "0", 10: "9", 11: "b", 35: "z", 36: "0a", 45: "9a", 46: "a0", 55: "a9", 56: "aa", 57: "ab",
           81: "az", 82: "ba", 106: "za"}),
    ("0", {0: "", 1: "1", 9: "9", 10: "a", 35: "z", 36: "00", 37: "01", 71: "0z", 72: "10", 106: "z0"}),
    ("z", {0: "", 1: "0", 35: "y", 36: "0z", 70: "yz", 71: "z0", 106: "zz"}),
    ("ab", {0: "a", 1: "b", 2: "0b", 11: "9b", 12: "a0", 21: "a9", 22: "aa", 23: "ac", 46: "az", 47: "ba", 48: "bb",
            49: "cb", 72: "zb", 73: "0ab", 82: "9ab", 83: "a0b", 92: "a9b", 93: "aab", 94: "ab0", 104: "aba",
            105: "abb", 106: "abc", 129: "abz", 130: "acb", 153: "azb", 154: "bab", 155: "cab", 178: "zab"}),
    ("ba", {0: "a", 1: "b", 2: "0a", 11: "9a", 12: "aa", 13: "ab", 14: "b0", 23: "b9", 24: "bb", 48: "bz", 49: "ca",
            72: "za", 73: "0ba", 178: "zba"}),
    ("11", {0: "1", 1: "01", 2: "10", 3: "12", 10: "19", 11: "1a", 36: "1z", 37: "21", 45: "a1", 70: "z1",
            71: "011", 72: "101", 73: "110", 74: "111", 176: "z11"}),
    ("a" * 31, {0: "a" * 30, 1: "0" + "a" * 30, 1085: "z" + "a" * 30, 1086: "0" + "a" * 31, 2206: "z" + "a" * 31}),
    ("a" * 32, {0: "a" * 31, 1: "0" + "a" * 31, 10: "9" + "a" * 31, 11: "a0" + "a" * 30, 320: "a" * 31 + "9",
                321: "a" * 31 + "b", 345: "a" * 31 + "z", 346: "a" * 30 + "ba", 1120: "z" + "a" * 31}),
    (ASCENDING_31, {0: LETTERS[:30], 30: LETTERS[1:31], 31: "00" + LETTERS[2:31], 1145: "z" + LETTERS[1:31],
                    1146: "00" + LETTERS[1:31], 2266: "z" + LETTERS[:31]}),
    (ASCENDING_32, {0: LETTERS[:31], 31: LETTERS[1:32], 32: "00" + LETTERS[2:32], 1182: "z" + LETTERS[1:32]}),
)

LONG = ([word for word, count in COUNTED if len(word) > 30]
        + drawn_words(6, 32, "ab", 4) + drawn_words(6, 32, LETTERS, 8))

SHORT = words_up_to(2, "a0z") + ["aab", "aba", "a0a", "zz0", "123", "abba", "0101", "strasse"]


def told(word):
    """What nth answers of the word."""
    return [len(word)] + signs(word)


def beside(word):
    """The words one slip from the word in order, those of more than 32 letters aside, by the reference."""
    return sorted([other for other in one_slip_from(word) if len(other) <= 32], key=in_order)


def all_told(word):
    """Every word that nth tells of the word, up to one's number."""
    answers = [nth(i, signs(word)) for i in range(one(signs(word))[0])]
    for answer in answers:
        if answer[0] != len(answer) - 1:
            raise AssertionError(f"of {word!r} nth answers {answer}")
    return [written(answer[1:]) for answer in answers]


class TestOne(unittest.TestCase):

    def test_counted_by_hand(self):
        for word, count in COUNTED:
            self.assertEqual(one(signs(word)), [count], word)

    def test_every_letter_by_itself(self):
        for letter in LETTERS:
            self.assertEqual(one(signs(letter)), [107], letter)
            self.assertEqual(one(signs(letter * 2)), [177], letter)

    def test_equal_letters_at_every_size(self):
        # Equal ones side by side: it's all one which is taken away, and where their like is put in.
        for size in range(1, 32):
            self.assertEqual(one([98] * size), [1 + 35 * size + 35 * size + 36], size)
        self.assertEqual(one([98] * 32), [1 + 35 * 32])

    def test_letters_that_differ_at_every_size(self):
        for size in range(1, 32):
            self.assertEqual(one(signs(LETTERS[:size])), [size + 35 * size + size - 1 + 35 * size + 36], size)
        self.assertEqual(one(signs(ASCENDING_32)), [32 + 35 * 32 + 31])

    def test_short_words_against_reference(self):
        for word in words_up_to(5, "ab") + words_up_to(4, "a0z") + words_up_to(3, "0189"):
            self.assertEqual(one(signs(word)), [len(beside(word))], word)

    def test_long_words_against_reference(self):
        for word in LONG:
            self.assertEqual(one(signs(word)), [len(beside(word))], word)


class TestNth(unittest.TestCase):

    def test_placed_by_hand(self):
        for word, places in PLACED:
            for i, other in places.items():
                self.assertEqual(nth(i, signs(word)), told(other), (i, word))

    def test_answer_in_full(self):
        self.assertEqual(nth(47, [97, 98]), [2, 98, 97])

    def test_of_a_word_without_letters(self):
        for i, letter in enumerate(LETTERS):
            self.assertEqual(nth(i, []), [1, ord(letter)])

    def test_a_word_without_letters_among_them(self):
        for letter in LETTERS:
            self.assertEqual(nth(0, signs(letter)), [0])
            self.assertNotEqual(nth(1, signs(letter))[0], 0)

    def test_first_and_last_of_each_length(self):
        for word in ["", "a", "0", "z", "aa", "ab", "ba", "zz", "00", "1010", "strasse"] + LONG:
            others = beside(word)
            for at, other in enumerate(others):
                first = at == 0 or len(others[at - 1]) != len(other)
                last = at == len(others) - 1 or len(others[at + 1]) != len(other)
                if first or last:
                    self.assertEqual(nth(at, signs(word)), told(other), (at, word))

    def test_long_words_against_reference(self):
        for word in LONG:
            others = beside(word)
            for i in range(0, len(others), 41):
                self.assertEqual(nth(i, signs(word)), told(others[i]), (i, word))

    def test_last_is_the_one_ahead_of_none(self):
        for word, count in COUNTED:
            self.assertEqual(nth(count - 1, signs(word)), told(beside(word)[-1]), word)
            self.assertEqual(nth(count, signs(word)), [-3], word)


class TestPromise4(unittest.TestCase):

    def test_every_one_of_a_short_word(self):
        for word in SHORT:
            self.assertEqual(all_told(word), beside(word), word)

    def test_every_one_of_a_word_of_32_letters(self):
        word = "ab" * 8 + "0" * 16
        self.assertEqual(all_told(word), beside(word))

    def test_in_order_and_each_once(self):
        for word in SHORT:
            for before, behind in itertools.pairwise(all_told(word)):
                self.assertLess(in_order(before), in_order(behind), word)

    def test_each_is_one_slip_away(self):
        for word in SHORT:
            for other in all_told(word):
                self.assertEqual(apart(signs(word), signs(other)), [1], (word, other))

    def test_none_is_left_out(self):
        for word in words_up_to(3, "a0"):
            found = all_told(word)
            for other in words_up_to(4, "a0z"):
                self.assertEqual(other in found, apart(signs(word), signs(other)) == [1], (word, other))

    def test_what_is_one_slip_away_lies_so_from_there_too(self):
        for word in SHORT:
            for other in all_told(word)[::9]:
                self.assertEqual(nth(beside(other).index(word), signs(other)), told(word), (word, other))


if __name__ == "__main__":
    unittest.main()
