"""Which words of a list are near a word, and promise 5."""

import itertools
import unittest

import reference
from envelopewords.desk import apart, near
from reference import LETTERS, drawn_words, listed, numbers_near, one_slip_from, signs, slips_apart, words_up_to

LAST_MOST = 4294967295
LONG = LETTERS[:32]

TOWNS = ["wien", "bern", "wein", "wien", "vienna", "w"]


def asked(most, words, a):
    """What near answers of the words as a list."""
    return near(most, listed(words), signs(a))


def far_from(a, words):
    """How far from a each of the words is, by apart."""
    return [apart(signs(a), signs(word))[0] for word in words]


class TestByHand(unittest.TestCase):

    def test_ordinary_words(self):
        # From wien: wien 0, wein 1, bern 3, vienna 3, w 3.
        for most, numbers in ((0, [0, 3]), (1, [0, 3, 2]), (2, [0, 3, 2]), (3, [0, 3, 2, 1, 4, 5]),
                              (4, [0, 3, 2, 1, 4, 5])):
            self.assertEqual(asked(most, TOWNS, "wien"), [len(numbers)] + numbers)

    def test_answer_in_full(self):
        given = [97, 98, 99, 10, 97, 99, 10, 99, 97, 10]
        self.assertEqual(near(0, given, [99, 97]), [1, 2])
        self.assertEqual(near(1, given, [99, 97]), [2, 2, 1])
        self.assertEqual(near(2, given, [99, 97]), [3, 2, 1, 0])

    def test_none_is_near(self):
        self.assertEqual(asked(0, TOWNS, "bonn"), [0])
        self.assertEqual(asked(1, TOWNS, "strasse"), [0])
        self.assertEqual(asked(31, ["a" * 32], "b" * 32), [0])

    def test_each_kind_of_slip_is_one(self):
        words = ["strase", "strassen", "strosse", "starsse", "stxxsse", "strasse"]
        self.assertEqual(asked(1, words, "strasse"), [5, 5, 0, 1, 2, 3])
        self.assertEqual(asked(2, words, "strasse"), [6, 5, 0, 1, 2, 3, 4])

    def test_several_slips_touch_one_letter(self):
        self.assertEqual(asked(1, ["abc"], "ca"), [0])
        self.assertEqual(asked(2, ["abc"], "ca"), [1, 0])
        self.assertEqual(asked(2, ["bxa", "bxya", "ba"], "ab"), [2, 2, 0])

    def test_digits(self):
        self.assertEqual(asked(1, ["1010", "1011", "0110", "101", "1100", "0"], "1010"), [5, 0, 1, 2, 3, 4])


class TestOrder(unittest.TestCase):

    def test_nearer_ones_first(self):
        self.assertEqual(asked(9, ["abcd", "abc", "ab", "a"], "a"), [4, 3, 2, 1, 0])
        self.assertEqual(asked(9, ["a", "ab", "abc", "abcd"], "a"), [4, 0, 1, 2, 3])
        self.assertEqual(asked(9, ["abc", "a", "abcd", "ab"], "a"), [4, 1, 3, 0, 2])

    def test_of_equally_near_ones_the_lesser_number(self):
        # It's the number that counts, not how the words stand in order.
        self.assertEqual(asked(1, ["z", "y", "0", "b", "ab", "za", "9"], "a"), [7, 0, 1, 2, 3, 4, 5, 6])
        self.assertEqual(asked(2, ["zz", "z", "bb", "b", "a", "00"], "a"), [6, 4, 1, 3, 0, 2, 5])

    def test_words_that_stand_several_times(self):
        self.assertEqual(asked(0, ["a"] * 4, "a"), [4, 0, 1, 2, 3])
        self.assertEqual(asked(1, ["b", "a", "b", "a", "cc", "a"], "a"), [5, 1, 3, 5, 0, 2])
        self.assertEqual(asked(2, ["b", "a", "b", "a", "cc", "a"], "a"), [6, 1, 3, 5, 0, 2, 4])

    def test_numbers_of_several_digits(self):
        self.assertEqual(asked(1, ["b"] * 9 + ["a"] * 3 + ["b"] * 2, "a"),
                         [14, 9, 10, 11, 0, 1, 2, 3, 4, 5, 6, 7, 8, 12, 13])

    def test_distances_of_several_digits(self):
        self.assertEqual(asked(12, ["a" * 12, "a" * 10, "a" * 9, "a" * 2, "a"], ""), [5, 4, 3, 2, 1, 0])


class TestMost(unittest.TestCase):

    def test_0_are_just_the_words_that_are_a(self):
        words = ["ab", "ba", "a", "b", "ab", "abb", "abc", "0b", "ab"]
        self.assertEqual(asked(0, words, "ab"), [3, 0, 4, 8])
        self.assertEqual(asked(0, words, "b"), [1, 3])
        self.assertEqual(asked(0, words, "c"), [0])

    def test_just_as_many_slips_and_one_less(self):
        for size in range(1, 33):
            self.assertEqual(asked(size, ["b" * size], "a" * size), [1, 0])
            self.assertEqual(asked(size - 1, ["b" * size], "a" * size), [0])

    def test_all_words_keep_to_it(self):
        for most in (32, 33, 255, 65536, 2147483647, 2147483648, LAST_MOST - 1, LAST_MOST):
            self.assertEqual(asked(most, TOWNS, "wien"), [6, 0, 3, 2, 1, 4, 5])
            self.assertEqual(asked(most, ["a" * 32, "b" * 32, "c"], "b" * 32), [3, 1, 0, 2])
            self.assertEqual(near(most, [], []), [0])

    def test_every_most(self):
        words = [LONG[:size] for size in range(1, 33)]
        for most in range(36):
            self.assertEqual(asked(most, words, ""), [min(most, 32)] + list(range(min(most, 32))))
            self.assertEqual(asked(most, words, LONG), [min(most + 1, 32)] + list(range(31, max(30 - most, -1), -1)))


class TestSizes(unittest.TestCase):

    def test_empty_list(self):
        for most in (0, 1, 32, LAST_MOST):
            for a in ("", "a", LONG):
                self.assertEqual(asked(most, [], a), [0])

    def test_a_without_letters(self):
        words = ["abc", "a", "ab", "0", "z" * 32]
        for most, numbers in ((0, []), (1, [1, 3]), (2, [1, 3, 2]), (3, [1, 3, 2, 0]), (31, [1, 3, 2, 0]),
                              (32, [1, 3, 2, 0, 4])):
            self.assertEqual(asked(most, words, ""), [len(numbers)] + numbers)

    def test_a_of_32_letters(self):
        words = [LONG, LONG[1:], LONG[1] + LONG[0] + LONG[2:], "z" * 32, "0", LONG[:31] + "z", LONG]
        self.assertEqual(asked(0, words, LONG), [2, 0, 6])
        self.assertEqual(asked(1, words, LONG), [5, 0, 6, 1, 2, 5])
        self.assertEqual(asked(30, words, LONG), [5, 0, 6, 1, 2, 5])
        self.assertEqual(asked(31, words, LONG), [6, 0, 6, 1, 2, 5, 4])
        self.assertEqual(asked(32, words, LONG), [7, 0, 6, 1, 2, 5, 4, 3])

    def test_one_word(self):
        for letter in LETTERS:
            self.assertEqual(asked(0, [letter], letter), [1, 0])
            self.assertEqual(asked(0, [letter], ""), [0])
            self.assertEqual(asked(1, [letter], ""), [1, 0])

    def test_one_word_of_32_letters(self):
        self.assertEqual(asked(0, [LONG], LONG), [1, 0])
        self.assertEqual(asked(31, [LONG], ""), [0])
        self.assertEqual(asked(32, [LONG], ""), [1, 0])
        self.assertEqual(asked(0, [LONG], LONG[:31]), [0])
        self.assertEqual(asked(1, [LONG], LONG[:31]), [1, 0])

    def test_4096_bytes_of_words_of_one_letter(self):
        words = [LETTERS[number % 36] for number in range(2048)]
        self.assertEqual(len(listed(words)), 4096)
        tens = [number for number in range(2048) if number % 36 == 10]
        others = [number for number in range(2048) if number % 36 != 10]
        self.assertEqual(asked(0, words, "a"), [len(tens)] + tens)
        self.assertEqual(asked(1, words, "a"), [2048] + tens + others)
        self.assertEqual(asked(LAST_MOST, words, ""), [2048] + list(range(2048)))
        # Letters 0 to 9 and a to v lie 31 from the long word, the last four 32.
        inner = [number for number in range(2048) if number % 36 < 32]
        outer = [number for number in range(2048) if number % 36 >= 32]
        self.assertEqual(asked(31, words, LONG), [len(inner)] + inner)
        self.assertEqual(asked(32, words, LONG), [2048] + inner + outer)

    def test_4096_bytes_of_words_of_32_letters(self):
        words = [LETTERS[number % 36] * 32 for number in range(124)] + ["abc"]
        self.assertEqual(len(listed(words)), 4096)
        self.assertEqual(asked(0, words, "0" * 32), [4, 0, 36, 72, 108])
        self.assertEqual(asked(31, words, "0" * 32), [4, 0, 36, 72, 108])
        rest = [number for number in range(125) if number not in (0, 36, 72, 108)]
        self.assertEqual(asked(32, words, "0" * 32), [125, 0, 36, 72, 108] + rest)

    def test_4096_bytes_of_drawn_words(self):
        words = drawn_words(500, 9, LETTERS, 3)
        while len(listed(words)) > 4090:
            words.pop()
        words.append("a" * (4095 - len(listed(words))))
        given = listed(words)
        self.assertEqual(len(given), 4096)
        for a in ("", words[0], words[-1], LONG):
            far = far_from(a, words)
            for most in (0, 4, 7, 8, 9, 32, LAST_MOST):
                self.assertEqual(near(most, given, signs(a)), numbers_near(most, far), (most, a))


class TestPromise5(unittest.TestCase):

    def lists(self):
        """Words to be found near, and words to look among."""
        return (
            (["", "a", "ab", "aab", "b0b"], words_up_to(3, "ab0")[1:]),
            (["abc", "ca", "cab"], words_up_to(3, "abc")[1:] * 2),
            (drawn_words(3, 8, "ab", 1), drawn_words(60, 8, "ab", 2)),
            (drawn_words(3, 32, "abc", 5), drawn_words(30, 32, "abc", 6)),
            (drawn_words(3, 32, LETTERS, 7), drawn_words(30, 32, LETTERS, 8) + drawn_words(30, 5, LETTERS, 9)),
        )

    def test_just_those_that_are_near(self):
        for nears, words in self.lists():
            for a in nears:
                far = far_from(a, words)
                for most in list(range(34)) + [LAST_MOST]:
                    answer = asked(most, words, a)
                    self.assertEqual(answer[0], len(answer) - 1)
                    self.assertEqual(sorted(answer[1:]), [at for at in range(len(words)) if far[at] <= most])

    def test_nearest_first_then_the_lesser_number(self):
        for nears, words in self.lists():
            for a in nears:
                far = far_from(a, words)
                for most in (0, 1, 2, 5, 20, 32, LAST_MOST):
                    for before, behind in itertools.pairwise(asked(most, words, a)[1:]):
                        self.assertLess((far[before], before), (far[behind], behind), (a, words))

    def test_against_reference(self):
        for a in ("", "ab", "ca", "abab", "strasse"):
            words = words_up_to(3, "abc")[1:] + ["strase", "tsrasse", "basta"]
            far = [slips_apart(a, word) for word in words]
            for most in range(9):
                self.assertEqual(asked(most, words, a), numbers_near(most, far), (most, a))

    def test_long_words_against_reference(self):
        for letters in ("ab", "abcd", LETTERS):
            words = drawn_words(6, 32, letters, 11)
            a = words.pop()
            far = [slips_apart(a, word) for word in words]
            for most in range(34):
                self.assertEqual(asked(most, words, a), numbers_near(most, far), (most, a))

    def test_every_word_one_slip_away(self):
        for a in ("", "a", "ab", "aa", "1010"):
            others = sorted(one_slip_from(a) - {""})
            self.assertEqual(asked(0, others, a), [0])
            self.assertEqual(asked(1, others, a), [len(others)] + list(range(len(others))))
            self.assertEqual(asked(1, others + [a + "000", a + "zz"], a), [len(others)] + list(range(len(others))))

    def test_a_smaller_most_leaves_out_the_last_ones_alone(self):
        for nears, words in self.lists():
            for a in nears:
                whole = asked(LAST_MOST, words, a)
                self.assertEqual(sorted(whole[1:]), list(range(len(words))))
                for most in range(33):
                    answer = asked(most, words, a)
                    self.assertEqual(answer[1:], whole[1:1 + answer[0]])

    def test_same_both_ways(self):
        words = words_up_to(2, "ab0")[1:]
        for most in range(3):
            found = {(a, words[number]) for a in words for number in asked(most, words, a)[1:]}
            self.assertEqual(found, {(b, a) for a, b in found})
            self.assertEqual(found, {(a, b) for a in words for b in words if slips_apart(a, b) <= most})


if __name__ == "__main__":
    unittest.main()
