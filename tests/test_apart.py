"""How far apart two words are, and promise 2."""

import itertools
import unittest

import reference
from envelopewords.desk import apart
from reference import LETTERS, signs, slips_apart

LONG_PAIRS = (
    ("0123456789abcdefghijklmnopqrstuv", "zyxwzyxwzyxwzyxwzyxwzyxwzyxwzyxw", 32),
    ("a" * 32, "b" * 32, 32),
    ("abababababababababababababababab", "cdcdcdcdcdcdcdcdcdcdcdcdcdcdcdcd", 32),
    ("a" * 32, "b" * 20, 32),
    ("a" * 32, "b", 32),
    ("a" * 32, "", 32),
    ("a" * 32, "a", 31),
    ("abababababababababababababababab", "babababababababababababababababa", 2),
    ("0123456789abcdefghijklmnopqrstuv", "1032547698badcfehgjilknmporqtsvu", 16),
    ("0123456789abcdefghijklmnopqrstuv", "v0123456789abcdefghijklmnopqrstu", 2),
    ("ca1ca2ca3ca4ca5ca6ca7ca8", "abc1abc2abc3abc4abc5abc6abc7abc8", 16),
)


def far(a, b):
    """What apart answers of two words, without the list about it."""
    answer = apart(signs(a), signs(b))
    if len(answer) != 1:
        raise AssertionError(f"apart({a!r}, {b!r}) answers {answer}")
    return answer[0]


class ApartCase(unittest.TestCase):

    def both_ways(self, a, b, slips):
        self.assertEqual(apart(signs(a), signs(b)), [slips], (a, b))
        self.assertEqual(apart(signs(b), signs(a)), [slips], (b, a))


class TestOneSlip(ApartCase):

    def test_letter_taken_away_or_put_in(self):
        for shorter, longer in (("bc", "abc"), ("ac", "abc"), ("ab", "abc"), ("", "a"), ("a", "aa"), ("aa", "aaa"),
                                ("a" * 31, "a" * 32), (LETTERS[:31], LETTERS[:32]), (LETTERS[1:32], LETTERS[:32])):
            self.assertEqual(apart(signs(longer), signs(shorter)), [1])
            self.assertEqual(apart(signs(shorter), signs(longer)), [1])

    def test_letter_changed(self):
        for a, b in (("abc", "xbc"), ("abc", "axc"), ("abc", "abx"), ("a", "b"), ("0", "z"), ("9", "a"),
                     ("aaa", "aba"), ("a" * 32, "a" * 16 + "b" + "a" * 15)):
            self.both_ways(a, b, 1)

    def test_neighbours_change_places(self):
        for a, b in (("ab", "ba"), ("abc", "bac"), ("abc", "acb"), ("0z", "z0"), ("aab", "aba"),
                     (LETTERS[:32], LETTERS[:15] + LETTERS[16] + LETTERS[15] + LETTERS[17:32])):
            self.both_ways(a, b, 1)

    def test_every_slip_from_a_word(self):
        for word in ("", "a", "aa", "ab", "b0b", "strasse", "1010", "z" * 31, LETTERS[:31]):
            for other in reference.one_slip_from(word):
                self.both_ways(word, other, 1)


class TestSeveralSlips(ApartCase):

    def test_none(self):
        for word in ("", "a", "aa", "strasse", "0" * 32, LETTERS[:32]):
            self.assertEqual(apart(signs(word), signs(word)), [0])

    def test_ordinary_words(self):
        for a, b, slips in (("strasse", "strase", 1), ("strasse", "starsse", 1), ("muller", "mueller", 1),
                            ("kitten", "sitting", 3), ("wien", "bern", 3), ("abc", "xyz", 3), ("1010", "0101", 2),
                            ("saturday", "sunday", 3)):
            self.both_ways(a, b, slips)

    def test_several_slips_touch_one_letter(self):
        # In each two letters change places round or into others: a letter is touched more than once.
        for a, b, slips in (("ca", "abc", 2), ("ac", "cba", 2), ("axb", "ba", 2), ("ab", "bxa", 2), ("ab", "bxya", 3),
                            ("axyb", "ba", 3), ("abc", "bca", 2), ("abcd", "bcda", 2), ("xcay", "xabcy", 2)):
            self.both_ways(a, b, slips)

    def test_equal_neighbours(self):
        for a, b, slips in (("aab", "baa", 2), ("aabb", "bbaa", 3), ("aabb", "abab", 1), ("aaaa", "aa", 2)):
            self.both_ways(a, b, slips)

    def test_without_letters(self):
        self.assertEqual(apart([], []), [0])
        for size in range(1, 33):
            self.both_ways("", LETTERS[:size], size)
            self.both_ways("", "a" * size, size)

    def test_32_letters(self):
        for a, b, slips in LONG_PAIRS:
            self.both_ways(a, b, slips)

    def test_letters_are_held_by_their_bytes(self):
        for a, b in itertools.combinations(LETTERS, 2):
            self.assertEqual(far(a, b), 1)
            self.assertEqual(far(a + b, b + a), 1)


class TestAgainstReference(unittest.TestCase):

    def check_all(self, size, letters):
        """All words of at most the size; the walk may go by way of longer ones."""
        walk = reference.Walk(size + 1, letters)
        words = reference.words_up_to(size, letters)
        for a in words:
            slips = walk.all_from(a)
            for b in words:
                if apart(signs(a), signs(b)) != [slips[b]]:
                    self.fail(f"{a!r} and {b!r} are {slips[b]} apart, not {apart(signs(a), signs(b))}")

    def test_all_short_words(self):
        self.check_all(6, "ab")
        self.check_all(4, "ab0")
        self.check_all(3, "ab01")

    def test_long_words(self):
        for size, letters in ((32, "ab"), (32, "abc"), (32, "abcdef01"), (32, LETTERS), (12, "abc"), (20, "a0b9")):
            words = reference.drawn_words(7, size, letters, size + len(letters))
            for a, b in itertools.combinations(words, 2):
                self.assertEqual(far(a, b), slips_apart(a, b), (a, b))
        for a, b, slips in LONG_PAIRS:
            self.assertEqual(slips_apart(a, b), slips)

    def test_long_words_with_few_slips(self):
        for word in reference.drawn_words(4, 30, LETTERS, 5):
            other = word[1:5] + word[6] + word[5] + "0" + word[7:12] + word[13:] + "ab"
            for a, b in ((word, other), (other, word), (word, word[::-1]), (word, word[16:] + word[:16])):
                self.assertEqual(far(a, b), slips_apart(a, b), (a, b))


class TestPromise2(unittest.TestCase):

    def samples(self):
        return (reference.words_up_to(2, "ab0") + ["ca", "abc", "cab", "bca", "a" * 32, "ab" * 16, "ba" * 16]
                + reference.drawn_words(3, 32, "abc", 9) + reference.drawn_words(3, 32, LETTERS, 3)
                + reference.drawn_words(4, 8, "ab", 2))

    def table(self):
        return {pair: far(*pair) for pair in itertools.product(self.samples(), repeat=2)}

    def test_0_just_of_a_word_and_itself(self):
        for (a, b), slips in self.table().items():
            self.assertEqual(slips == 0, a == b, (a, b))
            self.assertGreaterEqual(slips, 0)

    def test_same_both_ways(self):
        table = self.table()
        for a, b in table:
            self.assertEqual(table[a, b], table[b, a], (a, b))

    def test_never_more_than_by_way_of_a_third(self):
        table = self.table()
        samples = self.samples()
        for a, b in table:
            by_way = min(table[a, third] + table[third, b] for third in samples)
            self.assertLessEqual(table[a, b], by_way, (a, b))

    def test_never_more_than_by_way_of_a_third_of_short_words(self):
        words = reference.words_up_to(4, "ab")
        table = {(a, b): far(a, b) for a in words for b in words}
        for a, b, third in itertools.product(words, repeat=3):
            if table[a, b] > table[a, third] + table[third, b]:
                self.fail(f"{a!r} and {b!r} by way of {third!r}")

    def test_first_letter_that_both_have(self):
        for (a, b), slips in self.table().items():
            for letter in "ab0":
                if max(len(a), len(b)) < 32:
                    self.assertEqual(far(letter + a, letter + b), slips, (letter, a, b))
            if a and b and a[0] == b[0]:
                self.assertEqual(far(a[1:], b[1:]), slips, (a, b))

    def test_last_letter_that_both_have(self):
        for (a, b), slips in self.table().items():
            for letter in "ab0":
                if max(len(a), len(b)) < 32:
                    self.assertEqual(far(a + letter, b + letter), slips, (a, b, letter))
            if a and b and a[-1] == b[-1]:
                self.assertEqual(far(a[:-1], b[:-1]), slips, (a, b))


if __name__ == "__main__":
    unittest.main()
