"""The chain from one word to another, and promise 3."""

import itertools
import unittest

import reference
from envelopewords.desk import apart, chain
from reference import LETTERS, in_order, links, one_slip_from, signs, slips_apart

# What lies between the two has been followed by hand.
BY_HAND = (
    ("ca", "abc", ["ca", "ac", "abc"]),
    ("abc", "ca", ["abc", "ac", "ca"]),
    ("abc", "xyz", ["abc", "abz", "ayz", "xyz"]),
    ("ab", "ba", ["ab", "ba"]),
    ("", "a1", ["", "1", "a1"]),
    ("a1", "", ["a1", "1", ""]),
    ("", "aab", ["", "a", "aa", "aab"]),
    ("bca", "", ["bca", "ba", "a", ""]),
    ("axb", "ba", ["axb", "ab", "ba"]),
    ("ab", "bxa", ["ab", "ba", "bxa"]),
    ("strasse", "starsse", ["strasse", "starsse"]),
)

LITTLE_IN_COMMON = (
    ("0123456789abcdef", "klmnopqrstuvwxyz", 16),
    ("klmnopqrstuvwxyz", "0123456789abcdef", 16),
    ("abcdefghijklmnop", "zyxwvutsr9876543", 16),
    ("a" * 16, "b" * 16, 16),
    ("abababababababab", "cdcdcdcdcdcdcdcd", 16),
    ("", "zyxwvutsrqponmlk", 16),
    ("0123456789abcdef", "", 16),
    ("0123456789abcdef", "z", 16),
    ("8pmayc4a4mwcccac", "zyxttrjjifdca700", 15),
)


def told(row):
    """What chain answers when the chain is this row of words."""
    answer = [len(row) - 1]
    for word in row:
        answer += [len(word)] + signs(word)
    return answer


class ChainCase(unittest.TestCase):

    def check_slips(self, a, b):
        """The chain is one of slips, and as short as a and b are apart; gives its words."""
        answer = chain(signs(a), signs(b))
        row = links(answer)
        self.assertEqual(answer, told(row), (a, b))
        self.assertEqual([answer[0]], apart(signs(a), signs(b)), (a, b))
        self.assertEqual(row[0], a)
        self.assertEqual(row[-1], b)
        for word, other in itertools.pairwise(row):
            self.assertIn(other, one_slip_from(word), (a, b, row))
        return row

    def check_first(self, row):
        """Of the words one slip on, those that stand before the row's next one come no nearer to its end."""
        end = signs(row[-1])
        for at, (word, chosen) in enumerate(itertools.pairwise(row), start=1):
            left = len(row) - 1 - at
            for other in one_slip_from(word):
                if in_order(other) < in_order(chosen) and apart(signs(other), end)[0] <= left:
                    self.fail(f"{row}: {other!r} stands before {chosen!r}")


class TestChain(ChainCase):

    def test_by_hand(self):
        for a, b, row in BY_HAND:
            self.assertEqual(chain(signs(a), signs(b)), told(row), (a, b))
            self.check_slips(a, b)

    def test_answer_in_full(self):
        self.assertEqual(chain([99, 97], [97, 98, 99]), [2, 2, 99, 97, 2, 97, 99, 3, 97, 98, 99])

    def test_a_equal_to_b(self):
        for word in ("", "a", "0", "aa", "strasse", "a" * 16, LETTERS[:16]):
            self.assertEqual(chain(signs(word), signs(word)), [0, len(word)] + signs(word))

    def test_without_letters(self):
        self.assertEqual(chain([], []), [0, 0])
        self.assertEqual(chain([], [97]), [1, 0, 1, 97])
        self.assertEqual(chain([97], []), [1, 1, 97, 0])
        for size in range(17):
            self.assertEqual(chain(signs("a" * size), []), told(["a" * less for less in range(size, -1, -1)]))
            self.assertEqual(chain([], signs("a" * size)), told(["a" * more for more in range(size + 1)]))

    def test_each_kind_of_slip(self):
        for a, b in (("abc", "ac"), ("ac", "abc"), ("abc", "axc"), ("abc", "bac")):
            self.assertEqual(chain(signs(a), signs(b)), told([a, b]))

    def test_shorter_words_stand_before(self):
        # By "bz" or "ab" it's no farther, but those stand behind the shorter "b".
        self.assertEqual(links(chain(signs("zb"), signs("ba"))), ["zb", "b", "ba"])
        self.assertEqual(links(chain(signs("ba"), signs("zb"))), ["ba", "b", "zb"])

    def test_digits_stand_before_small_letters(self):
        self.assertEqual(links(chain([], signs("z9a0"))), ["", "0", "90", "9a0", "z9a0"])

    def test_long_common_parts(self):
        self.assertEqual(links(chain(signs("xxxxxxxcaxxxxxxx"), signs("xxxxxxxacxxxxxxx"))),
                         ["xxxxxxxcaxxxxxxx", "xxxxxxxacxxxxxxx"])
        self.assertEqual(links(chain(signs("1234567ca1234567"), signs("1234567abc123456"))),
                         ["1234567ca1234567", "1234567ca123456", "1234567ac123456", "1234567abc123456"])


class TestPromise3(ChainCase):

    def test_all_short_words(self):
        for size, letters in ((5, "ab"), (3, "ab0")):
            walk = reference.Walk(size + 1, letters + "c")
            for a, b in itertools.product(reference.words_up_to(size, letters), repeat=2):
                if chain(signs(a), signs(b)) != told(walk.first_row(a, b)):
                    self.fail(f"from {a!r} to {b!r}: {walk.first_row(a, b)}")

    def test_words_of_5_letters(self):
        walk = reference.Walk(6, "abc")
        words = ["", "abcab", "bbcca", "cbabc", "aaaaa", "cba", "ccaab", "babab", "cabca", "bc"]
        for a, b in itertools.product(words, repeat=2):
            self.assertEqual(links(chain(signs(a), signs(b))), list(walk.first_row(a, b)))

    def test_longer_words(self):
        for size, letters in ((6, "abc"), (8, "ab01"), (9, "ab"), (7, LETTERS)):
            words = reference.drawn_words(6, size, letters, size)
            for a, b in itertools.permutations(words, 2):
                self.check_first(self.check_slips(a, b))

    def test_16_letters_that_have_little_in_common(self):
        for a, b, slips in LITTLE_IN_COMMON:
            row = self.check_slips(a, b)
            self.assertEqual(len(row), slips + 1, (a, b))
            self.assertEqual(slips_apart(a, b), slips)

    def test_16_letters_first_of_all_rows(self):
        for a, b, slips in LITTLE_IN_COMMON:
            self.check_first(self.check_slips(a, b))

    def test_16_letters_drawn(self):
        for letters in ("ab", "abc0", LETTERS):
            for a, b in itertools.permutations(reference.drawn_words(4, 16, letters, 7), 2):
                row = self.check_slips(a, b)
                self.assertEqual(len(row) - 1, slips_apart(a, b))


if __name__ == "__main__":
    unittest.main()
