"""Promise 1, and what the interface says of every call."""

import contextlib
import io
import itertools
import unittest

from envelopewords import desk
from envelopewords.desk import apart, chain, fold, near, nth, one, sorts, words
from reference import letters_alone, listed, signs

TEXTS = (
    [],
    signs("Jos\u00e9 O\u2019Neill,\n12-14 \u0132sselstra\u00dfe\n\n\u21161 \ufb03"),
    [32] * 512,
    [32] * 513,
    [97, 0, 97],
    [97] * 33,
    [97, 10] * 9,
    [97, 32] * 129,
    [-2147483648, 2147483647],
)

PAIRS = (
    ([], []),
    ([], signs("abc")),
    (signs("ca"), signs("abc")),
    (signs("abc"), signs("ca")),
    (signs("strasse"), signs("strasse")),
    (signs("0123456789abcdef"), signs("zyxwvutsrqponmlk")),
    ([97] * 32, [98] * 32),
    ([97] * 33, [98]),
    ([98], [97] * 60),
    ([65], signs("a")),
    ([97] * 17, [0]),
)

WORDS = (
    [],
    signs("a"),
    signs("aab"),
    signs("1010"),
    [97] * 31,
    signs("0123456789abcdefghijklmnopqrstuv"),
    [97] * 33,
    [97] * 60,
    [65],
)

LISTS = (
    [],
    listed(["wien", "bern", "wien", "a"]),
    listed(["a" * 32]),
    [97, 10] * 2048,
    [97, 10] * 2048 + [97],
    signs("a\nb"),
    [10],
    [97] * 33,
    signs("A\n"),
)

# Of each call what it is handed, time after time.
CALLS = (
    (fold, [(text,) for text in TEXTS]),
    (words, [(text,) for text in TEXTS]),
    (apart, PAIRS),
    (chain, PAIRS),
    (one, [(word,) for word in WORDS]),
    (nth, [(i, word) for word in WORDS for i in (0, 40, 1100, 4294967295)]),
    (near, [(most, given, word) for given in LISTS for word in WORDS[::2] for most in (0, 2, 4294967295)]),
    (sorts, [(text,) for text in TEXTS]),
)


class Unchangeable(list):
    """A list that refuses to be changed, even for a while."""

    def refuse(self, *given, **named):
        raise AssertionError("what was handed in is changed")

    append = clear = extend = insert = pop = remove = reverse = sort = refuse
    __setitem__ = __delitem__ = __iadd__ = __imul__ = refuse


def copies(sample, kind=list):
    """What a call is handed, its lists as lists of this kind of its own."""
    return [kind(given) if isinstance(given, list) else given for given in sample]


class TestFoldedAgain(unittest.TestCase):

    def check(self, text):
        once = fold(text)
        self.assertEqual(once[0], len(once) - 1)
        # A folded text may have more numbers than one that is handed in: then it is refused like any other.
        if len(once) - 1 > 512:
            self.assertEqual(fold(once[1:]), [-2])
            return
        self.assertEqual(fold(once[1:]), once)
        self.assertEqual(letters_alone(words(once[1:])), letters_alone(words(text)))

    def test_short_texts(self):
        for size in range(6):
            for text in itertools.product((0x41, 0xFB04, 0x32, 0x2019, 0x2C, 10), repeat=size):
                self.check(list(text))

    def test_at_the_bounds(self):
        self.check([0x41, 44] * 128)
        self.check(signs("\n \n".join("ABCDEFGH")))
        self.check([0xC6] * 16)
        self.check(([0xFB03] * 10 + [32]) * 16)
        self.check(([0xFB03] * 10 + [32]) * 17)
        self.check([32] * 512)

    def test_folded_ends_with_a_word(self):
        for text in (signs(" a "), signs("\na\n"), signs("a\n\n "), signs("a'\n'")):
            self.assertEqual(fold(text), [1, 97])


class TestWordsHangOnLettersAlone(unittest.TestCase):

    def check_same(self, text, other):
        self.assertEqual(fold(text), fold(other))
        self.assertEqual(letters_alone(words(text)), letters_alone(words(other)))

    def test_vanishing_characters_change_nothing(self):
        plain = signs("ab 12\n\nc")
        for place in range(len(plain) + 1):
            for vanishing in (0x27, 0x300, 0x200D, 0xFEFF):
                self.check_same(plain, plain[:place] + [vanishing] + plain[place:])

    def test_which_character_parts_changes_nothing(self):
        for parting in (1, 9, 13, 44, 0xD7, 0xF7, 0x3042, 0x10FFFF):
            self.check_same(signs("ab 12\nc d"), [parting if c == 32 else c for c in signs("ab 12\nc d")])

    def test_which_character_stands_for_the_letters_changes_nothing(self):
        self.check_same(signs("strasse"), signs("\uff33T\u0155\u00c0\u1e9e\u00cb"))
        self.check_same(signs("ffl"), [0xFB04])
        self.check_same(signs("ffl"), [0xFB00, 0x13F])


class TestEveryCall(unittest.TestCase):

    def test_what_is_handed_in_stays(self):
        for call, samples in CALLS:
            for sample in samples:
                given = copies(sample)
                call(*given)
                self.assertEqual(given, list(sample))
                call(*copies(sample, Unchangeable))

    def test_one_list_handed_in_twice(self):
        for call in (apart, chain):
            for a, b in PAIRS:
                given = list(a)
                self.assertEqual(call(given, given), call(list(a), list(a)))
                self.assertEqual(given, a)
        for given in LISTS:
            kept = list(given)
            self.assertEqual(near(1, given, given), near(1, list(kept), list(kept)))
            self.assertEqual(given, kept)

    def test_nothing_is_kept(self):
        for call, samples in CALLS:
            for sample in samples:
                first = call(*copies(sample))
                kept = list(first)
                first.append(7)
                first[0] = 99
                self.assertEqual(call(*copies(sample)), kept)
            answers = [call(*copies(sample)) for sample in samples]
            backwards = [call(*copies(sample)) for sample in reversed(samples)]
            self.assertEqual(answers, list(reversed(backwards)))

    def test_other_calls_between_change_nothing(self):
        answers = [call(*copies(sample)) for call, samples in CALLS for sample in samples]
        for call, samples in reversed(CALLS):
            call(*copies(samples[1]))
        self.assertEqual(answers, [call(*copies(sample)) for call, samples in CALLS for sample in samples])

    def test_answer_is_another_list(self):
        for call, samples in CALLS:
            for sample in samples:
                given = copies(sample)
                answer = call(*given)
                self.assertFalse(any(answer is part for part in given))
                self.assertIsNot(answer, call(*given))

    def test_changing_one_answer_leaves_the_other(self):
        for call, samples in CALLS:
            for sample in samples:
                given = copies(sample)
                first = call(*given)
                second = call(*given)
                first.clear()
                self.assertEqual(second, call(*given))
                self.assertEqual(given, list(sample))

    def test_answers_are_lists_of_whole_numbers(self):
        for call, samples in CALLS:
            for sample in samples:
                answer = call(*copies(sample))
                self.assertIs(type(answer), list)
                self.assertEqual({type(number) for number in answer}, {int})

    def test_nothing_is_printed(self):
        out = io.StringIO()
        with contextlib.redirect_stdout(out), contextlib.redirect_stderr(out):
            for call, samples in CALLS:
                for sample in samples:
                    call(*copies(sample))
        self.assertEqual(out.getvalue(), "")

    def test_names_of_arguments(self):
        self.assertEqual(desk.fold(text=[65]), [1, 97])
        self.assertEqual(desk.words(text=[65]), [1, 0, 1, 0, 0, 1, 97])
        self.assertEqual(desk.apart(b=[97, 98], a=[]), [2])
        self.assertEqual(desk.chain(b=[97], a=[]), [1, 0, 1, 97])
        self.assertEqual(desk.one(a=[97]), [107])
        self.assertEqual(desk.nth(a=[97], i=1), [1, 48])
        self.assertEqual(desk.near(a=[97], given=[98, 10, 97, 10], most=1), [2, 1, 0])
        self.assertEqual(desk.sorts(text=[65]), [1, 97])


if __name__ == "__main__":
    unittest.main()
