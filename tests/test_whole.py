"""What holds over the whole program: the calls tell the same of one thing, and points 1 to 3 over what is drawn."""

import itertools
import unittest

import reference
from envelopewords.desk import apart, chain, fold, near, nth, one, sorts, words
from reference import LETTERS, draw, drawn_words, in_order, letters_alone, links, listed, one_slip_from, signs, written

A = ord("a")
B = ord("b")

# Of each sort some characters; of those that stand for letters each stands for the same as its neighbours.
LIKE = (
    (0x61, 0x41, 0xAA, 0xC4, 0xE5, 0x100, 0x105, 0xFF21, 0xFF41),
    (0x65, 0x45, 0xC8, 0xEB, 0x112, 0x11B, 0xFF25),
    (0x73, 0x53, 0x15A, 0x161, 0x17F, 0x218, 0x219, 0xFF33),
    (0x79, 0x59, 0xDD, 0xFD, 0xFF, 0x176, 0x178),
    (0x30, 0x2070, 0x2080, 0xFF10),
    (0x32, 0xB2, 0x2082, 0xFF12),
    (0xDF, 0x1E9E),
    (0xC6, 0xE6),
    (0xFB05, 0xFB06),
    (0x27, 0x60, 0xAD, 0xB4, 0x2BC, 0x300, 0x36F, 0x200B, 0x2019, 0x2060, 0xFEFF),
    (0x20, 0x09, 0x2C, 0xD7, 0xF7, 0x2028, 0x3042, 0xE000, 0x10FFFF),
)


def drawn_texts(seed):
    """Texts of all sizes, of characters out of LIKE; a few lines in each."""
    texts = []
    for size in list(range(40)) + list(range(40, 513, 43)):
        rows = [LIKE[number % len(LIKE)] for number in draw(size, seed + size)]
        text = [row[number % len(row)] for row, number in zip(rows, draw(size, seed * 7 + size))]
        for number in draw(min(size, 5), seed * 3 + size):
            text[number % size] = 10
        texts.append(text)
    return texts


def with_others_alike(text, seed):
    """Each character changed for one of its row in LIKE."""
    row_of = {character: row for row in LIKE for character in row}
    rows = [row_of.get(character, (character,)) for character in text]
    return [row[number % len(row)] for row, number in zip(rows, draw(len(text), seed))]


def all_drawn():
    """Words of all lengths, of few letters and of many."""
    found = ["", "a", "b"]
    for size, letters in ((2, "ab"), (4, "ab"), (7, "abc"), (12, "ab01"), (16, "ab"), (24, LETTERS), (32, "ab"),
                          (32, LETTERS)):
        found += drawn_words(3, size, letters, size + 13)
    return found


def all_far(samples):
    """How far apart each two of the words are."""
    return {(a, b): apart(signs(a), signs(b))[0] for a in samples for b in samples}


class TestSortsAndFoldAndWords(unittest.TestCase):

    def expected(self, character, sort):
        """What fold and words answer of the character between an a and a b, by what sorts tells of it."""
        if sort == 3:
            return [-6, 1], [-6, 1]
        if sort == 0:
            return [3, A, 32, B], [2, 0, 1, 0, 0, 1, A, 2, 1, 0, 0, 1, B]
        if sort == 2:
            return [3, A, 10, B], [2, 0, 1, 0, 0, 1, A, 2, 1, 1, 0, 1, B]
        letters = [] if sort == 1 else [sort]
        if sort == 256:
            letters = fold([character])[1:]
        joined = [A] + letters + [B]
        return [len(joined)] + joined, [1, 0, 3, 0, 0, len(joined)] + joined

    def check(self, character):
        sort = sorts([character])[1]
        expected = self.expected(character, sort)
        if (fold([A, character, B]), words([A, character, B])) != expected:
            self.fail(f"{character:X} is of sort {sort}")
        if sort == 256 and fold([character])[0] not in (2, 3):
            self.fail(f"{character:X} stands for {fold([character])}")

    def test_every_number_of_the_first_65536(self):
        for character in range(0x10000):
            self.check(character)

    def test_numbers_beyond_them(self):
        for number in (-2147483648, -97, -1, 0x10000, 0x10061, 0x1F600, 0x10FFFF, 0x110000, 0x110061, 2147483647):
            self.check(number)

    def test_first_that_is_no_wide_character(self):
        for place in range(0, 512, 37):
            for wrong in (0, -5, 55296, 57343, 1114112):
                text = [32] * 512
                text[place] = wrong
                text[-1] = 0
                self.assertEqual(fold(text), [-6, sorts(text)[1:].index(3)])
                self.assertEqual(words(text), [-6, sorts(text)[1:].index(3)])

    def test_what_is_folded_has_letters_blanks_and_line_feeds(self):
        for text in drawn_texts(1):
            folded = fold(text)
            if folded[0] >= 0 and folded[0] <= 512:
                kept = [{32: 0, 10: 2}.get(byte, byte) for byte in folded[1:]]
                self.assertEqual(sorts(folded[1:]), [folded[0]] + kept)


class TestPoint1(unittest.TestCase):

    def test_most_drawn_texts_are_taken(self):
        taken = [text for seed in (1, 2, 3) for text in drawn_texts(seed) if fold(text)[0] >= 0]
        self.assertGreater(len(taken), 100)
        self.assertGreater(max(map(len, taken)), 300)

    def test_folded_again_is_the_same(self):
        for seed in (1, 2, 3):
            for text in drawn_texts(seed):
                once = fold(text)
                if 0 <= once[0] <= 512:
                    self.assertEqual(fold(once[1:]), once, text)
                    self.assertEqual(letters_alone(words(once[1:])), letters_alone(words(text)), text)

    def test_characters_of_one_sort_may_change_for_another(self):
        for seed in (1, 2, 3):
            for text in drawn_texts(seed):
                other = with_others_alike(text, seed)
                self.assertEqual(sorts(other), sorts(text))
                self.assertEqual(fold(other), fold(text), text)
                # Each stands where the other stood, so even places and spans are the same.
                self.assertEqual(words(other), words(text), text)

    def test_vanishing_ones_may_be_left_out(self):
        for seed in (1, 2, 3):
            for text in drawn_texts(seed):
                kept = [character for character, sort in zip(text, sorts(text)[1:]) if sort != 1]
                self.assertEqual(fold(kept), fold(text), text)
                self.assertEqual(letters_alone(words(kept)), letters_alone(words(text)), text)

    def test_words_are_what_is_folded(self):
        for seed in (1, 2, 3):
            for text in drawn_texts(seed):
                told = words(text)
                if told[0] < 0:
                    self.assertEqual(fold(text), told, text)
                    continue
                rows = {}
                for line, digits, letters in letters_alone(told):
                    rows.setdefault(line, []).append(written(letters))
                self.assertEqual(list(rows), list(range(len(rows))))
                folded = "\n".join(" ".join(row) for row in rows.values())
                self.assertEqual(fold(text), [len(folded)] + signs(folded), text)

    def test_drawn_texts_against_reference(self):
        for seed in (1, 2, 3):
            for text in drawn_texts(seed):
                self.assertEqual(fold(text), reference.fold(text), text)
                self.assertEqual(words(text), reference.words(text), text)
                self.assertEqual(sorts(text), [len(text)] + [reference.sort_of(number) for number in text])


class TestPoint2(unittest.TestCase):

    def test_a_measure(self):
        samples = all_drawn()
        far = all_far(samples)
        for a, b in far:
            self.assertEqual(far[a, b] == 0, a == b, (a, b))
            self.assertEqual(far[a, b], far[b, a], (a, b))
        for a, b, third in itertools.product(samples, repeat=3):
            if far[a, b] > far[a, third] + far[third, b]:
                self.fail(f"{a!r} and {b!r} by way of {third!r}")

    def test_first_and_last_letters_that_both_have(self):
        for (a, b), slips in all_far(all_drawn()).items():
            room = 32 - max(len(a), len(b))
            for letter in "a7"[:room]:
                self.assertEqual(apart(signs(letter + a), signs(letter + b)), [slips], (a, b))
                self.assertEqual(apart(signs(a + letter), signs(b + letter)), [slips], (a, b))


class TestPoint3(unittest.TestCase):

    def check(self, a, b):
        answer = chain(signs(a), signs(b))
        row = links(answer)
        self.assertEqual([answer[0]], apart(signs(a), signs(b)))
        self.assertEqual(len(row), answer[0] + 1)
        self.assertEqual((row[0], row[-1]), (a, b))
        for left, (word, other) in zip(range(answer[0] - 1, -1, -1), itertools.pairwise(row)):
            beside = one_slip_from(word)
            self.assertIn(other, beside)
            for third in beside:
                if in_order(third) < in_order(other) and apart(signs(third), signs(b))[0] <= left:
                    self.fail(f"{row}: {third!r} stands before {other!r}")

    def test_drawn_words(self):
        for size, letters, seed in ((4, "ab", 1), (5, "abc", 2), (6, LETTERS, 3), (10, "a0", 4)):
            for a, b in itertools.permutations(drawn_words(3, size, letters, seed), 2):
                self.check(a, b)
                self.check("", a)
                self.check(a, "")


class TestCallsTellTheSame(unittest.TestCase):

    def test_words_of_a_chain_come_nearer_one_by_one(self):
        for a, b in itertools.permutations(drawn_words(4, 16, "abcd", 5) + ["ca", "abc"], 2):
            row = links(chain(signs(a), signs(b)))
            backwards = list(range(len(row) - 1, -1, -1))
            for most in (0, 1, 5, len(row)):
                answer = near(most, listed(row), signs(b))
                self.assertEqual(answer[1:], backwards[:most + 1], (a, b))
            self.assertEqual(near(99, listed(row), signs(a))[1:], list(range(len(row))), (a, b))

    def test_words_one_slip_away_are_near(self):
        for a in ("", "z", "aab", "1010"):
            others = [nth(i, signs(a))[1:] for i in range(one(signs(a))[0])]
            given = [byte for other in others if other for byte in other + [10]]
            count = given.count(10)
            self.assertEqual(near(0, given, signs(a)), [0])
            self.assertEqual(near(1, given, signs(a)), [count] + list(range(count)))

    def test_words_of_a_folded_text_are_found_in_a_list(self):
        text = signs("Jos\u00e9 M\u00fcller\n\u0132sselstra\u00dfe 12\nWien")
        given = [10 if byte == 32 else byte for byte in fold(text)[1:]] + [10]
        self.assertEqual(near(0, given, fold(signs("IJsselstrasse"))[1:]), [1, 2])
        self.assertEqual(near(1, given, fold(signs("Mueller"))[1:]), [1, 1])
        self.assertEqual(near(0, given, fold(signs("W\u00cfNE"))[1:]), [0])
        self.assertEqual(near(1, given, fold(signs("W\u00cfNE"))[1:]), [1, 4])


if __name__ == "__main__":
    unittest.main()
