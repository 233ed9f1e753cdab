"""The desk: texts of wide characters become plain words, and words are held against words."""

MOST_CHARACTERS = 512
MOST_LINES = 8
MOST_WORDS = 128
MOST_LETTERS = 32
MOST_CHAINED = 16
MOST_LISTED = 4096

NO_WORD = -1
TOO_MUCH = -2
NONE_THERE = -3
WRONG_AT = -6

PARTS = 0
VANISHES = 1
ENDS_A_LINE = 2
NOT_WIDE = 3
SEVERAL_LETTERS = 256

LAST_CHARACTER = 1114111
FIRST_SURROGATE = 55296
LAST_SURROGATE = 57343

LINE_FEED = 10
BLANK = 32
FIRST_DIGIT = 48
LAST_DIGIT = 57
FIRST_SMALL = 97
LAST_SMALL = 122

# Each row: first character, last character, the letter of the first;
# those behind the first stand for the letters that follow, one by one.
RUNS = (
    (0x30, 0x39, "0"), (0x41, 0x5A, "a"), (0x61, 0x7A, "a"),
    (0x2074, 0x2079, "4"), (0x2080, 0x2089, "0"),
    (0xFF10, 0xFF19, "0"), (0xFF21, 0xFF3A, "a"), (0xFF41, 0xFF5A, "a"),
)

# Each row: first character, last character, what every one of them stands for.
# E0 to FE have no row: they are looked up as the one 20 less.
ALIKE = (
    (0xAA, 0xAA, "a"), (0xB2, 0xB2, "2"), (0xB3, 0xB3, "3"), (0xB9, 0xB9, "1"), (0xBA, 0xBA, "o"),
    (0xC0, 0xC5, "a"), (0xC6, 0xC6, "ae"), (0xC7, 0xC7, "c"), (0xC8, 0xCB, "e"),
    (0xCC, 0xCF, "i"), (0xD0, 0xD0, "d"), (0xD1, 0xD1, "n"), (0xD2, 0xD6, "o"), (0xD8, 0xD8, "o"),
    (0xD9, 0xDC, "u"), (0xDD, 0xDD, "y"), (0xDE, 0xDE, "th"), (0xDF, 0xDF, "ss"), (0xFF, 0xFF, "y"),
    (0x100, 0x105, "a"), (0x106, 0x10D, "c"), (0x10E, 0x111, "d"), (0x112, 0x11B, "e"),
    (0x11C, 0x123, "g"), (0x124, 0x127, "h"), (0x128, 0x131, "i"), (0x132, 0x133, "ij"),
    (0x134, 0x135, "j"), (0x136, 0x138, "k"), (0x139, 0x142, "l"), (0x143, 0x149, "n"),
    (0x14A, 0x14B, "ng"), (0x14C, 0x151, "o"), (0x152, 0x153, "oe"), (0x154, 0x159, "r"),
    (0x15A, 0x161, "s"), (0x162, 0x167, "t"), (0x168, 0x173, "u"), (0x174, 0x175, "w"),
    (0x176, 0x178, "y"), (0x179, 0x17E, "z"), (0x17F, 0x17F, "s"),
    (0x218, 0x219, "s"), (0x21A, 0x21B, "t"),
    (0x1E9E, 0x1E9E, "ss"), (0x2070, 0x2070, "0"), (0x2116, 0x2116, "no"),
    (0xFB00, 0xFB00, "ff"), (0xFB01, 0xFB01, "fi"), (0xFB02, 0xFB02, "fl"), (0xFB03, 0xFB03, "ffi"),
    (0xFB04, 0xFB04, "ffl"), (0xFB05, 0xFB06, "st"),
)

# Each row: first and last of characters that vanish.
VANISHING = (
    (0x27, 0x27), (0x60, 0x60), (0xAD, 0xAD), (0xB4, 0xB4), (0x2BC, 0x2BC),
    (0x300, 0x36F), (0x200B, 0x200D), (0x2018, 0x2019), (0x2060, 0x2060), (0xFEFF, 0xFEFF),
)


class Word:
    """A word of a text: its place, how many characters it spans, the number of its line, its letters."""

    def __init__(self, place, line):
        self.place = place
        self.span = 0
        self.line = line
        self.letters = []

    def take(self, place, letters):
        """Take in the letters of the character at the place."""
        self.span = place - self.place + 1
        self.letters.extend(letters)


def fold(text):
    """Answer how many bytes the folded text has, then the bytes; or a refusal."""
    refused = refusal(text)
    if refused:
        return refused
    folded = folded_bytes(words_of(text))
    return [len(folded)] + folded


def words(text):
    """Answer how many words the text has, then what is told of each; or a refusal."""
    refused = refusal(text)
    if refused:
        return refused
    found = words_of(text)
    answer = [len(found)]
    for word in found:
        answer.extend([word.place, word.span, word.line, digits_alone(word.letters), len(word.letters)])
        answer.extend(word.letters)
    return answer


def apart(a, b):
    """Answer how far apart two words are; or a refusal."""
    if not (is_word(a) and is_word(b)):
        return [NO_WORD]
    return [slips_between(a, b)]


def chain(a, b):
    """Answer how far apart two words are, then the chain from a to b, word by word; or a refusal."""
    if not (is_word(a) and is_word(b)):
        return [NO_WORD]
    if len(a) > MOST_CHAINED or len(b) > MOST_CHAINED:
        return [TOO_MUCH]
    left = slips_between(a, b)
    answer = [left, len(a)] + a
    word = a
    while left > 0:
        left -= 1
        word = next_in_chain(word, b, left)
        answer.append(len(word))
        answer.extend(word)
    return answer


def one(a):
    """Answer how many different words are one slip from a word; or a refusal."""
    if not is_word(a):
        return [NO_WORD]
    return [len(all_one_slip_away(a))]


def nth(i, a):
    """Answer the i-th, in order and from 0 on, of the words one slip from a word; or a refusal."""
    if not is_word(a):
        return [NO_WORD]
    others = all_one_slip_away(a)
    if i >= len(others):
        return [NONE_THERE]
    return [len(others[i])] + others[i]


def near(most, given, a):
    """Answer how many words of a list are at most so many slips from a, then their numbers; or a refusal."""
    refused = refusal_of_list(given)
    if refused:
        return refused
    if not is_word(a):
        return [NO_WORD]
    # Pairs stand in order by their first number, equal ones by their second: the nearer ones first.
    pairs = sorted([(slips_between(a, word), number) for number, word in enumerate(listed_words(given))])
    numbers = [number for slips, number in pairs if slips <= most]
    return [len(numbers)] + numbers


def sorts(text):
    """Answer how many numbers the text has, then of which sort each is; or a refusal."""
    if len(text) > MOST_CHARACTERS:
        return [TOO_MUCH]
    return [len(text)] + [sort_of(number) for number in text]


def refusal(text):
    """Give the answer that refuses the text, or an empty list if nothing is to be refused."""
    if len(text) > MOST_CHARACTERS:
        return [TOO_MUCH]
    for place, number in enumerate(text):
        if not is_wide(number):
            return [WRONG_AT, place]
    if beyond_bounds(words_of(text)):
        return [TOO_MUCH]
    return []


def refusal_of_list(given):
    """Give the answer that refuses the words' list, or an empty list if nothing is to be refused."""
    if len(given) > MOST_LISTED:
        return [TOO_MUCH]
    letters = 0
    for place, byte in enumerate(given):
        if is_letter(byte) and letters < MOST_LETTERS:
            letters += 1
        elif byte == LINE_FEED and letters > 0:
            letters = 0
        else:
            return [WRONG_AT, place]
    if letters > 0:
        return [WRONG_AT, len(given)]
    return []


def is_wide(number):
    """Tell whether the number is a wide character."""
    if number < 1 or number > LAST_CHARACTER:
        return False
    return number < FIRST_SURROGATE or number > LAST_SURROGATE


def letters_of(character):
    """Give the letters that a wide character stands for, as bytes; none if it stands for none."""
    # F7 parts, as D7 does, which has no row: so it needs no exception here.
    sought = character - 0x20 if 0xE0 <= character <= 0xFE else character
    for first, last, letter in RUNS:
        if first <= sought <= last:
            return [ord(letter) + sought - first]
    for first, last, letters in ALIKE:
        if first <= sought <= last:
            return [ord(sign) for sign in letters]
    return []


def vanishes(character):
    """Tell whether a wide character vanishes."""
    for first, last in VANISHING:
        if first <= character <= last:
            return True
    return False


def sort_of(number):
    """Give the number that tells a number's sort: the letter itself where it stands for just one."""
    if not is_wide(number):
        return NOT_WIDE
    letters = letters_of(number)
    if letters:
        return letters[0] if len(letters) == 1 else SEVERAL_LETTERS
    if vanishes(number):
        return VANISHES
    return ENDS_A_LINE if number == LINE_FEED else PARTS


def words_of(text):
    """Give the words, one after another, of a text that has wide characters alone."""
    found = []
    line = 0
    within = False
    for place, character in enumerate(text):
        letters = letters_of(character)
        if letters:
            if not within:
                found.append(Word(place, line))
            found[-1].take(place, letters)
            within = True
        elif not vanishes(character):
            within = False
            # A line without words is none: its end leaves the number to the next one.
            if character == LINE_FEED and found and found[-1].line == line:
                line += 1
    return found


def beyond_bounds(found):
    """Tell whether there are more words, lines or letters of a word than a text may have."""
    if len(found) > MOST_WORDS:
        return True
    if found and found[-1].line >= MOST_LINES:
        return True
    return any([len(word.letters) > MOST_LETTERS for word in found])


def folded_bytes(found):
    """Give the words' letters with a blank between two of one line and a line feed between lines."""
    folded = []
    for number, word in enumerate(found):
        if number > 0:
            folded.append(BLANK if word.line == found[number - 1].line else LINE_FEED)
        folded.extend(word.letters)
    return folded


def digits_alone(letters):
    """Give 1 if all letters are digits, else 0."""
    # Of all letters the digits are the lowest bytes.
    return 0 if any([letter > LAST_DIGIT for letter in letters]) else 1


def is_word(given):
    """Tell whether bytes that are handed over are a word."""
    return len(given) <= MOST_LETTERS and all([is_letter(byte) for byte in given])


def is_letter(byte):
    """Tell whether the byte is a letter."""
    return FIRST_DIGIT <= byte <= LAST_DIGIT or FIRST_SMALL <= byte <= LAST_SMALL


def listed_words(given):
    """Give the words of a list, one after another."""
    found = []
    word = []
    for byte in given:
        if byte == LINE_FEED:
            found.append(word)
            word = []
        else:
            word.append(byte)
    return found


def slips_between(a, b):
    """Give how many slips at least lead from a to b."""
    # Row i, place j: how far apart the first i letters of a and the first j of b are.
    rows = [list(range(len(b) + 1))]
    last_rows = {}
    for letter in a:
        rows.append(row_of(letter, b, rows, last_rows))
        last_rows[letter] = len(rows) - 1
    return rows[-1][-1]


def row_of(letter, b, rows, last_rows):
    """Give the row that a letter of a adds to the rows; last_rows tells the last row of each letter before it."""
    above = rows[-1]
    row = [len(rows)]
    last_place = 0
    for before, other in enumerate(b):
        if letter == other:
            # Taking the last letter that both have from both changes nothing.
            row.append(above[before])
            last_place = before + 1
        else:
            least = 1 + min(above[before], above[before + 1], row[before])
            last_row = last_rows.get(other, 0)
            if last_row > 0 and last_place > 0:
                # The two change places once what lies between them in a is taken away;
                # then what lies between them in b is put in.
                between = len(rows) - last_row - 1 + before - last_place
                least = min(least, rows[last_row - 1][last_place - 1] + between + 1)
            row.append(least)
    return row


def next_in_chain(word, goal, left):
    """Give the first, in order, of the words one slip from the word that have so many slips left to the goal."""
    # A letter that the goal doesn't have would have to go again, which is a slip too many: none is put in.
    others = one_slip_away(word, sorted(set(goal)))
    at = 0
    while slips_between(others[at], goal) != left:
        at += 1
    return others[at]


def all_one_slip_away(word):
    """Give, in order and each once, all words one slip from the word, but for those that are too long for a word."""
    letters = [byte for byte in range(LAST_SMALL + 1) if is_letter(byte)]
    return [other for other in one_slip_away(word, letters) if len(other) <= MOST_LETTERS]


def one_slip_away(word, letters):
    """Give, in order and each once, the words one slip from the word that take new letters from these alone."""
    return sorted(with_one_less(word)) + sorted(with_as_many(word, letters)) + sorted(with_one_more(word, letters))


def with_one_less(word):
    """Give each word that has one letter less, once."""
    # Whichever of equal neighbours is taken away, the same word is left.
    return [word[:at] + word[at + 1:] for at in range(len(word)) if at == 0 or word[at - 1] != word[at]]


def with_as_many(word, letters):
    """Give each word that has one letter changed, or two neighbours in each other's place, once."""
    found = []
    for at, old in enumerate(word):
        found.extend([word[:at] + [letter] + word[at + 1:] for letter in letters if letter != old])
        if at > 0 and word[at - 1] != old:
            found.append(word[:at - 1] + [old, word[at - 1]] + word[at + 1:])
    return found


def with_one_more(word, letters):
    """Give each word that has one letter more, once."""
    found = []
    for at in range(len(word) + 1):
        # Behind its like a letter makes the same word as ahead of it.
        found.extend([word[:at] + [letter] + word[at:] for letter in letters if at == 0 or word[at - 1] != letter])
    return found
