"""The desk: texts of wide characters are read into plain words, and folded."""

MOST_CHARACTERS = 512
MOST_LINES = 8
MOST_WORDS = 128
MOST_LETTERS = 32

TOO_MUCH = -2
NO_CHARACTER = -6

LAST_CHARACTER = 1114111
FIRST_SURROGATE = 55296
LAST_SURROGATE = 57343

LINE_FEED = 10
BLANK = 32
LAST_DIGIT = 57

# Each row: first character, last character, the letter of the first;
# those behind the first stand for the letters that follow, one by one.
RUNS = (
    (0x30, 0x39, "0"),
    (0x41, 0x5A, "a"),
    (0x61, 0x7A, "a"),
    (0x2074, 0x2079, "4"),
    (0x2080, 0x2089, "0"),
    (0xFF10, 0xFF19, "0"),
    (0xFF21, 0xFF3A, "a"),
    (0xFF41, 0xFF5A, "a"),
)

# Each row: first character, last character, what every one of them stands for.
# E0 to FE have no row: they are looked up as the one 20 less.
ALIKE = (
    (0xAA, 0xAA, "a"),
    (0xB2, 0xB2, "2"),
    (0xB3, 0xB3, "3"),
    (0xB9, 0xB9, "1"),
    (0xBA, 0xBA, "o"),
    (0xC0, 0xC5, "a"),
    (0xC6, 0xC6, "ae"),
    (0xC7, 0xC7, "c"),
    (0xC8, 0xCB, "e"),
    (0xCC, 0xCF, "i"),
    (0xD0, 0xD0, "d"),
    (0xD1, 0xD1, "n"),
    (0xD2, 0xD6, "o"),
    (0xD8, 0xD8, "o"),
    (0xD9, 0xDC, "u"),
    (0xDD, 0xDD, "y"),
    (0xDE, 0xDE, "th"),
    (0xDF, 0xDF, "ss"),
    (0xFF, 0xFF, "y"),
    (0x100, 0x105, "a"),
    (0x106, 0x10D, "c"),
    (0x10E, 0x111, "d"),
    (0x112, 0x11B, "e"),
    (0x11C, 0x123, "g"),
    (0x124, 0x127, "h"),
    (0x128, 0x131, "i"),
    (0x132, 0x133, "ij"),
    (0x134, 0x135, "j"),
    (0x136, 0x138, "k"),
    (0x139, 0x142, "l"),
    (0x143, 0x149, "n"),
    (0x14A, 0x14B, "ng"),
    (0x14C, 0x151, "o"),
    (0x152, 0x153, "oe"),
    (0x154, 0x159, "r"),
    (0x15A, 0x161, "s"),
    (0x162, 0x167, "t"),
    (0x168, 0x173, "u"),
    (0x174, 0x175, "w"),
    (0x176, 0x178, "y"),
    (0x179, 0x17E, "z"),
    (0x17F, 0x17F, "s"),
    (0x218, 0x219, "s"),
    (0x21A, 0x21B, "t"),
    (0x1E9E, 0x1E9E, "ss"),
    (0x2070, 0x2070, "0"),
    (0x2116, 0x2116, "no"),
    (0xFB00, 0xFB00, "ff"),
    (0xFB01, 0xFB01, "fi"),
    (0xFB02, 0xFB02, "fl"),
    (0xFB03, 0xFB03, "ffi"),
    (0xFB04, 0xFB04, "ffl"),
    (0xFB05, 0xFB06, "st"),
)

# Each row: first and last of characters that vanish.
VANISHING = (
    (0x27, 0x27),
    (0x60, 0x60),
    (0xAD, 0xAD),
    (0xB4, 0xB4),
    (0x2BC, 0x2BC),
    (0x300, 0x36F),
    (0x200B, 0x200D),
    (0x2018, 0x2019),
    (0x2060, 0x2060),
    (0xFEFF, 0xFEFF),
)


class Word:
    """A word of a text: its place, how many characters it spans, the number of its line, its letters."""

    def __init__(self, place, line):
        self.place = place
        self.span = 0
        self.line = line
        self.letters = []

    def take(self, place, letters):
        """Take in the letters of the character at the place."""
        self.span = place - self.place + 1
        self.letters.extend(letters)


def fold(text):
    """Answer how many bytes the folded text has, then the bytes; or a refusal."""
    refused = refusal(text)
    if refused:
        return refused
    folded = folded_bytes(words_of(text))
    return [len(folded)] + folded


def words(text):
    """Answer how many words the text has, then what is told of each; or a refusal."""
    refused = refusal(text)
    if refused:
        return refused
    found = words_of(text)
    answer = [len(found)]
    for word in found:
        answer.extend([word.place, word.span, word.line, digits_alone(word.letters), len(word.letters)])
        answer.extend(word.letters)
    return answer


def refusal(text):
    """Give the answer that refuses the text, or an empty list if nothing is to be refused."""
    if len(text) > MOST_CHARACTERS:
        return [TOO_MUCH]
    for place, number in enumerate(text):
        if not is_wide(number):
            return [NO_CHARACTER, place]
    if beyond_bounds(words_of(text)):
        return [TOO_MUCH]
    return []


def is_wide(number):
    """Tell whether the number is a wide character."""
    if number < 1 or number > LAST_CHARACTER:
        return False
    return number < FIRST_SURROGATE or number > LAST_SURROGATE


def letters_of(character):
    """Give the letters that a wide character stands for, as bytes; none if it stands for none."""
    # F7 parts, as D7 does, which has no row: so it needs no exception here.
    sought = character - 0x20 if 0xE0 <= character <= 0xFE else character
    for first, last, letter in RUNS:
        if first <= sought <= last:
            return [ord(letter) + sought - first]
    for first, last, letters in ALIKE:
        if first <= sought <= last:
            return [ord(sign) for sign in letters]
    return []


def vanishes(character):
    """Tell whether a wide character vanishes."""
    for first, last in VANISHING:
        if first <= character <= last:
            return True
    return False


def words_of(text):
    """Give the words, one after another, of a text that has wide characters alone."""
    found = []
    line = 0
    within = False
    for place, character in enumerate(text):
        letters = letters_of(character)
        if letters:
            if not within:
                found.append(Word(place, line))
            found[-1].take(place, letters)
            within = True
        elif not vanishes(character):
            within = False
            # A line without words is none: its end leaves the number to the next one.
            if character == LINE_FEED and found and found[-1].line == line:
                line += 1
    return found


def beyond_bounds(found):
    """Tell whether there are more words, lines or letters of a word than a text may have."""
    if len(found) > MOST_WORDS:
        return True
    if found and found[-1].line >= MOST_LINES:
        return True
    return any([len(word.letters) > MOST_LETTERS for word in found])


def folded_bytes(found):
    """Give the words' letters with a blank between two of one line and a line feed between lines."""
    folded = []
    for number, word in enumerate(found):
        if number > 0:
            folded.append(BLANK if word.line == found[number - 1].line else LINE_FEED)
        folded.extend(word.letters)
    return folded


def digits_alone(letters):
    """Give 1 if all letters are digits, else 0."""
    # Of all letters the digits are the lowest bytes.
    return 0 if any([letter > LAST_DIGIT for letter in letters]) else 1
