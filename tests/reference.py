"""What the document says of folding and slips, told a second time in another way, to hold the program against.

The table is written out row by row, without the program's short cuts; the words are found
by a pattern over one mark a character. Slips are made one by one, and how far apart words are is
found by walking from word to word; for longer words by a table that tries every pair that may
change places. A list is held against a pattern. It shares no code with the package.
"""

import functools
import re

# first-last, what they stand for; a "+" behind it: the first stands for it, the others for what follows.
LETTER_ROWS = """
30-39 0+    61-7A a+    41-5A a+
AA-AA a     BA-BA o     B9-B9 1     B2-B2 2     B3-B3 3
2070-2070 0             2074-2079 4+            2080-2089 0+
C0-C5 a     C7-C7 c     C8-CB e     CC-CF i     D0-D0 d     D1-D1 n
D2-D6 o     D8-D8 o     D9-DC u     DD-DD y
C6-C6 ae    DE-DE th    DF-DF ss
E0-E5 a     E6-E6 ae    E7-E7 c     E8-EB e     EC-EF i     F0-F0 d
F1-F1 n     F2-F6 o     F8-F8 o     F9-FC u     FD-FD y     FE-FE th    FF-FF y
100-105 a   106-10D c   10E-111 d   112-11B e   11C-123 g   124-127 h
128-131 i   134-134 j   135-135 j   136-138 k
132-133 ij  152-153 oe  14A-14B ng
139-142 l   143-149 n   14C-151 o   154-159 r   15A-161 s   162-167 t
168-173 u   174-174 w   175-175 w   176-178 y   179-17E z   17F-17F s
218-218 s   219-219 s   21A-21A t   21B-21B t
1E9E-1E9E ss
2116-2116 no
FB00-FB00 ff    FB01-FB01 fi    FB02-FB02 fl    FB03-FB03 ffi
FB04-FB04 ffl   FB05-FB05 st    FB06-FB06 st
FF10-FF19 0+    FF21-FF3A a+    FF41-FF5A a+
"""

VANISHING_ROWS = "27-27 60-60 AD-AD B4-B4 2BC-2BC 300-36F 200B-200D 2018-2018 2019-2019 2060-2060 FEFF-FEFF"

LEAST = -2147483648
GREATEST = 2147483647


def bounds(row):
    first, last = row.split("-")
    return int(first, 16), int(last, 16)


def letter_ranges():
    """Of each range of the table: its first and last character, and what its characters stand for in turn."""
    signs = LETTER_ROWS.split()
    ranges = []
    for row, letters in zip(signs[::2], signs[1::2]):
        first, last = bounds(row)
        size = last - first + 1
        if letters.endswith("+"):
            each = [chr(ord(letters[0]) + step) for step in range(size)]
        else:
            each = [letters] * size
        ranges.append((first, last, each))
    return ranges


def vanishing_ranges():
    return [bounds(row) for row in VANISHING_ROWS.split()]


def letters_by_character():
    stand = {}
    for first, last, each in letter_ranges():
        for step, letters in enumerate(each):
            if first + step in stand:
                raise ValueError(f"{first + step:X} stands twice in the table")
            stand[first + step] = letters
    return stand


STAND = letters_by_character()
VANISH = frozenset(c for first, last in vanishing_ranges() for c in range(first, last + 1))


def is_wide(number):
    return number in range(1, 1114112) and number not in range(55296, 57344)


def mark(character):
    """L: stands for letters, V: vanishes, E: ends a line, P: parts."""
    if character in STAND:
        return "L"
    if character in VANISH:
        return "V"
    return "E" if character == 10 else "P"


def words_found(text):
    """Of each word of a text of wide characters: place, span, line, letters (as a str)."""
    found = []
    line = 0
    start = 0
    for row in "".join(map(mark, text)).split("E"):
        here = list(re.finditer("L(?:[LV]*L)?", row))
        for match in here:
            place = start + match.start()
            span = len(match.group())
            letters = "".join(STAND.get(c, "") for c in text[place:place + span])
            found.append((place, span, line, letters))
        line += 1 if here else 0
        start += len(row) + 1
    return found


def refusal(text):
    if len(text) > 512:
        return [-2]
    for place, number in enumerate(text):
        if not is_wide(number):
            return [-6, place]
    found = words_found(text)
    lines = {line for _, _, line, _ in found}
    if len(lines) > 8 or len(found) > 128 or max([len(word[3]) for word in found], default=0) > 32:
        return [-2]
    return None


def fold(text):
    refused = refusal(text)
    if refused:
        return refused
    plain = {"V": "", "E": "\n", "P": " "}
    spelled = "".join(STAND[c] if mark(c) == "L" else plain[mark(c)] for c in text)
    rows = [row.split() for row in spelled.split("\n")]
    folded = "\n".join(" ".join(row) for row in rows if row)
    return [len(folded)] + signs(folded)


def words(text):
    refused = refusal(text)
    if refused:
        return refused
    found = words_found(text)
    answer = [len(found)]
    for place, span, line, letters in found:
        digits = 1 if letters.isdigit() else 0
        answer += [place, span, line, digits, len(letters)] + signs(letters)
    return answer


def sort_of(number):
    """What sorts answers of the number."""
    if not is_wide(number):
        return 3
    letters = STAND.get(number, "")
    if letters:
        return ord(letters) if len(letters) == 1 else 256
    return {"V": 1, "E": 2, "P": 0}[mark(number)]


def signs(text):
    """The text as a list of numbers."""
    return [ord(sign) for sign in text]


def written(numbers):
    """The list of numbers as a text."""
    return "".join(map(chr, numbers))


def letters_alone(answer):
    """What words answers, without the places and spans: line, digits, letters of each word."""
    told = []
    at = 1
    while at < len(answer):
        size = answer[at + 4]
        told.append((answer[at + 2], answer[at + 3], answer[at + 5:at + 5 + size]))
        at += 5 + size
    return told


def links(answer):
    """The words of a chain as it's answered."""
    found = []
    at = 1
    while at < len(answer):
        size = answer[at]
        found.append(written(answer[at + 1:at + 1 + size]))
        at += 1 + size
    return found


LETTERS = "0123456789abcdefghijklmnopqrstuvwxyz"


def in_order(word):
    """The key by which words stand in order."""
    return len(word), word.encode("ascii")


def words_up_to(size, letters):
    """Every word of these letters of at most so many."""
    found = [""]
    last = [""]
    for _ in range(size):
        last = [word + letter for word in last for letter in letters]
        found += last
    return found


def one_slip_from(word, letters=LETTERS):
    """The words one slip from the word, as a set; letters: those that may come in."""
    made = set()
    for at in range(len(word) + 1):
        head, tail = word[:at], word[at:]
        made.add(head + tail[1:])
        made.add(head + tail[1:2] + tail[:1] + tail[2:])
        for letter in letters:
            made.add(head + letter + tail)
            made.add(head + letter + tail[1:])
    return made - {word}


class Walk:
    """Slips made one by one, between words of these letters of at most so many."""

    def __init__(self, size, letters):
        self.slips = {word: [other for other in one_slip_from(word, letters) if len(other) <= size]
                      for word in words_up_to(size, letters)}

    @functools.lru_cache(maxsize=None)
    def all_from(self, word):
        """Of each word, how many slips at least lead to it from the word."""
        far = {word: 0}
        edge = [word]
        while edge:
            beyond = []
            for here in edge:
                for other in self.slips[here]:
                    if other not in far:
                        far[other] = far[here] + 1
                        beyond.append(other)
            edge = beyond
        return far

    @functools.lru_cache(maxsize=None)
    def first_row(self, a, b):
        """The first of all shortest rows of words from a to b, by comparing whole rows."""
        if a == b:
            return (a,)
        far = self.all_from(b)
        rows = [self.first_row(other, b) for other in self.slips[a] if far[other] == far[a] - 1]
        return (a,) + min(rows, key=lambda row: [in_order(word) for word in row])


def slips_apart(a, b):
    """How far apart two words are, for longer ones: whichever pair changes places as the last one is tried."""
    far = {}
    for i in range(len(a) + 1):
        for j in range(len(b) + 1):
            ways = [i + j]
            if i:
                ways.append(far[i - 1, j] + 1)
            if j:
                ways.append(far[i, j - 1] + 1)
            if i and j:
                ways.append(far[i - 1, j - 1] + (a[i - 1] != b[j - 1]))
                ways += [far[k, m] + (i - k - 2) + 1 + (j - m - 2)
                         for k in range(i - 1) if a[k] == b[j - 1]
                         for m in range(j - 1) if b[m] == a[i - 1]]
            far[i, j] = min(ways)
    return far[len(a), len(b)]


def listed(words):
    """The words as a list that near takes: each with a line feed behind it."""
    return signs("".join(word + "\n" for word in words))


def list_refusal(given):
    """What near answers of the list by itself if it refuses it, else None."""
    if len(given) > 4096:
        return [-2]
    if re.fullmatch("(?:[0-9a-z]{1,32}\n)*", written(given)):
        return None
    # What may stand so far, with a word under way; what's behind it can't stand there.
    return [-6, re.match("(?:[0-9a-z]{1,32}\n)*[0-9a-z]{0,32}", written(given)).end()]


def numbers_near(most, far):
    """What near answers when the list's words are so far away, one by one: picked out one distance after another."""
    found = []
    for slips in range(min(most, 32) + 1):
        found += [number for number, away in enumerate(far) if away == slips]
    return [len(found)] + found


def draw(count, seed):
    """So many numbers, none below 0; the same ones each time."""
    state = seed
    drawn = []
    for _ in range(count):
        state = (state * 1103515245 + 12345) % 2147483648
        drawn.append(state >> 16)
    return drawn


def drawn_words(count, size, letters, seed):
    """So many words of at most the size, drawn from the letters; the same ones each time."""
    drawn = draw(count * (size + 1), seed)
    found = []
    for start in range(0, len(drawn), size + 1):
        length = size - drawn[start] % (size // 4 + 1)
        found.append("".join(letters[number % len(letters)] for number in drawn[start + 1:start + 1 + length]))
    return found
