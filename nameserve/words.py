"""A line's words, each a tuple of bytes, and the whole numbers and texts that they stand for."""

from nameserve.faults import NotAsTold

BLANK = 32
QUOTE = 34
SEMICOLON = 59
DIGIT_ZERO = 48
MOST_DIGITS = 10
LONGEST_TEXT = 255


def spelled(text):
    return tuple([ord(sign) for sign in text])


def split_at(octets, mark):
    parts = []
    start = 0
    for place, octet in enumerate(octets):
        if octet == mark:
            parts.append(octets[start:place])
            start = place + 1
    parts.append(octets[start:])
    return parts


def split_words(line):
    words = []
    place = 0
    while place < len(line) and line[place] != SEMICOLON:
        if line[place] == BLANK:
            place += 1
        else:
            end = word_end(line, place)
            words.append(tuple(line[place:end]))
            place = end
    return words


def word_end(line, start):
    if line[start] == QUOTE:
        return quoted_end(line, start)
    end = start
    while end < len(line) and line[end] not in (BLANK, QUOTE, SEMICOLON):
        end += 1
    return end


def quoted_end(line, start):
    for place in range(start + 1, len(line)):
        if line[place] == QUOTE:
            return place + 1
    raise NotAsTold()


def read_whole(word, limit):
    if not 1 <= len(word) <= MOST_DIGITS or (word[0] == DIGIT_ZERO and len(word) > 1):
        raise NotAsTold()
    number = 0
    for octet in word:
        digit = octet - DIGIT_ZERO
        if not 0 <= digit <= 9:
            raise NotAsTold()
        number = number * 10 + digit
    if number > limit:
        raise NotAsTold()
    return number


def read_text(word):
    # A word that begins with a quote ends with its closing one: split_words lets no other through.
    if word[0] != QUOTE or len(word) - 2 > LONGEST_TEXT:
        raise NotAsTold()
    return word[1:-1]
