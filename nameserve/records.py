"""Records: what a line of the zone's text says."""

from nameserve.addresses import read_long_address, read_short_address
from nameserve.faults import NotAsTold
from nameserve.names import is_within, read_name
from nameserve.octets import four_octets, two_octets
from nameserve.words import read_text, read_whole, spelled

LONGEST_TIME = 2147483647
TWO_OCTETS_MOST = 65535
FOUR_OCTETS_MOST = 4294967295

KIND_NUMBERS = {
    "A": 1, "NS": 2, "CNAME": 5, "SOA": 6, "PTR": 12, "MX": 15, "TXT": 16, "AAAA": 28, "SRV": 33,
}

# How many numbers of two bytes, then names, then numbers of four bytes.
LAYOUTS = {
    "NS": (0, 1, 0), "CNAME": (0, 1, 0), "PTR": (0, 1, 0), "SOA": (0, 2, 5), "MX": (1, 1, 0), "SRV": (3, 1, 0),
}


# What a record says is kept as the bytes ahead of its names, the names, and the bytes behind them:
# how names are written is known only when the message is.
class Record:
    def __init__(self, name, kind, time, said):
        self.name = name
        self.kind = kind
        self.number = KIND_NUMBERS[kind]
        self.time = time
        self.front = said[0]
        self.names = said[1]
        self.back = said[2]


def record_key(record):
    return (record.name, record.kind, record.time, record.front, record.names, record.back)


def read_kind(word):
    for kind in KIND_NUMBERS:
        if word == spelled(kind):
            return kind
    raise NotAsTold()


def only_word(words):
    if len(words) != 1:
        raise NotAsTold()
    return words[0]


def read_texts(words):
    if len(words) == 0:
        raise NotAsTold()
    octets = []
    for word in words:
        text = read_text(word)
        octets.append(len(text))
        octets.extend(text)
    return tuple(octets)


def read_laid_out(layout, words, origin):
    if len(words) != sum(layout):
        raise NotAsTold()
    names_end = layout[0] + layout[1]
    front = []
    for word in words[:layout[0]]:
        front.extend(two_octets(read_whole(word, TWO_OCTETS_MOST)))
    names = [read_name(word, origin) for word in words[layout[0]:names_end]]
    back = []
    for word in words[names_end:]:
        back.extend(four_octets(read_whole(word, FOUR_OCTETS_MOST)))
    return (tuple(front), tuple(names), tuple(back))


def read_said(kind, words, origin):
    if kind == "A":
        return (read_short_address(only_word(words)), (), ())
    if kind == "AAAA":
        return (read_long_address(only_word(words)), (), ())
    if kind == "TXT":
        return (read_texts(words), (), ())
    return read_laid_out(LAYOUTS[kind], words, origin)


def read_record(words, origin):
    if len(words) < 3:
        raise NotAsTold()
    name = read_name(words[0], origin)
    if not is_within(name, origin):
        raise NotAsTold()
    time = read_whole(words[1], LONGEST_TIME)
    kind = read_kind(words[2])
    return Record(name, kind, time, read_said(kind, words[3:], origin))
