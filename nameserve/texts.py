"""The zone's text: its lines, the origin in the first one and the records in the others."""

from nameserve.faults import LineFault, NotAsTold
from nameserve.names import read_origin
from nameserve.records import read_record
from nameserve.words import spelled, split_at, split_words

NEWLINE = 10
LOWEST_SIGN = 32
HIGHEST_SIGN = 126
LONGEST_LINE = 600


def is_fit(line):
    return len(line) <= LONGEST_LINE and all([LOWEST_SIGN <= octet <= HIGHEST_SIGN for octet in line])


def check_lines(lines):
    for number, line in enumerate(lines, start=1):
        if not is_fit(line):
            raise LineFault(number)


def origin_of_line(line):
    words = split_words(line)
    if len(words) != 2 or words[0] != spelled("$ORIGIN"):
        raise NotAsTold()
    return read_origin(words[1])


def records_of_line(line, origin):
    words = split_words(line)
    return [] if len(words) == 0 else [read_record(words, origin)]


def read_zone(text):
    # What's behind the last newline is taken for a line too: without words it's passed over, and an
    # empty text's is the first line, which is refused.
    lines = split_at(text, NEWLINE)
    check_lines(lines)
    number = 1
    try:
        origin = origin_of_line(lines[0])
        records = []
        for line in lines[1:]:
            number += 1
            records.extend(records_of_line(line, origin))
    except NotAsTold:
        raise LineFault(number) from None
    return (origin, records)
