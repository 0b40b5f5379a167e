"""What the tests share: zones, queries and the messages that are due, put together byte by byte."""

import unittest

from nameserve.zones import answer

ORIGIN = "$ORIGIN example.\n"
BASE = ORIGIN + "@ 60 SOA ns root 1 2 3 4 5\n@ 60 NS ns\n"

A, NS, CNAME, SOA, PTR, MX, TXT, AAAA, SRV, ANY = 1, 2, 5, 6, 12, 15, 16, 28, 33, 255

OWN = 0x84
NOT_OWN = 0x80
MINUTE = b"\x00\x00\x00\x3c"
FIVE_NUMBERS = bytes([0, 0, 0, 1, 0, 0, 0, 2, 0, 0, 0, 3, 0, 0, 0, 4, 0, 0, 0, 5])


def octets(text):
    return list(text.encode("latin-1"))


def two(number):
    return number.to_bytes(2, "big")


def wire(*labels):
    """A name written out: wire("www", "example") has the root's 0 behind it."""
    parts = [label.encode("latin-1") if isinstance(label, str) else label for label in labels]
    return b"".join(bytes([len(part)]) + part for part in parts) + b"\x00"


def led(place):
    return two(0xC000 + place)


def asked(name, kind, group=1):
    return name + two(kind) + two(group)


def query(question, byte2=0, byte3=0, counts=(1, 0, 0, 0), number=0x1234):
    return two(number) + bytes([byte2, byte3]) + b"".join(two(count) for count in counts) + question


def reply(question, byte2, code, counts, *records, number=0x1234):
    """The message that is due; counts are those of answers, authority and additional ones."""
    head = two(number) + bytes([byte2, code, 0, 1]) + b"".join(two(count) for count in counts)
    return head + question + b"".join(records)


def record(name, kind, said, time=MINUTE):
    return name + two(kind) + b"\x00\x01" + time + two(len(said)) + said


def soa(place):
    """BASE's SOA, where "example." stands at this place and neither "ns" nor "root" does."""
    return record(led(place), SOA, b"\x02ns" + led(place) + b"\x04root" + led(place) + FIVE_NUMBERS)


class Case(unittest.TestCase):
    maxDiff = None

    def answers(self, zone, asking, due):
        """The whole list is due: how many bytes there are, then these."""
        self.assertEqual(answer(octets(zone), list(asking)), [len(due)] + list(due))

    def refuses(self, zone, number):
        asking = query(asked(wire("example"), SOA))
        self.assertEqual(answer(octets(zone), list(asking)), [number])

    def refuses_line(self, line):
        """Line 4 behind BASE is refused, and so it is ahead of a line that's as told."""
        self.refuses(BASE + line, -104)
        self.refuses(BASE + line + "\nok 60 A 1.2.3.4\n", -104)

    def says(self, line, kind, said, time=MINUTE):
        """The line's record, at x.example, says this; "x.example." stands at 12, "example." at 14."""
        question = asked(wire("x", "example"), kind)
        due = reply(question, OWN, 0, (1, 0, 0), record(led(12), kind, said, time))
        self.answers(BASE + line, query(question), due)

    def names(self, word, written):
        """The word, as a PTR's name at x.example, is the name that's written so."""
        self.says("x 60 PTR " + word, PTR, written)

    def finds(self, zone, name, kind, byte2, code, counts, *records):
        question = asked(name, kind)
        self.answers(zone, query(question), reply(question, byte2, code, counts, *records))
