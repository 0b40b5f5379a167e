"""The answer's bytes: the question and the records behind the header, as many as fit."""

from nameserve.octets import four_octets, two_octets
from nameserve.queries import HEADER_SIZE, INTERNET

LONGEST_MESSAGE = 512
LED_TO = 49152
PLACES_END = 16384


class Message:
    def __init__(self):
        # The header is put in front when the counts are known; till then its bytes hold its place.
        self.octets = [0] * HEADER_SIZE
        self.places = {}
        self.is_full = False

    def keep_place(self, name, place):
        if place < PLACES_END:
            self.places.setdefault(name, place)

    def write_question(self, question):
        place = len(self.octets)
        left = question.name
        while left != ():
            self.keep_place(left, place)
            place += len(left[0]) + 1
            left = left[1:]
        self.octets.extend(question.octets)

    def write_name(self, name, may_lead):
        left = name
        while left != ():
            if may_lead and left in self.places:
                self.octets.extend(two_octets(LED_TO + self.places[left]))
                return
            self.keep_place(left, len(self.octets))
            self.octets.append(len(left[0]))
            self.octets.extend(left[0])
            left = left[1:]
        self.octets.append(0)

    def write_said(self, record):
        self.octets.extend(record.front)
        for name in record.names:
            self.write_name(name, record.kind != "SRV")
        self.octets.extend(record.back)

    def write_record(self, name, record):
        self.write_name(name, True)
        self.octets.extend(two_octets(record.number) + two_octets(INTERNET) + four_octets(record.time))
        # The size stands ahead of what it counts, and is known only behind it.
        size_place = len(self.octets)
        self.octets.extend([0, 0])
        self.write_said(record)
        size = two_octets(len(self.octets) - size_place - 2)
        self.octets[size_place] = size[0]
        self.octets[size_place + 1] = size[1]

    def write_if_it_fits(self, name, record):
        end = len(self.octets)
        self.write_record(name, record)
        if len(self.octets) > LONGEST_MESSAGE:
            # The places kept by this record may stay: nothing is written behind it.
            self.octets = self.octets[:end]
            self.is_full = True

    def write_section(self, pairs):
        written = 0
        for pair in pairs:
            if not self.is_full:
                self.write_if_it_fits(pair[0], pair[1])
            if self.is_full:
                return written
            written += 1
        return written
