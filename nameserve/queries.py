"""Queries: the question that a query's bytes ask."""

from nameserve.names import LONGEST_LABEL, LONGEST_NAME, name_size, small_label
from nameserve.octets import number_at

HEADER_SIZE = 12
INTERNET = 1


class Question:
    def __init__(self, name, octets):
        self.name = name
        # As they came: the question is given back with its capitals.
        self.octets = octets
        self.number = number_at(octets, len(octets) - 4)
        self.group = number_at(octets, len(octets) - 2)


def name_or_none(query):
    labels = []
    place = HEADER_SIZE
    while place < len(query) and place < HEADER_SIZE + LONGEST_NAME:
        size = query[place]
        if size == 0:
            return tuple(labels)
        if size > LONGEST_LABEL:
            return None
        behind = place + 1 + size
        labels.append(small_label(query[place + 1:behind]))
        place = behind
    return None


def question_or_none(query):
    if [number_at(query, place) for place in (4, 6, 8)] != [1, 0, 0]:
        return None
    name = name_or_none(query)
    if name is None:
        return None
    end = HEADER_SIZE + name_size(name) + 4
    if len(query) < end:
        return None
    if len(query) > end and number_at(query, 10) == 0:
        return None
    return Question(name, query[HEADER_SIZE:end])
