"""The reply to a query: a header, the question given back, and what was found."""

from nameserve.lookups import REFUSED, additional_ones, look_up
from nameserve.messages import Message
from nameserve.octets import two_octets
from nameserve.queries import HEADER_SIZE, INTERNET, question_or_none

REPLY_BIT = 128
OPCODE_BITS = 120
OWN_BIT = 4
CUT_OFF_BIT = 2
RECURSION_BIT = 1
BAD_FORM = 1
NOT_DONE = 4


def reply(zone, query):
    if len(query) < HEADER_SIZE or (query[2] & REPLY_BIT) != 0:
        return []
    question = question_or_none(query)
    if question is None:
        return header(query, 0, BAD_FORM, [0, 0, 0, 0])
    if (query[2] & OPCODE_BITS) != 0:
        return header(query, 0, NOT_DONE, [1, 0, 0, 0]) + question.octets
    if question.group != INTERNET:
        return header(query, 0, REFUSED, [1, 0, 0, 0]) + question.octets
    return looked_up_reply(zone, query, question)


def header(query, bits, code, counts):
    kept = query[2] & (OPCODE_BITS | RECURSION_BIT)
    octets = [query[0], query[1], REPLY_BIT | kept | bits, code]
    for count in counts:
        octets.extend(two_octets(count))
    return octets


def looked_up_reply(zone, query, question):
    finding = look_up(zone, question.name, question.number)
    message = Message()
    message.write_question(question)
    counts = [1, message.write_section(finding.answers), message.write_section(finding.authority)]
    bits = OWN_BIT if finding.is_own else 0
    # Additional ones that don't fit are no loss to be told, so this is asked ahead of them.
    if message.is_full:
        bits |= CUT_OFF_BIT
    counts.append(message.write_section(additional_ones(zone, finding)))
    return header(query, bits, finding.code, counts) + message.octets[HEADER_SIZE:]
