"""Addresses of both kinds, read into the bytes that stand for them in a message."""

from nameserve.faults import NotAsTold
from nameserve.names import DOT, small_letter
from nameserve.octets import two_octets
from nameserve.words import read_whole, split_at

COLON = 58
GROUPS = 8
LONGEST_GROUP = 4


def read_short_address(word):
    parts = split_at(word, DOT)
    if len(parts) != 4:
        raise NotAsTold()
    return tuple([read_whole(part, 255) for part in parts])


def hex_digit(octet):
    small = small_letter(octet)
    if 48 <= small <= 57:
        return small - 48
    if 97 <= small <= 102:
        return small - 87
    raise NotAsTold()


def read_group(octets):
    if not 1 <= len(octets) <= LONGEST_GROUP:
        raise NotAsTold()
    number = 0
    for octet in octets:
        number = number * 16 + hex_digit(octet)
    return number


def read_groups(octets):
    return [read_group(part) for part in split_at(octets, COLON)]


def double_colon(word):
    for place in range(len(word) - 1):
        if word[place] == COLON and word[place + 1] == COLON:
            return place
    return None


def read_all_groups(word):
    gap = double_colon(word)
    if gap is None:
        return read_groups(word)
    # A second pair of colons leaves an empty group behind the first one, which read_group refuses.
    before = read_groups(word[:gap]) if gap > 0 else []
    behind = read_groups(word[gap + 2:]) if gap + 2 < len(word) else []
    missing = GROUPS - len(before) - len(behind)
    if missing < 1:
        raise NotAsTold()
    return before + [0] * missing + behind


def read_long_address(word):
    groups = read_all_groups(word)
    if len(groups) != GROUPS:
        raise NotAsTold()
    octets = []
    for group in groups:
        octets.extend(two_octets(group))
    return tuple(octets)
