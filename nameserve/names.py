"""Names: a name is a tuple of labels, a label a tuple of bytes in small letters. The root's name has no label."""

from nameserve.faults import NotAsTold
from nameserve.words import split_at

AT_SIGN = 64
DOT = 46
HYPHEN = 45
UNDERSCORE = 95
STAR = (42,)
LONGEST_LABEL = 63
LONGEST_NAME = 255


def small_letter(octet):
    return octet + 32 if 65 <= octet <= 90 else octet


def small_label(octets):
    return tuple([small_letter(octet) for octet in octets])


def is_label_sign(octet):
    return 97 <= octet <= 122 or 48 <= octet <= 57 or octet in (HYPHEN, UNDERSCORE)


def name_size(name):
    return sum([len(label) + 1 for label in name]) + 1


def is_within(name, origin):
    return len(name) >= len(origin) and name[len(name) - len(origin):] == origin


def read_label(octets):
    label = small_label(octets)
    if not 1 <= len(label) <= LONGEST_LABEL or not all([is_label_sign(octet) for octet in label]):
        raise NotAsTold()
    return label


def read_labels(word):
    parts = split_at(word, DOT)
    if parts[0] == STAR:
        return (STAR,) + tuple([read_label(part) for part in parts[1:]])
    return tuple([read_label(part) for part in parts])


def read_name(word, origin):
    if word == (AT_SIGN,):
        return origin
    if word == (DOT,):
        return ()
    if word[-1] == DOT:
        name = read_labels(word[:-1])
    else:
        name = read_labels(word) + origin
    if name_size(name) > LONGEST_NAME:
        raise NotAsTold()
    return name


def read_origin(word):
    if word[-1] != DOT:
        raise NotAsTold()
    name = read_name(word, ())
    if name == () or name[0] == STAR:
        raise NotAsTold()
    return name
