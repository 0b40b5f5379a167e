"""Numbers as bytes, the greater byte first."""


def two_octets(number):
    return (number // 256, number % 256)


def four_octets(number):
    return two_octets(number // 65536) + two_octets(number % 65536)


def number_at(octets, place):
    return octets[place] * 256 + octets[place + 1]
