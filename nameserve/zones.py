"""The call: a zone's text and a query's bytes are answered."""

from nameserve.faults import LineFault, NotServed
from nameserve.replies import reply
from nameserve.served import serve
from nameserve.texts import read_zone

LONGEST_ZONE = 65536
LONGEST_QUERY = 65535


def answer(zone, query):
    if len(zone) > LONGEST_ZONE or len(query) > LONGEST_QUERY:
        return [-2]
    try:
        parts = read_zone(zone)
        served = serve(parts[0], parts[1])
    except LineFault as fault:
        return [-100 - fault.line]
    except NotServed:
        return [-3]
    octets = reply(served, query)
    return [len(octets)] + octets
