"""What's answered: the steps by which a name is looked up, and what they find."""

from nameserve.names import is_within
from nameserve.records import KIND_NUMBERS

ANY_NUMBER = 255
MOST_ALIASES = 16
NO_SUCH_NAME = 3
REFUSED = 5


# Answers and authority are pairs of a name and a record: a star's record is given under the name looked up.
class Finding:
    def __init__(self):
        self.code = 0
        self.is_own = True
        self.answers = []
        self.authority = []


def look_up(zone, asked_name, asked_number):
    finding = Finding()
    looked_up = {}
    name = asked_name
    while name is not None:
        if name in looked_up or not is_within(name, zone.origin):
            end_outside(finding)
            return finding
        looked_up[name] = True
        name = look_up_and_lead_on(zone, name, asked_number, finding)
    return finding


def end_outside(finding):
    if len(finding.answers) == 0:
        finding.code = REFUSED
        finding.is_own = False


def look_up_and_lead_on(zone, name, asked_number, finding):
    cut = zone.cut_or_none(name)
    if cut is not None:
        finding.authority = [(cut, record) for record in zone.records_of(cut, "NS")]
        finding.is_own = len(finding.answers) > 0
        return None
    records = zone.counting_records_or_none(name)
    if records is None:
        finding.code = NO_SUCH_NAME
        finding.authority = own_authority(zone)
        return None
    aliases = [record for record in records if record.kind == "CNAME"]
    if len(aliases) > 0 and asked_number not in (KIND_NUMBERS["CNAME"], ANY_NUMBER):
        finding.answers.append((name, aliases[0]))
        return aliases[0].names[0] if len(finding.answers) < MOST_ALIASES else None
    take_asked(zone, name, records, asked_number, finding)
    return None


def own_authority(zone):
    return [(zone.origin, zone.authority_record())]


def take_asked(zone, name, records, asked_number, finding):
    asked = [record for record in records if asked_number in (record.number, ANY_NUMBER)]
    if len(asked) == 0:
        finding.authority = own_authority(zone)
    finding.answers.extend([(name, record) for record in asked])


def additional_ones(zone, finding):
    led_to = {}
    for given in finding.answers + finding.authority:
        record = given[1]
        if record.kind in ("NS", "MX", "SRV"):
            led_to[record.names[0]] = True
    additional = []
    for name in led_to:
        addresses = zone.records_of(name, "A") + zone.records_of(name, "AAAA")
        additional.extend([(name, record) for record in addresses])
    return additional
