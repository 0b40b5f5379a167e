"""A zone that's served: its records by their names."""

from nameserve.faults import NotServed
from nameserve.names import STAR
from nameserve.records import record_key

MOST_RECORDS = 2048


class Zone:
    def __init__(self, origin, records):
        self.origin = origin
        self.by_name = {}
        self.there = {origin: True}
        for record in records:
            self.by_name.setdefault(record.name, []).append(record)
            self.mark_there(record.name)

    def mark_there(self, name):
        left = name
        while left not in self.there:
            self.there[left] = True
            left = left[1:]

    def own_records(self, name):
        return list(self.by_name.get(name, []))

    def records_of(self, name, kind):
        return [record for record in self.own_records(name) if record.kind == kind]

    def authority_record(self):
        return self.records_of(self.origin, "SOA")[0]

    def cut_or_none(self, name):
        # From the origin down: what stands below a cut isn't this zone's to say, another cut neither.
        for start in range(len(name) - len(self.origin) - 1, -1, -1):
            if len(self.records_of(name[start:], "NS")) > 0:
                return name[start:]
        return None

    def counting_records_or_none(self, name):
        if name in self.there:
            return self.own_records(name)
        above = name[1:]
        while above not in self.there:
            above = above[1:]
        star = (STAR,) + above
        return self.own_records(star) if star in self.there else None


def without_repeats(records):
    kept = {}
    for record in records:
        kept.setdefault(record_key(record), record)
    return list(kept.values())


def check_together(records):
    times = {}
    for record in records:
        if record.kind == "CNAME" and len(records) > 1:
            raise NotServed()
        if times.setdefault(record.kind, record.time) != record.time:
            raise NotServed()


def check_served(zone, records):
    if len(records) > MOST_RECORDS:
        raise NotServed()
    if [record.name for record in records if record.kind == "SOA"] != [zone.origin]:
        raise NotServed()
    if len(zone.records_of(zone.origin, "NS")) == 0:
        raise NotServed()
    for together in zone.by_name.values():
        check_together(together)


def serve(origin, records):
    kept = without_repeats(records)
    zone = Zone(origin, kept)
    check_served(zone, kept)
    return zone
