from nameserve.messages import Message
from tests.support import (A, AAAA, ANY, BASE, CNAME, FIVE_NUMBERS, MX, NOT_OWN, NS, OWN, PTR, SOA, SRV, TXT, Case,
                           asked, led, query, record, reply, soa, wire)

ONES = b"\x01\x01\x01\x01"
CUT_OFF = 2


class NamesLedTo(Case):
    def test_in_the_question_from_each_label_on(self):
        zone = BASE + "x.y.z 60 MX 0 x.y.z\nx.y.z 60 MX 1 y.z\nx.y.z 60 MX 2 z\nx.y.z 60 MX 3 @\nx.y.z 60 MX 4 x\n"
        self.finds(zone, wire("x", "y", "z", "example"), MX, OWN, 0, (5, 0, 0),
                   record(led(12), MX, b"\x00\x00" + led(12)), record(led(12), MX, b"\x00\x01" + led(14)),
                   record(led(12), MX, b"\x00\x02" + led(16)), record(led(12), MX, b"\x00\x03" + led(18)),
                   record(led(12), MX, b"\x00\x04\x01x" + led(18)))

    def test_the_question_in_capitals(self):
        self.finds(BASE + "x 60 MX 0 a.x\n", wire("X", "EXAMPLE"), MX, OWN, 0, (1, 0, 0),
                   record(led(12), MX, b"\x00\x00\x01a" + led(12)))

    def test_a_part_of_a_label_is_not_led_to(self):
        self.names("xx", b"\x02xx" + led(14))
        self.names("xexample.", wire("xexample"))
        self.names("x.example.org.", wire("x", "example", "org"))
        self.names("x.", wire("x"))

    def test_the_start_of_a_name_is_not_led_to(self):
        self.finds(BASE + "x.y 60 PTR x.y.\n", wire("x", "y", "example"), PTR, OWN, 0, (1, 0, 0),
                   record(led(12), PTR, wire("x", "y")))

    def test_a_label_with_a_dot_is_another_name(self):
        self.finds(BASE + "* 60 PTR a.b\n", wire("a.b", "example"), PTR, OWN, 0, (1, 0, 0),
                   record(led(12), PTR, b"\x01a\x01b" + led(16)))

    def test_what_is_written_since_from_each_label_on(self):
        zone = BASE + "x 60 PTR a.b.org.\nx 60 PTR b.org.\nx 60 PTR org.\nx 60 PTR c.b.org.\nx 60 PTR d.c.b.org.\n"
        self.finds(zone, wire("x", "example"), PTR, OWN, 0, (5, 0, 0),
                   record(led(12), PTR, wire("a", "b", "org")), record(led(12), PTR, led(41)),
                   record(led(12), PTR, led(43)), record(led(12), PTR, b"\x01c" + led(41)),
                   record(led(12), PTR, b"\x01d" + led(88)))

    def test_the_first_place(self):
        """The SRV writes its name out again: it's still led to where it stood first."""
        zone = BASE + "x 60 PTR a.org.\nx 60 SRV 0 0 0 b.a.org.\nx 60 MX 0 a.org.\nx 60 MX 0 c.b.a.org.\n"
        self.finds(zone, wire("x", "example"), ANY, OWN, 0, (4, 0, 0),
                   record(led(12), PTR, wire("a", "org")),
                   record(led(12), SRV, b"\x00" * 6 + wire("b", "a", "org")),
                   record(led(12), MX, b"\x00\x00" + led(39)),
                   record(led(12), MX, b"\x00\x00\x01c" + led(64)))

    def test_a_records_name_behind_an_alias(self):
        zone = BASE + "x 60 CNAME a.b\na.b 60 CNAME b\nb 60 CNAME c.b\nc.b 60 A 1.1.1.1\n"
        self.finds(zone, wire("x", "example"), A, OWN, 0, (4, 0, 0),
                   record(led(12), CNAME, b"\x01a\x01b" + led(14)), record(led(39), CNAME, led(41)),
                   record(led(41), CNAME, b"\x01c" + led(41)), record(led(71), A, ONES))

    def test_the_root(self):
        zone = BASE + "x 60 PTR .\nx 60 MX 0 .\nx 60 SRV 0 0 0 .\nx 60 PTR x\n"
        self.finds(zone, wire("x", "example"), ANY, OWN, 0, (4, 0, 0), record(led(12), PTR, b"\x00"),
                   record(led(12), MX, b"\x00\x00\x00"), record(led(12), SRV, b"\x00" * 7),
                   record(led(12), PTR, led(12)))


class NamesInEachKind(Case):
    def test_ns_cname_ptr_and_mx(self):
        zone = BASE.replace("NS ns", "NS a.org.\n@ 60 NS b.org.") + "x 60 MX 0 a.org.\nx 60 MX 0 b.org.\n"
        self.finds(zone, wire("example"), NS, OWN, 0, (2, 0, 0), record(led(12), NS, wire("a", "org")),
                   record(led(12), NS, b"\x01b" + led(39)))
        self.finds(zone, wire("x", "example"), MX, OWN, 0, (2, 0, 0),
                   record(led(12), MX, b"\x00\x00" + wire("a", "org")),
                   record(led(12), MX, b"\x00\x00\x01b" + led(43)))
        self.says("x 60 CNAME a.x\n", CNAME, b"\x01a" + led(12))
        self.says("x 60 PTR a.x\n", PTR, b"\x01a" + led(12))

    def test_soa(self):
        zone = BASE.replace("SOA ns root", "SOA a.b.org. b.org.")
        self.finds(zone, wire("example"), SOA, OWN, 0, (1, 0, 0),
                   record(led(12), SOA, wire("a", "b", "org") + led(39) + FIVE_NUMBERS))

    def test_srvs_name_is_written_out_and_led_to_later(self):
        zone = BASE + "x 60 SRV 1 2 3 x\nx 60 SRV 1 2 3 a.b.x\nx 60 PTR b.x\nx 60 PTR a.b.x\nx 60 PTR c.x\n"
        numbers = b"\x00\x01\x00\x02\x00\x03"
        self.finds(zone, wire("x", "example"), ANY, OWN, 0, (5, 0, 0),
                   record(led(12), SRV, numbers + wire("x", "example")),
                   record(led(12), SRV, numbers + wire("a", "b", "x", "example")),
                   record(led(12), PTR, led(76)), record(led(12), PTR, led(74)),
                   record(led(12), PTR, b"\x01c" + led(12)))

    def test_srvs_name_leads_to_an_additional_records(self):
        self.finds(BASE + "x 60 SRV 1 2 3 a.b\na.b 60 A 1.1.1.1\n", wire("x", "example"), SRV, OWN, 0, (1, 0, 1),
                   record(led(12), SRV, b"\x00\x01\x00\x02\x00\x03" + wire("a", "b", "example")),
                   record(led(45), A, ONES))

    def test_texts_are_no_names(self):
        zone = BASE + 'x 60 TXT "org" ""\nx 60 PTR org.\n'
        self.finds(zone, wire("x", "example"), ANY, OWN, 0, (2, 0, 0), record(led(12), TXT, b"\x03org\x00"),
                   record(led(12), PTR, wire("org")))


class FarPlaces(Case):
    def write_from(self, place, *names):
        message = Message()
        message.octets.extend([0] * (place - len(message.octets)))
        for name in names:
            message.write_name(name, True)
        return message.octets[place:]

    def test_places_up_to_16383_count(self):
        name = ((97,), (98,))
        self.assertEqual(self.write_from(16381, name, name[1:], name),
                         [1, 97, 1, 98, 0, 255, 255, 255, 253])

    def test_places_from_16384_on_do_not_count(self):
        name = ((97,), (98,))
        self.assertEqual(self.write_from(16382, name, name, name[1:], name[1:]),
                         [1, 97, 1, 98, 0, 255, 254, 1, 98, 0, 1, 98, 0])
        self.assertEqual(self.write_from(16384, name, name), [1, 97, 1, 98, 0, 1, 97, 1, 98, 0])


def filled(size):
    """A text's record at x.example that has this many bytes in the message."""
    text = "t" * (size - 13)
    return f'x 60 TXT "{text}"\n', record(led(12), TXT, bytes([len(text)]) + text.encode())


class CutOff(Case):
    """The header and the question of x.example have 27 bytes: 485 are left."""

    NAME = wire("x", "example")

    def test_among_the_answers(self):
        first, due_first = filled(242)
        fits, due_fits = filled(243)
        longer, due_longer = filled(244)
        self.assertEqual(len(reply(asked(self.NAME, TXT), OWN, 0, (2, 0, 0), due_first, due_fits)), 512)
        self.finds(BASE + first + fits, self.NAME, TXT, OWN, 0, (2, 0, 0), due_first, due_fits)
        self.finds(BASE + first + longer, self.NAME, TXT, OWN + CUT_OFF, 0, (1, 0, 0), due_first)

    def test_a_shorter_one_behind_it_is_not_there(self):
        first, due_first = filled(242)
        longer, due_longer = filled(244)
        short, due_short = filled(14)
        self.finds(BASE + first + longer + short, self.NAME, TXT, OWN + CUT_OFF, 0, (1, 0, 0), due_first)

    def test_the_first_answer(self):
        line = 'x 60 TXT "' + "t" * 255 + '" "' + "u" * 255 + '"\n'
        self.finds(BASE + line, self.NAME, TXT, OWN + CUT_OFF, 0, (0, 0, 0))
        question = asked(self.NAME, TXT)
        self.answers(BASE + line, query(question, byte2=1), reply(question, OWN + CUT_OFF + 1, 0, (0, 0, 0)))

    def test_an_answer_cut_off_leaves_no_additional_ones(self):
        first, due_first = filled(242)
        longer, due_longer = filled(230)
        zone = BASE + "x 60 MX 0 x\n" + first + longer + "x 60 A 1.1.1.1\n"
        self.finds(zone, self.NAME, ANY, OWN + CUT_OFF, 0, (2, 0, 0),
                   record(led(12), MX, b"\x00\x00" + led(12)), due_first)

    def test_among_the_authority(self):
        """A name of 201 bytes is asked for, and the SOA has 44: the alias's record may have 251."""
        asked_labels = ["q" * 63, "r" * 63, "s" * 63]
        origin = 12 + 3 * 64
        for last, counts, byte2 in ((44, (1, 1, 0), OWN), (45, (1, 0, 0), OWN + CUT_OFF)):
            target = ["a" * 63, "b" * 63, "c" * 63, "d" * last]
            alias = record(led(12), CNAME, wire(*target)[:-1] + led(origin))
            self.assertEqual(12 + 201 + 4 + len(alias) + len(soa(origin)), 512 + last - 44)
            zone = BASE + ".".join(asked_labels) + " 60 CNAME " + ".".join(target) + "\n"
            self.finds(zone, wire(*asked_labels, "example"), A, byte2, 3, counts, *[alias, soa(origin)][:sum(counts)])

    def test_among_the_authority_of_a_cut(self):
        labels = [letter * 59 for letter in "abcdefgh"]
        zone = BASE + "".join(f"x 60 NS {label}\n" for label in labels) + "".join(
            f"{label} 60 A 1.1.1.1\n" for label in labels)
        records = [record(led(12), NS, wire(label)[:-1] + led(14)) for label in labels]
        self.assertEqual(len(records[0]), 74)
        self.finds(zone, self.NAME, A, NOT_OWN + CUT_OFF, 0, (0, 6, 0), *records[:6])

    def test_among_the_additional_ones(self):
        """485 bytes: an MX of 18, and then A of 16 and AAAA of 28 each."""
        lines = "x 60 MX 0 b\n" + "".join(f"b 60 A 1.1.1.{number}\n" for number in range(28))
        records = [record(led(41), A, b"\x01\x01\x01" + bytes([number])) for number in range(28)]
        mx = record(led(12), MX, b"\x00\x00\x01b" + led(14))
        self.assertEqual(len(mx), 18)
        self.finds(BASE + lines + "b 60 AAAA ::\n", self.NAME, MX, OWN, 0, (1, 0, 28), mx, *records)
        lines += "b 60 A 1.1.1.28\n"
        records.append(record(led(41), A, b"\x01\x01\x01\x1c"))
        self.finds(BASE + lines, self.NAME, MX, OWN, 0, (1, 0, 29), mx, *records)
        self.finds(BASE + lines + "b 60 A 1.1.1.29\n", self.NAME, MX, OWN, 0, (1, 0, 29), mx, *records)

    def test_a_shorter_additional_one_behind_it_is_not_there(self):
        lines = "x 60 MX 0 b\nx 60 MX 0 c\n" + "b 60 AAAA ::\nc 60 A 1.1.1.1\n"
        mxs = [record(led(12), MX, b"\x00\x00\x01b" + led(14)), record(led(12), MX, b"\x00\x00\x01c" + led(14))]
        more = "".join(f"b 60 A 1.1.1.{number}\n" for number in range(27))
        records = [record(led(41), A, b"\x01\x01\x01" + bytes([number])) for number in range(27)]
        self.assertEqual(len(reply(asked(self.NAME, MX), OWN, 0, (2, 0, 27), *mxs, *records)), 495)
        self.finds(BASE + lines + more, self.NAME, MX, OWN, 0, (2, 0, 27), *mxs, *records)

    def test_an_additional_one_at_the_very_end(self):
        """A referral: the authority's name makes the message 512 or 513 bytes long with its address."""
        for last, count in ((19, 1), (20, 0)):
            labels = ["a" * 63, "b" * 63, "c" * 63, "h" * last]
            second = ["d" * 63, "e" * 63, "f" * 63, "g" * 36]
            zone = (BASE + "x 60 NS " + ".".join(labels) + "\nx 60 NS " + ".".join(second) + "\n"
                    + ".".join(labels) + " 60 A 1.1.1.1\n")
            authority = [record(led(12), NS, wire(*labels)[:-1] + led(14)),
                         record(led(12), NS, wire(*second)[:-1] + led(14))]
            address = record(led(39), A, ONES)
            self.assertEqual(27 + len(authority[0]) + len(authority[1]) + 16, 512 + last - 19)
            self.finds(zone, self.NAME, A, NOT_OWN, 0, (0, 2, count), *authority, *[address][:count])

    def test_other_kinds_in_a_full_message(self):
        lines = "".join(f"x 60 AAAA ::{number}\n" for number in range(1, 20))
        records = [record(led(12), AAAA, b"\x00" * 14 + int(str(number), 16).to_bytes(2, "big"))
                   for number in range(1, 20)]
        self.finds(BASE + lines, self.NAME, AAAA, OWN + CUT_OFF, 0, (17, 0, 0), *records[:17])
