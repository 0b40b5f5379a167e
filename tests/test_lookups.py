from tests.support import (A, AAAA, ANY, BASE, CNAME, FIVE_NUMBERS, MX, NOT_OWN, NS, OWN, PTR, SOA, SRV, TXT, Case,
                           led, record, soa, wire)

ONES = b"\x01\x01\x01\x01"
TWOS = b"\x02\x02\x02\x02"


class Step1(Case):
    def test_outside_the_zone(self):
        for name in (wire(), wire("x"), wire("org"), wire("example", "org"), wire("xexample"), wire("x", "org"),
                     wire("x.example")):
            self.finds(BASE, name, A, NOT_OWN, 5, (0, 0, 0))

    def test_above_the_origin(self):
        zone = BASE.replace("example.", "a.example.")
        self.finds(zone, wire("example"), SOA, NOT_OWN, 5, (0, 0, 0))
        self.finds(zone, wire("b", "example"), SOA, NOT_OWN, 5, (0, 0, 0))
        self.finds(zone, wire("a.example"), SOA, NOT_OWN, 5, (0, 0, 0))
        self.finds(zone, wire("a", "example"), NS, OWN, 0, (1, 0, 0), record(led(12), NS, b"\x02ns" + led(12)))

    def test_an_alias_out_of_the_zone(self):
        zone = BASE + "x 60 CNAME y.org.\ny 60 CNAME x\n"
        target = record(led(12), CNAME, wire("y", "org"))
        self.finds(zone, wire("x", "example"), A, OWN, 0, (1, 0, 0), target)
        self.finds(zone, wire("y", "example"), A, OWN, 0, (2, 0, 0),
                   record(led(12), CNAME, b"\x01x" + led(14)), record(led(39), CNAME, wire("y", "org")))

    def test_an_alias_to_the_root(self):
        self.finds(BASE + "x 60 CNAME .\n", wire("x", "example"), A, OWN, 0, (1, 0, 0),
                   record(led(12), CNAME, b"\x00"))

    def test_an_alias_to_itself(self):
        self.finds(BASE + "x 60 CNAME x\n", wire("X", "example"), A, OWN, 0, (1, 0, 0),
                   record(led(12), CNAME, led(12)))

    def test_aliases_in_a_ring(self):
        zone = BASE + "x 60 CNAME y\ny 60 CNAME z\nz 60 CNAME y\n"
        self.finds(zone, wire("x", "example"), A, OWN, 0, (3, 0, 0),
                   record(led(12), CNAME, b"\x01y" + led(14)),
                   record(led(39), CNAME, b"\x01z" + led(14)),
                   record(led(55), CNAME, led(39)))

    def test_a_ring_through_a_star(self):
        self.finds(BASE + "* 60 CNAME y\n", wire("x", "example"), A, OWN, 0, (2, 0, 0),
                   record(led(12), CNAME, b"\x01y" + led(14)), record(led(39), CNAME, led(39)))


class Step2(Case):
    ZONE = BASE + ("sub 60 NS ns.sub\nsub 60 NS b\nsub 60 A 1.1.1.1\nns.sub 60 A 1.1.1.1\n"
                   "low.sub 60 NS ns.low.sub\nx 60 CNAME a.sub\n* 60 A 2.2.2.2\n")

    def cut(self, name, kind, sub):
        """The whole answer where "sub.example." stands at this place and "example." four bytes on."""
        end = 12 + len(name) + 4
        authority = (record(led(sub), NS, b"\x02ns" + led(sub)), record(led(sub), NS, b"\x01b" + led(sub + 4)))
        self.finds(self.ZONE, name, kind, NOT_OWN, 0, (0, 2, 1), *authority, record(led(end + 12), A, ONES))

    def test_below_a_cut(self):
        self.cut(wire("a", "sub", "example"), A, 14)
        self.cut(wire("a", "b", "c", "sub", "example"), TXT, 18)

    def test_at_the_name_itself(self):
        for kind in (A, NS, SOA, CNAME, ANY, TXT, 43):
            self.cut(wire("sub", "example"), kind, 12)

    def test_the_name_below_has_records(self):
        name = wire("ns", "sub", "example")
        self.finds(self.ZONE, name, A, NOT_OWN, 0, (0, 2, 1), record(led(15), NS, led(12)),
                   record(led(15), NS, b"\x01b" + led(19)), record(led(12), A, ONES))

    def test_the_first_cut_on_the_way_down(self):
        self.cut(wire("low", "sub", "example"), NS, 16)
        self.cut(wire("a", "low", "sub", "example"), A, 18)

    def test_behind_an_alias(self):
        self.finds(self.ZONE, wire("x", "example"), A, OWN, 0, (1, 2, 1),
                   record(led(12), CNAME, b"\x01a\x03sub" + led(14)),
                   record(led(41), NS, b"\x02ns" + led(41)), record(led(41), NS, b"\x01b" + led(14)),
                   record(led(59), A, ONES))

    def test_an_alias_at_and_below_a_cut_does_not_count(self):
        zone = BASE + "sub 60 NS .\nx.sub 60 CNAME ns\n"
        self.finds(zone, wire("x", "sub", "example"), A, NOT_OWN, 0, (0, 1, 0), record(led(14), NS, b"\x00"))
        self.finds(zone, wire("x", "sub", "example"), CNAME, NOT_OWN, 0, (0, 1, 0), record(led(14), NS, b"\x00"))

    def test_the_origin_is_no_cut(self):
        self.finds(BASE, wire("example"), NS, OWN, 0, (1, 0, 0), record(led(12), NS, b"\x02ns" + led(12)))
        self.finds(BASE, wire("example"), A, OWN, 0, (0, 1, 0), soa(12))

    def test_a_deep_cut(self):
        zone = BASE + "a.b.c 60 NS .\n"
        self.finds(zone, wire("b", "c", "example"), A, OWN, 0, (0, 1, 0), soa(16))
        self.finds(zone, wire("x", "b", "c", "example"), A, OWN, 3, (0, 1, 0), soa(18))
        self.finds(zone, wire("x", "a", "b", "c", "example"), A, NOT_OWN, 0, (0, 1, 0),
                   record(led(14), NS, b"\x00"))

    def test_a_cut_at_each_depth(self):
        labels = ["a", "b", "c", "d", "e"]
        for depth in range(1, 6):
            cut = labels[:depth]
            for below in range(3):
                name = wire(*["x"] * below, *cut, "example")
                self.finds(BASE + ".".join(cut) + " 60 NS .\n", name, A, NOT_OWN, 0, (0, 1, 0),
                           record(led(12 + 2 * below), NS, b"\x00"))

    def test_a_stars_ns_is_a_cut_at_the_star_alone(self):
        zone = BASE + "* 60 NS .\n"
        self.finds(zone, wire("*", "example"), A, NOT_OWN, 0, (0, 1, 0), record(led(12), NS, b"\x00"))
        self.finds(zone, wire("x", "*", "example"), A, NOT_OWN, 0, (0, 1, 0), record(led(14), NS, b"\x00"))
        self.finds(zone, wire("x", "example"), NS, OWN, 0, (1, 0, 0), record(led(12), NS, b"\x00"))
        self.finds(zone, wire("x", "example"), A, OWN, 0, (0, 1, 0), soa(14))


class Step3(Case):
    def test_only_one_below_it_has_records(self):
        zone = BASE + "a.b.c 60 A 1.1.1.1\n* 60 A 2.2.2.2\n"
        for kind in (A, ANY, CNAME, NS):
            self.finds(zone, wire("b", "c", "example"), kind, OWN, 0, (0, 1, 0), soa(16))
            self.finds(zone, wire("c", "example"), kind, OWN, 0, (0, 1, 0), soa(14))

    def test_only_a_star_below_it_has_records(self):
        zone = BASE + "*.c 60 A 1.1.1.1\n* 60 A 2.2.2.2\n"
        self.finds(zone, wire("c", "example"), A, OWN, 0, (0, 1, 0), soa(14))

    def test_the_star_at_the_origin(self):
        zone = BASE + "* 60 A 2.2.2.2\nb 60 A 1.1.1.1\n"
        for name in (wire("x", "example"), wire("x", "y", "z", "example"), wire("*", "example"),
                     wire("x", "c", "example"), wire(b"\x00.\xff", "example"), wire("a.b", "example")):
            self.finds(zone, name, A, OWN, 0, (1, 0, 0), record(led(12), A, TWOS))
        self.finds(zone, wire("b", "example"), A, OWN, 0, (1, 0, 0), record(led(12), A, ONES))
        self.finds(zone, wire("b", "example"), TXT, OWN, 0, (0, 1, 0), soa(14))

    def test_the_star_is_right_below_the_lowest_name_that_is_there(self):
        zone = BASE + "* 60 A 2.2.2.2\nb 60 A 1.1.1.1\n*.c 60 A 3.3.3.3\na.d.c 60 A 1.1.1.1\n"
        self.finds(zone, wire("x", "b", "example"), A, OWN, 3, (0, 1, 0), soa(16))
        self.finds(zone, wire("x", "c", "example"), A, OWN, 0, (1, 0, 0), record(led(12), A, b"\x03" * 4))
        self.finds(zone, wire("x", "y", "c", "example"), A, OWN, 0, (1, 0, 0), record(led(12), A, b"\x03" * 4))
        self.finds(zone, wire("x", "d", "c", "example"), A, OWN, 3, (0, 1, 0), soa(18))

    def test_a_name_below_a_star(self):
        self.finds(BASE + "* 60 A 2.2.2.2\n", wire("x", "*", "example"), A, OWN, 3, (0, 1, 0), soa(16))

    def test_a_star_without_the_kind_asked_for(self):
        zone = BASE + '* 60 A 2.2.2.2\n* 60 TXT "t"\n'
        self.finds(zone, wire("x", "example"), MX, OWN, 0, (0, 1, 0), soa(14))
        self.finds(zone, wire("x", "example"), ANY, OWN, 0, (2, 0, 0), record(led(12), A, TWOS),
                   record(led(12), TXT, b"\x01t"))

    def test_a_stars_alias(self):
        zone = BASE + "* 60 CNAME b\nb 60 A 1.1.1.1\n"
        self.finds(zone, wire("X", "example"), A, OWN, 0, (2, 0, 0), record(led(12), CNAME, b"\x01b" + led(14)),
                   record(led(39), A, ONES))
        self.finds(zone, wire("X", "example"), CNAME, OWN, 0, (1, 0, 0), record(led(12), CNAME, b"\x01b" + led(14)))

    def test_an_alias_to_a_name_that_a_star_stands_for(self):
        self.finds(BASE + "* 60 A 2.2.2.2\nx 60 CNAME y.z\n", wire("x", "example"), A, OWN, 0, (2, 0, 0),
                   record(led(12), CNAME, b"\x01y\x01z" + led(14)), record(led(39), A, TWOS))

    def test_no_such_name(self):
        zone = BASE + "b 60 A 1.1.1.1\n"
        for kind in (A, ANY, CNAME, SOA, 99):
            self.finds(zone, wire("x", "example"), kind, OWN, 3, (0, 1, 0), soa(14))
        self.finds(zone, wire("x", "b", "example"), A, OWN, 3, (0, 1, 0), soa(16))
        self.finds(zone, wire("*", "example"), A, OWN, 3, (0, 1, 0), soa(14))
        self.finds(zone, wire("a.b", "example"), A, OWN, 3, (0, 1, 0), soa(16))

    def test_a_dot_within_a_label_parts_nothing(self):
        self.finds(BASE + "a.b 60 A 1.1.1.1\n", wire("a.b", "example"), A, OWN, 3, (0, 1, 0), soa(16))
        self.finds(BASE + "a.b 60 A 1.1.1.1\n", wire("a", "b", "example"), A, OWN, 0, (1, 0, 0),
                   record(led(12), A, ONES))

    def test_no_such_name_behind_an_alias(self):
        self.finds(BASE + "x 60 CNAME y\n", wire("x", "example"), A, OWN, 3, (1, 1, 0),
                   record(led(12), CNAME, b"\x01y" + led(14)), soa(14))

    def test_the_soas_own_time(self):
        zone = BASE.replace("60 SOA", "258 SOA")
        due = soa(14).replace(b"\x00\x00\x00\x3c", b"\x00\x00\x01\x02", 1)
        self.finds(zone, wire("x", "example"), A, OWN, 3, (0, 1, 0), due)


def chain(count, last=""):
    """a1 to a<count> are aliases, each of the one behind it."""
    return BASE + "".join(f"a{at} 60 CNAME a{at + 1}\n" for at in range(1, count + 1)) + last


def chained(count):
    """The records of such a chain, asked for from a1.example on; "example." stands at 15."""
    records = []
    owner = led(12)
    place = 12 + len(wire("a1", "example")) + 4
    for at in range(2, count + 2):
        said = wire(f"a{at}")[:-1] + led(15)
        records.append(record(owner, CNAME, said))
        owner = led(place + 12)
        place += 12 + len(said)
    return records, owner


class Step4(Case):
    NAME = wire("a1", "example")

    def test_an_alias_within_the_zone(self):
        records, last = chained(1)
        self.finds(chain(1, "a2 60 A 1.1.1.1\na2 60 A 2.2.2.2\n"), self.NAME, A, OWN, 0, (3, 0, 0), *records,
                   record(last, A, ONES), record(last, A, TWOS))

    def test_an_alias_to_the_origin(self):
        self.finds(BASE + "x 60 CNAME @\n@ 60 A 1.1.1.1\n", wire("x", "example"), A, OWN, 0, (2, 0, 0),
                   record(led(12), CNAME, led(14)), record(led(14), A, ONES))

    def test_an_alias_to_a_name_without_the_kind_asked_for(self):
        records, last = chained(1)
        self.finds(chain(1, "a2 60 A 1.1.1.1\n"), self.NAME, TXT, OWN, 0, (1, 1, 0), *records, soa(15))
        self.finds(chain(1, "b.a2 60 A 1.1.1.1\n"), self.NAME, A, OWN, 0, (1, 1, 0), *records, soa(15))

    def test_cname_and_any_asked_for(self):
        records, last = chained(1)
        zone = chain(3, "a4 60 A 1.1.1.1\n")
        self.finds(zone, self.NAME, CNAME, OWN, 0, (1, 0, 0), *records)
        self.finds(zone, self.NAME, ANY, OWN, 0, (1, 0, 0), *records)

    def test_fifteen_in_a_row(self):
        records, last = chained(15)
        self.finds(chain(15, "a16 60 A 1.1.1.1\n"), self.NAME, A, OWN, 0, (16, 0, 0), *records,
                   record(last, A, ONES))

    def test_sixteen_in_a_row(self):
        records, last = chained(16)
        self.finds(chain(16, "a17 60 A 1.1.1.1\n"), self.NAME, A, OWN, 0, (16, 0, 0), *records)
        self.finds(chain(16), self.NAME, A, OWN, 0, (16, 0, 0), *records)
        self.finds(chain(16, "a17 60 NS .\n"), self.NAME, A, OWN, 0, (16, 0, 0), *records)

    def test_seventeen_in_a_row(self):
        records, last = chained(16)
        self.finds(chain(17, "a18 60 A 1.1.1.1\n"), self.NAME, A, OWN, 0, (16, 0, 0), *records)

    def test_fifteen_in_a_row_to_no_such_name(self):
        records, last = chained(15)
        self.finds(chain(15), self.NAME, A, OWN, 3, (15, 1, 0), *records, soa(15))

    def test_kinds_that_follow_an_alias(self):
        zone = BASE + "x 60 CNAME y\ny 60 PTR @\n"
        alias = record(led(12), CNAME, b"\x01y" + led(14))
        self.finds(zone, wire("x", "example"), PTR, OWN, 0, (2, 0, 0), alias, record(led(39), PTR, led(14)))
        self.finds(zone, wire("x", "example"), NS, OWN, 0, (1, 1, 0), alias, soa(14))
        self.finds(zone, wire("x", "example"), 254, OWN, 0, (1, 1, 0), alias, soa(14))


class Step5(Case):
    ZONE = BASE + 'x 60 TXT "t"\nx 60 A 2.2.2.2\ny 60 A 9.9.9.9\nx 60 PTR @\nx 60 A 1.1.1.1\nx 60 AAAA ::\n'

    def test_those_of_the_kind_asked_for_in_the_zones_order(self):
        self.finds(self.ZONE, wire("x", "example"), A, OWN, 0, (2, 0, 0), record(led(12), A, TWOS),
                   record(led(12), A, ONES))
        self.finds(self.ZONE, wire("x", "example"), PTR, OWN, 0, (1, 0, 0), record(led(12), PTR, led(14)))

    def test_all_in_the_zones_order(self):
        self.finds(self.ZONE, wire("x", "example"), ANY, OWN, 0, (5, 0, 0), record(led(12), TXT, b"\x01t"),
                   record(led(12), A, TWOS), record(led(12), PTR, led(14)), record(led(12), A, ONES),
                   record(led(12), AAAA, b"\x00" * 16))

    def test_none_of_the_kind_asked_for(self):
        for kind in (0, 3, NS, CNAME, SOA, MX, SRV, 252, 254, 65535):
            self.finds(self.ZONE, wire("x", "example"), kind, OWN, 0, (0, 1, 0), soa(14))

    def test_all_at_the_origin(self):
        self.finds(BASE, wire("example"), ANY, OWN, 0, (2, 0, 0), soa(12),
                   record(led(12), NS, led(12 + 13 + 12)))

    def test_the_soa_asked_for(self):
        self.finds(BASE, wire("example"), SOA, OWN, 0, (1, 0, 0),
                   record(led(12), SOA, b"\x02ns" + led(12) + b"\x04root" + led(12) + FIVE_NUMBERS))


class Additional(Case):
    def test_a_ahead_of_aaaa(self):
        zone = BASE + 'ns 60 AAAA ::1\nns 60 A 2.2.2.2\nns 60 TXT "t"\nns 60 AAAA ::\nns 60 A 1.1.1.1\n'
        ns = led(12 + 13 + 12)
        self.finds(zone, wire("example"), NS, OWN, 0, (1, 0, 4), record(led(12), NS, b"\x02ns" + led(12)),
                   record(ns, A, TWOS), record(ns, A, ONES),
                   record(ns, AAAA, b"\x00" * 15 + b"\x01"), record(ns, AAAA, b"\x00" * 16))

    def test_names_in_order_and_each_once(self):
        zone = BASE + ("x 60 MX 2 c\nx 60 MX 1 b\nx 60 MX 3 C\nx 60 MX 4 y.org.\nx 60 SRV 0 0 0 a\nx 60 SRV 0 0 1 b\n"
                       "a 60 A 1.1.1.1\nb 60 A 2.2.2.2\nc 60 AAAA ::\nc 60 A 3.3.3.3\n")
        c, b = led(41), led(59)
        self.finds(zone, wire("x", "example"), MX, OWN, 0, (4, 0, 3),
                   record(led(12), MX, b"\x00\x02\x01c" + led(14)), record(led(12), MX, b"\x00\x01\x01b" + led(14)),
                   record(led(12), MX, b"\x00\x03" + c), record(led(12), MX, b"\x00\x04" + wire("y", "org")),
                   record(c, A, b"\x03" * 4), record(c, AAAA, b"\x00" * 16), record(b, A, TWOS))
        self.finds(zone, wire("x", "example"), SRV, OWN, 0, (2, 0, 2),
                   record(led(12), SRV, b"\x00" * 6 + wire("a", "example")),
                   record(led(12), SRV, b"\x00" * 5 + b"\x01" + wire("b", "example")),
                   record(led(45), A, ONES), record(led(74), A, TWOS))

    def test_what_ptr_cname_and_soa_lead_to_is_not_given(self):
        zone = BASE + "x 60 PTR b\ny 60 CNAME b\nb 60 A 1.1.1.1\nns 60 A 1.1.1.1\nroot 60 A 1.1.1.1\n"
        self.finds(zone, wire("x", "example"), PTR, OWN, 0, (1, 0, 0), record(led(12), PTR, b"\x01b" + led(14)))
        self.finds(zone, wire("y", "example"), CNAME, OWN, 0, (1, 0, 0), record(led(12), CNAME, b"\x01b" + led(14)))
        self.finds(zone, wire("example"), SOA, OWN, 0, (1, 0, 0), soa(12))
        self.finds(zone, wire("z", "example"), A, OWN, 3, (0, 1, 0), soa(14))

    def test_its_own_records_alone(self):
        zone = BASE + "* 60 A 1.1.1.1\nx 60 MX 0 star.b\nx 60 MX 1 alias\nalias 60 CNAME b\nb 60 A 2.2.2.2\n"
        self.finds(zone, wire("x", "example"), MX, OWN, 0, (2, 0, 0),
                   record(led(12), MX, b"\x00\x00\x04star\x01b" + led(14)),
                   record(led(12), MX, b"\x00\x01\x05alias" + led(14)))

    def test_a_record_of_the_answers_is_given_again(self):
        zone = BASE + "x 60 MX 0 x\nx 60 A 1.1.1.1\n"
        self.finds(zone, wire("x", "example"), ANY, OWN, 0, (2, 0, 1), record(led(12), MX, b"\x00\x00" + led(12)),
                   record(led(12), A, ONES), record(led(12), A, ONES))

    def test_below_a_cut(self):
        zone = BASE + "x 60 MX 0 a.sub\nsub 60 NS .\na.sub 60 A 1.1.1.1\n"
        self.finds(zone, wire("x", "example"), MX, OWN, 0, (1, 0, 1),
                   record(led(12), MX, b"\x00\x00\x01a\x03sub" + led(14)), record(led(41), A, ONES))

    def test_behind_an_alias(self):
        zone = BASE + "x 60 CNAME y\ny 60 MX 0 b\nb 60 A 1.1.1.1\n"
        self.finds(zone, wire("x", "example"), MX, OWN, 0, (2, 0, 1),
                   record(led(12), CNAME, b"\x01y" + led(14)),
                   record(led(39), MX, b"\x00\x00\x01b" + led(14)), record(led(57), A, ONES))

    def test_from_a_star(self):
        zone = BASE + "* 60 MX 0 b\nb 60 A 1.1.1.1\n"
        self.finds(zone, wire("x", "example"), MX, OWN, 0, (1, 0, 1),
                   record(led(12), MX, b"\x00\x00\x01b" + led(14)), record(led(41), A, ONES))
