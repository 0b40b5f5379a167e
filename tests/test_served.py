from tests.support import (A, AAAA, ANY, BASE, CNAME, MX, NS, ORIGIN, OWN, SOA, TXT, Case, asked, led, query, record,
                           reply, soa, wire)

SOA_LINE = "@ 60 SOA ns root 1 2 3 4 5\n"
NS_LINE = "@ 60 NS ns\n"


def addresses(count):
    return "".join(f"x 60 A 10.0.{number // 256}.{number % 256}\n" for number in range(count))


class Served(Case):
    def test_soa(self):
        self.refuses(ORIGIN + NS_LINE, -3)
        self.refuses(BASE + "@ 60 SOA ns root 1 2 3 4 6\n", -3)
        self.refuses(BASE + "x 60 SOA ns root 1 2 3 4 5\n", -3)
        self.refuses(ORIGIN + NS_LINE + "x 60 SOA ns root 1 2 3 4 5\n", -3)

    def test_soa_that_stands_already(self):
        self.finds(BASE + SOA_LINE, wire("example"), SOA, OWN, 0, (1, 0, 0), soa(12))
        self.refuses(BASE + SOA_LINE.replace("60", "61"), -3)

    def test_soa_behind_others(self):
        self.finds(ORIGIN + "x 60 A 1.2.3.4\n" + NS_LINE + SOA_LINE, wire("example"), SOA, OWN, 0, (1, 0, 0), soa(12))

    def test_ns_at_the_origin(self):
        self.refuses(ORIGIN + SOA_LINE, -3)
        self.refuses(ORIGIN + SOA_LINE + "x 60 NS ns\n", -3)
        self.refuses(ORIGIN, -3)

    def test_a_cname_beside_another_record(self):
        self.refuses(BASE + "x 60 CNAME y\nx 60 A 1.2.3.4\n", -3)
        self.refuses(BASE + "x 60 A 1.2.3.4\nx 60 CNAME y\n", -3)
        self.refuses(BASE + "x 60 CNAME y\nx 60 CNAME z\n", -3)
        self.refuses(BASE + "* 60 CNAME y\n* 60 TXT \"a\"\n", -3)
        self.refuses(BASE + "@ 60 CNAME y\n", -3)
        self.refuses(BASE + "X 60 CNAME y\nx.example. 60 NS y\n", -3)

    def test_a_cname_that_stands_already(self):
        self.says("x 60 CNAME y\nX 60 CNAME Y.example.\n", CNAME, b"\x01y" + led(14))
        self.refuses(BASE + "x 60 CNAME y\nx 61 CNAME y\n", -3)

    def test_a_cname_above_or_below_others(self):
        self.says("x 60 CNAME y\na.x 60 A 1.2.3.4\n", CNAME, b"\x01y" + led(14))

    def test_times_within_one_name_and_one_kind(self):
        self.refuses(BASE + "x 60 A 1.2.3.4\nx 61 A 1.2.3.5\n", -3)
        self.refuses(BASE + "x 60 A 1.2.3.4\nx 60 A 1.2.3.5\ny 9 A 1.2.3.4\nX 0 A 1.2.3.6\n", -3)
        self.refuses(BASE + "@ 61 NS ns2\n", -3)

    def test_times_of_other_names_and_other_kinds(self):
        self.says('x 61 TXT "a"\nx 60 A 1.2.3.4\nx 62 AAAA ::\ny 59 A 1.2.3.4\n', A, b"\x01\x02\x03\x04")

    def test_a_record_that_stands_already(self):
        self.says("x 60 A 1.2.3.4\nX.EXAMPLE. 60 A 1.2.3.4\nx 60 A 1.2.3.4", A, b"\x01\x02\x03\x04")
        self.says("x 60 AAAA ::a\nx 60 AAAA 0:0:0:0::000A", AAAA, b"\x00" * 15 + b"\x0a")
        self.says("x 60 MX 1 y\nx 60 MX 1 Y.example.", MX, b"\x00\x01\x01y" + led(14))
        self.refuses(BASE + "x 60 A 1.2.3.4\nx 61 A 1.2.3.4\n", -3)

    def test_records_that_only_look_alike(self):
        first = record(led(12), TXT, b"\x01a")
        self.finds(BASE + 'x 60 TXT "a"\nx 60 TXT "A"\nx 60 TXT "a" ""\nx 60 TXT "a"\n', wire("x", "example"), TXT,
                   OWN, 0, (3, 0, 0), first, record(led(12), TXT, b"\x01A"), record(led(12), TXT, b"\x01a\x00"))
        self.finds(BASE + "x 60 MX 1 y\nx 60 MX 2 y\nx 60 PTR y\ny 60 PTR y\n", wire("x", "example"), MX,
                   OWN, 0, (2, 0, 0), record(led(12), MX, b"\x00\x01\x01y" + led(14)),
                   record(led(12), MX, b"\x00\x02" + led(41)))

    def test_the_first_of_them_gives_the_order(self):
        self.finds(BASE + "x 60 A 1.1.1.1\nx 60 A 2.2.2.2\nx 60 A 1.1.1.1\n", wire("x", "example"), ANY,
                   OWN, 0, (2, 0, 0), record(led(12), A, b"\x01" * 4), record(led(12), A, b"\x02" * 4))


class Numbers(Case):
    def test_the_most_records(self):
        question = asked(wire("example"), NS)
        due = reply(question, OWN, 0, (1, 0, 0), record(led(12), NS, b"\x02ns" + led(12)))
        self.answers(BASE + addresses(2046), query(question), due)
        self.refuses(BASE + addresses(2047), -3)

    def test_one_that_stands_already_does_not_count(self):
        question = asked(wire("example"), NS)
        due = reply(question, OWN, 0, (1, 0, 0), record(led(12), NS, b"\x02ns" + led(12)))
        self.answers(BASE + addresses(2046) + addresses(500) + NS_LINE, query(question), due)
