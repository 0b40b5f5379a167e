import contextlib
import io

import nameserve.zones
from nameserve.zones import answer
from tests.support import (A, ANY, BASE, NS, OWN, SOA, TXT, Case, asked, led, octets, query, record, reply, soa,
                           wire)

ZONES = (
    BASE + "x 60 CNAME y\ny 60 MX 1 z\nz 60 A 1.2.3.4\n* 60 TXT \"a\"\nsub 60 NS z\n",
    BASE + "X 60 A 1.2.3.4\nx 61 A 1.2.3.4\n",
    BASE + "wrong\n",
    "",
)
QUERIES = (
    query(asked(wire("X", "Example"), 15)),
    query(asked(wire("a", "sub", "example"), A)),
    query(asked(wire("q", "example"), TXT)),
    query(asked(wire("q", "example"), TXT), byte2=8),
    query(asked(wire("q", "example"), TXT, 3)),
    query(b""),
    b"",
)


class Watched(list):
    """A list that can't be changed, not for a while either."""

    def refuse(self, *values):
        raise AssertionError("what is handed in is changed")

    append = extend = insert = pop = remove = reverse = sort = clear = refuse
    __setitem__ = __delitem__ = __iadd__ = __imul__ = refuse


class Calls(Case):
    def test_what_is_handed_in_stays_as_it_was(self):
        for zone in ZONES:
            for asking in QUERIES:
                zone_list, query_list = Watched(octets(zone)), Watched(asking)
                answer(zone_list, query_list)
                self.assertEqual(list(zone_list), octets(zone))
                self.assertEqual(list(query_list), list(asking))

    def test_the_same_call_answers_the_same(self):
        first = [answer(octets(zone), list(asking)) for zone in ZONES for asking in QUERIES]
        again = [answer(octets(zone), list(asking)) for zone in ZONES for asking in QUERIES]
        self.assertEqual(first, again)

    def test_what_is_given_back_is_the_callers_own(self):
        for zone in ZONES:
            for asking in QUERIES:
                given = answer(octets(zone), list(asking))
                due = list(given)
                given.clear()
                self.assertEqual(answer(octets(zone), list(asking)), due)

    def test_lists_of_whole_numbers(self):
        for zone in ZONES:
            for asking in QUERIES:
                given = answer(octets(zone), list(asking))
                self.assertIs(type(given), list)
                self.assertEqual({type(number) for number in given}, {int})

    def test_nothing_is_printed(self):
        printed = io.StringIO()
        with contextlib.redirect_stdout(printed), contextlib.redirect_stderr(printed):
            for zone in ZONES:
                for asking in QUERIES:
                    answer(octets(zone), list(asking))
        self.assertEqual(printed.getvalue(), "")

    def test_the_interface(self):
        code = nameserve.zones.answer.__code__
        self.assertEqual(code.co_varnames[:code.co_argcount], ("zone", "query"))
        self.assertEqual(answer(zone=[], query=[]), [-101])


class LargeInputs(Case):
    def large_zone(self):
        lines = "".join(f"n{at}.l{at % 7} 60 A 10.1.{at // 256}.{at % 256}\n" for at in range(2046))
        zone = BASE + lines
        while len(zone) < 65536:
            zone += ";" + "r" * min(599, 65536 - len(zone) - 1)
            if len(zone) < 65536:
                zone += "\n"
        self.assertEqual(len(zone), 65536)
        return zone

    def test_a_large_zone(self):
        zone = self.large_zone()
        self.finds(zone, wire("n2045", "l1", "example"), A, OWN, 0, (1, 0, 0),
                   record(led(12), A, b"\x0a\x01\x07\xfd"))
        self.finds(zone, wire("l1", "example"), ANY, OWN, 0, (0, 1, 0), soa(15))
        self.finds(zone, wire("example"), NS, OWN, 0, (1, 0, 0), record(led(12), NS, b"\x02ns" + led(12)))

    def test_a_zone_of_newlines_alone(self):
        self.refuses("\n" * 65536, -101)
        self.finds(BASE + "\n" * (65536 - len(BASE)), wire("example"), SOA, OWN, 0, (1, 0, 0), soa(12))

    def test_a_fault_in_the_last_of_many_lines(self):
        zone = BASE + "\n" * (65536 - len(BASE) - 1) + "x"
        self.refuses(zone, -100 - (65536 - len(BASE) - 1 + 4))

    def test_deep_names(self):
        zone = BASE + "".join(f"n{at:03}." + "a." * 119 + "b 60 A 1.2.3.4\n" for at in range(200))
        name = wire("n007", *["a"] * 119, "b", "example")
        self.finds(zone, name, A, OWN, 0, (1, 0, 0), record(led(12), A, b"\x01\x02\x03\x04"))
        name = wire(*["c"] * 10, *["a"] * 110, "b", "example")
        self.finds(zone, name, A, OWN, 3, (0, 1, 0), soa(12 + 121 * 2))

    def test_a_long_query(self):
        question = asked(wire("example"), SOA)
        behind = bytes(65535 - 12 - len(question))
        self.answers(BASE, query(question + behind, counts=(1, 0, 0, 1)), reply(question, OWN, 0, (1, 0, 0), soa(12)))
        self.answers(BASE, query(question + behind), b"\x12\x34\x80\x01" + bytes(8))

    def test_both(self):
        question = asked(wire("n0", "l0", "example"), A)
        behind = bytes(65535 - 12 - len(question))
        self.answers(self.large_zone(), query(question + behind, counts=(1, 0, 0, 65535)),
                     reply(question, OWN, 0, (1, 0, 0), record(led(12), A, b"\x0a\x01\x00\x00")))
