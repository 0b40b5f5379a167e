from tests.support import A, BASE, CNAME, FIVE_NUMBERS, MINUTE, OWN, PTR, SOA, Case, led, record, wire

ADDRESS = b"\x01\x02\x03\x04"


def of_size(size):
    """Labels for a whole name that has this many bytes in a message."""
    left = size - 1
    labels = []
    while left > 64:
        labels.append("a" * 62)
        left -= 63
    return labels + ["b" * (left - 1)]


class Names(Case):
    def test_the_origin(self):
        self.names("@", led(14))

    def test_the_root(self):
        self.names(".", b"\x00")

    def test_a_whole_name(self):
        self.names("a.b.", wire("a", "b"))
        self.names("example.", led(14))
        self.names("x.example.", led(12))

    def test_a_name_within_the_origin(self):
        self.names("a.b", b"\x01a\x01b" + led(14))
        self.names("example", b"\x07example" + led(14))
        self.names("x", led(12))

    def test_signs_of_labels(self):
        letters = "abcdefghijklmnopqrstuvwxyz"
        self.names(letters + ".0123456789-_.", wire(letters, "0123456789-_"))
        self.names("-._.", wire("-", "_"))
        for sign in "!#$%&'()+,/:<=>?@[\\]^`{|}~":
            self.refuses_line("x 60 PTR a" + sign)
            self.refuses_line("x 60 PTR " + sign + ".")
            self.refuses_line(sign + "a 60 PTR a")

    def test_capitals_are_kept_small(self):
        letters = "ABCDEFGHIJKLMNOPQRSTUVWXYZ"
        self.names(letters + ".", wire(letters.lower()))
        self.says("X 60 PTR EXAMPLE.", PTR, led(14))
        self.finds(BASE.replace("example", "EXAMPLE") + "X 60 A 1.2.3.4", wire("x", "example"), A,
                   OWN, 0, (1, 0, 0), record(led(12), A, ADDRESS))

    def test_a_star_alone_as_the_first_label(self):
        self.names("*", b"\x01*" + led(14))
        self.names("*.", wire("*"))
        self.names("*.a.", wire("*", "a"))
        self.names("*.a", b"\x01*\x01a" + led(14))

    def test_a_star_anywhere_else(self):
        for word in ("a.*", "a.*.", "*.*", "*.*.", "**", "*a", "a*", "*a.b.", "b.a*."):
            self.refuses_line("x 60 PTR " + word)
            self.refuses_line(word + " 60 A 1.2.3.4")

    def test_size_of_a_label(self):
        self.names("a" * 63 + ".", wire("a" * 63))
        self.names("b." + "a" * 63, b"\x01b\x3f" + b"a" * 63 + led(14))
        self.refuses_line("x 60 PTR " + "a" * 64 + ".")
        self.refuses_line("x 60 PTR b." + "a" * 64)
        self.refuses_line("a" * 64 + " 60 A 1.2.3.4")

    def test_size_of_a_whole_name(self):
        labels = of_size(255)
        self.assertEqual(len(wire(*labels)), 255)
        self.names(".".join(labels) + ".", wire(*labels))
        self.refuses_line("x 60 PTR " + ".".join(of_size(256)) + ".")
        self.names("a." * 127, wire(*["a"] * 127))
        self.refuses_line("x 60 PTR " + "a." * 128)

    def test_size_of_a_name_within_the_origin(self):
        labels = of_size(247)
        self.assertEqual(len(wire(*labels, "example")), 255)
        self.names(".".join(labels), wire(*labels)[:-1] + led(14))
        self.finds(BASE + ".".join(labels) + " 60 A 1.2.3.4", wire(*labels, "example"), A,
                   OWN, 0, (1, 0, 0), record(led(12), A, ADDRESS))
        self.refuses_line("x 60 PTR " + ".".join(of_size(248)))
        self.refuses_line(".".join(of_size(248)) + " 60 A 1.2.3.4")

    def test_an_empty_label(self):
        for word in ("..", ".a", "a..", "a..b", ".a.", "..a.", "*..", ".*"):
            self.refuses_line("x 60 PTR " + word)

    def test_names_that_are_almost_the_origin_sign(self):
        for word in ("@.", "@@", "a.@", "@.example."):
            self.refuses_line("x 60 PTR " + word)


class RecordsNames(Case):
    def test_within_the_origin(self):
        self.says("x.example. 60 A 1.2.3.4", A, ADDRESS)
        self.finds(BASE + "@ 60 A 1.2.3.4", wire("example"), A, OWN, 0, (1, 0, 0), record(led(12), A, ADDRESS))
        self.finds(BASE + "example. 60 A 1.2.3.4", wire("example"), A, OWN, 0, (1, 0, 0),
                   record(led(12), A, ADDRESS))

    def test_outside_the_origin(self):
        for word in (".", "x.", "xexample.", "example.x.", "x.example.org.", "*.", "a.xexample."):
            self.refuses_line(word + " 60 A 1.2.3.4")

    def test_above_the_origin(self):
        zone = BASE.replace("example.", "a.example.")
        self.refuses(zone + "example. 60 A 1.2.3.4\n", -104)
        self.refuses(zone + "b.example. 60 A 1.2.3.4\n", -104)
        self.refuses(zone + "xa.example. 60 A 1.2.3.4\n", -104)
        self.finds(zone + "b.a.example. 60 A 1.2.3.4\n", wire("b", "a", "example"), A,
                   OWN, 0, (1, 0, 0), record(led(12), A, ADDRESS))


class Origins(Case):
    def origin(self, word, number):
        self.refuses(BASE.replace("example.", word), number)

    def test_the_roots(self):
        self.origin(".", -101)

    def test_a_stars(self):
        self.origin("*.", -101)
        self.origin("*.example.", -101)
        self.origin("a.*.example.", -101)

    def test_without_a_dot_behind_it(self):
        self.origin("example", -101)
        self.origin("@", -101)
        self.origin("*", -101)

    def test_no_name(self):
        for word in ("..", "a..", ".a.", "a b.", "a!.", "@.", "a" * 64 + ".", ".".join(of_size(256)) + "."):
            self.origin(word, -101)

    def test_of_the_greatest_size(self):
        labels = of_size(255)
        zone = BASE.replace("example", ".".join(labels)).replace("ns", "ns.").replace("root", "root.")
        self.finds(zone, wire(*labels), SOA, OWN, 0, (1, 0, 0),
                   record(led(12), SOA, wire("ns") + wire("root") + FIVE_NUMBERS))
        self.refuses(BASE.replace("example", ".".join(labels)), -102)

    def test_of_many_labels(self):
        labels = ["a"] * 127
        zone = BASE.replace("example", ".".join(labels)).replace("ns", "@").replace("root", "@")
        self.finds(zone, wire(*labels), SOA, OWN, 0, (1, 0, 0),
                   record(led(12), SOA, led(12) + led(12) + FIVE_NUMBERS, MINUTE))

    def test_a_name_of_many_labels_in_the_zone(self):
        labels = ["a"] * 123
        self.finds(BASE + ".".join(labels) + " 60 CNAME @", wire(*labels, "example"), CNAME, OWN, 0, (1, 0, 0),
                   record(led(12), CNAME, led(12 + 2 * 123)))
