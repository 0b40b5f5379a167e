from tests.support import A, AAAA, BASE, CNAME, MX, NS, OWN, PTR, SOA, SRV, TXT, Case, led, record, wire


class WholeNumbers(Case):
    def test_times(self):
        self.says("x 0 A 1.2.3.4", A, b"\x01\x02\x03\x04", b"\x00\x00\x00\x00")
        self.says("x 9 A 1.2.3.4", A, b"\x01\x02\x03\x04", b"\x00\x00\x00\x09")
        self.says("x 16909060 A 1.2.3.4", A, b"\x01\x02\x03\x04", b"\x01\x02\x03\x04")
        self.says("x 2147483647 A 1.2.3.4", A, b"\x01\x02\x03\x04", b"\x7f\xff\xff\xff")
        for word in ("2147483648", "9999999999", "10000000000", "00", "01", "060", "0000000060", "-1", "+1", "1.0",
                     "1h", "h", "0x1", "1_0", "/", ":"):
            self.refuses_line("x " + word + " A 1.2.3.4")

    def test_two_bytes(self):
        self.says("x 60 MX 0 .", MX, b"\x00\x00\x00")
        self.says("x 60 MX 256 .", MX, b"\x01\x00\x00")
        self.says("x 60 MX 65535 .", MX, b"\xff\xff\x00")
        for word in ("65536", "00", "01", "-1", "a", "4294967295", "12345678901"):
            self.refuses_line("x 60 MX " + word + " .")

    def test_four_bytes(self):
        zone = BASE.replace("1 2 3 4 5", "0 4294967295 65536 16909060 10")
        numbers = b"\x00\x00\x00\x00\xff\xff\xff\xff\x00\x01\x00\x00\x01\x02\x03\x04\x00\x00\x00\x0a"
        self.finds(zone, wire("example"), SOA, OWN, 0, (1, 0, 0),
                   record(led(12), SOA, b"\x02ns" + led(12) + b"\x04root" + led(12) + numbers))
        for word in ("4294967296", "9999999999", "10000000000", "00", "01", "-1", "a"):
            for place in "12345":
                self.refuses(BASE.replace(" " + place, " " + word), -102)


class Kinds(Case):
    def test_names_of_kinds(self):
        for word in ("a", "Aa", "AA", "aaaa", "ns", "Ns", "cname", "soa", "ptr", "mx", "Mx", "txt", "srv", "ANY",
                     "HINFO", "TYPE1", "1", "IN", "*"):
            self.refuses_line("x 60 " + word + " 1.2.3.4")
            self.refuses_line("x 60 " + word + " ns")

    def test_one_name(self):
        self.says("x 60 CNAME y", CNAME, b"\x01y" + led(14))
        self.says("x 60 PTR y", PTR, b"\x01y" + led(14))
        self.finds(BASE.replace("NS ns", "NS y"), wire("example"), NS, OWN, 0, (1, 0, 0),
                   record(led(12), NS, b"\x01y" + led(12)))
        for kind in ("NS", "CNAME", "PTR"):
            self.refuses_line("x 60 " + kind)
            self.refuses_line("x 60 " + kind + " y z")
            self.refuses_line("x 60 " + kind + ' "y"')
            self.refuses_line("x 60 " + kind + " y!")

    def test_soa(self):
        self.refuses(BASE.replace(" 5\n", "\n"), -102)
        self.refuses(BASE.replace(" 5\n", " 5 6\n"), -102)
        self.refuses(BASE.replace("root 1", "1"), -102)
        self.refuses(BASE.replace("root 1", "root root 1"), -102)
        self.refuses(BASE.replace("root 1", "root. root"), -102)
        self.refuses(BASE.replace("ns root", "ns .."), -102)
        self.refuses(BASE.replace("ns root", ".. root"), -102)

    def test_mx(self):
        self.says("x 60 MX 10 y", MX, b"\x00\x0a\x01y" + led(14))
        for said in ("", "10", "y", "y 10", "10 10 y", "10 y z", "10 ..", '10 "y"'):
            self.refuses_line("x 60 MX " + said)

    def test_srv(self):
        self.says("x 60 SRV 1 258 65535 y", SRV, b"\x00\x01\x01\x02\xff\xff" + wire("y", "example"))
        self.says("x 60 SRV 0 0 0 .", SRV, b"\x00" * 7)
        for said in ("", "1 2 3", "1 2 y", "1 2 3 4 y", "1 2 3 y z", "65536 2 3 y", "1 65536 3 y", "1 2 65536 y",
                     "01 2 3 y", "1 2 3 ..", "1 2 y 3"):
            self.refuses_line("x 60 SRV " + said)

    def test_txt(self):
        self.says('x 60 TXT ""', TXT, b"\x00")
        self.says('x 60 TXT "Some Text;"   "b"', TXT, b"\x0aSome Text;\x01b")
        self.says('x 60 TXT "' + "t" * 255 + '"', TXT, b"\xff" + b"t" * 255)
        self.says('x 60 TXT "a" "' + "t" * 255 + '"', TXT, b"\x01a\xff" + b"t" * 255)
        self.refuses_line('x 60 TXT "' + "t" * 256 + '"')
        self.refuses_line('x 60 TXT "a" "' + "t" * 256 + '"')
        self.refuses_line("x 60 TXT")
        self.refuses_line("x 60 TXT a")
        self.refuses_line('x 60 TXT "a" b')
        self.refuses_line('x 60 TXT b "a"')
        self.refuses_line("x 60 TXT 'a'")

    def test_every_character_of_a_text(self):
        signs = "".join(chr(number) for number in range(32, 127) if number != 34)
        self.says('x 60 TXT "' + signs + '"', TXT, bytes([94]) + signs.encode())


class Addresses(Case):
    def test_a(self):
        self.says("x 60 A 0.0.0.0", A, b"\x00\x00\x00\x00")
        self.says("x 60 A 255.255.255.255", A, b"\xff\xff\xff\xff")
        self.says("x 60 A 1.20.100.254", A, b"\x01\x14\x64\xfe")
        for word in ("256.0.0.0", "0.256.0.0", "0.0.256.0", "0.0.0.256", "1.2.3", "1.2.3.4.5", "1.2.3.4.", ".1.2.3.4",
                     "1..3.4", "1.2.3.", ".2.3.4", "01.2.3.4", "1.2.3.00", "1.2.3.a", "1.2.3.-4", "1.2.3.0x4", "1",
                     "...", ".", "1:2:3:4", "1.2.3.12345678901", "1.2.3.4 5", ""):
            self.refuses_line("x 60 A " + word)

    def says_groups(self, word, *groups):
        self.says("x 60 AAAA " + word, AAAA, b"".join(group.to_bytes(2, "big") for group in groups))

    def test_eight_groups(self):
        self.says_groups("1:2:3:4:5:6:7:8", 1, 2, 3, 4, 5, 6, 7, 8)
        self.says_groups("0:0:0:0:0:0:0:0", 0, 0, 0, 0, 0, 0, 0, 0)
        self.says_groups("ffff:FFFF:aBcD:0001:00:e:F0:9", 0xFFFF, 0xFFFF, 0xABCD, 1, 0, 14, 0xF0, 9)
        self.says_groups("0123:4567:89ab:cdef:89AB:CDEF:a:f", 0x123, 0x4567, 0x89AB, 0xCDEF, 0x89AB, 0xCDEF, 10, 15)

    def test_two_colons_in_front(self):
        self.says_groups("::1", 0, 0, 0, 0, 0, 0, 0, 1)
        self.says_groups("::2:3:4:5:6:7:8", 0, 2, 3, 4, 5, 6, 7, 8)

    def test_two_colons_behind(self):
        self.says_groups("1::", 1, 0, 0, 0, 0, 0, 0, 0)
        self.says_groups("1:2:3:4:5:6:7::", 1, 2, 3, 4, 5, 6, 7, 0)

    def test_two_colons_alone(self):
        self.says_groups("::", 0, 0, 0, 0, 0, 0, 0, 0)

    def test_two_colons_between(self):
        self.says_groups("1::8", 1, 0, 0, 0, 0, 0, 0, 8)
        self.says_groups("1:2:3:4::6:7:8", 1, 2, 3, 4, 0, 6, 7, 8)
        self.says_groups("a:b::c", 10, 11, 0, 0, 0, 0, 0, 12)

    def test_two_colons_with_eight_groups(self):
        for word in ("::1:2:3:4:5:6:7:8", "1:2:3:4:5:6:7:8::", "1:2:3:4::5:6:7:8", "1::2:3:4:5:6:7:8:9"):
            self.refuses_line("x 60 AAAA " + word)

    def test_two_colons_twice(self):
        for word in ("1::2::3", "::1::", "::::", ":::", "1:::2", ":::1", "1:::", "::1:2::3"):
            self.refuses_line("x 60 AAAA " + word)

    def test_one_colon_in_front_or_behind(self):
        for word in (":", ":1", "1:", ":1:2:3:4:5:6:7:8", "1:2:3:4:5:6:7:8:", ":2:3:4:5:6:7:8", "1:2:3:4:5:6:7:",
                     ":1::2", "1::2:"):
            self.refuses_line("x 60 AAAA " + word)

    def test_too_few_and_too_many_groups(self):
        for word in ("1", "1:2:3:4:5:6:7", "1:2:3:4:5:6:7:8:9"):
            self.refuses_line("x 60 AAAA " + word)

    def test_groups_that_are_none(self):
        for word in ("::10000", "00001::", "::g", "::G", "::-1", "::1.2.3.4", "::`", "::@", "::/", "1:2:3:4:5:6:7:x",
                     '"::1"', "::1 ::2", "::1%1", "[::1]", ""):
            self.refuses_line("x 60 AAAA " + word)
