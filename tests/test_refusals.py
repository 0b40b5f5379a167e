from nameserve.zones import answer
from tests.support import A, BASE, ORIGIN, OWN, SOA, Case, asked, led, octets, query, record, reply, wire

ASKING = list(query(asked(wire("example"), SOA)))


class Sizes(Case):
    def test_zone_too_long(self):
        self.assertEqual(answer([59] * 65537, ASKING), [-2])

    def test_zone_of_the_greatest_size_is_read(self):
        self.assertEqual(answer([59] * 65536, ASKING), [-101])

    def test_query_too_long(self):
        self.assertEqual(answer(octets(BASE), [0] * 65536), [-2])

    def test_query_of_the_greatest_size_is_read(self):
        self.assertEqual(answer(octets(BASE), [0] * 65535), [12, 0, 0, 0x80, 1] + [0] * 8)

    def test_a_query_too_long_goes_ahead_of_the_zone(self):
        self.assertEqual(answer([], [0] * 65536), [-2])
        self.assertEqual(answer(octets(ORIGIN), [0] * 65536), [-2])

    def test_the_zone_goes_ahead_of_a_query_that_is_not_answered(self):
        self.assertEqual(answer([], []), [-101])
        self.assertEqual(answer(octets(ORIGIN), []), [-3])
        self.assertEqual(answer(octets(BASE), []), [0])


class Lines(Case):
    def test_empty_zone(self):
        self.refuses("", -101)

    def test_first_line_without_words(self):
        self.refuses("\n", -101)
        self.refuses("\n" + BASE, -101)
        self.refuses("   \n" + BASE, -101)
        self.refuses("; a remark\n" + BASE, -101)

    def test_first_line_with_a_word_too_few_or_too_many(self):
        self.refuses("$ORIGIN\n", -101)
        self.refuses("example.\n", -101)
        self.refuses("$ORIGIN example. example.\n", -101)
        self.refuses('$ORIGIN example."x"\n', -101)

    def test_first_word(self):
        self.refuses(BASE.replace("$ORIGIN", "$origin"), -101)
        self.refuses(BASE.replace("$ORIGIN", "$ORIGINS"), -101)
        self.refuses(BASE.replace("$ORIGIN", "ORIGIN"), -101)
        self.refuses(BASE.replace("$ORIGIN", '"$ORIGIN"'), -101)

    def test_the_origin_is_told_once(self):
        self.refuses(BASE + "$ORIGIN example.\n", -104)

    def test_length_of_a_line(self):
        line = "x 60 A 1.2.3.4 ;"
        self.says(line.ljust(600, "r"), A, b"\x01\x02\x03\x04")
        self.says(line.ljust(600, "r") + "\n", A, b"\x01\x02\x03\x04")
        self.refuses(BASE + line.ljust(601, "r"), -104)
        self.refuses(BASE + line.ljust(601, "r") + "\n", -104)
        self.refuses(BASE + " " * 601, -104)
        self.refuses(" " * 601 + "\n" + BASE, -101)

    def test_characters(self):
        for sign in "\x00\x01\t\x0b\r\x1f\x7f\x80\xa0\xff":
            self.refuses(BASE + "x 60 A 1.2.3.4 ;" + sign + "\n", -104)
            self.refuses(BASE + sign + "\n", -104)
            self.refuses(sign + BASE, -101)
        self.says('x 60 TXT " ~"', 16, b"\x02 ~")

    def test_another_character_goes_ahead_of_an_earlier_line_that_is_not_as_told(self):
        for late in ("\x1f", "\x7f", "y" * 601):
            self.refuses(BASE + "wrong\n\nx 60 A 1.2.3.4\n;" + late + "\nwrong\n", -107)
            self.refuses("wrong\n" + late, -102)
            self.refuses("\n" + late + "\n", -102)

    def test_the_first_of_two_lines_of_either_kind(self):
        self.refuses(BASE + "\x1f\n" + "y" * 601, -104)
        self.refuses(BASE + "y" * 601 + "\n\x7f", -104)
        self.refuses(BASE + "x 60 A 1.2.3.4\nwrong\nwrong\n", -105)

    def test_a_line_goes_ahead_of_a_zone_that_is_not_served(self):
        self.refuses(ORIGIN + "@ 60 A 1.2.3.4\n@ 61 A 1.2.3.4\nwrong\n", -104)
        self.refuses(ORIGIN + "@ 60 A 1.2.3.4\n@ 61 A 1.2.3.4\n\x7f\n", -104)

    def test_last_line_with_and_without_its_newline(self):
        self.refuses(BASE + "wrong", -104)
        self.refuses(BASE + "wrong\n", -104)
        self.says("x 60 A 1.2.3.4", A, b"\x01\x02\x03\x04")
        self.says("x 60 A 1.2.3.4\n", A, b"\x01\x02\x03\x04")
        self.refuses("$ORIGIN example.", -3)
        self.refuses("$ORIGIN example.\n", -3)

    def test_lines_without_words_are_passed_over_and_count(self):
        self.says("\n\n  \n;\n  ; remark\nx 60 A 1.2.3.4\n\n\n", A, b"\x01\x02\x03\x04")
        self.refuses(BASE + "\n  \n;\n  ; remark\nwrong\n", -108)
        self.refuses(BASE + "\n" * 1000 + "wrong", -1104)

    def test_a_record_needs_its_first_words(self):
        self.refuses_line("x")
        self.refuses_line("x 60")
        self.refuses_line("x 60 A")
        self.refuses_line("60 A 1.2.3.4")
        self.refuses_line("x A 1.2.3.4")
        self.refuses_line("x A 60 1.2.3.4")
        self.refuses_line("x 60 IN A 1.2.3.4")


class Words(Case):
    def test_blanks_in_front_and_behind(self):
        self.says("   x    60  A     1.2.3.4   ", A, b"\x01\x02\x03\x04")
        self.finds("  $ORIGIN   example.  " + BASE[len(ORIGIN) - 1:] + "x 60 A 1.2.3.4", wire("x", "example"), A,
                   OWN, 0, (1, 0, 0), record(led(12), A, b"\x01\x02\x03\x04"))

    def test_quoted_words_right_beside_others(self):
        self.says('x 60 TXT"a"', 16, b"\x01a")
        self.says('x 60 TXT"a""b""""c d"', 16, b"\x01a\x01b\x00\x03c d")
        self.says('x 60 TXT "a"; "b"', 16, b"\x01a")
        self.says('x 60 TXT "a";"', 16, b"\x01a")
        self.refuses_line('x 60 TXT "a"b')
        self.refuses_line('x 60 TXT a"b"')
        self.refuses_line('x 60 TXT "a"b"c"')
        self.refuses_line('x 60 "TXT" "a"')
        self.refuses_line('"x" 60 A 1.2.3.4')
        self.refuses_line('x "60" A 1.2.3.4')
        self.refuses_line('x 60 A "1.2.3.4"')
        self.refuses_line('x 60 A 1.2.3.4""')

    def test_a_quoted_word_parts_the_name_in_front_of_it(self):
        self.refuses_line('x"y" 60 A 1.2.3.4')

    def test_a_quote_that_is_not_closed(self):
        self.refuses_line('"')
        self.refuses_line('x 60 TXT "')
        self.refuses_line('x 60 TXT "a')
        self.refuses_line('x 60 TXT "a" "')
        self.refuses_line('x 60 TXT "a"" b')
        self.refuses_line('x 60 TXT "a;b')
        self.refuses_line('x 60 A 1.2.3.4"')
        self.refuses('$ORIGIN example."\n', -101)

    def test_no_quote_is_closed_in_another_line(self):
        self.refuses_line('x 60 TXT "a\ny 60 TXT b"')

    def test_a_backslash_is_a_character(self):
        self.says('x 60 TXT "a\\"', 16, b"\x02a\\")
        self.refuses_line('x 60 TXT "a\\"b"')

    def test_a_semicolon_in_quotes_and_outside_them(self):
        self.says('x 60 TXT "a;b" ;"c"', 16, b"\x03a;b")
        self.says("x 60 A 1.2.3.4; remark", A, b"\x01\x02\x03\x04")
        self.says("x 60 A 1.2.3.4 ;;", A, b"\x01\x02\x03\x04")
        self.refuses_line("x 60 A;1.2.3.4")
        self.refuses_line("x 60;A 1.2.3.4")
        self.answers(BASE.replace(".\n", ".;remark\n", 1), query(asked(wire("a"), A)),
                     reply(asked(wire("a"), A), 0x80, 5, (0, 0, 0)))

    def test_a_quote_in_a_remark_is_not_there(self):
        self.says('x 60 A 1.2.3.4 ; "', A, b"\x01\x02\x03\x04")
        self.says('; "\nx 60 A 1.2.3.4', A, b"\x01\x02\x03\x04")
