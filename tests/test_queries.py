from nameserve.zones import answer
from tests.support import A, BASE, NOT_OWN, OWN, Case, asked, led, octets, query, record, reply, soa, wire

ZONE = BASE + "x 60 A 1.2.3.4\n"
NAME = wire("x", "example")
QUESTION = asked(NAME, A)
ADDRESS = record(led(12), A, b"\x01\x02\x03\x04")


class NothingAnswered(Case):
    def test_fewer_than_twelve_bytes(self):
        whole = list(query(QUESTION))
        for size in range(12):
            self.assertEqual(answer(octets(ZONE), whole[:size]), [0])

    def test_twelve_bytes(self):
        self.answers(ZONE, query(b""), b"\x12\x34\x80\x01" + b"\x00" * 8)

    def test_an_answer(self):
        for byte2 in (0x80, 0x81, 0x84, 0xFF):
            self.answers(ZONE, query(QUESTION, byte2=byte2), b"")
            self.answers(ZONE, query(b"", byte2=byte2), b"")


class Headers(Case):
    def test_the_querys_number(self):
        for number in (0, 1, 256, 65535):
            self.answers(ZONE, query(QUESTION, number=number),
                         reply(QUESTION, OWN, 0, (1, 0, 0), ADDRESS, number=number))

    def test_the_wish_for_recursion(self):
        self.answers(ZONE, query(QUESTION, byte2=1), reply(QUESTION, OWN + 1, 0, (1, 0, 0), ADDRESS))

    def test_other_bits_are_not_given_back(self):
        self.answers(ZONE, query(QUESTION, byte2=6, byte3=255), reply(QUESTION, OWN, 0, (1, 0, 0), ADDRESS))
        self.answers(ZONE, query(b"", byte2=7, byte3=255), b"\x12\x34\x81\x01" + b"\x00" * 8)

    def test_the_question_is_given_back_as_it_came(self):
        question = asked(wire("X", "eXAMPLe"), A)
        self.answers(ZONE, query(question), reply(question, OWN, 0, (1, 0, 0), ADDRESS))
        question = asked(wire("nO", "eXAMPLe"), A)
        self.answers(ZONE, query(question), reply(question, OWN, 3, (0, 1, 0), soa(15)))
        question = asked(wire("X", "oRG"), A)
        self.answers(ZONE, query(question), reply(question, NOT_OWN, 5, (0, 0, 0)))

    def test_every_capital_counts_as_a_small_letter(self):
        letters = "abcdefghijklmnopqrstuvwxyz"
        question = asked(wire(letters.upper(), "example"), A)
        self.answers(BASE + letters + " 60 A 1.2.3.4", query(question), reply(question, OWN, 0, (1, 0, 0), ADDRESS))

    def test_other_characters_stay_apart(self):
        for sign in "@[`{":
            question = asked(wire(sign, "example"), A)
            self.answers(BASE + "_ 60 A 1.2.3.4", query(question), reply(question, OWN, 3, (0, 1, 0), soa(14)))


class Code1(Case):
    def bad_form(self, asking, byte2=0x80):
        self.answers(ZONE, asking, b"\x12\x34" + bytes([byte2, 1]) + b"\x00" * 8)

    def test_counts(self):
        for counts in ((0, 0, 0, 0), (2, 0, 0, 0), (256, 0, 0, 0), (257, 0, 0, 0), (1, 1, 0, 0), (1, 256, 0, 0),
                       (1, 0, 1, 0), (1, 0, 256, 0), (0, 1, 0, 0), (2, 0, 0, 1)):
            self.bad_form(query(QUESTION, counts=counts))

    def test_the_name_is_not_whole(self):
        self.bad_form(query(b""))
        for size in range(len(NAME)):
            self.bad_form(query(NAME[:size]))

    def test_number_and_class_are_not_there(self):
        for size in range(len(NAME), len(QUESTION)):
            self.bad_form(query(QUESTION[:size]))
            self.bad_form(query(QUESTION[:size], counts=(1, 0, 0, 1)))

    def test_a_label_led_to(self):
        self.bad_form(query(asked(b"\xc0\x0c", A)))
        self.bad_form(query(asked(b"\x01x\xc0\x0c", A)))
        self.bad_form(query(asked(b"\x01x\xc0\x00", A), counts=(1, 0, 0, 1)))

    def test_a_label_of_more_than_63_bytes(self):
        for size in (64, 65, 128, 191):
            self.bad_form(query(asked(bytes([size]) + b"a" * size + b"\x00", A)))
        question = asked(wire("a" * 63), A)
        self.answers(ZONE, query(question), reply(question, NOT_OWN, 5, (0, 0, 0)))

    def test_size_of_the_name(self):
        longest = wire("a" * 63, "a" * 63, "a" * 63, "a" * 61)
        self.assertEqual(len(longest), 255)
        self.answers(ZONE, query(asked(longest, A)), reply(asked(longest, A), NOT_OWN, 5, (0, 0, 0)))
        self.bad_form(query(asked(wire("a" * 63, "a" * 63, "a" * 63, "a" * 62), A)))
        self.answers(ZONE, query(asked(wire(*["a"] * 127), A)),
                     reply(asked(wire(*["a"] * 127), A), NOT_OWN, 5, (0, 0, 0)))
        self.bad_form(query(asked(wire(*["a"] * 128), A)))
        self.bad_form(query(asked(wire(*["a"] * 1000), A)))
        self.bad_form(query(b"\x01" * 65523))

    def test_a_name_of_255_bytes_in_the_zone(self):
        name = wire("a" * 63, "a" * 63, "a" * 63, "a" * 53, "example")
        self.assertEqual(len(name), 255)
        self.answers(BASE + ".".join(["a" * 63, "a" * 63, "a" * 63, "a" * 53]) + " 60 A 1.2.3.4", query(asked(name, A)),
                     reply(asked(name, A), OWN, 0, (1, 0, 0), ADDRESS))

    def test_something_behind_the_question(self):
        due = reply(QUESTION, OWN, 0, (1, 0, 0), ADDRESS)
        for behind in (b"\x00", b"\xff" * 11, QUESTION, b"\x00" * 600):
            self.bad_form(query(QUESTION + behind))
            for count in (1, 2, 256, 65535):
                self.answers(ZONE, query(QUESTION + behind, counts=(1, 0, 0, count)), due)

    def test_nothing_behind_it_though_the_fourth_count_is_not_0(self):
        self.answers(ZONE, query(QUESTION, counts=(1, 0, 0, 1)), reply(QUESTION, OWN, 0, (1, 0, 0), ADDRESS))

    def test_it_keeps_opcode_and_recursion(self):
        self.bad_form(query(b"", byte2=0x01), 0x81)
        self.bad_form(query(b"", byte2=0x79), 0xF9)


class Codes4And5(Case):
    def test_each_opcode(self):
        for opcode in range(1, 16):
            for wish in (0, 1):
                byte2 = opcode * 8 + wish
                self.answers(ZONE, query(QUESTION, byte2=byte2), reply(QUESTION, 0x80 + byte2, 4, (0, 0, 0)))

    def test_each_class_but_1(self):
        for group in (0, 2, 3, 254, 255, 256, 257, 65535):
            question = asked(NAME, A, group)
            self.answers(ZONE, query(question), reply(question, NOT_OWN, 5, (0, 0, 0)))
            self.answers(ZONE, query(question, byte2=1), reply(question, NOT_OWN + 1, 5, (0, 0, 0)))

    def test_capitals_are_given_back(self):
        question = asked(wire("X", "Example"), A, 3)
        self.answers(ZONE, query(question), reply(question, NOT_OWN, 5, (0, 0, 0)))
        question = asked(wire("X", "Example"), A)
        self.answers(ZONE, query(question, byte2=16), reply(question, 0x90, 4, (0, 0, 0)))

    def test_what_is_behind_the_question_is_not_given_back(self):
        question = asked(NAME, A, 3)
        self.answers(ZONE, query(question + b"\x00\x01", counts=(1, 0, 0, 1)),
                     reply(question, NOT_OWN, 5, (0, 0, 0)))
        self.answers(ZONE, query(QUESTION + b"\x00\x01", byte2=8, counts=(1, 0, 0, 1)),
                     reply(QUESTION, 0x88, 4, (0, 0, 0)))

    def test_code_1_goes_ahead_of_code_4_and_code_5(self):
        self.answers(ZONE, query(QUESTION + b"\x00", byte2=8), b"\x12\x34\x88\x01" + b"\x00" * 8)
        self.answers(ZONE, query(asked(NAME, A, 3) + b"\x00"), b"\x12\x34\x80\x01" + b"\x00" * 8)
        self.answers(ZONE, query(asked(NAME, A, 3), counts=(1, 0, 1, 0)), b"\x12\x34\x80\x01" + b"\x00" * 8)

    def test_code_4_goes_ahead_of_code_5(self):
        question = asked(NAME, A, 3)
        self.answers(ZONE, query(question, byte2=8), reply(question, 0x88, 4, (0, 0, 0)))
        question = asked(wire("x", "org"), A)
        self.answers(ZONE, query(question, byte2=8), reply(question, 0x88, 4, (0, 0, 0)))


class Numbers(Case):
    def test_numbers_of_two_bytes(self):
        for number in (0, 3, 252, 254, 256, 257, 260, 65281, 65535):
            question = asked(NAME, number)
            self.answers(ZONE, query(question), reply(question, OWN, 0, (0, 1, 0), soa(14)))
