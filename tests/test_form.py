"""The form of an agent's text: what is entries as told, and what is refused whole with -3."""

import unittest

from helper import Desk, entry_call, row_call, numbers_of

GOOD = [
    "N1A/B", "N2SMITH/ANN/BOB", "N1ABCDEFGHIJKL/ABCDEFGHIJKL", "N9A/B/C/D/E/F/G/H/I/J", "N1Z/Z",
    "-1", "-9", "S1,1,0,A,0,1", "S9,9999,36524,L,3,4", "S2,44,10,B,0,1", "S1,1,0,A,3,1", "W1,1,0,A,0,1",
    "W9,9999,36524,L,3,4", "X1", "X8", "XA", "T0", "T36524", "T9", "K", "E", "I", "*ABCDEF", "*ZZZZZZ",
    "D1", "D9", "D1,3", "D1,2,3,4,5,6,7,8,9",
]

BAD = [
    "", " ", "K ", " K", "k", "KK", "K1", "E1", "I0", "EI", "?", "1", "A", "M", "\x00", "K\x00", "\xff",
    "N", "N0A/B", "N0A", "N1", "N1/", "N1A", "N1A/", "N1/B", "N1A/B/", "N1A/B/C", "N2A/B", "N2A/B/C/D", "NA/B",
    "N10A/B/C/D/E/F/G/H/I/J/K", "N01A/B", "N1a/B", "N1A/b", "N1A B/C", "N1A1/B", "N1A/B1", "N1A-B/C", "N1A,B/C",
    "N1ABCDEFGHIJKLM/A", "N1A/ABCDEFGHIJKLM", "N1@/A", "N1[/A", "N 1A/B", "N2A//B",
    "-", "-0", "-10", "-01", "--1", "-A", "-1,2", "- 1", "1-",
    "S", "S1,1,0,A,0", "S1,1,0,A,0,1,1", "S0,1,0,A,0,1", "S10,1,0,A,0,1", "S1,0,0,A,0,1", "S1,10000,0,A,0,1",
    "S1,1,36525,A,0,1", "S1,1,100000,A,0,1", "S1,1,0,M,0,1", "S1,1,0,a,0,1", "S1,1,0,AA,0,1", "S1,1,0,,0,1",
    "S1,1,0,0,0,1", "S1,1,0,@,0,1", "S1,1,0,A,4,1", "S1,1,0,A,0,0", "S1,1,0,A,0,5", "S1,1,0,A,00,1",
    "S1,01,0,A,0,1", "S01,1,0,A,0,1", "S1,1,00,A,0,1", "S1,1,0,A,0,01", "S1,,0,A,0,1", "S,1,0,A,0,1", "S1,1,,A,0,1",
    "S1,1,0,A,,1", "S1,1,0,A,0,", "S1,1,0,A,-1,1", "S1 ,1,0,A,0,1", "S1,1,0,A,0,1,", "S1,00001,0,A,0,1",
    "W", "W0,1,0,A,0,1", "W1,1,0,M,0,1", "W1,1,0,A,0,5", "W1,1,0,A,0",
    "X", "X0", "X9", "X01", "XB", "XAA", "XA1", "X1A", "X10", "X 1", "X1,2",
    "T", "T36525", "T00", "T01", "T100000", "T000001", "T-1", "TA", "T1,2", "T 1",
    "*", "*ABCDE", "*ABCDEFG", "*ABCDE1", "*abcdef", "*ABCDE ", "**ABCDE", "ABCDEF",
    "D", "D0", "D10", "D1,1", "D2,1", "D1,3,2", "D1,", "D,1", "D1,,2", "D01", "D1;2", "D1 ,2", "DA", "D1,10",
    ";", "K;", ";K", "K;;K", "K; K", "K;E;", "K,K",
]


class Form(unittest.TestCase):
    def test_entries_as_told_are_taken(self):
        for text in GOOD:
            with self.subTest(text=text):
                answer = Desk().enter(0, text)
                self.assertEqual(answer[0], 0)
                self.assertGreaterEqual(len(answer), 3)

    def test_what_is_not_an_entry_refuses_the_text(self):
        for text in BAD:
            if text != "":
                with self.subTest(text=text):
                    self.assertEqual(Desk().enter(0, text), [-3])

    def test_nothing_is_done_of_a_text_with_one_bad_entry_anywhere(self):
        for bad in BAD:
            for text in ("K;" + bad, bad + ";K", "K;" + bad + ";K"):
                with self.subTest(text=text):
                    desk = Desk()
                    self.assertEqual(desk.enter(0, text), [-3])
                    self.assertEqual(desk.hand(0), [0, 0])

    def test_every_byte_by_itself(self):
        for byte in range(256):
            with self.subTest(byte=byte):
                expected = {ord("K"): [0, 1, 0], ord("E"): [0, 0, -4], ord("I"): [0, 0, -4]}.get(byte, [-3])
                self.assertEqual(Desk().ask([0, 0, 1, byte]), expected)

    def test_every_byte_within_a_name_a_class_and_a_locator(self):
        for byte in range(256):
            letter = 65 <= byte <= 90
            with self.subTest(byte=byte):
                answer = Desk().ask(row_call([0, 0], numbers_of("N1A/B") + [byte]))
                self.assertEqual(answer, [0, 1, 0] if letter else [-3])
                answer = Desk().ask(row_call([0, 0], numbers_of("*AAAAA") + [byte]))
                self.assertEqual(answer, [0, 0, -9] if letter else [-3])
                answer = Desk().ask(row_call([0, 0], numbers_of("S1,1,0,") + [byte] + numbers_of(",0,1")))
                self.assertEqual(answer, [0, 0, -6] if 65 <= byte <= 76 else [-3])

    def test_a_long_text_of_good_entries_is_taken_whole(self):
        text = ";".join(["K"] * 30 + ["I"] + ["K"] * 28) + ";E"
        self.assertEqual(len(text), 119)
        self.assertEqual(Desk().enter(0, text), [0, 59, -13])


class TextRange(unittest.TestCase):
    def test_lengths(self):
        self.assertEqual(Desk().enter(0, ""), [-2])
        self.assertEqual(Desk().enter(0, "K"), [0, 1, 0])
        text = "T36524;" * 17
        self.assertEqual(len(text + "K"), 120)
        self.assertEqual(Desk().enter(0, text + "K"), [0, 18, 0])
        self.assertEqual(Desk().enter(0, text + "T1"), [-2])
        self.assertEqual(Desk().enter(0, "K" * 121), [-2])
        self.assertEqual(Desk().enter(0, "K" * 130), [-2])
        self.assertEqual(Desk().enter(0, "K" * 120), [-3])

    def test_bytes(self):
        for byte in (-1, 256, -10 ** 12, 10 ** 12):
            self.assertEqual(Desk().ask([0, 0, 1, byte]), [-2])
            self.assertEqual(Desk().ask([0, 0, 3, 75, 59, byte]), [-2])
        self.assertEqual(Desk().ask([0, 0, 1, 0]), [-3])
        self.assertEqual(Desk().ask([0, 0, 1, 255]), [-3])

    def test_agents(self):
        for agent in (0, 1, 2, 3):
            self.assertEqual(Desk().enter(agent, "K"), [0, 1, 0])
        for agent in (-1, 4, -10 ** 12, 10 ** 12):
            self.assertEqual(Desk().enter(agent, "K"), [-2])
            self.assertEqual(Desk().enter(agent, "?"), [-2])

    def test_a_refused_call_does_nothing(self):
        desk = Desk()
        desk.ask(entry_call(4, "K"))
        desk.ask([0, 0, 3, 75, 59, 256])
        for agent in range(4):
            self.assertEqual(desk.hand(agent), [0, 0])


if __name__ == "__main__":
    unittest.main()
