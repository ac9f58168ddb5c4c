"""The calls find and locator."""

import unittest

from helper import Desk, fill_records, locator, numbers_of, row_call

FAR = (-10 ** 12, 10 ** 12)


def desk_with_records():
    """Records 1 to 4: SMITH; SMITHSON and LEE; LEE twice; ABCDEFGHIJKL."""
    desk = Desk()
    desk.flight(1, 0, 1, [9])
    desk.enter(0, "N1SMITH/ANN;W1,1,0,A,0,1;E")
    desk.enter(0, "N1SMITHSON/BOB;N1LEE/EVE;W2,1,0,A,0,1;E")
    desk.enter(0, "N2LEE/ANN/SMITH;W2,1,0,A,0,1;E")
    desk.enter(0, "N1ABCDEFGHIJKL/ZOE;W1,1,0,A,0,1;E")
    return desk


class Find(unittest.TestCase):
    def test_no_records(self):
        self.assertEqual(Desk().find(""), [0])
        self.assertEqual(Desk().find("A"), [0])

    def test_none_is_the_beginning_of_every_one(self):
        desk = desk_with_records()
        self.assertEqual(desk.find(""), [0, 1, 2, 3, 4])

    def test_beginnings(self):
        desk = desk_with_records()
        self.assertEqual(desk.find("S"), [0, 1, 2])
        self.assertEqual(desk.find("SMIT"), [0, 1, 2])
        self.assertEqual(desk.find("L"), [0, 2, 3])
        self.assertEqual(desk.find("A"), [0, 4])

    def test_a_whole_last_name_and_one_byte_more(self):
        desk = desk_with_records()
        self.assertEqual(desk.find("SMITH"), [0, 1, 2])
        self.assertEqual(desk.find("SMITHS"), [0, 2])
        self.assertEqual(desk.find("SMITHSON"), [0, 2])
        self.assertEqual(desk.find("SMITHSONS"), [0])
        self.assertEqual(desk.find("LEE"), [0, 2, 3])
        self.assertEqual(desk.find("LEEE"), [0])
        self.assertEqual(desk.find("ABCDEFGHIJKL"), [0, 4])
        self.assertEqual(desk.find("ABCDEFGHIJKM"), [0])

    def test_not_within_a_last_name_and_not_a_first_name(self):
        desk = desk_with_records()
        for beginning in ("MITH", "EE", "H", "ANN", "BOB", "Z", "SMITHANN"):
            self.assertEqual(desk.find(beginning), [0])

    def test_a_record_with_two_such_names_is_told_once(self):
        desk = desk_with_records()
        desk.enter(0, "N1SMITH/A;N1SMITHSON/B;N1SM/C;W3,1,0,A,0,1;E")
        self.assertEqual(desk.find("SM"), [0, 1, 2, 5])
        self.assertEqual(desk.find("LEE"), [0, 2, 3])

    def test_bytes_that_are_no_letters(self):
        desk = desk_with_records()
        for row in ([0], [255], [64], [91], [47], numbers_of("smith"), numbers_of("SMITH/"), numbers_of("SMITH") + [0]):
            self.assertEqual(desk.peek(row_call([8], row)), [0])

    def test_what_is_in_hand_does_not_count(self):
        desk = desk_with_records()
        desk.enter(0, "N1NEW/A;W1,1,0,A,0,1")
        desk.enter(1, f"*{locator(1)};N1NEW/B;-1")
        self.assertEqual(desk.find("NEW"), [0])
        self.assertEqual(desk.find("SMITH"), [0, 1, 2])
        desk.enter(1, "E")
        self.assertEqual(desk.find("NEW"), [0, 1])
        self.assertEqual(desk.find("SMITH"), [0, 2])
        desk.enter(0, "E")
        self.assertEqual(desk.find("NEW"), [0, 1, 5])

    def test_names_go_with_a_division(self):
        desk = desk_with_records()
        desk.enter(0, f"*{locator(2)};D2")
        self.assertEqual(desk.find("LEE"), [0, 3, 5])
        self.assertEqual(desk.find("SMITHSON"), [0, 2])

    def test_records_without_living_parts_are_found_too(self):
        desk = desk_with_records()
        desk.enter(0, f"*{locator(1)};XA;E")
        self.assertEqual(desk.find("SMITH"), [0, 1, 2])

    def test_ranges(self):
        desk = desk_with_records()
        self.assertEqual(desk.find("A" * 12), [0])
        self.assertEqual(desk.find("A" * 13), [-2])
        self.assertEqual(desk.find("ABCDEFGHIJKLM"), [-2])
        self.assertEqual(desk.find("A" * 130), [-2])
        for byte in (0, 255):
            self.assertEqual(desk.peek(row_call([8], [byte])), [0])
            self.assertEqual(desk.peek(row_call([8], [65] * 11 + [byte])), [0])
        for byte in (-1, 256) + FAR:
            self.assertEqual(desk.peek(row_call([8], [byte])), [-2])
            self.assertEqual(desk.peek(row_call([8], [83, byte])), [-2])
            self.assertEqual(desk.peek(row_call([8], [65] * 11 + [byte])), [-2])


class Locators(unittest.TestCase):
    def test_the_first_place(self):
        desk = Desk()
        desk.flight(1, 0, 1, [9])
        self.assertEqual(desk.locator(1), [-9])
        desk.enter(0, "N1A/B;W1,1,0,A,0,1")
        self.assertEqual(desk.locator(1), [-9])
        desk.enter(0, "E")
        self.assertEqual(desk.locator(1), [0] + list(b"GOFFWZ"))
        self.assertEqual(desk.locator(2), [-9])
        self.assertEqual(desk.locator(40), [-9])

    def test_the_last_place(self):
        desk = Desk()
        desk.flight(1, 0, 1, [9])
        fill_records(desk, 39)
        self.assertEqual(desk.locator(39), [0] + numbers_of(locator(39)))
        self.assertEqual(desk.locator(40), [-9])
        fill_records(desk, 1)
        self.assertEqual(desk.locator(40), [0] + numbers_of(locator(40)))
        self.assertEqual(desk.locator(41), [-2])

    def test_all_places(self):
        desk = Desk()
        desk.flight(1, 0, 1, [9])
        fill_records(desk, 40)
        told = [desk.locator(k) for k in range(1, 41)]
        self.assertEqual(told, [[0] + numbers_of(locator(k)) for k in range(1, 41)])
        self.assertEqual(len(set(map(tuple, told))), 40)
        # By hand: (39 * 151234571 + 77777777) % 308915776 = 106526302, by base 26: 8 25 2 23 7 12.
        self.assertEqual(told[39], [0] + list(b"IZCXHM"))

    def test_a_record_made_by_a_division(self):
        desk = Desk()
        desk.flight(1, 0, 1, [9])
        made = desk.enter(0, f"N2A/B/C;W2,1,0,A,0,1;E;*{locator(1)};D1")
        self.assertEqual(desk.locator(2), [0] + made[3:])

    def test_ranges(self):
        desk = Desk()
        desk.flight(1, 0, 1, [9])
        for k in (1, 40):
            self.assertEqual(desk.locator(k), [-9])
        fill_records(desk, 40)
        for k in (0, 41, -1) + FAR:
            self.assertEqual(desk.locator(k), [-2])
            self.assertEqual(Desk().locator(k), [-2])


if __name__ == "__main__":
    unittest.main()
