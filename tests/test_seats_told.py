"""The calls room and sold."""

import unittest

from helper import Desk, locator

FAR = (-10 ** 12, 10 ** 12)


def desk_with_flights():
    """Flight 1 of day 0: three legs, three classes. Flight 2 of day 5: one leg, twelve classes."""
    desk = Desk()
    desk.flight(1, 0, 3, [20, 30, 999])
    desk.flight(2, 5, 12, [7])
    return desk


class Rooms(unittest.TestCase):
    def rooms(self, desk, i, j):
        """The room of the classes of flight 1."""
        told = [desk.room_told(1, 0, i, j, c) for c in range(3)]
        self.assertEqual([answer[0] for answer in told], [0, 0, 0])
        return [answer[1] for answer in told]

    def test_a_new_flight(self):
        desk = desk_with_flights()
        self.assertEqual(self.rooms(desk, 0, 1), [20] * 3)
        self.assertEqual(self.rooms(desk, 1, 2), [30] * 3)
        self.assertEqual(self.rooms(desk, 2, 3), [999] * 3)
        self.assertEqual(self.rooms(desk, 1, 3), [30] * 3)
        self.assertEqual(self.rooms(desk, 0, 3), [20] * 3)
        self.assertEqual(desk.room_told(2, 5, 0, 1, 11), [0, 7])

    def test_seats_count_on_their_legs(self):
        desk = desk_with_flights()
        desk.enter(0, "S9,1,0,A,1,3")
        self.assertEqual(self.rooms(desk, 0, 1), [20] * 3)
        self.assertEqual(self.rooms(desk, 1, 2), [21] * 3)
        self.assertEqual(self.rooms(desk, 2, 3), [990] * 3)
        desk.enter(1, "S4,1,0,A,0,2")
        self.assertEqual(self.rooms(desk, 0, 1), [16] * 3)
        self.assertEqual(self.rooms(desk, 1, 2), [17] * 3)
        self.assertEqual(self.rooms(desk, 0, 3), [16] * 3)
        self.assertEqual(self.rooms(desk, 1, 3), [17] * 3)
        self.assertEqual(self.rooms(desk, 2, 3), [990] * 3)

    def test_nests(self):
        desk = desk_with_flights()
        desk.limits(1, 0, 0, [20, 12, 5])
        desk.enter(0, "S3,1,0,C,0,1")
        self.assertEqual(self.rooms(desk, 0, 1), [17, 9, 2])
        desk.enter(0, "S4,1,0,B,0,1")
        self.assertEqual(self.rooms(desk, 0, 1), [13, 5, 2])
        desk.enter(0, "S9,1,0,A,0,1")
        self.assertEqual(self.rooms(desk, 0, 1), [4, 4, 2])
        desk.enter(1, "S3,1,0,A,0,1")
        self.assertEqual(self.rooms(desk, 0, 1), [1, 1, 1])
        self.assertEqual(self.rooms(desk, 0, 3), [1, 1, 1])
        self.assertEqual(self.rooms(desk, 1, 3), [30, 30, 30])

    def test_limits_that_do_not_fall(self):
        desk = desk_with_flights()
        desk.limits(1, 0, 1, [4, 999, 6])
        self.assertEqual(self.rooms(desk, 1, 2), [4, 4, 4])
        desk.limits(1, 0, 1, [999, 0, 6])
        self.assertEqual(self.rooms(desk, 1, 2), [999, 0, 0])
        self.assertEqual(self.rooms(desk, 0, 2), [20, 0, 0])

    def test_limits_below_what_is_sold(self):
        desk = desk_with_flights()
        desk.enter(0, "N5A/B/C/D/E/F;S5,1,0,B,0,2;E")
        desk.limits(1, 0, 0, [20, 4, 3])
        self.assertEqual(self.rooms(desk, 0, 1), [15, 0, 0])
        self.assertEqual(self.rooms(desk, 0, 2), [15, 0, 0])
        self.assertEqual(self.rooms(desk, 1, 2), [25, 25, 25])
        desk.limits(1, 0, 0, [0, 4, 3])
        self.assertEqual(self.rooms(desk, 0, 1), [0, 0, 0])
        self.assertEqual(desk.sold(1, 0, 0, 2), [0, 0, 5, 0])
        desk.limits(1, 0, 0, [6, 6, 3])
        self.assertEqual(self.rooms(desk, 0, 1), [1, 1, 1])

    def test_it_is_the_room_by_which_seats_are_sold(self):
        desk = desk_with_flights()
        desk.limits(1, 0, 0, [9, 7, 4])
        desk.enter(0, "S1,1,0,C,0,3;S2,1,0,B,0,1")
        for c, letter in enumerate("ABC"):
            self.assertEqual(desk.room_told(1, 0, 0, 2, c), [0, desk.room(f"1,0,{letter},0,2")])

    def test_flight_before_segment(self):
        desk = desk_with_flights()
        for num, day in ((1, 5), (2, 0), (3, 0), (9999, 36524)):
            self.assertEqual(desk.room_told(num, day, 0, 1, 0), [-6])
            self.assertEqual(desk.room_told(num, day, 3, 1, 11), [-6])
        self.assertEqual(Desk().room_told(1, 0, 0, 1, 0), [-6])

    def test_segments_that_the_flight_has_not(self):
        desk = desk_with_flights()
        for i, j, c in ((0, 4, 0), (3, 4, 0), (1, 1, 0), (2, 1, 0), (3, 1, 0), (3, 3, 0), (0, 1, 3), (0, 3, 11)):
            self.assertEqual(desk.room_told(1, 0, i, j, c), [-7])
        for i, j, c in ((0, 1, 2), (0, 3, 0), (2, 3, 2)):
            self.assertEqual(desk.room_told(1, 0, i, j, c)[0], 0)
        self.assertEqual(desk.room_told(2, 5, 0, 2, 0), [-7])
        self.assertEqual(desk.room_told(2, 5, 1, 2, 0), [-7])

    def test_ranges(self):
        desk = Desk()
        desk.flight(1, 0, 12, [9, 9, 9, 9])
        inside = ((1, (1, 9999)), (2, (0, 36524)), (3, (0, 3)), (4, (1, 4)), (5, (0, 11)))
        outside = ((1, (0, 10000)), (2, (-1, 36525)), (3, (-1, 4)), (4, (0, 5)), (5, (-1, 12)))
        for base in ([10, 1, 0, 0, 4, 0], [10, 2, 0, 0, 4, 0]):
            for place, numbers in inside:
                for number in numbers:
                    call = base[:place] + [number] + base[place + 1:]
                    self.assertNotEqual(desk.peek(call), [-2])
            for place, numbers in outside:
                for number in numbers + FAR:
                    call = base[:place] + [number] + base[place + 1:]
                    self.assertEqual(desk.peek(call), [-2])
        self.assertEqual(desk.room_told(1, 0, 3, 4, 11), [0, 9])


class Sold(unittest.TestCase):
    def test_nothing_at_first(self):
        desk = desk_with_flights()
        self.assertEqual(desk.sold(1, 0, 0, 1), [0, 0, 0, 0])
        self.assertEqual(desk.sold(1, 0, 0, 3), [0, 0, 0, 0])
        self.assertEqual(desk.sold(2, 5, 0, 1), [0] + [0] * 12)

    def test_each_class_and_each_segment_by_itself(self):
        desk = desk_with_flights()
        desk.enter(0, "S1,1,0,A,0,1;S2,1,0,B,0,1;S3,1,0,C,0,3;S4,1,0,A,1,3;S5,1,0,A,0,1")
        self.assertEqual(desk.sold(1, 0, 0, 1), [0, 6, 2, 0])
        self.assertEqual(desk.sold(1, 0, 0, 2), [0, 0, 0, 0])
        self.assertEqual(desk.sold(1, 0, 0, 3), [0, 0, 0, 3])
        self.assertEqual(desk.sold(1, 0, 1, 2), [0, 0, 0, 0])
        self.assertEqual(desk.sold(1, 0, 1, 3), [0, 4, 0, 0])
        self.assertEqual(desk.sold(1, 0, 2, 3), [0, 0, 0, 0])

    def test_flights_by_themselves(self):
        desk = desk_with_flights()
        desk.flight(1, 5, 1, [9])
        desk.enter(0, "S2,1,0,A,0,1;S3,2,5,L,0,1;S4,1,5,A,0,1")
        self.assertEqual(desk.sold(1, 0, 0, 1), [0, 2, 0, 0])
        self.assertEqual(desk.sold(2, 5, 0, 1), [0] + [0] * 11 + [3])
        self.assertEqual(desk.sold(1, 5, 0, 1), [0, 4])

    def test_from_the_sale_to_the_last_seat_given_back(self):
        desk = desk_with_flights()
        desk.enter(0, "N3A/B/C/D;S3,1,0,B,0,2;W3,1,0,B,0,2")
        self.assertEqual(desk.sold(1, 0, 0, 2), [0, 0, 3, 0])
        desk.enter(0, f"E;*{locator(1)};-1;S2,1,0,A,0,2")
        self.assertEqual(desk.sold(1, 0, 0, 2), [0, 2, 3, 0])
        desk.enter(0, "E")
        self.assertEqual(desk.sold(1, 0, 0, 2), [0, 2, 2, 0])
        self.assertEqual(desk.clear(), [0, 1, 2])
        self.assertEqual(desk.sold(1, 0, 0, 2), [0, 2, 4, 0])
        desk.enter(0, f"*{locator(1)};D1")
        self.assertEqual(desk.sold(1, 0, 0, 2), [0, 2, 4, 0])
        desk.enter(0, f"*{locator(2)};X1")
        self.assertEqual(desk.sold(1, 0, 0, 2), [0, 2, 4, 0])
        desk.enter(0, "E")
        self.assertEqual(desk.sold(1, 0, 0, 2), [0, 2, 3, 0])
        desk.enter(0, f"*{locator(1)};T0;E;*{locator(1)};S1,1,0,C,0,2")
        self.assertEqual(desk.sold(1, 0, 0, 2), [0, 2, 3, 1])
        desk.clock(1)
        self.assertEqual(desk.sold(1, 0, 0, 2), [0, 1, 1, 1])
        desk.enter(0, "X4")
        self.assertEqual(desk.sold(1, 0, 0, 2), [0, 1, 1, 0])
        desk.enter(0, f"I;*{locator(2)};XA;E")
        self.assertEqual(desk.sold(1, 0, 0, 2), [0, 0, 0, 0])

    def test_an_ignored_sale(self):
        desk = desk_with_flights()
        desk.enter(0, "S3,1,0,B,0,2;S2,1,0,C,0,2;I")
        self.assertEqual(desk.sold(1, 0, 0, 2), [0, 0, 0, 0])

    def test_limits_do_not_matter(self):
        desk = desk_with_flights()
        desk.enter(0, "S3,1,0,B,0,1")
        desk.limits(1, 0, 0, [0, 0, 0])
        self.assertEqual(desk.sold(1, 0, 0, 1), [0, 0, 3, 0])

    def test_flight_before_segment(self):
        desk = desk_with_flights()
        for num, day in ((1, 5), (2, 0), (3, 0), (9999, 36524)):
            self.assertEqual(desk.sold(num, day, 0, 1), [-6])
            self.assertEqual(desk.sold(num, day, 3, 1), [-6])
        self.assertEqual(Desk().sold(1, 0, 0, 1), [-6])

    def test_segments_that_the_flight_has_not(self):
        desk = desk_with_flights()
        for i, j in ((0, 4), (3, 4), (1, 1), (2, 1), (3, 1), (3, 3)):
            self.assertEqual(desk.sold(1, 0, i, j), [-7])
        self.assertEqual(desk.sold(2, 5, 0, 2), [-7])

    def test_ranges(self):
        desk = Desk()
        desk.flight(1, 0, 1, [9, 9, 9, 9])
        inside = ((1, (1, 9999)), (2, (0, 36524)), (3, (0, 3)), (4, (1, 4)))
        outside = ((1, (0, 10000)), (2, (-1, 36525)), (3, (-1, 4)), (4, (0, 5)))
        for base in ([11, 1, 0, 0, 4], [11, 2, 0, 0, 4]):
            for place, numbers in inside:
                for number in numbers:
                    call = base[:place] + [number] + base[place + 1:]
                    self.assertNotEqual(desk.peek(call), [-2])
            for place, numbers in outside:
                for number in numbers + FAR:
                    call = base[:place] + [number] + base[place + 1:]
                    self.assertEqual(desk.peek(call), [-2])
        self.assertEqual(desk.sold(1, 0, 3, 4), [0, 0])


if __name__ == "__main__":
    unittest.main()
