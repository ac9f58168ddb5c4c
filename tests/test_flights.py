"""The calls open and limits, and the room of segments over legs, classes and nests."""

import unittest

from helper import Desk, row_call

FAR = (-10 ** 12, 10 ** 12)


class Opening(unittest.TestCase):
    def test_a_new_flight_has_its_capacities_as_limits_of_every_class(self):
        desk = Desk()
        self.assertEqual(desk.flight(44, 10, 3, [4, 2, 7]), [0])
        for letter in "ABC":
            self.assertEqual(desk.room(f"44,10,{letter},0,1"), 4)
            self.assertEqual(desk.room(f"44,10,{letter},1,2"), 2)
            self.assertEqual(desk.room(f"44,10,{letter},2,3"), 7)
            self.assertEqual(desk.room(f"44,10,{letter},0,3"), 2)
        self.assertEqual(desk.enter(0, "S1,44,10,D,0,1"), [0, 0, -7])
        self.assertEqual(desk.enter(0, "S1,44,10,A,0,4"), [0, 0, -7])

    def test_a_flight_is_named_by_both_numbers(self):
        desk = Desk()
        self.assertEqual(desk.flight(1, 0, 1, [1]), [0])
        self.assertEqual(desk.flight(1, 1, 1, [2]), [0])
        self.assertEqual(desk.flight(2, 0, 1, [3]), [0])
        self.assertEqual(desk.flight(1, 0, 2, [9, 9]), [-6])
        self.assertEqual([desk.room("1,0,A,0,1"), desk.room("1,1,A,0,1"), desk.room("2,0,A,0,1")], [1, 2, 3])

    def test_twenty_four_flights(self):
        desk = Desk()
        for num in range(1, 25):
            self.assertEqual(desk.flight(num, 0, 1, [1]), [0])
        self.assertEqual(desk.flight(25, 0, 1, [1]), [-5])
        self.assertEqual(desk.flight(24, 0, 1, [1]), [-6])
        self.assertEqual(desk.enter(0, "S1,25,0,A,0,1"), [0, 0, -6])
        self.assertEqual(desk.enter(0, "S1,24,0,A,0,1"), [0, 1, 0])

    def test_ranges(self):
        good = [[1, 1, 0, 1, 1], [1, 9999, 36524, 1, 12]]
        for first in good:
            for capacity in (0, 999):
                self.assertEqual(Desk().ask(row_call(first, [capacity])), [0])
            for capacity in (-1, 1000) + FAR:
                self.assertEqual(Desk().ask(row_call(first, [capacity])), [-2])
        for place, wrong in ((1, (0, 10000)), (2, (-1, 36525)), (3, (0, 5)), (4, (0, 13))):
            for number in wrong + FAR:
                first = [1, 1, 0, 1, 1]
                first[place] = number
                for row in ([1], [], [1] * 5):
                    self.assertEqual(Desk().ask(row_call(first, row)), [-2])

    def test_as_many_capacities_as_legs(self):
        for legs in (1, 2, 3, 4):
            for length in (0, 1, 2, 3, 4, 5, 130):
                expected = [0] if length == legs else [-2]
                self.assertEqual(Desk().ask(row_call([1, 1, 0, legs, 2], [3] * length)), expected)
        self.assertEqual(Desk().ask(row_call([1, 1, 0, 2, 2], [3, 1000])), [-2])

    def test_out_of_range_comes_before_the_flight_there(self):
        desk = Desk()
        desk.flight(1, 0, 1, [1])
        self.assertEqual(desk.ask(row_call([1, 1, 0, 1, 1], [1000])), [-2])
        self.assertEqual(desk.ask(row_call([1, 1, 0, 1, 1], [999])), [-6])


class Limits(unittest.TestCase):
    def test_limits_are_set_on_one_leg(self):
        desk = Desk()
        desk.flight(1, 0, 3, [5, 5])
        self.assertEqual(desk.limits(1, 0, 1, [4, 3, 1]), [0])
        self.assertEqual([desk.room(f"1,0,{letter},1,2") for letter in "ABC"], [4, 3, 1])
        self.assertEqual([desk.room(f"1,0,{letter},0,1") for letter in "ABC"], [5, 5, 5])
        self.assertEqual([desk.room(f"1,0,{letter},0,2") for letter in "ABC"], [4, 3, 1])

    def test_a_lower_class_has_no_more_room_than_a_higher_one(self):
        desk = Desk()
        desk.flight(1, 0, 3, [5])
        desk.limits(1, 0, 0, [2, 7, 4])
        self.assertEqual([desk.room(f"1,0,{letter},0,1") for letter in "ABC"], [2, 2, 2])
        desk.limits(1, 0, 0, [7, 2, 4])
        self.assertEqual([desk.room(f"1,0,{letter},0,1") for letter in "ABC"], [7, 2, 2])

    def test_refusals_in_order(self):
        desk = Desk()
        self.assertEqual(desk.limits(1, 0, 3, [1]), [-6])
        desk.flight(1, 0, 2, [5, 5])
        self.assertEqual(desk.limits(1, 1, 0, [1, 1]), [-6])
        self.assertEqual(desk.limits(2, 0, 0, [1, 1]), [-6])
        self.assertEqual(desk.limits(1, 0, 2, [1, 1]), [-7])
        self.assertEqual(desk.limits(1, 0, 3, [1]), [-7])
        self.assertEqual(desk.limits(1, 0, 0, [1]), [-7])
        self.assertEqual(desk.limits(1, 0, 0, [1, 1, 1]), [-7])
        self.assertEqual(desk.room("1,0,B,0,2"), 5)
        self.assertEqual(desk.limits(1, 0, 1, [1, 1]), [0])

    def test_ranges(self):
        for place, right, wrong in ((1, (1, 9999), (0, 10000)), (2, (0, 36524), (-1, 36525)), (3, (0, 3), (-1, 4))):
            for number in right + wrong + FAR:
                first = [2, 1, 0, 0]
                first[place] = number
                self.assertEqual(Desk().ask(row_call(first, [1])), [-6] if number in right else [-2])
        for length in (0, 1, 12, 13, 130):
            self.assertEqual(Desk().ask(row_call([2, 1, 0, 0], [1] * length)), [-6] if 1 <= length <= 12 else [-2])
        for limit in (-1, 0, 999, 1000) + FAR:
            self.assertEqual(Desk().ask(row_call([2, 1, 0, 0], [1, limit])), [-6] if 0 <= limit <= 999 else [-2])

    def test_twelve_classes_and_great_limits(self):
        desk = Desk()
        desk.flight(1, 0, 12, [0, 0, 0, 0])
        for leg in range(4):
            self.assertEqual(desk.limits(1, 0, leg, [999] * 11 + [leg + 1]), [0])
        self.assertEqual(desk.room("1,0,L,0,4"), 1)
        self.assertEqual(desk.room("1,0,L,3,4"), 4)
        self.assertEqual(desk.room("1,0,K,0,4"), 9)


class Rooms(unittest.TestCase):
    def test_seats_count_on_all_their_legs_and_no_others(self):
        desk = Desk()
        desk.flight(1, 0, 1, [5, 5, 5, 5])
        desk.enter(0, "S2,1,0,A,1,3")
        rooms = {"0,1": 5, "1,2": 3, "2,3": 3, "3,4": 5, "0,2": 3, "1,3": 3, "2,4": 3, "0,4": 3}
        for points, room in rooms.items():
            self.assertEqual(desk.room("1,0,A," + points), room)
        desk.enter(1, "S3,1,0,A,2,4")
        rooms = {"0,1": 5, "1,2": 3, "2,3": 0, "3,4": 2, "0,2": 3, "1,3": 0, "2,4": 0, "0,4": 0}
        for points, room in rooms.items():
            self.assertEqual(desk.room("1,0,A," + points), room)

    def test_seats_of_a_lower_class_count_in_the_nests_above(self):
        desk = Desk()
        desk.flight(1, 0, 3, [9])
        desk.limits(1, 0, 0, [9, 6, 4])
        desk.enter(0, "S3,1,0,C,0,1")
        self.assertEqual([desk.room(f"1,0,{letter},0,1") for letter in "ABC"], [6, 3, 1])
        desk.enter(1, "S3,1,0,B,0,1")
        self.assertEqual([desk.room(f"1,0,{letter},0,1") for letter in "ABC"], [3, 0, 0])
        desk.enter(2, "S2,1,0,A,0,1")
        self.assertEqual([desk.room(f"1,0,{letter},0,1") for letter in "ABC"], [1, 0, 0])
        desk.enter(1, "I")
        self.assertEqual([desk.room(f"1,0,{letter},0,1") for letter in "ABC"], [4, 3, 1])

    def test_seats_of_a_higher_class_do_not_count_in_the_nests_below(self):
        desk = Desk()
        desk.flight(1, 0, 2, [9])
        desk.limits(1, 0, 0, [9, 4])
        desk.enter(0, "S5,1,0,A,0,1")
        self.assertEqual([desk.room(f"1,0,{letter},0,1") for letter in "AB"], [4, 4])
        desk.enter(1, "S2,1,0,A,0,1")
        self.assertEqual([desk.room(f"1,0,{letter},0,1") for letter in "AB"], [2, 2])

    def test_limits_below_what_is_sold(self):
        desk = Desk()
        desk.flight(1, 0, 2, [9, 9])
        desk.enter(0, "N5A/B/C/D/E/F;S5,1,0,B,0,2;E")
        self.assertEqual(desk.limits(1, 0, 0, [9, 2]), [0])
        self.assertEqual([desk.room(f"1,0,{letter},0,1") for letter in "AB"], [4, 0])
        self.assertEqual([desk.room(f"1,0,{letter},0,2") for letter in "AB"], [4, 0])
        self.assertEqual(desk.room("1,0,B,1,2"), 4)
        self.assertEqual(desk.room_told(1, 0, 0, 2, 1), [0, 0])
        desk.limits(1, 0, 0, [9, 6])
        self.assertEqual(desk.room("1,0,B,0,1"), 1)

    def test_no_capacity_no_room(self):
        desk = Desk()
        desk.flight(1, 0, 1, [9, 0])
        self.assertEqual([desk.room(f"1,0,A,{points}") for points in ("0,1", "1,2", "0,2")], [9, 0, 0])


if __name__ == "__main__":
    unittest.main()
