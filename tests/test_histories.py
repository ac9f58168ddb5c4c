"""The rows, turns and last numbers that the house holds behind its answers."""

import unittest

from helper import Desk, locator


def desk_with_flight():
    desk = Desk()
    desk.flight(1, 0, 2, [9])
    return desk


class Rows(unittest.TestCase):
    def test_a_row_for_each_change(self):
        desk = desk_with_flight()
        desk.clock(3)
        desk.enter(2, "N2A/B/C;N1D/E;-2;S2,1,0,A,0,1;W5,1,0,B,0,1;X2;T4;K")
        desk.clock(4)
        desk.enter(2, "E")
        rows = [(1, 2), (1, 1), (2, 2), (3, 2), (3, 5), (4, 2), (7, 4), (8, 0)]
        self.assertEqual(desk.house().records[0].history, [(4, 2) + row for row in rows])

    def test_one_party_row_for_all_parts(self):
        desk = desk_with_flight()
        desk.enter(0, "N3A/B/C/D;S3,1,0,A,0,1;W3,1,0,B,0,1;E")
        desk.enter(1, f"*{locator(1)};-3;-1;E")
        expected = [(0, 0, 1, 3), (0, 0, 3, 3), (0, 0, 3, 3), (0, 1, 2, 3), (0, 1, 2, 1), (0, 1, 6, 1)]
        self.assertEqual(desk.house().records[0].history, expected)

    def test_no_party_row_where_only_cancelled_parts_differ(self):
        desk = desk_with_flight()
        desk.enter(0, "N3A/B/C/D;S3,1,0,A,0,1;E")
        desk.enter(1, f"*{locator(1)};XA;-1;E")
        self.assertEqual(desk.house().records[0].history[2:], [(0, 1, 4, 1), (0, 1, 2, 1)])

    def test_an_empty_log_and_a_refused_end_add_nothing(self):
        desk = desk_with_flight()
        desk.enter(0, "N3A/B/C/D;S3,1,0,A,0,1;E")
        before = desk.house().records[0].history
        desk.enter(0, f"*{locator(1)};E;*{locator(1)};N1E/F;E")
        self.assertEqual(desk.house().records[0].history, before)

    def test_rows_of_the_house(self):
        desk = desk_with_flight()
        desk.enter(0, "N1A/B;W1,1,0,A,0,1;S1,1,0,A,0,1;X2;W1,1,0,A,0,1;T1;E")
        desk.clear()
        desk.clock(9)
        expected = [(0, 4, 5, 1), (0, 4, 5, 3), (9, 4, 4, 1), (9, 4, 4, 3)]
        self.assertEqual(desk.house().records[0].history[6:], expected)

    def test_rows_of_a_division(self):
        desk = desk_with_flight()
        desk.enter(0, "N3A/B/C/D;S3,1,0,A,0,1;S1,1,0,A,0,1;X2;W3,1,0,B,0,1;T5;K;E")
        desk.clock(2)
        desk.enter(3, f"*{locator(1)};D1,2")
        records = desk.house().records
        self.assertEqual(records[0].history[7:], [(2, 3, 9, 2)])
        expected = [(2, 3, 1, 2), (2, 3, 3, 2), (2, 3, 3, 2), (2, 3, 7, 5), (2, 3, 8, 0)]
        self.assertEqual(records[1].history, expected)
        desk.enter(3, f"N2E/F/G;W2,1,0,A,0,1;E;*{locator(3)};D1")
        self.assertEqual(desk.house().records[3].history, [(2, 3, 1, 1), (2, 3, 3, 1)])


class Turns(unittest.TestCase):
    def test_each_part_that_was_added_gets_one(self):
        desk = desk_with_flight()
        desk.enter(0, "N1A/B;W1,1,0,A,0,1;S1,1,0,A,0,1;X1;W1,1,0,A,0,1;E")
        desk.enter(0, "N1A/B;W1,1,0,A,0,1;I;N1A/B;W1,1,0,A,0,1;E")
        desk.enter(0, f"*{locator(1)};S1,1,0,A,0,1;E")
        house = desk.house()
        self.assertEqual([part.turn for part in house.records[0].content.parts], [1, 2, 3, 5])
        self.assertEqual([part.turn for part in house.records[1].content.parts], [4])
        self.assertEqual((house.last_turn, house.last_passenger), (5, 2))

    def test_a_turn_stays_with_its_part(self):
        desk = desk_with_flight()
        desk.enter(0, "N2A/B/C;S2,1,0,A,0,1;W2,1,0,A,0,1;E")
        desk.enter(0, f"*{locator(1)};D1;*{locator(1)};K;E")
        desk.clear()
        house = desk.house()
        for record in house.records:
            self.assertEqual([part.turn for part in record.content.parts], [1, 2])
        self.assertEqual(house.last_turn, 2)


if __name__ == "__main__":
    unittest.main()
