"""The call line, and the turns that it goes by."""

import unittest

from helper import Desk, ended, locator


def desk_with_flight(capacity=9):
    desk = Desk()
    desk.flight(1, 0, 2, [capacity])
    return desk


class Line(unittest.TestCase):
    def test_nobody_waits(self):
        self.assertEqual(Desk().line(), [0])
        desk = desk_with_flight()
        desk.enter(0, "N1A/B;S1,1,0,A,0,1;E")
        self.assertEqual(desk.line(), [0])

    def test_places_of_records_and_of_parts(self):
        desk = desk_with_flight()
        desk.enter(0, "N1A/B;S1,1,0,A,0,1;W1,1,0,A,0,1;W1,1,0,B,0,1;E")
        desk.enter(0, "N1C/D;W1,1,0,A,0,1;E")
        self.assertEqual(desk.line(), [0, 1, 2, 1, 3, 2, 1])

    def test_turns_go_by_ends_not_by_entries(self):
        desk = desk_with_flight()
        desk.enter(0, "N1A/B;W1,1,0,A,0,1;E;N1C/D;W1,1,0,A,0,1;E")
        desk.enter(0, f"*{locator(1)};W1,1,0,A,0,1")
        desk.enter(1, f"*{locator(2)};W1,1,0,A,0,1")
        desk.enter(2, "N1E/F;W1,1,0,A,0,1;E")
        desk.enter(1, "E")
        desk.enter(0, "E")
        self.assertEqual(desk.line(), [0, 1, 1, 2, 1, 3, 1, 2, 2, 1, 2])

    def test_cancelled_and_confirmed_parts_use_up_turns_in_order(self):
        desk = desk_with_flight()
        desk.enter(0, "N1A/B;W1,1,0,A,0,1;S1,1,0,A,0,1;X1;W1,1,0,A,0,1;E")
        desk.enter(0, "N1A/B;W1,1,0,A,0,1;I;N1A/B;W1,1,0,A,0,1;E")
        desk.enter(0, f"*{locator(1)};W1,1,0,A,0,1;E")
        self.assertEqual(desk.line(), [0, 1, 3, 2, 1, 1, 4])
        house = desk.house()
        self.assertEqual([part.turn for part in house.records[0].content.parts], [1, 2, 3, 5])
        self.assertEqual([part.turn for part in house.records[1].content.parts], [4])
        self.assertEqual((house.last_turn, house.last_passenger), (5, 2))

    def test_a_refused_end_gives_no_turn(self):
        desk = desk_with_flight()
        self.assertEqual(desk.enter(0, "N2A/B/C;W1,1,0,A,0,1;E"), [0, 2, -11])
        desk.enter(1, "N1D/E;W1,1,0,A,0,1;E")
        self.assertEqual(desk.line(), [0, 1, 1])
        self.assertEqual(desk.enter(0, "-1;E"), ended(2, 2))
        self.assertEqual(desk.line(), [0, 1, 1, 2, 1])

    def test_a_turn_stays_through_later_ends(self):
        desk = desk_with_flight()
        desk.enter(0, "N2A/B/C;W2,1,0,A,0,1;E;N1D/E;W1,1,0,A,0,1;E")
        desk.enter(0, f"*{locator(1)};-1;T5;K;W1,1,0,A,0,1;E")
        self.assertEqual(desk.line(), [0, 1, 1, 2, 1, 1, 2])

    def test_a_divided_part_has_the_same_turn_in_both_records(self):
        desk = desk_with_flight()
        desk.enter(0, "N3A/B/C/D;W3,1,0,A,0,1;W3,1,0,B,0,1;E")
        desk.enter(0, "N1E/F;W1,1,0,A,0,1;E")
        desk.enter(0, f"*{locator(1)};D1")
        self.assertEqual(desk.line(), [0, 1, 1, 3, 1, 1, 2, 3, 2, 2, 1])
        desk.enter(0, f"*{locator(1)};D2")
        self.assertEqual(desk.line(), [0, 1, 1, 3, 1, 4, 1, 1, 2, 3, 2, 4, 2, 2, 1])
        desk.enter(0, f"*{locator(1)};X1;E")
        self.assertEqual(desk.line(), [0, 3, 1, 4, 1, 1, 2, 3, 2, 4, 2, 2, 1])

    def test_a_divided_part_stands_at_another_place_there(self):
        desk = desk_with_flight()
        desk.enter(0, "N2A/B/C;W2,1,0,A,0,1;X1;S2,1,0,A,0,1;W2,1,0,A,0,1;E")
        desk.enter(0, f"*{locator(1)};D1")
        self.assertEqual(desk.line(), [0, 1, 3, 2, 2])

    def test_a_division_gives_no_turns(self):
        desk = desk_with_flight()
        desk.enter(0, "N2A/B/C;S2,1,0,A,0,1;W2,1,0,A,0,1;E")
        desk.enter(0, f"*{locator(1)};D1;*{locator(1)};K;E")
        desk.clear()
        house = desk.house()
        for record in house.records:
            self.assertEqual([part.turn for part in record.content.parts], [1, 2])
        self.assertEqual(house.last_turn, 2)

    def test_confirmed_since(self):
        desk = desk_with_flight(1)
        desk.enter(0, "N2A/B/C;W2,1,0,A,0,1;E;N1D/E;W1,1,0,A,0,1;E;N1F/G;W1,1,0,A,0,1;E")
        self.assertEqual(desk.clear(), [0, 2, 1])
        self.assertEqual(desk.line(), [0, 1, 1, 3, 1])

    def test_cancelled_since_by_an_agent_and_by_the_house(self):
        desk = desk_with_flight()
        desk.enter(0, "N1A/B;W1,1,0,A,0,1;T1;E;N1D/E;W1,1,0,A,0,1;W1,1,0,A,0,1;E;N1F/G;W1,1,0,A,0,1;E")
        desk.enter(0, f"*{locator(2)};X1;E")
        self.assertEqual(desk.line(), [0, 1, 1, 2, 2, 3, 1])
        desk.clock(2)
        self.assertEqual(desk.line(), [0, 2, 2, 3, 1])

    def test_what_is_only_in_hand(self):
        desk = desk_with_flight()
        desk.enter(0, "N1A/B;W1,1,0,A,0,1;E")
        desk.enter(1, "N1C/D;W1,1,0,A,0,1")
        desk.enter(0, f"*{locator(1)};X1;W1,1,0,B,0,1")
        self.assertEqual(desk.line(), [0, 1, 1])
        desk.enter(1, "I")
        desk.enter(0, "E")
        self.assertEqual(desk.line(), [0, 1, 2])

    def test_it_is_the_order_of_clear(self):
        desk = desk_with_flight()
        desk.enter(0, "N3A/B/C/D;W3,1,0,A,0,1;E;N1E/F;W1,1,0,B,0,1;E")
        desk.enter(0, f"*{locator(1)};D3;*{locator(2)};W1,1,0,A,0,1;E")
        before = desk.line()
        self.assertEqual(before, [0, 1, 1, 3, 1, 2, 1, 2, 2])
        self.assertEqual(desk.clear(), before)
        self.assertEqual(desk.line(), [0])

    def test_more_than_nine_turns(self):
        desk = desk_with_flight()
        expected = [0]
        for place in range(1, 13):
            desk.enter(0, "N1A/B;W1,1,0,A,0,1;W1,1,0,A,0,1;E")
            expected += [place, 1, place, 2]
        self.assertEqual(desk.line(), expected)


if __name__ == "__main__":
    unittest.main()
