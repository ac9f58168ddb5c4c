"""The calls clock and clear."""

import unittest

from helper import Desk, content, ended, locator


def desk_with_flight(capacity=9):
    desk = Desk()
    desk.flight(1, 0, 2, [capacity])
    return desk


class Clock(unittest.TestCase):
    def test_the_day_goes_on(self):
        desk = Desk()
        self.assertEqual(desk.clock(0), [0])
        self.assertEqual(desk.clock(5), [0])
        self.assertEqual(desk.clock(5), [0])
        self.assertEqual(desk.clock(4), [-15])
        self.assertEqual(desk.enter(0, "T4"), [0, 0, -15])
        self.assertEqual(desk.enter(0, "T5"), [0, 1, 0])
        self.assertEqual(desk.clock(36524), [0])
        self.assertEqual(desk.clock(36523), [-15])

    def test_ranges(self):
        for day in (-1, 36525, -10 ** 12, 10 ** 12):
            desk = Desk()
            self.assertEqual(desk.clock(day), [-2])
            self.assertEqual(desk.clock(0), [0])

    def test_records_lapse_behind_their_limit(self):
        desk = desk_with_flight()
        desk.enter(0, "N2A/B/C;S2,1,0,A,0,1;W2,1,0,B,0,1;S1,1,0,A,0,1;X3;T5;E")
        desk.enter(0, "N1D/E;S1,1,0,A,0,1;T6;E")
        desk.enter(0, "N1F/G;S1,1,0,A,0,1;T4;E")
        self.assertEqual(desk.clock(5), [0, 3])
        self.assertEqual(desk.room("1,0,A,0,1"), 6)
        self.assertEqual(desk.clock(6), [0, 1])
        self.assertEqual(desk.room("1,0,A,0,1"), 8)
        parts = [(1, 0, 0, 1, 0, 2, 2), (1, 0, 0, 1, 1, 2, 2), (1, 0, 0, 1, 0, 2, 1)]
        names = [(1, "A", "B"), (2, "A", "C")]
        self.assertEqual(desk.record(1), [0, 2] + content(5, False, names, parts))
        self.assertEqual(desk.record(2), [0, 1] + content(6, False, [(3, "D", "E")], [(1, 0, 0, 1, 0, 0, 1)]))
        self.assertEqual(desk.record(3), [0, 2] + content(4, False, [(4, "F", "G")], [(1, 0, 0, 1, 0, 2, 1)]))
        self.assertEqual(desk.clock(6), [0])
        self.assertEqual(desk.clock(30), [0, 2])
        self.assertEqual(desk.room("1,0,A,0,1"), 9)

    def test_several_at_once_by_places(self):
        desk = desk_with_flight()
        for day in (3, 1, 2):
            desk.enter(0, f"N1A/B;W1,1,0,A,0,1;T{day};E")
        self.assertEqual(desk.clock(9), [0, 1, 2, 3])

    def test_what_does_not_lapse(self):
        desk = desk_with_flight()
        desk.enter(0, "N1A/B;S1,1,0,A,0,1;T1;K;E")
        desk.enter(0, "N1A/B;S1,1,0,A,0,1;E")
        desk.enter(0, f"N1A/B;S1,1,0,A,0,1;T1;E;*{locator(3)};XA;E")
        desk.enter(0, "N1A/B;S1,1,0,A,0,1;T1")
        before = [desk.record(place) for place in (1, 2, 3)] + [desk.hand(0)]
        self.assertEqual(desk.clock(9), [0])
        self.assertEqual([desk.record(place) for place in (1, 2, 3)] + [desk.hand(0)], before)
        self.assertEqual(desk.room("1,0,A,0,1"), 6)
        self.assertEqual(desk.enter(0, "E"), ended(1, 4))
        self.assertEqual(desk.clock(9), [0, 4])

    def test_a_limit_set_anew_in_hand_is_not_the_record_s(self):
        desk = desk_with_flight()
        desk.enter(0, f"N1A/B;S1,1,0,A,0,1;T1;E;*{locator(1)};T20;K")
        self.assertEqual(desk.clock(9), [0, 1])
        self.assertEqual(desk.enter(0, "E"), [0, 0, -12])

    def test_a_copy_in_hand_while_the_record_lapses(self):
        desk = desk_with_flight()
        desk.enter(0, f"N2A/B/C;S2,1,0,A,0,1;T1;E;*{locator(1)};X1;S2,1,0,A,0,1")
        self.assertEqual(desk.room("1,0,A,0,1"), 5)
        self.assertEqual(desk.clock(2), [0, 1])
        self.assertEqual(desk.room("1,0,A,0,1"), 7)
        self.assertEqual(desk.enter(0, "E"), [0, 0, -12])
        self.assertEqual(desk.room("1,0,A,0,1"), 7)
        self.assertEqual(desk.enter(0, "I"), [0, 1, 0])
        self.assertEqual(desk.room("1,0,A,0,1"), 9)
        desk.enter(1, f"*{locator(1)};T2;E")
        self.assertEqual(desk.record(1)[1:3], [3, 3])

    def test_a_refused_clock_lapses_nothing(self):
        desk = desk_with_flight()
        desk.clock(3)
        desk.enter(0, "N1A/B;S1,1,0,A,0,1;T3;E")
        self.assertEqual(desk.clock(2), [-15])
        self.assertEqual(desk.clock(3), [0])
        self.assertEqual(desk.record(1)[1], 1)


class Clear(unittest.TestCase):
    def test_nothing_waits(self):
        self.assertEqual(Desk().clear(), [0])

    def test_parts_are_confirmed_by_turns_as_far_as_there_is_room(self):
        desk = desk_with_flight(3)
        desk.enter(0, "N2A/B/C;W2,1,0,A,0,1;E")
        desk.enter(0, "N2D/E/F;W2,1,0,A,0,1;E")
        desk.enter(0, "N1G/H;W1,1,0,B,0,1;E")
        self.assertEqual(desk.clear(), [0, 1, 1, 3, 1])
        self.assertEqual(desk.room("1,0,A,0,1"), 0)
        self.assertEqual(desk.record(1)[1], 2)
        names = [(3, "D", "E"), (4, "D", "F")]
        self.assertEqual(desk.record(2), [0, 1] + content(names=names, parts=[(1, 0, 0, 1, 0, 1, 2)]))
        self.assertEqual(desk.record(3), [0, 2] + content(names=[(5, "G", "H")], parts=[(1, 0, 0, 1, 1, 0, 1)]))
        self.assertEqual(desk.clear(), [0])
        desk.enter(0, f"*{locator(1)};XA;E")
        self.assertEqual(desk.clear(), [0, 2, 1])

    def test_turns_go_by_ends_not_by_entries(self):
        desk = desk_with_flight(1)
        desk.enter(0, "N1A/B;W1,1,0,A,0,1")
        desk.enter(1, "N1C/D;W1,1,0,A,0,1;E")
        desk.enter(0, "E")
        self.assertEqual(desk.record(1)[-8:], [1, 1, 0, 0, 1, 0, 1, 1])
        self.assertEqual(desk.clear(), [0, 1, 1])

    def test_a_later_part_of_an_earlier_record_comes_later(self):
        desk = desk_with_flight(9)
        desk.enter(0, "N1A/B;W1,1,0,A,0,1;W1,1,0,B,0,1;E")
        desk.enter(0, "N1C/D;W1,1,0,A,0,1;E")
        desk.enter(0, f"*{locator(1)};W1,1,0,A,0,1;E")
        self.assertEqual(desk.record(1)[1], 2)
        self.assertEqual(desk.clear(), [0, 1, 1, 1, 2, 2, 1, 1, 3])
        self.assertEqual(desk.record(1)[1], 5)
        self.assertEqual(desk.record(2)[1], 2)

    def test_the_same_turn_goes_by_places(self):
        desk = desk_with_flight(9)
        desk.enter(0, "N3A/B/C/D;W3,1,0,A,0,1;E")
        desk.enter(0, "N1E/F;W1,1,0,A,0,1;E")
        desk.enter(0, f"*{locator(1)};D1;*{locator(3)};E")
        desk.limits(1, 0, 0, [3, 3])
        self.assertEqual(desk.clear(), [0, 1, 1, 3, 1])

    def test_the_room_is_what_the_earlier_ones_left(self):
        desk = Desk()
        desk.flight(1, 0, 2, [2, 1])
        desk.limits(1, 0, 0, [2, 1])
        desk.enter(0, "N1A/B;W1,1,0,B,0,2;E")
        desk.enter(0, "N1C/D;W1,1,0,B,0,1;E")
        desk.enter(0, "N1E/F;W1,1,0,A,1,2;E")
        desk.enter(0, "N1G/H;W1,1,0,A,0,1;E")
        self.assertEqual(desk.clear(), [0, 1, 1, 4, 1])

    def test_what_is_in_hand_is_not_looked_at(self):
        desk = desk_with_flight()
        desk.enter(0, "N1A/B;W1,1,0,A,0,1")
        self.assertEqual(desk.clear(), [0])
        self.assertEqual(desk.hand(0)[-8:], [1, 1, 0, 0, 1, 0, 1, 1])
        self.assertEqual(desk.enter(0, "E"), ended(1, 1))
        self.assertEqual(desk.clear(), [0, 1, 1])

    def test_a_copy_in_hand_while_its_part_is_confirmed(self):
        desk = desk_with_flight()
        desk.enter(0, f"N2A/B/C;W2,1,0,A,0,1;E;*{locator(1)};X1;S2,1,0,A,0,1")
        self.assertEqual(desk.clear(), [0, 1, 1])
        self.assertEqual(desk.room("1,0,A,0,1"), 5)
        self.assertEqual(desk.hand(0)[-14:], [1, 0, 0, 1, 0, 2, 2, 1, 0, 0, 1, 0, 0, 2])
        self.assertEqual(desk.enter(0, "E"), [0, 0, -12])
        self.assertEqual(desk.enter(0, "I"), [0, 1, 0])
        self.assertEqual(desk.room("1,0,A,0,1"), 7)
        self.assertEqual(desk.enter(0, f"*{locator(1)};X1;E"), ended(3, 1))
        self.assertEqual(desk.room("1,0,A,0,1"), 9)

    def test_cancelled_and_lapsed_parts_wait_no_more(self):
        desk = desk_with_flight()
        desk.enter(0, f"N1A/B;W1,1,0,A,0,1;E;*{locator(1)};X1;E")
        desk.enter(0, "N1A/B;W1,1,0,A,0,1;T1;E")
        self.assertEqual(desk.clock(2), [0, 2])
        self.assertEqual(desk.clear(), [0])
        self.assertEqual(desk.room("1,0,A,0,1"), 9)

    def test_a_smaller_party_needs_less_room(self):
        desk = desk_with_flight(1)
        desk.enter(0, "N2A/B/C;W2,1,0,A,0,1;E")
        self.assertEqual(desk.clear(), [0])
        desk.enter(0, f"*{locator(1)};-1;E")
        self.assertEqual(desk.clear(), [0, 1, 1])
        self.assertEqual(desk.room("1,0,A,0,1"), 0)


if __name__ == "__main__":
    unittest.main()
