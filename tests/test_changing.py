"""The entries that change what is in hand: N, -, S, W, X, XA, T, K."""

import unittest

from helper import Desk, content, ended, locator

THIRTY = ";".join(["K"] * 30)


def desk_with_flight(capacity=5):
    desk = Desk()
    desk.flight(1, 0, 2, [capacity, capacity])
    return desk


class Names(unittest.TestCase):
    def test_names_stand_in_order_without_ids(self):
        desk = Desk()
        self.assertEqual(desk.enter(0, "N2SMITH/ANN/BOB;N1LEE/EVE"), [0, 2, 0])
        names = [(0, "SMITH", "ANN"), (0, "SMITH", "BOB"), (0, "LEE", "EVE")]
        self.assertEqual(desk.hand(0), [0, 1, 0] + content(names=names))

    def test_nine_names_and_no_more(self):
        desk = Desk()
        self.assertEqual(desk.enter(0, "N8A/B/C/D/E/F/G/H/I"), [0, 1, 0])
        self.assertEqual(desk.enter(0, "N2A/B/C"), [0, 0, -5])
        self.assertEqual(desk.hand(0)[5], 8)
        self.assertEqual(desk.enter(0, "N1A/B"), [0, 1, 0])
        self.assertEqual(desk.enter(0, "N1A/B"), [0, 0, -5])
        self.assertEqual(desk.enter(0, "-1;N1A/B"), [0, 2, 0])
        self.assertEqual(Desk().enter(0, "N9A/B/C/D/E/F/G/H/I/J"), [0, 1, 0])

    def test_a_full_log(self):
        desk = Desk()
        desk.enter(0, THIRTY)
        self.assertEqual(desk.enter(0, "N1A/B"), [0, 0, -5])
        desk = Desk()
        desk.enter(0, THIRTY[2:])
        self.assertEqual(desk.enter(0, "N1A/B;N1A/B"), [0, 1, -5])


class TakingOut(unittest.TestCase):
    def test_the_pth_name_goes(self):
        desk = Desk()
        desk.enter(0, "N3A/X/Y/Z")
        self.assertEqual(desk.enter(0, "-2"), [0, 1, 0])
        self.assertEqual(desk.hand(0), [0, 1, 0] + content(names=[(0, "A", "X"), (0, "A", "Z")]))
        self.assertEqual(desk.enter(0, "-2;-1;-1"), [0, 2, -10])
        self.assertEqual(desk.hand(0), [0, 1, 0] + content())

    def test_refusals_in_order(self):
        desk = Desk()
        self.assertEqual(desk.enter(0, "-1"), [0, 0, -4])
        desk.enter(0, "N1A/B")
        self.assertEqual(desk.enter(0, "-2"), [0, 0, -10])
        desk.enter(0, THIRTY[2:])
        self.assertEqual(desk.enter(0, "-1"), [0, 0, -5])
        self.assertEqual(desk.enter(0, "-2"), [0, 0, -5])

    def test_one_change_each(self):
        desk = Desk()
        desk.enter(0, "N9A/B/C/D/E/F/G/H/I/J;" + THIRTY[4:])
        self.assertEqual(desk.enter(0, "-1;-1"), [0, 1, -5])


class Selling(unittest.TestCase):
    def test_seats_are_sold_at_once(self):
        desk = desk_with_flight()
        self.assertEqual(desk.enter(0, "S2,1,0,B,0,1"), [0, 1, 0])
        self.assertEqual(desk.hand(0), [0, 1, 0] + content(parts=[(1, 0, 0, 1, 1, 0, 2)]))
        self.assertEqual(desk.room("1,0,B,0,1"), 3)
        self.assertEqual(desk.room("1,0,B,1,2"), 5)
        self.assertEqual(desk.enter(1, "S3,1,0,A,0,2"), [0, 1, 0])
        self.assertEqual(desk.room("1,0,B,0,1"), 0)
        self.assertEqual(desk.room("1,0,B,1,2"), 2)

    def test_just_as_many_as_there_is_room_for(self):
        desk = desk_with_flight()
        self.assertEqual(desk.enter(0, "S6,1,0,A,0,1"), [0, 0, -8])
        self.assertEqual(desk.hand(0), [0, 0])
        self.assertEqual(desk.enter(0, "S5,1,0,A,0,1;S1,1,0,A,0,1"), [0, 1, -8])
        self.assertEqual(desk.hand(0), [0, 1, 0] + content(parts=[(1, 0, 0, 1, 0, 0, 5)]))

    def test_flight_before_segment_before_room(self):
        desk = desk_with_flight()
        self.assertEqual(desk.enter(0, "S9,2,0,A,1,1"), [0, 0, -6])
        self.assertEqual(desk.enter(0, "S9,1,1,L,1,1"), [0, 0, -6])
        for fields in ("A,1,1", "A,2,1", "A,0,3", "A,3,4", "C,0,1", "L,0,1"):
            self.assertEqual(desk.enter(0, "S9,1,0," + fields), [0, 0, -7])
            self.assertEqual(desk.enter(0, "S1,1,0," + fields), [0, 0, -7])
        self.assertEqual(desk.enter(0, "S9,1,0,A,0,1"), [0, 0, -8])
        self.assertEqual(desk.hand(0), [0, 0])

    def test_full_comes_first(self):
        for text in (THIRTY, ";".join(["S1,1,0,A,0,1"] * 8)):
            desk = desk_with_flight(8)
            desk.enter(0, text)
            for letter in "SW":
                for fields in ("1,2,0,A,0,1", "1,1,0,A,1,1", "9,1,0,A,0,1", "1,1,0,A,1,2"):
                    self.assertEqual(desk.enter(0, letter + fields), [0, 0, -5])

    def test_cancelled_parts_count_among_the_eight(self):
        desk = desk_with_flight(9)
        self.assertEqual(desk.enter(0, ";".join(["S1,1,0,A,0,1"] * 7)), [0, 7, 0])
        self.assertEqual(desk.enter(0, "XA;W1,1,0,A,0,1;S1,1,0,A,0,1"), [0, 2, -5])
        self.assertEqual(desk.room("1,0,A,0,1"), 9)

    def test_one_change_each(self):
        desk = desk_with_flight()
        desk.enter(0, THIRTY[4:])
        self.assertEqual(desk.enter(0, "S1,1,0,A,0,1;W1,1,0,A,0,1;K"), [0, 2, -5])

    def test_a_part_behind_an_old_one(self):
        desk = desk_with_flight()
        desk.enter(0, "N1A/B;W1,1,0,A,0,1;E")
        desk.enter(0, f"*{locator(1)};S1,1,0,B,1,2")
        names = [(1, "A", "B")]
        parts = [(1, 0, 0, 1, 0, 1, 1), (1, 0, 1, 2, 1, 0, 1)]
        self.assertEqual(desk.hand(0), [0, 1, 1] + content(names=names, parts=parts))


class Waiting(unittest.TestCase):
    def test_no_seats_are_sold_and_none_are_asked_for(self):
        desk = desk_with_flight(2)
        self.assertEqual(desk.enter(0, "W9,1,0,B,0,2"), [0, 1, 0])
        self.assertEqual(desk.hand(0), [0, 1, 0] + content(parts=[(1, 0, 0, 2, 1, 1, 9)]))
        self.assertEqual(desk.room("1,0,A,0,2"), 2)

    def test_flight_before_segment(self):
        desk = desk_with_flight()
        self.assertEqual(desk.enter(0, "W1,2,0,A,1,1"), [0, 0, -6])
        for fields in ("A,1,1", "A,0,3", "C,0,1"):
            self.assertEqual(desk.enter(0, "W1,1,0," + fields), [0, 0, -7])
        self.assertEqual(desk.hand(0), [0, 0])


class Cancelling(unittest.TestCase):
    def test_a_new_confirmed_part_gives_its_seats_back_at_once(self):
        desk = desk_with_flight()
        desk.enter(0, "S2,1,0,A,0,1;S3,1,0,B,0,1")
        self.assertEqual(desk.enter(0, "X2"), [0, 1, 0])
        self.assertEqual(desk.room("1,0,A,0,1"), 3)
        parts = [(1, 0, 0, 1, 0, 0, 2), (1, 0, 0, 1, 1, 2, 3)]
        self.assertEqual(desk.hand(0), [0, 1, 0] + content(parts=parts))
        self.assertEqual(desk.enter(0, "X2"), [0, 0, -10])
        self.assertEqual(desk.enter(0, "X3"), [0, 0, -10])
        self.assertEqual(desk.enter(0, "I"), [0, 1, 0])
        self.assertEqual(desk.room("1,0,A,0,1"), 5)

    def test_a_new_waiting_part_gives_nothing_back(self):
        desk = desk_with_flight(3)
        desk.enter(1, "S3,1,0,A,0,1")
        desk.enter(0, "W2,1,0,A,0,1;X1")
        self.assertEqual(desk.hand(0), [0, 1, 0] + content(parts=[(1, 0, 0, 1, 0, 2, 2)]))
        self.assertEqual(desk.room("1,0,A,0,1"), 0)

    def test_an_old_part_keeps_its_seats_until_the_end(self):
        desk = desk_with_flight()
        desk.enter(0, "N2A/B/C;S2,1,0,A,0,1;E")
        for text in ("X1", "XA"):
            desk.enter(0, f"*{locator(1)};{text}")
            self.assertEqual(desk.room("1,0,A,0,1"), 3)
            desk.enter(0, "I")
            self.assertEqual(desk.room("1,0,A,0,1"), 3)
        self.assertEqual(desk.enter(0, f"*{locator(1)};X1;E"), ended(3, 1))
        self.assertEqual(desk.room("1,0,A,0,1"), 5)

    def test_refusals_in_order(self):
        for text in ("X1", "X8", "XA"):
            desk = desk_with_flight()
            self.assertEqual(desk.enter(0, text), [0, 0, -4])
            desk.enter(0, "K")
            self.assertEqual(desk.enter(0, text), [0, 0, -10])
            desk.enter(0, THIRTY[2:])
            self.assertEqual(desk.enter(0, text), [0, 0, -5])
        desk = desk_with_flight()
        desk.enter(0, "S1,1,0,A,0,1;" + THIRTY[2:])
        for text in ("X1", "XA"):
            self.assertEqual(desk.enter(0, text), [0, 0, -5])

    def test_all_living_parts_old_and_new(self):
        desk = desk_with_flight(9)
        desk.enter(0, "N1A/B;S1,1,0,A,0,1;W1,1,0,A,0,1;S1,1,0,A,0,1;E")
        desk.enter(0, f"*{locator(1)};X1;S1,1,0,A,0,1;W1,1,0,A,0,1")
        self.assertEqual(desk.room("1,0,A,0,1"), 6)
        self.assertEqual(desk.enter(0, "XA"), [0, 1, 0])
        self.assertEqual(desk.room("1,0,A,0,1"), 7)
        self.assertEqual(desk.hand(0), [0, 1, 1] + content(names=[(1, "A", "B")], parts=[(1, 0, 0, 1, 0, 2, 1)] * 5))
        self.assertEqual(desk.enter(0, "XA"), [0, 0, -10])
        self.assertEqual(desk.enter(0, "E"), ended(1, 1))
        self.assertEqual(desk.room("1,0,A,0,1"), 9)

    def test_as_many_changes_as_parts_even_above_thirty(self):
        desk = desk_with_flight()
        desk.enter(0, "N1A/B;S1,1,0,A,0,1;W1,1,0,A,0,1;W1,1,0,A,0,1;" + THIRTY[10:])
        self.assertEqual(desk.enter(0, "XA;K"), [0, 1, -5])
        self.assertEqual(len(desk.house().hands[0].log), 32)
        desk = desk_with_flight()
        desk.enter(0, "W1,1,0,A,0,1;W1,1,0,A,0,1;XA;" + THIRTY[10:])
        self.assertEqual(desk.enter(0, "K;K"), [0, 1, -5])


class TimeLimit(unittest.TestCase):
    def test_the_last_one_holds(self):
        desk = Desk()
        self.assertEqual(desk.enter(0, "T0"), [0, 1, 0])
        self.assertEqual(desk.hand(0), [0, 1, 0] + content(limit=0))
        self.assertEqual(desk.enter(0, "T36524"), [0, 1, 0])
        self.assertEqual(desk.hand(0), [0, 1, 0] + content(limit=36524))

    def test_refusals_in_order(self):
        desk = Desk()
        desk.clock(7)
        self.assertEqual(desk.enter(0, "T6"), [0, 0, -15])
        self.assertEqual(desk.hand(0), [0, 0])
        self.assertEqual(desk.enter(0, "T7"), [0, 1, 0])
        self.assertEqual(desk.enter(0, THIRTY[4:] + ";T8;T6"), [0, 29, -5])
        self.assertEqual(desk.enter(0, "T8"), [0, 0, -5])
        self.assertEqual(desk.hand(0), [0, 1, 0] + content(limit=8, ticketed=True))


class Ticketing(unittest.TestCase):
    def test_it_is_ticketed(self):
        desk = Desk()
        self.assertEqual(desk.enter(0, "K"), [0, 1, 0])
        self.assertEqual(desk.hand(0), [0, 1, 0] + content(ticketed=True))

    def test_a_full_log(self):
        desk = Desk()
        self.assertEqual(desk.enter(0, THIRTY + ";K"), [0, 30, -5])


class SeveralEntries(unittest.TestCase):
    def test_what_was_done_stays_and_the_rest_is_not_looked_at(self):
        desk = desk_with_flight()
        self.assertEqual(desk.enter(0, "N1A/B;S1,1,0,A,0,1;S9,1,0,A,0,1;K;E"), [0, 2, -8])
        names = [(0, "A", "B")]
        self.assertEqual(desk.hand(0), [0, 1, 0] + content(names=names, parts=[(1, 0, 0, 1, 0, 0, 1)]))
        self.assertEqual(desk.room("1,0,A,0,1"), 4)

    def test_the_locator_of_the_last_end_done(self):
        desk = desk_with_flight()
        two = "N1A/B;W1,1,0,A,0,1;E;N2A/B/C;W2,1,0,A,0,1;E"
        self.assertEqual(desk.enter(0, two), ended(6, 2))
        self.assertEqual(desk.enter(0, f"*{locator(1)};E;K;I;E;K"), [0, 4, -4] + list(locator(1).encode()))
        self.assertEqual(desk.enter(0, f"*{locator(1)};E;*{locator(2)};D2;K"), ended(5, 3))
        self.assertEqual(desk.enter(0, f"E;*{locator(1)}"), [0, 0, -13])
        self.assertEqual(desk.enter(0, f"I;*{locator(1)};E;K;E"), [0, 4, -13] + list(locator(1).encode()))

    def test_agents_have_a_hand_each(self):
        desk = desk_with_flight()
        desk.enter(0, "N1A/B")
        desk.enter(1, "N1C/D")
        desk.enter(3, "K")
        self.assertEqual(desk.hand(0), [0, 1, 0] + content(names=[(0, "A", "B")]))
        self.assertEqual(desk.hand(1), [0, 1, 0] + content(names=[(0, "C", "D")]))
        self.assertEqual(desk.hand(2), [0, 0])
        self.assertEqual(desk.hand(3), [0, 1, 0] + content(ticketed=True))


if __name__ == "__main__":
    unittest.main()
