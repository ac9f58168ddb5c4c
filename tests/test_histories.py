"""The call history: the rows of a record."""

import unittest

from helper import Desk, ended, fill_history, locator, numbers_of, row_call

FAR = (-10 ** 12, 10 ** 12)


def desk_with_flight(capacity=9):
    desk = Desk()
    desk.flight(1, 0, 2, [capacity])
    return desk


class Kinds(unittest.TestCase):
    def rows_of(self, text):
        """What the history of a record of two names and a confirmed part gets by this text of agent 3."""
        desk = desk_with_flight()
        desk.enter(0, "N2A/B/C;S2,1,0,A,0,1;E")
        before = desk.history(1)
        answer = desk.enter(3, f"*{locator(1)};{text}")
        self.assertEqual(answer[:3], [0, text.count(";") + 2, 0])
        after = desk.history(1)
        self.assertEqual(after[:len(before)], before)
        return after[len(before):]

    def test_names_added(self):
        self.assertEqual(self.rows_of("XA;N3D/E/F/G;E"), [(0, 3, 4, 1), (0, 3, 1, 3)])
        self.assertEqual(self.rows_of("XA;N7D/E/E/E/E/E/E/E;E"), [(0, 3, 4, 1), (0, 3, 1, 7)])

    def test_a_name_taken_out(self):
        self.assertEqual(self.rows_of("-2;N1D/E;E"), [(0, 3, 2, 2), (0, 3, 1, 1)])
        self.assertEqual(self.rows_of("N1D/E;-3;E"), [(0, 3, 1, 1), (0, 3, 2, 3)])

    def test_the_seats_of_a_part_added(self):
        self.assertEqual(self.rows_of("S2,1,0,B,0,1;W2,1,0,A,0,1;E"), [(0, 3, 3, 2), (0, 3, 3, 2)])
        self.assertEqual(self.rows_of("W9,1,0,A,0,1;X2;E"), [(0, 3, 3, 9), (0, 3, 4, 2)])

    def test_a_part_cancelled_by_an_agent(self):
        self.assertEqual(self.rows_of("X1;E"), [(0, 3, 4, 1)])
        rows = [(0, 3, 3, 2), (0, 3, 3, 1), (0, 3, 4, 2), (0, 3, 4, 1), (0, 3, 4, 3)]
        self.assertEqual(self.rows_of("W2,1,0,A,0,1;S1,1,0,A,0,1;X2;XA;E"), rows)

    def test_a_party_row(self):
        self.assertEqual(self.rows_of("-1;E"), [(0, 3, 2, 1), (0, 3, 6, 1)])
        self.assertEqual(self.rows_of("-1;K;E"), [(0, 3, 2, 1), (0, 3, 8, 0), (0, 3, 6, 1)])

    def test_a_time_limit(self):
        self.assertEqual(self.rows_of("T0;T36524;E"), [(0, 3, 7, 0), (0, 3, 7, 36524)])

    def test_ticketed(self):
        self.assertEqual(self.rows_of("K;K;E"), [(0, 3, 8, 0), (0, 3, 8, 0)])

    def test_names_that_went_away(self):
        self.assertEqual(self.rows_of("D2"), [(0, 3, 9, 1)])

    def test_a_part_cancelled_and_a_part_confirmed_by_the_house(self):
        desk = desk_with_flight()
        desk.clock(1)
        desk.enter(0, "N1A/B;W1,1,0,A,0,1;S1,1,0,A,0,1;X2;W1,1,0,A,0,1;T2;E")
        desk.clock(2)
        desk.clear()
        desk.clock(9)
        expected = [(2, 4, 5, 1), (2, 4, 5, 3), (9, 4, 4, 1), (9, 4, 4, 3)]
        self.assertEqual(desk.history(1)[6:], expected)

    def test_a_waiting_part_cancelled_by_the_house(self):
        desk = desk_with_flight(0)
        desk.enter(1, "N1A/B;W1,1,0,A,0,1;T2;E")
        self.assertEqual(desk.clear(), [0])
        desk.clock(3)
        self.assertEqual(desk.history(1), [(0, 1, 1, 1), (0, 1, 3, 1), (0, 1, 7, 2), (3, 4, 4, 1)])


class Rows(unittest.TestCase):
    def test_a_row_for_each_change_on_the_day_of_the_end(self):
        desk = desk_with_flight()
        desk.clock(3)
        desk.enter(2, "N2A/B/C;N1D/E;-2;S2,1,0,A,0,1;W5,1,0,B,0,1;X2;T4;K")
        desk.clock(4)
        desk.enter(2, "E")
        rows = [(1, 2), (1, 1), (2, 2), (3, 2), (3, 5), (4, 2), (7, 4), (8, 0)]
        self.assertEqual(desk.history(1), [(4, 2) + row for row in rows])

    def test_rows_stand_flat_in_the_answer(self):
        desk = desk_with_flight()
        desk.clock(36524)
        desk.enter(3, "N2A/B/C;W2,1,0,A,0,1;E")
        answer = desk.peek(row_call([7], numbers_of(locator(1))))
        self.assertEqual(answer, [0, 36524, 3, 1, 2, 36524, 3, 3, 2])

    def test_each_agent(self):
        desk = desk_with_flight()
        desk.enter(0, "N1A/B;W1,1,0,A,0,1;E")
        for agent in (1, 2, 3):
            desk.clock(agent)
            desk.enter(agent, f"*{locator(1)};K;E")
        expected = [(0, 0, 1, 1), (0, 0, 3, 1), (1, 1, 8, 0), (2, 2, 8, 0), (3, 3, 8, 0)]
        self.assertEqual(desk.history(1), expected)

    def test_one_party_row_for_all_parts(self):
        desk = desk_with_flight()
        desk.enter(0, "N3A/B/C/D;S3,1,0,A,0,1;W3,1,0,B,0,1;E")
        desk.enter(1, f"*{locator(1)};-3;-1;E")
        expected = [(0, 0, 1, 3), (0, 0, 3, 3), (0, 0, 3, 3), (0, 1, 2, 3), (0, 1, 2, 1), (0, 1, 6, 1)]
        self.assertEqual(desk.history(1), expected)

    def test_no_party_row_where_only_cancelled_parts_differ(self):
        desk = desk_with_flight()
        desk.enter(0, "N3A/B/C/D;S3,1,0,A,0,1;E")
        desk.enter(1, f"*{locator(1)};XA;-1;E")
        self.assertEqual(desk.history(1)[2:], [(0, 1, 4, 1), (0, 1, 2, 1)])

    def test_what_adds_nothing(self):
        desk = desk_with_flight()
        desk.enter(0, "N3A/B/C/D;S3,1,0,A,0,1;E")
        before = desk.history(1)
        desk.enter(0, f"*{locator(1)};E;*{locator(1)};N1E/F;E")
        self.assertEqual(desk.hand(0)[:3], [0, 1, 1])
        self.assertEqual(desk.history(1), before)
        desk.enter(0, f"I;*{locator(1)};K;T5;I")
        desk.enter(1, f"*{locator(1)};K;D1")
        self.assertEqual(desk.history(1), before)

    def test_rows_of_a_division(self):
        desk = desk_with_flight()
        desk.enter(0, "N3A/B/C/D;S3,1,0,A,0,1;S1,1,0,A,0,1;X2;W3,1,0,B,0,1;T5;K;E")
        desk.clock(2)
        desk.enter(3, f"*{locator(1)};D1,2")
        self.assertEqual(desk.history(1)[7:], [(2, 3, 9, 2)])
        expected = [(2, 3, 1, 2), (2, 3, 3, 2), (2, 3, 3, 2), (2, 3, 7, 5), (2, 3, 8, 0)]
        self.assertEqual(desk.history(2), expected)
        desk.enter(3, f"N2E/F/G;W2,1,0,A,0,1;E;*{locator(3)};D1")
        self.assertEqual(desk.history(4), [(2, 3, 1, 1), (2, 3, 3, 1)])
        desk.enter(1, f"*{locator(4)};K;E")
        self.assertEqual(desk.history(4), [(2, 3, 1, 1), (2, 3, 3, 1), (2, 1, 8, 0)])
        self.assertEqual(len(desk.history(3)), 3)

    def test_a_division_without_living_parts(self):
        desk = desk_with_flight()
        desk.enter(0, f"N2A/B/C;S2,1,0,A,0,1;E;*{locator(1)};XA;E;*{locator(1)};D1")
        self.assertEqual(desk.history(2), [(0, 0, 1, 1)])


class LongOnes(unittest.TestCase):
    def test_a_hundred_rows(self):
        desk = desk_with_flight()
        fill_history(desk, 100)
        first = [(0, 0, 1, 2), (0, 0, 3, 2)]
        self.assertEqual(desk.history(1), first + [(0, 0, 7, 1)] * 98)
        self.assertEqual(desk.enter(0, f"*{locator(1)};T1;E"), [0, 2, -5])
        self.assertEqual(len(desk.history(1)), 100)

    def test_the_house_goes_beyond(self):
        desk = desk_with_flight()
        desk.enter(0, "N2A/B/C;W2,1,0,A,0,1;W2,1,0,B,0,1;T1;E")
        for more in (30, 30, 30, 6):
            desk.enter(0, f"*{locator(1)};{';'.join(['T1'] * more)}")
            self.assertEqual(desk.enter(0, "E"), ended(1, 1))
        self.assertEqual(len(desk.history(1)), 100)
        self.assertEqual(desk.clear(), [0, 1, 1, 1, 2])
        self.assertEqual(desk.clock(2), [0, 1])
        expected = [(0, 4, 5, 1), (0, 4, 5, 2), (2, 4, 4, 1), (2, 4, 4, 2)]
        self.assertEqual(desk.history(1)[100:], expected)
        self.assertEqual(desk.enter(0, f"*{locator(1)};E"), [0, 1, -5])
        self.assertEqual(desk.enter(0, "D1"), [0, 0, -5])
        self.assertEqual(len(desk.history(1)), 104)

    def test_more_changes_than_a_log_takes_else(self):
        desk = desk_with_flight()
        desk.enter(0, "N1A/B;W1,1,0,A,0,1;E")
        desk.enter(0, f"*{locator(1)};" + ";".join(["W1,1,0,A,0,1"] * 7))
        desk.enter(0, ";".join(["K"] * 22))
        self.assertEqual(desk.enter(0, "XA;E"), ended(2, 1))
        expected = [(0, 0, 3, 1)] * 7 + [(0, 0, 8, 0)] * 22 + [(0, 0, 4, k) for k in range(1, 9)]
        self.assertEqual(desk.history(1)[2:], expected)


class Refusals(unittest.TestCase):
    def test_no_such_record(self):
        desk = desk_with_flight()
        first = row_call([7], numbers_of(locator(1)))
        self.assertEqual(desk.ask(first), [-9])
        desk.enter(0, "N1A/B;W1,1,0,A,0,1")
        self.assertEqual(desk.ask(first), [-9])
        desk.enter(0, "E")
        self.assertEqual(desk.ask(first), [0, 0, 0, 1, 1, 0, 0, 3, 1])
        for row in (numbers_of(locator(2)), [0] * 6, [255] * 6, numbers_of(locator(1).lower())):
            self.assertEqual(desk.ask(row_call([7], row)), [-9])

    def test_ranges(self):
        desk = desk_with_flight()
        desk.enter(0, "N1A/B;W1,1,0,A,0,1;E")
        letters = numbers_of(locator(1))
        for row in ([], letters[:5], letters + [65], letters * 21):
            self.assertEqual(desk.ask(row_call([7], row)), [-2])
        for byte in (-1, 256) + FAR:
            for place in range(6):
                row = list(letters)
                row[place] = byte
                self.assertEqual(desk.ask(row_call([7], row)), [-2])


if __name__ == "__main__":
    unittest.main()
