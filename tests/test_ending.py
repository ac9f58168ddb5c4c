"""The entries I, * and E."""

import unittest

from helper import Desk, content, ended, fill_history, fill_records, locator

THIRTY = ";".join(["K"] * 30)


def desk_with_flight(capacity=9):
    desk = Desk()
    desk.flight(1, 0, 2, [capacity])
    return desk


class Ignoring(unittest.TestCase):
    def test_seats_of_new_confirmed_parts_are_given_back(self):
        desk = desk_with_flight()
        desk.enter(0, "N2A/B/C;S2,1,0,A,0,1;E")
        desk.enter(0, f"*{locator(1)};S3,1,0,B,0,1;W1,1,0,A,0,1;S1,1,0,A,0,1;X4")
        self.assertEqual(desk.room("1,0,A,0,1"), 4)
        self.assertEqual(desk.enter(0, "I"), [0, 1, 0])
        self.assertEqual(desk.room("1,0,A,0,1"), 7)
        self.assertEqual(desk.hand(0), [0, 0])

    def test_nothing_in_hand(self):
        desk = desk_with_flight()
        self.assertEqual(desk.enter(0, "I"), [0, 0, -4])
        self.assertEqual(desk.enter(0, "K;I;I"), [0, 2, -4])

    def test_the_record_stays_as_it_was(self):
        desk = desk_with_flight()
        desk.enter(0, "N2A/B/C;S2,1,0,A,0,1;T5;E")
        before = desk.record(1)
        desk.enter(0, f"*{locator(1)};-1;X1;T9;K;N1D/E;I")
        self.assertEqual(desk.record(1), before)

    def test_also_with_a_full_log(self):
        desk = desk_with_flight()
        self.assertEqual(desk.enter(0, THIRTY + ";I"), [0, 31, 0])


class Fetching(unittest.TestCase):
    def test_the_record_is_in_hand(self):
        desk = desk_with_flight()
        desk.enter(0, "N2A/B/C;S2,1,0,A,0,1;W2,1,0,B,0,1;X2;T5;K;E")
        self.assertEqual(desk.enter(1, "*" + locator(1)), [0, 1, 0])
        parts = [(1, 0, 0, 1, 0, 0, 2), (1, 0, 0, 1, 1, 2, 2)]
        names = [(1, "A", "B"), (2, "A", "C")]
        self.assertEqual(desk.hand(1), [0, 1, 1] + content(5, True, names, parts))
        self.assertEqual(desk.record(1), [0, 1] + content(5, True, names, parts))

    def test_refusals_in_order(self):
        desk = desk_with_flight()
        self.assertEqual(desk.enter(0, "*" + locator(1)), [0, 0, -9])
        self.assertEqual(desk.enter(0, "N1A/B;W1,1,0,A,0,1;E;*" + locator(2)), [0, 3, -9] + list(locator(1).encode()))
        desk.enter(0, "K")
        self.assertEqual(desk.enter(0, "*" + locator(1)), [0, 0, -4])
        self.assertEqual(desk.enter(0, "*" + locator(2)), [0, 0, -4])

    def test_each_of_forty_records_by_its_locator(self):
        desk = desk_with_flight()
        fill_records(desk, 40)
        for place in range(1, 41):
            desk.enter(0, "*" + locator(place))
            self.assertEqual(desk.hand(0)[:3], [0, 1, place])
            self.assertEqual(desk.enter(0, "E"), ended(1, place))
        self.assertEqual(desk.enter(0, "*" + locator(41)), [0, 0, -9])

    def test_a_locator_in_full(self):
        desk = desk_with_flight()
        self.assertEqual(desk.enter(0, "N1A/B;W1,1,0,A,0,1;E"), [0, 3, 0] + list(b"GOFFWZ"))
        self.assertEqual(desk.enter(0, "*GOFFWZ"), [0, 1, 0])


class EndingNewOnes(unittest.TestCase):
    def test_a_record_is_made(self):
        desk = desk_with_flight()
        self.assertEqual(desk.enter(2, "N2A/B/C;S2,1,0,A,0,1;T3;E"), ended(4, 1))
        self.assertEqual(desk.hand(2), [0, 0])
        names = [(1, "A", "B"), (2, "A", "C")]
        self.assertEqual(desk.record(1), [0, 1] + content(3, False, names, [(1, 0, 0, 1, 0, 0, 2)]))
        self.assertEqual(desk.room("1,0,A,0,1"), 7)

    def test_names_taken_out_again_use_up_ids(self):
        desk = desk_with_flight()
        desk.enter(0, "N2A/B/C;-1;N1D/E;S2,1,0,A,0,1;E")
        self.assertEqual(desk.record(1)[4:6], [2, 2])
        names = [(2, "A", "C"), (3, "D", "E")]
        self.assertEqual(desk.record(1), [0, 1] + content(names=names, parts=[(1, 0, 0, 1, 0, 0, 2)]))
        desk.enter(0, "N1F/G;-1;N1F/H;W1,1,0,A,0,1;E")
        names = [(5, "F", "H")]
        self.assertEqual(desk.record(2), [0, 1] + content(names=names, parts=[(1, 0, 0, 1, 0, 1, 1)]))

    def test_ids_go_by_the_order_of_ends_and_not_to_what_is_ignored(self):
        desk = desk_with_flight()
        desk.enter(0, "N1A/B;W1,1,0,A,0,1")
        desk.enter(1, "N1C/D;W1,1,0,A,0,1;E")
        desk.enter(2, "N9A/B/C/D/E/F/G/H/I/J;I")
        desk.enter(0, "E")
        self.assertEqual(desk.record(1), [0, 1] + content(names=[(1, "C", "D")], parts=[(1, 0, 0, 1, 0, 1, 1)]))
        self.assertEqual(desk.record(2), [0, 1] + content(names=[(2, "A", "B")], parts=[(1, 0, 0, 1, 0, 1, 1)]))

    def test_a_refused_end_gives_no_ids_and_keeps_the_hand(self):
        desk = desk_with_flight()
        self.assertEqual(desk.enter(0, "N2A/B/C;S1,1,0,A,0,1;E"), [0, 2, -11])
        names = [(0, "A", "B"), (0, "A", "C")]
        self.assertEqual(desk.hand(0), [0, 1, 0] + content(names=names, parts=[(1, 0, 0, 1, 0, 0, 1)]))
        self.assertEqual(desk.enter(0, "-1;E"), ended(2, 1))
        self.assertEqual(desk.record(1), [0, 1] + content(names=[(2, "A", "C")], parts=[(1, 0, 0, 1, 0, 0, 1)]))

    def test_cancelled_new_parts_may_have_other_seats(self):
        desk = desk_with_flight()
        self.assertEqual(desk.enter(0, "N2A/B/C;S1,1,0,A,0,1;S3,1,0,A,0,1;X1;X2;S2,1,0,A,0,1;E"), ended(7, 1))
        parts = [(1, 0, 0, 1, 0, 2, 1), (1, 0, 0, 1, 0, 2, 3), (1, 0, 0, 1, 0, 0, 2)]
        self.assertEqual(desk.record(1)[-22:], [3] + [number for part in parts for number in part])
        self.assertEqual(desk.room("1,0,A,0,1"), 7)

    def test_not_complete(self):
        self.assertEqual(Desk().enter(0, "E"), [0, 0, -4])
        for text in ("K", "N1A/B", "W1,1,0,A,0,1", "S1,1,0,A,0,1", "N1A/B;-1;W1,1,0,A,0,1", "N1A/B;W1,1,0,A,0,1;X1"):
            desk = desk_with_flight()
            desk.enter(0, text)
            self.assertEqual(desk.enter(0, "E"), [0, 0, -13])

    def test_wrong_seats(self):
        for text in ("S1,1,0,A,0,1", "S3,1,0,A,0,1", "W1,1,0,A,0,1", "W3,1,0,A,0,1", "S2,1,0,A,0,1;W3,1,0,A,0,1"):
            desk = desk_with_flight()
            desk.enter(0, "N2A/B/C;" + text)
            self.assertEqual(desk.enter(0, "E"), [0, 0, -11])

    def test_forty_records_and_the_refusals_before(self):
        desk = desk_with_flight()
        fill_records(desk, 39)
        self.assertEqual(desk.enter(0, "N1A/B;S1,1,0,A,0,1;E"), ended(3, 40))
        self.assertEqual(desk.enter(0, "N1A/B;S1,1,0,A,0,1;E"), [0, 2, -5])
        self.assertEqual(desk.room("1,0,A,0,1"), 7)
        self.assertEqual(desk.enter(0, "N1A/B;E"), [0, 1, -11])
        self.assertEqual(desk.enter(0, "-1;-1;E"), [0, 2, -13])
        self.assertEqual(desk.enter(0, f"I;*{locator(40)};K;E"), ended(4, 40))


class EndingFetchedOnes(unittest.TestCase):
    def setUp(self):
        self.desk = desk_with_flight()
        self.desk.enter(0, "N2A/B/C;S2,1,0,A,0,1;W2,1,0,B,0,1;E")
        self.fetch = "*" + locator(1)

    def parts(self):
        numbers = self.desk.record(1)
        return [tuple(numbers[len(numbers) - 7 * k:][:7]) for k in (2, 1)]

    def test_a_change_makes_a_new_version(self):
        self.assertEqual(self.desk.enter(1, self.fetch + ";T9;K;E"), ended(4, 1))
        names = [(1, "A", "B"), (2, "A", "C")]
        parts = [(1, 0, 0, 1, 0, 0, 2), (1, 0, 0, 1, 1, 1, 2)]
        self.assertEqual(self.desk.record(1), [0, 2] + content(9, True, names, parts))

    def test_an_empty_log_changes_nothing(self):
        before = self.desk.record(1)
        self.desk.enter(0, self.fetch)
        self.desk.enter(1, self.fetch)
        self.assertEqual(self.desk.enter(0, "E"), ended(1, 1))
        self.assertEqual(self.desk.record(1), before)
        self.assertEqual(self.desk.hand(0), [0, 0])
        self.assertEqual(self.desk.enter(1, "K;E"), ended(2, 1))

    def test_a_smaller_party_gives_seats_back(self):
        self.assertEqual(self.desk.enter(0, self.fetch + ";-1"), [0, 2, 0])
        self.assertEqual(self.desk.room("1,0,A,0,1"), 7)
        self.assertEqual(self.desk.enter(0, "E"), ended(1, 1))
        self.assertEqual(self.desk.room("1,0,A,0,1"), 8)
        self.assertEqual(self.parts(), [(1, 0, 0, 1, 0, 0, 1), (1, 0, 0, 1, 1, 1, 1)])
        self.assertEqual(self.desk.record(1)[1:6], [2, 0, 0, 1, 2])

    def test_cancelled_old_parts_keep_their_number(self):
        self.assertEqual(self.desk.enter(0, self.fetch + ";-1;X1;X2;E"), ended(5, 1))
        self.assertEqual(self.desk.room("1,0,A,0,1"), 9)
        self.assertEqual(self.parts(), [(1, 0, 0, 1, 0, 2, 2), (1, 0, 0, 1, 1, 2, 2)])

    def test_a_larger_party_is_refused_while_an_old_part_lives(self):
        self.assertEqual(self.desk.enter(0, self.fetch + ";N1D/E;E"), [0, 2, -11])
        self.assertEqual(self.desk.enter(0, "X1;E"), [0, 1, -11])
        self.assertEqual(self.desk.enter(0, "X2;S3,1,0,A,0,1;E"), ended(3, 1))
        self.assertEqual(self.desk.room("1,0,A,0,1"), 6)

    def test_a_new_part_has_just_as_many_seats_as_names(self):
        self.assertEqual(self.desk.enter(0, self.fetch + ";-1;S2,1,0,A,0,1;E"), [0, 3, -11])
        self.assertEqual(self.desk.enter(0, "X3;W1,1,0,A,0,1;E"), ended(3, 1))
        self.assertEqual(self.desk.room("1,0,A,0,1"), 8)

    def test_names_exchanged_keep_the_seats(self):
        self.assertEqual(self.desk.enter(0, self.fetch + ";-1;N1D/E;E"), ended(4, 1))
        self.assertEqual(self.desk.room("1,0,A,0,1"), 7)
        names = [(2, "A", "C"), (3, "D", "E")]
        parts = [(1, 0, 0, 1, 0, 0, 2), (1, 0, 0, 1, 1, 1, 2)]
        self.assertEqual(self.desk.record(1), [0, 2] + content(names=names, parts=parts))

    def test_without_names_but_without_parts_it_may_be(self):
        self.assertEqual(self.desk.enter(0, self.fetch + ";-1;-1;XA;E"), [0, 4, -13])
        self.assertEqual(self.desk.enter(0, "N1D/E;E"), ended(2, 1))
        self.assertEqual(self.desk.enter(0, self.fetch + ";K;E"), ended(3, 1))
        self.assertEqual(self.desk.room("1,0,A,0,1"), 9)

    def test_two_copies(self):
        self.desk.enter(0, self.fetch + ";X1")
        self.desk.enter(1, self.fetch + ";X1;-1")
        self.assertEqual(self.desk.enter(0, "E"), ended(1, 1))
        self.assertEqual(self.desk.room("1,0,A,0,1"), 9)
        after = self.desk.record(1)
        self.assertEqual(self.desk.enter(1, "E"), [0, 0, -12])
        self.assertEqual(self.desk.enter(1, "-1;E"), [0, 1, -12])
        self.assertEqual(self.desk.enter(1, "N9A/B/C/D/E/F/G/H/I/J;E"), [0, 1, -12])
        self.assertEqual(self.desk.enter(1, "I"), [0, 1, 0])
        self.assertEqual(self.desk.room("1,0,A,0,1"), 9)
        self.assertEqual(self.desk.record(1), after)
        self.assertEqual(self.desk.enter(1, self.fetch + ";K;E"), ended(3, 1))

    def test_the_copy_is_as_it_was_fetched(self):
        self.desk.enter(1, self.fetch)
        before = self.desk.hand(1)
        self.desk.enter(0, self.fetch + ";-1;X2;T9;K;E")
        self.assertEqual(self.desk.hand(1), before)
        self.assertEqual(self.desk.enter(1, "E"), [0, 0, -12])

    def test_an_old_version_before_all_others(self):
        self.desk.enter(0, self.fetch)
        self.desk.enter(1, self.fetch + ";K;E")
        self.assertEqual(self.desk.enter(0, "E"), [0, 0, -12])
        self.assertEqual(self.desk.enter(0, "-1;-1;E"), [0, 2, -12])


class LongHistories(unittest.TestCase):
    def desk_with_rows(self, rows):
        desk = desk_with_flight()
        fill_history(desk, rows)
        desk.enter(0, "*" + locator(1))
        return desk

    def test_a_hundred_rows_and_no_more(self):
        desk = self.desk_with_rows(98)
        self.assertEqual(desk.enter(0, "T1;T1;T1;E"), [0, 3, -5])
        self.assertEqual(desk.enter(0, f"I;*{locator(1)};T1;T1;E"), ended(5, 1))
        self.assertEqual(desk.enter(0, f"*{locator(1)};E"), ended(2, 1))
        self.assertEqual(desk.enter(0, f"*{locator(1)};T1;E"), [0, 2, -5])

    def test_the_party_row_counts(self):
        self.assertEqual(self.desk_with_rows(99).enter(0, "-1;E"), [0, 1, -5])
        self.assertEqual(self.desk_with_rows(98).enter(0, "-1;E"), ended(2, 1))

    def test_wrong_seats_come_before(self):
        self.assertEqual(self.desk_with_rows(100).enter(0, "N1D/E;E"), [0, 1, -11])

    def test_the_house_s_own_rows_go_beyond(self):
        desk = self.desk_with_rows(100)
        desk.enter(0, "I")
        self.assertEqual(desk.clock(2), [0, 1])
        self.assertEqual(len(desk.history(1)), 101)
        self.assertEqual(desk.enter(0, f"*{locator(1)};E"), [0, 1, -5])
        self.assertEqual(desk.hand(0)[:3], [0, 1, 1])
        self.assertEqual(desk.enter(0, "I"), [0, 1, 0])

    def test_a_new_record_may_have_a_long_log(self):
        desk = desk_with_flight()
        desk.enter(0, "N1A/B;" + ";".join(["W1,1,0,A,0,1"] * 8))
        desk.enter(0, ";".join(["K"] * 20))
        self.assertEqual(desk.enter(0, "XA;E"), [0, 1, -13])
        self.assertEqual(len(desk.house().hands[0].log), 37)


if __name__ == "__main__":
    unittest.main()
