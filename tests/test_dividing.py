"""The entry D."""

import unittest

from helper import Desk, content, ended, fill_history, fill_records, locator


def desk_with_record():
    """Record 1: three names; a confirmed part, a cancelled one, one that waits; a time limit; ticketed."""
    desk = Desk()
    desk.flight(1, 0, 2, [9])
    desk.enter(0, "N3A/B/C/D;S3,1,0,A,0,1;S1,1,0,B,0,1;X2;W3,1,0,B,0,1;T7;K;E")
    return desk


class Dividing(unittest.TestCase):
    def test_names_and_living_parts_go(self):
        desk = desk_with_record()
        self.assertEqual(desk.enter(1, f"*{locator(1)};D1,3"), ended(2, 2))
        self.assertEqual(desk.hand(1), [0, 0])
        parts = [(1, 0, 0, 1, 0, 0, 1), (1, 0, 0, 1, 1, 2, 1), (1, 0, 0, 1, 1, 1, 1)]
        self.assertEqual(desk.record(1), [0, 2] + content(7, True, [(2, "A", "C")], parts))
        names = [(1, "A", "B"), (3, "A", "D")]
        parts = [(1, 0, 0, 1, 0, 0, 2), (1, 0, 0, 1, 1, 1, 2)]
        self.assertEqual(desk.record(2), [0, 1] + content(7, True, names, parts))

    def test_a_cancelled_part_keeps_its_number(self):
        desk = Desk()
        desk.flight(1, 0, 2, [9])
        desk.enter(0, "N3A/B/C/D;S3,1,0,A,0,1;S3,1,0,B,0,1;X2;E")
        desk.enter(0, f"*{locator(1)};D2")
        names = [(1, "A", "B"), (3, "A", "D")]
        parts = [(1, 0, 0, 1, 0, 0, 2), (1, 0, 0, 1, 1, 2, 3)]
        self.assertEqual(desk.record(1), [0, 2] + content(names=names, parts=parts))
        self.assertEqual(desk.record(2), [0, 1] + content(names=[(2, "A", "C")], parts=[(1, 0, 0, 1, 0, 0, 1)]))

    def test_without_a_limit_and_not_ticketed_and_without_living_parts(self):
        desk = Desk()
        desk.flight(1, 0, 2, [9])
        desk.enter(0, f"N2A/B/C;S2,1,0,A,0,1;E;*{locator(1)};XA;E")
        self.assertEqual(desk.enter(0, f"*{locator(1)};D2"), ended(2, 2))
        self.assertEqual(desk.record(2), [0, 1] + content(names=[(2, "A", "C")]))
        self.assertEqual(desk.record(1), [0, 3] + content(names=[(1, "A", "B")], parts=[(1, 0, 0, 1, 0, 2, 2)]))

    def test_the_seats_are_shared(self):
        desk = desk_with_record()
        self.assertEqual(desk.room("1,0,A,0,1"), 6)
        desk.enter(0, f"*{locator(1)};D1,3")
        self.assertEqual(desk.room("1,0,A,0,1"), 6)
        desk.enter(0, f"*{locator(1)};X1;E")
        self.assertEqual(desk.room("1,0,A,0,1"), 7)
        desk.enter(0, f"*{locator(2)};X1;E")
        self.assertEqual(desk.room("1,0,A,0,1"), 9)

    def test_no_new_ids_and_no_new_turns(self):
        desk = desk_with_record()
        desk.enter(1, "N1X/Y;W1,1,0,A,0,1;E")
        desk.enter(0, f"*{locator(1)};D2")
        self.assertEqual(desk.clear(), [0, 1, 3, 3, 2, 2, 1])
        desk.enter(1, "N1X/Z;W1,1,0,A,0,1;E")
        self.assertEqual(desk.record(4), [0, 1] + content(names=[(5, "X", "Z")], parts=[(1, 0, 0, 1, 0, 1, 1)]))

    def test_the_new_record_can_be_changed_by_itself(self):
        desk = desk_with_record()
        desk.enter(0, f"*{locator(1)};D3")
        before = desk.record(1)
        self.assertEqual(desk.enter(0, f"*{locator(2)};N1E/F;XA;T8;E"), ended(5, 2))
        self.assertEqual(desk.record(1), before)
        self.assertEqual(desk.room("1,0,A,0,1"), 7)
        self.assertEqual(desk.record(2)[:5], [0, 2, 9, 1, 2])


class Refusals(unittest.TestCase):
    def test_hand_and_log(self):
        desk = desk_with_record()
        self.assertEqual(desk.enter(0, "D1"), [0, 0, -4])
        self.assertEqual(desk.enter(0, "N2A/B/C;S2,1,0,A,0,1;D1"), [0, 2, -14])
        self.assertEqual(desk.enter(0, f"I;*{locator(1)};K;D1"), [0, 3, -14])
        self.assertEqual(desk.enter(0, "D9"), [0, 0, -14])

    def test_a_log_comes_before_an_old_version(self):
        desk = desk_with_record()
        desk.enter(0, f"*{locator(1)};K")
        desk.enter(1, f"*{locator(1)};K;E")
        self.assertEqual(desk.enter(0, "D1"), [0, 0, -14])

    def test_an_old_version_comes_before_the_numbers(self):
        desk = desk_with_record()
        desk.enter(0, f"*{locator(1)}")
        desk.enter(2, f"*{locator(1)}")
        self.assertEqual(desk.enter(1, f"*{locator(1)};D1"), ended(2, 2))
        for text in ("D1", "D9", "D1,2", "D1,2,3"):
            self.assertEqual(desk.enter(0, text), [0, 0, -12])
        self.assertEqual(desk.enter(2, "E"), [0, 0, -12])

    def test_numbers_above_come_before_all_names(self):
        desk = desk_with_record()
        desk.enter(0, f"*{locator(1)}")
        self.assertEqual(desk.enter(0, "D4"), [0, 0, -10])
        self.assertEqual(desk.enter(0, "D1,2,4"), [0, 0, -10])
        self.assertEqual(desk.enter(0, "D1,2,3,4"), [0, 0, -10])
        self.assertEqual(desk.enter(0, "D1,2,3"), [0, 0, -14])
        self.assertEqual(desk.enter(0, "D2,3"), ended(1, 2))

    def test_forty_records(self):
        desk = desk_with_record()
        fill_records(desk, 38)
        self.assertEqual(desk.enter(0, f"*{locator(1)};D1"), ended(2, 40))
        before = desk.record(1)
        self.assertEqual(desk.enter(0, f"*{locator(1)};D1"), [0, 1, -5])
        self.assertEqual(desk.enter(0, "D1,2"), [0, 0, -14])
        self.assertEqual(desk.enter(0, "D3"), [0, 0, -10])
        self.assertEqual(desk.record(1), before)
        self.assertEqual(desk.hand(0)[:3], [0, 1, 1])

    def test_a_long_history(self):
        for rows, expected in ((99, ended(2, 2)), (100, [0, 1, -5])):
            desk = Desk()
            desk.flight(1, 0, 2, [9])
            fill_history(desk, rows)
            self.assertEqual(desk.enter(0, f"*{locator(1)};D1"), expected)
        self.assertEqual(desk.enter(0, "D1,2"), [0, 0, -14])


if __name__ == "__main__":
    unittest.main()
