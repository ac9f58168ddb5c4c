"""The calls record and hand, and the interface as a whole."""

import unittest

from agententries.house import answers
from helper import Desk, content, entry_call, locator, numbers_of, row_call, separated


class Records(unittest.TestCase):
    def test_no_such_record(self):
        desk = Desk()
        self.assertEqual(desk.record(1), [-9])
        desk.flight(1, 0, 1, [9])
        desk.enter(0, "N1A/B;S1,1,0,A,0,1;E")
        self.assertEqual(desk.record(2), [-9])
        self.assertEqual(desk.ask(row_call([5], [0] * 6)), [-9])
        self.assertEqual(desk.ask(row_call([5], [255] * 6)), [-9])
        self.assertEqual(desk.ask(row_call([5], numbers_of("goffwz"))), [-9])
        self.assertEqual(desk.ask(row_call([5], numbers_of("GOFFWZ")))[0], 0)

    def test_ranges(self):
        desk = Desk()
        desk.flight(1, 0, 1, [9])
        desk.enter(0, "N1A/B;S1,1,0,A,0,1;E")
        letters = numbers_of(locator(1))
        for row in ([], letters[:5], letters + [65], letters * 21):
            self.assertEqual(desk.ask(row_call([5], row)), [-2])
        for byte in (-1, 256, -10 ** 12, 10 ** 12):
            for place in (0, 5):
                row = list(letters)
                row[place] = byte
                self.assertEqual(desk.ask(row_call([5], row)), [-2])

    def test_version_and_content(self):
        desk = Desk()
        desk.flight(123, 456, 12, [9, 9, 9, 9])
        desk.enter(0, "N1ABCDEFGHIJKL/Z;S1,123,456,L,1,4;T0;E")
        expected = [0, 1, 1, 0, 1, 1, 12] + list(range(65, 77)) + [1, 90, 1, 123, 456, 1, 4, 11, 0, 1]
        self.assertEqual(desk.record(1), expected)


class Hands(unittest.TestCase):
    def test_nothing_new_and_fetched(self):
        desk = Desk()
        desk.flight(1, 0, 1, [9])
        for agent in range(4):
            self.assertEqual(desk.hand(agent), [0, 0])
        desk.enter(3, "N1A/B;S1,1,0,A,0,1")
        self.assertEqual(desk.hand(3), [0, 1, 0, 0, 0, 1, 0, 1, 65, 1, 66, 1, 1, 0, 0, 1, 0, 0, 1])
        desk.enter(3, f"E;N1C/D;W1,1,0,A,0,1;E;*{locator(2)};N1E/F")
        names = [(2, "C", "D"), (0, "E", "F")]
        self.assertEqual(desk.hand(3), [0, 1, 2] + content(names=names, parts=[(1, 0, 0, 1, 0, 1, 1)]))

    def test_ranges(self):
        for agent in (-1, 4, -10 ** 12, 10 ** 12):
            self.assertEqual(Desk().hand(agent), [-2])


class Interface(unittest.TestCase):
    def calls(self):
        return (
            row_call([1, 1, 0, 1, 2], [5])
            + row_call([2, 1, 0, 0], [5, 4])
            + entry_call(0, "N1A/B;W1,1,0,B,0,1;T1;E")
            + [4]
            + [6, 0]
            + row_call([5], numbers_of(locator(1)))
            + row_call([2, 1, 0, 0], [])
            + row_call([0, 7], [1] * 130)
            + [3, 2]
            + [3, 10 ** 12]
        )

    def test_one_list_in_and_one_list_out(self):
        answered = answers(self.calls())
        self.assertIs(type(answered), list)
        self.assertTrue(all(type(number) is int for number in answered))
        record = [0, 2] + content(1, False, [(1, "A", "B")], [(1, 0, 0, 1, 1, 0, 1)])
        expected = [[0], [0], [0, 4, 0] + numbers_of(locator(1)), [0, 1, 1], [0, 0], record, [-2], [-2], [0, 1], [-2]]
        self.assertEqual(separated(answered), expected)

    def test_the_list_handed_in_stays_as_it_was(self):
        calls = self.calls()
        before = list(calls)
        answered = answers(calls)
        self.assertEqual(calls, before)
        self.assertEqual(answered, answers(calls))

    def test_nothing_is_kept_from_one_time_to_the_next(self):
        answers(self.calls())
        self.assertEqual(answers([6, 0] + row_call([5], numbers_of(locator(1)))), [2, 0, 0, 1, -9])
        self.assertEqual(answers(row_call([1, 1, 0, 1, 2], [5])), [1, 0])
        self.assertEqual(answers([3, 0]), [1, 0])

    def test_two_hundred_calls(self):
        self.assertEqual(answers([6, 0] * 200), [2, 0, 0] * 200)

    def test_two_hundred_calls_of_all_kinds(self):
        made = [
            (row_call([1, 44, 10, 2, 2], [9, 5]), [0]),
            (row_call([2, 44, 10, 1], [5, 3]), [0]),
            (entry_call(0, "N2LEE/ANN/BOB;S2,44,10,A,0,2;W2,44,10,B,1,2;T3;E"), [0, 5, 0] + numbers_of(locator(1))),
            (entry_call(1, "N1LEED/EVE;W1,44,10,B,0,2;E"), [0, 3, 0] + numbers_of(locator(2))),
            (entry_call(2, f"*{locator(1)};D2"), [0, 2, 0] + numbers_of(locator(3))),
            ([4], [0, 1, 2, 3, 2, 2, 1]),
            (entry_call(3, f"*{locator(2)};W1,44,10,A,0,1;K;E"), [0, 4, 0] + numbers_of(locator(2))),
            ([3, 3], [0]),
            (entry_call(3, f"*{locator(3)};T9;E;N1FOX/ZOE"), [0, 4, 0] + numbers_of(locator(3))),
            ([3, 5], [0, 1]),
        ]
        names = [(3, "LEED", "EVE")]
        parts = [(44, 10, 0, 2, 1, 0, 1), (44, 10, 0, 1, 0, 1, 1)]
        rows = [0, 0, 1, 2, 0, 0, 3, 2, 0, 0, 3, 2, 0, 0, 7, 3, 0, 2, 9, 1, 0, 4, 5, 2, 5, 4, 4, 1, 5, 4, 4, 2]
        asked = [
            (row_call([0, 3], numbers_of("?")), [-3]),
            (entry_call(0, "E"), [0, 0, -4]),
            (row_call([1, 44, 10, 1, 1], [1]), [-6]),
            (row_call([2, 44, 10, 2], [1, 1]), [-7]),
            ([3, 4], [-15]),
            ([3, 5], [0]),
            (row_call([5], numbers_of(locator(2))), [0, 3] + content(None, True, names, parts)),
            ([6, 3], [0, 1, 0] + content(names=[(0, "FOX", "ZOE")])),
            ([6, 2], [0, 0]),
            (row_call([7], numbers_of(locator(1))), [0] + rows),
            (row_call([7], numbers_of(locator(4))), [-9]),
            (row_call([8], []), [0, 1, 2, 3]),
            (row_call([8], numbers_of("LEED")), [0, 2]),
            (row_call([8], [256]), [-2]),
            ([9], [0, 2, 2]),
            ([10, 44, 10, 0, 2, 1], [0, 1]),
            ([10, 44, 10, 0, 2, 2], [-7]),
            ([11, 44, 10, 0, 2], [0, 1, 1]),
            ([11, 44, 11, 0, 2], [-6]),
            ([12, 3], [0] + numbers_of(locator(3))),
            ([12, 4], [-9]),
        ]
        # What is asked, one behind another in many orders, answers the same each time: it changes nothing.
        pairs = made + [asked[k * k * 4 % 21 if k % 2 else k % 21] for k in range(190)]
        self.assertEqual(len(pairs), 200)
        self.assertTrue(all(pair in pairs for pair in asked))
        calls = [number for call, answer in pairs for number in call]
        self.assertEqual(separated(answers(calls)), [answer for call, answer in pairs])
        self.assertEqual({call[0] for call, answer in pairs}, set(range(13)))

    def test_limits_handed_in_are_not_held(self):
        calls = row_call([1, 1, 0, 1, 1], [1]) + row_call([2, 1, 0, 0], [3]) + entry_call(0, "S3,1,0,A,0,1")
        self.assertEqual(separated(answers(calls)), [[0], [0], [0, 1, 0]])
        self.assertEqual(calls[5:7], [1, 1])


if __name__ == "__main__":
    unittest.main()
