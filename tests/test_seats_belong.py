"""Long mixed runs: at any moment each seat that is sold belongs to somebody, and a refusal changes nothing."""

import random
import unittest

from agententries.house import answers_of
from agententries.state import House
from helper import entry_call, locator, row_call

FLIGHTS = ((1, 0, 2, (6, 4, 9)), (2, 1, 3, (5,)), (2, 2, 1, (3, 8)))


def seen_content(content):
    names = [(name.number, name.last, name.first) for name in content.names]
    parts = [(id(part.flight), part.segment, part.status, part.seats, part.turn) for part in content.parts]
    return (names, parts, content.limit, content.ticketed)


def seen_hand(hand):
    if hand is None:
        return None
    place = None if hand.record is None else hand.record.place
    log = [(change.what, change.number) for change in hand.log]
    return (place, hand.version, seen_content(hand.fetched), seen_content(hand.content), log)


def seen(house):
    """All that the house holds, as plain values."""
    flights = [(key, flight.limits, sold_of(flight)) for key, flight in house.flights.items()]
    records = [(r.place, r.version, list(r.history), seen_content(r.content)) for r in house.records]
    hands = [seen_hand(hand) for hand in house.hands]
    return (repr(flights), records, hands, house.today, house.last_passenger, house.last_turn)


def sold_of(flight):
    return {segment: seats for segment, seats in flight.sold.items() if seats != 0}


def owned_of(house, flight):
    """The seats of the records' confirmed parts and of the new confirmed parts in hand."""
    parts = []
    for record in house.records:
        parts += record.content.parts
    for hand in house.hands:
        if hand is not None:
            parts += hand.content.parts[len(hand.fetched.parts):]
    owned = {}
    for part in parts:
        if part.status == 0 and part.flight == flight:
            owned[part.segment] = owned.get(part.segment, 0) + part.seats
    return owned


def room_left(flight, owned, i, j, c):
    """The room as the seats that belong to somebody leave it."""
    rooms = []
    for leg in range(i, j):
        for k in range(c + 1):
            nest = sum(seats for (a, b, d), seats in owned.items() if a <= leg < b and d >= k)
            rooms.append(max(0, flight.limits[leg][k] - nest))
    return min(rooms)


def some_entry(chance, house):
    num, day, classes, capacities = chance.choice(FLIGHTS)
    i = chance.randrange(len(capacities))
    j = chance.randrange(i, len(capacities) + 1)
    fields = f"{chance.randint(1, 3)},{num},{day},{chance.choice('ABC')},{i},{max(1, j)}"
    names = chance.randint(1, 3)
    places = sorted(chance.sample(range(1, 4), chance.randint(1, 2)))
    return chance.choice([
        f"N{names}A" + "/B" * names,
        f"-{chance.randint(1, 3)}",
        "S" + fields,
        "S" + fields,
        "W" + fields,
        f"X{chance.randint(1, 4)}",
        chance.choice(("XA", "I", "K", "E")),
        f"T{house.today + chance.randint(-1, 4)}".replace("-1", "1"),
        "E",
        "E",
        "*" + locator(chance.randint(1, len(house.records) + 1)),
        "*" + locator(chance.randint(1, len(house.records) + 1)),
        "D" + ",".join(str(place) for place in places),
    ])


def some_call(chance, house):
    kind = chance.randrange(40)
    if kind == 0:
        return [3, house.today + chance.randint(-1, 2)]
    if kind == 1:
        return [4]
    if kind == 2:
        num, day, classes, capacities = chance.choice(FLIGHTS)
        limits = [chance.randint(0, 12) for k in range(classes)]
        return row_call([2, num, day, chance.randrange(4)], limits)
    if kind < 12:
        size = chance.randint(1, 3)
        num, day, classes, capacities = chance.choice(FLIGHTS)
        letter = chance.choice("SW")
        text = f"N{size}C" + "/D" * size + f";{letter}{size},{num},{day},A,0,1;T{house.today + 2};E"
        return entry_call(chance.randrange(4), text)
    return entry_call(chance.randrange(4), some_entry(chance, house))


class SeatsBelong(unittest.TestCase):
    def check(self, house):
        for flight in house.flights.values():
            self.assertEqual(sold_of(flight), owned_of(house, flight))
        for record in house.records:
            size = len(record.content.names)
            self.assertGreaterEqual(size, 1)
            self.assertLessEqual(size, 9)
            self.assertLessEqual(len(record.content.parts), 8)
            for part in record.content.parts:
                self.assertTrue(part.status == 2 or part.seats == size)
                self.assertGreaterEqual(part.turn, 1)

    def check_told(self, house):
        """What room, sold, line, find and locator tell is so; and they change nothing."""
        before = seen(house)
        for flight in house.flights.values():
            owned = owned_of(house, flight)
            for i in range(flight.legs):
                for j in range(i + 1, flight.legs + 1):
                    expected = [owned.get((i, j, c), 0) for c in range(flight.classes)]
                    self.assertEqual(answers_of(house, [11, flight.num, flight.day, i, j])[1:], [0] + expected)
                    for c in range(flight.classes):
                        answer = answers_of(house, [10, flight.num, flight.day, i, j, c])[1:]
                        self.assertEqual(answer, [0, room_left(flight, owned, i, j, c)])
        waiting = []
        for record in house.records:
            for k, part in enumerate(record.content.parts):
                if part.status == 1:
                    waiting.append((part.turn, record.place, k + 1))
        spots = [number for spot in sorted(waiting) for number in spot[1:]]
        self.assertEqual(answers_of(house, [9])[1:], [0] + spots)
        for letter in "AC":
            places = [r.place for r in house.records if any(name.last == letter for name in r.content.names)]
            self.assertEqual(answers_of(house, [8, 1, ord(letter)])[1:], [0] + places)
        for record in house.records:
            letters = [ord(letter) for letter in locator(record.place)]
            self.assertEqual(answers_of(house, [12, record.place])[1:], [0] + letters)
            rows = [number for row in record.history for number in row]
            self.assertEqual(answers_of(house, row_call([7], letters))[1:], [0] + rows)
        self.assertEqual(seen(house), before)

    def run_of_calls(self, seed):
        chance = random.Random(seed)
        house = House()
        for num, day, classes, capacities in FLIGHTS:
            answers_of(house, row_call([1, num, day, len(capacities), classes], capacities))
        told = set()
        for step in range(195):
            before = seen(house)
            call = some_call(chance, house)
            answer = answers_of(house, call)[1:]
            if answer[0] < 0 or (call[0] == 0 and answer[1] == 0):
                told.add(answer[0] if answer[0] < 0 else answer[2])
                self.assertEqual(seen(house), before)
            self.check(house)
            if step % 15 == 14:
                self.check_told(house)
        return told

    def test_runs(self):
        told = set()
        for seed in range(150):
            told |= self.run_of_calls(seed)
        # The runs are worth something only if they come upon the refusals.
        self.assertLessEqual({-4, -5, -7, -8, -9, -10, -11, -12, -13, -14, -15}, told)


if __name__ == "__main__":
    unittest.main()
