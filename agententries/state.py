"""What the house holds: flights, records, what the agents have in hand, the day and the last numbers given."""

from agententries.records import copied_content, empty_content, locator_of

AGENTS = 4
MOST_RECORDS = 40


class Change:
    """A change in a log, as its row will tell it; added are the names or the part that it brought."""

    def __init__(self, what, number, added):
        self.what = what
        self.number = number
        self.added = added


class Hand:
    """A working copy; the record is None where it is of no record."""

    def __init__(self, record, version, fetched):
        self.record = record
        self.version = version
        self.fetched = fetched
        self.content = copied_content(fetched)
        self.log = []

    def note(self, what, number, added):
        self.log.append(Change(what, number, added))

    def new_parts(self):
        return self.content.parts[len(self.fetched.parts):]

    def is_outdated(self):
        return self.record is not None and self.record.version != self.version


class House:
    """A new house: no flights, no records, nothing in hand."""

    def __init__(self):
        self.flights = {}
        self.records = []
        self.hands = [None] * AGENTS
        self.today = 0
        self.last_passenger = 0
        self.last_turn = 0

    def is_full(self):
        return len(self.records) >= MOST_RECORDS


def new_hand():
    return Hand(None, 0, empty_content())


def fetched_hand(record):
    return Hand(record, record.version, copied_content(record.content))


def record_with_locator(house, letters):
    for record in house.records:
        if locator_of(record.place) == letters:
            return record
    return None
