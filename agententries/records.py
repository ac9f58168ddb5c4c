"""Passenger records: names, parts, contents, histories and locators."""

CONFIRMED = 0
WAITING = 1
CANCELLED = 2

NAMES_ADDED = 1
NAME_TAKEN_OUT = 2
PART_ADDED = 3
PART_CANCELLED = 4
PART_CONFIRMED = 5
PARTY = 6
TIME_LIMIT = 7
TICKETED = 8
DIVIDED = 9

LOCATOR_STEP = 151234571
LOCATOR_START = 77777777
LOCATOR_COUNT = 308915776
LETTER_A = 65


class Name:
    """A passenger; the number is the id, 0 as long as there is none."""

    def __init__(self, number, last, first):
        self.number = number
        self.last = last
        self.first = first


class Part:
    """Seats on a segment of a flight; the turn is 0 as long as there is none."""

    def __init__(self, flight, segment, status, seats, turn):
        self.flight = flight
        self.segment = segment
        self.status = status
        self.seats = seats
        self.turn = turn

    def lives(self):
        return self.status != CANCELLED

    def room(self):
        return self.flight.room(self.segment)

    def sell(self, seats):
        self.flight.sell(self.segment, seats)

    def give_back(self, seats):
        self.flight.give_back(self.segment, seats)


class Content:
    """What a record says; the limit is a day or None."""

    def __init__(self, names, parts, limit, ticketed):
        self.names = names
        self.parts = parts
        self.limit = limit
        self.ticketed = ticketed

    def has_last_name(self, beginning):
        return any([bytes_of(name.last)[:len(beginning)] == beginning for name in self.names])

    def living_parts(self):
        return [part for part in self.parts if part.lives()]


class Record:
    """A content at its place, with its version and its history of rows (day, who, what, number)."""

    def __init__(self, place, content):
        self.place = place
        self.content = content
        self.version = 1
        self.history = []

    def add_row(self, day, who, what, number):
        self.history.append((day, who, what, number))


def empty_content():
    return Content([], [], None, False)


def copied_part(part):
    return Part(part.flight, part.segment, part.status, part.seats, part.turn)


def copied_content(content):
    # Names need no copy: once a name stands in a record nothing about it changes.
    parts = [copied_part(part) for part in content.parts]
    return Content(list(content.names), parts, content.limit, content.ticketed)


def locator_of(place):
    rest = ((place - 1) * LOCATOR_STEP + LOCATOR_START) % LOCATOR_COUNT
    letters = []
    while len(letters) < 6:
        letters.insert(0, LETTER_A + rest % 26)
        rest = rest // 26
    return letters


def bytes_of(text):
    return [ord(letter) for letter in text]


def answered_name(name):
    last = bytes_of(name.last)
    first = bytes_of(name.first)
    return [name.number, len(last)] + last + [len(first)] + first


def answered_part(part):
    return [part.flight.num, part.flight.day] + list(part.segment) + [part.status, part.seats]


def answered_content(content):
    answer = [0 if content.limit is None else content.limit + 1, 1 if content.ticketed else 0]
    answer.append(len(content.names))
    for name in content.names:
        answer.extend(answered_name(name))
    answer.append(len(content.parts))
    for part in content.parts:
        answer.extend(answered_part(part))
    return answer


def answered_history(history):
    answer = []
    for row in history:
        answer.extend(row)
    return answer
