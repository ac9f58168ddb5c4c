"""The entries that fetch, ignore, end and divide what is in hand.

Each answers the number of its refusal; else the place of the record that was ended or made, 0 if there is none.
"""

from agententries.records import (
    CONFIRMED, DIVIDED, NAMES_ADDED, PARTY, PART_ADDED, TICKETED, TIME_LIMIT, Content, Record, copied_part,
)
from agententries.refusals import (
    FULL, NOT_COMPLETE, NOT_TO_DIVIDE, NO_RECORD, NO_SUCH_PLACE, OLD_VERSION, WRONG_HAND, WRONG_SEATS,
)
from agententries.state import fetched_hand, record_with_locator

MOST_ROWS = 100


def fetch(house, agent, values):
    if house.hands[agent] is not None:
        return WRONG_HAND
    record = record_with_locator(house, values)
    if record is None:
        return NO_RECORD
    house.hands[agent] = fetched_hand(record)
    return 0


def ignore(house, agent):
    hand = house.hands[agent]
    if hand is None:
        return WRONG_HAND
    for part in hand.new_parts():
        if part.status == CONFIRMED:
            part.give_back(part.seats)
    house.hands[agent] = None
    return 0


def seats_are_wrong(hand, size):
    old = len(hand.fetched.parts)
    for k, part in enumerate(hand.content.parts):
        # A party may have become smaller than an old part; at the end the part follows it.
        if part.lives() and (part.seats < size or (k >= old and part.seats != size)):
            return True
    return False


def party_row_is_due(hand, size):
    return any([part.seats != size for part in hand.content.living_parts()])


def count_rows(hand):
    party = 1 if party_row_is_due(hand, len(hand.content.names)) else 0
    return len(hand.log) + party


def end_refusal(house, hand):
    size = len(hand.content.names)
    if hand.is_outdated():
        return OLD_VERSION
    if size == 0 or (hand.record is None and hand.content.living_parts() == []):
        return NOT_COMPLETE
    if seats_are_wrong(hand, size):
        return WRONG_SEATS
    if hand.record is None:
        return FULL if house.is_full() else 0
    return FULL if len(hand.record.history) + count_rows(hand) > MOST_ROWS else 0


def give_numbers(house, change):
    if change.what == NAMES_ADDED:
        for name in change.added:
            house.last_passenger += 1
            name.number = house.last_passenger
    if change.what == PART_ADDED:
        for part in change.added:
            house.last_turn += 1
            part.turn = house.last_turn


def add_rows(house, agent, hand, record):
    for change in hand.log:
        give_numbers(house, change)
        record.add_row(house.today, agent, change.what, change.number)
    size = len(hand.content.names)
    if party_row_is_due(hand, size):
        record.add_row(house.today, agent, PARTY, size)


def give_back_old_seats(hand, size):
    for old, part in zip(hand.fetched.parts, hand.content.parts):
        if old.status == CONFIRMED:
            old.give_back(old.seats - (size if part.lives() else 0))


def made_record(house, content):
    record = Record(len(house.records) + 1, content)
    house.records.append(record)
    return record


def end(house, agent):
    hand = house.hands[agent]
    if hand is None:
        return WRONG_HAND
    refusal = end_refusal(house, hand)
    if refusal != 0:
        return refusal
    record = hand.record
    if record is None:
        record = made_record(house, hand.content)
    elif count_rows(hand) > 0:
        record.version += 1
    add_rows(house, agent, hand, record)
    size = len(hand.content.names)
    give_back_old_seats(hand, size)
    for part in hand.content.living_parts():
        part.seats = size
    record.content = hand.content
    house.hands[agent] = None
    return record.place


def divide_refusal(house, hand, places):
    if hand.record is None or hand.log != []:
        return NOT_TO_DIVIDE
    if hand.is_outdated():
        return OLD_VERSION
    size = len(hand.record.content.names)
    if max(places) > size:
        return NO_SUCH_PLACE
    if len(places) == size:
        return NOT_TO_DIVIDE
    if house.is_full() or len(hand.record.history) >= MOST_ROWS:
        return FULL
    return 0


def divided_content(content, places):
    """The content of the names at these places, with a share of each living part."""
    names = [content.names[place - 1] for place in places]
    parts = [copied_part(part) for part in content.living_parts()]
    for part in parts:
        part.seats = len(names)
    return Content(names, parts, content.limit, content.ticketed)


def add_first_rows(record, day, agent):
    content = record.content
    record.add_row(day, agent, NAMES_ADDED, len(content.names))
    for part in content.parts:
        record.add_row(day, agent, PART_ADDED, part.seats)
    if content.limit is not None:
        record.add_row(day, agent, TIME_LIMIT, content.limit)
    if content.ticketed:
        record.add_row(day, agent, TICKETED, 0)


def take_share_away(content, places):
    content.names = [name for k, name in enumerate(content.names, start=1) if k not in places]
    for part in content.living_parts():
        part.seats -= len(places)


def divide(house, agent, places):
    hand = house.hands[agent]
    if hand is None:
        return WRONG_HAND
    refusal = divide_refusal(house, hand, places)
    if refusal != 0:
        return refusal
    parent = hand.record
    child = made_record(house, divided_content(parent.content, places))
    add_first_rows(child, house.today, agent)
    take_share_away(parent.content, places)
    parent.version += 1
    parent.add_row(house.today, agent, DIVIDED, len(places))
    house.hands[agent] = None
    return child.place
