"""The calls on a house, and the one function that answers a list of them."""

from agententries.entries import do_entries
from agententries.flights import Flight, segment_refusal
from agententries.reading import read_text
from agententries.records import answered_content, answered_history, locator_of
from agententries.refusals import (
    DAY_IS_PAST, FULL, NOT_ENTRIES, NO_RECORD, NO_SEGMENT, OUT_OF_RANGE, WRONG_FLIGHT,
)
from agententries.state import House, record_with_locator
from agententries.upkeep import confirm_waiting, lapse_records, waiting_line

MOST_FLIGHTS = 24

AGENT = (0, 3)
BYTE = (0, 255)
NUM = (1, 9999)
DAY = (0, 36524)
LEGS = (1, 4)
CLASSES = (1, 12)
LEG = (0, 3)
LIMIT = (0, 999)
START = (0, 3)
END = (1, 4)
CLASS = (0, 11)
PLACE = (1, 40)
TEXT_LENGTH = (1, 120)
LOCATOR_LENGTH = (6, 6)
BEGINNING_LENGTH = (0, 12)


def within(number, bounds):
    return bounds[0] <= number <= bounds[1]


def each_within(numbers, ranges):
    return all([within(number, bounds) for number, bounds in zip(numbers, ranges)])


def row_is_good(row, length, bounds):
    return within(len(row), length) and all([within(number, bounds) for number in row])


def call_entry(house, numbers, row):
    if not within(numbers[0], AGENT) or not row_is_good(row, TEXT_LENGTH, BYTE):
        return [OUT_OF_RANGE]
    entries = read_text(row)
    if entries is None:
        return [NOT_ENTRIES]
    return [0] + do_entries(house, numbers[0], entries)


def call_new_flight(house, numbers, row):
    if not each_within(numbers, (NUM, DAY, LEGS, CLASSES)):
        return [OUT_OF_RANGE]
    if not row_is_good(row, (numbers[2], numbers[2]), LIMIT):
        return [OUT_OF_RANGE]
    key = (numbers[0], numbers[1])
    if key in house.flights:
        return [WRONG_FLIGHT]
    if len(house.flights) >= MOST_FLIGHTS:
        return [FULL]
    house.flights[key] = Flight(numbers[0], numbers[1], numbers[3], row)
    return [0]


def call_limits(house, numbers, row):
    if not each_within(numbers, (NUM, DAY, LEG)) or not row_is_good(row, CLASSES, LIMIT):
        return [OUT_OF_RANGE]
    flight = house.flights.get((numbers[0], numbers[1]))
    if flight is None:
        return [WRONG_FLIGHT]
    if numbers[2] >= flight.legs or len(row) != flight.classes:
        return [NO_SEGMENT]
    flight.limits[numbers[2]] = list(row)
    return [0]


def call_clock(house, numbers, row):
    if not within(numbers[0], DAY):
        return [OUT_OF_RANGE]
    if numbers[0] < house.today:
        return [DAY_IS_PAST]
    house.today = numbers[0]
    return [0] + lapse_records(house)


def call_clear(house, numbers, row):
    return [0] + confirm_waiting(house)


def call_record(house, numbers, row):
    if not row_is_good(row, LOCATOR_LENGTH, BYTE):
        return [OUT_OF_RANGE]
    record = record_with_locator(house, row)
    if record is None:
        return [NO_RECORD]
    return [0, record.version] + answered_content(record.content)


def call_hand(house, numbers, row):
    if not within(numbers[0], AGENT):
        return [OUT_OF_RANGE]
    hand = house.hands[numbers[0]]
    if hand is None:
        return [0, 0]
    place = 0 if hand.record is None else hand.record.place
    return [0, 1, place] + answered_content(hand.content)


def call_history(house, numbers, row):
    if not row_is_good(row, LOCATOR_LENGTH, BYTE):
        return [OUT_OF_RANGE]
    record = record_with_locator(house, row)
    if record is None:
        return [NO_RECORD]
    return [0] + answered_history(record.history)


def call_find(house, numbers, row):
    if not row_is_good(row, BEGINNING_LENGTH, BYTE):
        return [OUT_OF_RANGE]
    return [0] + [record.place for record in house.records if record.content.has_last_name(row)]


def call_line(house, numbers, row):
    answer = [0]
    for spot in waiting_line(house):
        answer.extend([spot[1], spot[2]])
    return answer


def call_room(house, numbers, row):
    if not each_within(numbers, (NUM, DAY, START, END, CLASS)):
        return [OUT_OF_RANGE]
    flight = house.flights.get((numbers[0], numbers[1]))
    segment = (numbers[2], numbers[3], numbers[4])
    refusal = segment_refusal(flight, segment)
    if refusal != 0:
        return [refusal]
    return [0, flight.room(segment)]


def call_sold(house, numbers, row):
    if not each_within(numbers, (NUM, DAY, START, END)):
        return [OUT_OF_RANGE]
    flight = house.flights.get((numbers[0], numbers[1]))
    # Class 0 stands for all of them: every flight has it.
    refusal = segment_refusal(flight, (numbers[2], numbers[3], 0))
    if refusal != 0:
        return [refusal]
    return [0] + flight.sold_by_class(numbers[2], numbers[3])


def call_locator(house, numbers, row):
    if not within(numbers[0], PLACE):
        return [OUT_OF_RANGE]
    if len(house.records) < numbers[0]:
        return [NO_RECORD]
    return [0] + locator_of(numbers[0])


CALLS = (
    call_entry, call_new_flight, call_limits, call_clock, call_clear, call_record, call_hand,
    call_history, call_find, call_line, call_room, call_sold, call_locator,
)
# How many plain numbers each call has, and how many rows behind them.
NUMBERS = (1, 4, 3, 1, 0, 0, 1, 0, 0, 0, 5, 4, 1)
ROWS = (1, 1, 1, 0, 0, 1, 0, 1, 1, 0, 0, 0, 0)


def answers_of(house, calls):
    answered = []
    at = 0
    while at < len(calls):
        call = calls[at]
        behind = at + 1 + NUMBERS[call]
        numbers = calls[at + 1:behind]
        row = []
        if ROWS[call] == 1:
            row = calls[behind + 1:behind + 1 + calls[behind]]
            behind += 1 + len(row)
        answer = CALLS[call](house, numbers, row)
        answered.append(len(answer))
        answered.extend(answer)
        at = behind
    return answered


def answers(calls):
    """What a new house answers to these calls: for each how many numbers, then these."""
    return answers_of(House(), calls)
