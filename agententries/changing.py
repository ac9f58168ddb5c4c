"""The entries that change what is in hand: names, parts, the time limit, ticketing.

Each answers 0 if it was done, else the number of its refusal.
"""

from agententries.flights import segment_refusal
from agententries.records import (
    CANCELLED, CONFIRMED, NAMES_ADDED, NAME_TAKEN_OUT, PART_ADDED, PART_CANCELLED, TICKETED, TIME_LIMIT, WAITING,
    Name, Part,
)
from agententries.refusals import DAY_IS_PAST, FULL, NO_ROOM, NO_SUCH_PLACE, WRONG_HAND
from agententries.state import new_hand

MOST_CHANGES = 30
MOST_NAMES = 9
MOST_PARTS = 8


def hand_or_new(house, agent):
    # The new one is put in hand only when its first entry is done: a refused entry begins nothing.
    hand = house.hands[agent]
    return new_hand() if hand is None else hand


def log_is_full(hand):
    return len(hand.log) >= MOST_CHANGES


def add_names(house, agent, values):
    hand = hand_or_new(house, agent)
    names = [Name(0, values[0], first) for first in values[1:]]
    if log_is_full(hand) or len(hand.content.names) + len(names) > MOST_NAMES:
        return FULL
    house.hands[agent] = hand
    hand.content.names.extend(names)
    hand.note(NAMES_ADDED, len(names), names)
    return 0


def take_out_name(house, agent, values):
    hand = house.hands[agent]
    if hand is None:
        return WRONG_HAND
    if log_is_full(hand):
        return FULL
    if values[0] > len(hand.content.names):
        return NO_SUCH_PLACE
    hand.content.names.pop(values[0] - 1)
    hand.note(NAME_TAKEN_OUT, values[0], [])
    return 0


def flight_of(house, values):
    return house.flights.get((values[1], values[2]))


def segment_of(values):
    return (values[4], values[5], values[3])


def part_refusal(house, hand, values):
    if log_is_full(hand) or len(hand.content.parts) >= MOST_PARTS:
        return FULL
    return segment_refusal(flight_of(house, values), segment_of(values))


def add_part(house, agent, hand, part):
    house.hands[agent] = hand
    hand.content.parts.append(part)
    hand.note(PART_ADDED, part.seats, [part])


def sell_part(house, agent, values):
    hand = hand_or_new(house, agent)
    refusal = part_refusal(house, hand, values)
    if refusal != 0:
        return refusal
    part = Part(flight_of(house, values), segment_of(values), CONFIRMED, values[0], 0)
    if part.room() < part.seats:
        return NO_ROOM
    part.sell(part.seats)
    add_part(house, agent, hand, part)
    return 0


def wait_for_part(house, agent, values):
    hand = hand_or_new(house, agent)
    refusal = part_refusal(house, hand, values)
    if refusal != 0:
        return refusal
    add_part(house, agent, hand, Part(flight_of(house, values), segment_of(values), WAITING, values[0], 0))
    return 0


def cancel_part(hand, place):
    part = hand.content.parts[place - 1]
    # The record still holds an old part's seats: they are given back when it is ended.
    if place > len(hand.fetched.parts) and part.status == CONFIRMED:
        part.give_back(part.seats)
    part.status = CANCELLED
    hand.note(PART_CANCELLED, place, [])


def cancel(house, agent, values):
    hand = house.hands[agent]
    if hand is None:
        return WRONG_HAND
    if log_is_full(hand):
        return FULL
    living = [k for k, part in enumerate(hand.content.parts, start=1) if part.lives()]
    places = living if values == [] else [k for k in living if k == values[0]]
    if places == []:
        return NO_SUCH_PLACE
    for place in places:
        cancel_part(hand, place)
    return 0


def set_time_limit(house, agent, values):
    hand = hand_or_new(house, agent)
    if log_is_full(hand):
        return FULL
    if values[0] < house.today:
        return DAY_IS_PAST
    house.hands[agent] = hand
    hand.content.limit = values[0]
    hand.note(TIME_LIMIT, values[0], [])
    return 0


def set_ticketed(house, agent):
    hand = hand_or_new(house, agent)
    if log_is_full(hand):
        return FULL
    house.hands[agent] = hand
    hand.content.ticketed = True
    hand.note(TICKETED, 0, [])
    return 0
