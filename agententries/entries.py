"""Doing the entries of a text one after the other, up to the first that is refused."""

from agententries.changing import (
    add_names, cancel, sell_part, set_ticketed, set_time_limit, take_out_name, wait_for_part,
)
from agententries.ending import divide, end, fetch, ignore
from agententries.records import locator_of


def do_entry(house, agent, entry):
    """Below 0: its refusal. Else the place of the record that it ended or made, 0 if there is none."""
    sign = entry[0]
    values = entry[1]
    if sign == "N":
        return add_names(house, agent, values)
    if sign == "-":
        return take_out_name(house, agent, values)
    if sign == "S":
        return sell_part(house, agent, values)
    if sign == "W":
        return wait_for_part(house, agent, values)
    if sign == "X":
        return cancel(house, agent, values)
    if sign == "T":
        return set_time_limit(house, agent, values)
    if sign == "K":
        return set_ticketed(house, agent)
    if sign == "I":
        return ignore(house, agent)
    if sign == "*":
        return fetch(house, agent, values)
    if sign == "E":
        return end(house, agent)
    return divide(house, agent, values)


def do_entries(house, agent, entries):
    """How many were done, the refusal of the next one or 0, and the last ended or made record's locator."""
    done = 0
    locator = []
    for entry in entries:
        result = do_entry(house, agent, entry)
        if result < 0:
            return [done, result] + locator
        if result > 0:
            locator = locator_of(result)
        done += 1
    return [done, 0] + locator
