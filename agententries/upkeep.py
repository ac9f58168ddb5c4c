"""What the house does by itself: records lapse by their time limits, waiting parts get seats."""

from agententries.records import CANCELLED, CONFIRMED, PART_CANCELLED, PART_CONFIRMED, WAITING

# Who stands in a row that no agent made.
THE_HOUSE = 4


def has_lapsed(content, today):
    if content.ticketed or content.limit is None:
        return False
    return content.limit < today and content.living_parts() != []


def cancel_living_parts(record, today):
    for k, part in enumerate(record.content.parts, start=1):
        if part.status == CONFIRMED:
            part.give_back(part.seats)
        if part.lives():
            part.status = CANCELLED
            record.add_row(today, THE_HOUSE, PART_CANCELLED, k)


def lapse_records(house):
    """The places of the records that lapsed."""
    lapsed = [record for record in house.records if has_lapsed(record.content, house.today)]
    for record in lapsed:
        cancel_living_parts(record, house.today)
        record.version += 1
    return [record.place for record in lapsed]


def waiting_line(house):
    """A tuple (turn, place of the record, place of the part) for each waiting part of a record, in order."""
    line = []
    for record in house.records:
        for k, part in enumerate(record.content.parts, start=1):
            if part.status == WAITING:
                line.append((part.turn, record.place, k))
    return sorted(line)


def confirm_waiting(house):
    """The places of the records and of their parts that were confirmed, in order."""
    confirmed = []
    for spot in waiting_line(house):
        record = house.records[spot[1] - 1]
        part = record.content.parts[spot[2] - 1]
        if part.room() >= part.seats:
            part.sell(part.seats)
            part.status = CONFIRMED
            record.add_row(house.today, THE_HOUSE, PART_CONFIRMED, spot[2])
            record.version += 1
            confirmed.extend([record.place, spot[2]])
    return confirmed
