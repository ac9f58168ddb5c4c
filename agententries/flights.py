"""Flights: their limits, the seats sold of their segments, and the room that is left."""

from agententries.refusals import NO_SEGMENT, WRONG_FLIGHT


class Flight:
    """A flight with a leg for each capacity. A segment is a tuple (i, j, c)."""

    def __init__(self, num, day, classes, capacities):
        self.num = num
        self.day = day
        self.legs = len(capacities)
        self.classes = classes
        self.limits = [[capacity] * classes for capacity in capacities]
        self.sold = {}

    def has_segment(self, segment):
        return segment[0] < segment[1] and segment[1] <= self.legs and segment[2] < self.classes

    def load(self, leg, c):
        seats = 0
        for i in range(leg + 1):
            for j in range(leg + 1, self.legs + 1):
                seats += self.sold.get((i, j, c), 0)
        return seats

    def nest(self, leg, k):
        return sum([self.load(leg, c) for c in range(k, self.classes)])

    def room_on_leg(self, leg, c):
        # A limit may have been set below what was sold already: there is no room then, not less than none.
        return max(0, min([self.limits[leg][k] - self.nest(leg, k) for k in range(c + 1)]))

    def room(self, segment):
        return min([self.room_on_leg(leg, segment[2]) for leg in range(segment[0], segment[1])])

    def sold_by_class(self, i, j):
        return [self.sold.get((i, j, c), 0) for c in range(self.classes)]

    def sell(self, segment, seats):
        self.sold[segment] = self.sold.get(segment, 0) + seats

    def give_back(self, segment, seats):
        self.sold[segment] = self.sold[segment] - seats


def segment_refusal(flight, segment):
    """Why there is no such segment: the number of the refusal, 0 if there is one. flight: None if there is none."""
    if flight is None:
        return WRONG_FLIGHT
    return 0 if flight.has_segment(segment) else NO_SEGMENT
