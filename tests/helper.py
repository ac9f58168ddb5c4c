"""What the tests share: calls as lists of numbers, answers one by one, and a desk to ask at."""

from agententries.house import answers, answers_of
from agententries.state import House


def numbers_of(text):
    return list(text.encode("latin-1"))


def entry_call(agent, text):
    return row_call([0, agent], numbers_of(text))


def row_call(first, row):
    return list(first) + [len(row)] + list(row)


def separated(answered):
    """The answers of a list, one list for each call."""
    found = []
    at = 0
    while at < len(answered):
        found.append(answered[at + 1:at + 1 + answered[at]])
        assert len(found[-1]) == answered[at]
        at += 1 + answered[at]
    return found


def locator(place):
    x = ((place - 1) * 151234571 + 77777777) % 26 ** 6
    return "".join("ABCDEFGHIJKLMNOPQRSTUVWXYZ"[x // 26 ** power % 26] for power in (5, 4, 3, 2, 1, 0))


def content(limit=None, ticketed=False, names=(), parts=()):
    """A content as it is answered: names as (id, last, first), parts as (num, day, i, j, c, status, n)."""
    numbers = [0 if limit is None else limit + 1, int(ticketed), len(names)]
    for number, last, first in names:
        numbers += [number, len(last)] + numbers_of(last) + [len(first)] + numbers_of(first)
    numbers.append(len(parts))
    for part in parts:
        numbers += part
    return numbers


class Desk:
    """Keeps a list of calls; each answer comes from a run of the whole list."""

    def __init__(self):
        self.calls = []

    def peek(self, call):
        """The answer to this call, which is then forgotten."""
        return separated(answers(self.calls + call))[-1]

    def ask(self, call):
        answer = self.peek(call)
        self.calls += call
        return answer

    def enter(self, agent, text):
        return self.ask(entry_call(agent, text))

    def flight(self, num, day, classes, capacities):
        return self.ask(row_call([1, num, day, len(capacities), classes], capacities))

    def limits(self, num, day, leg, limits):
        return self.ask(row_call([2, num, day, leg], limits))

    def clock(self, day):
        return self.ask([3, day])

    def clear(self):
        return self.ask([4])

    def record(self, place):
        return self.peek(row_call([5], numbers_of(locator(place))))

    def hand(self, agent):
        return self.peek([6, agent])

    def history(self, place):
        """The rows of the record at this place, four numbers each."""
        answer = self.peek(row_call([7], numbers_of(locator(place))))
        assert answer[0] == 0 and len(answer) % 4 == 1
        return [tuple(answer[at:at + 4]) for at in range(1, len(answer), 4)]

    def find(self, beginning):
        return self.peek(row_call([8], numbers_of(beginning)))

    def line(self):
        return self.peek([9])

    def room_told(self, num, day, i, j, c):
        return self.peek([10, num, day, i, j, c])

    def sold(self, num, day, i, j):
        return self.peek([11, num, day, i, j])

    def locator(self, k):
        return self.peek([12, k])

    def room(self, segment):
        """How many seats an agent with nothing in hand could take of it, at most 9. segment: as in S, behind n."""
        for n in range(1, 10):
            if self.peek(entry_call(3, f"S{n},{segment}")) != [0, 1, 0]:
                assert self.peek(entry_call(3, f"S{n},{segment}")) == [0, 0, -8]
                return n - 1
        return 9

    def house(self):
        """The house as these calls leave it."""
        house = House()
        answers_of(house, self.calls)
        return house


def ended(count, place):
    """The answer to a text whose entries were all done and whose last E or D was of the record at this place."""
    return [0, count, 0] + numbers_of(locator(place))


def fill_records(desk, count):
    """Makes this many records of a name and a part that waits on flight 1 of day 0."""
    one = "N1A/B;W1,1,0,A,0,1;E"
    for start in range(0, count, 5):
        desk.enter(3, ";".join([one] * min(5, count - start)))


def fill_history(desk, rows):
    """Makes record 1, of two names, a confirmed part and the time limit 1, with this many rows."""
    desk.enter(0, "N2A/B/C;S2,1,0,A,0,1;T1;E")
    there = 3
    while there < rows:
        more = min(30, rows - there)
        desk.enter(0, f"*{locator(1)};{';'.join(['T1'] * more)}")
        assert desk.enter(0, "E") == ended(1, 1)
        there += more
    assert len(desk.history(1)) == rows
