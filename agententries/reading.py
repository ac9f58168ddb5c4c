"""Reading an agent's text: the entries that it is made of, or that it is none."""

FIRST_SIGN = 42
SIGNS = "*+,-./0123456789:;<=>?@ABCDEFGHIJKLMNOPQRSTUVWXYZ"
# A byte that stands in no entry becomes this sign, which no entry takes.
NO_SIGN = " "

LONGEST_NUMBER = 5
LONGEST_NAME = 12
LOCATOR_LENGTH = 6
LAST_DAY = 36524


def sign_of(byte):
    if byte < FIRST_SIGN or byte >= FIRST_SIGN + len(SIGNS):
        return NO_SIGN
    return SIGNS[byte - FIRST_SIGN]


def read_number(text, low, high):
    if not text.isdigit() or len(text) > LONGEST_NUMBER:
        return None
    if text[0] == "0" and len(text) > 1:
        return None
    number = int(text)
    return number if low <= number <= high else None


def read_class(text):
    if len(text) != 1 or text < "A" or text > "L":
        return None
    return ord(text) - ord("A")


def is_name(text):
    return text.isalpha() and len(text) <= LONGEST_NAME


def read_names(text):
    count = read_number(text[:1], 1, 9)
    names = text[1:].split("/")
    if count is None or len(names) != count + 1:
        return None
    return names if all([is_name(name) for name in names]) else None


def read_name_place(text):
    place = read_number(text, 1, 9)
    return None if place is None else [place]


def read_segment(text):
    fields = text.split(",")
    if len(fields) != 6:
        return None
    values = [
        read_number(fields[0], 1, 9),
        read_number(fields[1], 1, 9999),
        read_number(fields[2], 0, LAST_DAY),
        read_class(fields[3]),
        read_number(fields[4], 0, 3),
        read_number(fields[5], 1, 4),
    ]
    return None if None in values else values


def read_part_place(text):
    # XA names no part: an empty list stands for all of them.
    if text == "A":
        return []
    place = read_number(text, 1, 8)
    return None if place is None else [place]


def read_day(text):
    day = read_number(text, 0, LAST_DAY)
    return None if day is None else [day]


def read_nothing(text):
    return [] if text == "" else None


def read_locator(text):
    if len(text) != LOCATOR_LENGTH or not text.isalpha():
        return None
    return [ord(letter) for letter in text]


def read_rising(text):
    places = [read_number(field, 1, 9) for field in text.split(",")]
    if None in places:
        return None
    for k in range(1, len(places)):
        if places[k] <= places[k - 1]:
            return None
    return places


READERS = {
    "N": read_names,
    "-": read_name_place,
    "S": read_segment,
    "W": read_segment,
    "X": read_part_place,
    "T": read_day,
    "K": read_nothing,
    "E": read_nothing,
    "I": read_nothing,
    "*": read_locator,
    "D": read_rising,
}


def read_entry(text):
    """A tuple of the entry's sign and the list of what stands behind it; None if it is no entry."""
    sign = text[:1]
    if sign not in READERS:
        return None
    values = READERS[sign](text[1:])
    return None if values is None else (sign, values)


def read_text(numbers):
    """The text's entries in order; None if one of them is no entry."""
    text = "".join([sign_of(byte) for byte in numbers])
    entries = [read_entry(piece) for piece in text.split(";")]
    return None if None in entries else entries
