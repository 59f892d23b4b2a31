"""Writes calls and messages as lists of numbers and takes the answers apart."""

from lampvalues.desk import answers

LEAST = -2147483648
GREATEST = 2147483647
KIND = [0, 42]
OTHER = [1, 42]
SERVICE = [0x00, 0x28]
SECOND = [0x01, 0x28]
NOTHING = [0]


def add(most, rights, value, kind=KIND):
    return [1, most, rights, len(kind), *kind, len(value), *value]


def put(handle, value):
    return [2, handle, len(value), *value]


def get(handle):
    return [3, handle]


def message(numbers):
    return [4, len(numbers), *numbers]


def tell(handle, confirm):
    return [5, handle, confirm]


def link(safe):
    return [6, safe]


def two(number):
    return [number % 256, number // 256]


def long(kind):
    return [0xFB, 0x34, 0x9B, 0x5F, 0x80, 0, 0, 0x80, 0, 0x10, 0, 0, *kind, 0, 0]


def agree(length):
    return message([0x02, *two(length)])


def find_kinds(first, last):
    return message([0x04, *two(first), *two(last)])


def find_value(first, last, kind, value):
    return message([0x06, *two(first), *two(last), *kind, *value])


def by_kind(first, last, kind):
    return message([0x08, *two(first), *two(last), *kind])


def groups(first, last, kind):
    return message([0x10, *two(first), *two(last), *kind])


def read(handle):
    return message([0x0A, *two(handle)])


def rest(handle, place):
    return message([0x0C, *two(handle), *two(place)])


def several(*handles):
    return message([0x0E, *joined(two(handle) for handle in handles)])


def write(handle, value):
    return message([0x12, *two(handle), *value])


def piece(handle, place, value):
    return message([0x16, *two(handle), *two(place), *value])


def end(how):
    return message([0x18, how])


def confirm():
    return message([0x1E])


def quiet(handle, value):
    return message([0x52, *two(handle), *value])


def answer(*numbers):
    return [len(numbers), *numbers]


def error(first, handle, why):
    return [5, 1, first, *two(handle), why]


def refusal(rights, right, without, safe):
    """The error told of an attribute with these rights, where one is asked for; 0 if there's none."""
    if not rights & right:
        return without
    if rights & 8 and not safe:
        return 5
    return 0


def read_error(rights, safe):
    return refusal(rights, 1, 2, safe)


def write_error(rights, safe):
    return refusal(rights, 2, 3, safe)


def counted(length, start=0):
    return [(start + number) % 256 for number in range(length)]


def joined(calls):
    return [number for call in calls for number in call]


def parted(given):
    parts = []
    place = 0
    while place < len(given):
        if given[place] < 1:
            raise ValueError("an answer has no number")
        end = place + 1 + given[place]
        if end > len(given):
            raise ValueError("the last answer is cut off")
        parts.append(given[place + 1:end])
        place = end
    return parts


def told(*calls):
    return parted(answers(joined(calls)))


def last(*calls):
    return told(*calls)[-1]
