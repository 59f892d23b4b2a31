"""Writes calls as lists of numbers and takes the answers apart."""

from lampvalues.desk import answers

LEAST = -2147483648
GREATEST = 2147483647
KIND = [0, 42]


def add(most, rights, value, kind=KIND):
    return [1, most, rights, len(kind), *kind, len(value), *value]


def put(handle, value):
    return [2, handle, len(value), *value]


def get(handle):
    return [3, handle]


def joined(calls):
    return [number for call in calls for number in call]


def parted(given):
    parts = []
    place = 0
    while place < len(given):
        if given[place] < 1:
            raise ValueError("an answer has no number")
        end = place + 1 + given[place]
        if end > len(given):
            raise ValueError("the last answer is cut off")
        parts.append(given[place + 1:end])
        place = end
    return parts


def told(*calls):
    return parted(answers(joined(calls)))
