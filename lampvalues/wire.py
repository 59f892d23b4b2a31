"""What all messages share: numbers of two bytes, and errors."""

ERROR = 0x01

NO_HANDLE = 0

NO_ERROR = 0
NOT_THERE = 1
NOT_READ = 2
NOT_WRITTEN = 3
WRONG_MESSAGE_LENGTH = 4
NOT_SAFE = 5
UNKNOWN_MESSAGE = 6
WRONG_PLACE = 7
TOO_MANY_PIECES = 9
NONE_FOUND = 10
WRONG_VALUE_LENGTH = 13
NO_KIND_OF_GROUP = 16


def two_bytes(number):
    return [number % 256, number // 256]


def number_at(message, place):
    return message[place] + 256 * message[place + 1]


def error_answer(message, handle, why):
    return [ERROR, message[0]] + two_bytes(handle) + [why]


def length_error(message):
    return error_answer(message, NO_HANDLE, WRONG_MESSAGE_LENGTH)
