"""Messages: which one came, and its answer."""

from lampvalues.attribute import MOST_BYTES
from lampvalues.device import WRONG
from lampvalues.finding import find_kinds, find_value, read_by_kind, read_groups
from lampvalues.link import MOST_LENGTH
from lampvalues.reading import read_rest, read_several, read_value
from lampvalues.wire import NO_HANDLE, UNKNOWN_MESSAGE, error_answer, length_error, number_at, two_bytes
from lampvalues.writing import end_pieces, keep_piece, write_quietly, write_value

AGREE_LENGTH = 0x02
LENGTH_AGREED = 0x03
FIND_KINDS = 0x04
FIND_VALUE = 0x06
READ_BY_KIND = 0x08
READ_VALUE = 0x0A
READ_REST = 0x0C
READ_SEVERAL = 0x0E
READ_GROUPS = 0x10
WRITE_VALUE = 0x12
KEEP_PIECE = 0x16
END_PIECES = 0x18
CONFIRM = 0x1E
WRITE_QUIETLY = 0x52

BIT_6 = 0x40


def agree_length(device, message):
    if len(message) != 3:
        return length_error(message)
    device.link.take_length(number_at(message, 1))
    return [LENGTH_AGREED] + two_bytes(MOST_LENGTH)


def confirm_told(device, message):
    if len(message) == 1:
        device.link.take_confirm()
    return []


def answer_too_long(message):
    if message[0] & BIT_6 != 0 or message[0] == CONFIRM:
        return []
    return length_error(message)


def answer_unknown(message):
    if message[0] & BIT_6 != 0:
        return []
    return error_answer(message, NO_HANDLE, UNKNOWN_MESSAGE)


def answer_by_first(device, message):
    first = message[0]
    if first == AGREE_LENGTH:
        return agree_length(device, message)
    if first == FIND_KINDS:
        return find_kinds(device, message)
    if first == FIND_VALUE:
        return find_value(device, message)
    if first == READ_BY_KIND:
        return read_by_kind(device, message)
    if first == READ_VALUE:
        return read_value(device, message)
    if first == READ_REST:
        return read_rest(device, message)
    if first == READ_SEVERAL:
        return read_several(device, message)
    if first == READ_GROUPS:
        return read_groups(device, message)
    if first == WRITE_VALUE:
        return write_value(device, message)
    if first == KEEP_PIECE:
        return keep_piece(device, message)
    if first == END_PIECES:
        return end_pieces(device, message)
    if first == CONFIRM:
        return confirm_told(device, message)
    if first == WRITE_QUIETLY:
        return write_quietly(device, message)
    return answer_unknown(message)


def take_message(device, message):
    if len(message) > MOST_BYTES:
        return [WRONG]
    answer = []
    if len(message) > device.link.length:
        answer = answer_too_long(message)
    elif len(message) > 0:
        answer = answer_by_first(device, message)
    return [len(answer)] + answer
