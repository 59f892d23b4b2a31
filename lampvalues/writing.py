"""The messages that write values: 12H, 16H, 18H and 52H."""

from lampvalues.link import Piece
from lampvalues.wire import NO_ERROR, TOO_MANY_PIECES, WRONG_PLACE, WRONG_VALUE_LENGTH
from lampvalues.wire import error_answer, length_error, number_at

WRITTEN = 0x13
WAITING = 0x17
PIECES_DONE = 0x19

FORGET = 0
LAY = 1


def write_value(device, message):
    if len(message) < 3:
        return length_error(message)
    handle = number_at(message, 1)
    why = device.why_not_written(handle)
    if why != NO_ERROR:
        return error_answer(message, handle, why)
    attribute = device.attribute_at(handle)
    value = message[3:]
    if not attribute.can_have(value):
        return error_answer(message, handle, WRONG_VALUE_LENGTH)
    attribute.value = value
    return [WRITTEN]


def write_quietly(device, message):
    if len(message) < 3:
        return []
    handle = number_at(message, 1)
    if device.is_written_quietly(handle):
        # What can't be is refused by the device, and nobody is told.
        device.set_value(handle, message[3:])
    return []


def keep_piece(device, message):
    if len(message) < 5:
        return length_error(message)
    handle = number_at(message, 1)
    why = device.why_not_written(handle)
    if why != NO_ERROR:
        return error_answer(message, handle, why)
    if device.link.is_full():
        return error_answer(message, handle, TOO_MANY_PIECES)
    device.link.take_piece(Piece(handle, number_at(message, 3), message[5:]))
    return [WAITING] + message[1:]


def laid_over(value, piece):
    end = piece.place + len(piece.value)
    return value[:piece.place] + piece.value + value[end:]


def lay_piece(device, laid, piece):
    # The handle was there when the piece came, and no attribute ever goes away.
    attribute = device.attribute_at(piece.handle)
    value = laid.get(piece.handle, attribute.value)
    if piece.place > len(value):
        return WRONG_PLACE
    value = laid_over(value, piece)
    if len(value) > attribute.most:
        return WRONG_VALUE_LENGTH
    laid[piece.handle] = value
    return NO_ERROR


def lay_pieces(device, message, pieces):
    # The values are changed only when every piece is laid, as an error leaves them as they were.
    laid = {}
    for piece in pieces:
        why = lay_piece(device, laid, piece)
        if why != NO_ERROR:
            return error_answer(message, piece.handle, why)
    for piece in pieces:
        if not device.attribute_at(piece.handle).can_have(laid[piece.handle]):
            return error_answer(message, piece.handle, WRONG_VALUE_LENGTH)
    for handle in laid:
        attribute = device.attribute_at(handle)
        attribute.value = laid[handle]
    return [PIECES_DONE]


def end_pieces(device, message):
    if len(message) != 2 or (message[1] != FORGET and message[1] != LAY):
        return length_error(message)
    pieces = device.link.give_up_pieces()
    if message[1] == FORGET:
        return [PIECES_DONE]
    return lay_pieces(device, message, pieces)
