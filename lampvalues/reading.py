"""The messages that read values by their handles: 0AH, 0CH and 0EH."""

from lampvalues.wire import NO_ERROR, WRONG_PLACE, error_answer, length_error, number_at

VALUE = 0x0B
REST_OF_VALUE = 0x0D
SEVERAL_VALUES = 0x0F


def cut_to_fit(device, answer):
    return answer[:device.link.length]


def read_value(device, message):
    if len(message) != 3:
        return length_error(message)
    handle = number_at(message, 1)
    why = device.why_not_read(handle)
    if why != NO_ERROR:
        return error_answer(message, handle, why)
    return cut_to_fit(device, [VALUE] + device.attribute_at(handle).value)


def read_rest(device, message):
    if len(message) != 5:
        return length_error(message)
    handle = number_at(message, 1)
    place = number_at(message, 3)
    why = device.why_not_read(handle)
    if why != NO_ERROR:
        return error_answer(message, handle, why)
    value = device.attribute_at(handle).value
    if place > len(value):
        return error_answer(message, handle, WRONG_PLACE)
    return cut_to_fit(device, [REST_OF_VALUE] + value[place:])


def read_several(device, message):
    if len(message) < 5 or len(message) % 2 == 0:
        return length_error(message)
    answer = [SEVERAL_VALUES]
    for place in range(1, len(message), 2):
        handle = number_at(message, place)
        why = device.why_not_read(handle)
        if why != NO_ERROR:
            return error_answer(message, handle, why)
        answer.extend(device.attribute_at(handle).value)
    return cut_to_fit(device, answer)
