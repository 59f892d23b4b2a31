"""The messages that look for attributes within a range of handles: 04, 06, 08 and 10H."""

from lampvalues.attribute import SHORT_KIND, is_kind_of_group, long_form
from lampvalues.wire import NONE_FOUND, NOT_THERE, NO_ERROR, NO_KIND_OF_GROUP
from lampvalues.wire import error_answer, length_error, number_at, two_bytes

KINDS = 0x05
HANDLES = 0x07
VALUES = 0x09
GROUPS = 0x11

SHORT_KINDS = 1
LONG_KINDS = 2

# With the handles ahead of it, an entry's length has to be told in one byte.
MOST_OF_VALUE = 253
MOST_OF_GROUP_VALUE = 251


def range_error(message):
    first = number_at(message, 1)
    if first < 1 or number_at(message, 3) < first:
        return error_answer(message, first, NOT_THERE)
    return None


def attributes_in_range(device, message):
    return device.attributes_between(number_at(message, 1), number_at(message, 3))


def none_found(message):
    return error_answer(message, number_at(message, 1), NONE_FOUND)


def with_entries(head, entries, length):
    answer = list(head)
    size = len(entries[0])
    for entry in entries:
        if len(entry) != size or len(answer) + size > length:
            break
        answer.extend(entry)
    return answer


def find_kinds(device, message):
    if len(message) != 5:
        return length_error(message)
    wrong = range_error(message)
    if wrong is not None:
        return wrong
    found = attributes_in_range(device, message)
    if len(found) == 0:
        return none_found(message)
    form = SHORT_KINDS if len(found[0].kind) == SHORT_KIND else LONG_KINDS
    entries = [two_bytes(attribute.handle) + attribute.kind for attribute in found]
    return with_entries([KINDS, form], entries, device.link.length)


def attributes_of_kind(device, message, kind):
    form = long_form(kind)
    return [attribute for attribute in attributes_in_range(device, message) if attribute.long_kind == form]


def handle_and_last(device, attribute):
    return two_bytes(attribute.handle) + two_bytes(device.last_handle(attribute))


def find_value(device, message):
    if len(message) < 7:
        return length_error(message)
    wrong = range_error(message)
    if wrong is not None:
        return wrong
    value = message[7:]
    entries = []
    for attribute in attributes_of_kind(device, message, message[5:7]):
        if attribute.value == value and device.is_read(attribute.handle):
            entries.append(handle_and_last(device, attribute))
    if len(entries) == 0:
        return none_found(message)
    return with_entries([HANDLES], entries, device.link.length)


def kind_or_range_error(message):
    if len(message) != 7 and len(message) != 21:
        return length_error(message)
    return range_error(message)


def first_error(device, message, found):
    if len(found) == 0:
        return none_found(message)
    handle = found[0].handle
    why = device.why_not_read(handle)
    if why != NO_ERROR:
        return error_answer(message, handle, why)
    return None


def up_to_first_not_read(device, found):
    those = []
    for attribute in found:
        if not device.is_read(attribute.handle):
            break
        those.append(attribute)
    return those


def read_by_kind(device, message):
    wrong = kind_or_range_error(message)
    if wrong is not None:
        return wrong
    found = attributes_of_kind(device, message, message[5:])
    wrong = first_error(device, message, found)
    if wrong is not None:
        return wrong
    cut = min(MOST_OF_VALUE, device.link.length - 4)
    those = up_to_first_not_read(device, found)
    entries = [two_bytes(attribute.handle) + attribute.value[:cut] for attribute in those]
    return with_entries([VALUES, len(entries[0])], entries, device.link.length)


def read_groups(device, message):
    wrong = kind_or_range_error(message)
    if wrong is not None:
        return wrong
    kind = message[5:]
    if not is_kind_of_group(kind):
        return error_answer(message, number_at(message, 1), NO_KIND_OF_GROUP)
    found = attributes_of_kind(device, message, kind)
    wrong = first_error(device, message, found)
    if wrong is not None:
        return wrong
    cut = min(MOST_OF_GROUP_VALUE, device.link.length - 6)
    those = up_to_first_not_read(device, found)
    entries = [handle_and_last(device, attribute) + attribute.value[:cut] for attribute in those]
    return with_entries([GROUPS, len(entries[0])], entries, device.link.length)
