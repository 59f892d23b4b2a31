"""The desk: takes a list of calls on a new device and gives back their answers."""

from lampvalues.device import Device
from lampvalues.messages import take_message

ADD = 1
SET = 2
GET = 3
MESSAGE = 4
TELL = 5
LINK = 6


class UnknownCall(ValueError):
    pass


class Reader:
    def __init__(self, numbers):
        self.numbers = numbers
        self.place = 0

    def at_end(self):
        return self.place >= len(self.numbers)

    def next_number(self):
        number = self.numbers[self.place]
        self.place = self.place + 1
        return number

    def next_row(self):
        count = self.next_number()
        start = self.place
        self.place = start + count
        # A slice is a copy, so the device never holds what was handed in.
        return self.numbers[start:self.place]


def answer_add(device, reader):
    most = reader.next_number()
    rights = reader.next_number()
    kind = reader.next_row()
    value = reader.next_row()
    return device.add_attribute(kind, value, most, rights)


def answer_set(device, reader):
    handle = reader.next_number()
    value = reader.next_row()
    return device.set_value(handle, value)


def answer_get(device, reader):
    handle = reader.next_number()
    return device.get_value(handle)


def answer_message(device, reader):
    message = reader.next_row()
    return take_message(device, message)


def answer_tell(device, reader):
    handle = reader.next_number()
    confirm = reader.next_number()
    return device.tell_value(handle, confirm)


def answer_link(device, reader):
    safe = reader.next_number()
    return device.renew_link(safe)


def answer_next(device, reader):
    call = reader.next_number()
    if call == ADD:
        return answer_add(device, reader)
    if call == SET:
        return answer_set(device, reader)
    if call == GET:
        return answer_get(device, reader)
    if call == MESSAGE:
        return answer_message(device, reader)
    if call == TELL:
        return answer_tell(device, reader)
    if call == LINK:
        return answer_link(device, reader)
    # How long an unknown call is can't be told, so nothing behind it can be read.
    raise UnknownCall(f"there is no call {call}")


def answers(calls):
    device = Device()
    reader = Reader(calls)
    given = []
    while not reader.at_end():
        answer = answer_next(device, reader)
        given.append(len(answer))
        given.extend(answer)
    return given
