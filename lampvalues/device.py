"""A device: its table of attributes and its link."""

from lampvalues.attribute import Attribute, ONLY_SAFE, READ, WRITE, WRITE_QUIETLY, attribute_can_be
from lampvalues.link import Link
from lampvalues.wire import NOT_READ, NOT_SAFE, NOT_THERE, NOT_WRITTEN, NO_ERROR, two_bytes

MOST_ATTRIBUTES = 256

TOLD = 0x1B
TOLD_TO_CONFIRM = 0x1D

DONE = 0
WRONG = -1
FULL = -2
WAITS = -2


class Device:
    def __init__(self):
        self.attributes = []
        self.link = Link(False)

    def has_handle(self, handle):
        return handle >= 1 and handle <= len(self.attributes)

    def attribute_at(self, handle):
        return self.attributes[handle - 1]

    def attributes_between(self, first, last):
        return self.attributes[first - 1:last]

    def last_handle(self, attribute):
        last = attribute.handle
        if not attribute.begins_group:
            return last
        while self.has_handle(last + 1) and not self.attribute_at(last + 1).begins_group:
            last = last + 1
        return last

    def why_refused(self, handle, right, why_without):
        if not self.has_handle(handle):
            return NOT_THERE
        attribute = self.attribute_at(handle)
        if not attribute.has_right(right):
            return why_without
        if attribute.has_right(ONLY_SAFE) and not self.link.safe:
            return NOT_SAFE
        return NO_ERROR

    def why_not_read(self, handle):
        return self.why_refused(handle, READ, NOT_READ)

    def why_not_written(self, handle):
        return self.why_refused(handle, WRITE, NOT_WRITTEN)

    def is_read(self, handle):
        return self.why_not_read(handle) == NO_ERROR

    def is_written_quietly(self, handle):
        return self.why_refused(handle, WRITE_QUIETLY, NOT_WRITTEN) == NO_ERROR

    def add_attribute(self, kind, value, most, rights):
        # What can't be is refused ahead of a full table: the document tells -1 before -2.
        if not attribute_can_be(kind, value, most, rights):
            return [WRONG]
        if len(self.attributes) >= MOST_ATTRIBUTES:
            return [FULL]
        handle = len(self.attributes) + 1
        self.attributes.append(Attribute(handle, kind, value, most, rights))
        return [handle]

    def set_value(self, handle, value):
        if not self.has_handle(handle):
            return [WRONG]
        attribute = self.attribute_at(handle)
        if not attribute.can_have(value):
            return [WRONG]
        attribute.value = value
        return [DONE]

    def get_value(self, handle):
        if not self.has_handle(handle):
            return [WRONG]
        value = self.attribute_at(handle).value
        return [len(value)] + value

    def tell_value(self, handle, confirm):
        if not self.has_handle(handle):
            return [WRONG]
        first = TOLD
        if confirm != 0:
            if self.link.unconfirmed:
                return [WAITS]
            self.link.await_confirm()
            first = TOLD_TO_CONFIRM
        value = self.attribute_at(handle).value
        told = [first] + two_bytes(handle) + value[:self.link.length - 3]
        return [len(told)] + told

    def renew_link(self, safe):
        self.link = Link(safe != 0)
        return [DONE]
