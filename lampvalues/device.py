"""A device and its table of attributes."""

MOST_ATTRIBUTES = 256
MOST_BYTES = 512
ALL_RIGHTS = 31
FIXED_LENGTH = 16

DONE = 0
WRONG = -1
FULL = -2


def length_can_be(length, most, rights):
    if rights & FIXED_LENGTH:
        return length == most
    return length <= most


def attribute_can_be(kind, value, most, rights):
    if len(kind) != 2 and len(kind) != 16:
        return False
    if most < 0 or most > MOST_BYTES:
        return False
    if rights < 0 or rights > ALL_RIGHTS:
        return False
    # A value above 512 bytes needs no check of its own: it is above the most, too.
    return length_can_be(len(value), most, rights)


class Attribute:
    def __init__(self, kind, value, most, rights):
        self.kind = kind
        self.value = value
        self.most = most
        self.rights = rights


class Device:
    def __init__(self):
        self.attributes = []

    def has_handle(self, handle):
        return handle >= 1 and handle <= len(self.attributes)

    def attribute_at(self, handle):
        return self.attributes[handle - 1]

    def add_attribute(self, kind, value, most, rights):
        # What can't be is refused ahead of a full table: the document tells -1 before -2.
        if not attribute_can_be(kind, value, most, rights):
            return [WRONG]
        if len(self.attributes) >= MOST_ATTRIBUTES:
            return [FULL]
        self.attributes.append(Attribute(kind, value, most, rights))
        return [len(self.attributes)]

    def set_value(self, handle, value):
        if not self.has_handle(handle):
            return [WRONG]
        attribute = self.attribute_at(handle)
        if not length_can_be(len(value), attribute.most, attribute.rights):
            return [WRONG]
        attribute.value = value
        return [DONE]

    def get_value(self, handle):
        if not self.has_handle(handle):
            return [WRONG]
        value = self.attribute_at(handle).value
        return [len(value)] + value
