"""An attribute: its kind, its value, and what may be done with it."""

MOST_BYTES = 512

READ = 1
WRITE = 2
WRITE_QUIETLY = 4
ONLY_SAFE = 8
FIXED_LENGTH = 16
ALL_RIGHTS = 31

SHORT_KIND = 2
LONG_KIND = 16

# A kind of two bytes stands between these in its long form.
AHEAD_OF_SHORT = (0xFB, 0x34, 0x9B, 0x5F, 0x80, 0x00, 0x00, 0x80, 0x00, 0x10, 0x00, 0x00)
BEHIND_SHORT = (0x00, 0x00)

FIRST_GROUP = (0x00, 0x28)
SECOND_GROUP = (0x01, 0x28)


def long_form(kind):
    if len(kind) == SHORT_KIND:
        return list(AHEAD_OF_SHORT) + list(kind) + list(BEHIND_SHORT)
    return list(kind)


def is_kind_of_group(kind):
    form = long_form(kind)
    return form == long_form(FIRST_GROUP) or form == long_form(SECOND_GROUP)


def length_can_be(length, most, rights):
    if rights & FIXED_LENGTH:
        return length == most
    return length <= most


def attribute_can_be(kind, value, most, rights):
    if len(kind) != SHORT_KIND and len(kind) != LONG_KIND:
        return False
    if most < 0 or most > MOST_BYTES:
        return False
    if rights < 0 or rights > ALL_RIGHTS:
        return False
    # A value above 512 bytes needs no check of its own: it is above the most, too.
    return length_can_be(len(value), most, rights)


class Attribute:
    def __init__(self, handle, kind, value, most, rights):
        self.handle = handle
        # Kept as it was told, as message 04 tells it so; the long form is for comparing.
        self.kind = kind
        self.long_kind = long_form(kind)
        self.begins_group = is_kind_of_group(kind)
        self.value = value
        self.most = most
        self.rights = rights

    def has_right(self, right):
        return self.rights & right != 0

    def can_have(self, value):
        return length_can_be(len(value), self.most, self.rights)
