"""The marks of a page, or the place where it is no page."""

MOST_BYTES = 16384
MOST_MARKS = 2048
MOST_ATTRIBUTES = 8
MOST_DEPTH = 32
MOST_NAME_BYTES = 16
MOST_DIGITS = 3

NUMBER_ALONE = 0
NUMBER_AND_PLACE = 1

NO_REFUSAL = 0
SAME_NAME = -22
TOO_MUCH = -28
NO_MARK = -71

NEWLINE = 10
SPACE = 32
QUOTE = 34
AMPERSAND = 38
HYPHEN = 45
DIGIT_0 = 48
DIGIT_9 = 57
LESS_THAN = 60
SMALL_A = 97
SMALL_Z = 122
LAST_BYTE = 255

NAMED_REFERENCES = ("&lt;", "&gt;", "&amp;", "&quot;")
NUMBER_REFERENCE = "&#"


# The functions called end_of_.. give back the place right behind what stands at a place,
# or None where no such thing stands there.


def stands_at(t, at, word):
    return t[at:at + len(word)] == [ord(sign) for sign in word]


def may_be_in_page(number):
    return number == NEWLINE or SPACE <= number <= LAST_BYTE


def is_blank(byte):
    return byte == SPACE or byte == NEWLINE


def is_digit(byte):
    return DIGIT_0 <= byte <= DIGIT_9


def is_small_letter(byte):
    return SMALL_A <= byte <= SMALL_Z


def is_in_name(byte):
    return is_small_letter(byte) or is_digit(byte) or byte == HYPHEN


# Blanks that may be left out: where there are none, they end where they would begin.
def end_of_blanks(t, at):
    while at < len(t) and is_blank(t[at]):
        at += 1
    return at


def end_of_name(t, at):
    if at >= len(t) or not is_small_letter(t[at]):
        return None
    end = at + 1
    while end < len(t) and is_in_name(t[end]):
        end += 1
    if end - at > MOST_NAME_BYTES:
        return None
    return end


def end_of_number_reference(t, at):
    digits_at = at + len(NUMBER_REFERENCE)
    number = 0
    end = digits_at
    while end < len(t) and end < digits_at + MOST_DIGITS and is_digit(t[end]):
        number = number * 10 + t[end] - DIGIT_0
        end += 1
    if end == digits_at or not stands_at(t, end, ";") or not may_be_in_page(number):
        return None
    return end + 1


def end_of_reference(t, at):
    for word in NAMED_REFERENCES:
        if stands_at(t, at, word):
            return at + len(word)
    if stands_at(t, at, NUMBER_REFERENCE):
        return end_of_number_reference(t, at)
    return None


def end_of_character(t, at):
    if t[at] == AMPERSAND:
        return end_of_reference(t, at)
    if t[at] == LESS_THAN or not may_be_in_page(t[at]):
        return None
    return at + 1


# A wrong character spoils all of them: a text is not cut off ahead of it.
def end_of_characters(t, at, stop):
    while at < len(t) and t[at] != stop:
        at = end_of_character(t, at)
        if at is None:
            return None
    return at


def end_of_value(t, at):
    if not stands_at(t, at, '="'):
        return None
    end = end_of_characters(t, at + 2, QUOTE)
    if end is None or end == len(t):
        return None
    return end + 1


def attribute_begins(t, at):
    name_at = end_of_blanks(t, at)
    return at < name_at < len(t) and is_small_letter(t[name_at])


class Beginning:
    def __init__(self, name, attribute_names, closed, end):
        self.name = name
        self.attribute_names = attribute_names
        self.closed = closed
        self.end = end

    def has_same_names(self):
        return len(set(self.attribute_names)) < len(self.attribute_names)


def read_beginning(t, start):
    at = end_of_name(t, start + 1)
    if at is None:
        return None
    name = tuple(t[start + 1:at])
    attribute_names = []
    while attribute_begins(t, at):
        name_at = end_of_blanks(t, at)
        name_end = end_of_name(t, name_at)
        if name_end is None:
            return None
        attribute_names.append(tuple(t[name_at:name_end]))
        at = end_of_value(t, name_end)
        if at is None:
            return None
    at = end_of_blanks(t, at)
    if stands_at(t, at, "/>"):
        return Beginning(name, attribute_names, True, at + 2)
    if stands_at(t, at, ">"):
        return Beginning(name, attribute_names, False, at + 1)
    return None


# The methods called take_.. give back a refusal's number, and then the place is still
# where what is refused begins; or NO_REFUSAL, and then the place is behind what was taken.
class Reading:
    def __init__(self, t):
        self.t = t
        self.at = 0
        self.mark_count = 0
        self.open_names = []

    def take_marks(self, how_many, end):
        if self.mark_count + how_many > MOST_MARKS:
            return TOO_MUCH
        self.mark_count += how_many
        self.at = end
        return NO_REFUSAL

    def take_text(self):
        end = end_of_characters(self.t, self.at, LESS_THAN)
        if end is None:
            return NO_MARK
        return self.take_marks(1, end)

    def take_beginning(self):
        beginning = read_beginning(self.t, self.at)
        if beginning is None:
            return NO_MARK
        if beginning.has_same_names():
            return SAME_NAME
        if len(beginning.attribute_names) > MOST_ATTRIBUTES or len(self.open_names) >= MOST_DEPTH:
            return TOO_MUCH
        if beginning.closed:
            return self.take_marks(2, beginning.end)
        self.open_names.append(beginning.name)
        return self.take_marks(1, beginning.end)

    def take_end(self):
        name_at = self.at + 2
        name_end = end_of_name(self.t, name_at)
        if name_end is None:
            return NO_MARK
        end = end_of_blanks(self.t, name_end)
        if not stands_at(self.t, end, ">"):
            return NO_MARK
        if not self.open_names or self.open_names[-1] != tuple(self.t[name_at:name_end]):
            return NO_MARK
        self.open_names.pop()
        return self.take_marks(1, end + 1)

    def take_next(self):
        if self.t[self.at] != LESS_THAN:
            return self.take_text()
        if stands_at(self.t, self.at, "</"):
            return self.take_end()
        return self.take_beginning()


def pg_read(t):
    if len(t) > MOST_BYTES:
        return [NUMBER_AND_PLACE, TOO_MUCH, 0]
    reading = Reading(t)
    while reading.at < len(t):
        refusal = reading.take_next()
        if refusal != NO_REFUSAL:
            return [NUMBER_AND_PLACE, refusal, reading.at]
    if reading.open_names:
        return [NUMBER_AND_PLACE, NO_MARK, len(t)]
    return [NUMBER_ALONE, reading.mark_count]
