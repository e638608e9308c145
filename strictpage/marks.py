"""The marks of a page, or the place where it is no page."""

MOST_BYTES = 16384
MOST_MARKS = 2048
MOST_ATTRIBUTES = 8
MOST_DEPTH = 32
MOST_NAME_BYTES = 16
MOST_DIGITS = 3

NUMBER_ALONE = 0
NUMBER_AND_PLACE = 1
OPENING_FORM = 2
CLOSING_FORM = 3
TEXT_FORM = 4
ATTRIBUTE_FORM = 5
PAGE_FORM = 6

NO_REFUSAL = 0
NOT_THERE = -2
SAME_NAME = -22
TOO_MUCH = -28
NO_MARK = -71

NEWLINE = 10
SPACE = 32
QUOTE = 34
AMPERSAND = 38
HYPHEN = 45
DIGIT_0 = 48
DIGIT_9 = 57
LESS_THAN = 60
SMALL_A = 97
SMALL_Z = 122
LAST_BYTE = 255

NAMED_REFERENCES = {60: "&lt;", 62: "&gt;", 38: "&amp;", 34: "&quot;"}
NUMBER_REFERENCE = "&#"


def with_count(row):
    return [len(row)] + row


def signs(word):
    return [ord(sign) for sign in word]


# The methods called plain give back what is written in the one form of a page.


def plain_characters(content):
    row = []
    for byte in content:
        if byte in NAMED_REFERENCES:
            row.extend(signs(NAMED_REFERENCES[byte]))
        else:
            row.append(byte)
    return row


class Attribute:
    def __init__(self, name, value):
        self.name = name
        self.value = value

    def in_numbers(self):
        return [ATTRIBUTE_FORM] + with_count(self.name) + with_count(self.value)

    def plain(self):
        return signs(" ") + self.name + signs('="') + plain_characters(self.value) + signs('"')


class Opening:
    def __init__(self, name, attributes):
        self.name = name
        self.attributes = attributes

    def has_same_names(self):
        names = [tuple(attribute.name) for attribute in self.attributes]
        return len(set(names)) < len(names)

    def in_numbers(self):
        return [OPENING_FORM] + with_count(self.name) + [len(self.attributes)]

    def plain(self):
        row = signs("<") + self.name
        for attribute in self.attributes:
            row.extend(attribute.plain())
        return row + signs(">")


class Closing:
    def __init__(self, name):
        self.name = name

    def in_numbers(self):
        return [CLOSING_FORM]

    def plain(self):
        return signs("</") + self.name + signs(">")


class Text:
    def __init__(self, content):
        self.content = content

    def in_numbers(self):
        return [TEXT_FORM] + with_count(self.content)

    def plain(self):
        return plain_characters(self.content)


def stands_at(t, at, word):
    return t[at:at + len(word)] == signs(word)


def may_be_in_page(number):
    return number == NEWLINE or SPACE <= number <= LAST_BYTE


def is_blank(byte):
    return byte == SPACE or byte == NEWLINE


def is_digit(byte):
    return DIGIT_0 <= byte <= DIGIT_9


def is_small_letter(byte):
    return SMALL_A <= byte <= SMALL_Z


def is_in_name(byte):
    return is_small_letter(byte) or is_digit(byte) or byte == HYPHEN


# Blanks that may be left out: where there are none, they end where they would begin.
def end_of_blanks(t, at):
    while at < len(t) and is_blank(t[at]):
        at += 1
    return at


# What was read, and the place right behind it.
class Piece:
    def __init__(self, content, end):
        self.content = content
        self.end = end


# The functions called read_.. give back what stands at a place, or None where no such
# thing stands there.


def read_name(t, at):
    if at >= len(t) or not is_small_letter(t[at]):
        return None
    end = at + 1
    while end < len(t) and is_in_name(t[end]):
        end += 1
    if end - at > MOST_NAME_BYTES:
        return None
    return Piece(t[at:end], end)


def read_number_reference(t, at):
    digits_at = at + len(NUMBER_REFERENCE)
    number = 0
    end = digits_at
    while end < len(t) and end < digits_at + MOST_DIGITS and is_digit(t[end]):
        number = number * 10 + t[end] - DIGIT_0
        end += 1
    if end == digits_at or not stands_at(t, end, ";") or not may_be_in_page(number):
        return None
    return Piece(number, end + 1)


def read_reference(t, at):
    for byte, word in NAMED_REFERENCES.items():
        if stands_at(t, at, word):
            return Piece(byte, at + len(word))
    if stands_at(t, at, NUMBER_REFERENCE):
        return read_number_reference(t, at)
    return None


def read_character(t, at):
    if t[at] == AMPERSAND:
        return read_reference(t, at)
    if t[at] == LESS_THAN or not may_be_in_page(t[at]):
        return None
    return Piece(t[at], at + 1)


# A wrong character spoils all of them: a text is not cut off ahead of it.
def read_characters(t, at, stop):
    content = []
    while at < len(t) and t[at] != stop:
        character = read_character(t, at)
        if character is None:
            return None
        content.append(character.content)
        at = character.end
    return Piece(content, at)


def read_value(t, at):
    if not stands_at(t, at, '="'):
        return None
    value = read_characters(t, at + 2, QUOTE)
    if value is None or value.end == len(t):
        return None
    return Piece(value.content, value.end + 1)


def attribute_begins(t, at):
    name_at = end_of_blanks(t, at)
    return at < name_at < len(t) and is_small_letter(t[name_at])


def read_attribute(t, at):
    name = read_name(t, end_of_blanks(t, at))
    if name is None:
        return None
    value = read_value(t, name.end)
    if value is None:
        return None
    return Piece(Attribute(name.content, value.content), value.end)


def read_attributes(t, at):
    attributes = []
    while attribute_begins(t, at):
        attribute = read_attribute(t, at)
        if attribute is None:
            return None
        attributes.append(attribute.content)
        at = attribute.end
    return Piece(attributes, at)


class Beginning:
    def __init__(self, opening, closed, end):
        self.opening = opening
        self.closed = closed
        self.end = end


def read_beginning(t, at):
    name = read_name(t, at + 1)
    if name is None:
        return None
    attributes = read_attributes(t, name.end)
    if attributes is None:
        return None
    opening = Opening(name.content, attributes.content)
    end = end_of_blanks(t, attributes.end)
    if stands_at(t, end, "/>"):
        return Beginning(opening, True, end + 2)
    if stands_at(t, end, ">"):
        return Beginning(opening, False, end + 1)
    return None


def read_end(t, at):
    name = read_name(t, at + 2)
    if name is None:
        return None
    end = end_of_blanks(t, name.end)
    if not stands_at(t, end, ">"):
        return None
    return Piece(Closing(name.content), end + 1)


# The methods called take_.. give back a refusal's number, and then the place is still
# where what is refused begins; or NO_REFUSAL, and then the place is behind what was taken.
class Reading:
    def __init__(self, t):
        self.t = t
        self.at = 0
        self.marks = []
        self.open_names = []

    def take_marks(self, marks, end):
        if len(self.marks) + len(marks) > MOST_MARKS:
            return TOO_MUCH
        self.marks.extend(marks)
        self.at = end
        return NO_REFUSAL

    def take_text(self):
        text = read_characters(self.t, self.at, LESS_THAN)
        if text is None:
            return NO_MARK
        return self.take_marks([Text(text.content)], text.end)

    def take_beginning(self):
        beginning = read_beginning(self.t, self.at)
        if beginning is None:
            return NO_MARK
        opening = beginning.opening
        if opening.has_same_names():
            return SAME_NAME
        if len(opening.attributes) > MOST_ATTRIBUTES or len(self.open_names) >= MOST_DEPTH:
            return TOO_MUCH
        if beginning.closed:
            return self.take_marks([opening, Closing(opening.name)], beginning.end)
        self.open_names.append(opening.name)
        return self.take_marks([opening], beginning.end)

    def take_end(self):
        end = read_end(self.t, self.at)
        if end is None:
            return NO_MARK
        closing = end.content
        if not self.open_names or self.open_names[-1] != closing.name:
            return NO_MARK
        self.open_names.pop()
        return self.take_marks([closing], end.end)

    def take_next(self):
        if self.t[self.at] != LESS_THAN:
            return self.take_text()
        if stands_at(self.t, self.at, "</"):
            return self.take_end()
        return self.take_beginning()

    def take_page(self):
        if len(self.t) > MOST_BYTES:
            return TOO_MUCH
        while self.at < len(self.t):
            refusal = self.take_next()
            if refusal != NO_REFUSAL:
                return refusal
        if self.open_names:
            return NO_MARK
        return NO_REFUSAL


def pg_read(t):
    reading = Reading(t)
    refusal = reading.take_page()
    if refusal != NO_REFUSAL:
        return [NUMBER_AND_PLACE, refusal, reading.at]
    return [NUMBER_ALONE, len(reading.marks)]


def pg_mark(k, t):
    reading = Reading(t)
    refusal = reading.take_page()
    if refusal != NO_REFUSAL:
        return [NUMBER_ALONE, refusal]
    if k >= len(reading.marks):
        return [NUMBER_ALONE, NOT_THERE]
    return reading.marks[k].in_numbers()


def pg_attr(k, j, t):
    reading = Reading(t)
    refusal = reading.take_page()
    if refusal != NO_REFUSAL:
        return [NUMBER_ALONE, refusal]
    if k >= len(reading.marks):
        return [NUMBER_ALONE, NOT_THERE]
    mark = reading.marks[k]
    if not isinstance(mark, Opening) or j >= len(mark.attributes):
        return [NUMBER_ALONE, NOT_THERE]
    return mark.attributes[j].in_numbers()


def pg_plain(t):
    reading = Reading(t)
    refusal = reading.take_page()
    if refusal != NO_REFUSAL:
        return [NUMBER_ALONE, refusal]
    page = []
    for mark in reading.marks:
        page.extend(mark.plain())
    return [PAGE_FORM] + with_count(page)
