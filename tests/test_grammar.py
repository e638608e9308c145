"""The calls beside a second reading, made of the document's grammar by regular expressions."""

import itertools
import re
import unittest

from pages import PageCase, mark_in_numbers, plain_page, row, with_count
from strictpage.marks import pg_attr, pg_mark, pg_plain, pg_read

NAME = r"[a-z][a-z0-9-]{0,15}(?![a-z0-9-])"
BYTE_NUMBER = r"(?:0?10|0?3[2-9]|0?[4-9][0-9]|1[0-9][0-9]|2[0-4][0-9]|25[0-5])"
REFERENCE = rf"&(?:lt|gt|amp|quot|#{BYTE_NUMBER});"
TEXT = re.compile(rf"(?:[\n\x20-\x25\x27-\x3b\x3d-\xff]|{REFERENCE})+(?![^<])")
VALUE = rf"(?:[\n\x20\x21\x23-\x25\x27-\x3b\x3d-\xff]|{REFERENCE})*"
ATTRIBUTE = rf'[ \n]+({NAME})="({VALUE})"'
BEGINNING = re.compile(rf'<({NAME})((?:{ATTRIBUTE})*)[ \n]*(/?)>')
END = re.compile(rf"</({NAME})[ \n]*>")
NAMED = {"lt": "<", "gt": ">", "amp": "&", "quot": '"'}


def stood_for(characters):
    return re.sub("&#?([a-z0-9]+);", lambda found: NAMED.get(found.group(1)) or chr(int(found.group(1))), characters)


def attributes_of(beginning):
    return [(name, stood_for(value)) for name, value in re.findall(ATTRIBUTE, beginning.group(2))]


def refusal_of_beginning(beginning, depth):
    names = [name for name, value in attributes_of(beginning)]
    if len(names) != len(set(names)):
        return -22
    if len(names) > 8 or depth > 32:
        return -28
    return 0


def marks_of(beginning, end, text):
    if text:
        return [("text", stood_for(text.group()))]
    if end:
        return [("closing", end.group(1))]
    name = beginning.group(1)
    return [("opening", name, attributes_of(beginning))] + [("closing", name)] * (beginning.group(5) == "/")


def second_reading(page):
    """pg_read's answer, and the marks if it is no refusal."""
    if len(page) > 16384:
        return [1, -28, 0], []
    at, marks, names = 0, [], []
    while at < len(page):
        beginning, end, text = (pattern.match(page, at) for pattern in (BEGINNING, END, TEXT))
        if not (beginning or text or end and names and names[-1] == end.group(1)):
            return [1, -71, at], []
        refusal = refusal_of_beginning(beginning, len(names) + 1) if beginning else 0
        if refusal:
            return [1, refusal, at], []
        marks.extend(marks_of(beginning, end, text))
        if len(marks) > 2048:
            return [1, -28, at], []
        if end:
            names.pop()
        if beginning and not beginning.group(5):
            names.append(beginning.group(1))
        at = (beginning or end or text).end()
    return ([1, -71, at], []) if names else ([0, len(marks)], marks)


class BesideTheGrammar(PageCase):
    def assert_same(self, page):
        t = row(page)
        answer, marks = second_reading(page)
        self.assertEqual(pg_read(t), answer, repr(page[:200]))
        refused = answer[0] == 1
        self.assertEqual(pg_plain(t), [0, answer[1]] if refused else [6] + with_count(plain_page(marks)))
        behind = [0, answer[1]] if refused else [0, -2]
        for k in self.places(marks):
            expected = mark_in_numbers(marks[k]) if k < len(marks) else behind
            self.assertEqual(pg_mark(k, t), expected, (k, page[:200]))
        for k in self.places(marks):
            attributes = marks[k][2] if k < len(marks) and marks[k][0] == "opening" else []
            expected = [[5] + with_count(name) + with_count(value) for name, value in attributes] + [behind]
            self.assertEqual([pg_attr(k, j, t) for j in range(len(attributes) + 1)], expected, (k, page[:200]))

    def places(self, marks):
        """All of a short page's marks, the first and the last of a long one's, and the one behind."""
        return [k for k in range(len(marks) + 1) if k < 8 or k > len(marks) - 4]

    def test_all_short_pages_of_signs(self):
        for length in range(5):
            for signs in itertools.product('<a/> "=&;#9\t', repeat=length):
                self.assert_same("".join(signs))

    def test_all_short_pages_of_pieces(self):
        pieces = ("<a", "<b", "</a", "</b", ">", "/>", ' b="', ' a="x"', '"', " ", "&lt;", "&#10", ";", "x")
        for length in range(5):
            for page in itertools.product(pieces, repeat=length):
                self.assert_same("".join(page))

    def test_all_short_pages_of_marks(self):
        marks = ("<a>", "<b>", "</a>", "</b >", "<a/>", '<a b="" b=""/>', "x", "&")
        for length in range(6):
            for page in itertools.product(marks, repeat=length):
                self.assert_same("".join(page))

    def test_all_short_values_and_texts(self):
        characters = ("&lt;", "&gt;", "&amp;", "&quot;", "&#10;", "&#034;", "&#255;", "&", "<", ">", '"', "lt;", "\xe9")
        for length in range(4):
            for piece in itertools.product(characters, repeat=length):
                joined = "".join(piece)
                self.assert_same(f'{joined}<a c="x" b="{joined}">{joined}</a>')

    def test_pages_with_one_byte_changed(self):
        page = 'x&lt;<a b="&#34;&#9;"\n c="\xff"><b2-/ ></a>y</a >&#010;<abcdefghijklmnop d="" />'
        right = page.replace("&#9;", "&#99;").replace("/ >", "/>").replace("</a>y", "y")
        self.assertEqual(second_reading(right)[0], [0, 9])
        for whole in (page, right):
            for at in range(len(whole) + 1):
                self.assert_same(whole[:at])
                self.assert_same(whole[:at] + whole[at + 1:])
                for sign in '<>/="&;# \n\x00\t\r\x1faz09-AZ`{:\x7f\xff':
                    self.assert_same(whole[:at] + sign + whole[at:])
                    self.assert_same(whole[:at] + sign + whole[at + 1:])

    def test_pages_about_the_edges(self):
        back = ("", "x", "<a/>", "<a>", "<a></a>", "x<a/>", "</b>", '<a b="" b=""/>', "&", "<", "x</b>", "<a/></b>")
        for how_many in (1022, 1023, 1024):
            for front in ("<a/>" * how_many, "x" + "<a/>" * how_many, "<b>" + "<a/>" * how_many):
                for piece in back:
                    self.assert_same(front + piece)
        for depth in (31, 32, 33):
            for piece in back:
                self.assert_same("<b>" * depth + piece + "</b>" * depth)


if __name__ == "__main__":
    unittest.main()
