"""pg_read beside a second reading, made of the document's grammar by regular expressions."""

import itertools
import re
import unittest

from strictpage.marks import pg_read

NAME = r"[a-z][a-z0-9-]{0,15}(?![a-z0-9-])"
BYTE_NUMBER = r"(?:0?10|0?3[2-9]|0?[4-9][0-9]|1[0-9][0-9]|2[0-4][0-9]|25[0-5])"
REFERENCE = rf"&(?:lt|gt|amp|quot|#{BYTE_NUMBER});"
TEXT = re.compile(rf"(?:[\n\x20-\x25\x27-\x3b\x3d-\xff]|{REFERENCE})+(?![^<])")
VALUE = rf"(?:[\n\x20\x21\x23-\x25\x27-\x3b\x3d-\xff]|{REFERENCE})*"
ATTRIBUTE = rf'[ \n]+({NAME})="{VALUE}"'
BEGINNING = re.compile(rf'<({NAME})((?:{ATTRIBUTE})*)[ \n]*(/?)>')
END = re.compile(rf"</({NAME})[ \n]*>")


def refusal_of_beginning(found, depth):
    names = re.findall(ATTRIBUTE, found.group(2))
    if len(names) != len(set(names)):
        return -22
    if len(names) > 8 or depth > 32:
        return -28
    return 0


def second_reading(page):
    if len(page) > 16384:
        return [1, -28, 0]
    at, marks, names = 0, 0, []
    while at < len(page):
        beginning, end, text = (pattern.match(page, at) for pattern in (BEGINNING, END, TEXT))
        if not (beginning or text or end and names and names[-1] == end.group(1)):
            return [1, -71, at]
        refusal = refusal_of_beginning(beginning, len(names) + 1) if beginning else 0
        if refusal:
            return [1, refusal, at]
        marks += 2 if beginning and beginning.group(4) else 1
        if marks > 2048:
            return [1, -28, at]
        if end:
            names.pop()
        if beginning and not beginning.group(4):
            names.append(beginning.group(1))
        at = (beginning or end or text).end()
    return [1, -71, at] if names else [0, marks]


class BesideTheGrammar(unittest.TestCase):
    def assert_same(self, page):
        self.assertEqual(pg_read(list(page.encode("latin-1"))), second_reading(page), repr(page[:200]))

    def test_all_short_pages_of_signs(self):
        for length in range(5):
            for signs in itertools.product('<a/> "=&;#9\t', repeat=length):
                self.assert_same("".join(signs))

    def test_all_short_pages_of_pieces(self):
        pieces = ("<a", "<b", "</a", "</b", ">", "/>", ' b="', ' a="x"', '"', " ", "&lt;", "&#10", ";", "x")
        for length in range(5):
            for page in itertools.product(pieces, repeat=length):
                self.assert_same("".join(page))

    def test_all_short_pages_of_marks(self):
        marks = ("<a>", "<b>", "</a>", "</b >", "<a/>", '<a b="" b=""/>', "x", "&")
        for length in range(6):
            for page in itertools.product(marks, repeat=length):
                self.assert_same("".join(page))

    def test_pages_with_one_byte_changed(self):
        page = 'x&lt;<a b="&#34;&#9;"\n c="\xff"><b2-/ ></a>y</a >&#010;<abcdefghijklmnop d="" />'
        right = page.replace("&#9;", "&#99;").replace("/ >", "/>").replace("</a>y", "y")
        self.assertEqual(second_reading(right), [0, 9])
        for whole in (page, right):
            for at in range(len(whole) + 1):
                self.assert_same(whole[:at])
                self.assert_same(whole[:at] + whole[at + 1:])
                for sign in '<>/="&;# \n\x00\t\r\x1faz09-AZ`{:\x7f\xff':
                    self.assert_same(whole[:at] + sign + whole[at:])
                    self.assert_same(whole[:at] + sign + whole[at + 1:])

    def test_pages_about_the_edges(self):
        back = ("", "x", "<a/>", "<a>", "<a></a>", "x<a/>", "</b>", '<a b="" b=""/>', "&", "<", "x</b>", "<a/></b>")
        for how_many in (1022, 1023, 1024):
            for front in ("<a/>" * how_many, "x" + "<a/>" * how_many, "<b>" + "<a/>" * how_many):
                for piece in back:
                    self.assert_same(front + piece)
        for depth in (31, 32, 33):
            for piece in back:
                self.assert_same("<b>" * depth + piece + "</b>" * depth)


if __name__ == "__main__":
    unittest.main()
