"""Point 2 of the document: pg_mark, example by example."""

import unittest

from pages import (BYTES_OF_A_PAGE, FAR_ABOVE, MOST_BYTES, REFUSED_PAGES, RIGHT_PAGES, KeepsNothing, PageCase,
                   attributes, closed, opened, row, with_count)
from strictpage.marks import pg_mark, pg_read

CLOSING = [3]
NOT_THERE = [0, -2]


def opening(name, attrs=0):
    return [2] + with_count(name) + [attrs]


def text(content):
    return [4] + with_count(content)


class MarkCase(PageCase):
    def assert_mark(self, page, k, mark):
        self.assertEqual(pg_mark(k, row(page)), mark, (k, page[:200]))

    def assert_marks(self, page, marks):
        """The marks from 0 on, one by one in order, and none behind the last."""
        self.assertEqual([pg_mark(k, row(page)) for k in range(len(marks))], marks, repr(page[:200]))
        self.assert_mark(page, len(marks), NOT_THERE)


class Forms(MarkCase):
    def test_opening_without_attributes(self):
        self.assertEqual(pg_mark(0, row("<a/>")), [2, 1, 97, 0])
        self.assertEqual(pg_mark(0, row("<b-2 ></b-2>")), [2, 3, 98, 45, 50, 0])

    def test_opening_with_attributes(self):
        self.assertEqual(pg_mark(0, row('<a b="c"/>')), [2, 1, 97, 1])
        self.assertEqual(pg_mark(0, row('<p b="" c="2" d="&lt;"\n></p>')), [2, 1, 112, 3])

    def test_opening_with_eight_attributes(self):
        self.assert_marks("<a" + attributes(8) + "/>", [opening("a", 8), CLOSING])
        self.assert_marks("<a" + attributes(8) + "></a>", [opening("a", 8), CLOSING])
        for how_many in range(9):
            self.assert_mark("x<a" + attributes(how_many) + "/>", 1, opening("a", how_many))

    def test_closing_of_either_way_of_writing(self):
        self.assertEqual(pg_mark(1, row("<a/>")), [3])
        self.assertEqual(pg_mark(1, row("<a></a>")), [3])
        self.assertEqual(pg_mark(1, row('<a b="c" />')), [3])
        self.assertEqual(pg_mark(1, row("<a></a\n >")), [3])

    def test_text(self):
        self.assertEqual(pg_mark(0, row("Hi")), [4, 2, 72, 105])
        self.assertEqual(pg_mark(1, row("<a>\n</a>")), [4, 1, 10])
        self.assertEqual(pg_mark(2, row("<a/> ")), [4, 1, 32])

    def test_names_of_1_and_16_bytes(self):
        for name in ("a", "z", "a" * 16, "abcdefghijklmnop", "qrstuvwxyz-01234"):
            self.assert_marks(f"<{name}/>", [opening(name), CLOSING])
            self.assert_marks(f'<{name} {name}="">x</{name}>', [opening(name, 1), text("x"), CLOSING])


class EveryMarkInOrder(MarkCase):
    def test_elements_in_one_another(self):
        page = '<html lang="en"><p>one <b>two</b> three<br/></p>\n<p a="" c="">four</p></html>end'
        self.assert_marks(page, [
            opening("html", 1), opening("p"), text("one "), opening("b"), text("two"), CLOSING, text(" three"),
            opening("br"), CLOSING, CLOSING, text("\n"), opening("p", 2), text("four"), CLOSING, CLOSING, text("end")])

    def test_elements_of_one_name(self):
        self.assert_marks('<a><a b=""><a/></a><a/></a>', [
            opening("a"), opening("a", 1), opening("a"), CLOSING, CLOSING, opening("a"), CLOSING, CLOSING])

    def test_elements_side_by_side(self):
        self.assert_marks("<a/><b></b>x<c/>y", [
            opening("a"), CLOSING, opening("b"), CLOSING, text("x"), opening("c"), CLOSING, text("y")])

    def test_blanks_are_texts_outside_of_tags_alone(self):
        self.assert_marks(' <a\n b="c" >\n</a > ', [text(" "), opening("a", 1), text("\n"), CLOSING, text(" ")])

    def test_depth(self):
        self.assert_marks(opened(32) + "x" + closed(32), [opening("a")] * 32 + [text("x")] + [CLOSING] * 32)

    def test_as_many_marks_as_pg_read_answers(self):
        for page in RIGHT_PAGES:
            how_many = pg_read(row(page))[1]
            self.assert_mark(page, how_many, NOT_THERE)
            if how_many > 0:
                self.assertIn(pg_mark(how_many - 1, row(page))[0], (3, 4))


class WhatCharactersStandFor(MarkCase):
    def test_bytes_as_they_are(self):
        for byte in BYTES_OF_A_PAGE:
            if byte not in row("<&"):
                self.assertEqual(pg_mark(0, [byte]), [4, 1, byte])
                self.assertEqual(pg_mark(0, [65, byte, 66]), [4, 3, 65, byte, 66])

    def test_named_references(self):
        self.assertEqual(pg_mark(0, row("&lt;")), [4, 1, 60])
        self.assertEqual(pg_mark(0, row("&gt;")), [4, 1, 62])
        self.assertEqual(pg_mark(0, row("&amp;")), [4, 1, 38])
        self.assertEqual(pg_mark(0, row("&quot;")), [4, 1, 34])
        self.assert_marks("a&lt;b&gt;c&amp;d&quot;e", [text('a<b>c&d"e')])
        self.assert_marks("&lt;&gt;&amp;&quot;", [text('<>&"')])

    def test_number_references(self):
        self.assertEqual(pg_mark(0, row("&#65;")), [4, 1, 65])
        self.assertEqual(pg_mark(0, row("x&#10;y")), [4, 3, 120, 10, 121])
        self.assertEqual(pg_mark(0, row("&#255;")), [4, 1, 255])
        for byte in BYTES_OF_A_PAGE:
            for digits in (str(byte), str(byte).zfill(3)):
                self.assertEqual(pg_mark(0, row(f"&#{digits};")), [4, 1, byte])
                self.assertEqual(pg_mark(1, row(f"<a>x&#{digits};y</a>")), [4, 3, 120, byte, 121])

    def test_number_references_of_one_digit_are_refused_as_no_such_byte_may_be_in_a_page(self):
        for digit in range(10):
            self.assert_mark(f"&#{digit};", 0, [0, -71])
            self.assert_mark(f"<a/>&#{digit};", 0, [0, -71])

    def test_references_side_by_side(self):
        self.assert_marks("&#72;&#105;&#033;&lt;&#10;&#200;&amp;", [text("Hi!<\n\xc8&")])
        self.assert_marks("&#60;a/&#62;", [text("<a/>")])

    def test_what_is_stood_for_is_not_read_again(self):
        self.assert_marks("&amp;lt;", [text("&lt;")])
        self.assert_marks("&#38;#65;", [text("&#65;")])
        self.assert_marks("&#38;amp;lt;", [text("&amp;lt;")])

    def test_greater_than_and_quote_in_a_text(self):
        self.assert_marks('a > "b"', [text('a > "b"')])
        self.assert_marks("<a>></a>>", [opening("a"), text(">"), CLOSING, text(">")])
        self.assert_marks("<a/>/>", [opening("a"), CLOSING, text("/>")])

    def test_signs_of_references_by_themselves(self):
        self.assert_marks("lt; #65; ;", [text("lt; #65; ;")])


class Refusals(MarkCase):
    def test_each_of_pg_read_s_told_as_its_number_alone_whatever_k_is(self):
        for page, number in REFUSED_PAGES:
            self.assertEqual(pg_read(row(page))[:2], [1, number], repr(page[:200]))
            for k in (0, 1, 2, 3, 2047, 2048, 2049, FAR_ABOVE):
                self.assert_mark(page, k, [0, number])

    def test_marks_ahead_of_what_is_refused_are_not_answered(self):
        self.assert_mark("text<a/>more<", 0, [0, -71])
        self.assert_mark("text<a/>more</a>", 1, [0, -71])
        self.assert_mark('text<a b="" b=""/>', 0, [0, -22])
        self.assert_mark("<a>", 0, [0, -71])

    def test_a_longer_row_is_not_looked_at(self):
        self.assertEqual(pg_mark(0, [None] * (MOST_BYTES + 1)), [0, -28])

    def test_no_such_mark(self):
        for page, how_many in (("x", 1), ("<a/>", 2), ("<a></a>", 2), ("x<a>y</a>z", 5), ("<a/>" * 1024, 2048)):
            for k in (how_many, how_many + 1, how_many + 255, 65536, 2 ** 31, 2 ** 32 - how_many, FAR_ABOVE):
                self.assert_mark(page, k, NOT_THERE)

    def test_the_last_mark_just_before(self):
        self.assert_mark("x", 0, text("x"))
        self.assert_mark("<a/>", 1, CLOSING)
        self.assert_mark("<a></a>y", 2, text("y"))

    def test_no_bytes(self):
        for k in (0, 1, FAR_ABOVE):
            self.assertEqual(pg_mark(k, []), NOT_THERE)


class EdgesAndCorners(MarkCase):
    def test_bytes(self):
        self.assert_marks("x" * MOST_BYTES, [text("x" * MOST_BYTES)])
        self.assert_mark("x" * (MOST_BYTES + 1), 0, [0, -28])
        self.assert_marks("<a>" + "y" * (MOST_BYTES - 7) + "</a>", [opening("a"), text("y" * (MOST_BYTES - 7)), CLOSING])
        self.assert_marks("&#065;" * 2730 + "<a/>", [text("A" * 2730), opening("a"), CLOSING])

    def test_2048_marks(self):
        page = "<a/>" * 1023 + '<b c=""/>'
        for k in (0, 1, 2, 1023, 1024, 2044, 2045):
            self.assert_mark(page, k, CLOSING if k % 2 else opening("a"))
        self.assert_mark(page, 2046, opening("b", 1))
        self.assert_mark(page, 2047, CLOSING)
        self.assert_mark(page, 2048, NOT_THERE)
        self.assert_mark(page + "x", 0, [0, -28])

    def test_an_empty_element(self):
        for page in ("<a/>", "<a></a>"):
            self.assert_marks(page, [opening("a"), CLOSING])

    def test_references(self):
        self.assert_marks("&#10;", [text("\n")])
        self.assert_marks("&#255;", [text("\xff")])
        self.assert_marks("&#32;", [text(" ")])
        for page in ("&#256;", "&#0;", "&;", "&#31;"):
            self.assert_mark(page, 0, [0, -71])

    def test_less_than_in_a_value(self):
        self.assert_mark('<a b="<">', 0, [0, -71])
        self.assert_mark('<a b="&lt;" b="">', 0, [0, -22])
        self.assert_marks('<a b="&lt;"/>', [opening("a", 1), CLOSING])

    def test_a_name_of_16_and_17_bytes(self):
        name = "b" * 16
        self.assert_marks(f"<{name}></{name}>", [opening(name), CLOSING])
        self.assert_mark(f"<{name}b></{name}b>", 0, [0, -71])
        self.assert_mark(f'<a {name}b=""/>', 0, [0, -71])

    def test_32_and_33_deep(self):
        self.assert_marks(opened(32) + closed(32), [opening("a")] * 32 + [CLOSING] * 32)
        self.assert_mark(opened(33) + closed(33), 0, [0, -28])

    def test_a_closing_where_nothing_is_open(self):
        self.assert_mark("</a>", 0, [0, -71])

    def test_blanks_in_a_closing_and_before_a_name(self):
        self.assert_marks("<a></a >", [opening("a"), CLOSING])
        self.assert_marks("<a></a\n>", [opening("a"), CLOSING])
        self.assert_mark("<a></ a>", 0, [0, -71])
        self.assert_mark("< a></a>", 0, [0, -71])


class WhatIsHandedInAndGivenBack(KeepsNothing, PageCase):
    def ask(self, t):
        return [pg_mark(k, t) for k in (0, 1, 2, FAR_ABOVE)]


if __name__ == "__main__":
    unittest.main()
