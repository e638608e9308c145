"""Point 4 of the document: pg_plain, example by example."""

import unittest

from pages import (BYTES_OF_A_PAGE, MOST_BYTES, REFUSED_PAGES, KeepsNothing, PageCase, attributes, closed, opened, row,
                   with_count)
from strictpage.marks import pg_plain

NAMED = {"<": "&lt;", ">": "&gt;", "&": "&amp;", '"': "&quot;"}


class PlainCase(PageCase):
    def assert_plain(self, page, plain):
        self.assertEqual(pg_plain(row(page)), [6] + with_count(plain), repr(page[:200]))

    def assert_is_its_own(self, page):
        self.assert_plain(page, page)

    def assert_refused(self, page, number):
        self.assertEqual(pg_plain(row(page)), [0, number], repr(page[:200]))


class Texts(PlainCase):
    def test_in_numbers(self):
        self.assertEqual(pg_plain(row("Hi")), [6, 2, 72, 105])
        self.assertEqual(pg_plain(row(">")), [6, 4, 38, 103, 116, 59])

    def test_each_of_the_four_however_it_is_written(self):
        for sign, reference in NAMED.items():
            self.assert_is_its_own(reference)
            self.assert_plain(f"&#{ord(sign)};", reference)
            self.assert_plain(f"x&#{str(ord(sign)).zfill(3)};y", f"x{reference}y")
        self.assert_plain(">", "&gt;")
        self.assert_plain('"', "&quot;")
        self.assert_plain('a > "b"', "a &gt; &quot;b&quot;")
        self.assert_plain("<a/>/>", "<a></a>/&gt;")

    def test_all_other_bytes_as_they_are(self):
        for byte in BYTES_OF_A_PAGE:
            if byte not in row('<>&"'):
                for written in ([byte], row(f"&#{byte};"), row(f"&#{str(byte).zfill(3)};")):
                    self.assertEqual(pg_plain(written), [6, 1, byte])
        self.assert_is_its_own("one\ntwo  three\n \x80\xfe\xff'=/;#")
        self.assert_plain("&#72;&#105;&#10;&#32;&#233;", "Hi\n \xe9")

    def test_what_is_stood_for_is_not_read_again(self):
        self.assert_is_its_own("&amp;lt;")
        self.assert_plain("&#38;lt;", "&amp;lt;")
        self.assert_plain("&#38;#65;", "&amp;#65;")


class Tags(PlainCase):
    def test_openings_and_closings(self):
        self.assert_is_its_own("<a></a>")
        self.assert_is_its_own("<p>one <b>two</b> three</p>")
        self.assert_is_its_own("<a><a><a></a></a><b-2></b-2></a>x")
        self.assert_is_its_own('<a b="c"></a>')
        self.assert_is_its_own('<a b="c" d="" e="f g">x</a>')
        self.assert_is_its_own("<a" + attributes(8) + "></a>")

    def test_an_element_of_either_way_of_writing_has_one_form(self):
        self.assert_plain("<a/>", "<a></a>")
        self.assert_plain("<a></a>", "<a></a>")
        self.assert_plain("x<a/><b><c/></b>", "x<a></a><b><c></c></b>")
        self.assert_plain('<a b="c"/>', '<a b="c"></a>')

    def test_blanks_within_tags(self):
        self.assert_plain("<a />", "<a></a>")
        self.assert_plain("<a \n ></a\n\n >", "<a></a>")
        self.assert_plain('<a\nb="c"  \n d=""\n/>', '<a b="c" d=""></a>')
        self.assert_plain('<a   b="c" >x</a >', '<a b="c">x</a>')

    def test_blanks_outside_of_tags_and_in_values_are_kept(self):
        self.assert_is_its_own(' <a b=" \n ">\n </a>\n\n')
        self.assert_plain("<a /> <b />\n", "<a></a> <b></b>\n")

    def test_attributes_keep_their_order(self):
        self.assert_is_its_own('<a z="1" a="2" m="3"></a>')

    def test_names_of_1_and_16_bytes(self):
        for name in ("a", "z", "a" * 16, "qrstuvwxyz-01234"):
            self.assert_plain(f'<{name} {name}="{name}" />', f'<{name} {name}="{name}"></{name}>')


class Values(PlainCase):
    def assert_value(self, characters, plain):
        self.assert_plain(f'<a b="{characters}"/>', f'<a b="{plain}"></a>')
        self.assert_plain(f'<a c="" b="{characters}" d="e">x</a>', f'<a c="" b="{plain}" d="e">x</a>')

    def test_each_of_the_four_however_it_is_written(self):
        for sign, reference in NAMED.items():
            self.assert_value(reference, reference)
            self.assert_value(f"&#{ord(sign)};", reference)
            self.assert_value(f"x&#{str(ord(sign)).zfill(3)};y", f"x{reference}y")
        self.assert_value(">", "&gt;")
        self.assert_value("a > b", "a &gt; b")

    def test_all_other_bytes_as_they_are(self):
        for byte in BYTES_OF_A_PAGE:
            if byte not in row('<>&"'):
                sign = bytes([byte]).decode("latin-1")
                self.assert_value(sign, sign)
                self.assert_value(f"&#{byte};", sign)

    def test_empty(self):
        self.assert_value("", "")


class Refusals(PlainCase):
    def test_each_of_pg_read_s_told_as_its_number_alone(self):
        for page, number in REFUSED_PAGES:
            self.assert_refused(page, number)

    def test_a_longer_row_is_not_looked_at(self):
        self.assertEqual(pg_plain([None] * (MOST_BYTES + 1)), [0, -28])


class EdgesAndCorners(PlainCase):
    def test_no_bytes(self):
        self.assertEqual(pg_plain([]), [6, 0])

    def test_bytes(self):
        self.assert_is_its_own("x" * MOST_BYTES)
        self.assert_refused("x" * (MOST_BYTES + 1), -28)

    def test_a_one_form_of_more_than_16384_bytes(self):
        self.assert_plain("<a/>" + "x" * (MOST_BYTES - 4), "<a></a>" + "x" * (MOST_BYTES - 4))
        self.assert_plain(">" * MOST_BYTES, "&gt;" * MOST_BYTES)
        self.assert_plain('"' * MOST_BYTES, "&quot;" * MOST_BYTES)
        value = ">" * (MOST_BYTES - 9)
        self.assert_plain(f'<a b="{value}"/>', '<a b="' + "&gt;" * len(value) + '"></a>')
        page = f'<{"n" * 16}/>' * 862
        self.assert_plain(page, f'<{"n" * 16}></{"n" * 16}>' * 862)

    def test_2048_marks(self):
        self.assert_plain("<a/>" * 1024, "<a></a>" * 1024)
        self.assert_refused("<a/>" * 1024 + "x", -28)

    def test_32_and_33_deep(self):
        self.assert_is_its_own(opened(32) + closed(32))
        self.assert_plain(opened(31) + "<a/>" + closed(31), opened(32) + closed(32))
        self.assert_refused(opened(33) + closed(33), -28)

    def test_8_and_9_attributes(self):
        self.assert_plain("<a" + attributes(8) + "/>", "<a" + attributes(8) + "></a>")
        self.assert_refused("<a" + attributes(9) + "/>", -28)

    def test_references(self):
        self.assert_plain("&#10;", "\n")
        for page in ("&#256;", "&#0;", "&;"):
            self.assert_refused(page, -71)

    def test_less_than_in_a_value(self):
        self.assert_refused('<a b="<">', -71)
        self.assert_refused('<a b="&lt;" b="">', -22)
        self.assert_plain('<a b="&lt;"/>', '<a b="&lt;"></a>')

    def test_greater_than_in_a_text(self):
        self.assert_plain("<a>></a>>", "<a>&gt;</a>&gt;")

    def test_a_name_of_16_and_17_bytes(self):
        name = "a" * 16
        self.assert_plain(f"<{name}/>", f"<{name}></{name}>")
        self.assert_refused(f"<{name}a/>", -71)
        self.assert_refused(f'<a {name}a=""/>', -71)

    def test_a_closing_where_nothing_is_open(self):
        self.assert_refused("</a>", -71)

    def test_blanks_in_a_closing_and_before_a_name(self):
        self.assert_plain("<a></a >", "<a></a>")
        self.assert_plain("<a></a\n>", "<a></a>")
        self.assert_refused("<a></ a>", -71)
        self.assert_refused("< a></a>", -71)


class WhatIsHandedInAndGivenBack(KeepsNothing, PageCase):
    def ask(self, t):
        return [pg_plain(t)]


if __name__ == "__main__":
    unittest.main()
