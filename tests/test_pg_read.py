"""Point 1 of the document: pg_read, example by example."""

import unittest

from pages import (BYTES_OF_A_PAGE, BYTES_OF_NO_PAGE, MOST_BYTES, MOST_MARKS, KeepsNothing, PageCase, attributes,
                   closed, opened, row)
from strictpage.marks import pg_read


class ReadCase(PageCase):
    def assert_marks(self, page, how_many):
        self.assertEqual(pg_read(row(page)), [0, how_many], repr(page[:200]))

    def assert_refused(self, page, number, at):
        self.assertEqual(pg_read(row(page)), [1, number, at], repr(page[:200]))


class OrdinaryPages(ReadCase):
    def test_texts(self):
        self.assert_marks("hello", 1)
        self.assert_marks(" ", 1)
        self.assert_marks("\n", 1)
        self.assert_marks("two words\nand a row", 1)
        self.assert_marks("Quotes \" and ' and = and / and > are texts", 1)
        self.assert_marks("a&lt;b&gt;c&amp;d&quot;e", 1)

    def test_elements_of_both_ways_of_writing(self):
        self.assert_marks("<a/>", 2)
        self.assert_marks("<a></a>", 2)
        self.assert_marks("<a/><b/>", 4)
        self.assert_marks("<a></a><a></a>", 4)
        self.assert_marks("<a/><a></a>", 4)

    def test_elements_in_elements(self):
        self.assert_marks("<a><b></b></a>", 4)
        self.assert_marks("<a><b/></a>", 4)
        self.assert_marks("<a><a><a/></a><a/></a>", 8)
        self.assert_marks("<p>one <b>two</b> three</p>", 7)

    def test_texts_and_elements(self):
        self.assert_marks("one<a/>two", 4)
        self.assert_marks("<a>one</a>two<b/>three", 7)
        self.assert_marks("<a> </a>", 3)
        self.assert_marks("<a>\n</a>\n", 4)
        self.assert_marks("<a/> <a/>", 5)

    def test_attributes(self):
        self.assert_marks('<a b="c"/>', 2)
        self.assert_marks('<a b="c"></a>', 2)
        self.assert_marks('<a b=""/>', 2)
        self.assert_marks('<a b="1" c="2" d="3">x</a>', 3)
        self.assert_marks('<a a="a"/>', 2)
        self.assert_marks('<a b="&lt;&gt;&amp;&quot;&#65;"/>', 2)
        self.assert_marks('<a b=" \n>/=\'x"/>', 2)

    def test_same_attribute_in_two_elements(self):
        self.assert_marks('<a b=""><a b=""/></a><a b=""/>', 6)

    def test_names_of_attributes_that_begin_alike(self):
        self.assert_marks('<a b="" bb="" b-="" b0=""/>', 2)

    def test_blanks_where_they_may_be(self):
        self.assert_marks("<a />", 2)
        self.assert_marks("<a ></a>", 2)
        self.assert_marks("<a \n \n></a \n >", 2)
        self.assert_marks("<a\n/>", 2)
        self.assert_marks('<a \n b="c"\n\n  d="e" />', 2)
        self.assert_marks('<a b="c" ></a>', 2)

    def test_names(self):
        for name in ("a", "z", "h1", "a-", "a-b", "a--", "a0-9z", "abcdefghijklmnop", "qrstuvwxyz-01234"):
            self.assert_marks(f"<{name}/>", 2)
            self.assert_marks(f"<{name}></{name}>", 2)
            self.assert_marks(f'<a {name}="x"/>', 2)

    def test_every_byte_that_may_be_in_a_page(self):
        for byte in BYTES_OF_A_PAGE:
            if byte not in row("<&"):
                self.assertEqual(pg_read([byte]), [0, 1], byte)
                self.assertEqual(pg_read([65, byte, 65]), [0, 1], byte)
            if byte not in row('<&"'):
                self.assertEqual(pg_read(row('<a b="') + [byte] + row('"/>')), [0, 2], byte)

    def test_every_byte_by_its_number(self):
        for byte in BYTES_OF_A_PAGE:
            for digits in (str(byte), str(byte).zfill(3)):
                self.assert_marks(f"&#{digits};", 1)
                self.assert_marks(f"x&#{digits};y", 1)
                self.assert_marks(f'<a b="&#{digits};"/>', 2)

    def test_references_do_not_end_a_text(self):
        self.assert_marks("&#60;a/>", 1)
        self.assert_marks("&lt;a/&gt;", 1)
        self.assert_marks("a&#60;b&amp;c&#38;lt;d", 1)
        self.assert_marks('<a b="&#34;&quot;"/>', 2)


class NoMark(ReadCase):
    def assert_no_mark(self, piece):
        """Refused where it begins, at the page's front, behind marks, and within an element."""
        self.assert_refused(piece, -71, 0)
        self.assert_refused("one<a/>" + piece, -71, 7)
        self.assert_refused("<a>" + piece + "</a>", -71, 3)
        self.assert_refused("<a/>" + piece + "<b/>", -71, 4)

    def test_wrong_beginnings(self):
        for piece in ("<>", "<A/>", "<1/>", "<-a/>", "< a/>", "<\na/>", "<aB/>", "<a_b/>", "<!a>", "<?a?>",
                      "<a/ >", "<a//>", "<a/b>", "<a=b>", '<a="b">', "<a<b/>", "<a&lt;/>", "<a\xe9/>", "<!-- a -->"):
            self.assert_no_mark(piece)

    def test_signs_that_lie_beside_those_of_a_name(self):
        for sign in "`{@[,.:;_":
            self.assert_no_mark(f"<{sign}></{sign}>")
            self.assert_no_mark(f"<a{sign}></a{sign}>")
            self.assert_no_mark(f'<a {sign}="b"/>')
            self.assert_no_mark(f'<a b{sign}="c"/>')
            self.assert_refused(f"<a></a{sign}>", -71, 3)

    def test_beginnings_cut_off(self):
        whole = '<a bc="d&lt;e" f=""/>'
        for length in range(1, len(whole)):
            self.assert_refused(whole[:length], -71, 0)
            self.assert_refused("x" + whole[:length], -71, 1)
        self.assert_marks(whole, 2)

    def test_wrong_attributes(self):
        for attribute in ("b", "b=", "b=c", "b='c'", 'b ="c"', 'b= "c"', 'b="c', 'b=c"', 'B="c"', '1="c"', '="c"',
                          'b""', 'b="c"d="e"', 'b=="c"', '-b="c"', 'b="c""', 'bB="c"', '"c"', 'b="c" d', 'b:c="d"',
                          'b="<"', 'b="&"', 'b="&;"', 'b="a&b"', 'b="c<d"', 'b="&#0;"', 'b="&#256;"', 'b=""c""'):
            self.assert_no_mark(f"<a {attribute}/>")
            self.assert_no_mark(f"<a {attribute}>")

    def test_attribute_without_blanks_before_it(self):
        self.assert_no_mark('<a"b"/>')
        self.assert_no_mark('<a b="c"d="e"/>')

    def test_wrong_ends(self):
        for end in ("</>", "</ a>", "</\na>", "< /a>", "</a", "</a ", "</a/>", "</A>", "</a b>", '</a b="">',
                    "</1>", "<//a>", "</", "</a<", "</a&gt;"):
            self.assert_refused("<a>" + end, -71, 3)
            self.assert_refused("<a>x" + end, -71, 4)

    def test_end_with_another_name(self):
        self.assert_refused("<a></b>", -71, 3)
        self.assert_refused("<a></aa>", -71, 3)
        self.assert_refused("<aa></a>", -71, 4)
        self.assert_refused("<a></a-></a>", -71, 3)
        self.assert_refused("<a><b></a></b>", -71, 6)
        self.assert_refused("<a><b/></b></a>", -71, 7)
        self.assert_refused("<a><b></b></b>", -71, 10)

    def test_end_where_nothing_is_open(self):
        self.assert_refused("</a>", -71, 0)
        self.assert_refused("x</a>", -71, 1)
        self.assert_refused("<a/></a>", -71, 4)
        self.assert_refused("<a></a></a>", -71, 7)
        self.assert_refused("<a></a>x</a>y", -71, 8)

    def test_text_with_a_wrong_character_is_refused_where_it_begins(self):
        for character in ("&", "&;", "&lt", "&lt ;", "&LT;", "&Lt;", "&apos;", "&nbsp;", "& lt;", "&&lt;", "&l;",
                          "&#;", "&#", "&#x41;", "&#a;", "&# 65;", "&#65", "&#65 ;", "&#6 5;", "&#-1;", "&#+65;",
                          "&#0065;", "&#0010;", "&#1000;", "&#6553;", "&amp", "&quot", "&am;", "&lt&gt;"):
            self.assert_refused(character, -71, 0)
            self.assert_refused("some words" + character + "more", -71, 0)
            self.assert_refused("<a/>some words" + character, -71, 4)
            self.assert_refused("<a>words" + character + "</a>", -71, 3)
            self.assert_refused("w&gt;" + character + "<a/>", -71, 0)

    def test_numbers_of_bytes_that_may_not_be_in_a_page(self):
        for number in BYTES_OF_NO_PAGE + list(range(256, 1000)):
            for digits in (str(number), str(number).zfill(3)):
                self.assert_refused(f"&#{digits};", -71, 0)
                self.assert_refused(f"<a/>x&#{digits};", -71, 4)
                self.assert_refused(f'x<a b="&#{digits};"/>', -71, 1)

    def test_bytes_that_may_not_be_in_a_page(self):
        for byte in BYTES_OF_NO_PAGE:
            sign = bytes([byte]).decode("latin-1")
            self.assert_refused(sign, -71, 0)
            self.assert_refused(f"text{sign}", -71, 0)
            self.assert_refused(f"<a/>text{sign}text", -71, 4)
            self.assert_refused(f'text<a b="{sign}"/>', -71, 4)
            self.assert_refused(f'text<a b="x{sign}y"/>', -71, 4)
            self.assert_refused(f"text<a{sign}/>", -71, 4)
            self.assert_refused(f'text<a{sign}b="c"/>', -71, 4)
            self.assert_refused(f"text<{sign}a/>", -71, 4)
            self.assert_refused(f"<a></a{sign}>", -71, 3)
            self.assert_refused(f"<a></{sign}a>", -71, 3)

    def test_something_still_open_at_the_end(self):
        self.assert_refused("<a>", -71, 3)
        self.assert_refused("<a>text", -71, 7)
        self.assert_refused("<a><b></b>", -71, 10)
        self.assert_refused("<a><b/>", -71, 7)
        self.assert_refused("<a></a><a>", -71, 10)
        self.assert_refused('<a b="c">\n', -71, 10)
        self.assert_refused(opened(32), -71, 96)


class SameName(ReadCase):
    def test_two_attributes_of_one_name(self):
        self.assert_refused('<a b="" b=""/>', -22, 0)
        self.assert_refused('<a b="1" b="2"></a>', -22, 0)
        self.assert_refused('<a b="1" c="2" b="1"/>', -22, 0)
        self.assert_refused('<a c="" b="" d="" b="">', -22, 0)
        self.assert_refused('<a b="" c="" c="" b=""/>', -22, 0)

    def test_where_the_element_begins(self):
        self.assert_refused('text<a b="" b=""/>', -22, 4)
        self.assert_refused('<a><a b="" b=""></a></a>', -22, 3)
        self.assert_refused('<a b=""/><a b="" b=""/>', -22, 9)

    def test_first_and_last_of_eight(self):
        self.assert_refused("<a" + attributes(7) + ' a0=""/>', -22, 0)

    def test_long_names(self):
        name = "abcdefghijklmno"
        self.assert_marks(f'<a {name}p="" {name}q=""/>', 2)
        self.assert_refused(f'<a {name}p="" {name}p=""/>', -22, 0)


class TooMuch(ReadCase):
    def test_bytes(self):
        self.assert_marks("x" * MOST_BYTES, 1)
        self.assert_refused("x" * (MOST_BYTES + 1), -28, 0)
        self.assert_refused("x" * 16400, -28, 0)

    def test_bytes_in_elements(self):
        page = "<a>" + "x" * (MOST_BYTES - 7) + "</a>"
        self.assert_marks(page, 3)
        self.assert_refused(page + "x", -28, 0)
        value = '<a b="' + "x" * (MOST_BYTES - 9) + '"/>'
        self.assert_marks(value, 2)
        self.assert_refused(" " + value, -28, 0)

    def test_refusals_at_the_last_byte(self):
        self.assert_refused("x" * (MOST_BYTES - 1) + "<", -71, MOST_BYTES - 1)
        self.assert_refused("x" * (MOST_BYTES - 3) + "<a>", -71, MOST_BYTES)
        self.assert_refused("x" * (MOST_BYTES - 1) + "&", -71, 0)

    def test_attributes(self):
        self.assert_marks("<a" + attributes(8) + "/>", 2)
        self.assert_marks("<a" + attributes(8) + "></a>", 2)
        self.assert_refused("<a" + attributes(9) + "/>", -28, 0)
        self.assert_refused("<a" + attributes(9) + "></a>", -28, 0)
        self.assert_refused("text<a>" + "<a" + attributes(9) + "/></a>", -28, 7)
        self.assert_refused("<a" + attributes(1000) + "/>", -28, 0)

    def test_attributes_of_several_elements_are_counted_apart(self):
        self.assert_marks("<a" + attributes(8) + "><a" + attributes(8) + "/></a>", 4)

    def test_depth(self):
        self.assert_marks(opened(32) + closed(32), 64)
        self.assert_marks(opened(31) + "<a/>" + closed(31), 64)
        self.assert_marks(opened(32) + "text" + closed(32), 65)
        self.assert_refused(opened(33) + closed(33), -28, 96)
        self.assert_refused(opened(32) + "<a/>" + closed(32), -28, 96)
        self.assert_refused("text" + opened(32) + "more<b/>", -28, 104)
        self.assert_refused(opened(5000), -28, 96)

    def test_depth_is_of_what_is_open(self):
        self.assert_marks("<a></a>" * 40, 80)
        self.assert_marks("<a/>" * 40, 80)
        self.assert_marks(opened(32) + closed(1) + "<a/>" + "<a></a>" + closed(31), 68)


class MostMarks(ReadCase):
    def test_2048_marks(self):
        self.assert_marks("<a/>" * 1024, 2048)
        self.assert_marks("<a></a>" * 1024, 2048)
        self.assert_marks("<a/>x" * 682 + "<a/>", 2048)
        self.assert_marks("x<a/>" * 682 + "x", 2047)
        self.assert_marks("<b>" + "<a/>" * 1023 + "</b>", 2048)

    def test_the_2049th_is_a_text(self):
        self.assert_refused("<a/>" * 1024 + "x", -28, 4096)
        self.assert_refused("<a/>" * 1024 + "xyz<a/>", -28, 4096)
        self.assert_refused("<b>" + "<a/>" * 1023 + "<a>x</a></b>", -28, 3 + 4092 + 3)

    def test_the_2049th_is_an_opening(self):
        self.assert_refused("<a/>" * 1024 + "<a></a>", -28, 4096)
        self.assert_refused("<a/>" * 1024 + "<a>", -28, 4096)

    def test_the_2049th_is_a_closing(self):
        front = "x<a/>" * 682 + "x"
        self.assert_refused(front + "<a></a>", -28, len(front) + 3)
        self.assert_refused("<b>" + "<a/>" * 1023 + "x</b>", -28, 3 + 4092 + 1)

    def test_an_element_closed_at_once_is_the_2049th(self):
        self.assert_refused("<a/>" * 1024 + "<a/>", -28, 4096)
        self.assert_refused("<a/>" * 4096, -28, 4096)

    def test_an_element_closed_at_once_brings_the_2049th(self):
        front = "x<a/>" * 682 + "x"
        self.assert_marks(front, 2047)
        self.assert_refused(front + "<a/>", -28, len(front))

    def test_an_opening_that_is_the_2048th_is_not_refused_itself(self):
        front = "x<a/>" * 682 + "x"
        self.assert_refused(front + "<a>", -71, len(front) + 3)


class WhichComesFirst(ReadCase):
    def test_too_many_bytes_before_all_else(self):
        for piece in ("<", "&", "</a>", '<a b="" b="">', "<a>", "\x00", "<a/>" * 1025, opened(33)):
            self.assert_refused(piece + "x" * MOST_BYTES, -28, 0)

    def test_a_longer_row_is_not_looked_at(self):
        self.assertEqual(pg_read([None] * (MOST_BYTES + 1)), [1, -28, 0])

    def test_what_is_further_in_front(self):
        self.assert_refused('<a b="" b=""/></b>', -22, 0)
        self.assert_refused('</b><a b="" b=""/>', -71, 0)
        self.assert_refused("<a" + attributes(9) + "/>&", -28, 0)
        self.assert_refused("x&<a" + attributes(9) + "/>", -71, 0)
        self.assert_refused("<a>&</a>", -71, 3)
        self.assert_refused("<a><b>&", -71, 6)
        self.assert_refused("<a></b", -71, 3)

    def test_no_beginning_before_same_names(self):
        self.assert_refused('x<a b="" b="" c/>', -71, 1)
        self.assert_refused('x<a b="" b=""', -71, 1)
        self.assert_refused('x<a b="" b="&"/>', -71, 1)
        self.assert_refused('x<a b="" b="" /', -71, 1)

    def test_no_beginning_before_too_many_attributes(self):
        self.assert_refused("<a" + attributes(9), -71, 0)
        self.assert_refused("<a" + attributes(9) + " b", -71, 0)
        self.assert_refused("<a" + attributes(9) + " 1/>", -71, 0)

    def test_no_beginning_before_too_deep(self):
        self.assert_refused(opened(32) + "<a", -71, 96)
        self.assert_refused(opened(32) + "<A>", -71, 96)

    def test_same_names_before_too_many_attributes(self):
        self.assert_refused("<a" + attributes(9) + ' a0=""/>', -22, 0)
        self.assert_refused("<a" + attributes(8) + ' a7=""/>', -22, 0)
        self.assert_refused("<a" + ' b=""' * 9 + "/>", -22, 0)

    def test_same_names_before_too_deep(self):
        self.assert_refused(opened(32) + '<a b="" b=""/>', -22, 96)

    def test_at_the_2049th_mark_what_is_no_mark_comes_first(self):
        full = "<a/>" * 1024
        for piece in ("x&", "&;", "x\x00", "<", "<A/>", "</a>", "</", '<a b="<"/>', "<a" + attributes(9)):
            self.assert_refused(full + piece, -71, len(full))
        self.assert_refused("<b>" + "<a/>" * 1023 + "x</a>", -71, 3 + 4092 + 1)

    def test_at_the_2049th_mark_same_names_come_first(self):
        full = "<a/>" * 1024
        self.assert_refused(full + '<a b="" b=""/>', -22, len(full))
        self.assert_refused(full + '<a b="" b="">', -22, len(full))

    def test_the_2049th_mark_before_what_is_still_open(self):
        self.assert_refused("<b>" + "<a/>" * 1023 + "<a>" + "x", -28, 3 + 4092 + 3)

    def test_too_many_marks_before_what_is_wrong_further_back(self):
        self.assert_refused("<a/>" * 1024 + "x<", -28, 4096)


class Corners(ReadCase):
    def test_no_bytes(self):
        self.assertEqual(pg_read([]), [0, 0])

    def test_an_empty_element(self):
        self.assert_marks("<a/>", 2)
        self.assert_marks("<a></a>", 2)

    def test_references(self):
        self.assert_marks("&#10;", 1)
        self.assert_refused("&#256;", -71, 0)
        self.assert_refused("&#0;", -71, 0)
        self.assert_refused("&;", -71, 0)
        self.assert_marks("&#255;", 1)
        self.assert_marks("&#32;", 1)
        self.assert_refused("&#31;", -71, 0)

    def test_less_than_in_a_value(self):
        self.assert_refused('<a b="<">', -71, 0)
        self.assert_refused('<a b="&lt;" b="">', -22, 0)
        self.assert_marks('<a b="&lt;"/>', 2)

    def test_greater_than_in_a_text(self):
        self.assert_marks(">", 1)
        self.assert_marks("a > b", 1)
        self.assert_marks("<a>></a>", 3)
        self.assert_marks("<a/>/>", 3)

    def test_a_name_of_16_and_17_bytes(self):
        name = "a" * 16
        self.assert_marks(f"<{name}/>", 2)
        self.assert_marks(f"<{name}></{name}>", 2)
        self.assert_marks(f'<a {name}=""/>', 2)
        self.assert_refused(f"<{name}a/>", -71, 0)
        self.assert_refused(f"<{name}a></{name}a>", -71, 0)
        self.assert_refused(f"<{name}></{name}a>", -71, 18)
        self.assert_refused(f'<a {name}a=""/>', -71, 0)
        self.assert_refused(f'x<a b="" {name}-=""/>', -71, 1)

    def test_32_and_33_deep(self):
        self.assert_marks(opened(32) + closed(32), 64)
        self.assert_refused(opened(33) + closed(33), -28, 96)

    def test_2048_marks(self):
        self.assert_marks("<a/>" * 1024, MOST_MARKS)

    def test_a_closing_where_nothing_is_open(self):
        self.assert_refused("</a>", -71, 0)

    def test_blanks_in_a_closing(self):
        self.assert_marks("<a></a >", 2)
        self.assert_marks("<a></a\n>", 2)
        self.assert_refused("<a></ a>", -71, 3)
        self.assert_refused("<a></\na>", -71, 3)

    def test_blanks_before_a_name(self):
        self.assert_refused("< a/>", -71, 0)
        self.assert_refused("<\na></a>", -71, 0)


class WhatIsHandedInAndGivenBack(KeepsNothing, PageCase):
    def ask(self, t):
        return [pg_read(t)]


if __name__ == "__main__":
    unittest.main()
