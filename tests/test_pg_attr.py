"""Point 3 of the document: pg_attr, example by example."""

import unittest

from pages import (BYTES_OF_A_PAGE, FAR_ABOVE, MOST_BYTES, REFUSED_PAGES, RIGHT_PAGES, KeepsNothing, PageCase,
                   attributes, closed, opened, row, with_count)
from strictpage.marks import pg_attr, pg_mark, pg_read

NOT_THERE = [0, -2]


def attribute(name, value):
    return [5] + with_count(name) + with_count(value)


class AttributeCase(PageCase):
    def assert_attribute(self, page, k, j, answer):
        self.assertEqual(pg_attr(k, j, row(page)), answer, (k, j, page[:200]))

    def assert_attributes(self, page, k, pairs):
        """The attributes of mark k from 0 on, one by one in order, and none behind the last."""
        for j, (name, value) in enumerate(pairs):
            self.assert_attribute(page, k, j, attribute(name, value))
        self.assert_attribute(page, k, len(pairs), NOT_THERE)
        self.assert_attribute(page, k, FAR_ABOVE, NOT_THERE)

    def assert_value(self, characters, value):
        """In an opening of either way of writing, by itself and among other attributes."""
        self.assert_attribute(f'<a b="{characters}"/>', 0, 0, attribute("b", value))
        self.assert_attribute(f'<a b="{characters}"></a>', 0, 0, attribute("b", value))
        self.assert_attributes(f'x<a c="" b="{characters}" d="e"/>', 1, [("c", ""), ("b", value), ("d", "e")])


class OrdinaryAttributes(AttributeCase):
    def test_in_numbers(self):
        self.assertEqual(pg_attr(0, 0, row('<a b="cd"/>')), [5, 1, 98, 2, 99, 100])
        self.assertEqual(pg_attr(0, 0, row('<a b="cd"></a>')), [5, 1, 98, 2, 99, 100])
        self.assertEqual(pg_attr(0, 0, row('<a bc=""/>')), [5, 2, 98, 99, 0])

    def test_first_middle_and_last(self):
        pairs = [("one", "1"), ("two", "22"), ("three", "")]
        self.assert_attributes('<a one="1" two="22" three=""/>', 0, pairs)
        self.assert_attributes('<a\none="1"  two="22" \n three="" ></a >', 0, pairs)

    def test_each_of_eight(self):
        pairs = [(f"n{j}", "v" * j) for j in range(8)]
        written = "".join(f' {name}="{value}"' for name, value in pairs)
        self.assert_attributes(f"<a{written}/>", 0, pairs)
        self.assert_attributes(f"text<p><a{written}></a></p>", 2, pairs)

    def test_in_the_order_of_the_page_and_not_of_the_names(self):
        self.assert_attributes('<a z="1" a="2" m="3" a0="4"/>', 0, [("z", "1"), ("a", "2"), ("m", "3"), ("a0", "4")])

    def test_each_opening_has_its_own(self):
        page = '<p a="1"><p a="2" b="3"/>x<p a="4"></p></p><q a="5"/>'
        self.assert_attributes(page, 0, [("a", "1")])
        self.assert_attributes(page, 1, [("a", "2"), ("b", "3")])
        self.assert_attributes(page, 4, [("a", "4")])
        self.assert_attributes(page, 7, [("a", "5")])

    def test_names_of_1_and_16_bytes(self):
        for name in ("a", "z", "a" * 16, "abcdefghijklmnop", "qrstuvwxyz-01234", "a-", "x9"):
            self.assert_attributes(f'<a {name}="{name}"/>', 0, [(name, name)])
            self.assert_attributes(f'<{name} {name}=""></{name}>', 0, [(name, "")])

    def test_values_empty_and_long(self):
        self.assert_value("", "")
        for length in (1, 17, 255, 256, 5000):
            self.assert_value("x" * length, "x" * length)
        self.assert_value("&#120;" * 2000, "x" * 2000)

    def test_as_many_as_pg_mark_answers(self):
        for page in RIGHT_PAGES:
            for k in range(min(pg_read(row(page))[1], 40)):
                mark = pg_mark(k, row(page))
                how_many = mark[-1] if mark[0] == 2 else 0
                self.assertEqual([pg_attr(k, j, row(page))[0] for j in range(9)], [5] * how_many + [0] * (9 - how_many))


class WhatCharactersStandFor(AttributeCase):
    def test_bytes_as_they_are(self):
        for byte in BYTES_OF_A_PAGE:
            if byte not in row('<&"'):
                sign = bytes([byte]).decode("latin-1")
                self.assert_value(sign, sign)
                self.assert_value(f"x{sign}y", f"x{sign}y")

    def test_signs_of_tags_and_blanks(self):
        for value in (">", "/>", " ", "\n", " a=b \n", "'", "a > b", "a>", "\x80\xff", "lt; #65; ;"):
            self.assert_value(value, value)

    def test_named_references(self):
        self.assertEqual(pg_attr(0, 0, row('<a b="&lt;"/>')), [5, 1, 98, 1, 60])
        self.assertEqual(pg_attr(0, 0, row('<a b="&gt;"/>')), [5, 1, 98, 1, 62])
        self.assertEqual(pg_attr(0, 0, row('<a b="&amp;"/>')), [5, 1, 98, 1, 38])
        self.assertEqual(pg_attr(0, 0, row('<a b="&quot;"/>')), [5, 1, 98, 1, 34])
        self.assert_value("a&lt;b&gt;c&amp;d&quot;e", 'a<b>c&d"e')
        self.assert_value("&lt;&gt;&amp;&quot;", '<>&"')

    def test_number_references(self):
        for byte in BYTES_OF_A_PAGE:
            sign = bytes([byte]).decode("latin-1")
            for digits in (str(byte), str(byte).zfill(3)):
                self.assert_value(f"&#{digits};", sign)
                self.assert_value(f"x&#{digits};y", f"x{sign}y")
        self.assert_value("&#72;&#105;&#033;&lt;&#10;&#200;&amp;", "Hi!<\n\xc8&")

    def test_number_references_of_one_digit_are_refused_as_no_such_byte_may_be_in_a_page(self):
        for digit in range(10):
            self.assert_attribute(f'<a c="" b="&#{digit};"/>', 0, 0, [0, -71])

    def test_what_is_stood_for_is_not_read_again(self):
        self.assert_value("&amp;lt;", "&lt;")
        self.assert_value("&#38;#65;", "&#65;")
        self.assert_value("&#34; c=&#34;", '" c="')


class NotThere(AttributeCase):
    PAGE = '<p a="1" b="2">text<br/></p>'

    def test_mark_is_a_closing(self):
        for j in (0, 1, 2, FAR_ABOVE):
            self.assert_attribute(self.PAGE, 3, j, NOT_THERE)
            self.assert_attribute(self.PAGE, 4, j, NOT_THERE)
            self.assert_attribute('<a b="c"/>', 1, j, NOT_THERE)
            self.assert_attribute('<a b="c"></a>', 1, j, NOT_THERE)

    def test_mark_is_a_text(self):
        for j in (0, 1, 2, FAR_ABOVE):
            self.assert_attribute(self.PAGE, 1, j, NOT_THERE)
            self.assert_attribute("text", 0, j, NOT_THERE)
            self.assert_attribute(' b="c"', 0, j, NOT_THERE)

    def test_mark_is_not_there(self):
        for k in (5, 6, 2048, 2 ** 32 - 5, FAR_ABOVE):
            for j in (0, 1, FAR_ABOVE):
                self.assert_attribute(self.PAGE, k, j, NOT_THERE)

    def test_no_bytes(self):
        for k, j in ((0, 0), (0, FAR_ABOVE), (FAR_ABOVE, 0), (FAR_ABOVE, FAR_ABOVE)):
            self.assertEqual(pg_attr(k, j, []), NOT_THERE)

    def test_attribute_is_not_there(self):
        self.assert_attribute(self.PAGE, 0, 1, attribute("b", "2"))
        for j in (2, 3, 8, 65536, 2 ** 31, 2 ** 32 - 2, FAR_ABOVE):
            self.assert_attribute(self.PAGE, 0, j, NOT_THERE)
        self.assert_attribute("<a" + attributes(8) + "/>", 0, 8, NOT_THERE)

    def test_opening_of_no_attribute(self):
        for j in (0, 1, FAR_ABOVE):
            self.assert_attribute(self.PAGE, 2, j, NOT_THERE)
            self.assert_attribute("<a/>", 0, j, NOT_THERE)
            self.assert_attribute("<a ></a>", 0, j, NOT_THERE)


class Refusals(AttributeCase):
    def test_each_of_pg_read_s_told_as_its_number_alone_whatever_k_and_j_are(self):
        for page, number in REFUSED_PAGES:
            for k, j in ((0, 0), (0, 1), (1, 0), (1, FAR_ABOVE), (2047, 8), (FAR_ABOVE, 0), (FAR_ABOVE, FAR_ABOVE)):
                self.assert_attribute(page, k, j, [0, number])

    def test_attributes_ahead_of_what_is_refused_are_not_answered(self):
        self.assert_attribute('<a b="c"/><', 0, 0, [0, -71])
        self.assert_attribute('<a b="c">', 0, 0, [0, -71])
        self.assert_attribute('<a b="c"></a></a>', 0, 0, [0, -71])
        self.assert_attribute('<a b="c"/><a b="" b=""/>', 0, 0, [0, -22])
        self.assert_attribute('<a b="c"/><a' + attributes(9) + "/>", 0, 0, [0, -28])
        self.assert_attribute('<a b="c"/>' + "<a/>" * 1023 + "x", 0, 0, [0, -28])

    def test_a_longer_row_is_not_looked_at(self):
        self.assertEqual(pg_attr(0, 0, [None] * (MOST_BYTES + 1)), [0, -28])


class EdgesAndCorners(AttributeCase):
    def test_bytes(self):
        longest = "x" * (MOST_BYTES - 9)
        self.assert_attribute(f'<a b="{longest}"/>', 0, 0, attribute("b", longest))
        self.assert_attribute(f'<a b="{longest}x"/>', 0, 0, [0, -28])

    def test_2048_marks(self):
        page = "<a/>" * 1023 + '<b c="d"/>'
        self.assert_attributes(page, 2046, [("c", "d")])
        self.assert_attribute(page, 2044, 0, NOT_THERE)
        self.assert_attribute(page, 2047, 0, NOT_THERE)
        self.assert_attribute(page, 2048, 0, NOT_THERE)
        self.assert_attribute(page + "x", 2046, 0, [0, -28])

    def test_8_and_9_attributes(self):
        self.assert_attributes("<a" + attributes(8) + "/>", 0, [(f"a{j}", "") for j in range(8)])
        self.assert_attribute("<a" + attributes(9) + "/>", 0, 0, [0, -28])

    def test_an_empty_element(self):
        self.assert_attributes("<a/>", 0, [])
        self.assert_attributes("<a></a>", 0, [])

    def test_references(self):
        self.assert_value("&#10;", "\n")
        self.assert_value("&#255;", "\xff")
        for characters in ("&#256;", "&#0;", "&;", "&", "&lt"):
            self.assert_attribute(f'<a b="{characters}"/>', 0, 0, [0, -71])

    def test_less_than_in_a_value(self):
        self.assert_attribute('<a b="<">', 0, 0, [0, -71])
        self.assert_attribute('<a b="<"></a>', 0, 0, [0, -71])
        self.assert_attribute('<a b="&lt;" b="">', 0, 0, [0, -22])
        self.assert_attributes('<a b="&lt;" c=""/>', 0, [("b", "<"), ("c", "")])

    def test_greater_than_in_a_text(self):
        self.assert_attributes('<a b=">">></a>', 0, [("b", ">")])
        self.assert_attributes('><a b=""/>', 1, [("b", "")])

    def test_a_name_of_16_and_17_bytes(self):
        name = "b" * 16
        self.assert_attributes(f'<{name} {name}="c"/>', 0, [(name, "c")])
        self.assert_attribute(f'<a {name}b="c"/>', 0, 0, [0, -71])

    def test_32_and_33_deep(self):
        self.assert_attributes(opened(31) + '<a b="c"/>' + closed(31), 31, [("b", "c")])
        self.assert_attribute(opened(32) + '<a b="c"/>' + closed(32), 32, 0, [0, -28])

    def test_a_closing_where_nothing_is_open(self):
        self.assert_attribute("</a>", 0, 0, [0, -71])

    def test_blanks_in_a_closing_and_before_a_name(self):
        self.assert_attributes('<a b="c"></a\n>', 0, [("b", "c")])
        self.assert_attribute('<a b="c"></ a>', 0, 0, [0, -71])
        self.assert_attribute('< a b="c"></a>', 0, 0, [0, -71])


class WhatIsHandedInAndGivenBack(KeepsNothing, PageCase):
    def ask(self, t):
        return [pg_attr(k, j, t) for k, j in ((0, 0), (0, 1), (1, 0), (FAR_ABOVE, FAR_ABOVE))]


if __name__ == "__main__":
    unittest.main()
