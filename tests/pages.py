"""What the tests of several calls share: pages, rows of numbers, and what holds of every call."""

import sys
import unittest

MOST_BYTES = 16384
MOST_MARKS = 2048
FAR_ABOVE = 4294967295
BYTES_OF_A_PAGE = [10] + list(range(32, 256))
BYTES_OF_NO_PAGE = list(range(0, 10)) + list(range(11, 32))


def row(page):
    return list(page.encode("latin-1"))


def opened(depth):
    return "<a>" * depth


def closed(depth):
    return "</a>" * depth


def attributes(how_many):
    return "".join(f' a{k}=""' for k in range(how_many))


def with_count(page):
    return [len(page)] + row(page)


# Marks in the tests are ("text", content), ("opening", name, [(name, value), ..]) and ("closing", name).


def mark_in_numbers(mark):
    if mark[0] == "text":
        return [4] + with_count(mark[1])
    if mark[0] == "closing":
        return [3]
    return [2] + with_count(mark[1]) + [len(mark[2])]


def plain_characters(content):
    return content.replace("&", "&amp;").replace("<", "&lt;").replace(">", "&gt;").replace('"', "&quot;")


def plain_mark(mark):
    if mark[0] == "text":
        return plain_characters(mark[1])
    if mark[0] == "closing":
        return f"</{mark[1]}>"
    return "<" + mark[1] + "".join(f' {name}="{plain_characters(value)}"' for name, value in mark[2]) + ">"


def plain_page(marks):
    return "".join(plain_mark(mark) for mark in marks)


# Every way in which pg_read refuses, with the number that is then answered.
REFUSED_PAGES = (
    ("<", -71), ("x&", -71), ("&;", -71), ("&#0;", -71), ("&#256;", -71), ("\x00", -71), ("x\t", -71),
    ("<A/>", -71), ("< a/>", -71), ("<a></ a>", -71), ('<a b="<">', -71), ('<a b="<"/>', -71), ("<a b/>", -71),
    ("<a/></b>", -71), ("</a>", -71), ("x</a>", -71), ("<a></b>", -71), ("<a>", -71), ("x<a><b></b>", -71),
    ("<" + "a" * 17 + "/>", -71), ("<a/>" * 1023 + "x<a>", -71), ("x" * (MOST_BYTES - 1) + "<", -71),
    ('<a b="&lt;" b="">', -22), ('x<a b="" c="" b=""/>', -22), ("<a" + attributes(8) + ' a0=""/>', -22),
    ("<a" + attributes(9) + "/>", -28), ("x<a" + attributes(9) + "></a>", -28),
    (opened(33) + closed(33), -28), (opened(32) + "<a/>" + closed(32), -28),
    ("<a/>" * 1024 + "x", -28), ("<a/>" * 1025, -28), ("x" + "<a/>" * 1024, -28),
    ("x" * (MOST_BYTES + 1), -28), ("<" * 16400, -28), ("<a></a>" + " " * MOST_BYTES, -28),
)

RIGHT_PAGES = (
    "", "text", "<a/>", "<a></a>", '<a b="c">x&lt;<b/></a>', "&#10;", "x" * MOST_BYTES, "<a/>" * 1024,
    opened(32) + closed(32), "<a" + attributes(8) + "/>", '<a b="&quot;>" c=""\n>y\xff</a >z',
)

LONG_PAGES = (
    opened(5000), opened(32) + closed(32), "<a/>" * 4096, "<a/>" * 1024, "x" * MOST_BYTES, "&#65;" * 3276,
    "<a" + attributes(1500) + "/>", "<a" + " " * 16000 + "/>", "<" + "a" * 16000, '<a b="' + "&lt;" * 4000 + '"/>',
)


class PageCase(unittest.TestCase):
    """Tells two rows that differ by their fronts: laying long ones beside each other takes unittest many minutes."""

    def setUp(self):
        self.addTypeEqualityFunc(list, self.assert_same_row)

    def assert_same_row(self, answer, expected, msg=None):
        if answer != expected:
            at = [one == other for one, other in zip(answer, expected)] + [False]
            self.fail(f"{answer!r:.200} is not {expected!r:.200}, from {at.index(False)} on: {msg!r:.300}")


class KeepsNothing:
    """Tests of what holds of every call, for a page case whose ask(t) makes its calls, and lists their answers."""

    pages = RIGHT_PAGES + tuple(page for page, number in REFUSED_PAGES)

    def test_the_row_is_the_same_after_the_call(self):
        for page in self.pages:
            t = row(page)
            self.ask(t)
            self.assertEqual(t, row(page))

    def test_a_second_call_answers_the_same(self):
        first = [self.ask(row(page)) for page in self.pages]
        again = [self.ask(row(page)) for page in reversed(self.pages)]
        self.assertEqual(first, again[::-1])

    def test_what_was_given_back_is_not_kept(self):
        for page in self.pages:
            t = row(page)
            answers = self.ask(t)
            kept = [list(answer) for answer in answers]
            for answer in answers:
                answer.append(7)
                answer[0] = 9
            self.assertEqual(t, row(page))
            self.assertEqual(self.ask(t), kept)

    def test_lists_of_whole_numbers(self):
        for page in self.pages:
            for answer in self.ask(row(page)):
                self.assertIs(type(answer), list)
                self.assertEqual({type(number) for number in answer}, {int})

    def test_no_deep_nesting_of_calls(self):
        expected = [self.ask(row(page)) for page in LONG_PAGES]
        limit = sys.getrecursionlimit()
        sys.setrecursionlimit(150)
        try:
            answers = [self.ask(row(page)) for page in LONG_PAGES]
        finally:
            sys.setrecursionlimit(limit)
        self.assertEqual(answers, expected)
