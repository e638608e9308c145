"""What holds over the whole program, a to d: on written pages, on all short ones and on many drawn ones."""

import itertools
import random
import unittest

from pages import (BYTES_OF_A_PAGE, FAR_ABOVE, MOST_BYTES, MOST_MARKS, RIGHT_PAGES, PageCase, closed, mark_in_numbers,
                   opened, plain_page, row, with_count)
from strictpage.marks import pg_attr, pg_mark, pg_plain, pg_read

NAMED = {"<": "&lt;", ">": "&gt;", "&": "&amp;", '"': "&quot;"}
SIGNS = '<>&"' * 4 + " \n;#/='abclt09-\x7f\x80\xff"
NAME_SIGNS = "abcxyz019-"

WRITTEN_PAGES = RIGHT_PAGES + (
    '<p class="x">one<br/>two</p>', "a &lt; b &amp;&amp; c", '<a b="&quot;&#10;>"\n/>\n<c />', "&amp;lt;", 
    "<a><b><c/></b>x</a><a/>", " ", "\n", "&#60;a/&#62;", '<b-1 c-="1" c="2">&#255;</b-1 >',
)


def bytes_of(answer):
    """The page that pg_plain has answered."""
    return answer[2:]


def marks_of(t):
    """All that pg_mark and pg_attr answer of a page, mark by mark."""
    marks = []
    for k in range(pg_read(t)[1]):
        mark = pg_mark(k, t)
        how_many = mark[-1] if mark[0] == 2 else 0
        marks.append((mark, [pg_attr(k, j, t) for j in range(how_many)]))
    return marks


def answers_of(marks):
    """What is to be answered of these marks."""
    return [(mark_in_numbers(mark), [[5] + with_count(name) + with_count(value) for name, value in mark[2]]
             if mark[0] == "opening" else []) for mark in marks]


def joined(marks, more):
    """The one's marks, then the other's; but texts that meet are one."""
    if marks and more and marks[-1][0][0] == 4 and more[0][0][0] == 4:
        text = marks[-1][0][2:] + more[0][0][2:]
        return marks[:-1] + [([4, len(text)] + text, [])] + more[1:]
    return marks + more


class Drawing:
    """Draws marks that may come of a page, and writes marks in one of their many ways; the same ones each time."""

    def __init__(self, seed):
        self.random = random.Random(seed)

    def some(self, signs, least, most):
        return "".join(self.random.choice(signs) for k in range(self.random.randint(least, most)))

    def name(self):
        return self.random.choice("abz") + self.some(NAME_SIGNS, 0, self.random.choice((1, 3, 15)))

    def attributes(self):
        names = [self.name() for k in range(self.random.choice((0, 0, 1, 2, 8)))]
        return [(name, self.some(SIGNS, 0, 5)) for name in dict.fromkeys(names)]

    def marks(self):
        """A row of marks, drawn one by one; two texts never stand side by side."""
        marks, names = [], []
        for k in range(self.random.randint(0, 16)):
            kinds = ["opening"] * (len(names) < 32)
            kinds += ["closing"] * (len(names) > 0)
            kinds += ["text"] * (not marks or marks[-1][0] != "text")
            kind = self.random.choice(kinds)
            if kind == "text":
                marks.append(("text", self.some(SIGNS, 1, 8)))
            elif kind == "opening":
                names.append(self.name())
                marks.append(("opening", names[-1], self.attributes()))
            else:
                marks.append(("closing", names.pop()))
        return marks + [("closing", name) for name in reversed(names)]

    def character(self, sign, as_it_is):
        ways = [f"&#{ord(sign)};", f"&#{str(ord(sign)).zfill(3)};"]
        if sign in NAMED:
            ways.append(NAMED[sign])
        if sign in as_it_is:
            ways += [sign] * 3
        return self.random.choice(ways)

    def text(self, content):
        return "".join(self.character(sign, set(content) - set("<&")) for sign in content)

    def value(self, content):
        return "".join(self.character(sign, set(content) - set('<&"')) for sign in content)

    def beginning(self, mark):
        blanks = [self.some(" \n", 1, 3) for pair in mark[2]]
        pairs = [f'{blank}{name}="{self.value(value)}"' for blank, (name, value) in zip(blanks, mark[2])]
        return "<" + mark[1] + "".join(pairs) + self.some(" \n", 0, 2)

    def page(self, marks):
        pieces, k = [], 0
        while k < len(marks):
            mark = marks[k]
            k += 1
            if mark[0] == "text":
                pieces.append(self.text(mark[1]))
            elif mark[0] == "closing":
                pieces.append(f"</{mark[1]}" + self.some(" \n", 0, 2) + ">")
            elif marks[k][0] == "closing" and self.random.random() < 0.5:
                pieces.append(self.beginning(mark) + "/>")
                k += 1
            else:
                pieces.append(self.beginning(mark) + ">")
        return "".join(pieces)


def drawn(how_many):
    for seed in range(how_many):
        drawing = Drawing(seed)
        yield drawing, drawing.marks()


def short_pages():
    pieces = ("<a>", "</a>", "<a/>", "<a />", '<a b=""/>', '<a b=">">', '<a b="&gt;">', "x", ">", "&#62;", "&gt;", "\n")
    for length in range(4):
        for page in itertools.product(pieces, repeat=length):
            if pg_read(row("".join(page)))[0] == 0:
                yield "".join(page)


class DrawnPages(PageCase):
    def test_drawn_pages_are_read_as_the_marks_they_were_written_from(self):
        for drawing, marks in drawn(600):
            page = drawing.page(marks)
            self.assertEqual(pg_read(row(page)), [0, len(marks)], repr(page))
            self.assertEqual(marks_of(row(page)), answers_of(marks), repr(page))
            self.assertEqual(pg_mark(len(marks), row(page)), [0, -2])
            self.assertEqual(pg_attr(FAR_ABOVE, 0, row(page)), [0, -2])


class WrittenAndRead(PageCase):
    def assert_read_back(self, page):
        t = row(page)
        plain = bytes_of(pg_plain(t))
        if len(plain) > MOST_BYTES:
            self.assertEqual(pg_read(plain[:16400]), [1, -28, 0])
        else:
            self.assertEqual(pg_read(plain), pg_read(t), repr(page[:200]))
            for k in [k for k in range(pg_read(t)[1] + 1) if k < 20 or k % 512 == 511]:
                self.assertEqual(pg_mark(k, plain), pg_mark(k, t), (k, page[:200]))
                self.assertEqual([pg_attr(k, j, plain) for j in range(9)], [pg_attr(k, j, t) for j in range(9)])

    def test_written_pages(self):
        for page in WRITTEN_PAGES:
            self.assert_read_back(page)

    def test_short_pages(self):
        for page in short_pages():
            self.assertEqual(marks_of(bytes_of(pg_plain(row(page)))), marks_of(row(page)), repr(page))

    def test_drawn_marks(self):
        for drawing, marks in drawn(600):
            plain = plain_page(marks)
            self.assertEqual(marks_of(row(plain)), answers_of(marks), repr(plain))
            self.assertEqual(pg_plain(row(plain)), [6] + with_count(plain))

    def test_at_the_edges(self):
        for page in ("<a/>" * 1024, opened(32) + closed(32), "x" * MOST_BYTES, ">" * 4096, ">" * 4097,
                     '<a b="' + ">" * 4000 + '"/>', "<a/>" + "x" * (MOST_BYTES - 7), "<a/>" + "x" * (MOST_BYTES - 6)):
            self.assert_read_back(page)


class OneForm(PageCase):
    def assert_one_form_just_where_same_marks(self, pages):
        marks_of_form, form_of_marks = {}, {}
        for page in pages:
            form, marks = str(pg_plain(row(page))), str(marks_of(row(page)))
            self.assertEqual(marks_of_form.setdefault(form, marks), marks, repr(page))
            self.assertEqual(form_of_marks.setdefault(marks, form), form, repr(page))

    def assert_is_its_own(self, page):
        answer = pg_plain(row(page))
        if len(bytes_of(answer)) <= MOST_BYTES:
            self.assertEqual(pg_plain(bytes_of(answer)), answer, repr(page[:200]))

    def test_short_pages(self):
        self.assert_one_form_just_where_same_marks(short_pages())
        for page in short_pages():
            self.assert_is_its_own(page)

    def test_written_pages(self):
        self.assert_one_form_just_where_same_marks([page for page in WRITTEN_PAGES if len(page) < 1000])
        for page in WRITTEN_PAGES:
            self.assert_is_its_own(page)

    def test_drawn_pages(self):
        self.assert_one_form_just_where_same_marks(
            drawing.page(marks) for drawing, marks in drawn(300) for again in range(3))

    def test_one_form_of_marks_written_in_many_ways(self):
        for drawing, marks in drawn(600):
            for again in range(4):
                page = drawing.page(marks)
                self.assertEqual(pg_plain(row(page)), [6] + with_count(plain_page(marks)), repr(page))
                self.assert_is_its_own(page)

    def test_other_marks_have_another_form(self):
        pages = ("<a/>", "<b/>", "<a/><a/>", "<a><a/></a>", '<a b=""/>', '<a c=""/>', '<a b="c"/>', '<a b="" c=""/>',
                 '<a c="" b=""/>', "<a> </a>", "<a/> ", " <a/>", "<a>\n</a>", "", "x", "X", "&amp;", "&amp;amp;")
        forms = [pg_plain(row(page)) for page in pages]
        for form, other in itertools.combinations(forms, 2):
            self.assertNotEqual(form, other)


class NumberedOrAsTheyAre(PageCase):
    def assert_same(self, page, other):
        self.assertEqual(marks_of(row(page)), marks_of(row(other)), (page, other))
        self.assertEqual(pg_read(row(page)), pg_read(row(other)))
        self.assertEqual(pg_plain(row(page)), pg_plain(row(other)))

    def test_every_byte(self):
        for byte in BYTES_OF_A_PAGE:
            sign = bytes([byte]).decode("latin-1")
            as_it_is = NAMED[sign] if sign in "<&" else sign
            for digits in (str(byte), str(byte).zfill(3)):
                self.assert_same(f"&#{digits};", as_it_is)
                self.assert_same(f"x&#{digits};y<a>&#{digits};</a>", f"x{as_it_is}y<a>{as_it_is}</a>")
                self.assert_same(f'<a b="&#{digits};"/>', f'<a b="{NAMED.get(sign, sign)}"/>')

    def test_drawn_texts(self):
        for seed in range(300):
            drawing = Drawing(seed)
            content = drawing.some(SIGNS.replace("<", "").replace("&", ""), 1, 30)
            numbered = "".join(f"&#{ord(sign)};" for sign in content)
            mixed = "".join(drawing.random.choice((sign, f"&#{ord(sign)};")) for sign in content)
            for other in (numbered, mixed):
                self.assert_same(content, other)
                self.assert_same(f"<a/>{content}<a>{content}</a>", f"<a/>{other}<a>{content}</a>")
            self.assertEqual(pg_mark(0, row(numbered)), [4] + with_count(content))


class BehindAnotherPage(PageCase):
    def assert_joined(self, page, other):
        marks = joined(marks_of(row(page)), marks_of(row(other)))
        self.assertEqual(pg_read(row(page + other)), [0, len(marks)], (page, other))
        self.assertEqual(marks_of(row(page + other)), marks, (page, other))
        plain = bytes_of(pg_plain(row(page))) + bytes_of(pg_plain(row(other)))
        self.assertEqual(bytes_of(pg_plain(row(page + other))), plain, (page, other))

    def test_written_pages(self):
        pages = [page for page in WRITTEN_PAGES if len(page) < 200]
        for page, other in itertools.product(pages, repeat=2):
            self.assert_joined(page, other)

    def test_short_pages(self):
        pages = [page for page in short_pages() if len(page) < 8]
        for page, other in itertools.product(pages, repeat=2):
            self.assert_joined(page, other)

    def test_texts_that_meet_are_one(self):
        self.assertEqual(pg_read(row("one" + "two")), [0, 1])
        self.assertEqual(pg_mark(0, row("a&lt;" + "lt;&amp;")), [4] + with_count("a<lt;&"))
        self.assertEqual(pg_read(row("<a/>x" + "y<b/>")), [0, 5])

    def test_drawn_pages(self):
        for drawing, marks in drawn(150):
            self.assert_joined(drawing.page(marks), drawing.page(drawing.marks()))

    def test_up_to_2048_marks(self):
        half = "<a/>" * 512
        self.assertEqual(pg_read(row(half + half)), [0, MOST_MARKS])
        self.assertEqual(pg_read(row(half + half + "x")), [1, -28, 4096])
        self.assertEqual(pg_plain(row(half + half)), [6] + with_count("<a></a>" * 1024))


if __name__ == "__main__":
    unittest.main()
