"""Pages and rows of numbers that the tests of several calls share."""

MOST_BYTES = 16384
MOST_MARKS = 2048
FAR_ABOVE = 4294967295
BYTES_OF_A_PAGE = [10] + list(range(32, 256))
BYTES_OF_NO_PAGE = list(range(0, 10)) + list(range(11, 32))


def row(page):
    return list(page.encode("latin-1"))


def opened(depth):
    return "<a>" * depth


def closed(depth):
    return "</a>" * depth


def attributes(how_many):
    return "".join(f' a{k}=""' for k in range(how_many))


def with_count(page):
    return [len(page)] + row(page)


# Every way in which pg_read refuses, with the number that is then answered.
REFUSED_PAGES = (
    ("<", -71), ("x&", -71), ("&;", -71), ("&#0;", -71), ("&#256;", -71), ("\x00", -71), ("x\t", -71),
    ("<A/>", -71), ("< a/>", -71), ("<a></ a>", -71), ('<a b="<">', -71), ('<a b="<"/>', -71), ("<a b/>", -71),
    ("<a/></b>", -71), ("</a>", -71), ("x</a>", -71), ("<a></b>", -71), ("<a>", -71), ("x<a><b></b>", -71),
    ("<" + "a" * 17 + "/>", -71), ("<a/>" * 1023 + "x<a>", -71), ("x" * (MOST_BYTES - 1) + "<", -71),
    ('<a b="&lt;" b="">', -22), ('x<a b="" c="" b=""/>', -22), ("<a" + attributes(8) + ' a0=""/>', -22),
    ("<a" + attributes(9) + "/>", -28), ("x<a" + attributes(9) + "></a>", -28),
    (opened(33) + closed(33), -28), (opened(32) + "<a/>" + closed(32), -28),
    ("<a/>" * 1024 + "x", -28), ("<a/>" * 1025, -28), ("x" + "<a/>" * 1024, -28),
    ("x" * (MOST_BYTES + 1), -28), ("<" * 16400, -28), ("<a></a>" + " " * MOST_BYTES, -28),
)

RIGHT_PAGES = (
    "", "text", "<a/>", "<a></a>", '<a b="c">x&lt;<b/></a>', "&#10;", "x" * MOST_BYTES, "<a/>" * 1024,
    opened(32) + closed(32), "<a" + attributes(8) + "/>", '<a b="&quot;>" c=""\n>y\xff</a >z',
)
