"""Regions as lists of bands, and the operations on them.

A row is a tuple that begins with the place where it begins and the place where it ends: a band, or a span of one.
"""


def rectangle_region(x, y, width, height):
    """Return the region of a rectangle."""
    if width <= 0 or height <= 0:
        return []
    return [(y, y + height, ((x, x + width),))]


def united(a, b):
    """Return the region of the squares of either region."""
    return _combined(a, b, _either)


def united_all(regions):
    """Return the region of the squares of any of some regions."""
    bands = sorted([band for region in regions for band in region])
    if not bands:
        return []
    edges = sorted(set([band[0] for band in bands] + [band[1] for band in bands]))
    united_bands = []
    begun = []
    at = 0
    for top, bottom in zip(edges, edges[1:]):
        begun = [band for band in begun if band[1] > top]
        while at < len(bands) and bands[at][0] == top:
            begun.append(bands[at])
            at += 1
        united_bands.append((top, bottom, _united_spans([span for band in begun for span in band[2]])))
    return _joined(united_bands)


def common(a, b):
    """Return the region of the squares that both regions have."""
    bands = []
    first = 0
    for top, bottom, spans in a:
        first = _first_ending_behind(b, first, top)
        at = first
        while at < len(b) and b[at][0] < bottom:
            bands.append((max(top, b[at][0]), min(bottom, b[at][1]), _common_spans(spans, b[at][2])))
            at += 1
    return _joined(bands)


def without(a, b):
    """Return the region of the squares of the first region that the second one does not have."""
    return _combined(a, b, _first_alone)


def shifted(region, dx, dy):
    """Return the region moved to the right and down."""
    return [
        (top + dy, bottom + dy, tuple([(begin + dx, end + dx) for begin, end in spans]))
        for top, bottom, spans in region
    ]


def scaled(region, n):
    """Return the region with n times n squares for each of its squares."""
    return [
        (n * top, n * bottom, tuple([(n * begin, n * end) for begin, end in spans]))
        for top, bottom, spans in region
    ]


def turned(region, height):
    """Return the region turned by a quarter in a picture of a height."""
    marks = _column_marks(region, height)
    columns = sorted(marks)
    # Where a mark stands twice, two rectangles touch, and nothing begins or ends there.
    open_marks = {}
    bands = []
    for column, behind in zip(columns, columns[1:]):
        for mark in marks[column]:
            if mark in open_marks:
                del open_marks[mark]
            else:
                open_marks[mark] = True
        places = sorted(open_marks)
        bands.append((column, behind, tuple(zip(places[::2], places[1::2]))))
    return _joined(bands)


def mirrored(region, width):
    """Return the region mirrored from left to right in a picture of a width."""
    return [
        (top, bottom, tuple([(width - end, width - begin) for begin, end in reversed(spans)]))
        for top, bottom, spans in region
    ]


def rectangles(region):
    """Return the rectangles of a region, from the top down and from the left."""
    return [(begin, top, end - begin, bottom - top) for top, bottom, spans in region for begin, end in spans]


def has_square(region, x, y):
    """Tell whether a region has the square."""
    for top, bottom, spans in region:
        if top <= y < bottom:
            return any([begin <= x < end for begin, end in spans])
    return False


def _either(first, second):
    return first or second


def _first_alone(first, second):
    return first and not second


def _combined(a, b, keeps):
    """Return the region of the squares that are kept, as it is asked by whether each of two regions has them."""
    return _joined([
        (top, bottom, _combined_spans(_spans_of(first), _spans_of(second), keeps))
        for top, bottom, first, second in _pieces(a, b)
    ])


def _combined_spans(a, b, keeps):
    spans = []
    for begin, end, first, second in _pieces(a, b):
        if not keeps(first is not None, second is not None):
            continue
        if spans and spans[-1][1] == begin:
            begin = spans.pop()[0]
        spans.append((begin, end))
    return tuple(spans)


def _united_spans(spans):
    """Return the spans of all places that any of some spans has."""
    found = []
    for begin, end in sorted(spans):
        if found and begin <= found[-1][1]:
            begin, reached = found.pop()
            end = max(end, reached)
        found.append((begin, end))
    return tuple(found)


def _common_spans(a, b):
    """Return the spans of all places that both lists of spans have."""
    found = []
    first = 0
    for begin, end in a:
        first = _first_ending_behind(b, first, begin)
        at = first
        while at < len(b) and b[at][0] < end:
            found.append((max(begin, b[at][0]), min(end, b[at][1])))
            at += 1
    return tuple(found)


def _spans_of(band):
    return () if band is None else band[2]


def _pieces(a, b):
    """Return the pieces between neighbouring edges of two lists of rows.

    A piece is a tuple (begin, end, row, row) with the row of each list in which it lies, or None.
    """
    edges = sorted(set([row[0] for row in a] + [row[1] for row in a] + [row[0] for row in b] + [row[1] for row in b]))
    pieces = []
    at_a = 0
    at_b = 0
    for begin, end in zip(edges, edges[1:]):
        at_a = _first_ending_behind(a, at_a, begin)
        at_b = _first_ending_behind(b, at_b, begin)
        pieces.append((begin, end, _row_from(a, at_a, begin), _row_from(b, at_b, begin)))
    return pieces


def _first_ending_behind(rows, at, place):
    """Return the index, at or behind a given one, of the first row that ends behind a place."""
    while at < len(rows) and rows[at][1] <= place:
        at += 1
    return at


def _row_from(rows, at, place):
    """Return the row at an index if it has begun at a place, otherwise None."""
    return rows[at] if at < len(rows) and rows[at][0] <= place else None


def _joined(bands):
    """Leave out bands without spans, and make one band of those that touch and have the same spans."""
    region = []
    for top, bottom, spans in bands:
        if not spans:
            continue
        if region and region[-1][1] == top and region[-1][2] == spans:
            top = region.pop()[0]
        region.append((top, bottom, spans))
    return region


def _column_marks(region, height):
    """Return for each column at which a span begins or ends the edges of its band, as they lie behind a quarter."""
    marks = {}
    for top, bottom, spans in region:
        for span in spans:
            for column in span:
                marks.setdefault(column, []).extend([height - bottom, height - top])
    return marks
