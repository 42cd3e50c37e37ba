"""The rows behind a closing and behind an opening."""

from towpath.errors import NoStretch


def refuse_backward(first, last):
    # The stones are left out of the words: Python itself refuses to write out a very long number.
    if last < first:
        raise NoStretch("the last stone is less than the first one")


def closed(rows, first, last):
    refuse_backward(first, last)
    ahead = []
    behind = []
    start = first
    end = last
    for row in rows:
        # A stretch right beside the closing has no open stone between them, so it is joined as well.
        if row[1] + 1 < first:
            ahead.append(row)
        elif last + 1 < row[0]:
            behind.append(row)
        else:
            start = min(start, row[0])
            end = max(end, row[1])
    return ahead + [(start, end)] + behind


def opened(rows, first, last):
    refuse_backward(first, last)
    kept = []
    for row in rows:
        # Both may hold of one stretch: the opening then cuts it in two.
        if row[0] < first:
            kept.append((row[0], min(row[1], first - 1)))
        if last < row[1]:
            kept.append((max(row[0], last + 1), row[1]))
    return kept
