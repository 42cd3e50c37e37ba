"""A day: deeds done one after the other, on a path that begins with no stone closed."""

from towpath.asking import how_many
from towpath.errors import NoStretch
from towpath.stretches import closed, opened


def done(rows, deed):
    if deed[0] == "close":
        return closed(rows, deed[1], deed[2])
    return opened(rows, deed[1], deed[2])


def rows_and_answers(deeds):
    rows = []
    answers = []
    for deed in deeds:
        try:
            later = done(rows, deed)
        except NoStretch:
            answers.append(None)
        else:
            # A deed changes stones one way only, so those it changed are the whole difference.
            answers.append(abs(how_many(later) - how_many(rows)))
            rows = later
    return (rows, answers)


def behind(deeds):
    return rows_and_answers(deeds)[0]


def told(deeds):
    return rows_and_answers(deeds)[1]
