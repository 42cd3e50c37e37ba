"""What can be asked of the rows."""


def holds(row, stone):
    return row[0] <= stone and stone <= row[1]


def is_closed(rows, stone):
    return any([holds(row, stone) for row in rows])


def how_many(rows):
    return sum([row[1] - row[0] + 1 for row in rows])


def next_open(rows, stone):
    for row in rows:
        # The stone right behind a stretch is open: between it and the next stretch at least one is.
        if holds(row, stone):
            return row[1] + 1
    return stone
