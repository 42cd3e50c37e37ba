"""The path as a plain set of closed stones, to hold the program against."""


def rows_of(stones):
    rows = []
    for stone in sorted(stones):
        if rows and rows[-1][1] == stone - 1:
            rows[-1] = (rows[-1][0], stone)
        else:
            rows.append((stone, stone))
    return rows


def every_set(path):
    for bits in range(1 << len(path)):
        yield {stone for place, stone in enumerate(path) if bits >> place & 1}


def stones_behind(stones, deed):
    word, first, last = deed
    over = set(range(first, last + 1))
    return stones | over if word == "close" else stones - over


def check_form(case, rows):
    """Point 3, and the kinds of point 2."""
    case.assertIs(type(rows), list)
    for row in rows:
        case.assertIs(type(row), tuple)
        case.assertEqual([type(stone) for stone in row], [int, int])
        case.assertLessEqual(row[0], row[1])
    for row, later in zip(rows, rows[1:]):
        case.assertLess(row[1] + 1, later[0])
