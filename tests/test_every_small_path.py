"""Every set of closed stones on a short piece of path, under every deed on and around it."""

import unittest

from towpath.errors import NoStretch
from towpath.stretches import closed, opened

STONES = range(-4, 4)
AROUND = range(-6, 6)


def rows_of(stones):
    rows = []
    for stone in sorted(stones):
        if rows and rows[-1][1] == stone - 1:
            rows[-1] = (rows[-1][0], stone)
        else:
            rows.append((stone, stone))
    return rows


def every_set():
    for bits in range(1 << len(STONES)):
        yield {stone for place, stone in enumerate(STONES) if bits >> place & 1}


class EverySmallPath(unittest.TestCase):
    def check_every_deed(self, stones, first, last):
        rows = rows_of(stones)
        over = set(range(first, last + 1))
        self.assertEqual(closed(rows, first, last), rows_of(stones | over), (rows, first, last))
        self.assertEqual(opened(rows, first, last), rows_of(stones - over), (rows, first, last))
        self.assertEqual(rows, rows_of(stones))

    def check_refused(self, stones, first, last):
        rows = rows_of(stones)
        for deed in (closed, opened):
            with self.assertRaises(NoStretch):
                deed(rows, first, last)
        self.assertEqual(rows, rows_of(stones))

    def test_every_deed_on_every_set(self):
        for stones in every_set():
            for first in AROUND:
                for last in AROUND:
                    if last < first:
                        self.check_refused(stones, first, last)
                    else:
                        self.check_every_deed(stones, first, last)


if __name__ == "__main__":
    unittest.main()
