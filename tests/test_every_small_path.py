"""Every set of closed stones on a short piece of path, under every deed on and around it."""

import unittest

from plain_stones import every_set, rows_of
from towpath.errors import NoStretch
from towpath.stretches import closed, opened

STONES = range(-4, 4)
AROUND = range(-6, 6)


class EverySmallPath(unittest.TestCase):
    def check_every_deed(self, stones, first, last):
        rows = rows_of(stones)
        over = set(range(first, last + 1))
        self.assertEqual(closed(rows, first, last), rows_of(stones | over), (rows, first, last))
        self.assertEqual(opened(rows, first, last), rows_of(stones - over), (rows, first, last))
        self.assertEqual(rows, rows_of(stones))

    def check_refused(self, stones, first, last):
        rows = rows_of(stones)
        for deed in (closed, opened):
            with self.assertRaises(NoStretch):
                deed(rows, first, last)
        self.assertEqual(rows, rows_of(stones))

    def test_every_deed_on_every_set(self):
        for stones in every_set(STONES):
            for first in AROUND:
                for last in AROUND:
                    if last < first:
                        self.check_refused(stones, first, last)
                    else:
                        self.check_every_deed(stones, first, last)


if __name__ == "__main__":
    unittest.main()
