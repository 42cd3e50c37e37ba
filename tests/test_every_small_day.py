"""Many small days, each held against a plain set of stones and against the last deed over each stone."""

import itertools
import unittest

from plain_stones import check_form, rows_of, stones_behind
from towpath.asking import how_many, is_closed, next_open
from towpath.day import behind, told
from towpath.errors import NoStretch
from towpath.stretches import closed, opened


def every_deed(path):
    return [(word, first, last) for word in ("close", "open") for first in path for last in path]


def is_refused(deed):
    return deed[2] < deed[1]


def plain_day(deeds):
    stones = set()
    answers = []
    for deed in deeds:
        if is_refused(deed):
            answers.append(None)
        else:
            later = stones_behind(stones, deed)
            answers.append(len(stones ^ later))
            stones = later
    return stones, answers


def last_word(deeds, stone):
    over = [deed for deed in deeds if deed[1] <= stone <= deed[2]]
    return over[-1][0] if over else "open"


def mixed_days(days, length, reach):
    """Long days that look mixed, the same ones on each run."""
    state = 1
    for _ in range(days):
        deeds = []
        for _ in range(length):
            drawn = []
            for _ in range(3):
                state = (state * 6364136223846793005 + 1442695040888963407) % 2 ** 64
                drawn.append(state >> 33)
            first = drawn[1] % (2 * reach + 1) - reach
            # One length in twelve is below nought, so that some deeds are refused.
            deeds.append((("close", "open")[drawn[0] % 2], first, first + drawn[2] % 12 - 1))
        yield deeds


class SmallDays(unittest.TestCase):
    def check_day(self, deeds, around):
        handed = list(deeds)
        rows = behind(handed)
        answers = told(handed)
        self.assertEqual(handed, list(deeds))
        stones, wanted = plain_day(deeds)
        self.assertEqual(rows, rows_of(stones), deeds)
        self.assertEqual(answers, wanted, deeds)
        self.assertEqual(len(answers), len(deeds))
        check_form(self, rows)
        for stone in around:
            self.assertIs(is_closed(rows, stone), last_word(deeds, stone) == "close", (deeds, stone))

    def check_days(self, path, length):
        around = range(path[0] - 1, path[-1] + 2)
        for deeds in itertools.product(every_deed(path), repeat=length):
            self.check_day(deeds, around)

    def test_every_day_of_up_to_two_deeds_on_five_stones(self):
        for length in range(3):
            self.check_days(range(-2, 3), length)

    def test_every_day_of_three_deeds_on_four_stones(self):
        self.check_days(range(-2, 2), 3)

    def test_every_day_of_four_deeds_on_two_stones(self):
        self.check_days(range(-1, 1), 4)

    def test_long_days(self):
        words = set()
        for deeds in mixed_days(200, 40, 20):
            self.check_day(deeds, range(-22, 34))
            words.update((deed[0], is_refused(deed)) for deed in deeds)
        self.assertEqual(len(words), 4)

    def test_the_modules_agree_deed_by_deed(self):
        for deeds in mixed_days(20, 40, 20):
            answers = told(deeds)
            rows = []
            for place, (word, first, last) in enumerate(deeds):
                deed = closed if word == "close" else opened
                if last < first:
                    with self.assertRaises(NoStretch):
                        deed(rows, first, last)
                    later = rows
                else:
                    later = deed(rows, first, last)
                    self.assertEqual(answers[place], abs(how_many(later) - how_many(rows)))
                    found = next_open(later, first)
                    self.assertEqual(found > last if word == "close" else found == first, True)
                rows = later
                self.assertEqual(behind(deeds[:place + 1]), rows)
                self.assertEqual(told(deeds[:place + 1]), answers[:place + 1])


if __name__ == "__main__":
    unittest.main()
