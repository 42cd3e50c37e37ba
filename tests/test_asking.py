import unittest

from plain_stones import every_set, rows_of
from towpath.asking import how_many, is_closed, next_open

FAR = 10 ** 18
LONG = 10 ** 12
BEYOND = 10 ** 5000
ROWS = [(-9, -5), (-3, -3), (0, 8), (20, 22)]


class AskingCase(unittest.TestCase):
    def check(self, ask, rows, stone, wanted):
        handed = list(rows)
        answer = ask(handed, stone)
        self.assertEqual(answer, wanted)
        self.assertIs(type(answer), type(wanted))
        self.assertEqual(handed, rows)


class IsClosed(AskingCase):
    def check_closed(self, rows, stones):
        for stone in stones:
            self.check(is_closed, rows, stone, True)

    def check_not(self, rows, stones):
        for stone in stones:
            self.check(is_closed, rows, stone, False)

    def test_on_the_empty_list(self):
        self.check_not([], [0, 1, -1, FAR, -FAR, BEYOND, -BEYOND])

    def test_on_one_stretch(self):
        self.check_closed([(3, 7)], [3, 4, 5, 6, 7])
        self.check_not([(3, 7)], [2, 8, 0, -3, -5, -7, 100])

    def test_below_nought(self):
        self.check_closed([(-7, -3)], [-7, -5, -3])
        self.check_not([(-7, -3)], [-8, -2, 0, 3, 5, 7])

    def test_across_nought(self):
        self.check_closed([(-2, 2)], [-2, -1, 0, 1, 2])
        self.check_not([(-2, 2)], [-3, 3])

    def test_a_stretch_of_one_stone(self):
        for stone in (-4, 0, 4):
            self.check_closed([(stone, stone)], [stone])
            self.check_not([(stone, stone)], [stone - 1, stone + 1])

    def test_one_stone_between_two_stretches(self):
        self.check_not([(1, 3), (5, 9)], [4])
        self.check_closed([(1, 3), (5, 9)], [3, 5])

    def test_on_several_stretches(self):
        self.check_closed(ROWS, [-9, -7, -5, -3, 0, 4, 8, 20, 21, 22])
        self.check_not(ROWS, [-10, -4, -2, -1, 9, 14, 19, 23])

    def test_far_out(self):
        self.check_closed([(-FAR, FAR)], [-FAR, -FAR + 1, 0, FAR - 1, FAR])
        self.check_not([(-FAR, FAR)], [-FAR - 1, FAR + 1])
        self.check_closed([(-FAR, -FAR), (FAR, FAR)], [-FAR, FAR])
        self.check_not([(-FAR, -FAR), (FAR, FAR)], [-FAR - 1, -FAR + 1, 0, FAR - 1, FAR + 1])
        self.check_closed([(-BEYOND, BEYOND)], [-BEYOND, 0, BEYOND])
        self.check_not([(-BEYOND, BEYOND)], [-BEYOND - 1, BEYOND + 1])


class HowMany(unittest.TestCase):
    def check_many(self, rows, wanted):
        handed = list(rows)
        answer = how_many(handed)
        self.assertEqual(answer, wanted)
        self.assertIs(type(answer), int)
        self.assertEqual(handed, rows)

    def test_nought_on_the_empty_list(self):
        self.check_many([], 0)

    def test_one_stone(self):
        for stone in (-4, 0, 4, FAR, -FAR):
            self.check_many([(stone, stone)], 1)

    def test_one_stretch(self):
        self.check_many([(3, 7)], 5)
        self.check_many([(-7, -3)], 5)
        self.check_many([(-2, 2)], 5)
        self.check_many([(0, 1)], 2)

    def test_stones_are_told_and_not_stretches(self):
        self.check_many([(1, 1), (3, 3), (5, 5)], 3)
        self.check_many([(1, 3), (5, 9)], 8)
        self.check_many(ROWS, 5 + 1 + 9 + 3)

    def test_long_stretches(self):
        self.check_many([(1, LONG)], LONG)
        self.check_many([(-LONG, LONG)], 2 * LONG + 1)
        self.check_many([(-FAR, -1), (1, FAR)], 2 * FAR)
        self.check_many([(-BEYOND, BEYOND)], 2 * BEYOND + 1)


class NextOpen(AskingCase):
    def check_next(self, rows, stone, wanted):
        self.check(next_open, rows, stone, wanted)

    def test_an_open_stone_is_its_own_answer(self):
        for stone in (-10, -4, -2, -1, 9, 14, 19):
            self.check_next(ROWS, stone, stone)

    def test_on_the_empty_list(self):
        for stone in (0, 7, -7, FAR, -FAR, BEYOND, -BEYOND):
            self.check_next([], stone, stone)

    def test_ahead_of_all_and_behind_all(self):
        for stone in (-100, -11, 23, 24, 100, FAR, -FAR):
            self.check_next(ROWS, stone, stone)

    def test_from_the_first_a_middle_and_the_last_stone(self):
        for stone in (3, 5, 7):
            self.check_next([(3, 7)], stone, 8)
        for stone in (-7, -5, -3):
            self.check_next([(-7, -3)], stone, -2)
        for stone in (0, 4, 8):
            self.check_next(ROWS, stone, 9)
        for stone in (20, 21, 22):
            self.check_next(ROWS, stone, 23)

    def test_from_just_ahead_of_a_stretch(self):
        self.check_next([(3, 7)], 2, 2)
        self.check_next([(-7, -3)], -8, -8)

    def test_a_stretch_of_one_stone(self):
        for stone in (-4, 0, 4):
            self.check_next([(stone, stone)], stone, stone + 1)

    def test_up_to_nought(self):
        self.check_next([(-5, -1)], -3, 0)
        self.check_next([(-5, -1), (1, 4)], -3, 0)

    def test_one_open_stone_up_to_the_next_stretch(self):
        for stone in (1, 2, 3, 4):
            self.check_next([(1, 3), (5, 9)], stone, 4)
        self.check_next([(1, 3), (5, 9)], 5, 10)
        self.check_next([(1, 1), (3, 3), (5, 5)], 1, 2)
        self.check_next([(1, 1), (3, 3), (5, 5)], 3, 4)

    def test_long_stretches_far_out(self):
        self.check_next([(1, LONG)], 1, LONG + 1)
        for stone in (-FAR, 0, FAR):
            self.check_next([(-FAR, FAR)], stone, FAR + 1)
        self.check_next([(-FAR, FAR)], -FAR - 1, -FAR - 1)
        self.check_next([(-FAR, -1), (1, FAR)], -FAR, 0)
        self.check_next([(-FAR, -FAR)], -FAR, -FAR + 1)
        self.check_next([(-BEYOND, BEYOND)], -BEYOND, BEYOND + 1)


class EverySmallPath(unittest.TestCase):
    def test_every_question_on_every_set(self):
        for stones in every_set(range(-4, 4)):
            rows = rows_of(stones)
            self.assertEqual(how_many(rows), len(stones), rows)
            for stone in range(-6, 6):
                self.assertIs(is_closed(rows, stone), stone in stones, (rows, stone))
                least = min(other for other in range(stone, 6) if other not in stones)
                self.assertEqual(next_open(rows, stone), least, (rows, stone))
            self.assertEqual(rows, rows_of(stones))


class Interface(unittest.TestCase):
    def test_arguments_by_name(self):
        self.assertIs(is_closed(rows=[(1, 2)], stone=2), True)
        self.assertEqual(how_many(rows=[(1, 2)]), 2)
        self.assertEqual(next_open(rows=[(1, 2)], stone=1), 3)


if __name__ == "__main__":
    unittest.main()
