import unittest

from plain_stones import check_form
from towpath.asking import how_many, is_closed, next_open
from towpath.day import behind, told

FAR = 10 ** 18
LONG = 10 ** 12
BEYOND = 10 ** 5000


class DayCase(unittest.TestCase):
    def check_day(self, deeds, wanted_rows, wanted_answers):
        handed = list(deeds)
        rows = behind(handed)
        self.assertEqual(handed, deeds)
        answers = told(handed)
        self.assertEqual(handed, deeds)
        self.assertEqual(rows, wanted_rows)
        check_form(self, rows)
        self.assertEqual(answers, wanted_answers)
        self.assertIs(type(answers), list)
        self.assertEqual([type(answer) for answer in answers], [type(answer) for answer in wanted_answers])


class OneDeed(DayCase):
    def test_no_deed(self):
        self.check_day([], [], [])

    def test_one_closing(self):
        self.check_day([("close", 3, 7)], [(3, 7)], [5])
        self.check_day([("close", -7, -3)], [(-7, -3)], [5])
        self.check_day([("close", 0, 0)], [(0, 0)], [1])

    def test_one_opening(self):
        self.check_day([("open", 3, 7)], [], [0])
        self.check_day([("open", 0, 0)], [], [0])


class Closings(DayCase):
    def test_apart(self):
        deeds = [("close", 10, 12), ("close", 1, 5), ("close", 20, 20)]
        self.check_day(deeds, [(1, 5), (10, 12), (20, 20)], [3, 5, 1])

    def test_touching(self):
        self.check_day([("close", 10, 12), ("close", 13, 15)], [(10, 15)], [3, 3])
        self.check_day([("close", 10, 12), ("close", 7, 9)], [(7, 12)], [3, 3])
        self.check_day([("close", 1, 3), ("close", 5, 9), ("close", 4, 4)], [(1, 9)], [3, 5, 1])
        self.check_day([("close", -3, -1), ("close", 0, 2)], [(-3, 2)], [3, 3])

    def test_one_open_stone_between(self):
        self.check_day([("close", 10, 12), ("close", 14, 15)], [(10, 12), (14, 15)], [3, 2])

    def test_overlapping(self):
        self.check_day([("close", 10, 15), ("close", 8, 11)], [(8, 15)], [6, 2])
        self.check_day([("close", 10, 15), ("close", 15, 18)], [(10, 18)], [6, 3])
        self.check_day([("close", 10, 15), ("close", 8, 18)], [(8, 18)], [6, 5])
        self.check_day([("close", 1, 3), ("close", 7, 9), ("close", 2, 8)], [(1, 9)], [3, 3, 3])

    def test_within_what_is_closed(self):
        deeds = [("close", -9, 9), ("close", 0, 0), ("close", -9, 9), ("close", -9, -9), ("close", 5, 9)]
        self.check_day(deeds, [(-9, 9)], [19, 0, 0, 0, 0])


class Openings(DayCase):
    def test_cutting_short(self):
        self.check_day([("close", 10, 15), ("open", 8, 11)], [(12, 15)], [6, 2])
        self.check_day([("close", 10, 15), ("open", 15, 30)], [(10, 14)], [6, 1])

    def test_cutting_in_two(self):
        self.check_day([("close", 10, 15), ("open", 12, 13)], [(10, 11), (14, 15)], [6, 2])
        self.check_day([("close", -5, 5), ("open", 0, 0)], [(-5, -1), (1, 5)], [11, 1])

    def test_taking_whole(self):
        self.check_day([("close", 10, 15), ("open", 10, 15)], [], [6, 6])
        self.check_day([("close", 10, 15), ("open", 0, 99)], [], [6, 6])
        self.check_day([("close", 1, 3), ("close", 7, 7), ("open", 0, 99)], [], [3, 1, 4])

    def test_over_several(self):
        deeds = [("close", 1, 3), ("close", 7, 9), ("close", 20, 25), ("open", 3, 21)]
        self.check_day(deeds, [(1, 2), (22, 25)], [3, 3, 6, 6])

    def test_changing_nothing(self):
        deeds = [("close", 10, 15), ("open", 0, 9), ("open", 16, 16), ("open", 12, 12), ("open", 12, 12)]
        self.check_day(deeds, [(10, 11), (13, 15)], [6, 0, 0, 1, 0])


class ManyDeeds(DayCase):
    def test_closed_opened_and_closed_again(self):
        deeds = [("close", 1, 9), ("open", 4, 6), ("close", 5, 5), ("open", 1, 3), ("close", 4, 6)]
        self.check_day(deeds, [(4, 9)], [9, 3, 1, 3, 2])

    def test_the_order_of_deeds_tells(self):
        self.check_day([("close", 1, 5), ("open", 3, 9)], [(1, 2)], [5, 3])
        self.check_day([("open", 3, 9), ("close", 1, 5)], [(1, 5)], [0, 5])

    def test_a_thousand_deeds(self):
        apart = [("close", 2 * place, 2 * place) for place in range(-250, 250)]
        self.check_day(apart, [(deed[1], deed[2]) for deed in apart], [1] * 500)
        between = [("close", 2 * place + 1, 2 * place + 1) for place in range(-250, 250)]
        self.check_day(apart + between, [(-500, 499)], [1] * 1000)
        self.check_day(apart + between + [("open", -500, 499)], [], [1] * 1000 + [1000])

    def test_far_out_and_long(self):
        self.check_day([("close", 1, LONG), ("open", 2, LONG - 1)], [(1, 1), (LONG, LONG)], [LONG, LONG - 2])
        deeds = [("close", -FAR, FAR), ("open", 0, 0), ("open", FAR, FAR + 9), ("close", -FAR - 1, -FAR - 1)]
        self.check_day(deeds, [(-FAR - 1, -1), (1, FAR - 1)], [2 * FAR + 1, 1, 1, 1])
        self.check_day([("close", FAR, FAR), ("close", -FAR, -FAR)], [(-FAR, -FAR), (FAR, FAR)], [1, 1])

    def test_stones_too_long_to_be_written_out(self):
        deeds = [("close", -BEYOND, BEYOND), ("close", BEYOND, -BEYOND), ("open", 0, BEYOND)]
        self.check_day(deeds, [(-BEYOND, -1)], [2 * BEYOND + 1, None, BEYOND + 1])


class Refused(DayCase):
    BACKWARD = [(1, 0), (0, -1), (9, 2), (-5, -6), (3, -3), (FAR, FAR - 1), (FAR, -FAR), (BEYOND, 0)]

    def test_as_the_only_deed(self):
        for word in ("close", "open"):
            for first, last in self.BACKWARD:
                self.check_day([(word, first, last)], [], [None])

    def test_at_every_place_of_a_day(self):
        deeds = [("close", 1, 9), ("open", 4, 6), ("close", 5, 5), ("open", 7, 7), ("close", 8, 12)]
        rows = [(1, 3), (5, 5), (8, 12)]
        answers = [9, 3, 1, 1, 3]
        self.check_day(deeds, rows, answers)
        for place in range(len(deeds) + 1):
            for word in ("close", "open"):
                for first, last in self.BACKWARD:
                    with_refused = deeds[:place] + [(word, first, last)] + deeds[place:]
                    self.check_day(with_refused, rows, answers[:place] + [None] + answers[place:])

    def test_several_of_them(self):
        deeds = [("open", 5, 1), ("close", 5, 1), ("close", 1, 5), ("open", 5, 1), ("close", 9, 8), ("open", 2, 2)]
        self.check_day(deeds, [(1, 1), (3, 5)], [None, None, 5, None, None, 1])

    def test_one_stone_is_not_refused(self):
        self.check_day([("close", 5, 5), ("open", 5, 5), ("open", 5, 5)], [], [1, 1, 0])


class WholeProgram(unittest.TestCase):
    def test_asking_behind_a_day(self):
        rows = behind([("close", -5, 5), ("open", 0, 0), ("close", 9, 2), ("close", 6, 8), ("open", 4, 4)])
        self.assertEqual(rows, [(-5, -1), (1, 3), (5, 8)])
        self.assertEqual(how_many(rows), 12)
        self.assertEqual([stone for stone in range(-9, 12) if not is_closed(rows, stone)],
                         [-9, -8, -7, -6, 0, 4, 9, 10, 11])
        self.assertEqual([next_open(rows, stone) for stone in (-6, -5, 0, 2, 4, 6, 9)], [-6, 0, 0, 4, 4, 9, 9])

    def test_each_day_begins_anew(self):
        deeds = [("close", 1, 5)]
        for answer in (behind(deeds), behind([]), told(deeds), told([])):
            answer.append("more")
        self.assertEqual(behind(deeds), [(1, 5)])
        self.assertEqual(behind([]), [])
        self.assertEqual(told(deeds), [5])
        self.assertEqual(told([]), [])

    def test_arguments_by_name(self):
        self.assertEqual(behind(deeds=[("close", 1, 5)]), [(1, 5)])
        self.assertEqual(told(deeds=[("close", 1, 5)]), [5])


if __name__ == "__main__":
    unittest.main()
