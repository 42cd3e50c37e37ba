import unittest

from plain_stones import check_form
from towpath.errors import NoStretch, PathError
from towpath.stretches import closed, opened

FAR = 10 ** 18


class RowsCase(unittest.TestCase):
    def check(self, deed, rows, first, last, wanted):
        handed = list(rows)
        answer = deed(handed, first, last)
        self.assertEqual(answer, wanted)
        check_form(self, answer)
        self.assertEqual(handed, rows)


class Closing(RowsCase):
    def check_closed(self, rows, first, last, wanted):
        self.check(closed, rows, first, last, wanted)

    def test_on_the_empty_list(self):
        self.check_closed([], 3, 7, [(3, 7)])
        self.check_closed([], -7, -3, [(-7, -3)])
        self.check_closed([], -2, 2, [(-2, 2)])

    def test_one_stone_only(self):
        self.check_closed([], 0, 0, [(0, 0)])
        self.check_closed([(1, 3)], 7, 7, [(1, 3), (7, 7)])
        self.check_closed([(1, 3), (5, 9)], 4, 4, [(1, 9)])

    def test_apart_ahead_of_the_first(self):
        self.check_closed([(10, 12), (20, 22)], 1, 5, [(1, 5), (10, 12), (20, 22)])

    def test_apart_between_two(self):
        self.check_closed([(10, 12), (20, 22)], 15, 17, [(10, 12), (15, 17), (20, 22)])

    def test_apart_behind_the_last(self):
        self.check_closed([(10, 12), (20, 22)], 30, 35, [(10, 12), (20, 22), (30, 35)])

    def test_touching_becomes_one(self):
        self.check_closed([(10, 12)], 7, 9, [(7, 12)])
        self.check_closed([(10, 12)], 13, 15, [(10, 15)])
        self.check_closed([(-1, -1)], 0, 0, [(-1, 0)])
        self.check_closed([(10, 12), (20, 22)], 13, 15, [(10, 15), (20, 22)])
        self.check_closed([(10, 12), (20, 22)], 17, 19, [(10, 12), (17, 22)])
        self.check_closed([(10, 12), (20, 22)], 13, 19, [(10, 22)])

    def test_one_open_stone_between_keeps_them_two(self):
        self.check_closed([(10, 12)], 6, 8, [(6, 8), (10, 12)])
        self.check_closed([(10, 12)], 14, 16, [(10, 12), (14, 16)])
        self.check_closed([(10, 12), (20, 22)], 14, 18, [(10, 12), (14, 18), (20, 22)])

    def test_overlapping_one(self):
        self.check_closed([(10, 15)], 8, 10, [(8, 15)])
        self.check_closed([(10, 15)], 15, 18, [(10, 18)])
        self.check_closed([(10, 15)], 8, 18, [(8, 18)])
        self.check_closed([(1, 3), (10, 15), (30, 33)], 12, 20, [(1, 3), (10, 20), (30, 33)])

    def test_overlapping_several(self):
        rows = [(-20, -18), (-9, -5), (0, 3), (8, 8), (30, 40)]
        self.check_closed(rows, -6, 1, [(-20, -18), (-9, 3), (8, 8), (30, 40)])
        self.check_closed(rows, -10, 9, [(-20, -18), (-10, 9), (30, 40)])

    def test_overlapping_all(self):
        rows = [(-20, -18), (-9, -5), (0, 3), (8, 8), (30, 40)]
        self.check_closed(rows, -19, 35, [(-20, 40)])
        self.check_closed(rows, -100, 100, [(-100, 100)])

    def test_within_a_stretch_changes_nothing(self):
        rows = [(-9, -5), (0, 8)]
        for first, last in [(3, 5), (0, 0), (8, 8), (0, 8), (-9, -5), (-7, -7)]:
            self.check_closed(rows, first, last, rows)

    def test_far_out(self):
        self.check_closed([], -FAR, FAR, [(-FAR, FAR)])
        self.check_closed([(FAR, FAR)], -FAR, -FAR, [(-FAR, -FAR), (FAR, FAR)])
        self.check_closed([(FAR - 5, FAR)], FAR + 1, FAR + 1, [(FAR - 5, FAR + 1)])
        self.check_closed([(FAR - 5, FAR)], FAR + 2, FAR + 2, [(FAR - 5, FAR), (FAR + 2, FAR + 2)])
        self.check_closed([(-FAR, -FAR + 5)], -FAR - 1, -FAR - 1, [(-FAR - 1, -FAR + 5)])
        self.check_closed([(-FAR, -FAR + 5)], -FAR - 2, -FAR - 2, [(-FAR - 2, -FAR - 2), (-FAR, -FAR + 5)])
        self.check_closed([(-FAR, 0), (2, FAR)], 1, 1, [(-FAR, FAR)])

    def test_order_of_closings_does_not_matter(self):
        wanted = [(-4, -1), (1, 6)]
        for deeds in [[(-4, -1), (1, 3), (4, 6)], [(4, 6), (-4, -1), (1, 3)], [(3, 6), (1, 4), (-2, -1), (-4, -3)]]:
            rows = []
            for first, last in deeds:
                rows = closed(rows, first, last)
            self.assertEqual(rows, wanted)


class Opening(RowsCase):
    def check_opened(self, rows, first, last, wanted):
        self.check(opened, rows, first, last, wanted)

    def test_on_the_empty_list(self):
        self.check_opened([], 3, 7, [])
        self.check_opened([], -3, -3, [])

    def test_over_no_closed_stone(self):
        rows = [(-9, -5), (0, 8)]
        for first, last in [(-20, -15), (-11, -10), (-4, -1), (-2, -2), (9, 9), (9, 20)]:
            self.check_opened(rows, first, last, rows)

    def test_cutting_short(self):
        self.check_opened([(10, 15)], 8, 10, [(11, 15)])
        self.check_opened([(10, 15)], 10, 12, [(13, 15)])
        self.check_opened([(10, 15)], 8, 14, [(15, 15)])
        self.check_opened([(10, 15)], 15, 18, [(10, 14)])
        self.check_opened([(10, 15)], 13, 15, [(10, 12)])
        self.check_opened([(10, 15)], 11, 18, [(10, 10)])

    def test_cutting_in_two(self):
        self.check_opened([(10, 15)], 12, 13, [(10, 11), (14, 15)])
        self.check_opened([(10, 15)], 11, 14, [(10, 10), (15, 15)])
        self.check_opened([(-5, 5)], -1, 1, [(-5, -2), (2, 5)])
        self.check_opened([(1, 3), (10, 15), (20, 22)], 12, 13, [(1, 3), (10, 11), (14, 15), (20, 22)])

    def test_taking_whole(self):
        self.check_opened([(10, 15)], 10, 15, [])
        self.check_opened([(10, 15)], 9, 16, [])
        self.check_opened([(1, 3), (10, 15), (20, 22)], 10, 15, [(1, 3), (20, 22)])

    def test_over_several(self):
        rows = [(-20, -18), (-9, -5), (0, 3), (8, 8), (30, 40)]
        self.check_opened(rows, -6, 1, [(-20, -18), (-9, -7), (2, 3), (8, 8), (30, 40)])
        self.check_opened(rows, -10, 9, [(-20, -18), (30, 40)])
        self.check_opened(rows, -19, 35, [(-20, -20), (36, 40)])
        self.check_opened(rows, -100, 100, [])

    def test_one_stone_only(self):
        self.check_opened([(4, 4)], 4, 4, [])
        self.check_opened([(4, 6)], 4, 4, [(5, 6)])
        self.check_opened([(4, 6)], 5, 5, [(4, 4), (6, 6)])
        self.check_opened([(4, 6)], 6, 6, [(4, 5)])

    def test_far_out(self):
        self.check_opened([(-FAR, FAR)], 0, 0, [(-FAR, -1), (1, FAR)])
        self.check_opened([(-FAR, FAR)], FAR, FAR, [(-FAR, FAR - 1)])
        self.check_opened([(-FAR, FAR)], -FAR, -FAR, [(-FAR + 1, FAR)])
        self.check_opened([(-FAR, FAR)], -FAR, FAR, [])
        self.check_opened([(-FAR, FAR)], FAR + 1, FAR + 1, [(-FAR, FAR)])


class Refusals(unittest.TestCase):
    def check_refused(self, rows, first, last):
        for deed in (closed, opened):
            handed = list(rows)
            with self.assertRaises(NoStretch) as caught:
                deed(handed, first, last)
            self.assertIsInstance(caught.exception, PathError)
            self.assertIsInstance(caught.exception, ValueError)
            self.assertEqual(handed, rows)

    def test_last_less_than_first(self):
        for rows in [[], [(1, 3)], [(-9, -5), (0, 8), (20, 20)]]:
            for first, last in [(1, 0), (0, -1), (5, 2), (-5, -6), (3, -3), (FAR, FAR - 1), (FAR, -FAR)]:
                self.check_refused(rows, first, last)

    def test_stones_too_long_to_be_written_out(self):
        self.check_refused([], 10 ** 5000, 0)
        self.check_refused([(1, 3)], 0, -10 ** 5000)

    def test_same_stone_is_not_refused(self):
        self.assertEqual(closed([], 5, 5), [(5, 5)])
        self.assertEqual(opened([], 5, 5), [])


class Interface(unittest.TestCase):
    def test_arguments_by_name(self):
        self.assertEqual(closed(rows=[(1, 2)], first=3, last=4), [(1, 4)])
        self.assertEqual(opened(rows=[(1, 4)], first=3, last=4), [(1, 2)])

    def test_answer_does_not_share_the_list_handed_in(self):
        for deed, first, last in [(closed, 2, 2), (opened, 9, 9)]:
            rows = [(1, 3)]
            answer = deed(rows, first, last)
            answer.append((50, 60))
            self.assertEqual(rows, [(1, 3)])


if __name__ == "__main__":
    unittest.main()
