"""The refusal -22 of both calls: each reason by itself, just beyond and just within its bound."""

import unittest

from bestplaces.schools import check, places
from helper import NONE, child, flat, school

TOP = 2 ** 32 - 1


def wish_rows(number, wished, scores, groups=0):
    """A child told number by number, for wishes that helper.child would not write."""
    return [number, groups] + wished + [NONE] * (8 - len(wished)) + scores + [0] * (8 - len(scores))


class RefusalCase(unittest.TestCase):
    def refused(self, schools, children):
        self.assertEqual(places(flat(schools), flat(children), []), [-22])
        # Check refuses whatever the places told, those at no school and at one that isn't there too.
        for where in (0, 1, len(schools), 254, NONE):
            self.assertEqual(check(flat(schools), flat(children), [where] * len(children)), [-22])

    def answered(self, schools, children, expected):
        self.assertEqual(places(flat(schools), flat(children), []), expected)
        self.assertEqual(check(flat(schools), flat(children), expected[1:]), [0])
        if children:
            self.assertEqual(check(flat(schools), flat(children), [254] * len(children)), [1, 0, NONE])


class HowMany(RefusalCase):
    def test_schools(self):
        self.answered([school(1)] * 32, [], [0])
        self.refused([school(1)] * 33, [])
        self.refused([school(1)] * 34, [])

    def test_children(self):
        self.answered([], [child(k) for k in range(256)], [0] + [NONE] * 256)
        self.refused([], [child(k) for k in range(257)])
        self.refused([], [child(k) for k in range(258)])

    def test_too_many_and_wrong_too(self):
        self.refused([school(65, {0: 255}, none=7)] * 33, [child(1, groups=999)] * 258)
        self.refused([school(1)] * 33, [child(1, [(32, 5)])])


class Schools(RefusalCase):
    def test_seats(self):
        self.answered([school(64)], [], [0])
        self.refused([school(65)], [])
        self.refused([school(TOP)], [])

    def test_held(self):
        self.answered([school(3, {7: 3})], [], [0])
        self.refused([school(3, {7: 4})], [])
        self.answered([school(0)], [], [0])
        self.refused([school(0, {0: 1})], [])

    def test_held_is_the_sum_of_all_eight(self):
        eight = {group: 1 for group in range(8)}
        self.answered([school(8, eight)], [], [0])
        self.refused([school(7, eight)], [])
        self.answered([school(64, {group: 8 for group in range(8)})], [], [0])
        self.refused([school(64, {0: 9, **{group: 8 for group in range(1, 8)}})], [])
        self.refused([school(64, {group: 255 for group in range(8)})], [])

    def test_each_group_counts_in_what_is_held(self):
        for group in range(8):
            with self.subTest(group=group):
                self.answered([school(5, {group: 5})], [], [0])
                self.refused([school(5, {group: 6})], [])

    def test_none(self):
        self.answered([school(1, none=0)], [], [0])
        self.refused([school(1, none=1)], [])
        self.refused([school(1, none=TOP)], [])

    def test_any_school_of_the_row(self):
        right = school(1)
        for wrong in (school(65), school(1, {0: 2}), school(1, none=1)):
            for where in range(3):
                with self.subTest(wrong=wrong, where=where):
                    row = [right, right, right]
                    row[where] = wrong
                    self.refused(row, [child(1, [(0, 1)])])
        self.refused([right] * 31 + [school(65)], [])


class Children(RefusalCase):
    def test_groups(self):
        self.answered([school(1)], [child(1, [(0, 1)], groups=255)], [1, 0])
        self.refused([school(1)], [child(1, [(0, 1)], groups=256)])
        self.refused([school(1)], [child(1, [(0, 1)], groups=TOP)])
        self.refused([], [child(1, groups=256)])

    def test_the_same_number(self):
        self.answered([], [child(1), child(2)], [0, NONE, NONE])
        self.refused([], [child(1), child(1)])
        self.refused([], [child(1), child(2), child(1)])
        self.refused([school(2)], [child(TOP, [(0, 1)]), child(3), child(TOP, [(0, 2)], groups=5)])
        self.refused([], [child(k) for k in range(255)] + [child(0)])
        self.answered([], [child(k) for k in range(255)] + [child(255)], [0] + [NONE] * 256)

    def test_any_child_of_the_row(self):
        for where in range(3):
            with self.subTest(where=where):
                row = [child(1), child(2), child(3)]
                row[where] = child(7, groups=256)
                self.refused([school(1)], row)
                row[where] = child(7, [(1, 0)])
                self.refused([school(1)], row)
        self.refused([], [child(k) for k in range(255)] + [child(255, groups=256)])


class Wishes(RefusalCase):
    def test_a_school_that_is_not_there(self):
        self.answered([school(1)] * 3, [child(1, [(2, 0)])], [1, 2])
        self.refused([school(1)] * 3, [child(1, [(3, 0)])])
        self.refused([school(1)] * 3, [child(1, [(254, 0)])])
        self.refused([], [child(1, [(0, 0)])])
        self.answered([school(1)] * 32, [child(1, [(31, 0)])], [1, 31])
        self.refused([school(1)] * 32, [child(1, [(32, 0)])])

    def test_a_school_that_is_not_there_at_each_wish(self):
        for wish in range(8):
            with self.subTest(wish=wish):
                wished = list(range(8))
                self.answered([school(1)] * 8, [wish_rows(1, wished, [1] * 8)], [1, 0])
                wished[wish] = 8
                self.refused([school(1)] * 8, [wish_rows(1, wished, [1] * 8)])

    def test_two_for_the_same(self):
        self.refused([school(1)] * 8, [wish_rows(1, [4, 4], [1, 1])])
        self.refused([school(1)] * 8, [wish_rows(1, [4, 4], [2, 1])])
        for first in range(8):
            for second in range(first + 1, 8):
                with self.subTest(first=first, second=second):
                    wished = list(range(8))
                    wished[second] = wished[first]
                    self.refused([school(1)] * 8, [wish_rows(1, wished, [1] * 8)])

    def test_two_children_may_wish_for_the_same(self):
        self.answered([school(2)], [child(1, [(0, 1)]), child(2, [(0, 1)])], [2, 0, 0])

    def test_behind_a_255(self):
        self.refused([school(1)] * 8, [wish_rows(1, [NONE, 0], [0, 0])])
        self.refused([school(1)] * 8, [wish_rows(1, [NONE, 0], [0, 5])])
        for gap in range(7):
            with self.subTest(gap=gap):
                wished = list(range(8))
                wished[gap] = NONE
                scores = [1] * 8
                scores[gap] = 0
                self.refused([school(1)] * 8, [wish_rows(1, wished, scores)])
                self.answered([school(1)] * 8,
                              [wish_rows(1, list(range(gap)), [1] * gap)],
                              [1, 0] if gap else [0, NONE])
        last = list(range(7)) + [NONE]
        self.answered([school(1)] * 8, [wish_rows(1, last, [1] * 7 + [0])], [1, 0])
        far = [0] + [NONE] * 6 + [1]
        self.refused([school(1)] * 8, [wish_rows(1, far, [1] + [0] * 6 + [1])])

    def test_a_score_where_there_is_no_school(self):
        for wish in range(8):
            with self.subTest(wish=wish):
                wished = list(range(wish))
                self.answered([school(1)] * 8, [wish_rows(1, wished, [3] * wish)], [1, 0] if wish else [0, NONE])
                self.refused([school(1)] * 8, [wish_rows(1, wished, [3] * wish + [1])])
                self.refused([school(1)] * 8, [wish_rows(1, wished, [3] * wish + [0] * (7 - wish) + [TOP])])

    def test_a_score_where_there_is_a_school_may_be_anything(self):
        self.answered([school(1)], [child(1, [(0, 0)])], [1, 0])
        self.answered([school(1)], [child(1, [(0, TOP)])], [1, 0])


if __name__ == "__main__":
    unittest.main()
