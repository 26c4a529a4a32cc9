"""Promise 1: ordinary inputs, and the edges that the document names."""

import unittest

from bestplaces.schools import places
from helper import NONE, child, flat, school


class PlacesCase(unittest.TestCase):
    def answers(self, schools, children, expected):
        answer = places(flat(schools), flat(children), [])
        self.assertEqual(answer, expected)
        self.assertIs(type(answer), list)
        self.assertEqual([type(number) for number in answer], [int] * len(answer))


class Ordinary(PlacesCase):
    def test_each_has_the_first_wish_where_there_is_room(self):
        self.answers([school(1), school(1)],
                     [child(1, [(1, 5), (0, 5)]), child(2, [(0, 5), (1, 5)])],
                     [2, 1, 0])

    def test_the_greater_score_has_the_seat(self):
        self.answers([school(1), school(1)],
                     [child(1, [(0, 5), (1, 5)]), child(2, [(0, 6), (1, 6)])],
                     [2, 1, 0])

    def test_who_is_left_out_has_none_and_is_not_counted(self):
        self.answers([school(1)],
                     [child(1, [(0, 5)]), child(2, [(0, 7)]), child(3, [(0, 6)])],
                     [1, NONE, 0, NONE])

    def test_score_is_that_at_the_school_asked(self):
        self.answers([school(1), school(1)],
                     [child(1, [(0, 1), (1, 9)]), child(2, [(0, 2), (1, 0)])],
                     [2, 1, 0])

    def test_children_best_not_schools_best(self):
        # Both ways round are fair; each child has its first wish in one of them.
        self.answers([school(1), school(1)],
                     [child(1, [(0, 1), (1, 2)]), child(2, [(1, 1), (0, 2)])],
                     [2, 0, 1])

    def test_three_schools_five_children(self):
        self.answers([school(1), school(2), school(1)],
                     [child(10, [(0, 3), (1, 3)]),
                      child(11, [(0, 5), (2, 5)]),
                      child(12, [(1, 1), (2, 9)]),
                      child(13, [(1, 4)]),
                      child(14, [(2, 8), (1, 2), (0, 0)])],
                     [4, 1, 0, 2, 1, NONE])

    def test_eight_wishes_down_to_the_last(self):
        firsts = [child(k, [(k, 9)]) for k in range(7)]
        last = child(99, [(k, 8) for k in range(8)])
        self.answers([school(1) for k in range(8)], firsts + [last], [8, 0, 1, 2, 3, 4, 5, 6, 7])

    def test_eight_wishes_and_none_of_them(self):
        firsts = [child(k, [(k, 9)]) for k in range(8)]
        last = child(99, [(k, 8) for k in range(8)])
        self.answers([school(1) for k in range(8)], firsts + [last],
                     [8, 0, 1, 2, 3, 4, 5, 6, 7, NONE])

    def test_greatest_numbers_and_scores(self):
        top = 2 ** 32 - 1
        self.answers([school(1)],
                     [child(top, [(0, top - 1)]), child(top - 1, [(0, top)]), child(0, [(0, top - 1)])],
                     [1, NONE, 0, NONE])


class PutOut(PlacesCase):
    def test_put_out_by_one_whom_another_school_put_out(self):
        self.answers([school(1), school(1), school(1)],
                     [child(1, [(0, 1), (1, 9)]), child(2, [(1, 1), (2, 1)]), child(3, [(0, 2)])],
                     [3, 1, 2, 0])

    def test_the_row_of_children_does_not_matter(self):
        first = child(1, [(0, 1), (1, 9)])
        second = child(2, [(1, 1), (2, 1)])
        third = child(3, [(0, 2)])
        three = [school(1), school(1), school(1)]
        self.answers(three, [third, second, first], [3, 0, 2, 1])
        self.answers(three, [second, third, first], [3, 2, 0, 1])

    def test_a_chain_that_comes_back_to_where_it_began(self):
        # 3 puts 1 out of school 0, 1 puts 2 out of school 1, 2 puts 3 out of school 0 again.
        self.answers([school(1), school(1)],
                     [child(1, [(0, 1), (1, 5)]), child(2, [(1, 4), (0, 7)]), child(3, [(0, 3), (1, 1)])],
                     [2, 1, 0, NONE])

    def test_a_chain_as_long_as_there_are_schools(self):
        chain = [child(k, [(k, 1), (k + 1, 2)]) for k in range(31)]
        pusher = child(100, [(0, 5)])
        self.answers([school(1) for k in range(32)], chain + [pusher], [32] + list(range(1, 32)) + [0])
        self.answers([school(1) for k in range(32)], [pusher] + chain, [32, 0] + list(range(1, 32)))


class Held(PlacesCase):
    def test_a_held_seat_goes_to_one_of_the_group(self):
        self.answers([school(1, {3: 1})],
                     [child(1, [(0, 9)]), child(2, [(0, 1)], groups=1 << 3)],
                     [1, NONE, 0])

    def test_each_group_is_its_own_bit(self):
        for group in range(8):
            with self.subTest(group=group):
                self.answers([school(1, {group: 1})],
                             [child(1, [(0, 9)], groups=255 - (1 << group)),
                              child(2, [(0, 1)], groups=1 << group)],
                             [1, NONE, 0])

    def test_within_the_group_score_then_number(self):
        self.answers([school(2, {0: 2})],
                     [child(4, [(0, 3)], groups=1), child(3, [(0, 3)], groups=1), child(5, [(0, 4)], groups=1)],
                     [2, NONE, 0, 0])

    def test_a_group_that_nobody_belongs_to(self):
        self.answers([school(2, {5: 2})],
                     [child(1, [(0, 1)]), child(2, [(0, 3)], groups=1), child(3, [(0, 2)])],
                     [2, NONE, 0, 0])

    def test_a_group_that_too_few_belong_to(self):
        self.answers([school(2, {0: 2})],
                     [child(1, [(0, 8)]), child(2, [(0, 9)]), child(3, [(0, 1)], groups=1)],
                     [2, NONE, 0, 0])

    def test_held_seats_are_gone_through_before_the_others(self):
        # The best child is of the group and has the held seat, so the one other seat goes by score.
        self.answers([school(2, {0: 1})],
                     [child(1, [(0, 9)], groups=1), child(2, [(0, 1)], groups=1), child(3, [(0, 5)])],
                     [2, 0, NONE, 0])

    def test_lesser_groups_are_gone_through_first(self):
        # Number 1 is of both groups and has the seat of group 0; nobody else is of group 1,
        # so that seat goes by score.
        self.answers([school(2, {0: 1, 1: 1})],
                     [child(1, [(0, 9)], groups=3), child(2, [(0, 1)], groups=1), child(3, [(0, 5)])],
                     [2, 0, NONE, 0])
        # Told the other way round, the seat of group 1 is still there for number 2.
        self.answers([school(2, {0: 1, 1: 1})],
                     [child(1, [(0, 9)], groups=3), child(2, [(0, 1)], groups=2), child(3, [(0, 5)])],
                     [2, 0, 0, NONE])

    def test_a_seat_of_a_group_without_members_may_go_to_a_member_of_a_later_one(self):
        # Group 0 has no members: its seat goes by score to number 1, of group 1, and so
        # the seat of group 1 is there for number 2.
        self.answers([school(2, {0: 1, 1: 1})],
                     [child(1, [(0, 9)], groups=2), child(2, [(0, 1)], groups=2), child(3, [(0, 5)])],
                     [2, 0, 0, NONE])

    def test_all_eight_groups(self):
        members = [child(10 + group, [(0, 1)], groups=1 << group) for group in range(8)]
        others = [child(1, [(0, 9)]), child(2, [(0, 8)])]
        seats = {group: 1 for group in range(8)}
        self.answers([school(8, seats)], others + members, [8, NONE, NONE] + [0] * 8)
        self.answers([school(9, seats)], others + members, [9, 0, NONE] + [0] * 8)

    def test_put_out_of_a_held_seat_to_another(self):
        # Number 1 loses the held seat to a member with a greater score, and the other seat to number 2.
        self.answers([school(2, {0: 1}), school(1)],
                     [child(1, [(0, 3), (1, 3)], groups=1),
                      child(2, [(0, 4)]),
                      child(3, [(0, 5)], groups=1)],
                     [3, 1, 0, 0])


class Edges(PlacesCase):
    def test_a_school_without_seats(self):
        self.answers([school(0)], [child(1, [(0, 9)])], [0, NONE])
        self.answers([school(0), school(1)], [child(1, [(0, 9), (1, 0)]), child(2, [(0, 9)])], [1, 1, NONE])

    def test_wishes_for_one_school_by_all(self):
        many = [child(k, [(1, (k * 7) % 10)]) for k in range(10)]
        expected = [1 if (k * 7) % 10 >= 6 else NONE for k in range(10)]
        self.answers([school(3), school(4), school(3)], many, [4] + expected)

    def test_children_without_wishes(self):
        self.answers([school(2)], [child(1), child(2, [(0, 0)]), child(3)], [1, NONE, 0, NONE])
        self.answers([school(2)], [child(1), child(2)], [0, NONE, NONE])

    def test_a_school_that_nobody_wished_for_stays_empty(self):
        self.answers([school(1), school(5)], [child(1, [(0, 1)]), child(2, [(0, 2)])], [1, NONE, 0])

    def test_numbers_that_are_not_in_order(self):
        # The number decides between equal scores, never the place in the row.
        self.answers([school(1)], [child(9, [(0, 4)]), child(2, [(0, 4)]), child(5, [(0, 4)])], [1, NONE, 0, NONE])
        self.answers([school(2)], [child(9, [(0, 4)]), child(2, [(0, 4)]), child(5, [(0, 4)])], [2, NONE, 0, 0])

    def test_equal_scores_lesser_number_in_each_row(self):
        self.answers([school(1)], [child(3, [(0, 4)]), child(4, [(0, 4)])], [1, 0, NONE])
        self.answers([school(1)], [child(4, [(0, 4)]), child(3, [(0, 4)])], [1, NONE, 0])

    def test_score_goes_before_number(self):
        self.answers([school(1)], [child(3, [(0, 4)]), child(4, [(0, 5)])], [1, NONE, 0])

    def test_a_wish_with_score_nought_is_a_wish(self):
        self.answers([school(1)], [child(0, [(0, 0)])], [1, 0])

    def test_no_schools(self):
        self.answers([], [child(1), child(2)], [0, NONE, NONE])

    def test_no_children(self):
        self.answers([school(3), school(0)], [], [0])

    def test_neither(self):
        self.answers([], [], [0])

    def test_the_last_of_32_schools(self):
        self.answers([school(1) for k in range(32)], [child(1, [(31, 0)])], [1, 31])

    def test_256_children_at_one_school_of_64_seats(self):
        # Equal scores, and the numbers fall along the row: the last 64 have the lesser ones.
        many = [child(1000 - k, [(0, 5)]) for k in range(256)]
        self.answers([school(64)], many, [64] + [NONE] * 192 + [0] * 64)

    def test_64_seats_all_held(self):
        many = [child(k, [(0, 1000 - k)], groups=1 if k >= 192 else 0) for k in range(256)]
        self.answers([school(64, {0: 64})], many, [64] + [NONE] * 192 + [0] * 64)
        self.answers([school(64, {1: 64})], many, [64] + [0] * 64 + [NONE] * 192)


if __name__ == "__main__":
    unittest.main()
