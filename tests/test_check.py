"""Promise 2: each answer of check, which fault comes first, and the edges that the document names."""

import unittest

from bestplaces.schools import check, places
from helper import NONE, child, flat, school


class CheckCase(unittest.TestCase):
    def answers(self, schools, children, place, expected):
        answer = check(flat(schools), flat(children), place)
        self.assertEqual(answer, expected)
        self.assertIs(type(answer), list)
        self.assertEqual([type(number) for number in answer], [int] * len(answer))


class Fair(CheckCase):
    def test_each_has_the_first_wish(self):
        self.answers([school(1), school(1)],
                     [child(1, [(1, 5), (0, 5)]), child(2, [(0, 5), (1, 5)])],
                     [1, 0], [0])

    def test_the_answer_is_its_number_alone(self):
        self.answers([school(1)], [child(1, [(0, 5)])], [0], [0])

    def test_fair_ones_that_are_not_the_best_are_fair(self):
        both = [child(1, [(0, 1), (1, 2)]), child(2, [(1, 1), (0, 2)])]
        self.answers([school(1), school(1)], both, [0, 1], [0])
        self.answers([school(1), school(1)], both, [1, 0], [0])

    def test_what_places_answers_is_fair(self):
        schools = [school(1), school(2, {0: 1}), school(1), school(0)]
        children = [child(10, [(0, 3), (1, 3)]),
                    child(11, [(3, 9), (0, 5), (2, 5)]),
                    child(12, [(1, 1), (2, 9)], groups=1),
                    child(13, [(1, 4), (3, 1)]),
                    child(9),
                    child(14, [(2, 8), (1, 2), (0, 0)], groups=1)]
        place = places(flat(schools), flat(children), [])[1:]
        self.answers(schools, children, place, [0])


class Unwished(CheckCase):
    def test_at_a_school_that_nobody_wished_for(self):
        self.answers([school(1), school(1)], [child(1, [(0, 5)])], [1], [1, 0, NONE])

    def test_at_one_that_this_child_alone_did_not_wish_for(self):
        self.answers([school(1), school(3)],
                     [child(1, [(1, 5)]), child(2, [(0, 5)]), child(3, [(1, 5)])],
                     [1, 1, 1], [1, 1, NONE])

    def test_at_one_that_is_not_there(self):
        for where in (2, 3, 31, 32, 33, 128, 253, 254):
            with self.subTest(where=where):
                self.answers([school(1), school(1)], [child(1, [(0, 5), (1, 5)])], [where], [1, 0, NONE])
        self.answers([], [child(1)], [0], [1, 0, NONE])
        self.answers([school(1)] * 32, [child(1, [(31, 0)])], [32], [1, 0, NONE])

    def test_a_child_without_wishes(self):
        self.answers([school(1)], [child(1)], [0], [1, 0, NONE])

    def test_a_child_with_eight_wishes(self):
        self.answers([school(1)] * 9, [child(1, [(k, 5) for k in range(8)])], [8], [1, 0, NONE])
        self.answers([school(0)] * 9, [child(1, [(k, 5) for k in range(8)])], [NONE], [0])

    def test_none_is_never_such_a_fault(self):
        self.answers([school(1)], [child(1)], [NONE], [0])
        self.answers([school(0)], [child(1, [(0, 5)])], [NONE], [0])
        self.answers([], [child(1), child(2)], [NONE, NONE], [0])

    def test_the_first_in_the_row(self):
        # Neither the lesser number nor the lesser school, but the place in the row.
        three = [child(9, [(0, 5)]), child(5, [(0, 5)]), child(2, [(2, 5)])]
        self.answers([school(3)] * 3, three, [0, 1, 0], [1, 1, NONE])
        self.answers([school(3)] * 3, three, [0, 0, 0], [1, 2, NONE])
        self.answers([school(3)] * 3, three, [2, 1, 0], [1, 0, NONE])

    def test_the_last_of_256(self):
        many = [child(k) for k in range(256)]
        self.answers([school(1)], many, [NONE] * 255 + [0], [1, 255, NONE])

    def test_a_score_of_nought_is_a_wish_too(self):
        self.answers([school(1)], [child(1, [(0, 0)])], [0], [0])


class Overfull(CheckCase):
    def test_as_many_as_seats_and_one_more(self):
        for seats in (1, 2, 3, 63, 64):
            with self.subTest(seats=seats):
                many = [child(k, [(0, 5)]) for k in range(seats + 1)]
                self.answers([school(seats)], many[:seats], [0] * seats, [0])
                self.answers([school(seats)], many, [0] * seats + [NONE], [0])
                self.answers([school(seats)], many, [0] * (seats + 1), [2, 0, seats + 1])

    def test_held_seats_are_seats(self):
        many = [child(k, [(0, 5)]) for k in range(4)]
        self.answers([school(3, {2: 3})], many[:3], [0] * 3, [0])
        self.answers([school(3, {2: 3})], many, [0] * 4, [2, 0, 4])

    def test_a_school_without_seats(self):
        self.answers([school(0)], [child(1, [(0, 5)])], [0], [2, 0, 1])
        self.answers([school(0)], [child(1, [(0, 5)])], [NONE], [0])

    def test_far_more_than_seats(self):
        many = [child(k, [(1, 5)]) for k in range(256)]
        self.answers([school(0), school(64)], many, [1] * 256, [2, 1, 256])
        self.answers([school(0), school(0)], many, [1] * 256, [2, 1, 256])
        self.answers([school(0), school(1)], many, [1, NONE] * 128, [2, 1, 128])

    def test_the_first_by_its_number(self):
        # Not the one that is the fullest, nor the one that the first child has.
        five = [child(1, [(2, 5)]), child(2, [(2, 5)]), child(3, [(2, 5)]), child(4, [(1, 5)]), child(5, [(1, 5)])]
        self.answers([school(1)] * 3, five, [2, 2, 2, 1, 1], [2, 1, 2])
        self.answers([school(1)] * 3, five, [2, 2, 2, 1, NONE], [2, 2, 3])

    def test_the_last_of_32(self):
        self.answers([school(1)] * 32, [child(k, [(31, 5)]) for k in range(2)], [31, 31], [2, 31, 2])


class Better(CheckCase):
    def test_a_free_seat(self):
        self.answers([school(1)], [child(1, [(0, 5)])], [NONE], [3, 0, 0])
        self.answers([school(2)], [child(1, [(0, 5)]), child(2, [(0, 1)])], [0, NONE], [3, 1, 0])

    def test_a_free_seat_held_for_another_group(self):
        # A held seat turns nobody away while it is free.
        self.answers([school(1, {3: 1})], [child(1, [(0, 5)])], [NONE], [3, 0, 0])
        self.answers([school(2, {3: 2})],
                     [child(1, [(0, 5)], groups=8), child(2, [(0, 0)], groups=247)],
                     [0, NONE], [3, 1, 0])

    def test_in_anothers_stead(self):
        two = [child(1, [(0, 5)]), child(2, [(0, 6)])]
        self.answers([school(1)], two, [0, NONE], [3, 1, 0])
        self.answers([school(1)], two, [NONE, 0], [0])

    def test_a_child_that_has_a_later_wish(self):
        two = [child(1, [(1, 9), (0, 5)]), child(2, [(1, 8), (0, 6)])]
        self.answers([school(1)] * 2, two, [0, 1], [3, 0, 1])
        self.answers([school(1)] * 2, two, [1, 0], [0])

    def test_an_earlier_wish_only(self):
        # There is room at the later wish, and the child would be taken; it would not rather have it.
        self.answers([school(1), school(9)], [child(1, [(0, 0), (1, 9)])], [0], [0])
        self.answers([school(1), school(9)], [child(1, [(1, 0), (0, 9)])], [0], [3, 0, 1])

    def test_would_rather_and_would_not_be_taken(self):
        self.answers([school(1)] * 2,
                     [child(1, [(0, 5)]), child(2, [(0, 4), (1, 4)]), child(3, [(0, 3)])],
                     [0, 1, NONE], [0])

    def test_a_school_that_was_not_wished_for_may_have_room(self):
        self.answers([school(0), school(5)], [child(1, [(0, 5)]), child(2)], [NONE, NONE], [0])

    def test_a_school_without_seats_takes_nobody(self):
        self.answers([school(0), school(1)], [child(1, [(0, 5), (1, 5)])], [1], [0])
        self.answers([school(0), school(1)], [child(1, [(0, 5), (1, 5)])], [NONE], [3, 0, 1])

    def test_equal_scores(self):
        self.answers([school(1)], [child(4, [(0, 5)]), child(3, [(0, 5)])], [0, NONE], [3, 1, 0])
        self.answers([school(1)], [child(3, [(0, 5)]), child(4, [(0, 5)])], [0, NONE], [0])
        self.answers([school(1)], [child(4, [(0, 5)]), child(3, [(0, 5)])], [NONE, 0], [0])
        self.answers([school(1)], [child(3, [(0, 5)]), child(4, [(0, 5)])], [NONE, 0], [3, 0, 0])

    def test_numbers_that_are_not_in_order(self):
        three = [child(9, [(0, 4)]), child(2, [(0, 4)]), child(5, [(0, 4)])]
        self.answers([school(1)], three, [NONE, 0, NONE], [0])
        self.answers([school(1)], three, [0, NONE, NONE], [3, 1, 0])
        self.answers([school(1)], three, [NONE, NONE, 0], [3, 1, 0])
        self.answers([school(2)], three, [0, 0, NONE], [3, 2, 0])
        self.answers([school(2)], three, [NONE, 0, 0], [0])

    def test_greatest_numbers_and_scores(self):
        top = 2 ** 32 - 1
        self.answers([school(1)], [child(top, [(0, top)]), child(top - 1, [(0, top)])], [0, NONE], [3, 1, 0])
        self.answers([school(1)], [child(top, [(0, top)]), child(0, [(0, top - 1)])], [0, NONE], [0])

    def test_the_score_is_that_at_the_school(self):
        two = [child(1, [(0, 1), (1, 9)]), child(2, [(0, 2), (1, 0)])]
        self.answers([school(1)] * 2, two, [1, 0], [0])
        self.answers([school(1)] * 2, two, [0, 1], [3, 1, 0])

    def test_the_first_in_the_row(self):
        three = [child(9, [(0, 5)]), child(5, [(0, 6)]), child(2, [(0, 7)])]
        self.answers([school(1)], three, [0, NONE, NONE], [3, 1, 0])
        self.answers([school(1)], three, [NONE, 0, NONE], [3, 2, 0])
        self.answers([school(1)], three, [NONE, NONE, NONE], [3, 0, 0])

    def test_the_first_of_the_wishes_in_their_order(self):
        # By the child's own order, not by the schools' numbers.
        one = child(1, [(2, 5), (0, 5), (1, 5)])
        self.answers([school(1)] * 3, [one], [NONE], [3, 0, 2])
        self.answers([school(1)] * 3, [one], [0], [3, 0, 2])
        self.answers([school(1)] * 3, [one], [1], [3, 0, 2])
        self.answers([school(1), school(1), school(0)], [one], [NONE], [3, 0, 0])
        self.answers([school(1), school(1), school(0)], [one], [1], [3, 0, 0])
        self.answers([school(0), school(1), school(0)], [one], [NONE], [3, 0, 1])

    def test_the_first_of_the_wishes_that_would_take_the_child(self):
        two = [child(1, [(1, 9)]), child(2, [(1, 8), (0, 0), (2, 0)])]
        self.answers([school(1)] * 3, two, [1, 2], [3, 1, 0])

    def test_the_child_goes_before_the_wish(self):
        # The first child's second wish, though a later child's first would be open, too.
        three = [child(8, [(0, 1), (1, 1)]), child(7, [(0, 9)]), child(6, [(0, 5)])]
        self.answers([school(1)] * 2, three, [NONE, NONE, 0], [3, 0, 1])

    def test_the_last_of_eight_wishes(self):
        one = child(1, [(k, 5) for k in range(8)])
        self.answers([school(0)] * 7 + [school(1)], [one], [NONE], [3, 0, 7])
        self.answers([school(0)] * 7 + [school(1)], [one], [7], [0])
        self.answers([school(0)] * 6 + [school(1)] * 2, [one], [7], [3, 0, 6])

    def test_256_children_at_64_seats(self):
        many = [child(1000 - k, [(0, 5)]) for k in range(256)]
        self.answers([school(64)], many, [NONE] * 192 + [0] * 64, [0])
        self.answers([school(64)], many, [0] * 64 + [NONE] * 192, [3, 64, 0])
        self.answers([school(64)], many, [NONE] * 191 + [0] * 64 + [NONE], [3, 255, 0])
        self.answers([school(64)], many, [NONE] * 193 + [0] * 63, [3, 0, 0])


class BetterAtHeldSeats(CheckCase):
    def test_one_of_the_group_goes_before_a_greater_score(self):
        for group in range(8):
            with self.subTest(group=group):
                two = [child(1, [(0, 9)], groups=255 - (1 << group)), child(2, [(0, 1)], groups=1 << group)]
                self.answers([school(1, {group: 1})], two, [0, NONE], [3, 1, 0])
                self.answers([school(1, {group: 1})], two, [NONE, 0], [0])
                self.answers([school(1)], two, [NONE, 0], [3, 0, 0])
                self.answers([school(1)], two, [0, NONE], [0])

    def test_within_the_group_score_then_number(self):
        two = [child(4, [(0, 3)], groups=1), child(3, [(0, 3)], groups=1)]
        self.answers([school(1, {0: 1})], two, [0, NONE], [3, 1, 0])
        self.answers([school(1, {0: 1})], two, [NONE, 0], [0])
        two[0] = child(4, [(0, 4)], groups=1)
        self.answers([school(1, {0: 1})], two, [NONE, 0], [3, 0, 0])

    def test_a_group_that_nobody_belongs_to(self):
        two = [child(1, [(0, 5)]), child(2, [(0, 6)], groups=2)]
        self.answers([school(1, {5: 1})], two, [0, NONE], [3, 1, 0])
        self.answers([school(1, {5: 1})], two, [NONE, 0], [0])

    def test_the_best_of_the_group_has_the_held_seat(self):
        # So the one seat that is held for none goes by score, not to the group's second.
        three = [child(1, [(0, 9)], groups=1), child(2, [(0, 1)], groups=1), child(3, [(0, 5)])]
        self.answers([school(2, {0: 1})], three, [0, 0, NONE], [3, 2, 0])
        self.answers([school(2, {0: 1})], three, [0, NONE, 0], [0])

    def test_several_groups_are_gone_through_from_the_least(self):
        # Number 1 has the seat of group 0; that of group 1 goes by score where no other is of it.
        three = [child(1, [(0, 9)], groups=3), child(2, [(0, 1)], groups=1), child(3, [(0, 5)])]
        self.answers([school(2, {0: 1, 1: 1})], three, [0, 0, NONE], [3, 2, 0])
        self.answers([school(2, {0: 1, 1: 1})], three, [0, NONE, 0], [0])
        three[1] = child(2, [(0, 1)], groups=2)
        self.answers([school(2, {0: 1, 1: 1})], three, [0, 0, NONE], [0])
        self.answers([school(2, {0: 1, 1: 1})], three, [0, NONE, 0], [3, 1, 0])

    def test_a_seat_of_a_group_without_members_goes_by_score(self):
        three = [child(1, [(0, 9)], groups=2), child(2, [(0, 1)], groups=2), child(3, [(0, 5)])]
        self.answers([school(2, {0: 1, 1: 1})], three, [0, NONE, 0], [3, 1, 0])
        self.answers([school(2, {0: 1, 1: 1})], three, [0, 0, NONE], [0])

    def test_the_newcomer_need_not_have_the_seat_of_the_one_put_out(self):
        # Number 3 takes the held seat from 1, and 1 the other seat from 2.
        three = [child(1, [(0, 5)], groups=1), child(2, [(0, 4)]), child(3, [(0, 6)], groups=1)]
        self.answers([school(2, {0: 1})], three, [0, 0, NONE], [3, 2, 0])

    def test_all_eight_groups(self):
        members = [child(10 + group, [(0, 1)], groups=1 << group) for group in range(8)]
        other = [child(1, [(0, 9)])]
        seats = {group: 1 for group in range(8)}
        self.answers([school(8, seats)], other + members, [NONE] + [0] * 8, [0])
        self.answers([school(9, seats)], other + members, [NONE] + [0] * 8, [3, 0, 0])
        for group in range(8):
            with self.subTest(group=group):
                place = [0] * 9
                place[1 + group] = NONE
                self.answers([school(8, seats)], other + members, place, [3, 1 + group, 0])

    def test_64_held_seats(self):
        many = [child(k, [(0, 1000 - k)], groups=1 if k >= 192 else 0) for k in range(256)]
        last = [NONE] * 192 + [0] * 64
        first = [0] * 64 + [NONE] * 192
        self.answers([school(64, {0: 64})], many, last, [0])
        self.answers([school(64, {0: 64})], many, first, [3, 192, 0])
        self.answers([school(64, {1: 64})], many, last, [3, 0, 0])
        self.answers([school(64, {1: 64})], many, first, [0])


class WhichComesFirst(CheckCase):
    def test_one_ahead_of_two(self):
        # School 0 is overfull with the first two children; the last has what it didn't wish for.
        three = [child(1, [(0, 5)]), child(2, [(0, 5)]), child(3, [(0, 5)])]
        self.answers([school(1)] * 2, three, [0, 0, 1], [1, 2, NONE])
        self.answers([school(1)] * 2, three, [0, 0, NONE], [2, 0, 2])

    def test_one_ahead_of_three(self):
        three = [child(1, [(0, 5)]), child(2, [(0, 5)]), child(3)]
        self.answers([school(2)], three, [NONE, NONE, 0], [1, 2, NONE])
        self.answers([school(2)], three, [NONE, NONE, NONE], [3, 0, 0])

    def test_two_ahead_of_three(self):
        # The first child would rather have school 0, which has room; school 1 is overfull.
        three = [child(1, [(0, 5)]), child(2, [(1, 5)]), child(3, [(1, 5)])]
        self.answers([school(1)] * 2, three, [NONE, 1, 1], [2, 1, 2])
        self.answers([school(1)] * 2, three, [NONE, 1, NONE], [3, 0, 0])

    def test_one_ahead_of_both(self):
        four = [child(1, [(0, 5)]), child(2, [(1, 5)]), child(3, [(1, 5)]), child(4, [(1, 5)])]
        self.answers([school(1)] * 2, four, [NONE, 1, 1, 0], [1, 3, NONE])
        self.answers([school(1)] * 2, four, [NONE, 1, 1, 254], [1, 3, NONE])
        self.answers([school(1)] * 2, four, [NONE, 1, 1, NONE], [2, 1, 2])

    def test_an_unwished_place_that_overfills(self):
        self.answers([school(0), school(1)], [child(1, [(1, 5)])], [0], [1, 0, NONE])


class Edges(CheckCase):
    def test_no_schools(self):
        self.answers([], [child(1), child(2)], [NONE, NONE], [0])
        self.answers([], [child(1), child(2)], [NONE, 0], [1, 1, NONE])

    def test_no_children(self):
        self.answers([school(3), school(0)], [], [], [0])

    def test_neither(self):
        self.answers([], [], [], [0])

    def test_wishes_for_one_school_by_all(self):
        many = [child(k, [(1, (k * 7) % 10)]) for k in range(10)]
        place = [1 if (k * 7) % 10 >= 6 else NONE for k in range(10)]
        schools = [school(3), school(4), school(3)]
        self.answers(schools, many, place, [0])
        # The seat of number 7, the best, is free, or has number 0, the worst.
        place[7] = NONE
        self.answers(schools, many, place, [3, 0, 1])
        place[0] = 1
        self.answers(schools, many, place, [3, 2, 1])
        self.answers(schools, many, [1] * 10, [2, 1, 10])
        self.answers(schools, many, [NONE] * 10, [3, 0, 1])

    def test_children_without_wishes(self):
        three = [child(1), child(2, [(0, 0)]), child(3)]
        self.answers([school(2)], three, [NONE, 0, NONE], [0])
        self.answers([school(2)], three, [NONE, NONE, NONE], [3, 1, 0])
        self.answers([school(2)], three, [NONE, 0, 0], [1, 2, NONE])

    def test_a_child_that_is_put_out_by_one_whom_another_school_put_out(self):
        three = [child(1, [(0, 1), (1, 9)]), child(2, [(1, 1), (2, 1)]), child(3, [(0, 2)])]
        self.answers([school(1)] * 3, three, [1, 2, 0], [0])
        self.answers([school(1)] * 3, three, [0, 1, NONE], [3, 2, 0])
        self.answers([school(1)] * 3, three, [NONE, 1, 0], [3, 0, 1])


if __name__ == "__main__":
    unittest.main()
