"""Promises 1 and 2, and "What holds", a to e, against a plain search over all places."""

import itertools
import random
import unittest

from bestplaces.schools import check, places
from helper import (NONE, all_fair, best_of, child, flat, nearly, plain_check, rank, school, some_child, some_input,
                    some_place)


def crossed_input(draw):
    """One seat for each child and wishes for all: here there is often more than one fair way."""
    schools = [school(1, draw.choice([{}, {0: 1}, {1: 1}])) for k in range(4)]
    children = [child(number, [(k, draw.randrange(9)) for k in draw.sample(range(4), 4)], draw.randrange(4))
                for number in draw.sample(range(9), 4)]
    return schools, children


def place_of(schools, children):
    return places(flat(schools), flat(children), [])[1:]


class BestOfAllFair(unittest.TestCase):
    def held_against_search(self, schools, children):
        fair = all_fair(schools, children)
        answer = places(flat(schools), flat(children), [])
        with self.subTest(schools=schools, children=children):
            self.assertIn(tuple(answer[1:]), fair)
            self.assertEqual(answer[1:], best_of(children, fair))
            self.assertEqual(answer[0], len([where for where in answer[1:] if where != NONE]))
        return fair

    def test_drawn_inputs(self):
        draw = random.Random(1)
        for turn in range(1500):
            self.held_against_search(*some_input(draw))

    def test_drawn_inputs_with_several_fair_ways(self):
        draw = random.Random(10)
        several = 0
        for turn in range(400):
            several += len(self.held_against_search(*crossed_input(draw))) > 1
        # With one fair way only, the best for the children is not told from any other.
        self.assertGreater(several, 40)

    def test_drawn_inputs_of_many_children_at_two_schools(self):
        draw = random.Random(2)
        for turn in range(60):
            self.held_against_search(*some_input(draw, most_schools=2, most_children=7, scores=3))

    def test_all_groups_at_one_school(self):
        # Every set of groups for three children, and every way to hold two seats for groups 0 and 1.
        for groups in itertools.product(range(4), repeat=3):
            for held in ({}, {0: 1}, {1: 1}, {0: 2}, {1: 2}, {0: 1, 1: 1}):
                children = [child(9 - k, [(0, k)], groups=mine) for k, mine in enumerate(groups)]
                self.held_against_search([school(2, held)], children)

    def test_all_fair_fill_the_same_seats(self):
        draw = random.Random(3)
        for turn in range(300):
            schools, children = some_input(draw) if turn % 2 else crossed_input(draw)
            place = place_of(schools, children)
            for other in all_fair(schools, children):
                with self.subTest(schools=schools, children=children, other=other):
                    self.assertEqual(sorted(place), sorted(other))
                    self.assertEqual([where == NONE for where in place], [where == NONE for where in other])


class CheckOfAllPlaces(unittest.TestCase):
    def held_against_search(self, schools, children):
        """Every way to give places, at a school that isn't there too; how often each number was answered."""
        count = {0: 0, 1: 0, 2: 0, 3: 0}
        numbers = (flat(schools), flat(children))
        fair = set(all_fair(schools, children))
        for place in itertools.product(list(range(len(schools) + 1)) + [NONE], repeat=len(children)):
            answer = check(numbers[0], numbers[1], list(place))
            count[answer[0]] += 1
            if answer != plain_check(schools, children, place) or (answer == [0]) != (place in fair):
                self.fail((schools, children, place, answer))
        return count

    def test_drawn_inputs(self):
        draw = random.Random(31)
        total = {0: 0, 1: 0, 2: 0, 3: 0}
        for turn in range(250):
            count = self.held_against_search(*some_input(draw, most_children=4))
            total = {number: total[number] + count[number] for number in total}
        self.assertGreater(min(total.values()), 200)

    def test_drawn_inputs_with_several_fair_ways(self):
        draw = random.Random(32)
        several = 0
        for turn in range(40):
            several += self.held_against_search(*crossed_input(draw))[0] > 1
        self.assertGreater(several, 4)

    def test_all_groups_at_one_school(self):
        for groups in itertools.product(range(4), repeat=3):
            for held in ({}, {0: 1}, {1: 1}, {0: 2}, {1: 2}, {0: 1, 1: 1}):
                children = [child(9 - k, [(0, k)], groups=mine) for k, mine in enumerate(groups)]
                self.held_against_search([school(2, held)], children)


class CheckOfSomePlaces(unittest.TestCase):
    def held_against_search(self, schools, children, place):
        answer = check(flat(schools), flat(children), place)
        with self.subTest(schools=schools, children=children, place=place):
            self.assertEqual(answer, plain_check(schools, children, place))
        return answer

    def test_what_places_answers_is_fair(self):
        draw = random.Random(33)
        for turn in range(500):
            schools, children = some_input(draw, most_schools=6, most_children=15)
            answer = self.held_against_search(schools, children, place_of(schools, children))
            self.assertEqual(answer, [0])

    def test_nearly_those(self):
        draw = random.Random(34)
        answered = []
        for turn in range(1000):
            schools, children = some_input(draw, most_schools=6, most_children=15, groups=8)
            place = nearly(draw, children, place_of(schools, children))
            answered.append(self.held_against_search(schools, children, place)[0])
        for number in (0, 1, 2, 3):
            self.assertGreater(answered.count(number), 50)

    def test_any(self):
        draw = random.Random(35)
        answered = []
        for turn in range(1000):
            schools, children = some_input(draw, most_schools=6, most_children=8)
            answered.append(self.held_against_search(schools, children, some_place(draw, schools, children))[0])
        for number in (0, 1, 2, 3):
            self.assertGreater(answered.count(number), 10)


class WhatHolds(unittest.TestCase):
    def test_best_and_the_same_seats_of_all_that_check_finds_fair(self):
        draw = random.Random(36)
        for turn in range(150):
            schools, children = some_input(draw, most_children=4) if turn % 2 else crossed_input(draw)
            place = place_of(schools, children)
            numbers = (flat(schools), flat(children))
            ways = itertools.product(list(range(len(schools))) + [NONE], repeat=len(children))
            for fair in [list(way) for way in ways if check(numbers[0], numbers[1], list(way)) == [0]]:
                with self.subTest(schools=schools, children=children, fair=fair):
                    self.assertEqual(sorted(fair), sorted(place))
                    for one, best, other in zip(children, place, fair):
                        self.assertLessEqual(rank(one, best), rank(one, other))
                        self.assertEqual(best == NONE, other == NONE)

    def test_nobody_gains_by_other_wishes(self):
        draw = random.Random(4)
        for turn in range(120):
            schools, children = some_input(draw)
            place = place_of(schools, children)
            for k, one in enumerate(children):
                self.no_gain(schools, children, k, rank(one, place[k]))

    def no_gain(self, schools, children, k, now):
        one = children[k]
        score = dict(zip(one[2:10], one[10:18]))
        for size in range(len(schools) + 1):
            for wished in itertools.permutations(range(len(schools)), size):
                told = child(one[0], [(where, score.get(where, 3)) for where in wished], one[1])
                got = place_of(schools, children[:k] + [told] + children[k + 1:])[k]
                with self.subTest(schools=schools, children=children, k=k, told=told):
                    self.assertGreaterEqual(rank(one, got), now)

    def test_wishes_behind_the_place_change_nothing(self):
        draw = random.Random(5)
        for turn in range(300):
            schools, children = some_input(draw, most_schools=5, most_children=10)
            place = place_of(schools, children)
            for k, one in enumerate(children):
                keep = rank(one, place[k]) + 1
                short = child(one[0], [pair for pair in zip(one[2:10], one[10:18]) if pair[0] != NONE][:keep], one[1])
                with self.subTest(schools=schools, children=children, k=k):
                    self.assertEqual(place_of(schools, children[:k] + [short] + children[k + 1:]), place)

    def test_one_child_more_makes_nobodys_place_better(self):
        draw = random.Random(6)
        for turn in range(300):
            schools, children = some_input(draw, most_schools=5, most_children=10)
            before = place_of(schools, children)
            where = draw.randint(0, len(children))
            more = some_child(draw, draw.randrange(50, 60), len(schools))
            after = place_of(schools, children[:where] + [more] + children[where:])
            after = after[:where] + after[where + 1:]
            for k, one in enumerate(children):
                with self.subTest(schools=schools, children=children, more=more, k=k):
                    self.assertGreaterEqual(rank(one, after[k]), rank(one, before[k]))

    def test_one_seat_more_makes_nobodys_place_worse(self):
        draw = random.Random(7)
        for turn in range(300):
            schools, children = some_input(draw, most_schools=5, most_children=10)
            before = place_of(schools, children)
            grown = [list(a_school) for a_school in schools]
            grown[draw.randrange(len(schools))][0] += 1
            after = place_of(grown, children)
            for k, one in enumerate(children):
                with self.subTest(schools=schools, grown=grown, children=children, k=k):
                    self.assertLessEqual(rank(one, after[k]), rank(one, before[k]))


class RowOfChildren(unittest.TestCase):
    def test_the_row_does_not_matter(self):
        draw = random.Random(8)
        for turn in range(300):
            schools, children = some_input(draw, most_schools=5, most_children=12)
            place = place_of(schools, children)
            order = list(range(len(children)))
            draw.shuffle(order)
            with self.subTest(schools=schools, children=children, order=order):
                self.assertEqual(place_of(schools, [children[k] for k in order]), [place[k] for k in order])


if __name__ == "__main__":
    unittest.main()
