"""The interface: its names and kinds, nothing changed, nothing kept, nothing printed."""

import contextlib
import copy
import inspect
import io
import random
import unittest

import bestplaces.schools
from bestplaces.schools import check, places
from helper import NONE, child, flat, school, some_input, some_place


class Sealed(list):
    """A list that may be read alone: a change fails at once, also one that would be undone later."""

    def deny(self, *args, **kwargs):
        raise AssertionError("what is handed in was changed")

    append = extend = insert = pop = remove = clear = sort = reverse = deny
    __setitem__ = __delitem__ = __iadd__ = __imul__ = deny


RIGHT = (flat([school(1, {0: 1}), school(2), school(0)]),
         flat([child(7, [(0, 2), (1, 3)], groups=1), child(3, [(0, 2), (2, 3)]), child(5)]))
# One for each answer of check: 0, 1, 2 and 3.
TOLD = ([0, NONE, NONE], [0, 1, NONE], [0, 2, NONE], [1, NONE, NONE])
WRONG = (
    (flat([school(65)]), []),
    (flat([school(1)] * 33), []),
    (flat([school(1)]), flat([child(1, groups=256)])),
    (flat([school(1)]), flat([child(1), child(1)])),
    (flat([school(1)]), flat([child(1, [(1, 1)])])),
)


def refused_calls():
    """Each call with each wrong input."""
    calls = []
    for schools, children in WRONG:
        calls.append((places, (schools, children, [])))
        calls.append((check, (schools, children, [0] * (len(children) // 18))))
    return calls


def calls_of_each_answer():
    told = [(check, (RIGHT[0], RIGHT[1], place)) for place in TOLD]
    return [(places, (RIGHT[0], RIGHT[1], []))] + told + refused_calls()


def drawn_calls(seed):
    draw = random.Random(seed)
    calls = []
    for turn in range(50):
        schools, children = some_input(draw, most_schools=5, most_children=10)
        calls.append((places, (flat(schools), flat(children), [])))
        calls.append((check, (flat(schools), flat(children), some_place(draw, schools, children))))
        fair = places(flat(schools), flat(children), [])[1:]
        calls.append((check, (flat(schools), flat(children), fair)))
    return calls


class Interface(unittest.TestCase):
    def test_names_of_the_arguments(self):
        self.assertEqual(list(inspect.signature(places).parameters), ["schools", "children", "nothing"])
        self.assertEqual(places(schools=RIGHT[0], children=RIGHT[1], nothing=[]), [1, 0, 255, 255])
        self.assertEqual(list(inspect.signature(check).parameters), ["schools", "children", "place"])
        self.assertEqual(check(schools=RIGHT[0], children=RIGHT[1], place=[0, 255, 255]), [0])

    def test_the_calls_here_are_of_each_answer(self):
        answers = [check(RIGHT[0], RIGHT[1], place) for place in TOLD]
        self.assertEqual(answers, [[0], [1, 1, NONE], [2, 2, 1], [3, 0, 0]])

    def test_what_is_handed_in_is_not_changed(self):
        for call, handed in calls_of_each_answer() + drawn_calls(13):
            before = copy.deepcopy(handed)
            call(*handed)
            self.assertEqual(handed, before)

    def test_not_for_a_while_either(self):
        for call, handed in calls_of_each_answer() + drawn_calls(11):
            self.assertEqual(call(*[Sealed(numbers) for numbers in handed]), call(*handed))

    def test_a_second_call_answers_the_same(self):
        calls = calls_of_each_answer() + drawn_calls(12)
        first = [call(*handed) for call, handed in calls]
        again = [call(*handed) for call, handed in reversed(calls)]
        self.assertEqual(first, again[::-1])

    def test_an_answer_that_is_changed_changes_no_later_one(self):
        for call, handed in calls_of_each_answer():
            answer = call(*handed)
            kept = list(answer)
            answer.append(99)
            answer[0] = 99
            self.assertEqual(call(*handed), kept)

    def test_nothing_is_kept_in_the_module(self):
        def kept():
            return {name: copy.copy(value) for name, value in vars(bestplaces.schools).items()
                    if not name.startswith("__")}

        before = kept()
        for call, handed in calls_of_each_answer():
            call(*handed)
        self.assertEqual(kept(), before)

    def test_nothing_is_printed(self):
        out, err = io.StringIO(), io.StringIO()
        with contextlib.redirect_stdout(out), contextlib.redirect_stderr(err):
            for call, handed in calls_of_each_answer():
                call(*handed)
        self.assertEqual((out.getvalue(), err.getvalue()), ("", ""))

    def test_an_answer_is_a_list_of_whole_numbers(self):
        for call, handed in calls_of_each_answer() + drawn_calls(14):
            answer = call(*handed)
            self.assertIs(type(answer), list)
            self.assertEqual([type(number) for number in answer], [int] * len(answer))

    def test_how_many_numbers_check_answers(self):
        for call, handed in calls_of_each_answer() + drawn_calls(15):
            if call is check:
                answer = call(*handed)
                self.assertEqual(len(answer), 3 if answer[0] in (1, 2, 3) else 1)

    def test_a_refusal_is_its_number_alone(self):
        for call, handed in refused_calls():
            self.assertEqual(call(*handed), [-22])


if __name__ == "__main__":
    unittest.main()
