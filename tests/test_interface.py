"""The interface: its names and kinds, nothing changed, nothing kept, nothing printed."""

import contextlib
import copy
import inspect
import io
import random
import unittest

import bestplaces.schools
from bestplaces.schools import places
from helper import child, flat, school, some_input


class Sealed(list):
    """A list that may be read alone: a change fails at once, also one that would be undone later."""

    def deny(self, *args, **kwargs):
        raise AssertionError("what is handed in was changed")

    append = extend = insert = pop = remove = clear = sort = reverse = deny
    __setitem__ = __delitem__ = __iadd__ = __imul__ = deny


RIGHT = (flat([school(1, {0: 1}), school(2), school(0)]),
         flat([child(7, [(0, 2), (1, 3)], groups=1), child(3, [(0, 2), (2, 3)]), child(5)]))
WRONG = (
    (flat([school(65)]), []),
    (flat([school(1)] * 33), []),
    (flat([school(1)]), flat([child(1, groups=256)])),
    (flat([school(1)]), flat([child(1), child(1)])),
    (flat([school(1)]), flat([child(1, [(1, 1)])])),
)


class Interface(unittest.TestCase):
    def test_names_of_the_arguments(self):
        self.assertEqual(list(inspect.signature(places).parameters), ["schools", "children", "nothing"])
        self.assertEqual(places(schools=RIGHT[0], children=RIGHT[1], nothing=[]), [1, 0, 255, 255])

    def test_what_is_handed_in_is_not_changed(self):
        for schools, children in (RIGHT,) + WRONG:
            handed = (list(schools), list(children), [])
            places(*handed)
            self.assertEqual(handed, (schools, children, []))

    def test_not_for_a_while_either(self):
        draw = random.Random(11)
        for turn in range(50):
            schools, children = some_input(draw, most_schools=5, most_children=10)
            places(Sealed(flat(schools)), Sealed(flat(children)), Sealed())
        for schools, children in WRONG:
            self.assertEqual(places(Sealed(schools), Sealed(children), Sealed()), [-22])

    def test_a_second_call_answers_the_same(self):
        draw = random.Random(12)
        inputs = [some_input(draw, most_schools=5, most_children=10) for turn in range(50)]
        inputs = [(flat(schools), flat(children)) for schools, children in inputs] + list(WRONG)
        first = [places(schools, children, []) for schools, children in inputs]
        again = [places(schools, children, []) for schools, children in reversed(inputs)]
        self.assertEqual(first, again[::-1])

    def test_an_answer_that_is_changed_changes_no_later_one(self):
        for schools, children in (RIGHT,) + WRONG:
            answer = places(schools, children, [])
            kept = list(answer)
            answer.append(99)
            answer[0] = 99
            self.assertEqual(places(schools, children, []), kept)

    def test_nothing_is_kept_in_the_module(self):
        def kept():
            return {name: copy.copy(value) for name, value in vars(bestplaces.schools).items()
                    if not name.startswith("__")}

        before = kept()
        places(RIGHT[0], RIGHT[1], [])
        places(WRONG[0][0], WRONG[0][1], [])
        self.assertEqual(kept(), before)

    def test_nothing_is_printed(self):
        out, err = io.StringIO(), io.StringIO()
        with contextlib.redirect_stdout(out), contextlib.redirect_stderr(err):
            places(RIGHT[0], RIGHT[1], [])
            places(WRONG[0][0], WRONG[0][1], [])
        self.assertEqual((out.getvalue(), err.getvalue()), ("", ""))

    def test_a_refusal_is_its_number_alone(self):
        for schools, children in WRONG:
            answer = places(schools, children, [])
            self.assertEqual(answer, [-22])
            self.assertIs(type(answer), list)
            self.assertIs(type(answer[0]), int)


if __name__ == "__main__":
    unittest.main()
