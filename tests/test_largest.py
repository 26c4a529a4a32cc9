"""The largest input: 32 schools, 256 children, eight wishes each."""

import random
import time
import unittest

from bestplaces.schools import check, places
from helper import NONE, child, flat, is_fair, plain_check, school

SECONDS = 10
TOP = 2 ** 32 - 1


class Largest(unittest.TestCase):
    def answered_in_time(self, schools, children):
        self.assertEqual((len(schools), len(children)), (32, 256))
        handed = (flat(schools), flat(children))
        start = time.perf_counter()
        answer = places(handed[0], handed[1], [])
        self.assertLess(time.perf_counter() - start, SECONDS)
        self.assertEqual(len(answer), 257)
        self.assertEqual(answer[0], len([where for where in answer[1:] if where != NONE]))
        self.assertTrue(is_fair(schools, children, answer[1:]))
        self.assertEqual(self.checked_in_time(schools, children, answer[1:]), [0])
        return answer

    def checked_in_time(self, schools, children, place):
        handed = (flat(schools), flat(children))
        start = time.perf_counter()
        answer = check(handed[0], handed[1], place)
        self.assertLess(time.perf_counter() - start, SECONDS)
        self.assertEqual(answer, plain_check(schools, children, place))
        return answer

    def test_drawn(self):
        draw = random.Random(21)
        for most in (4, 10, 64):
            schools = []
            for k in range(32):
                held = {group: draw.randint(0, most // 8) for group in range(8)}
                schools.append(school(max(sum(held.values()), draw.randint(0, most)), held))
            children = [child(number, [(k, draw.randrange(TOP + 1)) for k in draw.sample(range(32), 8)],
                              draw.randrange(256))
                        for number in draw.sample(range(TOP + 1), 256)]
            self.answered_in_time(schools, children)

    def test_the_same_eight_wishes_by_all(self):
        # 8 schools of 31 seats are too few by 8 children: each of these is turned away eight times.
        schools = [school(31, {group: 3 for group in range(8)}) for k in range(32)]
        children = [child(k, [(where, 1000 - k) for where in range(8)], k % 256) for k in range(256)]
        answer = self.answered_in_time(schools, children)
        self.assertEqual(answer[0], 248)

    def test_each_newcomer_puts_out_another(self):
        # Whichever end of the row asks first, one of these two has the weaker ask before the stronger.
        for sign in (1, -1):
            schools = [school(31) for k in range(32)]
            children = [child(k, [(where, 1000 + sign * k) for where in range(8)]) for k in range(256)]
            answer = self.answered_in_time(schools, children)
            ranked = list(range(256))[::-sign]
            expected = [NONE] * 256
            for position, k in enumerate(ranked):
                expected[k] = position // 31 if position < 248 else NONE
            self.assertEqual(answer, [248] + expected)

    def test_64_seats_at_each(self):
        schools = [school(64, {group: 8 for group in range(8)}) for k in range(32)]
        children = [child(k, [((k + j) % 32, k) for j in range(8)], k) for k in range(256)]
        answer = self.answered_in_time(schools, children)
        self.assertEqual(answer, [256] + [k % 32 for k in range(256)])

    def test_check_finds_the_last_fault(self):
        # All schools are full in all but the last wishes of the last child, so all else is gone through first.
        schools = [school(31, {group: 3 for group in range(8)}) for k in range(32)]
        children = [child(k, [(where, 1000 - k) for where in range(8)]) for k in range(255)]
        children.append(child(255, [(where, 1000 - 255) for where in range(7)] + [(31, 0)]))
        place = places(flat(schools), flat(children), [])[1:]
        self.assertEqual(place[255], 31)
        self.assertEqual(self.checked_in_time(schools, children, place), [0])
        place[255] = NONE
        self.assertEqual(self.checked_in_time(schools, children, place), [3, 255, 31])

    def test_check_of_all_at_one(self):
        schools = [school(64) for k in range(32)]
        children = [child(k, [(where, k) for where in range(24, 32)]) for k in range(256)]
        self.assertEqual(self.checked_in_time(schools, children, [31] * 256), [2, 31, 256])
        self.assertEqual(self.checked_in_time(schools, children, [31] * 255 + [0]), [1, 255, NONE])
        self.assertEqual(self.checked_in_time(schools, children, [NONE] * 256), [3, 0, 24])


if __name__ == "__main__":
    unittest.main()
