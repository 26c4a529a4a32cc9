"""What the tests share: making inputs, and the document's words on fairness told plainly.

Nothing here draws on the program, so that the two can be held against each other.
"""

import itertools

NONE = 255


def school(seats, held=None, none=0):
    """A school as its ten numbers; held: a dict from group to seats."""
    held = held or {}
    return [seats, none] + [held.get(group, 0) for group in range(8)]


def child(number, wishes=(), groups=0):
    """A child as its eighteen numbers; wishes: pairs of school and score."""
    wishes = list(wishes)
    blank = 8 - len(wishes)
    return ([number, groups]
            + [wished for wished, score in wishes] + [NONE] * blank
            + [score for wished, score in wishes] + [0] * blank)


def flat(rows):
    return [number for row in rows for number in row]


def wishes_of(one):
    return [wished for wished in one[2:10] if wished != NONE]


def rank(one, place):
    """How good a place is to a child: less is better; none is behind all wishes."""
    wishes = wishes_of(one)
    return wishes.index(place) if place in wishes else len(wishes)


def seat_kinds(a_school):
    """The group that each seat is held for, in the order of the seats; None: for none."""
    kinds = []
    for group in range(8):
        kinds += [group] * a_school[2 + group]
    return kinds + [None] * (a_school[0] - len(kinds))


def is_before(kind, where, one, other):
    """Whether one is before other by the order of a seat at school number where."""
    if kind is not None:
        one_in = bool(one[1] & (1 << kind))
        other_in = bool(other[1] & (1 << kind))
        if one_in != other_in:
            return one_in
    one_score = one[10 + one[2:10].index(where)]
    other_score = other[10 + other[2:10].index(where)]
    if one_score != other_score:
        return one_score > other_score
    return one[0] < other[0]


def taken(a_school, where, those):
    """Whom the school takes: seat by seat, each to the first who hasn't one yet."""
    left = list(those)
    got = []
    for kind in seat_kinds(a_school):
        if not left:
            break
        first = left[0]
        for one in left[1:]:
            if is_before(kind, where, one, first):
                first = one
        left.remove(first)
        got.append(first)
    return got


def there(children, place, where):
    """Those who have a place at school number where."""
    return [one for one, has in zip(children, place) if has == where]


def would_rather(one, where, place):
    """Whether a child would rather have school number where than its place."""
    wishes = wishes_of(one)
    if where not in wishes:
        return False
    return place == NONE or place not in wishes or wishes.index(where) < wishes.index(place)


def unwished(children, place):
    """The rows of all children that have a place they didn't wish for, in their order."""
    for row, one in enumerate(children):
        if place[row] != NONE and place[row] not in wishes_of(one):
            yield row


def overfull(schools, children, place):
    """All schools with more children than seats, by their numbers, and how many each has."""
    for where, a_school in enumerate(schools):
        count = len(there(children, place, where))
        if count > a_school[0]:
            yield where, count


def better(schools, children, place):
    """All children and wishes of which a child would rather have the wish and would be taken."""
    for row, one in enumerate(children):
        for where in wishes_of(one):
            if would_rather(one, where, place[row]):
                together = there(children, place, where) + [one]
                if one in taken(schools[where], where, together):
                    yield row, where


def has_none(found):
    return next(found, None) is None


def is_fair(schools, children, place):
    return (has_none(unwished(children, place))
            and has_none(overfull(schools, children, place))
            and has_none(better(schools, children, place)))


def plain_check(schools, children, place):
    """What check is to answer: the first fault of the first kind that there is."""
    for row in unwished(children, place):
        return [1, row, NONE]
    for where, count in overfull(schools, children, place):
        return [2, where, count]
    for row, where in better(schools, children, place):
        return [3, row, where]
    return [0]


def all_fair(schools, children):
    """Every fair way to give places, out of all ways whatsoever."""
    choices = list(range(len(schools))) + [NONE]
    return [place for place in itertools.product(choices, repeat=len(children))
            if is_fair(schools, children, place)]


def best_of(children, fair):
    """For each child the best place that it has in any of the fair ones."""
    return [min((place[k] for place in fair), key=lambda where: rank(one, where))
            for k, one in enumerate(children)]


def some_input(draw, most_schools=3, most_children=5, groups=3, scores=4):
    """A small right input; draw is a random.Random with a seed of the test's own."""
    count = draw.randint(1, most_schools)
    schools = []
    for k in range(count):
        seats = draw.choice([0, 1, 1, 1, 2, 2, 3])
        held = {}
        for taken_seat in range(draw.randint(0, seats)):
            group = draw.randrange(groups)
            held[group] = held.get(group, 0) + 1
        schools.append(school(seats, held))
    numbers = draw.sample(range(50), draw.randint(1, most_children))
    children = [some_child(draw, number, count, groups, scores) for number in numbers]
    return schools, children


def some_child(draw, number, school_count, groups=3, scores=4):
    wished = draw.sample(range(school_count), draw.choice([0] + [school_count] * 3 + [1]))
    return child(number, [(k, draw.randrange(scores)) for k in wished], draw.randrange(1 << groups))


def some_place(draw, schools, children):
    """Some places: mostly wished ones, now and then one that isn't, or at a school that isn't there."""
    strays = list(range(len(schools) + 1)) + [254]
    return [draw.choice(strays) if draw.randrange(20) == 0 else draw.choice(wishes_of(one) + [NONE])
            for one in children]


def nearly(draw, children, place):
    """The places told but for one child, or for two that change theirs."""
    place = list(place)
    row, other = draw.randrange(len(place)), draw.randrange(len(place))
    if draw.randrange(2):
        place[row], place[other] = place[other], place[row]
    else:
        place[row] = draw.choice(wishes_of(children[row]) + [NONE])
    return place
