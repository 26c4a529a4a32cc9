"""Places at schools: the fair ones in which every child has its best place, and whether places told are fair."""

MOST_SCHOOLS = 32
MOST_CHILDREN = 256
MOST_SEATS = 64
MOST_GROUPS = 255
WISH_COUNT = 8
NO_SCHOOL = 255
SCHOOL_WIDTH = 10
CHILD_WIDTH = 18


class School:
    def __init__(self, numbers):
        self.seats = numbers[0]
        self.none = numbers[1]
        self.held = numbers[2:10]


class Child:
    def __init__(self, numbers):
        self.number = numbers[0]
        self.groups = numbers[1]
        self.school = numbers[2:10]
        self.score = numbers[10:18]


# What a school sees of a child: not its other wishes, and the score at this school alone.
class Applicant:
    def __init__(self, row, child, wish):
        self.row = row
        self.number = child.number
        self.groups = child.groups
        self.score = child.score[wish]


def cut(numbers, width):
    return [numbers[start:start + width] for start in range(0, len(numbers), width)]


def read_schools(numbers):
    return [School(part) for part in cut(numbers, SCHOOL_WIDTH)]


def read_children(numbers):
    return [Child(part) for part in cut(numbers, CHILD_WIDTH)]


def school_is_right(school):
    return school.seats <= MOST_SEATS and school.none == 0 and sum(school.held) <= school.seats


def wishes_are_right(child, school_count):
    wished = {}
    ended = False
    for wish in range(WISH_COUNT):
        school = child.school[wish]
        if school == NO_SCHOOL:
            ended = True
            if child.score[wish] != 0:
                return False
        elif ended or school >= school_count or school in wished:
            return False
        else:
            wished[school] = True
    return True


def child_is_right(child, school_count):
    return child.groups <= MOST_GROUPS and wishes_are_right(child, school_count)


def numbers_differ(children):
    return len(set([child.number for child in children])) == len(children)


def too_many(schools, children):
    return len(schools) > MOST_SCHOOLS * SCHOOL_WIDTH or len(children) > MOST_CHILDREN * CHILD_WIDTH


def refused(schools, children):
    if too_many(schools, children):
        return True
    for school in read_schools(schools):
        if not school_is_right(school):
            return True
    school_count = len(schools) // SCHOOL_WIDTH
    child_list = read_children(children)
    for child in child_list:
        if not child_is_right(child, school_count):
            return True
    return not numbers_differ(child_list)


# Seats held for none stand last, as if for one group more: no child is in it, so score and number alone decide.
def seats_by_group(school):
    return school.held + [school.seats - sum(school.held)]


def seat_order(applicant, group):
    outside = 1 - (applicant.groups >> group) % 2
    return (outside, -applicant.score, applicant.number)


# No seat turns anybody away while it is free, so the one at index k has seat k,
# and those from index school.seats on have none.
def in_seat_order(school, applicants):
    seated = []
    waiting = applicants
    for group, seats in enumerate(seats_by_group(school)):
        line = sorted(waiting, key=lambda applicant: seat_order(applicant, group))
        seated = seated + line[:seats]
        waiting = line[seats:]
    return seated + waiting


# One applicant more never brings back one whom the school put out, so a child need not ask a school twice,
# and it makes no difference which of the waiting children asks next.
def best_kept(schools, children):
    kept = [[] for school in schools]
    asked = [0 for child in children]
    waiting = list(range(len(children)))
    while len(waiting) > 0:
        row = waiting.pop()
        child = children[row]
        wish = asked[row]
        if wish < WISH_COUNT and child.school[wish] != NO_SCHOOL:
            asked[row] = wish + 1
            wished = child.school[wish]
            seats = schools[wished].seats
            line = in_seat_order(schools[wished], kept[wished] + [Applicant(row, child, wish)])
            kept[wished] = line[:seats]
            waiting.extend([applicant.row for applicant in line[seats:]])
    return kept


def place_of_each(kept, child_count):
    place = [NO_SCHOOL for row in range(child_count)]
    for school, applicants in enumerate(kept):
        for applicant in applicants:
            place[applicant.row] = school
    return place


def places(schools, children, nothing):
    if refused(schools, children):
        return [-22]
    child_list = read_children(children)
    kept = best_kept(read_schools(schools), child_list)
    place = place_of_each(kept, len(child_list))
    return [len([school for school in place if school != NO_SCHOOL])] + place


def first_unwished(children, place):
    for row, child in enumerate(children):
        if place[row] != NO_SCHOOL and place[row] not in child.school:
            return [1, row, NO_SCHOOL]
    return None


def applicant_at(school, row, child):
    return Applicant(row, child, child.school.index(school))


# Only for places without an unwished one: at a school that wasn't wished for, a child has no score.
def those_at_each(school_count, children, place):
    there = [[] for school in range(school_count)]
    for row, child in enumerate(children):
        if place[row] != NO_SCHOOL:
            there[place[row]].append(applicant_at(place[row], row, child))
    return there


def first_overfull(schools, there):
    for number, school in enumerate(schools):
        if len(there[number]) > school.seats:
            return [2, number, len(there[number])]
    return None


# Only for places without an unwished one. A place of 255 is found, too, where it stands: behind the last wish,
# or nowhere, if there are eight wishes.
def rather_wished(child, place):
    if place in child.school:
        return child.school[:child.school.index(place)]
    return child.school


def would_take(school, there, applicant):
    line = in_seat_order(school, there + [applicant])
    return applicant.row in [other.row for other in line[:school.seats]]


def first_better(schools, children, place, there):
    for row, child in enumerate(children):
        for wished in rather_wished(child, place[row]):
            if would_take(schools[wished], there[wished], applicant_at(wished, row, child)):
                return [3, row, wished]
    return None


def check(schools, children, place):
    if refused(schools, children):
        return [-22]
    school_list = read_schools(schools)
    child_list = read_children(children)
    unwished = first_unwished(child_list, place)
    if unwished is not None:
        return unwished
    there = those_at_each(len(school_list), child_list, place)
    overfull = first_overfull(school_list, there)
    if overfull is not None:
        return overfull
    better = first_better(school_list, child_list, place, there)
    if better is not None:
        return better
    return [0]
