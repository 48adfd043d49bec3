"""The calls on one object, and how a list of them is answered.

Each call answers a list: the number that is answered first, then those of out.
A refusal is a list of its number alone.
"""

from fathersets.people import People

NOT_THERE = -2
FIRST_ALONE = -6
ALREADY_SO = -17
OUT_OF_BOUNDS = -22
TOO_MANY = -28
HAS_NONE = -33

MOST_YEARS_A_TERM = 20
MOST_SETS_BEHIND = 8
MOST_GRADES = 12
LATEST_FIRST_SET = 100
LATEST_BIRTH = 2000
LATEST_YEAR_ASKED = 20000
HIGHEST_AGE_ASKED = 2000
OLDEST_FATHER_ASKED = 100
MOST_FATHERS_ASKED = 4
MOST_MEN = 24


# Answers are whole numbers, never True or False.
def as_number(holds):
    return 1 if holds else 0


# Told with a sign, since no number but a refusal may be below 0.
def signed(number):
    return [as_number(number < 0), abs(number)]


# How many they are stands ahead of the set, since that is what is answered first.
def as_set(men):
    return [len(men), sum([1 << man for man in men])]


def between(low, high, number):
    return low <= number and number <= high


def grade_or_refusal(people, man, year):
    grade = people.grade_in(man, year)
    if grade is None:
        return [HAS_NONE]
    return [grade]


def fr_start(people, t, k, g, f):
    if not between(1, MOST_YEARS_A_TERM, t) or not between(1, MOST_SETS_BEHIND, k):
        return [OUT_OF_BOUNDS]
    if not between(1, MOST_GRADES, g) or f > LATEST_FIRST_SET:
        return [OUT_OF_BOUNDS]
    people.begin(t, k, g, f)
    return [f]


def fr_son(people, p, y):
    if not people.has(p):
        return [NOT_THERE]
    if y > LATEST_BIRTH or y <= people.births[p]:
        return [OUT_OF_BOUNDS]
    if people.how_many() >= MOST_MEN:
        return [TOO_MANY]
    son = people.how_many()
    people.add_son(p, y)
    return [son] + signed(people.age_in(son))


def fr_drop(people):
    if people.how_many() == 1:
        return [FIRST_ALONE]
    people.drop_last()
    return [people.how_many()]


def fr_behind(people, k):
    if not between(1, MOST_SETS_BEHIND, k):
        return [OUT_OF_BOUNDS]
    before = people.behind
    if k == before:
        return [ALREADY_SO]
    people.put_behind(k)
    return [before]


def fr_enters(people, i):
    if not people.has(i):
        return [NOT_THERE]
    return [people.year_in(i), people.sets_behind_first(i)]


def fr_age(people, i):
    if not people.has(i):
        return [NOT_THERE]
    return [0] + signed(people.age_in(i))


def fr_grade(people, i, y):
    if not people.has(i):
        return [NOT_THERE]
    if y > LATEST_YEAR_ASKED:
        return [OUT_OF_BOUNDS]
    return grade_or_refusal(people, i, y)


def fr_born_into(people, i):
    if not people.has(i):
        return [NOT_THERE]
    return grade_or_refusal(people, i, people.births[i])


def fr_fathers(people, i):
    if not people.has(i):
        return [NOT_THERE]
    if i == 0:
        return [HAS_NONE]
    return [people.births[i] - people.births[people.fathers[i]]]


def fr_drift(people, i):
    if not people.has(i):
        return [NOT_THERE]
    return [people.fathers_above(i)] + signed(people.age_in(i) - people.age_in(0))


def fr_line(people, i):
    if not people.has(i):
        return [NOT_THERE]
    return as_set(people.line_of(i))


def fr_in_step(people, l, h):
    if h < l or h > HIGHEST_AGE_ASKED:
        return [OUT_OF_BOUNDS]
    return as_set([man for man in range(people.how_many()) if between(l, h, people.age_in(man))])


def fr_too_old(people, h):
    if h > HIGHEST_AGE_ASKED:
        return [OUT_OF_BOUNDS]
    return as_set([man for man in range(people.how_many()) if people.age_in(man) > h])


def fr_too_young(people, l):
    if l > HIGHEST_AGE_ASKED:
        return [OUT_OF_BOUNDS]
    return as_set([man for man in range(people.how_many()) if people.age_in(man) < l])


def fr_sons(people, p):
    if not people.has(p):
        return [NOT_THERE]
    return as_set(people.sons_of(p))


def fr_window(people, p, l, h):
    if not people.has(p):
        return [NOT_THERE]
    if h < l or h > HIGHEST_AGE_ASKED:
        return [OUT_OF_BOUNDS]
    son_in = people.year_in(p) + people.gap()
    # The older he is to be, the earlier he is born; but never as early as his father.
    first = max(son_in - h, people.births[p] + 1)
    last = son_in - l
    if last < first:
        return [HAS_NONE]
    return [first, last]


def fr_mean(people, i):
    if not people.has(i):
        return [NOT_THERE]
    if i == 0:
        return [HAS_NONE]
    fathers = people.fathers_above(i)
    # The fathers' ages follow upon one another from year 0 on, so together they are the year of his birth.
    together = people.births[i]
    return [together // fathers, together % fathers, fathers]


def fr_together(people, i, j):
    if not people.has(i) or not people.has(j):
        return [NOT_THERE]
    return [as_number(people.of_one_set(i, j))]


def fr_elder(people, i, j):
    if not people.has(i) or not people.has(j):
        return [NOT_THERE]
    elder = as_number(people.births[i] < people.births[j])
    set_before = as_number(people.year_in(i) < people.year_in(j))
    return [elder, set_before, as_number(people.of_one_set(i, j))]


def fr_balance(people, n, a, b, c, e):
    # All four are looked at, also those behind the first n.
    if n > MOST_FATHERS_ASKED or max(a, b, c, e) > OLDEST_FATHER_ASKED:
        return [OUT_OF_BOUNDS]
    fathers_ages = [a, b, c, e][:n]
    return [n] + signed(people.age_in(0) + n * people.gap() - sum(fathers_ages))


def fr_told(people, i):
    if not people.has(i):
        return [NOT_THERE]
    return [people.births[i], people.fathers[i], people.fathers_above(i)]


def fr_back(people):
    if people.changes.how_many_back() == 0:
        return [NOT_THERE]
    people.take_back()
    return [people.changes.how_many_back()]


def fr_again(people):
    if people.changes.how_many_again() == 0:
        return [NOT_THERE]
    people.do_again()
    return [people.changes.how_many_again()]


def fr_state(people):
    begun = [people.term, people.behind, people.grades, people.first_year]
    return [people.how_many()] + begun + [people.changes.how_many_back(), people.changes.how_many_again()]


# A call's number is its place in these two: the call, and how many numbers it is given.
CALLS = (
    fr_start, fr_son, fr_drop, fr_behind, fr_enters, fr_age,
    fr_grade, fr_born_into, fr_fathers, fr_drift, fr_line, fr_in_step,
    fr_too_old, fr_too_young, fr_sons, fr_window, fr_mean, fr_together,
    fr_elder, fr_balance, fr_told, fr_back, fr_again, fr_state,
)
GIVEN = (
    4, 2, 0, 1, 1, 1,
    2, 1, 1, 1, 1, 2,
    1, 1, 1, 3, 1, 2,
    2, 5, 1, 0, 0, 0,
)


def answer_one(people, number, given):
    call = CALLS[number]
    if len(given) == 0:
        return call(people)
    if len(given) == 1:
        return call(people, given[0])
    if len(given) == 2:
        return call(people, given[0], given[1])
    if len(given) == 3:
        return call(people, given[0], given[1], given[2])
    if len(given) == 4:
        return call(people, given[0], given[1], given[2], given[3])
    return call(people, given[0], given[1], given[2], given[3], given[4])


def answers(calls):
    people = People()
    told = []
    place = 0
    while place < len(calls):
        number = calls[place]
        following = place + 1 + GIVEN[number]
        answer = answer_one(people, number, calls[place + 1:following])
        told.append(len(answer))
        told.extend(answer)
        place = following
    return told
