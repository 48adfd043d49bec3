"""All calls, drawn alike each time, against a slow and plain reckoning of the document's words."""

import random
import unittest

from fathersets.sets import answers
from tests.helper import LARGEST, parted, written


def with_sign(number):
    return [1, -number] if number < 0 else [0, number]


def set_of(men):
    return [len(men), sum(2 ** man for man in men)]


class Book:
    """Keeps what was told as it was told, and goes through it from the start at each question."""

    def __init__(self):
        self.begun = None
        self.made = []
        self.unmade = []
        self.can_go_back = 0

    def answer(self, call):
        return getattr(self, call[0])(*call[1:])

    def read(self):
        self.t, self.k, self.g, self.f = self.begun
        self.men = [(0, 0)]
        for change in self.made:
            if change[0] == "son":
                self.men.append(change[1:])
            elif change[0] == "drop":
                self.men.pop()
            else:
                self.k = change[1]

    def change(self, change):
        self.made.append(change)
        self.unmade = []
        self.can_go_back = min(20, self.can_go_back + 1)
        self.read()

    def missing(self, *men):
        return any(man >= len(self.men) for man in men)

    def born(self, man):
        return self.men[man][1]

    def above(self, man):
        return [] if man == 0 else [self.men[man][0]] + self.above(self.men[man][0])

    def in_year(self, man):
        return self.f if man == 0 else self.in_year(self.men[man][0]) + self.k * self.t

    def old(self, man):
        return self.in_year(man) - self.born(man)

    def whose_age(self, fits):
        return set_of([man for man in range(len(self.men)) if fits(self.old(man))])

    def start(self, t, k, g, f):
        if t not in range(1, 21) or k not in range(1, 9) or g not in range(1, 13) or f not in range(101):
            return [-22]
        self.__init__()
        self.begun = (t, k, g, f)
        self.read()
        return [f]

    def son(self, p, y):
        if self.missing(p):
            return [-2]
        if y not in range(self.born(p) + 1, 2001):
            return [-22]
        if len(self.men) == 24:
            return [-28]
        self.change(("son", p, y))
        return [len(self.men) - 1] + with_sign(self.old(len(self.men) - 1))

    def drop(self):
        if len(self.men) == 1:
            return [-6]
        self.change(("drop",))
        return [len(self.men)]

    def behind(self, k):
        if k not in range(1, 9):
            return [-22]
        if k == self.k:
            return [-17]
        was = self.k
        self.change(("behind", k))
        return [was]

    def enters(self, i):
        return [-2] if self.missing(i) else [self.in_year(i), self.k * len(self.above(i))]

    def age(self, i):
        return [-2] if self.missing(i) else [0] + with_sign(self.old(i))

    def grade(self, i, y):
        if self.missing(i):
            return [-2]
        if y > 20000:
            return [-22]
        for grade in range(self.g):
            if y in range(self.in_year(i) + grade * self.t, self.in_year(i) + (grade + 1) * self.t):
                return [grade]
        return [-33]

    def born_into(self, i):
        return [-2] if self.missing(i) else self.grade(i, self.born(i))

    def fathers(self, i):
        if self.missing(i):
            return [-2]
        return [-33] if i == 0 else [self.born(i) - self.born(self.above(i)[0])]

    def drift(self, i):
        return [-2] if self.missing(i) else [len(self.above(i))] + with_sign(self.old(i) - self.old(0))

    def line(self, i):
        return [-2] if self.missing(i) else set_of([i] + self.above(i))

    def in_step(self, l, h):
        return [-22] if h < l or h > 2000 else self.whose_age(lambda age: l <= age <= h)

    def too_old(self, h):
        return [-22] if h > 2000 else self.whose_age(lambda age: h < age)

    def too_young(self, l):
        return [-22] if l > 2000 else self.whose_age(lambda age: age < l)

    def sons(self, p):
        return [-2] if self.missing(p) else set_of([i for i in range(1, len(self.men)) if self.men[i][0] == p])

    def window(self, p, l, h):
        if self.missing(p):
            return [-2]
        if h < l or h > 2000:
            return [-22]
        son_in = self.in_year(p) + self.k * self.t
        years = [y for y in range(self.born(p) + 1, son_in + 1) if l <= son_in - y <= h]
        return [years[0], years[-1]] if years else [-33]

    def mean(self, i):
        if self.missing(i):
            return [-2]
        if i == 0:
            return [-33]
        line = [i] + self.above(i)
        ages = [self.born(son) - self.born(father) for son, father in zip(line, line[1:])]
        return [sum(ages) // len(ages), sum(ages) % len(ages), len(ages)]

    def together(self, i, j):
        return [-2] if self.missing(i, j) else [int(len(self.above(i)) == len(self.above(j)))]

    def elder(self, i, j):
        if self.missing(i, j):
            return [-2]
        lengths = [len(self.above(i)), len(self.above(j))]
        return [int(self.born(i) < self.born(j)), int(lengths[0] < lengths[1]), int(lengths[0] == lengths[1])]

    def balance(self, n, a, b, c, e):
        if n > 4 or any(age > 100 for age in (a, b, c, e)):
            return [-22]
        age = self.f
        for father in (a, b, c, e)[:n]:
            age += self.k * self.t - father
        return [n] + with_sign(age)

    def told(self, i):
        return [-2] if self.missing(i) else [self.born(i), self.men[i][0], len(self.above(i))]

    def back(self):
        if self.can_go_back == 0:
            return [-2]
        self.unmade.append(self.made.pop())
        self.can_go_back -= 1
        self.read()
        return [self.can_go_back]

    def again(self):
        if not self.unmade:
            return [-2]
        self.made.append(self.unmade.pop())
        self.can_go_back += 1
        self.read()
        return [len(self.unmade)]

    def state(self):
        return [len(self.men), self.t, self.k, self.g, self.f, self.can_go_back, len(self.unmade)]


ASKED = (
    "enters age grade born_into fathers drift line in_step too_old too_young sons window mean together elder "
    "balance told state"
).split()
KINDS = {
    "son": "py", "drop": "", "behind": "k", "enters": "p", "age": "p", "grade": "py", "born_into": "p", "fathers": "p",
    "drift": "p", "line": "p", "in_step": "aa", "too_old": "a", "too_young": "a", "sons": "p", "window": "paa",
    "mean": "p", "together": "pp", "elder": "pp", "balance": "noooo", "told": "p", "back": "", "again": "", "state": "",
    "start": "tkgf",
}


class Drawn:
    """Draws calls that mostly are answered, with some far out of their bounds."""

    def __init__(self, seed):
        self.draw = random.Random(seed)
        self.book = Book()

    def number(self, kind):
        draw = self.draw
        if draw.random() < 0.02:
            return draw.choice([LARGEST, LARGEST - 1, 2 ** 31, 2 ** 16, 20000, 20001, 2000, 2001, 100, 101, 24])
        ends = {"t": (0, 21), "k": (0, 9), "g": (0, 13), "f": (0, 101), "n": (0, 5), "o": (0, 101), "a": (0, 250)}
        if kind == "p":
            return draw.randint(0, len(self.book.men)) if draw.random() < 0.97 else draw.randint(0, 30)
        if kind == "y":
            man = draw.randrange(len(self.book.men))
            return max(0, self.book.born(man) + draw.choice([0, 1, self.book.k * self.book.t, draw.randint(-9, 70)]))
        if kind == "a" and draw.random() < 0.3:
            return max(0, self.book.old(draw.randrange(len(self.book.men))) + draw.randint(-1, 1))
        return draw.randint(*ends[kind])

    def call(self, name):
        given = [self.number(kind) for kind in KINDS[name]]
        if name in ("in_step", "window") and self.draw.random() < 0.9:
            given[-2:] = sorted(given[-2:])
        return (name,) + tuple(given)

    def begin(self):
        draw = self.draw
        return ("start", draw.randint(1, 20), draw.randint(1, 8), draw.randint(1, 12), draw.randint(0, 100))

    def name(self, lean):
        change = self.draw.choice(["son"] * lean + ["son", "son", "drop", "behind", "back", "back", "again", "again"])
        return self.draw.choices([change, self.draw.choice(ASKED), "start"], [60, 100, 1])[0]

    def line(self, count):
        """So many calls, and what is to be answered."""
        lean = self.draw.choice([0, 2, 8])
        calls = [self.begin()]
        told = [self.book.answer(calls[0])]
        while len(calls) < count:
            calls.append(self.call(self.name(lean)))
            told.append(self.book.answer(calls[-1]))
        return calls, told


class AllCalls(unittest.TestCase):
    def check(self, seed, count):
        calls, told = Drawn(seed).line(count)
        numbers = written(calls)
        kept = list(numbers)
        for call, answer, awaited in zip(calls, parted(answers(numbers)), told, strict=True):
            self.assertEqual((seed, call, answer), (seed, call, awaited))
        self.assertEqual(numbers, kept)
        self.assertEqual(answers(numbers), answers(kept))
        return calls, told

    def test_many_short_lines(self):
        for seed in range(150):
            self.check(seed, 60)

    def test_lines_of_a_thousand_calls(self):
        for seed in range(1000, 1012):
            calls, told = self.check(seed, 1000)
            self.assertEqual(len(calls), 1000)
            self.assertLessEqual(len(written(calls)), 6000)

    def test_every_call_and_every_refusal_is_drawn(self):
        answered = {}
        for seed in range(1000, 1012):
            for call, answer in zip(*Drawn(seed).line(1000)):
                answered.setdefault(call[0], set()).add(min(0, answer[0]))
        man, ages = {0, -2}, {0, -22}
        self.assertEqual(answered, {
            "start": ages, "son": {0, -2, -22, -28}, "drop": {0, -6}, "behind": {0, -22, -17}, "enters": man,
            "age": man,
            "grade": {0, -2, -22, -33}, "born_into": {0, -2, -33}, "fathers": {0, -2, -33}, "drift": man, "line": man,
            "in_step": ages, "too_old": ages, "too_young": ages, "sons": man, "window": {0, -2, -22, -33},
            "mean": {0, -2, -33}, "together": man, "elder": man, "balance": ages, "told": man, "back": man,
            "again": man,
            "state": {0},
        })


if __name__ == "__main__":
    unittest.main()
