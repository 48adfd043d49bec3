"""What holds of whatever men there are: checked on many families, drawn alike each time."""

import itertools
import random
import unittest

from tests.helper import behind_it, probes, replies, value


class Family:
    """Men told by plain rows, and the calls that tell them to the program."""

    def __init__(self, draw):
        self.term = draw.randint(1, 20)
        self.behind = draw.randint(1, 8)
        self.grades = draw.randint(1, 12)
        self.first = draw.randint(0, 100)
        self.father = [0]
        self.born = [0]
        self.calls = [("start", self.term, self.behind, self.grades, self.first)]
        for ignored in range(draw.randint(0, 23)):
            self.tell(draw)
        self.stir(draw)

    def tell(self, draw):
        father = draw.randrange(len(self.born))
        year = self.born[father] + draw.choice([1, self.term * self.behind, draw.randint(1, 90)])
        if year <= 2000:
            self.father.append(father)
            self.born.append(year)
            self.calls.append(("son", father, year))

    def stir(self, draw):
        """Changes of the other kinds, some taken back: what holds, holds behind these too."""
        if draw.random() < 0.5:
            self.behind = self.behind % 8 + 1
            self.calls.append(("behind", self.behind))
        if len(self.born) > 1 and draw.random() < 0.5:
            self.calls += [("drop",), ("back",)]
        if len(self.born) > 1 and draw.random() < 0.3:
            self.father.pop()
            self.born.pop()
            self.calls += [("drop",), ("back",), ("again",)]

    def men(self):
        return range(len(self.born))

    def asked(self, name):
        count = len(self.born)
        return replies(self.calls + [(name, man) for man in self.men()])[-count:]

    def ages(self):
        return [value(part[1:]) for part in self.asked("age")]


def families():
    draw = random.Random(20)
    return [Family(draw) for ignored in range(60)]


class Holds(unittest.TestCase):
    def test_from_father_to_son(self):
        for family in families():
            ages = family.ages()
            gap = family.term * family.behind
            self.assertEqual(ages[0], family.first)
            for man in list(family.men())[1:]:
                father = family.father[man]
                at_birth = family.born[man] - family.born[father]
                self.assertEqual(ages[man], ages[father] + gap - at_birth)
                self.assertEqual(family.asked("fathers")[man], [at_birth])

    def test_a_son_is_told_as_fr_age_tells_him(self):
        for family in families():
            # A start of its own with the sets behind as they are now, since sons were told ahead of that.
            begin = ("start", family.term, family.behind, family.grades, family.first)
            told = replies([begin] + [("son", family.father[man], family.born[man]) for man in list(family.men())[1:]])
            ages = family.asked("age")
            for man in list(family.men())[1:]:
                self.assertEqual(told[man], [man] + ages[man][1:])

    def test_in_step_for_good(self):
        for family in families():
            drifts = family.asked("drift")
            gap = family.term * family.behind
            for man in family.men():
                fathers = drifts[man][0]
                # The fathers' ages on a line together are the year in which its last man is born.
                self.assertEqual(value(drifts[man][1:]) == 0, family.born[man] == fathers * gap)

    def test_in_step_for_good_by_the_mean(self):
        met = 0
        for family in families():
            ages = family.ages()
            means = family.asked("mean")
            gap = family.term * family.behind
            for man in list(family.men())[1:]:
                whole, left, fathers = means[man]
                self.assertTrue(0 <= left < fathers)
                self.assertEqual(ages[man] == family.first, whole * fathers + left == gap * fathers)
                met += ages[man] == family.first
        self.assertGreater(met, 20)

    def test_mean_of_the_fathers_ages(self):
        for family in families():
            at_birth = family.asked("fathers")
            means = family.asked("mean")
            self.assertEqual(means[0], [-33])
            for man in list(family.men())[1:]:
                ages = []
                son = man
                while son != 0:
                    ages += at_birth[son]
                    son = family.father[son]
                self.assertEqual(means[man], [sum(ages) // len(ages), sum(ages) % len(ages), len(ages)])

    def test_told_and_sons(self):
        for family in families():
            told = family.asked("told")
            sons = family.asked("sons")
            drifts = family.asked("drift")
            for man in family.men():
                self.assertEqual(told[man], [family.born[man], family.father[man], drifts[man][0]])
                own = [son for son in list(family.men())[1:] if family.father[son] == man]
                self.assertEqual(sons[man], [len(own), sum(2 ** son for son in own)])

    def test_together_are_brothers_and_never_a_son(self):
        for family in families():
            pairs = list(itertools.product(family.men(), repeat=2))
            together = dict(zip(pairs, behind_it(family.calls, [("together",) + pair for pair in pairs])))
            entered = family.asked("enters")
            for man, other in pairs:
                self.assertEqual(together[man, other], [int(entered[man] == entered[other])])
                if man != 0 and other != 0 and family.father[man] == family.father[other]:
                    self.assertEqual(together[man, other], [1])
                if other != 0 and family.father[other] == man:
                    self.assertEqual(together[man, other], [0])
                    self.assertEqual(together[other, man], [0])

    def test_elder_by_birth_and_by_set(self):
        for family in families():
            pairs = list(itertools.product(family.men(), repeat=2))
            told = behind_it(family.calls, [("elder",) + pair for pair in pairs])
            entered = family.asked("enters")
            for pair, part in zip(pairs, told):
                man, other = pair
                years = (entered[man][0], entered[other][0])
                earlier = int(family.born[man] < family.born[other])
                self.assertEqual(part, [earlier, int(years[0] < years[1]), int(years[0] == years[1])])

    def test_brothers_together_and_never_a_son(self):
        for family in families():
            sets = [part[1] for part in family.asked("enters")]
            years = [part[0] for part in family.asked("enters")]
            for man in list(family.men())[1:]:
                father = family.father[man]
                self.assertEqual(sets[man], sets[father] + family.behind)
                self.assertEqual(years[man], years[father] + family.term * family.behind)

    def test_line_is_the_fathers_and_himself(self):
        for family in families():
            lines = family.asked("line")
            self.assertEqual(lines[0], [1, 1])
            for man in list(family.men())[1:]:
                above = lines[family.father[man]]
                self.assertEqual(lines[man], [above[0] + 1, above[1] + 2 ** man])

    def test_born_into_a_grade(self):
        for family in families():
            entered = family.asked("enters")
            told = family.asked("born_into")
            for man in family.men():
                since = family.born[man] - entered[man][0]
                if 0 <= since < family.term * family.grades:
                    self.assertEqual(told[man], [since // family.term])
                else:
                    self.assertEqual(told[man], [-33])

    def test_in_step_is_who_is_neither_older_nor_younger(self):
        for family in families():
            ages = family.ages()
            bounds = [(0, 0), (0, 2000), (15, 30), (family.first, family.first)]
            told = replies(family.calls + [("in_step",) + pair for pair in bounds])[-len(bounds):]
            for pair, part in zip(bounds, told):
                men = [man for man in family.men() if not ages[man] < pair[0] and not ages[man] > pair[1]]
                self.assertEqual(part, [len(men), sum(2 ** man for man in men)])

    def test_just_one(self):
        for family in families():
            everybody = 2 ** len(family.born) - 1
            for low, high in [(0, 0), (0, 2000), (15, 30), (family.first, family.first), (30, 31), (2000, 2000)]:
                asked = [("too_young", low), ("in_step", low, high), ("too_old", high)]
                young, fit, old = behind_it(family.calls, asked)
                self.assertEqual(young[0] + fit[0] + old[0], len(family.born))
                self.assertEqual(young[1] | fit[1] | old[1], everybody)
                self.assertEqual(young[1] + fit[1] + old[1], everybody)

    def test_when_a_son_is_to_be_born(self):
        """Each year's son is told, looked at for his age, and taken back."""
        draw = random.Random(4)
        met = 0
        for family in families():
            if len(family.born) == 24:
                family.calls.append(("drop",))
                family.born.pop()
            father = draw.randrange(len(family.born))
            low = draw.randint(0, 60)
            high = low + draw.choice([0, 1, draw.randint(0, 300)])
            window = behind_it(family.calls, [("window", father, low, high)])[0]
            son_in = behind_it(family.calls, [("enters", father)])[0][0] + family.term * family.behind
            # No more years than have room in a line of calls, and none in which no son can be told.
            years = range(family.born[father] + 1, min(2000, son_in + 2) + 1)[-480:]
            asked = [call for year in years for call in (("son", father, year), ("back",))]
            ages = [value(part[1:]) for part in behind_it(family.calls, asked)[::2]]
            fit = [year for year, age in zip(years, ages) if low <= age <= high]
            if window == [-33]:
                self.assertEqual(fit, [])
            else:
                self.assertEqual(fit, [year for year in range(window[0], window[1] + 1) if year in years])
                met += len(fit) > 0
        self.assertGreater(met, 20)

    def test_in_whatever_order(self):
        draw = random.Random(5)
        for family in families():
            ages = [draw.randint(0, 100) for ignored in range(4)]
            for count in range(5):
                orders = itertools.permutations(ages[:count])
                asked = [("balance", count) + order + tuple(ages[count:]) for order in orders]
                told = behind_it(family.calls, asked)
                self.assertEqual(told, [told[0]] * len(asked))
                gap = family.term * family.behind
                self.assertEqual(value(told[0][1:]), family.first + count * gap - sum(ages[:count]))

    def test_men_told_in_whatever_order_of_fathers_ages(self):
        draw = random.Random(6)
        for ignored in range(30):
            begin = Family(draw).calls[0]
            ages = [draw.randint(1, 80) for ignored in range(4)]
            for order in itertools.permutations(ages):
                sons = [("son", man, sum(order[:man + 1])) for man in range(4)]
                told = behind_it([begin] + sons, [("age", 4), ("balance", 4) + order])
                self.assertEqual(told[0][1:], told[1][1:])

    def test_taken_back_all_is_as_it_was(self):
        asked = probes(years=range(0, 60))
        draw = random.Random(7)
        for family in families():
            steps = [behind_it(family.calls, asked)]
            changes = []
            for ignored in range(draw.randint(1, 20)):
                son = ("son", draw.randrange(24), draw.randint(1, 300))
                change = draw.choice([son, ("drop",), ("behind", draw.randint(1, 8))])
                if behind_it(family.calls + changes, [change])[0][0] >= 0:
                    changes.append(change)
                    steps.append(behind_it(family.calls + changes, asked))
            made = len(changes)
            for taken in range(made + 1):
                ahead = family.calls + changes + [("back",)] * taken
                self.assertEqual(behind_it(ahead, asked), steps[made - taken])
                self.assertEqual(behind_it(ahead + [("again",)] * taken, asked), steps[made])

    def test_more_sets_behind(self):
        for family in families():
            if family.behind == 8:
                continue
            before = family.asked("enters")
            above = [part[0] for part in family.asked("drift")]
            family.calls.append(("behind", family.behind + 1))
            after = family.asked("enters")
            for man in family.men():
                self.assertEqual(after[man][0], before[man][0] + above[man] * family.term)
                self.assertEqual(after[man][1], before[man][1] + above[man])


if __name__ == "__main__":
    unittest.main()
