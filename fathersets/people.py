"""The men, who is whose son, and in which years their sets come in."""

from fathersets.changes import Changes


# Nobody is there before a start, so that an object that was only made answers for no man.
class People:
    def __init__(self):
        self.term = 0
        self.behind = 0
        self.grades = 0
        self.first_year = 0
        self.fathers = []
        self.births = []
        self.changes = Changes()

    def begin(self, term, behind, grades, first_year):
        self.term = term
        self.behind = behind
        self.grades = grades
        self.first_year = first_year
        # The first man stands as his own father, so that each man has a place in both lists.
        self.fathers = [0]
        self.births = [0]
        self.changes = Changes()

    def how_many(self):
        return len(self.births)

    def has(self, man):
        return man < len(self.births)

    # The lists are copied, since a change is made within them. What a start alone can set is left out.
    def standing(self):
        return (self.behind, list(self.fathers), list(self.births))

    def stand_as(self, standing):
        self.behind = standing[0]
        self.fathers = standing[1]
        self.births = standing[2]

    def add_son(self, father, year):
        self.changes.note(self.standing())
        self.fathers.append(father)
        self.births.append(year)

    def drop_last(self):
        self.changes.note(self.standing())
        self.fathers.pop()
        self.births.pop()

    def put_behind(self, sets):
        self.changes.note(self.standing())
        self.behind = sets

    def take_back(self):
        self.stand_as(self.changes.step_back(self.standing()))

    def do_again(self):
        self.stand_as(self.changes.step_on(self.standing()))

    # From the man himself up to the first man.
    def line_of(self, man):
        line = [man]
        while man != 0:
            man = self.fathers[man]
            line.append(man)
        return line

    def fathers_above(self, man):
        return len(self.line_of(man)) - 1

    # The first man is left out, who only stands as his own father.
    def sons_of(self, man):
        return [son for son in range(1, self.how_many()) if self.fathers[son] == man]

    # What follows is reckoned anew each time, since a change of the sets behind moves every man's set.

    def gap(self):
        return self.behind * self.term

    def sets_behind_first(self, man):
        return self.fathers_above(man) * self.behind

    def of_one_set(self, man, other):
        return self.sets_behind_first(man) == self.sets_behind_first(other)

    def year_in(self, man):
        return self.first_year + self.sets_behind_first(man) * self.term

    def age_in(self, man):
        return self.year_in(man) - self.births[man]

    # None stands for no grade, since 0 is one.
    def grade_in(self, man, year):
        years_since = year - self.year_in(man)
        # Ahead of its first year the division would give a grade below 0, which is none.
        if years_since < 0:
            return None
        grade = years_since // self.term
        if grade >= self.grades:
            return None
        return grade
