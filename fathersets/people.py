"""The men, who is whose son, and in which years their sets come in."""


# Nobody is there before a start, so that an object that was only made answers for no man.
class People:
    def __init__(self):
        self.term = 0
        self.behind = 0
        self.grades = 0
        self.first_year = 0
        self.fathers = []
        self.births = []

    def begin(self, term, behind, grades, first_year):
        self.term = term
        self.behind = behind
        self.grades = grades
        self.first_year = first_year
        # The first man stands as his own father, so that each man has a place in both lists.
        self.fathers = [0]
        self.births = [0]

    def how_many(self):
        return len(self.births)

    def has(self, man):
        return man < len(self.births)

    def add_son(self, father, year):
        self.fathers.append(father)
        self.births.append(year)

    def drop_last(self):
        self.fathers.pop()
        self.births.pop()

    # From the man himself up to the first man.
    def line_of(self, man):
        line = [man]
        while man != 0:
            man = self.fathers[man]
            line.append(man)
        return line

    def fathers_above(self, man):
        return len(self.line_of(man)) - 1

    # What follows is reckoned anew each time, since a change of the sets behind moves every man's set.

    def sets_behind_first(self, man):
        return self.fathers_above(man) * self.behind

    def year_in(self, man):
        return self.first_year + self.sets_behind_first(man) * self.term

    def age_in(self, man):
        return self.year_in(man) - self.births[man]

    # None stands for no grade, since 0 is one.
    def grade_in(self, man, year):
        years_since = year - self.year_in(man)
        # Ahead of its first year the division would give a grade below 0, which is none.
        if years_since < 0:
            return None
        grade = years_since // self.term
        if grade >= self.grades:
            return None
        return grade
