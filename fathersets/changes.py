"""How all stood ahead of each change, so that changes can be taken back and done again."""

MOST_TAKEN_BACK = 20


class Changes:
    def __init__(self):
        self.earlier = []
        self.later = []

    # What was taken back led up to another standing than the one that comes now: so it is let go.
    def note(self, standing):
        self.earlier.append(standing)
        if len(self.earlier) > MOST_TAKEN_BACK:
            self.earlier.pop(0)
        self.later = []

    # Both steps are handed how all stands now, which the other step gives back when it's asked for.

    def step_back(self, standing):
        self.later.append(standing)
        return self.earlier.pop()

    def step_on(self, standing):
        self.earlier.append(standing)
        return self.later.pop()

    def how_many_back(self):
        return len(self.earlier)

    def how_many_again(self):
        return len(self.later)
