"""What the tests share: the calls written by name, and the answers call by call."""

from fathersets.sets import answers

LARGEST = 4294967295

NUMBERS = {
    "start": 0, "son": 1, "drop": 2, "behind": 3, "enters": 4, "age": 5,
    "grade": 6, "born_into": 7, "fathers": 8, "drift": 9, "line": 10, "in_step": 11,
    "too_old": 12, "too_young": 13, "sons": 14, "window": 15, "mean": 16, "together": 17,
    "elder": 18, "balance": 19, "told": 20, "back": 21, "again": 22, "state": 23,
}

BY_MAN_ALONE = ("enters", "age", "born_into", "fathers", "drift", "line", "sons", "mean", "told")


def written(calls):
    """Calls such as ("son", 0, 20) as the one list that the program is handed."""
    numbers = []
    for call in calls:
        numbers.append(NUMBERS[call[0]])
        numbers.extend(call[1:])
    return numbers


def parted(told):
    """The program's list, parted into one list of numbers a call."""
    parts = []
    place = 0
    while place < len(told):
        count = told[place]
        parts.append(told[place + 1:place + 1 + count])
        if len(parts[-1]) != count:
            raise AssertionError("fewer numbers than were counted")
        place += 1 + count
    return parts


def replies(calls):
    parts = parted(answers(written(calls)))
    if len(parts) != len(calls):
        raise AssertionError("not one answer a call")
    return parts


def last_reply(calls):
    return replies(calls)[-1]


def probes(men=25, years=range(0, 345)):
    """Calls that change nothing and together tell all that can be told of the men and their sets."""
    calls = []
    for man in range(men):
        for name in BY_MAN_ALONE:
            calls.append((name, man))
        calls.append(("window", man, man, man + 40))
        calls.append(("together", man, man // 2))
        calls.append(("elder", man // 2, man))
    for year in years:
        calls.append(("grade", 0, year))
    for age in range(0, 120, 7):
        calls.append(("in_step", age, age + 30))
        calls.append(("too_old", age))
        calls.append(("too_young", age))
    for fathers in range(5):
        calls.append(("balance", fathers, 1, 20, 40, 100))
    return calls


def trail(men=6):
    """Calls that go back as far as can be, then on again as far as can be, and look round at each step."""
    look = [("state",)] + [("told", man) for man in range(men)]
    calls = list(look)
    for name in ("back", "again"):
        for ignored in range(21):
            calls += [(name,)] + look
    return calls


def behind_it(ahead, asked):
    """What is asked, behind calls that lead up to it, without the answers of these."""
    return replies(ahead + asked)[len(ahead):]


def value(sign_and_size):
    """A number that was told with a sign, as a plain one."""
    return -sign_and_size[1] if sign_and_size[0] == 1 else sign_and_size[1]


# A first man, two sons of his, and a line of three below the elder.
FAMILY = [
    ("start", 7, 2, 5, 12),
    ("son", 0, 10),
    ("son", 0, 45),
    ("son", 1, 30),
    ("son", 3, 44),
]
