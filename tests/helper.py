"""What the tests share: the calls written by name, and the answers call by call."""

from fathersets.sets import answers

LARGEST = 4294967295

NUMBERS = {
    "start": 0, "son": 1, "drop": 2, "behind": 3, "enters": 4, "age": 5,
    "grade": 6, "born_into": 7, "fathers": 8, "drift": 9, "line": 10, "in_step": 11,
}


def written(calls):
    """Calls such as ("son", 0, 20) as the one list that the program is handed."""
    numbers = []
    for call in calls:
        numbers.append(NUMBERS[call[0]])
        numbers.extend(call[1:])
    return numbers


def parted(told):
    """The program's list, parted into one list of numbers a call."""
    parts = []
    place = 0
    while place < len(told):
        count = told[place]
        parts.append(told[place + 1:place + 1 + count])
        if len(parts[-1]) != count:
            raise AssertionError("fewer numbers than were counted")
        place += 1 + count
    return parts


def replies(calls):
    parts = parted(answers(written(calls)))
    if len(parts) != len(calls):
        raise AssertionError("not one answer a call")
    return parts


def last_reply(calls):
    return replies(calls)[-1]


def probes(men=25, years=range(0, 345)):
    """Calls that change nothing and together tell all that the twelve calls can tell."""
    calls = []
    for man in range(men):
        for name in ("enters", "age", "born_into", "fathers", "drift", "line"):
            calls.append((name, man))
    for year in years:
        calls.append(("grade", 0, year))
    for low in range(0, 120, 7):
        calls.append(("in_step", low, low + 30))
    return calls


# A first man, two sons of his, and a line of three below the elder.
FAMILY = [
    ("start", 7, 2, 5, 12),
    ("son", 0, 10),
    ("son", 0, 45),
    ("son", 1, 30),
    ("son", 3, 44),
]
