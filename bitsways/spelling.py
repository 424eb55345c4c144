"""How a line of calls is spelled in one list of whole numbers.

A call is its number, its plain numbers, then its row with how many numbers
that has before it. Read, it is its name and one list: its plain numbers,
then its row's.
"""

# The place of a call's name is the call's number.
NAMES = (
    "begin", "told", "least", "odd", "bit", "not_of", "turn", "set",
    "ask", "mean", "sway", "all_sways", "even", "part", "parts", "levels",
    "sides", "fewest", "rising", "idle", "most", "state",
)

# How many plain numbers a call is given; the others are given none.
PLAIN = {
    "begin": 1,
    "least": 1,
    "odd": 1,
    "bit": 1,
    "turn": 1,
    "set": 2,
    "ask": 1,
    "sway": 1,
    "part": 1,
}

WITH_ROW = ("told", "least")


def spelled(numbers):
    found = []
    at = 0
    while at < len(numbers):
        name = NAMES[numbers[at]]
        start = at + 1
        at = start + PLAIN.get(name, 0)
        given = numbers[start:at]
        if name in WITH_ROW:
            start = at + 1
            at = start + numbers[at]
            given = given + numbers[start:at]
        found.append((name, given))
    return found
