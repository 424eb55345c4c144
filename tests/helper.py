"""Spells calls as the interface asks for, and tells their replies apart."""

from bitsways.answer import answers

NUMBERS = {
    "begin": 0, "told": 1, "least": 2, "odd": 3, "bit": 4, "not_of": 5,
    "turn": 6, "set": 7, "ask": 8, "mean": 9, "sway": 10, "all_sways": 11,
    "even": 12, "part": 13, "parts": 14, "levels": 15, "sides": 16,
    "fewest": 17, "rising": 18, "idle": 19, "most": 20, "state": 21,
}
LARGEST = 4294967295


def spell(calls):
    """One list for calls such as ("least", 2, [1, 1, 1])."""
    numbers = []
    for name, *given in calls:
        numbers.append(NUMBERS[name])
        for part in given:
            if isinstance(part, list):
                numbers.append(len(part))
                numbers.extend(part)
            else:
                numbers.append(part)
    return numbers


def replies(*calls):
    """The numbers answered to each call, a list each."""
    left = answers(spell(calls))
    found = []
    while left:
        count = left[0]
        found.append(left[1:1 + count])
        left = left[1 + count:]
    return found


def last(*calls):
    """The numbers answered to the last call."""
    return replies(*calls)[-1]


def yeses(bits, *calls):
    """The words to which it says yes after a begin with so many bits and the calls."""
    asked = [("ask", x) for x in range(2 ** bits)]
    found = replies(("begin", bits), *calls, *asked)[-len(asked):]
    return [x for x, numbers in enumerate(found) if numbers == [1]]
