"""What the tests share: calls by their names, and lines of calls told answer by answer."""

from shiptanks.ship import answers

NUMBERS = {
    "start": 0, "leg": 1, "persons": 2, "set": 3, "bunker": 4, "ashore": 5,
    "hours": 6, "lasts": 7, "next_go": 8, "may": 9, "ahead": 10, "room": 11,
}
BIGGEST = 4294967295
MOST = 10000000

# Calls that ask for all there is to see, and then change all there is to change.
PROBE = [
    ("room",), ("may",), ("next_go",), ("lasts",), ("ahead", 1), ("ahead", 7), ("ahead", 500),
    ("persons", 3, 7), ("set", 1, 1, 0), ("set", 0, 1, 1), ("leg", 2, 30, 20), ("hours", 2), ("room",),
    ("bunker", 1), ("ashore", 1, 0), ("ashore", 0, 1), ("hours", 9), ("room",),
]


def flat(calls):
    """The list that stands for these calls."""
    row = []
    for call in calls:
        row.append(NUMBERS[call[0]])
        row.extend(call[1:])
    return row


def split(given):
    """The answers, a list for each call."""
    told = []
    at = 0
    while at < len(given):
        behind = at + 1 + given[at]
        told.append(given[at + 1:behind])
        at = behind
    if at != len(given):
        raise ValueError("the last answer has fewer numbers than it tells")
    return told


def run(calls):
    """What each of these calls answers."""
    told = split(answers(flat(calls)))
    if len(told) != len(calls):
        raise ValueError("not one answer for each call")
    return told


def last(calls):
    """What the last of these calls answers."""
    return run(calls)[-1]


def check_refused(test, before, call, number):
    """The call is refused with this number, and all is as it was behind it."""
    with_call = run(before + [call] + PROBE)
    without = run(before + PROBE)
    here = len(before)
    test.assertEqual(with_call[here], [number], call)
    test.assertEqual(with_call[here + 1:], without[here:], call)


def check_taken(test, before, call, answer):
    """The call answers so."""
    test.assertEqual(last(before + [call]), answer, call)
