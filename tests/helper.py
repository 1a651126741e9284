"""What the tests share: calls by their names, and lines of calls told answer by answer."""

from shiptanks.ship import answers

NUMBERS = {
    "start": 0, "leg": 1, "persons": 2, "set": 3, "bunker": 4, "ashore": 5,
    "hours": 6, "lasts": 7, "next_go": 8, "may": 9, "ahead": 10, "room": 11,
    "wants": 12, "where": 13, "look": 14, "end": 15, "full": 16, "tanks": 17,
    "flows": 18, "sums": 19, "back": 20, "again": 21, "state": 22,
}
BIGGEST = 4294967295
MOST = 10000000

# The voyage that most tests reckon by hand: from port along four legs; 150 litres are wanted an hour.
SHIP = ("start", 1000, 100, 500, 200, 60, 30)
VOYAGE = [SHIP, ("leg", 3, 0, 0), ("leg", 4, 4, 6), ("leg", 5, 12, 4), ("leg", 2, 20, 10),
          ("persons", 10, 15), ("set", 1, 1, 1)]

# Calls that ask for every number that stands now.
ASKS = [("tanks",), ("sums",), ("state",), ("wants",), ("end",)] + [("look", k) for k in range(11)]

# Calls that ask for all there is to see, then take back, do again, and change all there is to change.
PROBE = ASKS + [
    ("room",), ("may",), ("flows",), ("next_go",), ("lasts",), ("full", 1), ("full", 60), ("full", 100),
    ("ahead", 1), ("ahead", 7), ("ahead", 500), ("where", 0), ("where", 5), ("where", 10000),
    ("again",), ("tanks",), ("sums",), ("state",), ("back",), ("back",), ("back",), ("tanks",), ("sums",), ("state",),
    ("again",), ("again",), ("again",), ("state",),
    ("persons", 3, 7), ("set", 1, 1, 0), ("set", 0, 1, 1), ("leg", 2, 30, 20), ("hours", 2), ("room",),
    ("bunker", 1), ("ashore", 1, 0), ("ashore", 0, 1), ("hours", 9), ("room",), ("sums",), ("state",),
] + [("back",)] * 31 + ASKS


def flat(calls):
    """The list that stands for these calls."""
    row = []
    for call in calls:
        row.append(NUMBERS[call[0]])
        row.extend(call[1:])
    return row


def split(given):
    """The answers, a list for each call."""
    told = []
    at = 0
    while at < len(given):
        behind = at + 1 + given[at]
        told.append(given[at + 1:behind])
        at = behind
    if at != len(given):
        raise ValueError("the last answer has fewer numbers than it tells")
    return told


def run(calls):
    """What each of these calls answers."""
    told = split(answers(flat(calls)))
    if len(told) != len(calls):
        raise ValueError("not one answer for each call")
    return told


def last(calls):
    """What the last of these calls answers."""
    return run(calls)[-1]


def behind_hours(line, n):
    """The line, and n hours more."""
    return line + [("hours", n)] * (n > 0)


def check_refused(test, before, call, number):
    """The call is refused with this number, and all is as it was behind it."""
    with_call = run(before + [call] + PROBE)
    without = run(before + PROBE)
    here = len(before)
    test.assertEqual(with_call[here], [number], call)
    test.assertEqual(with_call[here + 1:], without[here:], call)


def check_taken(test, before, call, answer):
    """The call answers so."""
    test.assertEqual(last(before + [call]), answer, call)
