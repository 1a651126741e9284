"""The calls that take changes back, do them again, and tell how many there are."""

from shiptanks.codes import AGAIN, BACK, NONE_THERE, STATE
from shiptanks.state import what_is_set


def back(ship):
    if len(ship.earlier) == 0:
        return [NONE_THERE]
    ship.take_back()
    return [len(ship.earlier)]


def again(ship):
    if len(ship.undone) == 0:
        return [NONE_THERE]
    ship.do_again()
    return [len(ship.undone)]


def tell_state(ship):
    now = ship.now
    changes = [len(ship.earlier), len(ship.undone)]
    return [now.hour, len(now.legs), now.persons, now.uses, what_is_set(now)] + changes


def is_history(number):
    """Whether the call with this number is one of these."""
    return number in (BACK, AGAIN, STATE)


def do_history(ship, number):
    """Do one of these calls, and give what it answers."""
    if number == BACK:
        return back(ship)
    if number == AGAIN:
        return again(ship)
    return tell_state(ship)
