"""The calls that only ask. They leave the state as it is."""

from shiptanks.codes import AHEAD, LASTS, MAY, NEXT_GO, NOT_SOON, WRONG_NUMBER
from shiptanks.hour import pass_hour, pass_hours
from shiptanks.state import copy_of, switches
from shiptanks.way import leg_in, may_let_black, may_let_grey, may_make

# So many hours are looked ahead, also past the last hour that can come: the words set no other end.
MOST_HOURS_AHEAD = 500


def lasts(state):
    later = copy_of(state)
    for k in range(MOST_HOURS_AHEAD):
        pass_hour(later)
        if later.lacked > state.lacked:
            return [k]
    return [MOST_HOURS_AHEAD]


def first_hour(state, may):
    """In how many hours it first may be, and 1; 0 if that's not within the hours looked ahead."""
    # What may be in just so many hours is still within them.
    for k in range(MOST_HOURS_AHEAD + 1):
        if may(leg_in(state.legs, state.hour + k)) == 1:
            return k + 1
    return 0


def next_go(state):
    grey = first_hour(state, may_let_grey)
    black = first_hour(state, may_let_black)
    if grey == 0 and black == 0:
        return [NOT_SOON]
    return [0, grey, black]


def may_now(state):
    leg = leg_in(state.legs, state.hour)
    allowed = switches(may_make(leg), may_let_grey(leg), may_let_black(leg))
    return [allowed, leg.miles, leg.knots]


def ahead(state, n):
    if n < 1 or n > MOST_HOURS_AHEAD:
        return [WRONG_NUMBER]
    later = copy_of(state)
    pass_hours(later, n)
    return [later.fresh, later.grey, later.black, later.lacked - state.lacked]


def room(state):
    sizes = state.sizes
    return [sizes.fresh - state.fresh, sizes.grey - state.grey, sizes.black - state.black]


def ask(state, number, numbers):
    """Do one of these calls, and give what it answers."""
    if number == LASTS:
        return lasts(state)
    if number == NEXT_GO:
        return next_go(state)
    if number == MAY:
        return may_now(state)
    if number == AHEAD:
        return ahead(state, numbers[0])
    return room(state)
