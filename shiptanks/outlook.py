"""The calls that look ahead, all as it's set. They leave the state as it is."""

from shiptanks.codes import AHEAD, FLOWS, FULL, LASTS, NEXT_GO, NOT_SOON, WRONG_NUMBER
from shiptanks.hour import pass_hour, pass_hours
from shiptanks.state import copy_of
from shiptanks.way import leg_in, may_let_black, may_let_grey

# So many hours are looked ahead, also past the last hour that can come: the words set no other end.
MOST_HOURS_AHEAD = 500


def lasts(state):
    later = copy_of(state)
    for k in range(MOST_HOURS_AHEAD):
        pass_hour(later)
        if later.lacked > state.lacked:
            return [k]
    return [MOST_HOURS_AHEAD]


def first_hour(state, may):
    """In how many hours it first may be, and 1; 0 if that's not within the hours looked ahead."""
    # What may be in just so many hours is still within them.
    for k in range(MOST_HOURS_AHEAD + 1):
        if may(leg_in(state.legs, state.hour + k)) == 1:
            return k + 1
    return 0


def next_go(state):
    grey = first_hour(state, may_let_grey)
    black = first_hour(state, may_let_black)
    if grey == 0 and black == 0:
        return [NOT_SOON]
    return [0, grey, black]


def ahead(state, n):
    if n < 1 or n > MOST_HOURS_AHEAD:
        return [WRONG_NUMBER]
    later = copy_of(state)
    pass_hours(later, n)
    return [later.fresh, later.grey, later.black, later.lacked - state.lacked]


def has_hundredths(state, h):
    """Whether the grey or the black tank has h hundredths, or more, of what it holds."""
    sizes = state.sizes
    return 100 * state.grey >= h * sizes.grey or 100 * state.black >= h * sizes.black


def full(state, h):
    if h < 1 or h > 100:
        return [WRONG_NUMBER]
    later = copy_of(state)
    for k in range(MOST_HOURS_AHEAD):
        if has_hundredths(later, h):
            return [k]
        pass_hour(later)
    # As with what may be let go: what is so in just so many hours is still within them.
    if has_hundredths(later, h):
        return [MOST_HOURS_AHEAD]
    return [NOT_SOON]


def flows(state):
    later = copy_of(state)
    pass_hour(later)
    made = later.taken_in - state.taken_in
    grey = later.grey_gone - state.grey_gone
    black = later.black_gone - state.black_gone
    return [made, grey, black, later.used - state.used]


def is_outlook(number):
    """Whether the call with this number looks ahead."""
    return number in (LASTS, NEXT_GO, AHEAD, FULL, FLOWS)


def look_ahead(state, number, numbers):
    """Do one of these calls, and give what it answers."""
    if number == LASTS:
        return lasts(state)
    if number == NEXT_GO:
        return next_go(state)
    if number == AHEAD:
        return ahead(state, numbers[0])
    if number == FULL:
        return full(state, numbers[0])
    return flows(state)
