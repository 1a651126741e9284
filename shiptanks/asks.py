"""The calls that ask how all stands now, and of the way. They leave the state as it is."""

from shiptanks.codes import END, LOOK, MAY, NONE_THERE, ROOM, TANKS, WANTS, WHERE, WRONG_NUMBER
from shiptanks.hour import grey_part
from shiptanks.state import switches, wanted
from shiptanks.way import LAST_HOUR, leg_in, may_let_black, may_let_grey, may_make, way_end


def may_now(state):
    leg = leg_in(state.legs, state.hour)
    allowed = switches(may_make(leg), may_let_grey(leg), may_let_black(leg))
    return [allowed, leg.miles, leg.knots]


def room(state):
    sizes = state.sizes
    return [sizes.fresh - state.fresh, sizes.grey - state.grey, sizes.black - state.black]


def wants(state):
    want = wanted(state)
    grey = grey_part(want)
    return [want, grey, want - grey]


def where(state, t):
    if t > LAST_HOUR:
        return [WRONG_NUMBER]
    leg = leg_in(state.legs, t)
    return [leg.miles, leg.knots, may_make(leg), may_let_grey(leg), may_let_black(leg)]


def look(state, k):
    if k >= len(state.legs):
        return [NONE_THERE]
    leg = state.legs[k]
    begin = way_end(state.legs[:k])
    return [leg.end - begin, leg.miles, leg.knots]


def end(state):
    last = way_end(state.legs)
    return [last, max(0, last - state.hour)]


def tanks(state):
    sizes = state.sizes
    return [state.fresh, sizes.fresh, state.grey, sizes.grey, state.black, sizes.black]


def sums(state):
    return [state.taken_in, state.used, state.grey_gone, state.black_gone, state.ashore, state.lacked]


def ask(state, number, numbers):
    """Do one of these calls, and give what it answers."""
    if number == MAY:
        return may_now(state)
    if number == ROOM:
        return room(state)
    if number == WANTS:
        return wants(state)
    if number == WHERE:
        return where(state, numbers[0])
    if number == LOOK:
        return look(state, numbers[0])
    if number == END:
        return end(state)
    if number == TANKS:
        return tanks(state)
    return sums(state)
