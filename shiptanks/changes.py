"""The calls that are changes. Each changes a state, or refuses and may leave it half changed: only a copy is given."""

from shiptanks.codes import ASHORE, BUNKER, HOURS, LEG, NO_MORE, NO_ROOM, NOT_HERE, PERSONS, SET, SO_ALREADY
from shiptanks.codes import TOO_LATE, TOO_LITTLE, WRONG_NUMBER
from shiptanks.hour import pass_hours
from shiptanks.state import copy_of, switches, wanted, what_is_set
from shiptanks.way import LAST_HOUR, Leg, MOST_KNOTS, MOST_LEG_HOURS, MOST_LEGS, MOST_MILES, in_port, leg_in, way_end

MOST_PERSONS = 5000
MOST_USES = 80
MOST_HOURS_AT_ONCE = 500
MOST_TAKEN_IN = 1000000000


def add_leg(state, hours, miles, knots):
    if hours < 1 or hours > MOST_LEG_HOURS or miles > MOST_MILES or knots > MOST_KNOTS:
        return [WRONG_NUMBER]
    if len(state.legs) >= MOST_LEGS:
        return [NO_MORE]
    if state.hour > way_end(state.legs):
        return [NOT_HERE]
    end = way_end(state.legs) + hours
    state.legs = state.legs + (Leg(end, miles, knots),)
    return [end]


def set_persons(state, n, uses):
    if n > MOST_PERSONS or uses > MOST_USES:
        return [WRONG_NUMBER]
    before = [state.persons, state.uses]
    state.persons = n
    state.uses = uses
    return [wanted(state)] + before


def set_switches(state, making, grey, black):
    if making > 1 or grey > 1 or black > 1:
        return [WRONG_NUMBER]
    before = what_is_set(state)
    if switches(making, grey, black) == before:
        return [SO_ALREADY]
    state.making = making
    state.letting_grey = grey
    state.letting_black = black
    return [before]


def bunker(state, n):
    if n == 0:
        return [WRONG_NUMBER]
    if not in_port(leg_in(state.legs, state.hour)):
        return [NOT_HERE]
    if n > state.sizes.fresh - state.fresh:
        return [NO_ROOM]
    if state.taken_in + n > MOST_TAKEN_IN:
        return [NO_MORE]
    state.fresh += n
    state.taken_in += n
    return [state.fresh]


def give_ashore(state, grey, black):
    if grey == 0 and black == 0:
        return [WRONG_NUMBER]
    if not in_port(leg_in(state.legs, state.hour)):
        return [NOT_HERE]
    if grey > state.grey or black > state.black:
        return [TOO_LITTLE]
    state.grey -= grey
    state.black -= black
    state.ashore += grey + black
    return [state.grey, state.black]


def let_hours_go_by(state, n):
    if n < 1 or n > MOST_HOURS_AT_ONCE:
        return [WRONG_NUMBER]
    if state.hour + n > LAST_HOUR:
        return [TOO_LATE]
    lacked_before = state.lacked
    pass_hours(state, n)
    if state.taken_in > MOST_TAKEN_IN:
        return [NO_MORE]
    return [state.hour, state.lacked - lacked_before, state.fresh, state.grey, state.black]


def is_change(number):
    """Whether the call with this number is a change when it isn't refused."""
    return number in (LEG, PERSONS, SET, BUNKER, ASHORE, HOURS)


def change_state(state, number, numbers):
    """Do one of these calls in the state that is handed in, and give what it answers."""
    if number == LEG:
        return add_leg(state, numbers[0], numbers[1], numbers[2])
    if number == PERSONS:
        return set_persons(state, numbers[0], numbers[1])
    if number == SET:
        return set_switches(state, numbers[0], numbers[1], numbers[2])
    if number == BUNKER:
        return bunker(state, numbers[0])
    if number == ASHORE:
        return give_ashore(state, numbers[0], numbers[1])
    return let_hours_go_by(state, numbers[0])


def make_change(ship, number, numbers):
    """Do one of these calls, and give what it answers; if it is refused the ship stays as it was."""
    changed = copy_of(ship.now)
    answer = change_state(changed, number, numbers)
    if answer[0] >= 0:
        ship.keep(changed)
    return answer
