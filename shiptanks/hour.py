"""How an hour goes."""

from shiptanks.state import wanted
from shiptanks.way import leg_in, may_let_black, may_let_grey, may_make


def grey_let_go(state, leg):
    """How much grey water goes in an hour on this leg."""
    if state.letting_grey == 0 or may_let_grey(leg) == 0:
        return 0
    return min(state.sizes.grey_go, state.grey)


def black_let_go(state, leg):
    """How much black water goes in an hour on this leg."""
    if state.letting_black == 0 or may_let_black(leg) == 0:
        return 0
    return min(state.sizes.black_go, state.black)


def water_made(state, leg):
    """How much fresh water is made in an hour on this leg."""
    if state.making == 0 or may_make(leg) == 0:
        return 0
    return min(state.sizes.makes, state.sizes.fresh - state.fresh)


def grey_part(used):
    """How much of the water that is used becomes grey; the rest becomes black."""
    return used * 9 // 10


def water_used(state):
    """How much is used in an hour, when the tanks stand so."""
    grey_room = state.sizes.grey - state.grey
    black_room = state.sizes.black - state.black
    # Nine tenths are rounded down, so the grey tank takes all up to just below one litre above its room;
    # the black part is a tenth rounded up, so ten times its room is the most.
    most_for_grey = (10 * grey_room + 9) // 9
    most_for_black = 10 * black_room
    return min(wanted(state), state.fresh, most_for_grey, most_for_black)


def let_go(state, leg):
    """The first step: grey and black water go."""
    grey = grey_let_go(state, leg)
    black = black_let_go(state, leg)
    state.grey -= grey
    state.grey_gone += grey
    state.black -= black
    state.black_gone += black


def make_water(state, leg):
    """The second step: fresh water is made."""
    made = water_made(state, leg)
    state.fresh += made
    state.taken_in += made


def use_water(state):
    """The third step: water is used, and what's wanted and isn't used lacks."""
    used = water_used(state)
    grey = grey_part(used)
    state.fresh -= used
    state.grey += grey
    state.black += used - grey
    state.used += used
    state.lacked += wanted(state) - used


def pass_hour(state):
    """Let one hour go by, in the state that is handed in."""
    leg = leg_in(state.legs, state.hour)
    let_go(state, leg)
    make_water(state, leg)
    use_water(state)
    state.hour += 1


def pass_hours(state, n):
    """Let n hours go by, in the state that is handed in."""
    for k in range(n):
        pass_hour(state)
