"""The way: its legs, where the ship is in an hour, and what may be done there."""

MOST_LEGS = 10
MOST_LEG_HOURS = 500
MOST_MILES = 1000
MOST_KNOTS = 40
LAST_HOUR = 10000

MAKING_MILES = 12
GREY_MILES = 4
GREY_KNOTS = 6
BLACK_MILES = 12
BLACK_KNOTS = 4


class Leg:
    """A part of the way, up to the hour at which it ends. It is never changed."""

    def __init__(self, end, miles, knots):
        self.end = end
        self.miles = miles
        self.knots = knots


def way_end(legs):
    """The hour at which the last leg ends."""
    if len(legs) == 0:
        # Legs run from hour 0 on: a way without any ends there.
        return 0
    return legs[-1].end


def leg_in(legs, hour):
    """The leg that an hour is in; behind the last one, a stay in port."""
    for leg in legs:
        if hour < leg.end:
            return leg
    return Leg(hour + 1, 0, 0)


def in_port(leg):
    return leg.miles == 0


def may_make(leg):
    """1 if fresh water may be made on this leg, else 0."""
    return 1 if leg.miles >= MAKING_MILES else 0


def may_let_grey(leg):
    """1 if grey water may be let go on this leg, else 0."""
    return 1 if leg.miles >= GREY_MILES and leg.knots >= GREY_KNOTS else 0


def may_let_black(leg):
    """1 if black water may be let go on this leg, else 0."""
    return 1 if leg.miles >= BLACK_MILES and leg.knots >= BLACK_KNOTS else 0
