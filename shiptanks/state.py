"""What is known of a ship: its sizes, how all stands now, and how it stood before each change."""

MOST_KEPT = 30


class Sizes:
    """What a start tells: what the tanks hold, and what is made and let go an hour. It is never changed."""

    def __init__(self, fresh, makes, grey, grey_go, black, black_go):
        self.fresh = fresh
        self.makes = makes
        self.grey = grey
        self.grey_go = grey_go
        self.black = black
        self.black_go = black_go


class State:
    """How all stands: as at first when it is made."""

    def __init__(self, sizes):
        self.sizes = sizes
        # A tuple, so that a copy of a state can share it.
        self.legs = ()
        self.hour = 0
        self.persons = 0
        self.uses = 0
        self.making = 0
        self.letting_grey = 0
        self.letting_black = 0
        self.fresh = sizes.fresh
        self.grey = 0
        self.black = 0
        # From here on sums over all that ever was.
        self.taken_in = 0
        self.used = 0
        self.grey_gone = 0
        self.black_gone = 0
        self.ashore = 0
        self.lacked = 0


def copy_of(state):
    """Another state that stands alike; to change it leaves the first as it is."""
    twin = State(state.sizes)
    twin.legs = state.legs
    twin.hour = state.hour
    twin.persons = state.persons
    twin.uses = state.uses
    twin.making = state.making
    twin.letting_grey = state.letting_grey
    twin.letting_black = state.letting_black
    twin.fresh = state.fresh
    twin.grey = state.grey
    twin.black = state.black
    twin.taken_in = state.taken_in
    twin.used = state.used
    twin.grey_gone = state.grey_gone
    twin.black_gone = state.black_gone
    twin.ashore = state.ashore
    twin.lacked = state.lacked
    return twin


def switches(making, grey, black):
    """Three things that are each 1 or 0, told as one number."""
    return making + 2 * grey + 4 * black


def what_is_set(state):
    """The three things that are set on or off, told as one number."""
    return switches(state.making, state.letting_grey, state.letting_black)


def wanted(state):
    """How much water is wanted an hour."""
    return state.persons * state.uses


class Ship:
    """How all stands now, and what the last changes can be taken back to and done again to."""

    def __init__(self, sizes):
        self.now = State(sizes)
        self.earlier = []
        self.undone = []

    def keep(self, changed):
        """Make a change: from now on all stands as the changed state tells."""
        self.earlier.append(self.now)
        self.earlier = self.earlier[-MOST_KEPT:]
        # What was taken back follows on a state that the change has left behind.
        self.undone = []
        self.now = changed

    def take_back(self):
        """Take the last change back: all stands as it stood before it. There must be one."""
        self.undone.append(self.now)
        self.now = self.earlier.pop()

    def do_again(self):
        """Do again what was taken back last: all stands as it stood behind it. There must be one."""
        self.earlier.append(self.now)
        self.now = self.undone.pop()
