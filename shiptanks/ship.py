"""The calls on one ship, one behind another."""

from shiptanks.asks import ask
from shiptanks.changes import is_change, make_change
from shiptanks.codes import START, WIDTHS, WRONG_NUMBER
from shiptanks.history import do_history, is_history
from shiptanks.outlook import is_outlook, look_ahead
from shiptanks.state import Ship, Sizes

MOST_LITRES = 10000000


def may_start(numbers):
    """Whether a ship can be started with these six numbers."""
    return min(numbers) >= 1 and max(numbers) <= MOST_LITRES


def started(numbers):
    """A ship with these six numbers, all as at first."""
    return Ship(Sizes(numbers[0], numbers[1], numbers[2], numbers[3], numbers[4], numbers[5]))


def answer_of(ship, number, numbers):
    """What a call other than a start answers."""
    if is_change(number):
        return make_change(ship, number, numbers)
    if is_history(number):
        return do_history(ship, number)
    if is_outlook(number):
        return look_ahead(ship.now, number, numbers)
    return ask(ship.now, number, numbers)


def answers(calls):
    """What the calls answer: for each, how many numbers, then these."""
    given = []
    ship = None
    at = 0
    while at < len(calls):
        number = calls[at]
        behind = at + 1 + WIDTHS[number]
        numbers = calls[at + 1:behind]
        at = behind
        if number != START:
            answer = answer_of(ship, number, numbers)
        elif may_start(numbers):
            ship = started(numbers)
            answer = [0]
        else:
            answer = [WRONG_NUMBER]
        given.append(len(answer))
        given.extend(answer)
    return given
