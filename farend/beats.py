"""A job done beat by beat, idle hands looking around in a given order."""

from farend.crew import Crew
from farend.errors import NoOrder
from farend.jobs import is_whole
from farend.turns import other_hands


def is_row_of_looks(thing, hand, hands):
    """Tell of any thing whether it is a tuple of all hands but one, in some order."""
    if not isinstance(thing, tuple) or not all(is_whole(other) for other in thing):
        return False
    return sorted(thing) == other_hands(hand, hands)


def is_order(thing, hands):
    """Tell of any thing whether it is an order of looking."""
    if not isinstance(thing, tuple) or len(thing) != hands:
        return False
    return all([is_row_of_looks(row, hand, hands) for hand, row in enumerate(thing)])


def first_heap(crew, hand, row):
    """Tell the first hand of a row whose heap isn't empty, else the hand that looks."""
    for other in row:
        if crew.piles[other]:
            return other
    return hand


def take_all(crew, order):
    """Let each hand without a work take one, hand by hand; tell how many were taken from others."""
    taken = 0
    for hand, row in enumerate(order):
        if crew.at_work[hand] is None:
            told = crew.take_turn(hand, first_heap(crew, hand, row))
            if told[0] == "took":
                taken += 1
    return taken


def step_all(crew, hands):
    """Let each hand that has a work do one step, hand by hand; tell for each the step, or None."""
    beat = []
    for hand in range(hands):
        work = crew.at_work[hand]
        if work is None:
            beat.append(None)
        else:
            beat.append((work, crew.next_steps[work]))
            crew.do_step(hand)
    return beat


def beats_and_measures(job, hands, order):
    """Tell the beats till all has ended, how many works were taken from others, and the most room."""
    if not is_order(order, hands):
        raise NoOrder("this is no order of looking")
    crew = Crew(job, hands)
    beats = []
    taken = 0
    while not crew.all_ended():
        taken += take_all(crew, order)
        beats.append(step_all(crew, hands))
    return (beats, taken, crew.room_most)


def beaten(job, hands, order):
    """Tell the beats till all has ended, each a list of the step that each hand did, or None."""
    return beats_and_measures(job, hands, order)[0]


def measured(job, hands, order):
    """Tell how many beats, how many works taken from others, how often a hand was idle, the most room."""
    beats, taken, most = beats_and_measures(job, hands, order)
    idle = sum([beat.count(None) for beat in beats])
    return (len(beats), taken, idle, most)
