"""Told weavings, and where they go wrong."""

from farend.crew import Crew
from farend.jobs import is_whole
from farend.turns import is_hand, looks


def is_same(thing, worth):
    """Tell of any thing whether it is just a text or a number; a truth is none, though Python finds it equal."""
    return (isinstance(thing, str) or is_whole(thing)) and thing == worth


def is_told(thing, told):
    """Tell of any thing whether it is just what a turn told."""
    if not isinstance(thing, tuple) or len(thing) != len(told):
        return False
    return all([is_same(part, worth) for part, worth in zip(thing, told)])


def look_that_tells(crew, hands, row):
    """Tell at whom a row's hand looks so that its turn tells what the row says, None where there is no such look."""
    if not isinstance(row, tuple) or len(row) != 2:
        return None
    hand, what = row
    if not is_hand(hand, hands):
        return None
    for other in looks(hand, hands):
        if is_told(what, crew.foretold(hand, other)):
            return other
    return None


def wrong_at(job, hands, thing):
    """Tell None of a right tale, else the number of the first row that makes a list none."""
    crew = Crew(job, hands)
    for at, row in enumerate(thing):
        other = look_that_tells(crew, hands, row)
        if other is None:
            return at
        crew.take_turn(row[0], other)
    return None
