"""Turns of the hands at a job, in any weaving."""

from farend.crew import Crew
from farend.errors import NoTurn
from farend.jobs import is_whole


def other_hands(hand, hands):
    """Tell, rising, all hands but one."""
    return [other for other in range(hands) if other != hand]


def looks(hand, hands):
    """Tell at which hands a hand can look in a turn; one hand alone looks at 0 itself."""
    return other_hands(hand, hands) or [0]


def is_hand(thing, hands):
    """Tell of any thing whether it is a hand's number."""
    return is_whole(thing) and 0 <= thing < hands


def is_turn(thing, hands):
    """Tell of any thing whether it is a turn."""
    if not isinstance(thing, tuple) or len(thing) != 2:
        return False
    hand, other = thing
    return is_hand(hand, hands) and is_hand(other, hands) and other in looks(hand, hands)


def woven(job, hands, weaving):
    """Tell what each turn of a weaving told, and whether all has ended."""
    crew = Crew(job, hands)
    told = []
    for place, turn in enumerate(weaving):
        if not is_turn(turn, hands):
            raise NoTurn(place)
        hand, other = turn
        told.append(crew.take_turn(hand, other))
    return (told, crew.all_ended())
