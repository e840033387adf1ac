"""All endings of a play, and small weavings that come to them."""

from farend.ends import Walk
from farend.errors import NoSize

MOST_DEEDS = 4
MOST_TRIES = 3


def refuse_great_play(play):
    """Refuse a play of more deeds or tries than are gone through here."""
    deeds, tries = play
    if len(deeds) > MOST_DEEDS or sum(tries) > MOST_TRIES:
        raise NoSize("the play has more than four deeds or three tries")


def all_walks(play, rules):
    """Tell each state that small weavings come to once, as (walk, weaving)."""
    first = Walk(play, rules)
    met = {first.state(): True}
    due = [(first, ())]
    found = []
    while due:
        walk, weaving = due.pop()
        found.append((walk, weaving))
        for who in walk.movers_left():
            after = walk.copied()
            after.move(who)
            state = after.state()
            if state not in met:
                met[state] = True
                due.append((after, weaving + (who,)))
    return found


def weavings_to_end(play):
    """Tell each state at the end of all once, as (ending, weaving)."""
    return [(walk.outcome(), weaving) for walk, weaving in all_walks(play, "good") if not walk.movers_left()]


def endings(play):
    """Tell all endings of a play, each once, rising by their texts."""
    refuse_great_play(play)
    # Unlike states may have the same ending, which its text keeps once.
    by_text = {repr(ending): ending for ending, weaving in weavings_to_end(play)}
    return [by_text[text] for text in sorted(by_text)]


def weaving_to(play, ending):
    """Tell a small weaving to the end of all that comes to an ending, None where none does."""
    refuse_great_play(play)
    # By their texts unlike kinds are unlike, though Python finds a truth equal to a number.
    text = repr(ending)
    for other, weaving in weavings_to_end(play):
        if repr(other) == text:
            return weaving
    return None
