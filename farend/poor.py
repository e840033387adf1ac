"""Poorer rules for the heap with two ends, by which a thing is got twice."""

from farend.endings import all_walks, refuse_great_play


def many_got(walk):
    """Tell how many things takes and tries that have ended got."""
    return len([what for row in walk.told for what in row if what is not None and what != "lost"])


def many_laid(walk):
    """Tell how many things have been laid."""
    return len([deed for deed in walk.play[0][:walk.past_deeds[0]] if deed[0] == "lay"])


def twice(play, rules):
    """Tell a small weaving behind which more things were got than had been laid, None where there is none."""
    refuse_great_play(play)
    for walk, weaving in all_walks(play, rules):
        if many_got(walk) > many_laid(walk):
            return weaving
    return None
