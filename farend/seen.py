"""Small weavings seen whole: an order of whole deeds that tell and leave the same."""

from farend.endings import refuse_great_play
from farend.ends import Walk
from farend.errors import NoTurn
from farend.jobs import is_whole_pair


class View:
    """A small weaving to the end of all: its deeds, when each was under way, what it told, and what was left."""

    def __init__(self, play, weaving):
        walk = Walk(play, "good")
        # For each deed the places of its first and its last small deed.
        self.spans = {}
        for place, who in enumerate(weaving):
            if not walk.has_left(who):
                raise NoTurn(place)
            self.lengthen((who, walk.past_deeds[who]), place)
            walk.move(who)
        if walk.movers_left():
            raise NoTurn(len(weaving))
        told, left = walk.outcome()
        self.parts = told_parts(play, told)
        self.last_row = tuple(left)

    def lengthen(self, deed, place):
        """Let a deed's span reach to a place."""
        first = self.spans[deed][0] if deed in self.spans else place
        self.spans[deed] = (first, place)

    def may_follow(self, order, deed):
        """Tell whether a deed may stand behind others: it isn't among them, and all that had ended ahead of it are."""
        if deed not in self.parts or deed in order:
            return False
        first = self.spans[deed][0]
        return all([other in order for other in self.parts if self.spans[other][1] < first])

    def row_behind(self, order, row, deed):
        """Tell the row behind a deed done whole, None where it can't stand there or tells something else."""
        if not self.may_follow(order, deed):
            return None
        kind, what = self.parts[deed]
        if kind == "lay":
            return row + (what,)
        if not row:
            return row if what is None else None
        if kind == "take":
            return row[:-1] if row[-1] == what else None
        return row[1:] if row[0] == what else None

    def longer_ways(self, ways):
        """Tell all ways, each an order of deeds and the row behind it, that are one deed longer than some."""
        longer = []
        for order, row in ways:
            for deed in self.parts:
                behind = self.row_behind(order, row, deed)
                if behind is not None:
                    longer.append((order + [deed], behind))
        return longer


def told_parts(play, told):
    """Tell for each deed but lost tries, as a dict, its kind with what it laid or told."""
    parts = {}
    takes = 0
    for number, deed in enumerate(play[0]):
        if deed[0] == "lay":
            parts[(0, number)] = deed
        else:
            parts[(0, number)] = ("take", told[0][takes])
            takes += 1
    for who in range(1, len(told)):
        for number, what in enumerate(told[who]):
            if what != "lost":
                parts[(who, number)] = ("try", what)
    return parts


def seen_as(play, weaving):
    """Tell a list of whole deeds, one behind the other, as which a small weaving can be seen."""
    refuse_great_play(play)
    view = View(play, weaving)
    # At most three tries stand among four deeds, so all ways together are few.
    ways = [([], ())]
    for turn in range(len(view.parts)):
        ways = view.longer_ways(ways)
    return [order for order, row in ways if row == view.last_row][0]


def is_seen(play, weaving, thing):
    """Tell of any thing whether it is a list as which a small weaving can be seen."""
    refuse_great_play(play)
    view = View(play, weaving)
    if not isinstance(thing, list) or not all(is_whole_pair(deed) for deed in thing):
        return False
    if len(thing) != len(view.parts):
        return False
    row = ()
    for at, deed in enumerate(thing):
        row = view.row_behind(thing[:at], row, deed)
        if row is None:
            return False
    return row == view.last_row
