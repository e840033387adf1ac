"""Point 18 of the document word by word, each mover a generator that does one small deed at a time; and point 24's
whole deeds. Point 21's poorer rules, too."""

import itertools


class Heap:
    def __init__(self):
        self.box = {}
        self.near = 0
        self.far = 0


def lay(heap, x):
    heap.box[heap.near] = x
    yield
    heap.near += 1


def take(heap, told, rules):
    heap.near -= 1
    yield
    f = heap.far
    yield f
    if heap.near < f:
        heap.near = f
        told.append(None)
        return
    if heap.near > f:
        told.append(heap.box[heap.near])
        return
    got = heap.box[heap.near]
    yield f, got
    if rules != "bare":
        if heap.far == f:
            heap.far += 1
        else:
            got = None
        yield f, got
    heap.near = f + 1
    told.append(got)


def attempt(heap, told, rules):
    f = heap.far
    yield f
    if not heap.near > f:
        told.append(None)
        return
    yield f
    read = heap.box[f]
    yield f, read
    if rules == "blind":
        heap.far = f + 1
        told.append(read)
    elif heap.far == f:
        heap.far += 1
        told.append(read)
    else:
        told.append("lost")


def in_a_row(deeds):
    """Each deed's small deeds, one row; told is (deed, small deed, what it has read)."""
    for number, deed in enumerate(deeds):
        small = 0
        for held in deed:
            small += 1
            yield number, small, held
        yield number + 1, 0, None


class Game:
    """A play behind a small weaving; who has no small deed left can't move."""

    def __init__(self, play, weaving=(), rules="good"):
        deeds, tries = play
        self.play = play
        self.heap = Heap()
        self.told = [[] for mover in range(1 + len(tries))]
        rows = [[lay(self.heap, deed[1]) if deed[0] == "lay" else take(self.heap, self.told[0], rules) for deed in deeds]]
        rows += [[attempt(self.heap, self.told[1 + thief], rules) for turn in range(many)] for thief, many in enumerate(tries)]
        self.many = [len(row) for row in rows]
        self.rows = [in_a_row(row) for row in rows]
        self.at = [(0, 0, None) for row in rows]
        for who in weaving:
            self.move(who)

    def able(self):
        return [who for who in range(len(self.rows)) if self.at[who][0] < self.many[who]]

    def move(self, who):
        self.at[who] = next(self.rows[who])

    def left(self):
        return [self.heap.box[at] for at in range(self.heap.far, self.heap.near)]

    def outcome(self):
        return ([list(row) for row in self.told], self.left())

    def laid(self):
        """What has been laid: each lay counts behind its second small deed."""
        return [deed[1] for deed in self.play[0][:self.at[0][0]] if deed[0] == "lay"]

    def got(self):
        return [what for row in self.told for what in row if what not in (None, "lost")]

    def key(self):
        return repr((self.heap.box, self.heap.near, self.heap.far, self.at, self.told))


def all_weavings(play, rules="good"):
    """Each small weaving that can't go on, by trying all of them."""
    due = [()]
    while due:
        weaving = due.pop()
        able = Game(play, weaving, rules).able()
        if not able:
            yield weaving
        due.extend(weaving + (who,) for who in able)


def all_games(play, rules="good"):
    """A game for each state that can be met, with one weaving that comes to it."""
    first = Game(play, (), rules)
    met = {first.key()}
    due = [()]
    while due:
        weaving = due.pop()
        game = Game(play, weaving, rules)
        yield game, weaving
        for who in game.able():
            after = Game(play, weaving + (who,), rules)
            if after.key() not in met:
                met.add(after.key())
                due.append(weaving + (who,))


def random_full_weaving(play, chance):
    game, weaving = Game(play), []
    # Some movers are likelier than others, so that weavings of all kinds come up.
    weights = [chance.choice([1, 1, 3, 9]) for mover in game.rows]
    while game.able():
        who = chance.choices(game.able(), [weights[who] for who in game.able()])[0]
        game.move(who)
        weaving.append(who)
    return tuple(weaving)


def plays(most_deeds, all_tries):
    """All plays of so many deeds at most, the things laid unlike, with each of some tries."""
    for many in range(most_deeds + 1):
        for kinds in itertools.product("LT", repeat=many):
            deeds = tuple(("lay", 11 + at) if kind == "L" else ("take",) for at, kind in enumerate(kinds))
            for tries in all_tries:
                yield deeds, tries


LAY, TAKE = ("lay", 7), ("take",)
SMALL_TRIES = [(), (0,), (1,), (2,), (3,), (0, 0), (0, 1), (1, 0), (1, 1), (2, 1), (1, 2), (0, 3), (3, 0), (0, 2), (2, 0)]
