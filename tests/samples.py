"""Jobs that several tests look at."""

import random

DO = ("do",)
WAIT = ("wait",)


def send(work):
    return ("send", work)


def chain(many, steps=1):
    """Each work sends off the next one by its first step; all others of its steps wait."""
    works = []
    for work in range(many):
        if work + 1 < many:
            works.append((1 + work % 9, (send(work + 1),) + (WAIT,) * (steps - 1)))
        else:
            works.append((1 + work % 9, (DO,) * steps))
    return tuple(works)


def random_job(seed):
    """A job in which sends, deeds and waits are mixed, always the same one for a seed."""
    chance = random.Random(seed)
    many = chance.randint(1, 12)
    rows = [[] for work in range(many)]
    for work in range(1, many):
        roomy = [elder for elder in range(work) if len(rows[elder]) < 7]
        rows[chance.choice(roomy)].append(send(work))
    for row in rows:
        for turn in range(chance.randint(0 if row else 1, 8 - len(row))):
            row.insert(chance.randint(0, len(row)), chance.choice([DO, WAIT, WAIT]))
    return tuple((chance.randint(1, 9), tuple(row)) for row in rows)


def random_small_job(seed):
    """A job of at most nine steps, always the same one for a seed."""
    chance = random.Random(seed)
    many = 1 + seed % 9
    rows = [[] for work in range(many)]
    for work in range(1, many):
        rows[chance.randrange(work)].append(send(work))
    for row in rows:
        if not row:
            row.append(DO)
    # With many works the sends and deeds may be nine steps already, or more: then the last works go.
    while sum(len(row) for row in rows) > 9:
        last = len(rows) - 1
        rows = [[step for step in row if step != send(last)] or [DO] for row in rows[:last]]
    for turn in range(min(9, 8 * len(rows)) - sum(len(row) for row in rows) - seed // 9 % 3):
        row = chance.choice([row for row in rows if len(row) < 8])
        row.insert(chance.randint(0, len(row)), chance.choice([DO, WAIT]))
    return tuple((chance.randint(1, 9), tuple(row)) for row in rows)


ALONE = ((5, (DO,)),)

MANY_CHILDREN = (
    (2, tuple(send(work) for work in range(1, 8)) + (WAIT,)),
) + tuple((work, (DO,) * work) for work in range(1, 8))

# 0 sends 1, waits, sends 2, does, waits; 1 sends 3 and ends without a wait.
TWO_WAITS = (
    (4, (WAIT, send(1), WAIT, send(2), DO, WAIT)),
    (1, (DO, send(3), DO)),
    (2, (DO, DO)),
    (9, (DO, DO, DO, DO)),
)

# Each work sends off the next one and has a step left, so works lie deep in a heap: 0, 1, 2 while 3 is done.
DEEP_HEAP = (
    (1, (send(1), DO)),
    (2, (send(2), DO)),
    (3, (send(3), DO)),
    (4, (DO, DO)),
)

# Each work's last step sends off the next one, so all end together.
ALL_AT_ONCE = tuple((1, (send(work + 1),)) for work in range(11)) + ((1, (DO,)),)


def random_weaving(seed, hands, many):
    """Turns of hands, each looking at any other one, always the same ones for a seed."""
    chance = random.Random(seed)
    if hands == 1:
        return [(0, 0)] * many
    return [tuple(chance.sample(range(hands), 2)) for turn in range(many)]


def no_turns(hands):
    """Things of all kinds that are no turns of so many hands."""
    great = 123456789012345678901234567890
    wrong = [
        (), (0,), (1,), (0, 1, 0), (0, 0, 0), [0, 1], [0, 0], [], (0, hands), (hands, 0), (-1, 0), (0, -1), (-1, -2),
        (True, 0), (0, True), (False, 1), (1, False), (False, 0), (0, False), (True, False), (None, 0), (0, None),
        ("0", 1), (0, "1"), ("0", "1"), ("", 0), (0, great), (great, 0), (great, great), (0, -great), (-great, 0),
        ((0,), (1,)), ((0, 1),), ([0], 1), (0, [1]), ({}, 0), (0, {}), (0, ()), None, True, False, 0, 1, -1, great,
        "", "01", "turn", {}, {0: 1}, {0: 1, 1: 0}, ((((((0, 1),),),),),), [[[[[]]]]],
    ]
    if hands == 1:
        return wrong + [(0, 1), (1, 0), (1, 1)]
    return wrong + [(hand, hand) for hand in range(hands)] + [(hands, hands)]


def random_order(seed, hands):
    """An order of looking, always the same one for a seed."""
    chance = random.Random(seed)
    rows = []
    for hand in range(hands):
        row = [other for other in range(hands) if other != hand]
        chance.shuffle(row)
        rows.append(tuple(row))
    return tuple(rows)


def around(hands):
    """Each hand looks from the next one on around."""
    return tuple(tuple((hand + far) % hands for far in range(1, hands)) for hand in range(hands))


# Things of every kind that may be handed in where any thing may.
GREAT = 123456789012345678901234567890
ANY_THINGS = [
    None, True, False, 0, 1, -1, GREAT, -GREAT, "", "step", "a b\t~\n", (), (0,), (None,), ((),), (0, 1), [], [0], [[]],
    [()], [[[[[[]]]]]], ((((((),),),),),), {}, {0: 1}, {"step": (0, 0)}, {(0, 0): []}, ({},), [{}], ("step", 0, 0),
    (0, ("step", 0)), (0, ("step", 0, 0, 0)), (0, ["step", 0, 0]), [0, ("step", 0, 0)], "()" * 500, (0,) * 2000,
]
