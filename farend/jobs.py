"""Jobs: trees of works, and who sends off whom."""

MOST_WORKS = 12
MOST_STEPS = 8
MOST_ROOM = 9


def is_whole(thing):
    """Tell whether a thing is a whole number; Python counts truths as ints, the document doesn't."""
    return isinstance(thing, int) and not isinstance(thing, bool)


def is_whole_pair(thing):
    """Tell of any thing whether it is a tuple of two whole numbers, as steps and deeds are told."""
    return isinstance(thing, tuple) and len(thing) == 2 and is_whole(thing[0]) and is_whole(thing[1])


def is_step(thing):
    """Tell whether a thing is a step by itself, whatever works there are."""
    if not isinstance(thing, tuple):
        return False
    if thing == ("do",) or thing == ("wait",):
        return True
    return len(thing) == 2 and thing[0] == "send" and is_whole(thing[1])


def is_room(thing):
    """Tell whether a thing is the room of a work."""
    return is_whole(thing) and 1 <= thing <= MOST_ROOM


def is_work(thing):
    """Tell whether a thing is a work by itself, whatever works there are."""
    if not isinstance(thing, tuple) or len(thing) != 2:
        return False
    room, steps = thing
    if not is_room(room) or not isinstance(steps, tuple):
        return False
    return 1 <= len(steps) <= MOST_STEPS and all(is_step(step) for step in steps)


def is_job(thing):
    """Tell of any thing whether it is a job."""
    if not isinstance(thing, tuple) or not 1 <= len(thing) <= MOST_WORKS:
        return False
    return all(is_work(work) for work in thing) and sends_make_tree(thing)


def sends(works):
    """Tell each send as (work, number, child)."""
    return [
        (work, number, step[1])
        for work, (room, steps) in enumerate(works)
        for number, step in enumerate(steps)
        if step[0] == "send"
    ]


def sends_make_tree(works):
    """Tell whether each work but 0 is sent off just once, by a lesser one, and 0 by none."""
    times = [0] * len(works)
    for work, number, child in sends(works):
        # A child above its sender is never 0, so this keeps 0 from being sent off, too.
        if not work < child < len(works):
            return False
        times[child] += 1
    return times[1:] == [1] * (len(works) - 1)


def senders(job):
    """Tell for each work the step (work, number) by which it is sent off, None for 0."""
    found = [None] * len(job)
    for work, number, child in sends(job):
        found[child] = (work, number)
    return found


def parents(job):
    """Tell the parent of each work, None for 0."""
    return [None if sender is None else sender[0] for sender in senders(job)]


def below_any(elders, works):
    """Tell, rising, what is below one of some works, elders being the parent of each work."""
    found = []
    # A parent has a lesser number than its child, so one pass meets it first.
    for work, elder in enumerate(elders):
        if work in works or elder in found:
            found.append(work)
    return found


def below(job, work):
    """Tell, rising, the work itself, its children and those below them."""
    return below_any(parents(job), [work])
