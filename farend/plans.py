"""Plans of anybody, and what no plan can fall below."""

from farend.jobs import is_whole_pair
from farend.ways import all_steps, links, longest, whole


def is_beat(thing, hands):
    """Tell of any thing whether it is a list of steps, rising, of at most as many as hands."""
    if not isinstance(thing, list) or len(thing) > hands:
        return False
    return all(is_whole_pair(step) for step in thing) and thing == sorted(thing)


def are_in_order(job, beats):
    """Tell whether each step of a job stands in a later beat than all on which it hangs."""
    when = {step: at for at, beat in enumerate(beats) for step in beat}
    linked = links(job)
    # Those on which a step hangs by itself are enough: the others stand ahead of these.
    return all([when[other] < when[step] for step in linked for other in linked[step]])


def is_plan(job, hands, thing):
    """Tell of any thing whether it is a plan of a job for so many hands."""
    if not isinstance(thing, list) or not all(is_beat(beat, hands) for beat in thing):
        return False
    planned = sorted([step for beat in thing for step in beat])
    return planned == all_steps(job) and are_in_order(job, thing)


def bound(job, hands):
    """Tell how many beats a plan has at least, by the longest way and by the shared whole."""
    shared = (whole(job) + hands - 1) // hands
    return max(longest(job), shared)
