"""Fewest beats of a plan, with marks that show that no plan has fewer."""

from farend.errors import NoSize
from farend.jobs import is_whole, is_whole_pair
from farend.plans import is_plan
from farend.ways import links, longest, whole

MOST_STEPS_MARKED = 9


def refuse_great_job(job):
    """Refuse a job of more steps than are gone through here."""
    if whole(job) > MOST_STEPS_MARKED:
        raise NoSize("the job has more than nine steps")


def free_steps(linked, stand):
    """Tell, rising, the steps that are not in a stand and hang on steps of it alone."""
    # A stand holds all on which its steps hang, so those on which a step hangs by itself are enough.
    return [step for step in linked if step not in stand and all([other in stand for other in linked[step]])]


def joined(stand, steps):
    """Tell a stand with some steps more."""
    return tuple(sorted(stand + steps))


def all_stands(linked):
    """Tell all stands, those of fewer steps first."""
    found = []
    layer = [()]
    while layer:
        found.extend(layer)
        # Many stands lead to the same one by one step more; a dict keeps it once.
        layer = list({joined(stand, (step,)): True for stand in layer for step in free_steps(linked, stand)})
    return found


def choices(steps, most):
    """Tell each choice of one step up to so many, as a tuple."""
    found = [()]
    for step in steps:
        found = found + [choice + (step,) for choice in found if len(choice) < most]
    return found[1:]


def stands_behind(linked, stand, hands):
    """Tell the stands to which a beat leads from a stand."""
    return [joined(stand, choice) for choice in choices(free_steps(linked, stand), hands)]


def greatest_marks(linked, hands):
    """Tell the greatest marks there are, as a dict: each stand's fewest beats to the end."""
    marks = {}
    # A beat leads to a stand of more steps, so its mark stands already.
    for stand in reversed(all_stands(linked)):
        behind = [marks[other] for other in stands_behind(linked, stand, hands)]
        marks[stand] = 1 + min(behind) if behind else 0
    return marks


def plan_by_marks(linked, hands, marks):
    """Tell a plan in which each beat leads to a mark that is one less."""
    plan = []
    stand = ()
    while marks[stand] > 0:
        behind = [other for other in stands_behind(linked, stand, hands) if marks[other] < marks[stand]]
        plan.append([step for step in behind[0] if step not in stand])
        stand = behind[0]
    return plan


def fewest(job, hands):
    """Tell a plan of the fewest beats, and marks that show that none has fewer."""
    refuse_great_job(job)
    linked = links(job)
    marks = greatest_marks(linked, hands)
    return (plan_by_marks(linked, hands, marks), marks)


def is_stand_told(thing):
    """Tell of any thing whether it could be a stand as it is told; Python finds keys of truths equal to it."""
    return isinstance(thing, tuple) and all(is_whole_pair(step) for step in thing)


def has_just_keys(stands, thing):
    """Tell whether a dict's keys are just all stands."""
    if len(thing) != len(stands) or not all(is_stand_told(key) for key in thing):
        return False
    return all(stand in thing for stand in stands)


def is_mark(thing):
    """Tell of any thing whether it is a whole number from 0 on."""
    return is_whole(thing) and thing >= 0


def are_marks(linked, hands, thing):
    """Tell of any thing whether it is marks for so many hands."""
    stands = all_stands(linked)
    if not isinstance(thing, dict) or not has_just_keys(stands, thing):
        return False
    if not all(is_mark(mark) for mark in thing.values()) or thing[stands[-1]] != 0:
        return False
    return all([
        thing[stand] <= thing[other] + 1 for stand in stands for other in stands_behind(linked, stand, hands)
    ])


def is_fewest(job, hands, thing):
    """Tell of any thing whether it is a pair of a plan and marks that show that no plan has fewer beats."""
    refuse_great_job(job)
    if not isinstance(thing, tuple) or len(thing) != 2:
        return False
    plan, marks = thing
    if not is_plan(job, hands, plan) or not are_marks(links(job), hands, marks):
        return False
    return len(plan) == marks[()]


def least_hands(job):
    """Tell the least number of hands with which a plan takes no more beats than the longest way."""
    refuse_great_job(job)
    linked = links(job)
    hands = 1
    while greatest_marks(linked, hands)[()] > longest(job):
        hands += 1
    return hands
