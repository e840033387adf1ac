"""What hangs on what in a job, and how long and how wide the job is."""

from farend.jobs import below_any, parents, senders


def all_steps(job):
    """Tell, rising, every step of a job as (work, number)."""
    return [(work, number) for work, (room, steps) in enumerate(job) for number in range(len(steps))]


def last_step(job, work):
    """Tell the last step of a work."""
    return (work, len(job[work][1]) - 1)


def sent_ahead(job, step):
    """Tell the children that were sent off by earlier steps of a step's work."""
    work, number = step
    return [earlier[1] for earlier in job[work][1][:number] if earlier[0] == "send"]


def hangs(job, step):
    """Tell, rising, the steps on which a step hangs by itself."""
    work, number = step
    found = []
    if number > 0:
        found.append((work, number - 1))
    elif work > 0:
        found.append(senders(job)[work])
    if job[work][1][number] == ("wait",):
        awaited = below_any(parents(job), sent_ahead(job, step))
        found.extend([last_step(job, other) for other in awaited])
    return sorted(found)


def links(job):
    """Tell for each step, as a dict, the steps on which it hangs by itself."""
    return {step: hangs(job, step) for step in all_steps(job)}


def all_hangs(job, step):
    """Tell, rising, all steps on which a step hangs, by itself or by others."""
    linked = links(job)
    met = {}
    due = [step]
    while due:
        now = due.pop()
        for other in linked[now]:
            if other not in met:
                met[other] = True
                due.append(other)
    return sorted(met)


def whole(job):
    """Tell how many steps a job has."""
    return sum([len(steps) for room, steps in job])


def reckon_row(linked, rows, step):
    """Put into rows how long the longest row to a step is, and to those on which it hangs."""
    # The path is a list of its own, as a job's longest way would be deep for calls.
    path = [step]
    while path:
        now = path[-1]
        missing = [other for other in linked[now] if other not in rows]
        if missing:
            path.append(missing[0])
        else:
            rows[now] = 1 + max([rows[other] for other in linked[now]], default=0)
            path.pop()


def longest(job):
    """Tell how many steps the longest row has in which each hangs on the one ahead."""
    linked = links(job)
    rows = {}
    for step in all_steps(job):
        if step not in rows:
            reckon_row(linked, rows, step)
    return max(rows.values())


def road(job):
    """Tell the greatest sum of rooms from a work up to 0."""
    sums = []
    # A parent has a lesser number than its child, so its sum stands already.
    for (room, steps), elder in zip(job, parents(job)):
        sums.append(room if elder is None else room + sums[elder])
    return max(sums)
