"""A job done by one hand alone."""

from farend.ways import road


def steps_alone(job):
    """Tell the steps of a job in the order in which one hand alone does them."""
    order = []
    # The nearest entry is what is done next, so a work sent off goes ahead of the rest of its parent.
    due = [(0, 0)]
    while due:
        work, number = due.pop()
        steps = job[work][1]
        if number < len(steps):
            order.append((work, number))
            due.append((work, number + 1))
            if steps[number][0] == "send":
                due.append((steps[number][1], 0))
    return order


def alone(job):
    """Tell the steps as one hand alone does them, and the most room ever."""
    # Alone, those that live are always a work, its parent, and so on to 0, so the most room is the road.
    return (steps_alone(job), road(job))
