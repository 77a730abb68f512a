"""The search for the plan told."""


def find_plan(held, steps, is_reached):
    """The plan told, as a list of steps as they are told; None if there is no plan.

    What can be held is visited in the order of the first shortest plan to it:
    the queue keeps that order as long as the steps come in theirs, so the first
    that is as wanted has the plan told.
    """
    came_by = {held: None}
    queue = [held]
    at = 0
    while at < len(queue):
        current = queue[at]
        if is_reached(current):
            return steps_back(came_by, current)
        for step in steps:
            if step.may_be_done(current):
                behind = step.held_behind(current)
                if behind not in came_by:
                    came_by[behind] = (current, step.told)
                    queue.append(behind)
        at = at + 1
    return None


def steps_back(came_by, held):
    """The steps by which the search came to what is held, the first one first."""
    steps = []
    came = came_by[held]
    while came is not None:
        steps.append(came[1])
        came = came_by[came[0]]
    return list(reversed(steps))


def tell_plan(plan):
    """How many steps, then the rule, who and whom of each."""
    told = [len(plan)]
    for step in plan:
        told.extend(step)
    return told
