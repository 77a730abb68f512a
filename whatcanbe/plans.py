"""The search for plans, for all that can be come to, and for rules that prevent a plan."""


class Search:
    """Goes from what is held to what can be come to, by the moves.

    What can be held is visited in the order of the first shortest plan to it:
    the queue keeps that order as long as the moves come in theirs, so the first
    that is as wanted has the plan told.
    """

    def __init__(self, held, moves):
        self.moves = moves
        self.came_by = {held: None}
        self.queue = [held]

    def go_until(self, is_wanted):
        """The first that is as wanted, or None when all has been visited."""
        at = 0
        while at < len(self.queue):
            current = self.queue[at]
            if is_wanted(current):
                return current
            self.visit(current)
            at = at + 1
        return None

    def visit(self, current):
        """Puts into the queue what is one move away and has not been come to."""
        for move in self.moves:
            if move.may_be_done(current):
                behind = move.held_behind(current)
                if behind not in self.came_by:
                    self.came_by[behind] = (current, move)
                    self.queue.append(behind)

    def steps_to(self, held):
        """The steps by which the search came to what is held, the first one first."""
        steps = []
        came = self.came_by[held]
        while came is not None:
            steps.append(came[1].tell_step(came[0]))
            came = self.came_by[came[0]]
        return list(reversed(steps))


def find_plan(held, moves, is_wanted):
    """The plan told, as a list of steps as they are told; None if there is no plan."""
    search = Search(held, moves)
    found = search.go_until(is_wanted)
    if found is None:
        return None
    return search.steps_to(found)


def count_ways(held, moves):
    """How many ways of having the roles can be come to, with the one that is held."""
    search = Search(held, moves)
    search.go_until(lambda way: False)
    return len(search.came_by)


def tell_plan(plan):
    """How many steps, then the rule, who and whom of each."""
    told = [len(plan)]
    for step in plan:
        told.extend(step)
    return told


def rows_of_rules(count):
    """All rows of rules, rising each: those with fewer first, of as few the first row first."""
    rows = [[]]
    for k in range(count):
        rows = rows + [row + [k] for row in rows]
    return sorted(rows, key=lambda row: (len(row), row))


def share_one(row, other):
    """Whether some number stands in both rows."""
    return any([number in other for number in row])


def find_guard(held, moves, count, is_wanted):
    """The first of the shortest rows of rules without which there is no plan.

    It is asked only of what is not so already.
    """
    rules_of_plans = []
    for row in rows_of_rules(count)[:-1]:
        # A row that leaves a plan whole prevents nothing: no search is needed to know it.
        if all([share_one(row, used) for used in rules_of_plans]):
            plan = find_plan(held, [move for move in moves if move.k not in row], is_wanted)
            if plan is None:
                return row
            rules_of_plans.append([step[0] for step in plan])
    # With all rules given up nothing can be done: the last row needs no search.
    return list(range(count))
