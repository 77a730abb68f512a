"""One house, and the calls about it; each call answers a list of whole numbers."""

from whatcanbe.holding import ROLES, USERS, role_bit, role_bits, roles_held
from whatcanbe.plans import count_ways, find_guard, find_plan, tell_plan
from whatcanbe.steps import Move, Rule, moves_of

MOST_RULES = 6

NOT_AS_TOLD = -1
NO_SUCH_RULE = -2
NO_PLAN = -3
TOO_MANY_RULES = -5
NOT_ALLOWED = -6
HELD_ALREADY = -6


class House:
    """What the users have, the rules and the actors."""

    def __init__(self):
        self.held = 0
        self.rules = []
        self.actors = list(USERS)


def is_user(number):
    """Whether there is such a user."""
    return number in USERS


def is_role(number):
    """Whether there is such a role."""
    return number in ROLES


def rises_within(row, most):
    """Whether the row rises and holds just numbers from 1 to most."""
    last = 0
    for number in row:
        if number <= last or number > most:
            return False
        last = number
    return True


def are_roles(row):
    """Whether the row rises and holds roles alone."""
    return rises_within(row, len(ROLES))


def set_roles(house, v, roles):
    """The call set."""
    if not is_user(v) or not are_roles(roles):
        return [NOT_AS_TOLD]
    house.held = (house.held & ~role_bits(v, ROLES)) | role_bits(v, roles)
    return [0]


def add_rule(house, rule):
    """The new rule's number, unless there are as many rules as there may be."""
    if len(house.rules) >= MOST_RULES:
        return [TOO_MANY_RULES]
    house.rules.append(rule)
    return [len(house.rules) - 1]


def give(house, a, r, n, roles):
    """The call give."""
    if not is_role(a) or not is_role(r) or n > len(roles):
        return [NOT_AS_TOLD]
    needed = roles[:n]
    barred = roles[n:]
    if not are_roles(needed) or not are_roles(barred):
        return [NOT_AS_TOLD]
    return add_rule(house, Rule(True, a, r, needed, barred))


def take(house, a, r):
    """The call take."""
    if not is_role(a) or not is_role(r):
        return [NOT_AS_TOLD]
    return add_rule(house, Rule(False, a, r, [], []))


def strike(house, k):
    """The call strike."""
    if k >= len(house.rules):
        return [NO_SUCH_RULE]
    house.rules.pop(k)
    return [len(house.rules)]


def set_actors(house, users):
    """The call actors."""
    if not rises_within(users, len(USERS)):
        return [NOT_AS_TOLD]
    house.actors = users
    return [0]


def do_step(house, k, u, v):
    """The call do."""
    if not is_user(u) or not is_user(v):
        return [NOT_AS_TOLD]
    if k >= len(house.rules):
        return [NO_SUCH_RULE]
    move = Move(k, house.rules[k], [u], v)
    if not move.may_be_done(house.held):
        return [NOT_ALLOWED]
    house.held = move.held_behind(house.held)
    return tell_row(roles_held(house.held, v))


def tell_row(row):
    """How many numbers the row has, then these."""
    return [len(row)] + row


def can_have(house, v, roles):
    """The call can."""
    if not is_user(v) or not are_roles(roles):
        return [NOT_AS_TOLD]
    wanted = role_bits(v, roles)
    return plan_for(house, lambda held: (held & wanted) == wanted)


def can_lose(house, v, r):
    """The call lose."""
    if not is_user(v) or not is_role(r):
        return [NOT_AS_TOLD]
    unwanted = role_bit(v, r)
    return plan_for(house, lambda held: (held & unwanted) == 0)


def can_never(house, r, q):
    """The call never."""
    if not is_role(r) or not is_role(q):
        return [NOT_AS_TOLD]
    pairs = [role_bits(user, [r, q]) for user in USERS]
    return plan_for(house, lambda held: any([(held & pair) == pair for pair in pairs]))


def plan_for(house, is_wanted):
    """The plan told for what is held to be as wanted, unless there is none."""
    plan = find_plan(house.held, moves_of(house.rules, house.actors), is_wanted)
    if plan is None:
        return [NO_PLAN]
    return tell_plan(plan)


def guard(house, v, roles):
    """The call guard."""
    if not is_user(v) or not are_roles(roles):
        return [NOT_AS_TOLD]
    wanted = role_bits(v, roles)
    if (house.held & wanted) == wanted:
        return [HELD_ALREADY]
    moves = moves_of(house.rules, house.actors)
    return tell_row(find_guard(house.held, moves, len(house.rules), lambda held: (held & wanted) == wanted))


def count_many(house):
    """The call many."""
    return [count_ways(house.held, moves_of(house.rules, house.actors))]


def tell_roles(house, v):
    """The call roles."""
    if not is_user(v):
        return [NOT_AS_TOLD]
    return tell_row(roles_held(house.held, v))


def tell_rule(rule):
    """1 if the rule is to give, else 0; its two roles; its two rows."""
    gives = 1 if rule.gives else 0
    return [gives, rule.admin, rule.role] + tell_row(rule.needed) + tell_row(rule.barred)


def tell_rules(house):
    """The call now."""
    told = [len(house.rules)]
    for rule in house.rules:
        told.extend(tell_rule(rule))
    return told
