"""Writes calls as they lie in the list and splits what is answered, call by call."""

from whatcanbe.roles import answers

BIG = 4294967295


def set_(v, *roles):
    return [0, v, len(roles), *roles]


def give(a, r, needed=(), barred=()):
    return give_n(a, r, len(needed), *needed, *barred)


def give_n(a, r, n, *roles):
    return [1, a, r, n, len(roles), *roles]


def take(a, r):
    return [2, a, r]


def strike(k):
    return [3, k]


def actors(*users):
    return [4, len(users), *users]


def do(k, u, v):
    return [5, k, u, v]


def can(v, *roles):
    return [6, v, len(roles), *roles]


def lose(v, r):
    return [7, v, r]


def never(r, q):
    return [8, r, q]


def guard(v, *roles):
    return [9, v, len(roles), *roles]


def many():
    return [10]


def roles(v):
    return [11, v]


def now():
    return [12]


def flat(calls):
    return [number for call in calls for number in call]


def split(told):
    """The answers, a list each; fails if the counts do not come out."""
    parts = []
    at = 0
    while at < len(told):
        count = told[at]
        part = told[at + 1:at + 1 + count]
        if count < 1 or len(part) != count:
            raise AssertionError(f"counts do not come out in {told}")
        parts.append(part)
        at += 1 + count
    return parts


def ask(*calls):
    """What is answered of each of these calls on one new house."""
    parts = split(answers(flat(calls)))
    if len(parts) != len(calls):
        raise AssertionError(f"{len(calls)} calls, {len(parts)} answers")
    return parts


def last(*calls):
    """What is answered of the last of these calls."""
    return ask(*calls)[-1]


def held(*calls):
    """The roles of users 1, 2 and 3 behind these calls, a list each.

    Without actors there is a plan just for what is so already.
    """
    looks = [can(v, r) for v in (1, 2, 3) for r in (1, 2, 3, 4)]
    found = ask(*calls, actors(), *looks)[len(calls) + 1:]
    had = [part == [0] for part in found]
    return [[r for r in (1, 2, 3, 4) if had[4 * v + r - 1]] for v in (0, 1, 2)]


def house_behind(*calls):
    """The rules as now tells them, the roles of each user and the actors, behind these calls.

    When one user alone has a role, there is a plan just if that user is an actor.
    """
    alone = [[set_(v, 1), can(v, 2), set_(v)] for v in (1, 2, 3)]
    looks = [now(), roles(1), roles(2), roles(3), set_(1), set_(2), set_(3), strike(0), give(1, 2), *sum(alone, [])]
    found = ask(*calls, *looks)[len(calls):]
    return found[0], found[1:4], [v for v in (1, 2, 3) if found[10 + 3 * (v - 1)] != [-3]]
