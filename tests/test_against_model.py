"""Asks many lines and compares with another way to the same answers.

The model keeps sets of roles, and finds the plan told not by the order of a
queue but from how far each way of having the roles is from what is wanted.
"""

import random
import unittest
from itertools import combinations

from tests.lines import actors, ask, can, do, give_n, guard, lose, many, never, now, roles, set_, strike, take

USERS = (1, 2, 3)
ROLES = (1, 2, 3, 4)

# Houses with long plans, which seldom come by chance: what each user has, and
# the rules, each as a and r alone (to take) or with both rows (to give).
WINDING = (
    (((4,), (1,), (1,)), ((2, 4), (1, 1, (4,), ()), (4, 4, (2,), (4,)), (3, 2, (), (1, 3)), (1, 3, (), (1, 4)), (1, 1))),
    (((1, 4), (), ()), ((3, 1, (2, 3), (4,)), (2, 4, (), ()), (3, 1), (4, 3, (2, 4), (3,)), (4, 2, (), (1, 4)), (1, 4))),
    (((1,), (), (3,)), ((2, 2, (1, 3, 4), (4,)), (1, 2, (1, 3), ()), (3, 3, (), ()), (2, 3), (1, 4, (2,), (3,)),
                        (4, 1, (), (3,)))),
    (((2,), (), ()), ((2, 3, (), (2,)), (2, 1, (3,), ()), (1, 4), (2, 2, (1, 3, 4), ()), (1, 4, (3,), (1,)), (3, 2))),
    (((), (4,), (3,)), ((3, 2, (), (2, 3)), (2, 3, (1,), (2,)), (1, 4, (), (1,)), (2, 2), (4, 1, (2, 4), ()), (1, 3))),
)


def rising(row, allowed):
    return list(row) == sorted(set(row)) and set(row) <= set(allowed)


class Model:
    def __init__(self):
        self.held = {v: frozenset() for v in USERS}
        self.rules = []
        self.actors = [1, 2, 3]

    def behind(self, held, k, u, v):
        """What is held behind the step, or None."""
        gives, a, r, needed, barred = self.rules[k]
        if a not in held[u]:
            return None
        if gives and (r in held[v] or not needed <= held[v] or barred & held[v]):
            return None
        if not gives and r not in held[v]:
            return None
        return {**held, v: held[v] ^ {r}}

    def steps(self, held):
        for k in range(len(self.rules)):
            for u in self.actors:
                for v in USERS:
                    behind = self.behind(held, k, u, v)
                    if behind is not None:
                        yield (k, u, v), behind

    def graph(self):
        found = {}
        waiting = [self.held]
        while waiting:
            held = waiting.pop()
            key = tuple(held.values())
            if key not in found:
                nexts = list(self.steps(held))
                found[key] = [(step, tuple(behind.values())) for step, behind in nexts]
                waiting.extend(behind for step, behind in nexts)
        return found

    def plan(self, wanted):
        graph = self.graph()
        far = {key: 0 for key in graph if wanted(key)}
        before = {}
        for key, nexts in graph.items():
            for step, behind in nexts:
                before.setdefault(behind, []).append(key)
        edge = list(far)
        while edge:
            edge = list(dict.fromkeys(p for key in edge for p in before.get(key, []) if p not in far))
            far.update((p, 1 + min(far[b] for s, b in graph[p] if b in far)) for p in edge)
        at = tuple(self.held.values())
        if at not in far:
            return [-3]
        told = [far[at]]
        while far[at] > 0:
            step, at = min((step, behind) for step, behind in graph[at] if far.get(behind) == far[at] - 1)
            told.extend(step)
        return told

    def set(self, v, roles):
        if v not in USERS or not rising(roles, ROLES):
            return [-1]
        self.held[v] = frozenset(roles)
        return [0]

    def rule(self, rule):
        if len(self.rules) == 6:
            return [-5]
        self.rules.append(rule)
        return [len(self.rules) - 1]

    def give(self, a, r, n, roles):
        rows = [roles[:n], roles[n:]]
        if not {a, r} <= set(ROLES) or len(rows[0]) < n or not all(rising(row, ROLES) for row in rows):
            return [-1]
        return self.rule((True, a, r, frozenset(rows[0]), frozenset(rows[1])))

    def take(self, a, r):
        if not {a, r} <= set(ROLES):
            return [-1]
        return self.rule((False, a, r, None, None))

    def strike(self, k):
        if k not in range(len(self.rules)):
            return [-2]
        self.rules = [rule for at, rule in enumerate(self.rules) if at != k]
        return [len(self.rules)]

    def name_actors(self, users):
        if not rising(users, USERS):
            return [-1]
        self.actors = users
        return [0]

    def do(self, k, u, v):
        if not {u, v} <= set(USERS):
            return [-1]
        if k not in range(len(self.rules)):
            return [-2]
        behind = self.behind(self.held, k, u, v)
        if behind is None:
            return [-6]
        self.held = behind
        return [len(behind[v]), *sorted(behind[v])]

    def can(self, v, roles):
        if v not in USERS or not rising(roles, ROLES):
            return [-1]
        return self.plan(lambda key: set(roles) <= key[v - 1])

    def lose(self, v, r):
        if v not in USERS or r not in ROLES:
            return [-1]
        return self.plan(lambda key: r not in key[v - 1])

    def never(self, r, q):
        if not {r, q} <= set(ROLES):
            return [-1]
        return self.plan(lambda key: any({r, q} <= had for had in key))

    def sure(self, graph, gone, wanted):
        """Whether nothing wanted can be come to without the rules that are gone."""
        start = tuple(self.held.values())
        seen = {start}
        waiting = [start]
        while waiting:
            key = waiting.pop()
            if wanted(key):
                return False
            nexts = {behind for step, behind in graph[key] if step[0] not in gone} - seen
            seen |= nexts
            waiting.extend(nexts)
        return True

    def guard(self, v, roles):
        if v not in USERS or not rising(roles, ROLES):
            return [-1]
        if set(roles) <= self.held[v]:
            return [-6]
        graph = self.graph()
        everything = range(len(self.rules))
        rows = [gone for count in range(7) for gone in combinations(everything, count)]
        found = next(gone for gone in rows if self.sure(graph, gone, lambda key: set(roles) <= key[v - 1]))
        return [len(found), *found]

    def many(self):
        return [len(self.graph())]

    def roles(self, v):
        return [len(self.held[v]), *sorted(self.held[v])] if v in USERS else [-1]

    def now(self):
        told = [len(self.rules)]
        for gives, a, r, needed, barred in self.rules:
            told += [int(gives), a, r, len(needed or ()), *sorted(needed or ()), len(barred or ()), *sorted(barred or ())]
        return told


class Chance:
    """Draws calls, mostly such as are not refused; the same ones for the same seed."""

    def __init__(self, seed):
        self.random = random.Random(seed)

    def number(self, most):
        if self.random.random() < 0.01:
            return self.random.choice([0, most + 1, 4294967295])
        return self.random.randint(1, most)

    def row(self, most, likely=0.4):
        row = [number for number in range(1, most + 1) if self.random.random() < likely]
        if self.random.random() < 0.02:
            row.insert(self.random.randint(0, len(row)), self.random.choice([0, 1, most, most + 1]))
        return row

    def draw(self, rules):
        """One call as it lies in the list, and as it is asked of the model."""
        kinds = ["set"] * 2 + ["give"] * 5 + ["take"] * 2 + ["actors"] + ["do"] * 3 + ["question"] * 9
        kind = self.random.choice(kinds + ["strike"] * (1 + 3 * (rules == 6)))
        k = self.random.randint(0, max(rules, 1))
        if kind == "question":
            return self.draw_question()
        if kind == "set":
            v, row = self.number(3), self.row(4)
            return set_(v, *row), lambda model: model.set(v, row)
        if kind == "give":
            a, r, needed, barred = self.number(4), self.number(4), self.row(4, 0.3), self.row(4, 0.2)
            n = len(needed) if self.random.random() < 0.98 else self.random.randint(0, 9)
            return give_n(a, r, n, *needed, *barred), lambda model: model.give(a, r, n, needed + barred)
        if kind == "take":
            a, r = self.number(4), self.number(4)
            return take(a, r), lambda model: model.take(a, r)
        if kind == "strike":
            return strike(k), lambda model: model.strike(k)
        if kind == "actors":
            row = self.row(3, 0.8)
            return actors(*row), lambda model: model.name_actors(row)
        u, v = self.number(3), self.number(3)
        return do(k, u, v), lambda model: model.do(k, u, v)

    def draw_question(self):
        """One call that changes nothing."""
        v, r, q, row = self.number(3), self.number(4), self.number(4), self.row(4)
        return self.random.choice(questions(v, r, q, row))


def questions(v, r, q, row):
    """All calls that change nothing, each as it lies in the list and as it is asked of the model."""
    return [
        (can(v, *row), lambda model: model.can(v, row)),
        (lose(v, r), lambda model: model.lose(v, r)),
        (never(r, q), lambda model: model.never(r, q)),
        (guard(v, *row), lambda model: model.guard(v, row)),
        (many(), lambda model: model.many()),
        (roles(v), lambda model: model.roles(v)),
        (now(), lambda model: model.now()),
    ]


def fill(model, had, rules):
    """The calls that fill a house so, asked of the model too."""
    calls = []
    for v, row in zip(USERS, had):
        calls.append(set_(v, *row))
        model.set(v, row)
    for a, r, *rows in rules:
        if rows:
            needed, barred = rows
            calls.append(give_n(a, r, len(needed), *needed, *barred))
            model.give(a, r, len(needed), needed + barred)
        else:
            calls.append(take(a, r))
            model.take(a, r)
    return calls


class ModelTest(unittest.TestCase):
    def test_calls_in_any_order(self):
        for seed in range(300):
            chance = Chance(seed)
            model = Model()
            calls = []
            expected = []
            for turn in range(40):
                call, asked = chance.draw(len(model.rules))
                calls.append(call)
                expected.append(asked(model))
            self.assertEqual(ask(*calls), expected, (seed, calls))

    def asked_everywhere(self, wanted):
        """Asks this of the winding houses, with several actors; gives back all that is answered."""
        told = []
        for had, rules in WINDING:
            for users in ([1, 2, 3], [1, 2], [1, 3], [2, 3], [3]):
                model = Model()
                calls = fill(model, had, rules) + [actors(*users)]
                model.name_actors(users)
                expected = [asked(model) for call, asked in wanted]
                self.assertEqual(ask(*calls, *[call for call, asked in wanted])[10:], expected, (had, users))
                told.extend(expected)
        return told

    def test_long_plans(self):
        rows = [(v, row) for v in USERS for count in (1, 2) for row in combinations(ROLES, count)]
        told = self.asked_everywhere([questions(v, 1, 1, row)[0] for v, row in rows])
        self.assertEqual(max(plan[0] for plan in told), 13)

    def test_long_plans_to_lose(self):
        told = self.asked_everywhere([questions(v, r, 1, ())[1] for v in USERS for r in ROLES])
        self.assertEqual(max(plan[0] for plan in told), 6)

    def test_long_plans_to_have_both(self):
        told = self.asked_everywhere([questions(1, r, q, ())[2] for r in ROLES for q in ROLES if r <= q])
        self.assertEqual(max(plan[0] for plan in told), 8)

    def test_guards_and_ways(self):
        rows = [(v, row) for v in USERS for count in (1, 2) for row in combinations(ROLES, count)][::3]
        guards = [questions(v, 1, 1, row)[3] for v, row in rows]
        told = self.asked_everywhere(guards + [questions(1, 1, 1, ())[4]])
        self.assertGreater(max(part[0] for part in told), 100)


if __name__ == "__main__":
    unittest.main()
