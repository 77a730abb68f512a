"""Rules, and the steps that are done by them."""

from whatcanbe.holding import USERS, role_bit, role_bits


class Rule:
    """Whoever has the role admin may give the role, or take it."""

    def __init__(self, gives, admin, role, needed, barred):
        self.gives = gives
        self.admin = admin
        self.role = role
        self.needed = needed
        self.barred = barred


class Step:
    """A step as it is told, with the bits it asks for and the one it changes."""

    def __init__(self, told, present, absent, change):
        self.told = told
        self.present = present
        self.absent = absent
        self.change = change

    def may_be_done(self, held):
        """Whether the step may be done when this is held."""
        return (held & self.present) == self.present and (held & self.absent) == 0

    def held_behind(self, held):
        """What is held behind the step, which may be done when this is held."""
        return held ^ self.change


def make_step(rules, k, who, whom):
    """The step by rule k that one user does to another, or to the same."""
    rule = rules[k]
    change = role_bit(whom, rule.role)
    present = role_bit(who, rule.admin) | role_bits(whom, rule.needed)
    absent = role_bits(whom, rule.barred)
    if rule.gives:
        absent = absent | change
    else:
        present = present | change
    return Step((k, who, whom), present, absent, change)


def steps_of(rules, actors):
    """All steps that the actors may ever do, in the order in which plans are compared."""
    steps = []
    for k in range(len(rules)):
        for who in actors:
            for whom in USERS:
                steps.append(make_step(rules, k, who, whom))
    return steps
