"""Rules, and the steps that are done by them."""

from whatcanbe.holding import USERS, role_bit, role_bits, users_holding


class Rule:
    """Whoever has the role admin may give the role, or take it."""

    def __init__(self, gives, admin, role, needed, barred):
        self.gives = gives
        self.admin = admin
        self.role = role
        self.needed = needed
        self.barred = barred


class Move:
    """What rule k does to one user, whichever of the doers does it.

    Who does it makes no difference to what is held behind it, so a search goes
    by moves, of which there are fewer than steps.
    """

    def __init__(self, k, rule, doers, whom):
        self.k = k
        self.admin = rule.admin
        self.doers = doers
        self.whom = whom
        self.entitled = sum([role_bit(who, rule.admin) for who in doers])
        self.change = role_bit(whom, rule.role)
        self.present = role_bits(whom, rule.needed)
        self.absent = role_bits(whom, rule.barred)
        if rule.gives:
            self.absent = self.absent | self.change
        else:
            self.present = self.present | self.change

    def may_be_done(self, held):
        """Whether one of the doers may do it when this is held."""
        if (held & self.entitled) == 0 or (held & self.absent) != 0:
            return False
        return (held & self.present) == self.present

    def held_behind(self, held):
        """What is held behind it, if it may be done when this is held."""
        return held ^ self.change

    def tell_step(self, held):
        """The rule, who and whom of its first step, if it may be done when this is held."""
        return (self.k, users_holding(held, self.admin, self.doers)[0], self.whom)


def moves_of(rules, doers):
    """All that the doers may ever do, in the order in which plans are compared.

    For one rule the first doer who has its role is the same for whomever it is
    done to, so the order by rule and whom is the one by rule, who and whom.
    """
    moves = []
    for k, rule in enumerate(rules):
        for whom in USERS:
            moves.append(Move(k, rule, doers, whom))
    return moves
