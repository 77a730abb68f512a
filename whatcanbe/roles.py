"""The calls about one house, as they lie one behind another in one list."""

from whatcanbe.house import House, can_have, can_lose, can_never, count_many, do_step, give, guard
from whatcanbe.house import set_actors, set_roles, strike, take, tell_roles, tell_rules

SET = 0
GIVE = 1
TAKE = 2
STRIKE = 3
ACTORS = 4
DO = 5
CAN = 6
LOSE = 7
NEVER = 8
GUARD = 9
MANY = 10
ROLES_OF = 11
NOW = 12


class UnknownCall(ValueError):
    """There is no call with this number."""


class Reader:
    """Goes through a list from its front and leaves the list as it is."""

    def __init__(self, numbers):
        self.numbers = numbers
        self.at = 0

    def has_more(self):
        """Whether anything is still to be read."""
        return self.at < len(self.numbers)

    def read_number(self):
        """The number that comes next."""
        found = self.numbers[self.at]
        self.at = self.at + 1
        return found

    def read_row(self):
        """The row that comes next, a list of its own, behind its count."""
        size = self.read_number()
        row = self.numbers[self.at:self.at + size]
        self.at = self.at + size
        return row


def answer_change(house, reader, call):
    """What is answered of a call that may change the house.

    Its numbers are read one by one from left to right, as they lie.
    """
    if call == SET:
        return set_roles(house, reader.read_number(), reader.read_row())
    if call == GIVE:
        return give(house, reader.read_number(), reader.read_number(), reader.read_number(), reader.read_row())
    if call == TAKE:
        return take(house, reader.read_number(), reader.read_number())
    if call == STRIKE:
        return strike(house, reader.read_number())
    if call == ACTORS:
        return set_actors(house, reader.read_row())
    return do_step(house, reader.read_number(), reader.read_number(), reader.read_number())


def answer_question(house, reader, call):
    """What is answered of a call that changes nothing.

    Its numbers are read one by one from left to right, as they lie.
    """
    if call == CAN:
        return can_have(house, reader.read_number(), reader.read_row())
    if call == LOSE:
        return can_lose(house, reader.read_number(), reader.read_number())
    if call == NEVER:
        return can_never(house, reader.read_number(), reader.read_number())
    if call == GUARD:
        return guard(house, reader.read_number(), reader.read_row())
    if call == MANY:
        return count_many(house)
    if call == ROLES_OF:
        return tell_roles(house, reader.read_number())
    if call == NOW:
        return tell_rules(house)
    raise UnknownCall(f"there is no call {call}")


def answer_call(house, reader):
    """What is answered of the call that comes next."""
    call = reader.read_number()
    if call <= DO:
        return answer_change(house, reader, call)
    return answer_question(house, reader, call)


def answers(calls):
    """For each call in order how many numbers are answered, then these."""
    reader = Reader(calls)
    house = House()
    told = []
    while reader.has_more():
        answer = answer_call(house, reader)
        told.append(len(answer))
        told.extend(answer)
    return told
