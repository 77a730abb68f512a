"""What all users have, kept as one whole number: one bit for each user and role.

One number for the whole house can be a key of a dict, so that a search knows
at once where it has been.
"""

USERS = (1, 2, 3)
ROLES = (1, 2, 3, 4)


def role_bit(user, role):
    """The bit that stands for this user having this role."""
    return 1 << ((user - 1) * len(ROLES) + role - 1)


def role_bits(user, roles):
    """The bits that stand for this user having all these roles."""
    bits = 0
    for role in roles:
        bits = bits | role_bit(user, role)
    return bits


def roles_held(held, user):
    """The roles that the user has, rising."""
    return [role for role in ROLES if (held & role_bit(user, role)) != 0]


def users_holding(held, role, users):
    """Those of the users who have the role, in their order."""
    return [user for user in users if (held & role_bit(user, role)) != 0]
