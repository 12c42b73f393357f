"""Seals on values, and the cards by which they are checked.

A chain is named by a tuple of a number, a digit and a way.
"""

from rightrows.texts import digest

WHOLE_CHAIN = 15


def chains_of(number):
    """Return the list of the chains for a number, in the order of the card (point 28)."""
    return [(number, digit, way) for digit in range(2) for way in range(2)]


def secret_value(rule, secret, chain):
    """Return the secret value of a chain (point 28)."""
    return digest(rule, ("secret", secret) + chain)


def stepped(rule, chain, value, first, last):
    """Return the value of a chain after the last step, from its value after the first one (point 28)."""
    for step in range(first, last):
        value = digest(rule, ("chain",) + chain + (step, value))
    return value


def card_of(rule, secret, number):
    """Return the card for a number, a tuple of four integers (point 28)."""
    return tuple([stepped(rule, chain, secret_value(rule, secret, chain), 0, WHOLE_CHAIN)
                  for chain in chains_of(number)])


def steps_to_seal(rule, number, value):
    """Return the list of the steps after which the values of the seal stand in their chains (point 29)."""
    mark = digest(rule, ("sealed", number, value)) % 256
    low, high = mark % 16, mark // 16
    return [low, WHOLE_CHAIN - low, high, WHOLE_CHAIN - high]


def seal(rule, secret, number, value):
    """Return the seal on a value for a number, a tuple of four integers (point 29)."""
    return tuple([stepped(rule, chain, secret_value(rule, secret, chain), 0, steps)
                  for chain, steps in zip(chains_of(number), steps_to_seal(rule, number, value))])


def is_sealed(rule, card, number, value, given):
    """Return True if a seal on a value for a number fits the card (point 29), otherwise False."""
    chains = chains_of(number)
    if len(given) != len(chains):
        return False
    return all([stepped(rule, chain, part, steps, WHOLE_CHAIN) == goal for chain, part, steps, goal
                in zip(chains, given, steps_to_seal(rule, number, value), card)])


def sealed_version(rule, secret, version):
    """Return a version with its seal, which is for its number."""
    return (version, seal(rule, secret, version[0], version))


def is_sealed_version(rule, cards, sealed):
    """Return True if there is a card for the number of a sealed version and the seal fits it."""
    version, given = sealed
    number = version[0]
    return 0 <= number < len(cards) and is_sealed(rule, cards[number], number, version, given)
