"""Erlang's formulas.

The shares are tuples of a numerator and a denominator that need not be in lowest terms.
"""

LOST = 0
DELAYED = 1


def lost_shares(most, load):
    """Answer the lost shares of 0 to most servers."""
    num = 1
    den = 1
    shares = [(num, den)]
    for servers in range(1, most + 1):
        num *= load[0]
        den = servers * load[1] * den + num
        shares.append((num, den))
    return shares


def is_delayed_share(servers, load):
    """Say whether the delayed share is defined: the load is less than the number of servers."""
    return load[0] < servers * load[1]


def delayed_share(servers, load, lost):
    """Answer the delayed share, from the lost share of as many servers; it is defined."""
    all_time = servers * load[1] * lost[1]
    return (servers * load[1] * lost[0], all_time - load[0] * (lost[1] - lost[0]))


def fewest(kind, load, target, most):
    """Answer the smallest number of servers whose share of this kind is at most the target, None behind most."""
    lost = lost_shares(most, load)
    for servers in range(most + 1):
        if kind == LOST or is_delayed_share(servers, load):
            share = lost[servers]
            if kind == DELAYED:
                share = delayed_share(servers, load, share)
            if share[0] * target[1] <= target[0] * share[1]:
                return servers
    return None
