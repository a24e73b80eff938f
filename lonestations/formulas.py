"""The operations that tell Erlang's formulas; they need neither a station nor a class.

Each is given a list of its arguments, and answers a list of numbers.
"""

from lonestations.codes import NOT_STABLE, OUT_OF_RANGE
from lonestations.erlang import delayed_share, fewest, is_delayed_share, lost_shares
from lonestations.exact import lowest, told
from lonestations.ranges import is_kind, is_load_or_target, is_servers_of_erlang

MOST_SERVERS = 60


def are_in_range(given):
    """Say whether the arguments of one of the two formulas lie in their ranges."""
    return is_servers_of_erlang(given[0]) and is_load_or_target(given[1], given[2])


def erlang_b(given):
    """Tell the lost share."""
    if not are_in_range(given):
        return [-OUT_OF_RANGE]
    servers = given[0]
    lost = lost_shares(servers, lowest(given[1], given[2]))[servers]
    return told(0, [lowest(lost[0], lost[1])])


def erlang_c(given):
    """Tell the delayed share."""
    if not are_in_range(given):
        return [-OUT_OF_RANGE]
    servers = given[0]
    load = lowest(given[1], given[2])
    if not is_delayed_share(servers, load):
        return [-NOT_STABLE]
    delayed = delayed_share(servers, load, lost_shares(servers, load)[servers])
    return told(0, [lowest(delayed[0], delayed[1])])


def fewest_servers(given):
    """Tell the smallest number of servers that reaches a target."""
    kind = given[0]
    if not (is_kind(kind) and is_load_or_target(given[1], given[2]) and is_load_or_target(given[3], given[4])):
        return [-OUT_OF_RANGE]
    servers = fewest(kind, lowest(given[1], given[2]), (given[3], given[4]), MOST_SERVERS)
    if servers is None:
        return [-NOT_STABLE]
    return [servers]


FORMULAS = {13: erlang_b, 14: erlang_c, 15: fewest_servers}


def formula(number, given):
    """Answer the operation with this number."""
    operation = FORMULAS[number]
    return operation(given)
