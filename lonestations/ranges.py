"""The ranges of the arguments, one function for each row of the document's table."""


def is_rate(value):
    """Say whether this is a rate of arrivals or of services."""
    return 1 <= value <= 100000


def is_sources(value):
    """Say whether this is a number of sources, 0 for no limit."""
    return 0 <= value <= 40


def is_servers(value):
    """Say whether this is a station's number of servers."""
    return 1 <= value <= 20


def is_servers_of_erlang(value):
    """Say whether this is a number of servers for Erlang's formulas."""
    return 0 <= value <= 200


def is_capacity(value, servers):
    """Say whether this is the capacity of a station with so many servers, 0 for no limit."""
    return value == 0 or servers <= value <= 40


def is_patience(value):
    """Say whether this is a rate of giving up."""
    return 0 <= value <= 100000


def is_balking(value):
    """Say whether this is a share in thousandths."""
    return 0 <= value <= 1000


def are_moments(first_num, first_den, second_num, second_den):
    """Say whether these are the mean and the second moment of a time."""
    if not (1 <= first_num <= 1000000 and 1 <= first_den <= 1000000):
        return False
    if not (0 <= second_num <= 1000000 and 1 <= second_den <= 1000000):
        return False
    return second_num * first_den * first_den >= first_num * first_num * second_den


def is_cost(value):
    """Say whether this is a cost of waiting."""
    return 0 <= value <= 100000


def is_customers(value):
    """Say whether this is a number of customers that may be asked for."""
    return 0 <= value <= 1000


def is_load_or_target(num, den):
    """Say whether these are the numerator and the denominator of a load or of a share to be reached."""
    return 0 <= num <= 1000000 and 1 <= den <= 1000000


def is_kind(value):
    """Say whether this names one of the two shares."""
    return 0 <= value <= 1


def is_order(values, count):
    """Say whether these are the numbers of so many classes, each once."""
    return sorted(values) == list(range(count))
