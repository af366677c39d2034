"""The representatives of requests: that of one, how many there are, and each by its number."""

from requestclasses.names import in_order, least_name_beside, row_order
from requestclasses.refusals import NoSuchRepresentative, TooManyRepresentatives
from requestclasses.request import Request

MOST_NUMBERED = 20000


def name_or_least(name, told):
    """The name, if it is told apart, else the least that is not."""
    return name if name in told else least_name_beside(told)


def path_beside(node, nodes):
    """The node with one name more, the least with which it is no node."""
    return list(node) + [least_name_beside(nodes[node])]


def path_or_beside(path, nodes):
    """The path, if it is a node, else the one beside the longest node that it begins with."""
    if tuple(path) in nodes:
        return path
    length = len(path)
    # This ends: the path without names is always a node.
    while tuple(path[:length]) not in nodes:
        length -= 1
    return path_beside(tuple(path[:length]), nodes)


def representative_of(request, apart):
    """The representative of a request."""
    return Request(
        name_or_least(request.user, apart.users),
        name_or_least(request.action, apart.actions),
        path_or_beside(request.path, apart.nodes),
        [flag for flag in request.flags if flag in apart.flags],
        max([time for time in apart.times if time <= request.time]),
    )


def product(counts):
    """All the counts multiplied."""
    result = 1
    for count in counts:
        result *= count
    return result


def counts_of_parts(apart):
    """How many paths, users, actions, rows of flags and times representatives have."""
    return [
        # Each node stands for itself, and once with a name more.
        2 * len(apart.nodes),
        len(apart.users) + 1,
        len(apart.actions) + 1,
        # Each flag is on or off.
        product([2 for flag in apart.flags]),
        len(apart.times),
    ]


def name_with_number(number, told):
    """The name with the number, in order, of those told apart and the least that is not."""
    return in_order(told + [least_name_beside(told)])[number]


def path_with_number(number, nodes):
    """The path with the number, in order, of the nodes and those beside them."""
    paths = [list(node) for node in nodes] + [path_beside(node, nodes) for node in nodes]
    return sorted(paths, key=row_order)[number]


def rows_with(size, flags):
    """How many rows of so many flags can be taken out of the flags."""
    if size < 0:
        return 0
    rows = 1
    for k in range(size):
        rows = rows * (len(flags) - k) // (k + 1)
    return rows


def row_with_number(number, flags):
    """The row of flags with the number, in order, of all that can be taken out of the flags."""
    left = 0
    while number >= rows_with(left, flags):
        number -= rows_with(left, flags)
        left += 1
    row = []
    for place, flag in enumerate(flags):
        # Of rows that are the same so far, those that go on with this flag come first.
        with_flag = rows_with(left - 1, flags[place + 1:])
        if number < with_flag:
            row.append(flag)
            left -= 1
        else:
            number -= with_flag
    return row


def places_of_parts(number, counts):
    """The number taken apart: a place for each count, of which the last one changes fastest."""
    places = []
    for count in reversed(counts):
        places.append(number % count)
        number //= count
    return list(reversed(places))


def representative_at(number, apart):
    """The representative with the number, from 0, in the order of requests."""
    counts = counts_of_parts(apart)
    if product(counts) > MOST_NUMBERED:
        raise TooManyRepresentatives()
    if not 0 <= number < product(counts):
        raise NoSuchRepresentative()
    places = places_of_parts(number, counts)
    return Request(
        name_with_number(places[1], apart.users),
        name_with_number(places[2], apart.actions),
        path_with_number(places[0], apart.nodes),
        row_with_number(places[3], apart.flags),
        apart.times[places[4]],
    )
