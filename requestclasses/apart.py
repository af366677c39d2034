"""What a directory and patterns tell apart."""

from requestclasses.names import in_order


def users_told_apart(directory, patterns):
    """The users of the directory and those that patterns are about, in order."""
    return in_order(directory.users + [pattern.name for pattern in patterns if pattern.kind == "user"])


def actions_told_apart(patterns):
    """The actions of the patterns, in order."""
    actions = []
    for pattern in patterns:
        actions.extend(pattern.actions)
    return in_order(actions)


def add_beginnings(nodes, path):
    """Put all beginnings of the path to the nodes."""
    for length in range(len(path)):
        longer = tuple(path[:length + 1])
        if longer not in nodes:
            nodes[longer] = []
            nodes[tuple(path[:length])].append(path[length])


def nodes_told_apart(patterns):
    """The nodes: each path as a tuple, with the names by which it leads on to another node."""
    nodes = {(): []}
    for pattern in patterns:
        add_beginnings(nodes, pattern.path)
    return nodes


def flags_told_apart(patterns):
    """The flags that the patterns wish on or off, in order."""
    flags = []
    for pattern in patterns:
        flags.extend([wish[0] for wish in pattern.wishes])
    return in_order(flags)


def times_told_apart(patterns):
    """0, and the times from which on or to which the patterns go, rising."""
    times = [0] + [pattern.since for pattern in patterns] + [pattern.until for pattern in patterns]
    return sorted(set([time for time in times if time is not None]))


class ToldApart:
    """What is told apart, of each of the five things that a request has."""

    def __init__(self, directory, patterns):
        self.users = users_told_apart(directory, patterns)
        self.actions = actions_told_apart(patterns)
        self.nodes = nodes_told_apart(patterns)
        self.flags = flags_told_apart(patterns)
        self.times = times_told_apart(patterns)
