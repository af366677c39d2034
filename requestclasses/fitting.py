"""The five things that are so when a pattern fits a request."""


def is_who_so(pattern, request, directory):
    """Whether the pattern is about the one who asks."""
    if pattern.kind == "any":
        return True
    if pattern.kind == "user":
        return pattern.name == request.user
    return directory.is_user_in(request.user, pattern.name)


def is_what_so(pattern, request):
    """Whether the pattern has the action."""
    return len(pattern.actions) == 0 or request.action in pattern.actions


def is_where_so(pattern, request):
    """Whether the pattern has the path."""
    if pattern.below:
        return request.path[:len(pattern.path)] == pattern.path
    return request.path == pattern.path


def are_flags_so(pattern, request):
    """Whether each wish is met."""
    return all([(wish[0] in request.flags) == wish[1] for wish in pattern.wishes])


def is_when_so(pattern, request):
    """Whether the time is one of the pattern's; that to which it goes is none of them."""
    if pattern.since is not None and request.time < pattern.since:
        return False
    return pattern.until is None or request.time < pattern.until


def five_things(pattern, request, directory):
    """Whether who, what, where, flags and when are so."""
    return [
        is_who_so(pattern, request, directory),
        is_what_so(pattern, request),
        is_where_so(pattern, request),
        are_flags_so(pattern, request),
        is_when_so(pattern, request),
    ]


def does_fit(pattern, request, directory):
    """Whether the pattern fits the request."""
    return all(five_things(pattern, request, directory))
