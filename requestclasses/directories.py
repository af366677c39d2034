"""Directories of users and groups, and the faults of their texts."""

from requestclasses.names import all_differ, are_names, is_name
from requestclasses.texts import NO_SIGN

MOST_USERS = 12
MOST_GROUPS = 8
MOST_MEMBERS = 12


class DirectoryFault(Exception):
    """A text is no directory's: the line that counts, and the reason."""

    def __init__(self, line, reason):
        self.line = line
        self.reason = reason


class Entry:
    """What one line tells: a user, or a group with its members."""

    def __init__(self, is_user, name, members):
        self.is_user = is_user
        self.name = name
        self.members = members


class Directory:
    """Users, and for each group's name its members, in the order of the text."""

    def __init__(self, text):
        self.text = text
        self.users = []
        self.groups = {}

    def has_name(self, name):
        """Whether the name is a user's or a group's."""
        return name in self.users or name in self.groups

    def add_entry(self, entry):
        """Put what a line tells behind the rest."""
        if entry.is_user:
            self.users.append(entry.name)
        else:
            self.groups[entry.name] = entry.members

    def within(self, group):
        """All users and groups that are in the group, as a dict of True."""
        found = {}
        waiting = list(self.groups[group])
        while len(waiting) > 0:
            name = waiting.pop()
            # A text that is still being read may go round in a circle.
            if name not in found:
                found[name] = True
                waiting.extend(self.groups.get(name, []))
        return found

    def users_in(self, group):
        """The users who are in the group, in the directory's order."""
        found = self.within(group)
        return [user for user in self.users if user in found]

    def groups_with(self, user):
        """The groups in which the user is, in the directory's order."""
        return [group for group in self.groups if user in self.within(group)]

    def is_user_in(self, user, group):
        """Whether it is a user, and there is such a group, and they are in it."""
        return user in self.users and group in self.groups and user in self.within(group)


def group_entry(line):
    """The entry of a line that begins as a group's, or None."""
    parts = line.partition(":")
    name = parts[0][len("group "):]
    # With a blank before each member, nothing stands before the first blank.
    members = parts[2].split(" ")
    if parts[1] != ":" or members[0] != "" or not is_name(name):
        return None
    members = members[1:]
    if not are_names(members) or not all_differ(members):
        return None
    return Entry(False, name, members)


def entry_from_line(line):
    """The entry of a line, or None if it is neither a user's nor a group's."""
    if line.startswith("group "):
        return group_entry(line)
    name = line[len("user "):]
    if line.startswith("user ") and is_name(name):
        return Entry(True, name, [])
    return None


def is_too_many(directory, entry):
    """Whether the entry goes over what a directory may have."""
    if entry.is_user:
        return len(directory.users) >= MOST_USERS
    return len(directory.groups) >= MOST_GROUPS or len(entry.members) > MOST_MEMBERS


def line_reason(directory, line, entry):
    """The reason of an ended line's fault, given what stands before it; 0 if it has none."""
    if NO_SIGN in line:
        return 1
    if entry is None:
        return 2
    if entry.is_user and len(directory.groups) > 0:
        return 3
    if directory.has_name(entry.name):
        return 4
    if is_too_many(directory, entry):
        return 5
    return 0


def check_members(directory):
    """Reason 6: a member that is no user and no group."""
    # All users' lines stand before the groups' ones, and there are no others.
    for line, group in enumerate(directory.groups, start=len(directory.users) + 1):
        if not all([directory.has_name(member) for member in directory.groups[group]]):
            raise DirectoryFault(line, 6)


def check_circles(directory):
    """Reason 7: a group that is a member of itself, through whatever many others."""
    for line, group in enumerate(directory.groups, start=len(directory.users) + 1):
        if group in directory.within(group):
            raise DirectoryFault(line, 7)


def directory_from_text(text):
    """The directory of a text; raises a DirectoryFault if it has a fault."""
    lines = text.split("\n")
    not_ended = lines.pop()
    directory = Directory(text)
    for number, line in enumerate(lines, start=1):
        entry = entry_from_line(line)
        reason = line_reason(directory, line, entry)
        if reason > 0:
            raise DirectoryFault(number, reason)
        directory.add_entry(entry)
    if not_ended != "":
        raise DirectoryFault(len(lines) + 1, 1)
    check_members(directory)
    check_circles(directory)
    if len(directory.users) == 0:
        raise DirectoryFault(len(lines) + 1, 8)
    return directory
