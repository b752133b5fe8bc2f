"""What a house keeps (levels, sets, members in turn), and what follows from it (shows, ready, has in it)."""

SOURCES = 256
SETS = 16

READ = 1
ALWAYS_WANTED = 12

BY_LEVEL = 0
BY_EDGE = 1
ONCE = 2


class Member:
    """A source or a set that a set watches, as it is when it's new."""

    def __init__(self, source, bits, mode, data, risen):
        self.source = source
        self.bits = bits
        self.mode = mode
        self.data = data
        self.risen = risen
        self.sleeps = False


class House:
    """The level of each source, and of each set that's there its members in turn."""

    def __init__(self):
        self.begin()

    def begin(self):
        self.levels = [0] * SOURCES
        self.sets = {}


def is_set(source):
    return source >= SOURCES


def new_member(house, source, bits, mode, data):
    risen = 0 if is_set(source) else house.levels[source]
    return Member(source, bits, mode, data, risen)


def has_member(house, number, source):
    return any([member.source == source for member in house.sets[number]])


def remove_member(house, number, source):
    house.sets[number] = [member for member in house.sets[number] if member.source != source]


def rise(house, source, bits):
    """Of all members that are this source these bits have risen, too."""
    for number in house.sets:
        for member in house.sets[number]:
            if member.source == source:
                member.risen = member.risen | bits


def sets_within(house, number):
    """The numbers of the sets that are members of this one."""
    return [member.source - SOURCES for member in house.sets[number] if is_set(member.source)]


def has_in_it(house, outer, inner):
    """Whether the set outer has the set inner in it, at whatever depth."""
    # Each set is looked into once: the ways to it may be far more than the sets are.
    seen = {}
    to_look_into = [outer]
    while to_look_into:
        looked_into = to_look_into.pop()
        for number in sets_within(house, looked_into):
            if number not in seen:
                seen[number] = True
                to_look_into.append(number)
    return inner in seen


def shows(house, member, ready):
    """The bits that a member shows; ready has the numbers of the sets that are ready as keys."""
    watched = member.bits | ALWAYS_WANTED
    if is_set(member.source):
        return (READ & watched) if member.source - SOURCES in ready else 0
    if member.sleeps:
        return 0
    if member.mode == BY_EDGE:
        return member.risen & watched
    return house.levels[member.source] & watched


def shows_something(house, number, ready):
    return any([shows(house, member, ready) != 0 for member in house.sets[number]])


def ready_sets(house):
    """The numbers of the sets that are ready, as keys of a dict."""
    # A ready set can make those ready that it stands in, never the other way: so the sets
    # that are ready are gathered until a whole round finds no more of them.
    ready = {}
    growing = True
    while growing:
        found = [number for number in house.sets if number not in ready and shows_something(house, number, ready)]
        for number in found:
            ready[number] = True
        growing = len(found) > 0
    return ready
