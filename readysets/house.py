"""The calls on one house: read from a list of numbers, carried out, and answered as a list of numbers."""

from readysets.state import BY_EDGE, BY_LEVEL, ONCE, SETS, SOURCES, House, has_in_it, has_member, is_set
from readysets.state import new_member, ready_sets, remove_member, rise, shows

BEGINS = 0
OPENS = 1
SHUT = 2
ADD = 3
CHANGE = 4
DROP = 5
LEVEL = 6
POKE = 7
GONE = 8
WAIT = 9
TOLD = 11

# How many numbers stand behind each call's own.
NUMBERS_BEHIND = {0: 0, 1: 0, 2: 1, 3: 5, 4: 5, 5: 2, 6: 2, 7: 2, 8: 1, 9: 2, 10: 1, 11: 1}

NOT_IN_RANGE = -1
NOT_THERE = -2
SET_NOT_ALLOWED = -3
MEMBER_ALREADY = -4
FULL = -5

MOST_BITS = 15
MOST_MODE = 2
MOST_MEMBERS = 64
MOST_WAITED_FOR = 64


def source_fits(source):
    return 0 <= source < SOURCES


def source_or_set_fits(source):
    return 0 <= source < SOURCES + SETS


def bits_fit(bits):
    return 0 <= bits <= MOST_BITS


def member_fits(source, bits, mode):
    return source_or_set_fits(source) and bits_fit(bits) and 0 <= mode <= MOST_MODE


def begins(house):
    house.begin()
    return 0


def opens(house):
    for number in range(SETS):
        if number not in house.sets:
            house.sets[number] = []
            return number
    return FULL


def shut(house, number):
    if number not in house.sets:
        return NOT_THERE
    house.sets.pop(number)
    for other in list(house.sets):
        remove_member(house, other, SOURCES + number)
    return 0


def set_refusal(house, number, inner, mode):
    """Why the set inner can't be a member of the set number, or 0."""
    if inner not in house.sets:
        return NOT_THERE
    if mode != BY_LEVEL or inner == number or has_in_it(house, inner, number):
        return SET_NOT_ALLOWED
    return 0


def add_refusal(house, number, source, bits, mode):
    if not member_fits(source, bits, mode):
        return NOT_IN_RANGE
    if number not in house.sets:
        return NOT_THERE
    refusal = set_refusal(house, number, source - SOURCES, mode) if is_set(source) else 0
    if refusal < 0:
        return refusal
    if has_member(house, number, source):
        return MEMBER_ALREADY
    if len(house.sets[number]) >= MOST_MEMBERS:
        return FULL
    return 0


def add(house, number, source, bits, mode, data):
    refusal = add_refusal(house, number, source, bits, mode)
    if refusal < 0:
        return refusal
    house.sets[number].append(new_member(house, source, bits, mode, data))
    return len(house.sets[number])


def change_refusal(house, number, source, bits, mode):
    if not member_fits(source, bits, mode):
        return NOT_IN_RANGE
    if number not in house.sets or not has_member(house, number, source):
        return NOT_THERE
    if is_set(source) and mode != BY_LEVEL:
        return SET_NOT_ALLOWED
    return 0


def change(house, number, source, bits, mode, data):
    refusal = change_refusal(house, number, source, bits, mode)
    if refusal < 0:
        return refusal
    changed = new_member(house, source, bits, mode, data)
    house.sets[number] = [changed if member.source == source else member for member in house.sets[number]]
    return 0


def drop(house, number, source):
    if not source_or_set_fits(source):
        return NOT_IN_RANGE
    if number not in house.sets or not has_member(house, number, source):
        return NOT_THERE
    remove_member(house, number, source)
    return 0


def level(house, source, bits):
    if not source_fits(source) or not bits_fit(bits):
        return NOT_IN_RANGE
    rise(house, source, bits & ~house.levels[source])
    house.levels[source] = bits
    return 0


def poke(house, source, bits):
    if not source_fits(source) or not bits_fit(bits):
        return NOT_IN_RANGE
    rise(house, source, bits)
    house.levels[source] = house.levels[source] | bits
    return 0


def gone(house, source):
    if not source_fits(source):
        return NOT_IN_RANGE
    watching = [number for number in house.sets if has_member(house, number, source)]
    for number in watching:
        remove_member(house, number, source)
    house.levels[source] = 0
    return len(watching)


def had_its_turn(member):
    if member.mode == BY_EDGE:
        member.risen = 0
    if member.mode == ONCE:
        member.sleeps = True


def wait(house, number, most):
    """Gives back how many members are told and behind it, of each, its data and what it shows."""
    if not 1 <= most <= MOST_WAITED_FOR:
        return [NOT_IN_RANGE]
    if number not in house.sets:
        return [NOT_THERE]
    now_ready = ready_sets(house)
    taken = []
    others = []
    numbers = []
    for member in house.sets[number]:
        shown = shows(house, member, now_ready)
        if shown != 0 and len(taken) < most:
            taken.append(member)
            numbers.extend([member.data, shown])
        else:
            others.append(member)
    for member in taken:
        had_its_turn(member)
    house.sets[number] = others + taken
    return [len(taken)] + numbers


def ready(house, number):
    if number not in house.sets:
        return NOT_THERE
    return 1 if number in ready_sets(house) else 0


def told(house, number):
    """Gives back how many members there are and behind it six numbers of each, in turn."""
    if number not in house.sets:
        return [NOT_THERE]
    numbers = []
    for member in house.sets[number]:
        sleeps = 1 if member.sleeps else 0
        numbers.extend([member.source, member.bits, member.mode, member.data, member.risen, sleeps])
    return [len(house.sets[number])] + numbers


def carry_out_untold(house, call):
    """Carries out one call of those that tell nothing, and gives back the number that's answered."""
    kind = call[0]
    if kind == BEGINS:
        return begins(house)
    if kind == OPENS:
        return opens(house)
    if kind == SHUT:
        return shut(house, call[1])
    if kind == ADD:
        return add(house, call[1], call[2], call[3], call[4], call[5])
    if kind == CHANGE:
        return change(house, call[1], call[2], call[3], call[4], call[5])
    if kind == DROP:
        return drop(house, call[1], call[2])
    if kind == LEVEL:
        return level(house, call[1], call[2])
    if kind == POKE:
        return poke(house, call[1], call[2])
    if kind == GONE:
        return gone(house, call[1])
    return ready(house, call[1])


def carry_out(house, call):
    """Carries out one call, its own number first, and gives back the number that's answered, then what's told."""
    if call[0] == WAIT:
        return wait(house, call[1], call[2])
    if call[0] == TOLD:
        return told(house, call[1])
    return [carry_out_untold(house, call)]


def answer(house, call):
    """Carries out one call and gives back all that's answered to it."""
    ready_before = ready_sets(house)
    answered = carry_out(house, call)
    if answered[0] < 0:
        return answered
    numbers = answered[1:]
    woken = [number for number in sorted(ready_sets(house)) if number not in ready_before]
    return [answered[0], len(numbers)] + numbers + [len(woken)] + woken


def answers(calls):
    """Answers the calls, one behind another on a new house: of each how many numbers, and these."""
    house = House()
    given = []
    place = 0
    while place < len(calls):
        behind = place + 1 + NUMBERS_BEHIND[calls[place]]
        answered = answer(house, calls[place:behind])
        given.append(len(answered))
        given.extend(answered)
        place = behind
    return given
