"""The calls on one house: read from a list of numbers, carried out, and answered as a list of numbers."""

from readysets.state import BY_LEVEL, SETS, SOURCES, House, has_in_it, has_member, is_set
from readysets.state import new_member, ready_sets, remove_member

BEGINS = 0
OPENS = 1
SHUT = 2
ADD = 3
CHANGE = 4

# How many numbers stand behind each call's own.
NUMBERS_BEHIND = {0: 0, 1: 0, 2: 1, 3: 5, 4: 5, 5: 2}

NOT_IN_RANGE = -1
NOT_THERE = -2
SET_NOT_ALLOWED = -3
MEMBER_ALREADY = -4
FULL = -5

NOTHING_TOLD = 0

MOST_BITS = 15
MOST_MODE = 2
MOST_MEMBERS = 64


def source_fits(source):
    return 0 <= source < SOURCES + SETS


def member_fits(source, bits, mode):
    return source_fits(source) and 0 <= bits <= MOST_BITS and 0 <= mode <= MOST_MODE


def begins(house):
    house.begin()
    return 0


def opens(house):
    for number in range(SETS):
        if number not in house.sets:
            house.sets[number] = []
            return number
    return FULL


def shut(house, number):
    if number not in house.sets:
        return NOT_THERE
    house.sets.pop(number)
    for other in list(house.sets):
        remove_member(house, other, SOURCES + number)
    return 0


def set_refusal(house, number, inner, mode):
    """Why the set inner can't be a member of the set number, or 0."""
    if inner not in house.sets:
        return NOT_THERE
    if mode != BY_LEVEL or inner == number or has_in_it(house, inner, number):
        return SET_NOT_ALLOWED
    return 0


def add_refusal(house, number, source, bits, mode):
    if not member_fits(source, bits, mode):
        return NOT_IN_RANGE
    if number not in house.sets:
        return NOT_THERE
    refusal = set_refusal(house, number, source - SOURCES, mode) if is_set(source) else 0
    if refusal < 0:
        return refusal
    if has_member(house, number, source):
        return MEMBER_ALREADY
    if len(house.sets[number]) >= MOST_MEMBERS:
        return FULL
    return 0


def add(house, number, source, bits, mode, data):
    refusal = add_refusal(house, number, source, bits, mode)
    if refusal < 0:
        return refusal
    house.sets[number].append(new_member(house, source, bits, mode, data))
    return len(house.sets[number])


def change_refusal(house, number, source, bits, mode):
    if not member_fits(source, bits, mode):
        return NOT_IN_RANGE
    if number not in house.sets or not has_member(house, number, source):
        return NOT_THERE
    if is_set(source) and mode != BY_LEVEL:
        return SET_NOT_ALLOWED
    return 0


def change(house, number, source, bits, mode, data):
    refusal = change_refusal(house, number, source, bits, mode)
    if refusal < 0:
        return refusal
    changed = new_member(house, source, bits, mode, data)
    house.sets[number] = [changed if member.source == source else member for member in house.sets[number]]
    return 0


def drop(house, number, source):
    if not source_fits(source):
        return NOT_IN_RANGE
    if number not in house.sets or not has_member(house, number, source):
        return NOT_THERE
    remove_member(house, number, source)
    return 0


def carry_out(house, call):
    """Carries out one call, its own number first, and gives back the number that's answered."""
    kind = call[0]
    if kind == BEGINS:
        return begins(house)
    if kind == OPENS:
        return opens(house)
    if kind == SHUT:
        return shut(house, call[1])
    if kind == ADD:
        return add(house, call[1], call[2], call[3], call[4], call[5])
    if kind == CHANGE:
        return change(house, call[1], call[2], call[3], call[4], call[5])
    return drop(house, call[1], call[2])


def answer(house, call):
    """Carries out one call and gives back all that's answered to it."""
    ready_before = ready_sets(house)
    number = carry_out(house, call)
    if number < 0:
        return [number]
    woken = [ready for ready in sorted(ready_sets(house)) if ready not in ready_before]
    return [number, NOTHING_TOLD, len(woken)] + woken


def answers(calls):
    """Answers the calls, one behind another on a new house: of each how many numbers, and these."""
    house = House()
    given = []
    place = 0
    while place < len(calls):
        behind = place + 1 + NUMBERS_BEHIND[calls[place]]
        answered = answer(house, calls[place:behind])
        given.append(len(answered))
        given.extend(answered)
        place = behind
    return given
