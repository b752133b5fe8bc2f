"""Calls as the interface writes them, and answers taken apart again."""

from readysets.house import answers

LEAST = -2147483648
GREATEST = 2147483647
MOST_DATA = 18446744073709551615

BEGINS = [0]
OPENS = [1]


def shut(number):
    return [2, number]


def add(number, source, bits=0, mode=0, data=0):
    return [3, number, source, bits, mode, data]


def change(number, source, bits=0, mode=0, data=0):
    return [4, number, source, bits, mode, data]


def drop(number, source):
    return [5, number, source]


def level(source, bits):
    return [6, source, bits]


def poke(source, bits):
    return [7, source, bits]


def gone(source):
    return [8, source]


def wait(number, most=64):
    return [9, number, most]


def ready(number):
    return [10, number]


def told(number):
    return [11, number]


def of_set(number):
    return 256 + number


def ask(*calls):
    """What answers gives to these calls, a list for each."""
    given = answers([number for call in calls for number in call])
    apart = []
    place = 0
    while place < len(given):
        count = given[place]
        apart.append(given[place + 1:place + 1 + count])
        place += 1 + count
    return apart


def last(*calls):
    """The answer to the last of these calls; those before it must not be refused."""
    apart = ask(*calls)
    for call, answered in zip(calls[:-1], apart[:-1]):
        if answered[0] < 0:
            raise AssertionError(f"{call} was refused: {answered}")
    return apart[-1]


def plain(number):
    """An answer that tells nothing and wakes no set."""
    return [number, 0, 0]


def waking(number, *sets):
    """An answer that tells nothing and wakes these sets."""
    return [number, 0, len(sets), *sets]


def telling(number, *numbers):
    """An answer that tells these numbers and wakes no set."""
    return [number, len(numbers), *numbers, 0]


def shown(*pairs):
    """The answer to a wait that tells these members, each its data and what it shows."""
    return telling(len(pairs), *[number for pair in pairs for number in pair])


def row(*members):
    """The answer to told of these members, each its six numbers."""
    return telling(len(members), *[number for member in members for number in member])
