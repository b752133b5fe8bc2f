"""What the document promises over the whole program, and long lists of calls beside a second reading of its words."""

import contextlib
import io
import random
import unittest

from readysets.house import answers
from tests.calls import (BEGINS, GREATEST, LEAST, MOST_DATA, OPENS, add, ask, change, drop, gone, level, of_set, plain,
                         poke, ready, row, shown, shut, told, wait, waking)

SOME_OF_ALL = [OPENS, OPENS, add(0, of_set(1), 1, 0, 1), add(1, 7, 1, 1, MOST_DATA), add(1, 8, 2, 2, 3), level(7, 3),
               poke(8, 6), wait(0, 1), wait(1, 1), told(1), ready(0), change(1, 7, 3, 1, 4), drop(1, 8), wait(1, 65),
               level(256, 1), gone(7), shut(1), told(0), told(1)]


def joined(calls):
    return [number for call in calls for number in call]


class Refused(Exception):
    pass


class Reading:
    """The words once more, one call after another, readiness by going down into the sets."""

    def __init__(self):
        self.begins()

    def begins(self):
        self.on = {}
        self.sets = {}
        return 0, []

    def shown(self, member):
        watched = {1, 2, 4, 8} & {bit for bit in (1, 2, 4, 8) if member["bits"] & bit} | {4, 8}
        if member["source"] >= 256:
            on = {1} if self.is_ready(member["source"] - 256) else set()
        elif member["sleeps"]:
            on = set()
        elif member["mode"] == 1:
            on = member["risen"]
        else:
            on = self.on.get(member["source"], set())
        return sum(on & watched)

    def is_ready(self, number):
        return any(self.shown(member) for member in self.sets[number])

    def all_ready(self):
        return {number for number in self.sets if self.is_ready(number)}

    def inside(self, number):
        within = {member["source"] - 256 for member in self.sets[number] if member["source"] >= 256}
        return within.union(*[self.inside(inner) for inner in within])

    def find(self, number, source):
        if number not in self.sets:
            raise Refused(-2)
        found = [member for member in self.sets[number] if member["source"] == source]
        return found[0] if found else None

    def require(self, *ranges):
        if any(not least <= number <= most for number, least, most in ranges):
            raise Refused(-1)

    def opens(self):
        free = [number for number in range(16) if number not in self.sets]
        if not free:
            raise Refused(-5)
        self.sets[free[0]] = []
        return free[0], []

    def shut(self, number):
        if number not in self.sets:
            raise Refused(-2)
        self.sets = {other: [member for member in row if member["source"] != 256 + number]
                     for other, row in self.sets.items() if other != number}
        return 0, []

    def fresh(self, source, bits, mode, data):
        return {"source": source, "bits": bits, "mode": mode, "data": data,
                "risen": set(self.on.get(source, set())), "sleeps": False}

    def add(self, number, source, bits, mode, data):
        self.require((source, 0, 271), (bits, 0, 15), (mode, 0, 2))
        found = self.find(number, source)
        if source >= 256:
            if source - 256 not in self.sets:
                raise Refused(-2)
            if mode != 0 or number in self.inside(source - 256) | {source - 256}:
                raise Refused(-3)
        if found:
            raise Refused(-4)
        if len(self.sets[number]) == 64:
            raise Refused(-5)
        self.sets[number].append(self.fresh(source, bits, mode, data))
        return len(self.sets[number]), []

    def change(self, number, source, bits, mode, data):
        self.require((source, 0, 271), (bits, 0, 15), (mode, 0, 2))
        found = self.find(number, source)
        if not found:
            raise Refused(-2)
        if source >= 256 and mode != 0:
            raise Refused(-3)
        found.update(self.fresh(source, bits, mode, data))
        return 0, []

    def drop(self, number, source):
        self.require((source, 0, 271))
        found = self.find(number, source)
        if not found:
            raise Refused(-2)
        self.sets[number].remove(found)
        return 0, []

    def raised(self, source, bits, anew):
        for members in self.sets.values():
            for member in members:
                if member["source"] == source:
                    member["risen"] = member["risen"] | anew
        self.on[source] = bits

    def level(self, source, bits):
        self.require((source, 0, 255), (bits, 0, 15))
        now = {bit for bit in (1, 2, 4, 8) if bits & bit}
        self.raised(source, now, now - self.on.get(source, set()))
        return 0, []

    def poke(self, source, bits):
        self.require((source, 0, 255), (bits, 0, 15))
        poked = {bit for bit in (1, 2, 4, 8) if bits & bit}
        self.raised(source, poked | self.on.get(source, set()), poked)
        return 0, []

    def gone(self, source):
        self.require((source, 0, 255))
        found = [number for number in self.sets if self.find(number, source)]
        for number in found:
            self.drop(number, source)
        self.on.pop(source, None)
        return len(found), []

    def wait(self, number, most):
        self.require((most, 1, 64))
        self.find(number, 0)
        told = [(member, self.shown(member)) for member in self.sets[number] if self.shown(member)][:most]
        for member, bits in told:
            self.sets[number].remove(member)
            self.sets[number].append(member)
            if member["mode"] == 1:
                member["risen"] = set()
            member["sleeps"] = member["mode"] == 2
        return len(told), [number for member, bits in told for number in (member["data"], bits)]

    def ready(self, number):
        self.find(number, 0)
        return int(self.is_ready(number)), []

    def told(self, number):
        self.find(number, 0)
        members = self.sets[number]
        return len(members), [number for member in members
                              for number in (member["source"], member["bits"], member["mode"], member["data"],
                                             sum(member["risen"]), int(member["sleeps"]))]

    def answer(self, call):
        names = ("begins", "opens", "shut", "add", "change", "drop", "level", "poke", "gone", "wait", "ready", "told")
        before = self.all_ready()
        try:
            number, numbers = getattr(self, names[call[0]])(*call[1:])
        except Refused as refused:
            return [refused.args[0]]
        woken = sorted(self.all_ready() - before)
        return [number, len(numbers), *numbers, len(woken), *woken]


class Chance:
    """Calls drawn from a few sets and sources, so that they meet, and now and then from the ranges' ends."""

    def __init__(self, seed):
        self.draw = random.Random(seed)
        self.sets = self.draw.choice((2, 4, 16))
        self.sources = self.draw.choice((2, 6, 80))

    def odd(self, usual, *others):
        return self.draw.choice(others) if self.draw.random() < 0.03 else usual

    def number(self):
        return self.odd(self.draw.randrange(self.sets), LEAST, -1, 15, 16, GREATEST)

    def source(self):
        return self.odd(self.draw.randrange(self.sources), LEAST, -1, 0, 255, 256, GREATEST)

    def member(self):
        if self.draw.random() < 0.3:
            return self.odd(256 + self.draw.randrange(self.sets), 271, 272)
        return self.source()

    def bits(self):
        return self.odd(self.draw.randrange(16), LEAST, -1, 16, GREATEST)

    def settings(self, member):
        mode = 0 if member > 255 and self.draw.random() < 0.9 else self.draw.randrange(3)
        return self.bits() | (1 if member > 255 and self.draw.random() < 0.7 else 0), self.odd(mode, -1, 3), \
            self.odd(self.draw.randrange(1000), 0, MOST_DATA)

    def call(self):
        kind = self.draw.choices(range(12), (0.2, 6, 1, 24, 6, 3, 20, 10, 2, 14, 4, 8))[0]
        if kind == 0:
            return BEGINS
        if kind == 1:
            return OPENS
        if kind in (3, 4):
            member = self.member()
            return [kind, self.number(), member, *self.settings(member)]
        if kind == 5:
            return drop(self.number(), self.member())
        if kind in (6, 7):
            return [kind, self.source(), self.bits()]
        if kind == 8:
            return gone(self.source())
        if kind == 9:
            return wait(self.number(), self.odd(self.draw.choice((1, 2, 3, 64)), LEAST, -1, 0, 65, GREATEST))
        return [kind, self.number()]


class WholeProgram(unittest.TestCase):
    def test_some_of_all_calls_in_one_list(self):
        self.assertEqual(ask(*SOME_OF_ALL), [
            plain(0), plain(1), plain(1), plain(1), plain(2), waking(0, 0, 1), plain(0), shown((1, 1)),
            shown((MOST_DATA, 1)), row((8, 2, 2, 3, 6, 0), (7, 1, 1, MOST_DATA, 0, 0)), plain(1), plain(0), plain(0),
            [-1], [-1], plain(1), plain(0), row(), [-2]])

    def test_as_the_interface_writes_it(self):
        calls = [1, 3, 0, 7, 1, 1, 99, 6, 7, 3, 10, 0, 11, 0, 9, 0, 1, 7, 7, 1, 8, 7, 9, 0, 0, 11, 5]
        self.assertEqual(answers(calls), [3, 0, 0, 0,  3, 1, 0, 0,  4, 0, 0, 1, 0,  3, 1, 0, 0,
                                          9, 1, 6, 7, 1, 1, 99, 3, 0, 0,  5, 1, 2, 99, 1, 0,  4, 0, 0, 1, 0,
                                          3, 1, 0, 0,  1, -1,  1, -2])

    def test_the_list_handed_in_is_as_it_was(self):
        calls = joined(SOME_OF_ALL)
        before = list(calls)
        answers(calls)
        self.assertEqual(calls, before)

    def test_a_second_time_answers_the_same(self):
        calls = joined(SOME_OF_ALL)
        first = answers(calls)
        answers(joined([level(7, 15), *[OPENS] * 16, add(0, 7, 1, 2)]))
        self.assertEqual(answers(calls), first)
        self.assertEqual(answers(list(calls)), first)

    def test_whole_numbers_in_a_list(self):
        given = answers(joined(SOME_OF_ALL))
        self.assertIs(type(given), list)
        self.assertEqual({type(number) for number in given}, {int})

    def test_nothing_is_printed(self):
        printed = io.StringIO()
        with contextlib.redirect_stdout(printed), contextlib.redirect_stderr(printed):
            answers(joined(SOME_OF_ALL))
        self.assertEqual(printed.getvalue(), "")

    def test_a_begins_in_the_middle(self):
        given = ask(*SOME_OF_ALL[:-3], BEGINS, *SOME_OF_ALL)
        self.assertEqual(given[-len(SOME_OF_ALL) - 1:], [plain(0)] + ask(*SOME_OF_ALL))
        self.assertEqual(ask(OPENS, add(0, 7, 1), level(7, 1), BEGINS, ready(0), OPENS, ready(0), add(0, 7, 1))[3:],
                         [plain(0), [-2], plain(0), plain(0), plain(1)])

    def test_every_call_at_the_beginning_of_a_list(self):
        self.assertEqual([ask(call)[0] for call in (level(7, 1), poke(7, 1), gone(7), wait(0), ready(0), told(0))],
                         [plain(0), plain(0), plain(0), [-2], [-2], [-2]])

    def test_three_hundred_calls(self):
        calls = [OPENS] + [add(0, source, 1, 1, MOST_DATA - source) for source in range(64)]
        calls += [level(source, 1) for source in range(64)] + [wait(0, 1)] * 64 + [poke(source, 1)
                                                                                    for source in range(64)]
        calls += [told(0)] * 42 + [ready(0)]
        self.assertEqual(len(calls), 300)
        given = ask(*calls)
        self.assertEqual(given[65:129], [waking(0, 0)] + [plain(0)] * 63)
        self.assertEqual(given[129:193], [shown((MOST_DATA - source, 1)) for source in range(64)])
        self.assertEqual(given[193:257], [waking(0, 0)] + [plain(0)] * 63)
        self.assertEqual(given[257:], [row(*[(source, 1, 1, MOST_DATA - source, 1, 0) for source in range(64)])] * 42
                         + [plain(1)])

    def test_long_lists_beside_a_second_reading(self):
        for seed in range(150):
            chance = Chance(seed)
            calls = [OPENS] * chance.draw.randrange(chance.sets + 1)
            calls += [chance.call() for place in range(300 - len(calls))]
            reading = Reading()
            for place, answered in enumerate(ask(*calls)):
                self.assertEqual(answered, reading.answer(calls[place]), (seed, calls[:place + 1]))


if __name__ == "__main__":
    unittest.main()
