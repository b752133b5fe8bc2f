"""Sets in sets through the interface: who is ready by whom, and who is woken in one call."""

import unittest

from tests.calls import (BEGINS, OPENS, add, ask, change, drop, gone, last, level, of_set, plain, poke, ready, row,
                         shown, shut, told, wait, waking)

ALL_OPEN = [OPENS] * 16
# Each set stands in the one before it: the last is the innermost.
FALLING = ALL_OPEN + [add(number, of_set(number + 1), 1) for number in range(15)]
# Each set stands in the one behind it: the first is the innermost.
RISING = ALL_OPEN + [add(number + 1, of_set(number), 1) for number in range(15)]
ALL = range(16)


def all_ready(*calls):
    """The sets of the sixteen that are ready behind these calls."""
    given = ask(*calls, *[ready(number) for number in ALL])[-16:]
    return [number for number in ALL if given[number] == plain(1)]


class WokenAtWhateverDepth(unittest.TestCase):
    def test_level_wakes_all_that_have_it_in_them(self):
        self.assertEqual(last(*FALLING, add(15, 7, 1), level(7, 1)), waking(0, *ALL))
        self.assertEqual(last(*RISING, add(0, 7, 1), level(7, 1)), waking(0, *ALL))
        self.assertEqual(all_ready(*FALLING, add(15, 7, 1), level(7, 1)), list(ALL))

    def test_poke_wakes_all_that_have_it_in_them(self):
        calls = FALLING + [add(15, 7, 1, 1), level(7, 1), wait(15)]
        self.assertEqual(all_ready(*calls), [])
        self.assertEqual(last(*calls, poke(7, 1)), waking(0, *ALL))

    def test_only_those_that_have_it_in_them(self):
        self.assertEqual(last(*FALLING, add(9, 7, 1), level(7, 1)), waking(0, *range(10)))
        self.assertEqual(last(*RISING, add(9, 7, 1), level(7, 1)), waking(0, *range(9, 16)))
        self.assertEqual(all_ready(*RISING, add(9, 7, 1), level(7, 1)), list(range(9, 16)))

    def test_told_rising_whatever_the_order_they_stand_in(self):
        order = [5, 12, 0, 9, 3, 15, 7]
        chain = ALL_OPEN + [add(outer, of_set(inner), 1) for outer, inner in zip(order, order[1:])]
        self.assertEqual(last(*chain, add(7, 1, 1), level(1, 1)), waking(0, *sorted(order)))

    def test_a_set_that_was_ready_is_not_woken(self):
        calls = FALLING + [add(15, 7, 1), add(9, 8, 1), level(8, 1)]
        self.assertEqual(last(*calls), waking(0, *range(10)))
        self.assertEqual(last(*calls, level(7, 1)), waking(0, *range(10, 16)))

    def test_a_set_in_two_sets_of_one_is_woken_once(self):
        calls = [OPENS] * 4 + [add(0, of_set(1), 1), add(0, of_set(2), 1), add(1, of_set(3), 1), add(2, of_set(3), 1),
                               add(3, 7, 1)]
        self.assertEqual(last(*calls, level(7, 1)), waking(0, 0, 1, 2, 3))

    def test_each_set_in_all_before_it(self):
        pairs = [add(outer, of_set(inner), 1) for outer in ALL for inner in range(outer + 1, 16)]
        self.assertEqual(last(*ALL_OPEN, *pairs, add(15, 7, 1), level(7, 1)), waking(0, *ALL))

    def test_one_source_in_several_sets_in_one_another(self):
        calls = [OPENS] * 3 + [add(2, of_set(0), 1), add(2, 7, 2), add(0, 7, 1)]
        self.assertEqual(last(*calls, level(7, 2)), waking(0, 2))
        self.assertEqual(last(*calls, level(7, 2), level(7, 3)), waking(0, 0))
        self.assertEqual(last(*calls, level(7, 1)), waking(0, 0, 2))

    def test_the_same_call_may_turn_one_ready_and_another_not(self):
        calls = [OPENS] * 4 + [add(0, 7, 1), add(1, 7, 2), add(2, of_set(0), 1), add(3, of_set(1), 1), level(7, 1)]
        self.assertEqual(last(*calls, level(7, 2)), waking(0, 1, 3))
        self.assertEqual(all_ready(*calls, level(7, 2)), [1, 3])

    def test_a_set_that_stays_ready_by_another_member_is_not_woken(self):
        calls = [OPENS] * 3 + [add(0, 7, 1), add(1, 7, 2), add(2, of_set(0), 1), add(2, of_set(1), 1), level(7, 1)]
        self.assertEqual(last(*calls, level(7, 2)), waking(0, 1))


class WhatIsWatched(unittest.TestCase):
    def test_a_member_that_wants_no_1_shows_nothing(self):
        for bits in range(16):
            calls = [OPENS, OPENS, add(0, of_set(1), bits, 0, 5), add(1, 7, 15), level(7, 15)]
            wanted = bits & 1
            self.assertEqual(last(*calls), waking(0, 0, 1) if wanted else waking(0, 1), bits)
            self.assertEqual(last(*calls, ready(0)), plain(wanted), bits)
            self.assertEqual(last(*calls, wait(0)), shown((5, 1)) if wanted else shown(), bits)

    def test_it_stops_the_waking_behind_it(self):
        calls = FALLING + [change(4, of_set(5), 14), add(15, 7, 1)]
        self.assertEqual(last(*calls, level(7, 1)), waking(0, *range(5, 16)))

    def test_a_set_shows_1_whatever_made_it_ready(self):
        for bits in (1, 2, 4, 8, 15):
            calls = [OPENS, OPENS, add(0, of_set(1), 15, 0, 5), add(1, 7, 15), level(7, bits)]
            self.assertEqual(last(*calls, wait(0)), shown((5, 1)), bits)


class WaitWithin(unittest.TestCase):
    def test_a_wait_on_the_outer_leaves_the_inner_as_it_was(self):
        calls = [OPENS, OPENS, add(0, of_set(1), 1, 0, 5), add(1, 7, 1, 1, 6), add(1, 8, 1, 2, 7), level(7, 1),
                 level(8, 1), wait(0)]
        self.assertEqual(last(*calls), shown((5, 1)))
        self.assertEqual(last(*calls, told(1)), row((7, 1, 1, 6, 1, 0), (8, 1, 2, 7, 1, 0)))
        self.assertEqual(ask(*calls, ready(0), ready(1), wait(0))[-3:], [plain(1), plain(1), shown((5, 1))])

    def test_a_set_gets_its_turn_like_a_source(self):
        calls = [OPENS, OPENS, add(0, of_set(1), 1, 0, 5), add(0, 8, 1, 0, 6), add(1, 7, 1), level(7, 1), level(8, 1)]
        self.assertEqual(ask(*calls, wait(0, 1), wait(0, 1), wait(0, 1))[-3:],
                         [shown((5, 1)), shown((6, 1)), shown((5, 1))])
        self.assertEqual(last(*calls, wait(0, 1), told(0)), row((8, 1, 0, 6, 1, 0), (257, 1, 0, 5, 0, 0)))

    def test_a_wait_that_takes_all_leaves_neither_ready(self):
        for mode in (1, 2):
            calls = FALLING + [add(15, 7, 1, mode), level(7, 1), wait(15)]
            self.assertEqual(all_ready(*calls), [], mode)
            self.assertEqual(last(*calls, wait(0)), shown(), mode)

    def test_a_wait_that_takes_fewer_leaves_both_ready(self):
        for mode in (1, 2):
            calls = FALLING + [add(15, 7, 1, mode), add(15, 8, 1, mode), level(7, 1), level(8, 1), wait(15, 1)]
            self.assertEqual(all_ready(*calls), list(ALL), mode)
            self.assertEqual(all_ready(*calls, wait(15, 1)), [], mode)

    def test_a_wait_by_level_leaves_both_ready(self):
        self.assertEqual(all_ready(*FALLING, add(15, 7, 1), level(7, 1), wait(15)), list(ALL))

    def test_they_are_woken_again_afterwards(self):
        calls = FALLING + [add(15, 7, 1, 1), level(7, 1), wait(15)]
        self.assertEqual(last(*calls, level(7, 0)), plain(0))
        self.assertEqual(last(*calls, level(7, 0), level(7, 1)), waking(0, *ALL))


class CallsThatChangeWhoIsReady(unittest.TestCase):
    def setUp(self):
        self.ready = FALLING + [add(15, 7, 1), level(7, 1)]

    def test_shut(self):
        self.assertEqual(last(*self.ready, shut(9)), plain(0))
        self.assertEqual(all_ready(*self.ready, shut(9)), list(range(10, 16)))
        self.assertEqual(all_ready(*self.ready, shut(15)), [])
        self.assertEqual(all_ready(*self.ready, shut(0)), list(range(1, 16)))

    def test_opened_again_and_put_in_its_place(self):
        calls = self.ready + [shut(9), OPENS, add(8, of_set(9), 1)]
        self.assertEqual(last(*calls), plain(1))
        self.assertEqual(last(*calls, add(9, of_set(10), 1)), waking(1, *range(10)))

    def test_drop(self):
        self.assertEqual(last(*self.ready, drop(9, of_set(10))), plain(0))
        self.assertEqual(all_ready(*self.ready, drop(9, of_set(10))), list(range(10, 16)))
        self.assertEqual(all_ready(*self.ready, drop(15, 7)), [])

    def test_add(self):
        calls = self.ready + [drop(9, of_set(10))]
        self.assertEqual(last(*calls, add(9, of_set(10), 1)), waking(1, *range(10)))
        self.assertEqual(last(*calls, add(9, of_set(10), 2)), plain(1))
        self.assertEqual(last(*calls, add(4, 7, 1, 1)), waking(2, *range(5)))

    def test_change(self):
        calls = self.ready + [change(9, of_set(10), 2)]
        self.assertEqual(last(*calls), plain(0))
        self.assertEqual(all_ready(*calls), list(range(10, 16)))
        self.assertEqual(last(*calls, change(9, of_set(10), 1)), waking(0, *range(10)))
        self.assertEqual(last(*self.ready, change(15, 7, 2)), plain(0))
        self.assertEqual(all_ready(*self.ready, change(15, 7, 2)), [])
        self.assertEqual(last(*self.ready, change(15, 7, 2), change(15, 7, 1, 2)), waking(0, *ALL))

    def test_change_of_one_that_sleeps(self):
        calls = FALLING + [add(15, 7, 1, 2), level(7, 1), wait(15)]
        self.assertEqual(last(*calls, change(15, 7, 1, 2)), waking(0, *ALL))

    def test_level_and_gone(self):
        self.assertEqual(last(*self.ready, level(7, 0)), plain(0))
        self.assertEqual(all_ready(*self.ready, level(7, 0)), [])
        self.assertEqual(last(*self.ready, gone(7)), plain(1))
        self.assertEqual(all_ready(*self.ready, gone(7)), [])

    def test_begins(self):
        self.assertEqual(last(*self.ready, BEGINS), plain(0))
        self.assertEqual(ask(*self.ready, BEGINS, ready(0), ready(15))[-2:], [[-2], [-2]])


if __name__ == "__main__":
    unittest.main()
