"""Points 7 to 9 through the interface: what a source says, what rises by it, who is woken."""

import unittest

from tests.calls import (BEGINS, GREATEST, LEAST, MOST_DATA, OPENS, add, ask, change, drop, gone, last, level, of_set,
                         plain, poke, ready, row, shown, told, wait, waking)

NOT_SOURCES = (LEAST, -1, 256, 271, 272, GREATEST)
NOT_BITS = (LEAST, -1, 16, GREATEST)


def behind(*calls):
    """The answers to told and wait of set 0 behind these calls."""
    return ask(*calls, told(0), wait(0))[-2:]


class Level(unittest.TestCase):
    def test_answers_nought_also_where_nobody_watches(self):
        self.assertEqual(ask(level(0, 15), level(255, 15), level(0, 0)), [plain(0)] * 3)

    def test_the_level_is_this(self):
        calls = [OPENS, add(0, 7, 15, 0, 9)]
        self.assertEqual(last(*calls, level(7, 5), wait(0)), shown((9, 5)))
        self.assertEqual(last(*calls, level(7, 5), level(7, 10), wait(0)), shown((9, 10)))
        self.assertEqual(last(*calls, level(7, 5), level(7, 0), wait(0)), shown())

    def test_each_source_has_its_own(self):
        calls = [OPENS, add(0, 0, 15, 0, 1), add(0, 254, 15, 0, 2), add(0, 255, 15, 0, 3), level(0, 1), level(255, 2)]
        self.assertEqual(last(*calls, wait(0)), shown((1, 1), (3, 2)))

    def test_a_level_said_before_the_source_is_added(self):
        self.assertEqual(last(level(7, 3), OPENS, add(0, 7, 1)), waking(1, 0))
        self.assertEqual(last(level(7, 3), OPENS, add(0, 7, 1, 2, 5), told(0)), row((7, 1, 2, 5, 3, 0)))

    def test_what_is_on_now_and_was_not_before_has_risen_too(self):
        calls = [OPENS, add(0, 7, 15, 1), level(7, 1)]
        self.assertEqual(last(*calls, told(0)), row((7, 15, 1, 0, 1, 0)))
        self.assertEqual(last(*calls, level(7, 6), told(0)), row((7, 15, 1, 0, 7, 0)))
        self.assertEqual(last(*calls, wait(0), level(7, 3), told(0)), row((7, 15, 1, 0, 2, 0)))

    def test_what_has_risen_stays_when_it_goes_off(self):
        self.assertEqual(behind(OPENS, add(0, 7, 15, 1, 4), level(7, 3), level(7, 0)),
                         [row((7, 15, 1, 4, 3, 0)), shown((4, 3))])

    def test_to_what_it_was(self):
        calls = [OPENS, add(0, 7, 15, 1, 4), level(7, 3), wait(0), level(7, 3)]
        self.assertEqual(last(*calls), plain(0))
        self.assertEqual(behind(*calls), [row((7, 15, 1, 4, 0, 0)), shown()])

    def test_off_and_on_again_rises_again(self):
        calls = [OPENS, add(0, 7, 15, 1, 4), level(7, 3), wait(0), level(7, 2), level(7, 3)]
        self.assertEqual(last(*calls), waking(0, 0))
        self.assertEqual(last(*calls, wait(0)), shown((4, 1)))

    def test_rises_in_every_mode_unwatched_too_and_in_all_sets(self):
        calls = [OPENS, OPENS, add(0, 7, 0, 0, 1), add(0, 8, 0, 1, 1), add(1, 7, 1, 2, 2), level(7, 3)]
        self.assertEqual(last(*calls, told(0)), row((7, 0, 0, 1, 3, 0), (8, 0, 1, 1, 0, 0)))
        self.assertEqual(last(*calls, told(1)), row((7, 1, 2, 2, 3, 0)))

    def test_rises_while_it_sleeps(self):
        calls = [OPENS, add(0, 7, 1, 2, 5), level(7, 1), wait(0), level(7, 2), level(7, 9)]
        self.assertEqual(last(*calls), plain(0))
        self.assertEqual(behind(*calls), [row((7, 1, 2, 5, 11, 1)), shown()])

    def test_risen_unwatched_is_shown_once_it_is_wanted_anew_only_if_on(self):
        calls = [OPENS, add(0, 7, 0, 1, 5), level(7, 3), level(7, 2)]
        self.assertEqual(last(*calls, wait(0)), shown())
        self.assertEqual(last(*calls, change(0, 7, 3, 1, 5), wait(0)), shown((5, 2)))

    def test_wakes_those_that_turn_ready_rising(self):
        calls = [OPENS] * 4 + [add(3, 7, 1, 1), add(1, 7, 2, 0), add(0, 7, 1, 2), add(2, 8, 15)]
        self.assertEqual(last(*calls, level(7, 1)), waking(0, 0, 3))
        self.assertEqual(last(*calls, level(7, 1), level(7, 3)), waking(0, 1))
        self.assertEqual(last(*calls, level(7, 8)), waking(0, 0, 1, 3))

    def test_errors_and_ends_wake_though_nobody_wants_them(self):
        for bit in (4, 8):
            for mode in (0, 1, 2):
                calls = [OPENS, add(0, 7, 0, mode, 6), level(7, bit | 3)]
                self.assertEqual(last(*calls), waking(0, 0), (bit, mode))
                self.assertEqual(last(*calls, wait(0)), shown((6, bit)), (bit, mode))

    def test_a_set_that_was_ready_is_not_woken(self):
        self.assertEqual(last(OPENS, add(0, 7, 3), level(7, 1), level(7, 2)), plain(0))
        self.assertEqual(last(OPENS, add(0, 7, 3), add(0, 8, 3), level(7, 1), level(8, 1)), plain(0))

    def test_off_wakes_nobody_and_on_again_wakes(self):
        given = ask(OPENS, add(0, 7, 1), level(7, 1), level(7, 0), level(7, 1))
        self.assertEqual(given[2:], [waking(0, 0), plain(0), waking(0, 0)])

    def test_begins_puts_levels_to_nought(self):
        calls = [level(7, 15), level(0, 1), level(255, 8), BEGINS, OPENS]
        for source in (0, 7, 255):
            self.assertEqual(last(*calls, add(0, source, 15, 1), told(0)), row((source, 15, 1, 0, 0, 0)))

    def test_ends_of_the_ranges(self):
        for source in (0, 255):
            for bits in (0, 15):
                self.assertEqual(ask(level(source, bits)), [plain(0)])
                self.assertEqual(ask(poke(source, bits)), [plain(0)])

    def test_numbers_not_in_their_range(self):
        for call in (level, poke):
            for source in NOT_SOURCES:
                self.assertEqual(ask(call(source, 1)), [[-1]], source)
                self.assertEqual(ask(call(source, 16)), [[-1]], source)
            for bits in NOT_BITS:
                self.assertEqual(ask(call(7, bits)), [[-1]], bits)

    def test_a_set_is_no_source_here(self):
        for call in (level(of_set(0), 1), poke(of_set(0), 1), gone(of_set(0))):
            self.assertEqual(last(OPENS, OPENS, add(1, of_set(0), 1), call), [-1], call)

    def test_a_refusal_changes_nothing(self):
        calls = [OPENS, OPENS, add(0, 255, 15, 1, 5), add(0, 0, 15, 0, 6), add(0, of_set(1), 15, 0, 7), level(255, 1)]
        refused = [level(255, 16), level(255, -1), level(256, 15), level(-1, 15), poke(255, 16), poke(255, -1),
                   poke(256, 15), poke(-1, 15), gone(256), gone(257), gone(-1)]
        given = ask(*calls, *refused, told(0), wait(0))
        self.assertEqual(given[6:17], [[-1]] * 11)
        self.assertEqual(given[17:], [row((255, 15, 1, 5, 1, 0), (0, 15, 0, 6, 0, 0), (257, 15, 0, 7, 0, 0)),
                                      shown((5, 1))])


class Poke(unittest.TestCase):
    def test_the_level_gets_these_bits_too(self):
        calls = [OPENS, add(0, 7, 15, 0, 9), level(7, 5)]
        self.assertEqual(last(*calls, poke(7, 3), wait(0)), shown((9, 7)))
        self.assertEqual(last(*calls, poke(7, 0), wait(0)), shown((9, 5)))
        self.assertEqual(last(*calls, poke(7, 3), level(7, 2), wait(0)), shown((9, 2)))

    def test_bits_that_are_on_already_rise_again(self):
        calls = [OPENS, add(0, 7, 15, 1, 9), level(7, 3), wait(0), poke(7, 1)]
        self.assertEqual(last(*calls), waking(0, 0))
        self.assertEqual(behind(*calls), [row((7, 15, 1, 9, 1, 0)), shown((9, 1))])

    def test_bits_that_are_not_on_rise_too(self):
        calls = [OPENS, add(0, 7, 15, 1, 9), level(7, 1), wait(0), poke(7, 3)]
        self.assertEqual(behind(*calls), [row((7, 15, 1, 9, 3, 0)), shown((9, 3))])

    def test_only_these_bits_rise(self):
        calls = [OPENS, add(0, 7, 15, 1, 9), level(7, 15), wait(0)]
        self.assertEqual(behind(*calls, poke(7, 2)), [row((7, 15, 1, 9, 2, 0)), shown((9, 2))])
        self.assertEqual(behind(*calls, poke(7, 0)), [row((7, 15, 1, 9, 0, 0)), shown()])
        self.assertEqual(behind(*calls, poke(8, 15)), [row((7, 15, 1, 9, 0, 0)), shown()])

    def test_what_had_risen_stays(self):
        self.assertEqual(last(OPENS, add(0, 7, 15, 1), poke(7, 1), poke(7, 4), told(0)), row((7, 15, 1, 0, 5, 0)))

    def test_by_level_a_poke_of_what_is_on_wakes_nobody(self):
        calls = [OPENS, add(0, 7, 15, 0, 9), poke(7, 1)]
        self.assertEqual(last(*calls), waking(0, 0))
        self.assertEqual(last(*calls, wait(0), poke(7, 1)), plain(0))

    def test_all_members_in_every_mode_sleeping_or_not(self):
        calls = [OPENS, OPENS, OPENS, add(2, 7, 0, 1, 3), add(1, 7, 1, 0, 2), add(0, 7, 1, 2, 1), level(7, 1), wait(0),
                 poke(7, 3)]
        self.assertEqual(last(*calls), plain(0))
        self.assertEqual(ask(*calls, told(0), told(1), told(2))[-3:],
                         [row((7, 1, 2, 1, 3, 1)), row((7, 1, 0, 2, 3, 0)), row((7, 0, 1, 3, 3, 0))])

    def test_wakes_those_that_turn_ready_rising(self):
        calls = [OPENS] * 4 + [add(3, 7, 1, 1), add(1, 7, 2, 0), add(0, 7, 1, 2), add(2, 8, 15)]
        self.assertEqual(last(*calls, poke(7, 1)), waking(0, 0, 3))
        self.assertEqual(last(*calls, poke(7, 1), poke(7, 3)), waking(0, 1))
        self.assertEqual(last(*calls, poke(7, 12)), waking(0, 0, 1, 3))

    def test_errors_and_ends_though_nobody_wants_them(self):
        for bit in (4, 8):
            calls = [OPENS, add(0, 7, 0, 1, 6), level(7, 15), wait(0), poke(7, bit | 3)]
            self.assertEqual(last(*calls), waking(0, 0), bit)
            self.assertEqual(last(*calls, wait(0)), shown((6, bit)), bit)


class Gone(unittest.TestCase):
    def test_answers_of_how_many_sets_it_was_a_member(self):
        calls = [OPENS] * 16 + [add(number, 7, 1) for number in range(16)] + [add(3, 8)]
        self.assertEqual(last(*calls, gone(7)), plain(16))
        self.assertEqual(last(*calls, gone(8)), plain(1))
        self.assertEqual(last(*calls, gone(9)), plain(0))
        self.assertEqual(last(*calls, drop(4, 7), gone(7)), plain(15))
        self.assertEqual(last(*calls, gone(7), gone(7)), plain(0))

    def test_it_is_nobodys_member_any_more_and_others_stay_in_turn(self):
        calls = [OPENS, OPENS, OPENS, add(0, 6, 1, 1, 1), add(0, 7), add(0, of_set(1), 1, 0, 2), add(1, 7, 3, 2),
                 add(1, 8, 15, 0, MOST_DATA), add(2, 7), gone(7)]
        self.assertEqual(ask(*calls, told(0), told(1), told(2))[-3:],
                         [row((6, 1, 1, 1, 0, 0), (257, 1, 0, 2, 0, 0)), row((8, 15, 0, MOST_DATA, 0, 0)), row()])
        self.assertEqual(ask(*calls, drop(0, 7), change(1, 7), add(1, 7))[-3:], [[-2], [-2], plain(2)])

    def test_its_level_is_nought(self):
        calls = [OPENS, level(7, 15), gone(7), add(0, 7, 15, 0)]
        self.assertEqual(last(*calls), plain(1))
        self.assertEqual(behind(*calls), [row((7, 15, 0, 0, 0, 0)), shown()])

    def test_other_levels_stay(self):
        self.assertEqual(last(OPENS, level(6, 1), level(8, 2), gone(7), add(0, 6, 1, 1), add(0, 8, 2, 1), told(0)),
                         row((6, 1, 1, 0, 1, 0), (8, 2, 1, 0, 2, 0)))

    def test_sets_are_not_ready_by_it_any_more(self):
        calls = [OPENS, OPENS, OPENS, add(0, 7, 1), add(1, 7, 1), add(1, 8, 1), add(2, of_set(0), 1), level(7, 1),
                 level(8, 1), gone(7)]
        self.assertEqual(last(*calls), plain(2))
        self.assertEqual(ask(*calls, ready(0), ready(1), ready(2))[-3:], [plain(0), plain(1), plain(0)])
        self.assertEqual(last(*calls, level(7, 1)), plain(0))

    def test_comes_back_new_and_awake(self):
        calls = [OPENS, add(0, 7, 1, 2, 5), add(0, 8), level(7, 1), wait(0), gone(7), add(0, 7, 1, 2, 6), level(7, 1)]
        self.assertEqual(last(*calls), waking(0, 0))
        self.assertEqual(behind(*calls), [row((8, 0, 0, 0, 0, 0), (7, 1, 2, 6, 1, 0)), shown((6, 1))])

    def test_ends_of_the_range(self):
        for source in (0, 255):
            self.assertEqual(last(OPENS, add(0, source), gone(source)), plain(1))
        for source in NOT_SOURCES:
            self.assertEqual(last(OPENS, OPENS, add(0, of_set(1)), gone(source)), [-1], source)


if __name__ == "__main__":
    unittest.main()
