"""Points 10 to 12 through the interface: who is ready, a few at a time, and what a set's members are."""

import unittest

from tests.calls import (BEGINS, GREATEST, LEAST, MOST_DATA, OPENS, add, ask, change, drop, gone, last, level, of_set,
                         plain, poke, ready, row, shown, shut, told, wait, waking)

NO_SETS = (LEAST, -1, 1, 15, 16, 256, GREATEST)
NOT_MOST = (LEAST, -1, 0, 65, GREATEST)


def data_of(answered):
    """The data that a wait has told, in order."""
    return answered[2:2 + answered[1]:2]


def in_turn(answered):
    """The sources that told has told, in turn."""
    return answered[2:2 + answered[1]:6]


def watching(count, mode, bits=1):
    """Set 0 watching the sources from 0 on, all with data 100 and their number."""
    return [OPENS] + [add(0, source, bits, mode, 100 + source) for source in range(count)]


class Wait(unittest.TestCase):
    def test_tells_of_each_its_data_and_what_it_shows(self):
        calls = [OPENS, OPENS, add(0, 4, 1, 0, 70), add(0, 5, 2, 1, MOST_DATA), add(0, of_set(1), 15, 0, 0),
                 add(0, 6, 0, 2, 50), add(1, 6), level(4, 3), level(5, 7), level(6, 13)]
        self.assertEqual(last(*calls, wait(0)), shown((70, 1), (MOST_DATA, 6), (0, 1), (50, 12)))

    def test_nobody_shows_something(self):
        self.assertEqual(last(OPENS, wait(0)), shown())
        self.assertEqual(last(OPENS, add(0, 4, 1), level(4, 2), wait(0)), shown())
        self.assertEqual(last(OPENS, add(0, 4, 1), level(4, 2), wait(0)), [0, 0, 0])

    def test_those_that_show_nothing_are_passed_over_and_keep_their_place(self):
        calls = watching(5, 0) + [level(1, 1), level(3, 1)]
        self.assertEqual(last(*calls, wait(0)), shown((101, 1), (103, 1)))
        self.assertEqual(in_turn(last(*calls, wait(0), told(0))), [0, 2, 4, 1, 3])

    def test_most_at_most_the_first_in_turn(self):
        calls = watching(5, 0) + [level(source, 1) for source in (4, 1, 3, 2)]
        self.assertEqual(last(*calls, wait(0, 1)), shown((101, 1)))
        self.assertEqual(last(*calls, wait(0, 3)), shown((101, 1), (102, 1), (103, 1)))
        self.assertEqual(in_turn(last(*calls, wait(0, 3), told(0))), [0, 4, 1, 2, 3])
        self.assertEqual(len(data_of(last(*calls, wait(0, 4)))), 4)
        self.assertEqual(len(data_of(last(*calls, wait(0, 64)))), 4)

    def test_sixty_four_of_sixty_four(self):
        calls = watching(64, 0) + [level(source, 1) for source in range(64)]
        self.assertEqual(last(*calls, wait(0, 64)), shown(*[(100 + source, 1) for source in range(64)]))
        self.assertEqual(data_of(last(*calls, wait(0, 63))), list(range(100, 163)))
        self.assertEqual(data_of(last(*calls, wait(0, 63), wait(0, 64))), [163] + list(range(100, 163)))

    def test_everybody_gets_their_turn_by_level(self):
        calls = watching(5, 0) + [level(source, 1) for source in range(5)]
        given = ask(*calls, *[wait(0, 2)] * 5, told(0))
        self.assertEqual([data_of(answered) for answered in given[-6:-1]],
                         [[100, 101], [102, 103], [104, 100], [101, 102], [103, 104]])
        self.assertEqual(in_turn(given[-1]), [0, 1, 2, 3, 4])

    def test_everybody_gets_one_turn_by_edge(self):
        calls = watching(5, 1) + [level(source, 1) for source in range(5)]
        given = ask(*calls, *[wait(0, 2)] * 4)
        self.assertEqual([data_of(answered) for answered in given[-4:]], [[100, 101], [102, 103], [104], []])

    def test_everybody_gets_one_turn_once(self):
        calls = watching(5, 2) + [level(source, 1) for source in range(5)]
        given = ask(*calls, *[wait(0, 2)] * 4)
        self.assertEqual([data_of(answered) for answered in given[-4:]], [[100, 101], [102, 103], [104], []])

    def test_one_that_shows_later_comes_before_those_that_had_their_turn(self):
        calls = watching(4, 0) + [level(0, 1), level(3, 1), wait(0, 1), level(2, 1)]
        self.assertEqual(data_of(last(*calls, wait(0))), [102, 103, 100])

    def test_a_member_more_stands_behind_those_that_had_their_turn(self):
        calls = watching(2, 0) + [level(source, 1) for source in range(3)] + [wait(0, 1), add(0, 2, 1, 0, 102)]
        self.assertEqual(data_of(last(*calls, wait(0))), [101, 100, 102])

    def test_a_change_keeps_the_place_that_a_wait_left(self):
        calls = watching(3, 0) + [level(source, 1) for source in range(3)] + [wait(0, 1), change(0, 0, 1, 0, 7)]
        self.assertEqual(data_of(last(*calls, wait(0))), [101, 102, 7])

    def test_of_those_by_edge_nothing_has_risen_any_more(self):
        calls = [OPENS, add(0, 4, 1, 1, 9), level(4, 3), wait(0), told(0)]
        self.assertEqual(last(*calls), row((4, 1, 1, 9, 0, 0)))
        self.assertEqual(last(*calls, wait(0)), shown())

    def test_by_edge_those_that_were_not_told_keep_what_has_risen(self):
        calls = [OPENS, add(0, 4, 1, 1), add(0, 5, 1, 1), add(0, 6, 1, 1), level(4, 2), level(5, 1), level(6, 1)]
        self.assertEqual(last(*calls, wait(0, 1), told(0)),
                         row((4, 1, 1, 0, 2, 0), (6, 1, 1, 0, 1, 0), (5, 1, 1, 0, 0, 0)))

    def test_those_once_sleep_and_keep_what_has_risen(self):
        calls = [OPENS, add(0, 4, 1, 2, 9), add(0, 5, 1, 2, 8), level(4, 3), wait(0)]
        self.assertEqual(last(*calls, told(0)), row((5, 1, 2, 8, 0, 0), (4, 1, 2, 9, 3, 1)))
        self.assertEqual(last(*calls, level(4, 0), level(4, 15), wait(0)), shown())
        self.assertEqual(last(*calls, poke(4, 15), wait(0)), shown())
        self.assertEqual(last(*calls, poke(4, 15)), plain(0))

    def test_those_by_level_keep_what_has_risen_and_are_told_again(self):
        calls = [OPENS, add(0, 4, 1, 0, 9), level(4, 3), wait(0)]
        self.assertEqual(last(*calls, told(0)), row((4, 1, 0, 9, 3, 0)))
        self.assertEqual(last(*calls, wait(0)), shown((9, 1)))

    def test_once_shows_what_is_on_and_not_what_has_risen(self):
        self.assertEqual(last(OPENS, add(0, 4, 15, 2, 9), level(4, 3), level(4, 2), wait(0)), shown((9, 2)))
        self.assertEqual(last(OPENS, add(0, 4, 15, 2, 9), level(4, 3), level(4, 0), wait(0), told(0)),
                         row((4, 15, 2, 9, 3, 0)))

    def test_changed_it_wakes_up_new(self):
        calls = [OPENS, add(0, 4, 1, 2, 9), level(4, 3), wait(0), level(4, 1)]
        self.assertEqual(last(*calls, change(0, 4, 1, 2, 8)), waking(0, 0))
        self.assertEqual(last(*calls, change(0, 4, 1, 2, 8), told(0)), row((4, 1, 2, 8, 1, 0)))
        self.assertEqual(last(*calls, change(0, 4, 1, 2, 8), wait(0)), shown((8, 1)))
        self.assertEqual(last(*calls, change(0, 4, 1, 2, 8), wait(0), wait(0)), shown())
        self.assertEqual(last(*calls, change(0, 4, 2, 2, 8)), plain(0))

    def test_changed_by_edge_its_level_has_risen_again(self):
        calls = [OPENS, add(0, 4, 1, 1, 9), level(4, 3), wait(0)]
        self.assertEqual(last(*calls, change(0, 4, 2, 1, 8)), waking(0, 0))
        self.assertEqual(last(*calls, change(0, 4, 2, 1, 8), wait(0)), shown((8, 2)))

    def test_dropped_and_added_it_wakes_up_new(self):
        calls = [OPENS, add(0, 4, 1, 2, 9), level(4, 1), wait(0), drop(0, 4)]
        self.assertEqual(last(*calls, add(0, 4, 1, 2, 8)), waking(1, 0))

    def test_a_wait_changes_nothing_in_other_sets(self):
        calls = [OPENS, OPENS, add(0, 4, 1, 1, 1), add(1, 4, 1, 1, 2), add(0, 5, 1, 2, 3), add(1, 5, 1, 2, 4),
                 level(4, 1), level(5, 1), wait(0)]
        self.assertEqual(last(*calls, told(1)), row((4, 1, 1, 2, 1, 0), (5, 1, 2, 4, 1, 0)))
        self.assertEqual(last(*calls, wait(1)), shown((2, 1), (4, 1)))
        self.assertEqual(last(*calls, wait(0)), shown())

    def test_bits_that_nobody_wants_are_told_all_the_same(self):
        for mode in (0, 1, 2):
            self.assertEqual(last(OPENS, add(0, 4, 0, mode, 9), level(4, 15), wait(0)), shown((9, 12)), mode)
            self.assertEqual(last(OPENS, add(0, 4, 2, mode, 9), level(4, 15), wait(0)), shown((9, 14)), mode)

    def test_two_members_of_the_same_data_are_told_each(self):
        self.assertEqual(last(OPENS, add(0, 4, 1, 0, 9), add(0, 5, 1, 0, 9), level(4, 1), level(5, 1), wait(0)),
                         shown((9, 1), (9, 1)))

    def test_most_not_in_its_range(self):
        calls = watching(2, 1) + [level(0, 1)]
        for most in NOT_MOST:
            self.assertEqual(last(*calls, wait(0, most)), [-1], most)
        for most in (1, 64):
            self.assertEqual(last(*calls, wait(0, most)), shown((100, 1)), most)

    def test_no_such_set(self):
        for number in NO_SETS:
            self.assertEqual(last(OPENS, wait(number, 1)), [-2], number)

    def test_range_before_no_such_set(self):
        for number in NO_SETS:
            for most in NOT_MOST:
                self.assertEqual(last(OPENS, wait(number, most)), [-1], (number, most))

    def test_a_refusal_changes_nothing(self):
        calls = [OPENS, add(0, 4, 1, 1, 1), add(0, 5, 1, 2, 2), level(4, 1), level(5, 1)]
        given = ask(*calls, wait(0, 0), wait(0, 65), wait(1, 1), told(0))
        self.assertEqual(given[-4:], [[-1], [-1], [-2], row((4, 1, 1, 1, 1, 0), (5, 1, 2, 2, 1, 0))])


class Ready(unittest.TestCase):
    def test_whether_it_is(self):
        calls = [OPENS, add(0, 4, 1)]
        self.assertEqual(last(OPENS, ready(0)), plain(0))
        self.assertEqual(last(*calls, ready(0)), plain(0))
        self.assertEqual(last(*calls, level(4, 2), ready(0)), plain(0))
        self.assertEqual(last(*calls, level(4, 1), ready(0)), plain(1))
        self.assertEqual(last(*calls, level(4, 1), level(4, 2), ready(0)), plain(0))

    def test_in_the_three_modes_behind_a_wait(self):
        for mode, still in ((0, 1), (1, 0), (2, 0)):
            calls = [OPENS, add(0, 4, 1, mode), level(4, 1)]
            self.assertEqual(last(*calls, ready(0)), plain(1), mode)
            self.assertEqual(last(*calls, wait(0), ready(0)), plain(still), mode)

    def test_in_the_three_modes_when_it_goes_off(self):
        for mode, still in ((0, 0), (1, 1), (2, 0)):
            self.assertEqual(last(OPENS, add(0, 4, 1, mode), level(4, 1), level(4, 0), ready(0)), plain(still), mode)

    def test_by_an_error_or_an_end_that_nobody_wants(self):
        for bit in (4, 8):
            self.assertEqual(last(OPENS, add(0, 4, 0), level(4, bit), ready(0)), plain(1), bit)

    def test_by_any_member(self):
        for source in (0, 1, 2):
            self.assertEqual(last(*watching(3, 0), level(source, 1), ready(0)), plain(1), source)

    def test_a_wait_that_takes_fewer_leaves_it_ready(self):
        for mode in (1, 2):
            calls = watching(2, mode) + [level(0, 1), level(1, 1), wait(0, 1)]
            self.assertEqual(last(*calls, ready(0)), plain(1), mode)
            self.assertEqual(last(*calls, wait(0, 1), ready(0)), plain(0), mode)

    def test_asking_changes_nothing(self):
        calls = watching(2, 1) + [level(0, 1)]
        self.assertEqual(ask(*calls, ready(0), ready(0), told(0), ready(0), wait(0))[-5:],
                         [plain(1), plain(1), row((0, 1, 1, 100, 1, 0), (1, 1, 1, 101, 0, 0)), plain(1),
                          shown((100, 1))])

    def test_no_such_set(self):
        for number in NO_SETS:
            self.assertEqual(last(OPENS, ready(number)), [-2], number)
        self.assertEqual(last(OPENS, shut(0), ready(0)), [-2])


class Told(unittest.TestCase):
    def test_without_members(self):
        self.assertEqual(last(OPENS, told(0)), [0, 0, 0])

    def test_six_numbers_of_each_in_turn(self):
        calls = [OPENS, OPENS, add(0, 255, 15, 2, MOST_DATA), add(0, of_set(1), 3, 0, 5), add(0, 0, 0, 1, 0),
                 level(0, 15)]
        self.assertEqual(last(*calls, told(0)),
                         [3, 18, 255, 15, 2, MOST_DATA, 0, 0, 257, 3, 0, 5, 0, 0, 0, 0, 1, 0, 15, 0, 0])

    def test_bits_are_those_wanted_without_those_always_wanted(self):
        for bits in range(16):
            self.assertEqual(last(OPENS, add(0, 4, bits), told(0)), row((4, bits, 0, 0, 0, 0)))

    def test_of_a_set_nothing_has_ever_risen(self):
        calls = [OPENS, OPENS, add(1, 4, 1), level(4, 1), add(0, of_set(1), 1, 0, 5)]
        for more in ([], [wait(0)], [poke(4, 3)], [change(0, of_set(1), 1, 0, 5)]):
            self.assertEqual(last(*calls, *more, told(0)), row((257, 1, 0, 5, 0, 0)), more)

    def test_sixty_four_members(self):
        self.assertEqual(last(*watching(64, 2), told(0)), row(*[(source, 1, 2, 100 + source, 0, 0)
                                                                for source in range(64)]))

    def test_behind_change_drop_shut_gone_and_begins(self):
        calls = [OPENS, OPENS, add(0, 4, 1, 0, 1), add(0, of_set(1), 1, 0, 2), add(0, 5, 1, 1, 3), add(0, 6, 1, 2, 4),
                 level(5, 3), level(6, 1), wait(0)]
        first, inner, second, third = (4, 1, 0, 1, 0, 0), (257, 1, 0, 2, 0, 0), (5, 1, 1, 3, 0, 0), (6, 1, 2, 4, 1, 1)
        self.assertEqual(last(*calls, told(0)), row(first, inner, second, third))
        self.assertEqual(last(*calls, change(0, 5, 2, 1, 9), told(0)), row(first, inner, (5, 2, 1, 9, 3, 0), third))
        self.assertEqual(last(*calls, change(0, 6, 1, 2, 9), told(0)), row(first, inner, second, (6, 1, 2, 9, 1, 0)))
        self.assertEqual(last(*calls, drop(0, 4), told(0)), row(inner, second, third))
        self.assertEqual(last(*calls, shut(1), told(0)), row(first, second, third))
        self.assertEqual(last(*calls, gone(5), told(0)), row(first, inner, third))
        self.assertEqual(last(*calls, BEGINS, OPENS, told(0)), row())

    def test_telling_changes_nothing(self):
        calls = watching(2, 1) + [level(0, 1), told(0)]
        self.assertEqual(last(*calls, told(0)), last(*calls))

    def test_no_such_set(self):
        for number in NO_SETS:
            self.assertEqual(last(OPENS, told(number)), [-2], number)
        self.assertEqual(last(OPENS, shut(0), told(0)), [-2])


if __name__ == "__main__":
    unittest.main()
