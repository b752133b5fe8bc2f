"""The words behind the calls: levels, members in turn, what has risen, what shows, ready and woken sets."""

import unittest

from readysets.house import answer
from readysets.state import House, has_in_it, ready_sets, shows
from tests.calls import BEGINS, OPENS, add, change, drop, of_set, plain, shut


def house_with(levels, *calls):
    """A house with these levels on which these calls were carried out."""
    house = House()
    for source, level in levels.items():
        house.levels[source] = level
    for call in calls:
        answer(house, call)
    return house


def members(house, number):
    return [(member.source, member.bits, member.mode, member.data, member.risen, member.sleeps)
            for member in house.sets[number]]


def set_aside(house, number, source):
    """Puts a member to sleep with nothing risen, as a wait may leave it."""
    for member in house.sets[number]:
        if member.source == source:
            member.risen = 0
            member.sleeps = True


class Members(unittest.TestCase):
    def test_a_member_more_stands_behind_all(self):
        house = house_with({}, OPENS, OPENS, add(0, 9, 3, 2, 70), add(0, of_set(1), 1, 0, 60), add(0, 4, 0, 1, 50))
        self.assertEqual(members(house, 0), [(9, 3, 2, 70, 0, False), (257, 1, 0, 60, 0, False),
                                             (4, 0, 1, 50, 0, False)])

    def test_of_a_new_member_the_whole_level_has_risen(self):
        house = house_with({4: 11}, OPENS, add(0, 4, 2, 0, 5))
        self.assertEqual(members(house, 0), [(4, 2, 0, 5, 11, False)])

    def test_of_a_new_set_nothing_has_risen(self):
        house = house_with({1: 15}, OPENS, OPENS, add(1, 1, 15), add(0, of_set(1), 15))
        self.assertEqual(members(house, 0), [(257, 15, 0, 0, 0, False)])

    def test_changed_in_its_place_and_new(self):
        house = house_with({4: 6}, OPENS, add(0, 3), add(0, 4, 1, 2, 8), add(0, 5))
        set_aside(house, 0, 4)
        self.assertEqual(answer(house, change(0, 4, 2, 1, 9)), [0, 0, 1, 0])
        self.assertEqual(members(house, 0), [(3, 0, 0, 0, 0, False), (4, 2, 1, 9, 6, False), (5, 0, 0, 0, 0, False)])

    def test_a_set_changed(self):
        house = house_with({}, OPENS, OPENS, add(0, of_set(1), 3, 0, 8), add(0, 5), change(0, of_set(1), 1, 0, 9))
        self.assertEqual(members(house, 0), [(257, 1, 0, 9, 0, False), (5, 0, 0, 0, 0, False)])

    def test_refusals_change_nothing(self):
        calls = (BEGINS, *[OPENS] * 16, add(0, 4, 1, 2, 8), add(0, of_set(1)))
        refused = (OPENS, shut(16), add(0, 4, 3, 0, 1), add(0, 272), add(0, 9, 16), add(1, of_set(0)),
                   add(0, of_set(2), 0, 1), change(0, 4, 3, 3, 1), change(0, of_set(1), 1, 1, 1), change(0, 9),
                   drop(0, 9), drop(0, 272), drop(16, 4))
        house = house_with({4: 6}, *calls)
        set_aside(house, 0, 4)
        before = {number: members(house, number) for number in house.sets}
        for call in refused:
            self.assertLess(answer(house, call)[0], 0, call)
        self.assertEqual({number: members(house, number) for number in house.sets}, before)

    def test_dropped_members_leave_the_others_in_turn(self):
        house = house_with({}, OPENS, add(0, 3), add(0, 4), add(0, 5), drop(0, 4))
        self.assertEqual([member.source for member in house.sets[0]], [3, 5])

    def test_a_shut_set_leaves_the_others_in_turn(self):
        house = house_with({}, OPENS, OPENS, add(0, 3), add(0, of_set(1)), add(0, 5), shut(1))
        self.assertEqual([member.source for member in house.sets[0]], [3, 5])

    def test_begins_puts_all_levels_to_nought(self):
        house = house_with({0: 15, 4: 1, 255: 8}, OPENS, add(0, 4))
        self.assertEqual(answer(house, BEGINS), plain(0))
        self.assertEqual(house.levels, [0] * 256)
        self.assertEqual(house.sets, {})

    def test_drop_and_shut_leave_levels(self):
        house = house_with({4: 3}, OPENS, OPENS, add(0, 4), add(1, 4), drop(0, 4), shut(1))
        self.assertEqual(house.levels[4], 3)


class HasInIt(unittest.TestCase):
    def test_straight_and_through_others(self):
        house = house_with({}, *[OPENS] * 4, add(2, of_set(0)), add(0, of_set(1)))
        pairs = [(outer, inner) for outer in range(4) for inner in range(4) if has_in_it(house, outer, inner)]
        self.assertEqual(pairs, [(0, 1), (2, 0), (2, 1)])


class Shows(unittest.TestCase):
    def shown(self, level, bits, mode, risen=None, sleeps=False):
        house = house_with({4: level}, OPENS, add(0, 4, bits, mode))
        member = house.sets[0][0]
        member.risen = level if risen is None else risen
        member.sleeps = sleeps
        return shows(house, member, {})

    def test_by_level_what_is_on_and_watched(self):
        self.assertEqual(self.shown(15, 0, 0), 12)
        self.assertEqual(self.shown(3, 0, 0), 0)
        self.assertEqual(self.shown(7, 1, 0), 5)
        self.assertEqual(self.shown(3, 2, 0, risen=0), 2)
        self.assertEqual(self.shown(0, 15, 0, risen=15), 0)

    def test_by_edge_what_has_risen_and_is_watched(self):
        self.assertEqual(self.shown(0, 0, 1, risen=15), 12)
        self.assertEqual(self.shown(15, 1, 1, risen=3), 1)
        self.assertEqual(self.shown(15, 15, 1, risen=0), 0)

    def test_once_what_is_on_and_watched(self):
        self.assertEqual(self.shown(11, 1, 2, risen=0), 9)
        self.assertEqual(self.shown(0, 15, 2, risen=15), 0)

    def test_one_that_sleeps(self):
        self.assertEqual(self.shown(15, 15, 2, sleeps=True), 0)
        self.assertEqual(self.shown(15, 15, 1, sleeps=True), 0)

    def test_a_set_shows_1_if_it_is_ready_and_that_is_watched(self):
        house = house_with({}, OPENS, OPENS, OPENS, add(0, of_set(1), 15), add(0, of_set(2), 14))
        first, second = house.sets[0]
        self.assertEqual(shows(house, first, {1: True, 2: True}), 1)
        self.assertEqual(shows(house, second, {1: True, 2: True}), 0)
        self.assertEqual(shows(house, first, {2: True}), 0)


class ReadyAndWoken(unittest.TestCase):
    def test_an_add_wakes_its_set(self):
        house = house_with({4: 1}, OPENS, OPENS)
        self.assertEqual(answer(house, add(1, 4, 2)), plain(1))
        self.assertEqual(answer(house, add(0, 4, 1)), [1, 0, 1, 0])
        self.assertEqual(list(ready_sets(house)), [0])

    def test_errors_and_ends_are_always_wanted(self):
        for level in (4, 8):
            self.assertEqual(answer(house_with({4: level}, OPENS), add(0, 4, 0, 1)), [1, 0, 1, 0])

    def test_a_set_that_was_ready_is_not_woken(self):
        house = house_with({4: 1, 5: 1}, OPENS, add(0, 4, 1))
        self.assertEqual(answer(house, add(0, 5, 1)), plain(2))

    def test_a_change_wakes_its_set(self):
        house = house_with({4: 1}, OPENS, add(0, 4, 2))
        self.assertEqual(answer(house, change(0, 4, 1)), [0, 0, 1, 0])
        self.assertEqual(answer(house, change(0, 4, 3, 1)), plain(0))
        self.assertEqual(answer(house, change(0, 4, 2)), plain(0))
        self.assertEqual(answer(house, change(0, 4, 1, 2)), [0, 0, 1, 0])

    def test_woken_sets_are_told_rising_through_all_they_stand_in(self):
        chain = [OPENS] * 16 + [add(number - 1, of_set(number), 1) for number in range(1, 16)]
        house = house_with({4: 1}, *chain)
        self.assertEqual(answer(house, add(15, 4, 1)), [1, 0, 16] + list(range(16)))
        self.assertEqual(sorted(ready_sets(house)), list(range(16)))
        self.assertEqual(answer(house, drop(15, 4)), plain(0))
        self.assertEqual(ready_sets(house), {})

    def test_a_row_the_other_way_round(self):
        chain = [OPENS] * 16 + [add(number, of_set(number - 1), 1) for number in range(1, 16)]
        self.assertEqual(answer(house_with({4: 1}, *chain), add(0, 4, 1)), [1, 0, 16] + list(range(16)))

    def test_sets_opened_in_another_order_are_told_rising(self):
        house = house_with({4: 1}, OPENS, OPENS, OPENS, shut(0), OPENS, add(0, of_set(2), 1), add(1, of_set(2), 1))
        self.assertEqual(answer(house, add(2, 4, 1)), [1, 0, 3, 0, 1, 2])

    def test_a_set_that_does_not_watch_1_is_not_woken(self):
        house = house_with({4: 15}, OPENS, OPENS, OPENS, add(0, of_set(1), 14), add(2, of_set(0), 1))
        self.assertEqual(answer(house, add(1, 4, 1)), [1, 0, 1, 1])
        self.assertEqual(answer(house, change(0, of_set(1), 1)), [0, 0, 2, 0, 2])

    def test_adding_a_ready_set_wakes(self):
        house = house_with({4: 1}, OPENS, OPENS, add(1, 4, 1))
        self.assertEqual(answer(house, add(0, of_set(1), 1)), [1, 0, 1, 0])

    def test_shut_and_begins_wake_nobody(self):
        house = house_with({4: 1}, OPENS, OPENS, add(1, 4, 1), add(0, of_set(1), 1))
        self.assertEqual(answer(house, shut(1)), plain(0))
        self.assertEqual(ready_sets(house), {})
        self.assertEqual(answer(house, OPENS), plain(1))
        self.assertEqual(answer(house, add(1, 4, 1)), [1, 0, 1, 1])
        self.assertEqual(answer(house, BEGINS), plain(0))

    def test_a_set_that_shows_again_is_woken_again(self):
        house = house_with({4: 1}, OPENS, add(0, 4, 1, 2))
        set_aside(house, 0, 4)
        self.assertEqual(ready_sets(house), {})
        self.assertEqual(answer(house, change(0, 4, 1, 2)), [0, 0, 1, 0])


if __name__ == "__main__":
    unittest.main()
