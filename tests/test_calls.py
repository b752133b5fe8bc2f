"""Points 1 to 6 through the interface: ordinary inputs, edges, refusals and their order."""

import unittest

from readysets.house import answers
from tests.calls import (BEGINS, GREATEST, LEAST, MOST_DATA, OPENS, add, ask, change, drop, last, of_set,
                         plain, shut)

ALL_OPEN = [OPENS] * 16
NO_SETS = (LEAST, -1, 1, 15, 16, 256, GREATEST)


class Interface(unittest.TestCase):
    def test_each_answer_stands_behind_its_count(self):
        self.assertEqual(answers([0]), [3, 0, 0, 0])
        self.assertEqual(answers([0, 1, 1, 2, 5, 2, 0]), [3, 0, 0, 0, 3, 0, 0, 0, 3, 1, 0, 0, 1, -2, 3, 0, 0, 0])

    def test_calls_are_written_as_the_document_says(self):
        calls = [1, 3, 0, 7, 1, 0, 99, 4, 0, 7, 2, 1, 98, 5, 0, 7, 2, 0]
        self.assertEqual(answers(calls), [3, 0, 0, 0, 3, 1, 0, 0, 3, 0, 0, 0, 3, 0, 0, 0, 3, 0, 0, 0])

    def test_answers_are_whole_numbers_in_a_list(self):
        given = answers(OPENS + add(0, 1) + add(0, 1) + BEGINS)
        self.assertIs(type(given), list)
        self.assertEqual({type(number) for number in given}, {int})

    def test_the_list_handed_in_stays_and_nothing_is_kept(self):
        calls = OPENS + OPENS + add(0, of_set(1)) + add(0, 3, 1, 1, 5) + change(0, 3) + drop(0, 3) + shut(1) + OPENS
        before = list(calls)
        first = answers(calls)
        self.assertEqual(calls, before)
        self.assertEqual(answers(calls), first)
        self.assertEqual(answers(OPENS), [3, 0, 0, 0])
        self.assertEqual(calls, before)

    def test_the_list_given_back_is_a_new_one(self):
        calls = OPENS + add(0, 1)
        first = answers(calls)
        kept = list(first)
        first.append(7)
        self.assertEqual(answers(calls), kept)

    def test_three_hundred_calls(self):
        self.assertEqual(ask(*[BEGINS, OPENS, shut(0)] * 100), [plain(0)] * 300)


class Begins(unittest.TestCase):
    def test_at_first_there_is_no_set(self):
        for number in range(16):
            self.assertEqual(ask(shut(number)), [[-2]])

    def test_no_set_is_there_any_more(self):
        given = ask(*ALL_OPEN, BEGINS, *[shut(number) for number in range(16)], OPENS)
        self.assertEqual(given[16:], [plain(0)] + [[-2]] * 16 + [plain(0)])

    def test_a_set_opened_afterwards_has_no_members(self):
        self.assertEqual(last(OPENS, add(0, 1), add(0, 2), BEGINS, OPENS, add(0, 1)), plain(1))


class Opens(unittest.TestCase):
    def test_numbers_rise_to_the_sixteenth(self):
        self.assertEqual(ask(*ALL_OPEN), [plain(number) for number in range(16)])

    def test_the_seventeenth_is_refused_and_changes_nothing(self):
        given = ask(*ALL_OPEN, OPENS, OPENS, shut(9), OPENS, OPENS)
        self.assertEqual(given[16:], [[-5], [-5], plain(0), plain(9), [-5]])

    def test_the_least_free_number(self):
        given = ask(*ALL_OPEN, shut(7), shut(3), shut(15), shut(0), OPENS, OPENS, OPENS, OPENS, OPENS)
        self.assertEqual(given[20:], [plain(0), plain(3), plain(7), plain(15), [-5]])

    def test_a_number_taken_again_is_without_members(self):
        self.assertEqual(last(OPENS, add(0, 1), shut(0), OPENS, add(0, 2)), plain(1))
        self.assertEqual(ask(OPENS, add(0, 1), shut(0), OPENS, drop(0, 1))[-1], [-2])


class Shut(unittest.TestCase):
    def test_it_is_none_any_more(self):
        given = ask(OPENS, shut(0), shut(0), add(0, 1), change(0, 1), drop(0, 1))
        self.assertEqual(given[1:], [plain(0), [-2], [-2], [-2], [-2]])

    def test_others_stay(self):
        given = ask(OPENS, OPENS, OPENS, add(0, 1), add(2, 1), shut(1), add(0, 2), add(2, 2), shut(1))
        self.assertEqual(given[5:], [plain(0), plain(2), plain(2), [-2]])

    def test_it_is_no_sets_member_any_more(self):
        given = ask(OPENS, OPENS, OPENS, add(0, of_set(2)), add(0, 5), add(1, of_set(2)), shut(2),
                    change(0, of_set(2)), drop(1, of_set(2)), add(0, 6), add(1, 6))
        self.assertEqual(given[6:], [plain(0), [-2], [-2], plain(2), plain(1)])

    def test_a_number_taken_again_is_not_a_member_by_that(self):
        given = ask(OPENS, OPENS, add(0, of_set(1)), shut(1), OPENS, drop(0, of_set(1)), add(0, of_set(1)))
        self.assertEqual(given[4:], [plain(1), [-2], plain(1)])

    def test_the_way_through_it_is_gone(self):
        chain = [OPENS, OPENS, OPENS, add(0, of_set(1)), add(1, of_set(2))]
        self.assertEqual(last(*chain, add(2, of_set(0))), [-3])
        self.assertEqual(last(*chain, shut(1), add(2, of_set(0))), plain(1))

    def test_a_source_of_that_number_stays_a_member(self):
        self.assertEqual(last(OPENS, OPENS, add(0, 1), add(0, of_set(1)), shut(1), drop(0, 1)), plain(0))

    def test_refused_where_no_set_is(self):
        for number in NO_SETS:
            self.assertEqual(last(OPENS, shut(number)), [-2], number)


class Add(unittest.TestCase):
    def test_answers_how_many_members_there_are(self):
        given = ask(OPENS, OPENS, add(0, 9), add(0, 4, 15, 1, 7), add(1, 9, 3, 2, 7), add(0, of_set(1), 1))
        self.assertEqual(given[2:], [plain(1), plain(2), plain(1), plain(3)])

    def test_ends_of_the_ranges(self):
        for call in (add(0, 0), add(0, 255), add(0, 3, 15), add(0, 3, 0, 2), add(0, 3, 15, 2, MOST_DATA)):
            self.assertEqual(last(OPENS, call), plain(1), call)
        self.assertEqual(last(*ALL_OPEN, add(0, 271)), plain(1))
        self.assertEqual(last(*ALL_OPEN, add(15, 256)), plain(1))

    def test_numbers_not_in_their_range(self):
        for source in (LEAST, -1, 272, GREATEST):
            self.assertEqual(last(*ALL_OPEN, add(0, source)), [-1], source)
        for bits in (LEAST, -1, 16, GREATEST):
            self.assertEqual(last(OPENS, add(0, 3, bits)), [-1], bits)
        for mode in (LEAST, -1, 3, GREATEST):
            self.assertEqual(last(OPENS, add(0, 3, 0, mode)), [-1], mode)

    def test_no_such_set(self):
        for number in NO_SETS:
            self.assertEqual(last(OPENS, add(number, 3)), [-2], number)

    def test_a_set_that_is_added_is_not_there(self):
        for source in (257, 271):
            self.assertEqual(last(OPENS, add(0, source)), [-2], source)
        self.assertEqual(last(OPENS, OPENS, shut(1), add(0, 257)), [-2])

    def test_255_is_a_source_and_256_a_set(self):
        self.assertEqual(last(OPENS, add(0, 255, 0, 1)), plain(1))
        self.assertEqual(last(OPENS, OPENS, add(1, 256, 0, 0)), plain(1))
        self.assertEqual(last(OPENS, OPENS, add(1, 256, 0, 1)), [-3])

    def test_a_set_by_edge_or_once(self):
        for mode in (1, 2):
            self.assertEqual(last(OPENS, OPENS, add(0, of_set(1), 1, mode)), [-3], mode)

    def test_the_set_itself(self):
        self.assertEqual(last(OPENS, add(0, of_set(0))), [-3])
        self.assertEqual(last(*ALL_OPEN, add(15, of_set(15))), [-3])

    def test_a_set_that_has_that_in_it(self):
        self.assertEqual(last(OPENS, OPENS, add(0, of_set(1)), add(1, of_set(0))), [-3])

    def test_a_set_in_a_set_in_a_set(self):
        chain = [OPENS, OPENS, OPENS, add(2, of_set(0)), add(0, of_set(1))]
        self.assertEqual(last(*chain, add(1, of_set(2))), [-3])
        self.assertEqual(last(*chain, add(2, of_set(1))), plain(2))

    def test_a_row_of_all_sets(self):
        row = [add(number, of_set(number + 1)) for number in range(15)]
        self.assertEqual(last(*ALL_OPEN, *row), plain(1))
        self.assertEqual(last(*ALL_OPEN, *row, add(15, of_set(0))), [-3])
        self.assertEqual(last(*ALL_OPEN, *row, add(0, of_set(15))), plain(2))

    def test_each_set_in_all_before_it(self):
        pairs = [add(outer, of_set(inner)) for outer in range(16) for inner in range(outer + 1, 16)]
        given = ask(*ALL_OPEN, *pairs, *[add(inner, of_set(0)) for inner in range(1, 16)])
        self.assertEqual(given[16 + len(pairs):], [[-3]] * 15)
        self.assertTrue(all(answered[0] > 0 for answered in given[16:16 + len(pairs)]))

    def test_one_set_in_two_sets_of_one(self):
        calls = [OPENS] * 4 + [add(0, of_set(1)), add(0, of_set(2)), add(1, of_set(3)), add(2, of_set(3))]
        self.assertEqual(last(*calls), plain(1))
        self.assertEqual(last(*calls, add(3, of_set(0))), [-3])

    def test_a_dropped_set_is_not_in_it_any_more(self):
        self.assertEqual(last(OPENS, OPENS, add(0, of_set(1)), drop(0, of_set(1)), add(1, of_set(0))), plain(1))

    def test_a_member_already(self):
        given = ask(OPENS, OPENS, add(0, 3), add(0, 3, 1, 1, 1), add(0, of_set(1)), add(0, of_set(1), 1), add(0, 4))
        self.assertEqual(given[2:], [plain(1), [-4], plain(2), [-4], plain(3)])

    def test_sixty_four_members(self):
        full = [OPENS, OPENS] + [add(0, source) for source in range(64)]
        self.assertEqual(last(*full), plain(64))
        self.assertEqual(last(*full, add(0, 64)), [-5])
        self.assertEqual(last(*full, add(0, of_set(1))), [-5])
        self.assertEqual(last(*full, add(1, 64)), plain(1))
        self.assertEqual(last(*full, drop(0, 10), add(0, 64)), plain(64))

    def test_a_refusal_changes_nothing(self):
        given = ask(OPENS, OPENS, add(0, 272), add(0, 3, 16), add(0, 3, 0, 3), add(0, 258), add(0, of_set(1), 0, 1),
                    add(0, of_set(0)), add(0, 3), drop(0, of_set(1)))
        self.assertEqual(given[-2:], [plain(1), [-2]])


class AddRefusalsInOrder(unittest.TestCase):
    def setUp(self):
        self.full = [OPENS] * 3 + [add(1, of_set(0))] + [add(0, source) for source in range(64)]

    def test_range_before_no_such_set(self):
        for call in (add(5, 272), add(5, 3, 16), add(5, 3, 0, 3), add(LEAST, -1, -1, -1)):
            self.assertEqual(last(OPENS, call), [-1], call)

    def test_range_before_a_set_not_there_and_a_set_not_allowed(self):
        self.assertEqual(last(OPENS, add(0, 271, 16)), [-1])
        self.assertEqual(last(OPENS, add(0, of_set(0), 16)), [-1])
        self.assertEqual(last(OPENS, OPENS, add(0, of_set(1), 0, 3)), [-1])

    def test_range_before_a_member_already_and_full(self):
        self.assertEqual(last(*self.full, add(0, 3, 16)), [-1])
        self.assertEqual(last(*self.full, add(0, 100, 0, -1)), [-1])

    def test_not_there_before_a_set_not_allowed(self):
        self.assertEqual(last(OPENS, add(0, 271, 0, 1)), [-2])
        self.assertEqual(last(OPENS, add(5, of_set(0), 0, 1)), [-2])
        self.assertEqual(last(OPENS, add(5, of_set(5))), [-2])

    def test_not_there_before_full(self):
        self.assertEqual(last(*self.full, add(0, 271)), [-2])

    def test_a_set_not_allowed_before_a_member_already(self):
        self.assertEqual(last(OPENS, OPENS, add(0, of_set(1)), add(0, of_set(1), 0, 2)), [-3])

    def test_a_set_not_allowed_before_full(self):
        for call in (add(0, of_set(0)), add(0, of_set(1)), add(0, of_set(2), 0, 1)):
            self.assertEqual(last(*self.full, call), [-3], call)

    def test_a_member_already_before_full(self):
        self.assertEqual(last(*self.full, add(0, 63)), [-4])


class Change(unittest.TestCase):
    def test_answers_nought(self):
        given = ask(OPENS, OPENS, add(0, 3), add(0, of_set(1)), change(0, 3, 15, 2, MOST_DATA), change(0, of_set(1), 1))
        self.assertEqual(given[4:], [plain(0), plain(0)])

    def test_there_are_as_many_members_as_before(self):
        self.assertEqual(last(OPENS, add(0, 3), add(0, 4), change(0, 3, 1), add(0, 5)), plain(3))

    def test_ends_of_the_ranges(self):
        for source in (0, 255):
            self.assertEqual(last(OPENS, add(0, source), change(0, source, 15, 2)), plain(0), source)
        self.assertEqual(last(*ALL_OPEN, add(0, 271), change(0, 271, 15)), plain(0))
        self.assertEqual(last(*ALL_OPEN, add(15, 256), change(15, 256, 0)), plain(0))

    def test_numbers_not_in_their_range(self):
        for source in (LEAST, -1, 272, GREATEST):
            self.assertEqual(last(OPENS, change(0, source)), [-1], source)
        for bits in (LEAST, -1, 16, GREATEST):
            self.assertEqual(last(OPENS, add(0, 3), change(0, 3, bits)), [-1], bits)
        for mode in (LEAST, -1, 3, GREATEST):
            self.assertEqual(last(OPENS, add(0, 3), change(0, 3, 0, mode)), [-1], mode)

    def test_no_such_set(self):
        for number in NO_SETS:
            self.assertEqual(last(OPENS, add(0, 3), change(number, 3)), [-2], number)

    def test_no_member(self):
        calls = [OPENS, OPENS, add(0, 3), add(1, 4)]
        for source in (4, 0, 255, of_set(0), of_set(1), 271):
            self.assertEqual(last(*calls, change(0, source)), [-2], source)
        self.assertEqual(last(*calls, drop(0, 3), change(0, 3)), [-2])

    def test_a_set_by_edge_or_once(self):
        for mode in (1, 2):
            self.assertEqual(last(OPENS, OPENS, add(0, of_set(1)), change(0, of_set(1), 1, mode)), [-3], mode)

    def test_refusals_in_order(self):
        calls = [OPENS, OPENS, add(0, of_set(1))]
        self.assertEqual(last(*calls, change(5, 272)), [-1])
        self.assertEqual(last(*calls, change(5, 3, 16)), [-1])
        self.assertEqual(last(*calls, change(0, 3, 0, 3)), [-1])
        self.assertEqual(last(*calls, change(0, of_set(1), 16, 1)), [-1])
        self.assertEqual(last(*calls, change(0, of_set(1), 0, 3)), [-1])
        self.assertEqual(last(*calls, change(5, of_set(1), 0, 1)), [-2])
        self.assertEqual(last(*calls, change(1, of_set(0), 0, 1)), [-2])
        self.assertEqual(last(*calls, change(0, of_set(0), 0, 1)), [-2])


class Drop(unittest.TestCase):
    def test_it_is_no_member_any_more(self):
        given = ask(OPENS, add(0, 3), add(0, 4), drop(0, 3), drop(0, 3), change(0, 3), add(0, 3))
        self.assertEqual(given[3:], [plain(0), [-2], [-2], plain(2)])

    def test_other_members_and_other_sets_stay(self):
        given = ask(OPENS, OPENS, add(0, 3), add(0, 4), add(1, 3), drop(0, 3), change(0, 4), change(1, 3))
        self.assertEqual(given[5:], [plain(0), plain(0), plain(0)])

    def test_a_set_that_is_dropped_stays_a_set(self):
        given = ask(OPENS, OPENS, add(0, of_set(1)), drop(0, of_set(1)), add(1, 3), shut(1))
        self.assertEqual(given[3:], [plain(0), plain(1), plain(0)])

    def test_ends_of_the_range(self):
        for source in (0, 255):
            self.assertEqual(last(OPENS, add(0, source), drop(0, source)), plain(0), source)
        self.assertEqual(last(*ALL_OPEN, add(0, 271), drop(0, 271)), plain(0))
        self.assertEqual(last(*ALL_OPEN, add(15, 256), drop(15, 256)), plain(0))

    def test_not_in_range_comes_first(self):
        for source in (LEAST, -1, 272, GREATEST):
            self.assertEqual(last(OPENS, drop(0, source)), [-1], source)
            self.assertEqual(last(OPENS, drop(5, source)), [-1], source)

    def test_no_such_set_or_member(self):
        for number in NO_SETS:
            self.assertEqual(last(OPENS, add(0, 3), drop(number, 3)), [-2], number)
        for source in (4, 0, 255, of_set(0), of_set(1), 271):
            self.assertEqual(last(OPENS, OPENS, add(0, 3), add(1, 4), drop(0, source)), [-2], source)


if __name__ == "__main__":
    unittest.main()
