"""The interface: one list of calls in, one list of answers out."""

import unittest

from calling import (BIG, add, alias, ask, begin, copy, drop, facts, flush, joined, let_pass,
                     number, query, records, remove, switch, transfer, zone)
from netnames.net import answers

EACH_CALL = [begin(2, 1, [0]), zone(0, 60, []), number(5), copy(1, 0, 9, []), number(6),
             transfer(1, []), remove(0, 0, 1, [], [5], [7]), drop(1, []), switch(1, 0),
             let_pass(3), query(0, 1, [6]), ask(0, 1, [6]), records(0, []), facts(0), flush(0)]


class TheList(unittest.TestCase):

    def test_calls_by_their_numbers(self):
        calls = [1, 3, 1, 1, 0,
                 2, 0, 60, 1, 8,
                 5, 0, 1, 2, 30, 1, 8, 2, 8, 9, 2, 4, 5,
                 3, 1, 0, 70, 1, 8,
                 6, 0, 2, 2, 1, 8, 2, 8, 9, 2, 4, 5,
                 7, 1, 1, 8,
                 7, 1, 1, 8,
                 4, 0, 1, 8]
        self.assertEqual(answers(calls), [1, 3, 1, 1, 1, 2, 1, 2, 1, 3, 3, 1, 3, 1, 3, 0, 3, 0,
                                          1, 0])

    def test_calls_8_to_14_by_their_numbers(self):
        calls = [8, 1, 0,
                 9, 40,
                 5, 0, 0, 2, 30, 0, 1, 4, 2, 6, 7,
                 10, 0, 1, 1, 4,
                 11, 0, 2, 1, 4,
                 12, 0, 0,
                 13, 0,
                 14, 0,
                 13, 0]
        self.assertEqual(answers(calls), [1, 0,
                                          1, 40,
                                          1, 2,
                                          8, 3, 2, 30, 1, 2, 6, 7, 0,
                                          6, 1, 30, 1, 2, 6, 7,
                                          10, 2, 1, 1, 1, 4, 2, 30, 2, 6, 7,
                                          15, 2, 30, 1, 4, 2, 4, 2, 6, 7, 60, 2, 6, 7, 0, 3,
                                          1, 2,
                                          1, 0])

    def test_query_of_a_name_that_there_is_not(self):
        self.assertEqual(answers([10, 0, 1, 1, 7]), [5, 3, 1, 60, 0, 0])

    def test_what_is_answered_alone(self):
        self.assertEqual(answers([11, 1, 1, 0]), [1, 0])
        self.assertEqual(answers([13, 0]), [1, 0])
        self.assertEqual(answers([14, 0]), [1, 0])
        self.assertEqual(answers([9, 100000]), [1, 100000])
        self.assertEqual(answers([8, 0, 0]), [1, 0])

    def test_a_refusal_is_its_number_alone(self):
        self.assertEqual(answers(drop(9, [])), [1, -2])
        self.assertEqual(answers(transfer(0, [])), [1, -6])
        self.assertEqual(answers(switch(0, 1)), [1, -4])
        self.assertEqual(answers(let_pass(0)), [1, -1])
        self.assertEqual(answers(query(0, 3, [])), [1, -1])
        self.assertEqual(answers(joined([switch(0, 0), ask(0, 1, [])])), [1, 0, 1, -6])
        self.assertEqual(answers(records(1, [])), [1, -3])
        self.assertEqual(answers(facts(1)), [1, -2])
        self.assertEqual(answers(flush(1)), [1, -2])

    def test_what_transfer_answers_has_its_count_ahead(self):
        nine = [number(5)] * 9
        self.assertEqual(answers(joined([copy(1, 0, 9, []), transfer(1, [])]))[2:], [3, 0, 1, 0])
        self.assertEqual(answers(joined([copy(1, 0, 9, []), number(5), transfer(1, [])]))[4:],
                         [3, 1, 2, 1])
        self.assertEqual(answers(joined([copy(1, 0, 9, []), *nine, transfer(1, [])]))[20:],
                         [3, 2, 10, 1])

    def test_it_gives_back_a_list_of_whole_numbers(self):
        given = answers(joined(EACH_CALL))
        self.assertIs(type(given), list)
        self.assertEqual({type(one) for one in given}, {int})

    def test_sixty_calls(self):
        calls = [number(label) for label in range(1, 31)] * 2
        self.assertEqual(answers(joined(calls)), joined([[1, serial] for serial in range(2, 62)]))

    def test_sixty_calls_of_one_cache(self):
        calls = [query(0, 1, [label]) for label in range(1, 31)] * 2
        self.assertEqual(answers(joined(calls)),
                         [5, 3, 1, 60, 0, 0] * 30 + [5, 3, 0, 60, 0, 0] * 30)
        learnt = answers(joined(calls[:59] + [facts(0)]))[59 * 6:]
        self.assertEqual(learnt[:2], [1 + 30 * 5, 30])
        self.assertEqual(learnt[2:], joined([[60, 1, label, 0, 3] for label in range(1, 31)]))

    def test_numbers_and_lists_as_large_as_may_be(self):
        much = [BIG] * 1024
        self.assertEqual(answers(begin(BIG, BIG, much)), [1, -1])
        self.assertEqual(answers(zone(0, BIG, much)), [1, -1])
        self.assertEqual(answers(zone(BIG, BIG, much)), [1, -2])
        self.assertEqual(answers(copy(1, 0, BIG, much)), [1, -3])
        self.assertEqual(answers(copy(BIG, BIG, BIG, much)), [1, -2])
        self.assertEqual(answers(drop(0, much)), [1, -3])
        self.assertEqual(answers(add(0, BIG, BIG, BIG, much, much, much)), [1, -3])
        self.assertEqual(answers(add(0, BIG, BIG, BIG, [], much, much)), [1, -1])
        self.assertEqual(answers(remove(0, BIG, BIG, [], much, much)), [1, -7])
        self.assertEqual(answers(remove(0, 0, BIG, [], much, much)), [1, -4])
        self.assertEqual(answers(transfer(0, much)), [1, -3])
        self.assertEqual(answers(switch(BIG, BIG)), [1, -2])
        self.assertEqual(answers(switch(0, BIG)), [1, -1])
        self.assertEqual(answers(let_pass(BIG)), [1, -1])
        self.assertEqual(answers(query(BIG, BIG, much)), [1, -2])
        self.assertEqual(answers(query(0, BIG, [])), [1, -1])
        self.assertEqual(answers(query(0, 1, much)), [1, -1])
        self.assertEqual(answers(ask(BIG, BIG, much)), [1, -2])
        self.assertEqual(answers(ask(0, BIG, [])), [1, -1])
        self.assertEqual(answers(ask(0, 1, much)), [1, -1])
        self.assertEqual(answers(records(0, much)), [1, -3])
        self.assertEqual(answers(facts(BIG)), [1, -2])
        self.assertEqual(answers(flush(BIG)), [1, -2])

    def test_a_list_of_5000_numbers(self):
        much = list(range(1024))
        long = [add(0, 0, 2, 1, much, much, much), remove(0, 0, 2, [], much, much), number(5)]
        self.assertEqual(answers(joined(long)), [1, -3, 1, -4, 1, 2])

    def test_empty_lists(self):
        self.assertEqual(answers(joined([begin(2, 1, []), add(0, 0, 1, 1, [], [], []),
                                         add(0, 0, 2, 1, [], [], []),
                                         remove(0, 0, 2, [], [], [])])),
                         [1, -1, 1, -1, 1, 2, 1, 3])


class NothingIsKept(unittest.TestCase):

    def test_what_is_handed_in_is_as_it_was(self):
        for call in EACH_CALL + [begin(9, 1, [0]), zone(9, 60, [1]), transfer(0, [])]:
            calls = joined([number(1), call, call])
            was = list(calls)
            answers(calls)
            self.assertEqual(calls, was)

    def test_what_is_given_back_is_another_list(self):
        calls = joined(EACH_CALL)
        given = answers(calls)
        given.clear()
        self.assertEqual(calls, joined(EACH_CALL))
        self.assertNotEqual(answers(calls), [])

    def test_each_time_is_as_the_first_time(self):
        for call in EACH_CALL:
            first = answers(call)
            answers(joined(EACH_CALL + [number(1), begin(1, 1, [0])]))
            self.assertEqual(answers(call), first)

    def test_one_does_not_know_of_the_one_ahead(self):
        self.assertEqual(answers(number(5)), [1, 2])
        self.assertEqual(answers(number(5)), [1, 2])
        self.assertEqual(answers(zone(1, 60, [4])), [1, 1])
        self.assertEqual(answers(zone(1, 60, [4])), [1, 1])
        self.assertEqual(answers(begin(1, 1, [0])), [1, 1])
        self.assertEqual(answers(zone(1, 60, [4])), [1, 1])

    def test_caches_times_and_servers_that_are_down_are_not_kept(self):
        for turn in range(2):
            self.assertEqual(answers(query(0, 1, [7])), [5, 3, 1, 60, 0, 0])
            self.assertEqual(answers(facts(0)), [1, 0])
            self.assertEqual(answers(let_pass(5)), [1, 5])
            self.assertEqual(answers(switch(0, 0)), [1, 0])


class TheNet(unittest.TestCase):

    def test_calls_on_the_same_net_come_one_behind_another(self):
        self.assertEqual(answers(joined([number(5), number(6), copy(1, 0, 9, [])])),
                         [1, 2, 1, 3, 1, 3])

    def test_begin_in_the_middle_makes_all_anew(self):
        calls = [number(5), begin(1, 1, [0]), number(5), zone(0, 60, []), number(5)]
        self.assertEqual(answers(joined(calls)), [1, 2, 1, 1, 1, -3, 1, 1, 1, 2])

    def test_begin_in_the_middle_makes_caches_servers_and_the_time_anew(self):
        before = [alias([5], [6]), query(0, 1, [5]), switch(0, 0), let_pass(9), copy(0, 1, 9, [])]
        after = [zone(1, 44, []), facts(0), facts(2), ask(0, 1, []), query(0, 1, [5]),
                 let_pass(1), ask(1, 1, [5]), records(1, []), records(0, []), switch(0, 0)]
        alone = answers(joined([begin(2, 2, [1])] + after))
        self.assertEqual(alone, [1, 2, 1, 1, 1, 0, 1, -2, 1, 0, 5, 3, 1, 44, 0, 0, 1, 1, 2, 3, 44,
                                 3, 1, 1, 0, 1, -3, 1, 0])
        self.assertEqual(answers(joined(before + [begin(2, 2, [1])] + after))[-len(alone):], alone)
