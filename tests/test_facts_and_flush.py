"""Calls 13, facts, and 14, flush: what a cache knows, in order, and how long still."""

from calling import (BIG, CallCase, alias, begin, copy, drop, facts, facts_told, flush, hand_on,
                     last, let_pass, number, query, remove, switch, tells, told, zone)

NUMBER, ALIAS = 1, 2


class FactsCase(CallCase):

    def assert_known(self, wanted, *calls, cache=0):
        self.assertEqual(facts_told(last(*calls, facts(cache))), wanted)


class EachKindOfFact(FactsCase):

    def test_nothing_is_known_at_first(self):
        self.assert_told([0], facts(0))
        self.assert_told([0], begin(1, 4, [0]), facts(3))

    def test_what_is_told_of_sort_1(self):
        self.assert_told([1, 22, 2, 5, 6, 1, 1, 2, 1, 8, 1, 7], tells([5, 6], 8, 22),
                         tells([5, 6], 7, 33), query(0, NUMBER, [5, 6]), facts(0))

    def test_what_is_told_of_sort_2(self):
        self.assert_told([1, 33, 1, 5, 2, 1, 1, 3, 9, 8, 7], alias([5], [9, 8, 7], 33),
                         query(0, ALIAS, [5]), facts(0))
        self.assert_told([1, 33, 1, 5, 2, 1, 1, 0], alias([5], [], 33), query(0, ALIAS, [5]),
                         facts(0))

    def test_nothing(self):
        self.assert_told([1, 60, 0, 1, 2], query(0, NUMBER, []), facts(0))
        self.assert_told([1, 60, 1, 5, 2, 2], number(5), query(0, ALIAS, [5]), facts(0))

    def test_no_such_name(self):
        for kind in (NUMBER, ALIAS):
            self.assert_told([1, 60, 2, 5, 6, 0, 3], query(0, kind, [5, 6]), facts(0))

    def test_an_alias(self):
        self.assert_told([2, 33, 1, 5, 2, 4, 2, 9, 8, 60, 2, 9, 8, 0, 3], alias([5], [9, 8], 33),
                         query(0, NUMBER, [5]), facts(0))
        self.assert_told([2, 33, 1, 5, 2, 4, 0, 60, 0, 1, 2], alias([5], [], 33),
                         query(0, NUMBER, [5]), facts(0))

    def test_handed_on(self):
        start = [begin(4, 1, [0]), zone(0, 60, [])]
        self.assert_told([1, 33, 2, 5, 6, 3, 5, 1, 1], *start, hand_on([5, 6], 1, 33),
                         query(0, NUMBER, [5, 6]), facts(0))
        self.assert_told([1, 22, 1, 5, 3, 5, 3, 1, 2, 3], *start, hand_on([5], 3, 33),
                         hand_on([5], 1, 22), hand_on([5], 2, 44), query(0, ALIAS, [5, 6]),
                         facts(0))

    def test_all_in_one(self):
        calls = [hand_on([5], 1, 33), zone(1, 50, [5]), alias([4], [5, 1], 44), tells([3], 7, 55),
                 query(0, NUMBER, [4]), let_pass(3), query(0, NUMBER, [3]), query(0, ALIAS, [3]),
                 query(0, ALIAS, [4]), query(0, NUMBER, [])]
        self.assert_told([6,
                          41, 1, 4, 2, 4, 2, 5, 1,
                          30, 1, 5, 3, 5, 1, 1,
                          47, 2, 5, 1, 0, 3,
                          55, 1, 3, 1, 1, 1, 1, 7,
                          60, 1, 3, 2, 2,
                          60, 0, 1, 2], *calls, facts(0))


class UntilWhen(FactsCase):

    def test_at_the_last_moment_and_one_later(self):
        for life in (2, 33, 100000):
            calls = [tells([5], 7, life), query(0, NUMBER, [5])]
            self.assert_told([1, life, 1, 5, 1, 1, 1, 1, 7], *calls, facts(0))
            calls += [let_pass(life - 1)]
            self.assert_told([1, 1, 1, 5, 1, 1, 1, 1, 7], *calls, facts(0))
            self.assert_told([0], *calls, let_pass(1), facts(0))

    def test_with_a_life_of_1(self):
        calls = [tells([5], 7, 1), query(0, NUMBER, [5])]
        self.assert_told([1, 1, 1, 5, 1, 1, 1, 1, 7], *calls, facts(0))
        self.assert_told([0], *calls, let_pass(1), facts(0))

    def test_with_a_life_of_0(self):
        calls = [tells([1], 7, 0), alias([2], [3], 0), hand_on([4], 1, 0), zone(1, 0, [4])]
        for kind, name in ((1, [1]), (2, [2]), (1, [2]), (1, [4]), (2, [4, 5])):
            self.assert_known([], *calls, zone(0, 0, [3]), query(0, kind, name))

    def test_each_by_itself(self):
        calls = [tells([1], 7, 10), tells([2], 7, 20), tells([3], 7, 30)]
        calls += [one for label in (3, 1, 2) for one in (query(0, NUMBER, [label]), let_pass(2))]
        known = [(24, [3], 1, 1, [[7]]), (6, [1], 1, 1, [[7]]), (18, [2], 1, 1, [[7]])]
        self.assert_known(known, *calls)
        self.assert_known([(18, [3], 1, 1, [[7]]), (12, [2], 1, 1, [[7]])], *calls, let_pass(6))
        self.assert_known([(6, [3], 1, 1, [[7]])], *calls, let_pass(18))
        self.assert_known([], *calls, let_pass(24))

    def test_what_is_known_goes_on_where_its_record_does_not(self):
        calls = [tells([5], 7, 33), query(0, NUMBER, [5]), remove(0, 0, 1, [], [5], [7]),
                 switch(0, 0), drop(0, [])]
        self.assert_known([(33, [5], 1, 1, [[7]])], *calls)
        self.assert_known([(1, [5], 1, 1, [[7]])], *calls, let_pass(32))
        self.assert_known([], *calls, let_pass(33))


class Order(FactsCase):

    def test_as_they_were_learnt(self):
        calls = [number(label) for label in range(1, 6)]
        calls += [query(0, NUMBER, [label]) for label in (4, 2, 5, 1, 3)]
        self.assertEqual([fact[1] for fact in facts_told(last(*calls, facts(0)))],
                         [[4], [2], [5], [1], [3]])

    def test_what_is_known_stays_in_its_place_when_asked_again(self):
        calls = [number(1), number(2), query(0, NUMBER, [1]), query(0, NUMBER, [2]),
                 query(0, NUMBER, [1])]
        self.assert_known([(60, [1], 1, 1, [[7]]), (60, [2], 1, 1, [[7]])], *calls)

    def test_learnt_anew_it_is_behind_the_others(self):
        calls = [tells([1], 7, 10), tells([2], 7, 20), query(0, NUMBER, [1]),
                 query(0, NUMBER, [2]), let_pass(10), query(0, NUMBER, [1])]
        self.assert_known([(10, [2], 1, 1, [[7]]), (10, [1], 1, 1, [[7]])], *calls)

    def test_an_alias_in_the_place_of_what_was_told_of_sort_2(self):
        calls = [alias([5], [6], 33), query(0, ALIAS, [5]), query(0, NUMBER, [1])]
        self.assert_known([(33, [5], 2, 1, [[6]]), (60, [1], 0, 3, [])], *calls)
        self.assert_known([(60, [1], 0, 3, []), (33, [5], 2, 4, [[6]]), (60, [6], 0, 3, [])],
                          *calls, query(0, NUMBER, [5]))

    def test_an_alias_in_the_place_of_nothing_of_sort_2(self):
        calls = [tells([5], 7, 5), query(0, ALIAS, [5]), query(0, NUMBER, [1]),
                 remove(0, 0, 1, [], [5], [7]), alias([5], [1], 33)]
        self.assert_known([(60, [5], 2, 2, []), (60, [1], 0, 3, [])], *calls)
        self.assert_known([(60, [1], 0, 3, []), (33, [5], 2, 4, [[1]])], *calls,
                          query(0, NUMBER, [5]))

    def test_of_another_sort_or_name_each_has_its_own_place(self):
        calls = [tells([5], 7, 33), query(0, NUMBER, [5]), query(0, ALIAS, [5]),
                 query(0, NUMBER, [5, 5]), query(0, NUMBER, [])]
        self.assert_known([(33, [5], 1, 1, [[7]]), (60, [5], 2, 2, []), (60, [5, 5], 0, 3, []),
                           (60, [], 1, 2, [])], *calls)

    def test_handed_on_stands_beside_what_is_told_there(self):
        calls = [hand_on([5], 1, 33), zone(1, 50, [5]), tells([5], 7, 22, 1, [5]),
                 query(0, NUMBER, [5]), query(0, ALIAS, [5])]
        self.assert_known([(33, [5], 3, 5, [[1]]), (22, [5], 1, 1, [[7]]), (50, [5], 2, 2, [])],
                          *calls)

    def test_handed_on_in_the_place_of_the_older_one(self):
        calls = [hand_on([5], 1, 10), zone(1, 50, [5]), query(0, NUMBER, [5, 1]), let_pass(10),
                 hand_on([5], 0, 44), query(0, NUMBER, [5, 2])]
        self.assert_known([(40, [5, 1], 0, 3, []), (10, [5], 3, 5, [[0, 1]]),
                           (50, [5, 2], 0, 3, [])], *calls)

    def test_with_a_life_of_0_in_the_place_of_the_older_one(self):
        calls = [alias([5], [6], 33), query(0, ALIAS, [5]), alias([5], [6], 0)]
        self.assert_known([(33, [5], 2, 1, [[6]])], *calls)
        self.assert_known([(60, [6], 0, 3, [])], *calls, query(0, NUMBER, [5]))

    def test_no_such_name_beside_what_was_told_of_it(self):
        calls = [tells([5], 7, 90), query(0, NUMBER, [5]), remove(0, 0, 1, [], [5], [7]),
                 query(0, ALIAS, [5])]
        self.assert_known([(90, [5], 1, 1, [[7]]), (60, [5], 0, 3, [])], *calls)
        # It is asked for first, whatever else is known of the name.
        self.assert_told([3, 0, 60, 0, 0], *calls, query(0, NUMBER, [5]))
        self.assert_told([1, 0, 30, 0, 1, 1, 7], *calls, let_pass(60), query(0, NUMBER, [5]))


class FactsRefused(CallCase):

    def test_no_such_cache(self):
        for cache in (1, 2, BIG):
            self.assert_refused(-2, facts(cache))
        self.assert_refused(-2, begin(8, 4, [0]), facts(4))

    def test_telling_facts_changes_nothing(self):
        calls = [number(5), query(0, NUMBER, [5]), facts(0), facts(0), query(0, NUMBER, [5])]
        self.assertEqual(told(*calls)[2:], [[1, 60, 1, 5, 1, 1, 1, 1, 7]] * 2
                         + [[1, 0, 60, 0, 1, 1, 7]])

    def test_no_other_call_changes_what_is_known(self):
        known = [number(5), query(0, NUMBER, [5])]
        for call in (switch(0, 0), copy(1, 0, 9, []), drop(0, []), number(6), tells([5], 9, 90),
                     zone(1, 60, []), flush(1), query(0, NUMBER, [5]), query(0, 3, [5])):
            self.assert_told([1, 60, 1, 5, 1, 1, 1, 1, 7], *known, call, facts(0))


class Flush(FactsCase):

    def test_it_answers_how_many_were_known_still(self):
        calls = [tells([1], 7, 10), tells([2], 7, 20), tells([3], 7, 0)]
        calls += [query(0, NUMBER, [label]) for label in (1, 2, 3, 4)]
        self.assert_told([3], *calls, flush(0))
        self.assert_told([3], *calls, let_pass(9), flush(0))
        self.assert_told([2], *calls, let_pass(10), flush(0))
        self.assert_told([1], *calls, let_pass(20), flush(0))
        self.assert_told([0], *calls, let_pass(60), flush(0))

    def test_of_one_that_knows_nothing(self):
        self.assert_told([0], flush(0))
        self.assert_told([0], number(5), query(0, NUMBER, [5]), flush(0), flush(0))

    def test_it_knows_nothing_then(self):
        calls = [number(5), query(0, NUMBER, [5]), flush(0)]
        self.assert_known([], *calls)
        self.assert_told([1, 1, 60, 0, 1, 1, 7], *calls, query(0, NUMBER, [5]))

    def test_of_each_kind(self):
        calls = [hand_on([5], 1, 33), zone(1, 50, [5]), alias([4], [5, 1], 44),
                 query(0, NUMBER, [4]), query(0, NUMBER, [])]
        self.assert_told([4], *calls, flush(0))
        self.assert_told([3, 3, 44, 1, 2, 5, 1, 0], *calls, flush(0), query(0, NUMBER, [4]))

    def test_it_learns_anew_in_the_order_of_then(self):
        calls = [number(1), number(2), query(0, NUMBER, [1]), query(0, NUMBER, [2]), flush(0),
                 let_pass(5), query(0, NUMBER, [2]), query(0, NUMBER, [1])]
        self.assert_known([(60, [2], 1, 1, [[7]]), (60, [1], 1, 1, [[7]])], *calls)

    def test_the_other_caches_stay(self):
        calls = [begin(1, 3, [0]), zone(0, 60, [])] + [query(cache, 1, [5]) for cache in range(3)]
        for cache in range(3):
            left = [last(*calls, flush(cache), facts(other))[0] for other in range(3)]
            self.assertEqual(left, [0 if other == cache else 1 for other in range(3)])

    def test_no_such_cache(self):
        for cache in (1, BIG):
            self.assert_refused(-2, number(5), query(0, NUMBER, [5]), flush(cache))
        self.assert_refused(-2, begin(8, 4, [0]), flush(4))
