"""Call 10, query: what a cache tells, whom it asks and in which order, and what it knows."""

from calling import (BIG, CallCase, add, alias, begin, copy, drop, facts, facts_told, flush, found,
                     hand_on, last, let_pass, number, query, remove, switch, tells, told, zone)
from netnames.net import answers

NUMBER, ALIAS = 1, 2
TOLD, NOTHING, NO_NAME, CANNOT = 1, 2, 3, 0


def eight(*roots):
    """Eight servers, of which the last one has the root's zone."""
    return [begin(8, 1, roots), zone(7, 60, [])]


def chain(first, count, life=60, server=0):
    """Aliases: first to first + 1, and so on."""
    return [alias([label], [label + 1], life, server) for label in range(first, first + count)]


def names(first, count):
    return [[label] for label in range(first, first + count)]


class QueryCase(CallCase):

    def assert_found(self, what, asked, good, *calls, gone_on=(), rows=()):
        """What the last call, a query, answers."""
        wanted = (what, asked, good, [list(name) for name in gone_on], [list(row) for row in rows])
        self.assertEqual(found(last(*calls)), wanted)

    def known(self, *calls, cache=0):
        """What a cache knows behind the calls."""
        return facts_told(last(*calls, facts(cache)))


class Form(QueryCase):

    def test_no_such_name(self):
        self.assertEqual(answers([10, 0, 1, 1, 7]), [5, 3, 1, 60, 0, 0])

    def test_nothing(self):
        self.assert_told([2, 1, 60, 0, 0], query(0, 1, []))

    def test_what_is_told(self):
        self.assert_told([1, 1, 33, 0, 1, 1, 7], tells([5], 7, 33), query(0, 1, [5]))
        self.assert_told([1, 1, 22, 0, 2, 1, 7, 1, 8], tells([5], 7, 33), tells([5], 8, 22),
                         query(0, 1, [5]))
        self.assert_told([1, 1, 33, 0, 1, 3, 1, 2, 3], alias([5], [1, 2, 3], 33), query(0, 2, [5]))
        self.assert_told([1, 1, 33, 0, 1, 0], alias([5], [], 33), query(0, 2, [5]))

    def test_nothing_can_be_told(self):
        self.assert_told([0, 1, 0, 0, 0], switch(0, 0), query(0, 1, [5]))

    def test_names_gone_on_with(self):
        calls = [alias([5], [6, 1], 33), alias([6, 1], [], 44)]
        self.assert_told([2, 3, 33, 2, 2, 6, 1, 0, 0], *calls, query(0, 1, [5]))
        self.assert_told([1, 3, 22, 2, 2, 6, 1, 0, 1, 1, 7], *calls, tells([], 7, 22),
                         query(0, 1, [5]))
        self.assert_told([3, 2, 50, 1, 1, 9, 0], alias([5], [9], 50), query(0, 1, [5]))

    def test_names_gone_on_with_where_nothing_can_be_told(self):
        calls = [hand_on([6], 1), alias([5], [6, 7])]
        self.assert_told([0, 3, 0, 1, 2, 6, 7, 0], *calls, query(0, 1, [5]))


class QueryRefused(CallCase):

    def test_no_such_cache(self):
        for cache in (1, 2, BIG):
            self.assert_refused(-2, query(cache, 1, [5]))
        self.assert_refused(-2, begin(1, 4, [0]), query(4, 1, [5]))

    def test_each_cache_that_there_is(self):
        for cache in range(4):
            self.assert_told([0, 1, 0, 0, 0], begin(1, 4, [0]), query(cache, 1, [5]))

    def test_the_sort_is_not_1_or_2(self):
        for kind in (0, 3, 4, BIG):
            self.assert_refused(-1, query(0, kind, [5]))

    def test_it_is_no_name(self):
        for name in ([0], [5, 0], [0, 5], [100], [BIG], [1] * 7, [1] * 1024, [BIG] * 1024):
            self.assert_refused(-1, query(0, 1, name))
            self.assert_refused(-1, query(0, 2, name))

    def test_the_one_told_first(self):
        self.assert_refused(-2, query(1, 0, [5]))
        self.assert_refused(-2, query(1, 1, [0]))
        self.assert_refused(-1, switch(0, 0), query(0, 3, [5]))

    def test_what_is_known_stays_known(self):
        calls = [tells([5]), query(0, 1, [5]), query(0, 3, [5]), query(1, 1, [5]),
                 query(0, 1, [0]), facts(0)]
        self.assertEqual(told(*calls)[2:], [[-1], [-2], [-1], [1, 60, 1, 5, 1, 1, 1, 1, 7]])


class FirstAskedThenKnown(QueryCase):

    def assert_known_later(self, what, asked, good, calls, question, gone_on=(), rows=()):
        """It's found by asking so many; 10 later it's known, for 10 less."""
        self.assert_found(what, asked, good, *calls, question, gone_on=gone_on, rows=rows)
        self.assert_found(what, 0, good - 10, *calls, question, let_pass(10), question,
                          gone_on=gone_on, rows=rows)
        # Also where nobody could be asked any more.
        self.assert_found(what, 0, good - 10, *calls, question, let_pass(10), switch(0, 0),
                          question, gone_on=gone_on, rows=rows)

    def test_what_is_told_of_sort_1(self):
        self.assert_known_later(TOLD, 1, 33, [tells([5], 7, 33), tells([5], 8, 44)],
                                query(0, NUMBER, [5]), rows=[[7], [8]])

    def test_what_is_told_of_sort_2(self):
        self.assert_known_later(TOLD, 1, 33, [alias([5], [8, 9], 33)], query(0, ALIAS, [5]),
                                rows=[[8, 9]])

    def test_nothing(self):
        self.assert_known_later(NOTHING, 1, 60, [tells([5], 7, 33)], query(0, ALIAS, [5]))
        self.assert_known_later(NOTHING, 1, 60, [tells([5, 6], 7, 33)], query(0, NUMBER, [5]))

    def test_no_such_name(self):
        for kind in (NUMBER, ALIAS):
            self.assert_known_later(NO_NAME, 1, 60, [], query(0, kind, [5]))

    def test_an_alias_and_what_it_leads_to(self):
        self.assert_known_later(TOLD, 2, 33, [alias([5], [6], 33), tells([6], 7, 44)],
                                query(0, NUMBER, [5]), gone_on=[[6]], rows=[[7]])
        self.assert_known_later(TOLD, 2, 22, [alias([5], [6], 33), tells([6], 7, 22)],
                                query(0, NUMBER, [5]), gone_on=[[6]], rows=[[7]])

    def test_an_alias_that_leads_to_nothing_or_no_such_name(self):
        self.assert_known_later(NOTHING, 2, 60, [alias([5], [6], 90), tells([6, 1])],
                                query(0, NUMBER, [5]), gone_on=[[6]])
        self.assert_known_later(NO_NAME, 2, 33, [alias([5], [6], 33)],
                                query(0, NUMBER, [5]), gone_on=[[6]])

    def test_what_stands_for_all_others_is_known_of_the_name_asked_alone(self):
        calls = [tells([0], 7, 33), query(0, NUMBER, [5])]
        self.assert_found(TOLD, 0, 33, *calls, query(0, NUMBER, [5]), rows=[[7]])
        self.assert_found(TOLD, 1, 33, *calls, query(0, NUMBER, [6]), rows=[[7]])

    def test_nothing_of_one_sort_says_nothing_of_the_other(self):
        calls = [tells([5], 7, 33)]
        self.assert_found(TOLD, 1, 33, *calls, query(0, ALIAS, [5]), query(0, NUMBER, [5]),
                          rows=[[7]])
        self.assert_found(NOTHING, 1, 60, *calls, query(0, NUMBER, [5]), query(0, ALIAS, [5]))
        self.assert_found(NOTHING, 1, 60, tells([5, 6]), query(0, NUMBER, [5]),
                          query(0, ALIAS, [5]))

    def test_no_such_name_is_known_for_the_other_sort(self):
        for kind in (NUMBER, ALIAS):
            calls = [query(0, kind, [5]), let_pass(10), query(0, 3 - kind, [5])]
            self.assert_found(NO_NAME, 0, 50, *calls)

    def test_no_such_name_is_known_of_this_name_alone(self):
        calls = [query(0, NUMBER, [5]), tells([5, 6], 7, 33)]
        self.assert_found(TOLD, 1, 33, *calls, query(0, NUMBER, [5, 6]), rows=[[7]])
        self.assert_found(NO_NAME, 0, 60, *calls, query(0, NUMBER, [5]))

    def test_an_alias_known_and_asked_for_both_sorts(self):
        calls = [alias([5], [6], 33), tells([6], 7, 22), query(0, NUMBER, [5]), let_pass(10),
                 switch(0, 0)]
        self.assert_found(TOLD, 0, 12, *calls, query(0, NUMBER, [5]), gone_on=[[6]], rows=[[7]])
        self.assert_found(TOLD, 0, 23, *calls, query(0, ALIAS, [5]), rows=[[6]])

    def test_an_alias_known_alone_is_gone_on_with(self):
        calls = [alias([5], [6], 33), tells([6], 7, 22), query(0, NUMBER, [5]), let_pass(22)]
        self.assert_found(TOLD, 1, 11, *calls, query(0, NUMBER, [5]), gone_on=[[6]], rows=[[7]])

    def test_told_of_sort_2_then_sort_1_asked(self):
        calls = [alias([5], [6], 33), tells([6], 7, 50), query(0, ALIAS, [5]), let_pass(10)]
        self.assert_found(TOLD, 2, 33, *calls, query(0, NUMBER, [5]), gone_on=[[6]], rows=[[7]])
        self.assertEqual(self.known(*calls, query(0, NUMBER, [5])),
                         [(33, [5], 2, 4, [[6]]), (50, [6], 1, 1, [[7]])])
        self.assert_found(CANNOT, 1, 0, *calls, switch(0, 0), query(0, NUMBER, [5]))

    def test_what_is_known_hides_what_came_later(self):
        calls = [tells([5], 7, 33), query(0, NUMBER, [5]), tells([5], 8, 90)]
        self.assert_found(TOLD, 0, 33, *calls, query(0, NUMBER, [5]), rows=[[7]])
        self.assert_found(TOLD, 1, 33, *calls, let_pass(33), query(0, NUMBER, [5]),
                          rows=[[7], [8]])
        calls = [query(0, NUMBER, [5]), tells([5], 8, 90)]
        self.assert_found(NO_NAME, 0, 60, *calls, query(0, NUMBER, [5]))

    def test_a_number_known_goes_ahead_of_an_alias_known(self):
        calls = [tells([5], 7, 90), query(0, NUMBER, [5]), remove(0, 0, 1, [], [5], [7]),
                 alias([5], [6], 90), alias([4], [5], 90), query(0, ALIAS, [5])]
        self.assert_found(TOLD, 0, 90, *calls, query(0, NUMBER, [5]), rows=[[7]])
        self.assert_found(TOLD, 1, 90, *calls, query(0, NUMBER, [4]), gone_on=[[5]], rows=[[7]])


class UntilWhen(QueryCase):

    def test_known_at_the_last_moment_and_not_one_later(self):
        for life in (2, 33, 100000):
            calls = [tells([5], 7, life), query(0, NUMBER, [5]), let_pass(life - 1)]
            self.assert_found(TOLD, 0, 1, *calls, query(0, NUMBER, [5]), rows=[[7]])
            self.assert_found(TOLD, 1, life, *calls, let_pass(1), query(0, NUMBER, [5]),
                              rows=[[7]])

    def test_nothing_and_no_such_name_too(self):
        for name, what in (([], NOTHING), ([5], NO_NAME)):
            calls = [query(0, NUMBER, name), let_pass(59)]
            self.assert_found(what, 0, 1, *calls, query(0, NUMBER, name))
            self.assert_found(what, 1, 60, *calls, let_pass(1), query(0, NUMBER, name))

    def test_an_alias_too(self):
        calls = [alias([5], [6], 33), tells([6], 7, 90), query(0, NUMBER, [5]), let_pass(32)]
        self.assert_found(TOLD, 0, 1, *calls, query(0, NUMBER, [5]), gone_on=[[6]], rows=[[7]])
        self.assert_found(TOLD, 1, 33, *calls, let_pass(1), query(0, NUMBER, [5]), gone_on=[[6]],
                          rows=[[7]])

    def test_where_it_is_handed_on_too(self):
        calls = [hand_on([5], 1, 33), zone(1, 60, [5]), query(0, NUMBER, [5, 1]), let_pass(32)]
        self.assert_found(NO_NAME, 1, 60, *calls, query(0, NUMBER, [5, 2]))
        self.assert_found(NO_NAME, 2, 60, *calls, let_pass(1), query(0, NUMBER, [5, 2]))

    def test_asking_what_is_known_makes_it_known_no_longer(self):
        calls = [tells([5], 7, 33), query(0, NUMBER, [5]), let_pass(20), query(0, NUMBER, [5]),
                 let_pass(13)]
        self.assert_found(TOLD, 1, 33, *calls, query(0, NUMBER, [5]), rows=[[7]])

    def test_lives_of_0_are_told_and_not_known(self):
        for call, name, kind, what, rows in ((tells([5], 7, 0), [5], NUMBER, TOLD, [[7]]),
                                             (alias([5], [6], 0), [5], ALIAS, TOLD, [[6]])):
            self.assert_found(what, 1, 0, call, query(0, kind, name), rows=rows)
            self.assert_found(what, 1, 0, call, query(0, kind, name), query(0, kind, name),
                              rows=rows)
            self.assertEqual(self.known(call, query(0, kind, name)), [])

    def test_a_zones_life_of_0(self):
        calls = [drop(0, []), zone(0, 0, [])]
        for name, what in (([], NOTHING), ([5], NO_NAME)):
            self.assert_found(what, 1, 0, *calls, query(0, NUMBER, name), query(0, NUMBER, name))
            self.assertEqual(self.known(*calls, query(0, NUMBER, name)), [])

    def test_an_alias_with_a_life_of_0_is_gone_on_with(self):
        calls = [alias([5], [6], 0), tells([6], 7, 44)]
        self.assert_found(TOLD, 2, 0, *calls, query(0, NUMBER, [5]), gone_on=[[6]], rows=[[7]])
        self.assert_found(TOLD, 1, 0, *calls, query(0, NUMBER, [5]), query(0, NUMBER, [5]),
                          gone_on=[[6]], rows=[[7]])

    def test_where_it_is_handed_on_with_a_life_of_0_is_asked(self):
        calls = [hand_on([5], 1, 0), zone(1, 44, [5])]
        self.assert_found(NO_NAME, 2, 44, *calls, query(0, NUMBER, [5, 1]))
        self.assert_found(NO_NAME, 2, 44, *calls, query(0, NUMBER, [5, 1]),
                          query(0, NUMBER, [5, 2]))

    def test_with_a_life_of_0_the_older_fact_goes_all_the_same(self):
        calls = [alias([5], [6], 60), query(0, ALIAS, [5]), alias([5], [6], 0)]
        self.assert_found(TOLD, 0, 60, *calls, query(0, ALIAS, [5]), rows=[[6]])
        self.assert_found(TOLD, 1, 0, *calls, query(0, NUMBER, [5]), query(0, ALIAS, [5]),
                          rows=[[6]])


class HowLongGood(QueryCase):

    def test_the_least_of_the_lives_on_the_way(self):
        for lives in ((10, 20, 30), (20, 10, 30), (30, 20, 10), (20, 30, 10)):
            calls = [alias([5], [6], lives[0]), alias([6], [7], lives[1]), tells([7], 1, lives[2])]
            self.assert_found(TOLD, 3, 10, *calls, query(0, NUMBER, [5]), gone_on=[[6], [7]],
                              rows=[[1]])

    def test_the_zones_life_for_what_is_not_there(self):
        self.assert_found(NO_NAME, 2, 60, alias([5], [6], 70), query(0, NUMBER, [5]),
                          gone_on=[[6]])
        self.assert_found(NO_NAME, 2, 50, alias([5], [6], 50), query(0, NUMBER, [5]),
                          gone_on=[[6]])

    def test_of_what_was_known_what_is_left(self):
        calls = [alias([5], [6], 50), tells([6], 7, 40), query(0, NUMBER, [6]), let_pass(15)]
        self.assert_found(TOLD, 1, 25, *calls, query(0, NUMBER, [5]), gone_on=[[6]], rows=[[7]])
        calls = [alias([5], [6], 50), tells([6], 7, 40), query(0, NUMBER, [5]), let_pass(45)]
        self.assert_found(TOLD, 1, 5, *calls, query(0, NUMBER, [5]), gone_on=[[6]], rows=[[7]])

    def test_what_is_handed_on_does_not_count(self):
        calls = [hand_on([5], 1, 3), zone(1, 60, [5]), tells([5, 6], 7, 44, 1, [5])]
        self.assert_found(TOLD, 2, 44, *calls, query(0, NUMBER, [5, 6]), rows=[[7]])
        self.assert_found(TOLD, 0, 42, *calls, query(0, NUMBER, [5, 6]), let_pass(2),
                          query(0, NUMBER, [5, 6]), rows=[[7]])
        self.assert_found(NO_NAME, 1, 60, *calls, query(0, NUMBER, [5, 6]), let_pass(2),
                          query(0, NUMBER, [5, 1]))

    def test_the_longest_that_can_be_told(self):
        self.assert_found(TOLD, 1, 100000, tells([5], 7, 100000), query(0, NUMBER, [5]),
                          rows=[[7]])

    def test_0_where_nothing_can_be_told(self):
        calls = chain(1, 7, 90)
        self.assert_found(CANNOT, 7, 0, *calls, query(0, NUMBER, [1]), gone_on=names(2, 6))
        self.assert_found(CANNOT, 0, 0, *calls, query(0, NUMBER, [1]), query(0, NUMBER, [1]),
                          gone_on=names(2, 6))


class WhomItAsks(QueryCase):

    NET = [begin(5, 1, [0, 1]), zone(0, 60, []), hand_on([5], 2, 40), hand_on([5], 3, 30),
           copy(1, 0, 90, []), zone(2, 50, [5]), tells([5, 6], 7, 20, 2, [5]),
           hand_on([5, 8], 4, 35, 2, [5]), copy(3, 2, 90, [5]), zone(4, 45, [5, 8]),
           tells([5, 8, 9], 6, 15, 4, [5, 8])]

    def test_down_from_the_root(self):
        self.assert_found(NO_NAME, 1, 60, *self.NET, query(0, NUMBER, [4]))
        self.assert_found(TOLD, 2, 20, *self.NET, query(0, NUMBER, [5, 6]), rows=[[7]])
        self.assert_found(TOLD, 3, 15, *self.NET, query(0, NUMBER, [5, 8, 9]), rows=[[6]])
        self.assert_found(NO_NAME, 3, 45, *self.NET, query(0, NUMBER, [5, 8, 1]))
        self.assert_found(NOTHING, 2, 50, *self.NET, query(0, NUMBER, [5]))

    def test_what_is_learnt_on_the_way(self):
        self.assertEqual(self.known(*self.NET, query(0, NUMBER, [5, 8, 9])),
                         [(30, [5], 3, 5, [[2, 3]]), (35, [5, 8], 3, 5, [[4]]),
                          (15, [5, 8, 9], 1, 1, [[6]])])

    def test_the_longest_handing_on_that_is_known(self):
        calls = self.NET + [query(0, NUMBER, [5, 8, 9])]
        self.assert_found(NO_NAME, 1, 45, *calls, query(0, NUMBER, [5, 8, 1]))
        self.assert_found(NOTHING, 1, 45, *calls, query(0, NUMBER, [5, 8]))
        self.assert_found(TOLD, 1, 20, *calls, query(0, NUMBER, [5, 6]), rows=[[7]])
        self.assert_found(NO_NAME, 1, 60, *calls, query(0, NUMBER, [8, 5]))
        # The one at [5] is known for 30, that at [5, 8] for 35.
        self.assert_found(NO_NAME, 1, 45, *calls, let_pass(34), query(0, NUMBER, [5, 8, 1]))
        self.assert_found(NO_NAME, 2, 50, *calls, let_pass(34), query(0, NUMBER, [5, 7]))
        self.assert_found(NO_NAME, 3, 45, *calls, let_pass(35), query(0, NUMBER, [5, 8, 1]))

    def test_one_that_is_not_known_is_looked_for_higher_up(self):
        calls = [begin(3, 1, [0]), zone(0, 60, []), hand_on([5], 1, 90), zone(1, 50, [5]),
                 hand_on([5, 8], 2, 10, 1, [5]), zone(2, 45, [5, 8]), query(0, NUMBER, [5, 8, 9])]
        self.assert_found(NO_NAME, 1, 45, *calls, let_pass(9), query(0, NUMBER, [5, 8, 1]))
        self.assert_found(NO_NAME, 2, 45, *calls, let_pass(10), query(0, NUMBER, [5, 8, 1]))

    def test_the_name_itself_may_be_where_it_is_handed_on(self):
        calls = self.NET + [query(0, NUMBER, [5, 6])]
        self.assert_found(NOTHING, 1, 50, *calls, query(0, NUMBER, [5]))

    def test_without_one_the_servers_of_the_root(self):
        for roots, asked in (([0], 1), ([1], 1), ([2, 3], 2), ([0, 1, 2, 3], 1), ([3], 1)):
            calls = [begin(4, 1, roots), zone(0, 60, []), copy(1, 0, 9, [])]
            what = NO_NAME if roots[0] < 2 else CANNOT
            self.assert_found(what, asked, 60 if what else 0, *calls, query(0, NUMBER, [5]))

    def test_one_after_another_in_rising_order(self):
        calls = [begin(8, 1, [2, 4, 6]), zone(4, 44, []), zone(6, 66, [])]
        self.assert_found(NO_NAME, 2, 44, *calls, query(0, NUMBER, [5]))
        self.assert_found(NO_NAME, 1, 22, *calls, zone(2, 22, []), query(0, NUMBER, [5]))
        self.assert_found(NO_NAME, 3, 66, *calls, drop(4, []), query(0, NUMBER, [5]))

    def test_one_that_is_down_is_passed_over_and_counted(self):
        self.assert_found(NO_NAME, 2, 60, *self.NET, switch(0, 0), query(0, NUMBER, [4]))
        self.assert_found(TOLD, 3, 20, *self.NET, switch(2, 0), query(0, NUMBER, [5, 6]),
                          rows=[[7]])
        self.assert_found(TOLD, 5, 15, *self.NET, switch(0, 0), switch(2, 0),
                          query(0, NUMBER, [5, 8, 9]), rows=[[6]])

    def test_one_that_refuses_is_passed_over_and_counted(self):
        calls = [begin(3, 1, [0, 1, 2]), zone(2, 60, [])]
        self.assert_found(NO_NAME, 3, 60, *calls, query(0, NUMBER, [5]))
        self.assert_found(NO_NAME, 3, 60, *calls, zone(0, 9, [4]), copy(1, 2, 9, []), let_pass(10),
                          query(0, NUMBER, [5]))
        self.assert_found(NO_NAME, 2, 60, *calls, copy(1, 2, 9, []), let_pass(9),
                          query(0, NUMBER, [5]))

    def test_one_of_whose_zones_the_longest_is_not_good_is_passed_over(self):
        calls = [begin(2, 1, [0]), zone(0, 60, []), hand_on([5], 0, 90), hand_on([5], 1, 90),
                 zone(1, 50, [5]), copy(0, 1, 9, [5])]
        self.assert_found(NO_NAME, 1, 50, *calls, query(0, NUMBER, [5, 1]))
        self.assert_found(CANNOT, 1, 0, *calls, let_pass(10), query(0, NUMBER, [5, 1]))
        self.assert_found(NO_NAME, 1, 60, *calls, let_pass(10), query(0, NUMBER, [4]))

    def test_all_are_passed_over(self):
        for count in range(1, 9):
            calls = [begin(8, 1, list(range(count)))]
            self.assert_found(CANNOT, count, 0, *calls, query(0, NUMBER, [5]))
            self.assertEqual(self.known(*calls, query(0, NUMBER, [5])), [])
        self.assert_found(CANNOT, 3, 0, *self.NET, switch(2, 0), switch(3, 0),
                          query(0, NUMBER, [5, 6]))
        self.assertEqual(self.known(*self.NET, switch(2, 0), switch(3, 0),
                                    query(0, NUMBER, [5, 6])), [(30, [5], 3, 5, [[2, 3]])])

    def test_those_known_are_not_left_for_the_root(self):
        calls = self.NET + [query(0, NUMBER, [5, 6]), switch(2, 0), switch(3, 0)]
        self.assert_found(CANNOT, 2, 0, *calls, query(0, NUMBER, [5, 7]))
        self.assert_found(CANNOT, 3, 0, *calls, let_pass(30), query(0, NUMBER, [5, 7]))

    def test_an_empty_cache_asks_anew_each_time(self):
        calls = [switch(0, 0), query(0, NUMBER, [5]), switch(0, 1), query(0, NUMBER, [5])]
        self.assert_found(NO_NAME, 1, 60, *calls)


class WhereItIsHandedOn(QueryCase):

    def test_at_a_longer_beginning_from_the_first_server_on(self):
        calls = [begin(4, 1, [0, 1]), zone(1, 60, []), hand_on([5], 2, 60, 1),
                 hand_on([5], 3, 60, 1), zone(3, 44, [5])]
        self.assert_found(NO_NAME, 4, 44, *calls, query(0, NUMBER, [5, 1]))

    def test_the_servers_that_were_left_are_asked_no_more(self):
        calls = [begin(3, 1, [0, 1]), zone(0, 60, []), hand_on([5], 2), zone(1, 60, []),
                 tells([5, 1], 7, 60, 1)]
        self.assert_found(CANNOT, 2, 0, *calls, query(0, NUMBER, [5, 1]))
        self.assert_found(TOLD, 2, 60, *calls, switch(0, 0), query(0, NUMBER, [5, 1]), rows=[[7]])

    def test_at_the_same_one_it_is_passed_over(self):
        # Server 1 has but the root's zone: where it is, it hands on once more.
        calls = [begin(3, 1, [0]), zone(0, 60, []), hand_on([5], 1), hand_on([5], 2),
                 copy(1, 0, 90, [])]
        self.assert_found(CANNOT, 3, 0, *calls, query(0, NUMBER, [5, 1]))
        self.assert_found(NO_NAME, 3, 44, *calls, zone(2, 44, [5]), query(0, NUMBER, [5, 1]))

    def test_to_itself_it_is_passed_over(self):
        self.assert_found(CANNOT, 2, 0, hand_on([5], 0), query(0, NUMBER, [5, 1]))
        self.assert_found(CANNOT, 1, 0, hand_on([5], 0), query(0, NUMBER, [5, 1]),
                          query(0, NUMBER, [5, 2]))

    def test_at_a_shorter_one_it_is_passed_over(self):
        # Server 2, asked at [5, 8], has but the root's zone, which hands on at [5].
        calls = [begin(4, 1, [0]), zone(0, 60, []), hand_on([5], 1), zone(1, 50, [5]),
                 hand_on([5, 8], 2, 60, 1, [5]), hand_on([5, 8], 3, 60, 1, [5]),
                 copy(2, 0, 90, [])]
        self.assert_found(CANNOT, 4, 0, *calls, query(0, NUMBER, [5, 8, 1]))
        self.assert_found(NO_NAME, 4, 44, *calls, zone(3, 44, [5, 8]),
                          query(0, NUMBER, [5, 8, 1]))

    def test_what_is_passed_over_is_not_learnt(self):
        calls = [begin(4, 1, [0]), zone(0, 60, []), hand_on([5], 1, 30), zone(1, 50, []),
                 hand_on([5], 2, 99, 1), query(0, NUMBER, [5, 1])]
        self.assertEqual(self.known(*calls), [(30, [5], 3, 5, [[1]])])

    def test_many_beginnings_are_passed_by_at_once(self):
        calls = [begin(2, 1, [0]), zone(0, 60, []), hand_on([1, 2, 3, 4, 5, 6], 1),
                 zone(1, 44, [1, 2, 3, 4, 5, 6])]
        self.assert_found(NOTHING, 2, 44, *calls, query(0, NUMBER, [1, 2, 3, 4, 5, 6]))
        self.assert_found(NOTHING, 1, 60, *calls, query(0, NUMBER, [1, 2, 3, 4, 5]))

    def test_step_by_step_to_the_longest_name(self):
        name = [1, 2, 3, 4, 5, 6]
        calls = [begin(7, 1, [0]), zone(0, 60, [])]
        for depth in range(1, 7):
            apex = name[:depth]
            calls += [hand_on(apex, depth, 60, depth - 1, apex[:-1]), zone(depth, 40 + depth, apex)]
        self.assert_found(NOTHING, 7, 46, *calls, query(0, NUMBER, name))
        self.assertEqual([fact[1] for fact in self.known(*calls, query(0, NUMBER, name))],
                         [name[:depth] for depth in range(1, 7)] + [name])
        self.assert_found(NOTHING, 1, 43, *calls, query(0, NUMBER, name), query(0, 2, name[:3]))


class FortyAsked(QueryCase):

    # Each name costs 8 here: seven servers of the root refuse, the eighth tells.
    NET = eight(*range(8))

    def test_told_by_the_fortieth(self):
        calls = self.NET + chain(1, 4, 60, 7) + [tells([5], 7, 50, 7)]
        self.assert_found(TOLD, 40, 50, *calls, query(0, NUMBER, [1]), gone_on=names(2, 4),
                          rows=[[7]])

    def test_a_forty_first_is_not_asked(self):
        calls = self.NET + chain(1, 5, 60, 7) + [tells([6], 7, 50, 7)]
        self.assert_found(CANNOT, 40, 0, *calls, query(0, NUMBER, [1]), gone_on=names(2, 5))

    def test_what_the_forty_told_is_known(self):
        calls = self.NET + chain(1, 5, 60, 7) + [tells([6], 7, 50, 7), query(0, NUMBER, [1])]
        self.assertEqual(self.known(*calls),
                         [(60, [label], 2, 4, [[label + 1]]) for label in range(1, 6)])
        self.assert_found(TOLD, 8, 50, *calls, query(0, NUMBER, [1]), gone_on=names(2, 5),
                          rows=[[7]])

    def test_what_is_known_is_found_even_then(self):
        calls = self.NET + chain(1, 5, 60, 7) + [tells([6], 7, 50, 7), query(0, NUMBER, [6])]
        self.assert_found(TOLD, 40, 50, *calls, query(0, NUMBER, [1]), gone_on=names(2, 5),
                          rows=[[7]])
        self.assert_found(TOLD, 40, 49, *calls, let_pass(1), query(0, NUMBER, [1]),
                          gone_on=names(2, 5), rows=[[7]])

    def test_an_alias_known_is_gone_on_with_even_then(self):
        calls = self.NET + chain(1, 6, 60, 7) + [tells([7], 7, 50, 7), query(0, NUMBER, [6])]
        self.assert_found(TOLD, 40, 50, *calls, query(0, NUMBER, [1]), gone_on=names(2, 6),
                          rows=[[7]])

    def test_the_fortieth_amid_the_servers_of_one_name(self):
        calls = eight(1, 2, 3, 4, 5, 6, 7) + chain(1, 6, 60, 7) + [query(0, NUMBER, [1])]
        self.assert_found(CANNOT, 40, 0, *calls, gone_on=names(2, 5))
        self.assertEqual(len(self.known(*calls)), 5)

    def handed_on_by(self, server):
        """Five names cost 7 each; of the sixth this server, asked at its turn, hands on."""
        calls = eight(1, 2, 3, 4, 5, 6, 7) + chain(1, 4, 60, 7) + [alias([5], [6, 1], 60, 7)]
        return calls + [zone(server, 60, [6]), hand_on([6, 1], 0, 50, server, [6]),
                        zone(0, 44, [6, 1]), query(0, NUMBER, [1])]

    def test_the_fortieth_hands_on(self):
        calls = self.handed_on_by(5)
        self.assert_found(CANNOT, 40, 0, *calls, gone_on=names(2, 4) + [[6, 1]])
        self.assertEqual(self.known(*calls)[-1], (50, [6, 1], 3, 5, [[0]]))

    def test_the_thirty_ninth_hands_on(self):
        calls = self.handed_on_by(4)
        self.assert_found(NOTHING, 40, 44, *calls, gone_on=names(2, 4) + [[6, 1]])

    def test_each_question_has_its_own_forty(self):
        calls = self.NET + chain(1, 5, 60, 7) + [tells([6], 7, 50, 7), query(0, NUMBER, [1]),
                                                 flush(0)]
        self.assert_found(CANNOT, 40, 0, *calls, query(0, NUMBER, [1]), gone_on=names(2, 5))


class NamesGoneOnWith(QueryCase):

    def test_six(self):
        calls = chain(1, 6) + [tells([7], 7, 50)]
        self.assert_found(TOLD, 7, 50, *calls, query(0, NUMBER, [1]), gone_on=names(2, 6),
                          rows=[[7]])
        self.assert_found(NO_NAME, 7, 60, *chain(1, 6), query(0, NUMBER, [1]),
                          gone_on=names(2, 6))

    def test_a_seventh(self):
        calls = chain(1, 7) + [tells([8], 7, 50)]
        self.assert_found(CANNOT, 7, 0, *calls, query(0, NUMBER, [1]), gone_on=names(2, 6))
        self.assert_found(TOLD, 7, 50, *calls, query(0, NUMBER, [2]), gone_on=names(3, 6),
                          rows=[[7]])

    def test_a_seventh_where_all_is_known(self):
        calls = chain(1, 7) + [tells([8], 7, 50), query(0, NUMBER, [4]), query(0, NUMBER, [1])]
        self.assert_found(CANNOT, 0, 0, *calls, query(0, NUMBER, [1]), gone_on=names(2, 6))

    def test_the_alias_to_the_seventh_is_learnt(self):
        calls = chain(1, 7) + [query(0, NUMBER, [1])]
        self.assertEqual(self.known(*calls),
                         [(60, [label], 2, 4, [[label + 1]]) for label in range(1, 8)])

    def test_round_in_a_circle(self):
        calls = [alias([1], [2]), alias([2], [1])]
        self.assert_found(CANNOT, 2, 0, *calls, query(0, NUMBER, [1]),
                          gone_on=[[2], [1], [2], [1], [2], [1]])
        calls = [alias([1], [2], 0), alias([2], [1], 0)]
        self.assert_found(CANNOT, 7, 0, *calls, query(0, NUMBER, [1]),
                          gone_on=[[2], [1], [2], [1], [2], [1]])

    def test_to_itself(self):
        self.assert_found(CANNOT, 1, 0, alias([1], [1]), query(0, NUMBER, [1]),
                          gone_on=[[1]] * 6)
        self.assert_found(CANNOT, 1, 0, alias([], []), query(0, NUMBER, []), gone_on=[[]] * 6)

    def test_by_what_stands_for_all_others(self):
        self.assert_found(CANNOT, 2, 0, alias([0], [9]), query(0, NUMBER, [1]),
                          gone_on=[[9]] * 6)

    def test_where_sort_2_is_asked_none(self):
        calls = [alias([1], [2], 33), alias([2], [1], 44)]
        self.assert_found(TOLD, 1, 33, *calls, query(0, ALIAS, [1]), rows=[[2]])
        self.assert_found(TOLD, 0, 44, *calls, query(0, NUMBER, [1]), query(0, ALIAS, [2]),
                          rows=[[1]])

    def test_all_begins_anew_with_each_name(self):
        # From [1] it goes down to server 1; from [2] it begins at the root again.
        calls = [begin(3, 1, [0]), zone(0, 60, []), hand_on([1], 1), hand_on([2], 2),
                 zone(1, 60, [1]), alias([1, 1], [2, 2], 60, 1, [1]), zone(2, 60, [2]),
                 tells([2, 2], 7, 50, 2, [2])]
        self.assert_found(TOLD, 4, 50, *calls, query(0, NUMBER, [1, 1]), gone_on=[[2, 2]],
                          rows=[[7]])

    def test_with_what_is_known_by_then(self):
        # The alias leads back below [1], where the handing on was learnt just before.
        calls = [begin(2, 1, [0]), zone(0, 60, []), hand_on([1], 1), zone(1, 60, [1]),
                 alias([1, 1], [1, 2], 60, 1, [1]), tells([1, 2], 7, 50, 1, [1])]
        self.assert_found(TOLD, 3, 50, *calls, query(0, NUMBER, [1, 1]), gone_on=[[1, 2]],
                          rows=[[7]])


class SeveralCaches(QueryCase):

    def test_they_do_not_know_of_each_other(self):
        calls = [begin(1, 4, [0]), zone(0, 60, []), tells([5], 7, 33)]
        for cache in range(4):
            calls += [query(cache, NUMBER, [5]), let_pass(1)]
            self.assert_found(TOLD, 1, 33, *calls[:-1], rows=[[7]])
        for cache in range(4):
            self.assertEqual(self.known(*calls, cache=cache), [(29 + cache, [5], 1, 1, [[7]])])

    def test_one_is_flushed_and_the_others_are_not(self):
        calls = [begin(1, 3, [0]), zone(0, 60, []), tells([5], 7, 33)]
        calls += [query(cache, NUMBER, [5]) for cache in range(3)] + [flush(1)]
        self.assert_found(TOLD, 0, 33, *calls, query(0, NUMBER, [5]), rows=[[7]])
        self.assert_found(TOLD, 1, 33, *calls, query(1, NUMBER, [5]), rows=[[7]])
        self.assert_found(TOLD, 0, 33, *calls, query(2, NUMBER, [5]), rows=[[7]])

    def test_begin_makes_them_anew(self):
        again = [begin(1, 1, [0]), zone(0, 60, [])]
        self.assert_found(NO_NAME, 1, 60, number(5), query(0, NUMBER, [5]), *again,
                          query(0, NUMBER, [5]))
        self.assertEqual(self.known(query(0, NUMBER, [5]), *again), [])
        self.assertEqual(self.known(query(0, NUMBER, [5]), begin(9, 1, [0])),
                         [(60, [5], 0, 3, [])])

    def test_query_changes_no_zone(self):
        calls = [number(5), query(0, NUMBER, [5]), query(0, NUMBER, [6]),
                 add(0, 2, 1, 60, [], [6], [7])]
        self.assertEqual(told(*calls)[-1], [3])
