"""Call 11, ask: what a zone tells of a name, and when a server refuses."""

from calling import (BIG, CallCase, add, alias, ask, begin, copy, drop, hand_on, let_pass, number,
                     remove, switch, tells, told, transfer, zone)

NUMBER, ALIAS, HANDED_ON = 1, 2, 3


class AskCase(CallCase):

    def assert_asked(self, wanted, *calls, name, kind=NUMBER, server=0):
        self.assert_told(wanted, *calls, ask(server, kind, name))


class TheNameItself(AskCase):

    def test_a_number(self):
        self.assert_asked([1, 33, 1, 1, 7], tells([5], 7, 33), name=[5])
        self.assert_asked([1, 33, 1, 1, 0], tells([5], 0, 33), name=[5])
        self.assert_asked([1, 0, 1, 1, 1000000000], tells([5], 1000000000, 0), name=[5])

    def test_several_records_in_order_with_the_least_life(self):
        calls = [tells([5], 9, 40), tells([5], 3, 30), tells([6], 1, 2), tells([5], 6, 50)]
        self.assert_asked([1, 30, 3, 1, 9, 1, 3, 1, 6], *calls, name=[5])
        self.assert_asked([1, 40, 3, 1, 3, 1, 6, 1, 9], *calls, remove(0, 0, 1, [], [5], [3]),
                          tells([5], 3, 60), remove(0, 0, 1, [], [5], [6]), tells([5], 6, 50),
                          tells([5], 9, 40), name=[5])

    def test_the_same_again_is_told_behind_the_others_and_once(self):
        calls = [tells([5], 1, 10), tells([5], 2, 20), tells([5], 1, 90)]
        self.assert_asked([1, 20, 2, 1, 2, 1, 1], *calls, name=[5])

    def test_what_is_taken_out_is_told_no_more(self):
        calls = [tells([5], 1, 10), tells([5], 2, 20), remove(0, 0, 1, [], [5], [1])]
        self.assert_asked([1, 20, 1, 1, 2], *calls, name=[5])
        self.assert_asked([3, 60], *calls, remove(0, 0, 1, [], [5], [2]), name=[5])

    def test_at_the_apex(self):
        self.assert_asked([1, 9, 1, 1, 4], tells([], 4, 9), name=[])
        self.assert_asked([1, 8, 1, 1, 5], zone(1, 60, [3, 4]), tells([3, 4], 5, 8, 1, [3, 4]),
                          name=[3, 4], server=1)

    def test_of_one_label_and_of_six(self):
        for name in ([1], [99], [1, 2, 3, 4, 5, 6], [99, 99, 99, 99, 99, 99]):
            self.assert_asked([1, 60, 1, 1, 7], tells(name), name=name)

    def test_forty_records(self):
        calls = [tells([5], value, 100 - value) for value in range(40)]
        wanted = [one for value in range(40) for one in (1, value)]
        self.assert_asked([1, 61, 40] + wanted, *calls, name=[5])


class AnAlias(AskCase):

    def test_where_sort_1_is_asked(self):
        self.assert_asked([4, 33, 2, 8, 9], alias([5], [8, 9], 33), name=[5])
        self.assert_asked([4, 0, 0], alias([5], [], 0), name=[5])
        self.assert_asked([4, 33, 1, 5], alias([5], [5], 33), name=[5])

    def test_where_sort_2_is_asked(self):
        self.assert_asked([1, 33, 1, 2, 8, 9], alias([5], [8, 9], 33), name=[5], kind=ALIAS)
        self.assert_asked([1, 0, 1, 0], alias([5], [], 0), name=[5], kind=ALIAS)

    def test_where_sort_3_is_asked(self):
        self.assert_asked([4, 33, 2, 8, 9], alias([5], [8, 9], 33), name=[5], kind=HANDED_ON)
        self.assert_asked([4, 33, 6, 1, 2, 3, 4, 5, 6], alias([5], [1, 2, 3, 4, 5, 6], 33),
                          name=[5], kind=HANDED_ON)

    def test_at_the_apex(self):
        self.assert_asked([4, 33, 1, 9], alias([], [9], 33), name=[])
        self.assert_asked([1, 33, 1, 1, 9], alias([], [9], 33), name=[], kind=ALIAS)

    def test_below_it_is_another_name(self):
        self.assert_asked([3, 60], alias([5], [9]), name=[5, 1])
        self.assert_asked([1, 60, 1, 1, 7], alias([5], [9]), tells([5, 1]), name=[5, 1])

    def test_the_server_does_not_go_on_with_it(self):
        self.assert_asked([4, 60, 1, 9], alias([5], [9]), tells([9]), name=[5])


class Nothing(AskCase):

    def test_records_of_another_sort_alone(self):
        for kind in (ALIAS, HANDED_ON):
            self.assert_asked([2, 60], tells([5]), name=[5], kind=kind)

    def test_at_the_apex_where_there_is_no_record(self):
        for kind in (NUMBER, ALIAS, HANDED_ON):
            self.assert_asked([2, 60], name=[], kind=kind)
            self.assert_asked([2, 44], zone(1, 44, [3]), name=[3], kind=kind, server=1)

    def test_it_has_the_life_of_the_zone(self):
        for life in (0, 1, 100000):
            self.assert_asked([2, life], zone(0, life, [3]), tells([3, 5], 7, 9, 0, [3]),
                              name=[3, 5], kind=ALIAS)

    def test_there_only_as_a_beginning_of_a_records_name(self):
        calls = [tells([1, 2, 3, 4])]
        for name in ([1], [1, 2], [1, 2, 3]):
            for kind in (NUMBER, ALIAS, HANDED_ON):
                self.assert_asked([2, 60], *calls, name=name, kind=kind)
        for name in ([2], [1, 3], [1, 2, 4], [1, 2, 3, 5], [1, 2, 3, 4, 5], [2, 3, 4]):
            self.assert_asked([3, 60], *calls, name=name)

    def test_there_only_as_a_beginning_of_one_with_a_last_label_0(self):
        calls = [tells([1, 2, 0])]
        for name in ([1], [1, 2]):
            self.assert_asked([2, 60], *calls, name=name)
        self.assert_asked([3, 60], *calls, name=[2])
        self.assert_asked([3, 60], *calls, name=[1, 3])

    def test_there_only_as_a_beginning_of_where_it_is_handed_on(self):
        calls = [hand_on([1, 2, 3], 1)]
        for name in ([1], [1, 2]):
            self.assert_asked([2, 60], *calls, name=name)
        self.assert_asked([3, 60], *calls, name=[1, 3])

    def test_there_only_as_a_beginning_of_what_is_below_there(self):
        calls = [hand_on([1, 2], 1), tells([1, 2, 3]), remove(0, 0, 3, [], [1, 2], [1])]
        self.assert_asked([5, 60, 2, 1, 2, 1, 1], *calls[:2], name=[1, 2, 3])
        self.assert_asked([2, 60], *calls[:2], name=[1])
        self.assert_asked([2, 60], *calls, name=[1, 2])


class NoSuchName(AskCase):

    def test_of_each_sort(self):
        for kind in (NUMBER, ALIAS, HANDED_ON):
            self.assert_asked([3, 60], name=[7], kind=kind)
            self.assert_asked([3, 60], tells([7, 1]), tells([8]), name=[9, 7], kind=kind)

    def test_it_has_the_life_of_the_zone(self):
        for life in (0, 1, 100000):
            self.assert_asked([3, life], zone(0, life, [3]), tells([3, 5], 7, 9, 0, [3]),
                              name=[3, 6])

    def test_where_all_that_was_there_is_taken_out(self):
        calls = [tells([1, 2]), remove(0, 0, 1, [], [1, 2], [7])]
        for name in ([1], [1, 2]):
            self.assert_asked([3, 60], *calls, name=name)
        self.assert_asked([2, 60], *calls, name=[])


class AllOthers(AskCase):

    def test_it_stands_for_all_that_is_not_there(self):
        for name in ([1], [99], [1, 2], [1, 2, 3, 4, 5, 6]):
            self.assert_asked([1, 33, 1, 1, 7], tells([0], 7, 33), name=name)

    def test_not_where_the_name_itself_is_there(self):
        calls = [tells([0], 7, 33), alias([5], [9]), tells([6, 1], 8), tells([7], 3)]
        self.assert_asked([4, 60, 1, 9], *calls, name=[5])
        self.assert_asked([2, 60], *calls, name=[6])
        self.assert_asked([2, 60], *calls, name=[7], kind=ALIAS)
        self.assert_asked([2, 60], *calls, name=[])
        self.assert_asked([1, 33, 1, 1, 7], *calls, name=[8])

    def test_below_the_longest_beginning_that_there_is(self):
        calls = [tells([0], 1), tells([5, 0], 2), tells([5, 6, 0], 3), tells([5, 7, 8], 4)]
        for name, value in (([4], 1), ([4, 6], 1), ([5, 4], 2), ([5, 4, 6], 2), ([5, 6, 1], 3),
                            ([5, 6, 1, 2, 3, 4], 3)):
            self.assert_asked([1, 60, 1, 1, value], *calls, name=name)

    def test_no_other_beginning_stands_in_for_the_longest_one(self):
        calls = [tells([0], 1), tells([5, 0], 2), tells([5, 7, 8], 4)]
        self.assert_asked([3, 60], *calls, name=[5, 7, 1])
        self.assert_asked([3, 60], *calls, name=[5, 7, 8, 1])
        self.assert_asked([3, 60], tells([0], 1), tells([5], 2), name=[5, 1])
        self.assert_asked([3, 60], tells([0], 1), hand_on([5, 1], 1), name=[5, 2])

    def test_right_below_the_apex(self):
        calls = [zone(0, 44, [3, 4]), tells([3, 4, 0], 2, 9, 0, [3, 4])]
        self.assert_asked([1, 9, 1, 1, 2], *calls, name=[3, 4, 5])
        self.assert_asked([1, 9, 1, 1, 2], *calls, name=[3, 4, 5, 6])
        self.assert_asked([2, 44], *calls, name=[3, 4])

    def test_what_stands_above_the_apex_is_another_zones(self):
        calls = [tells([0], 1), tells([3, 0], 1), zone(0, 44, [3])]
        self.assert_asked([3, 44], *calls, name=[3, 5])
        self.assert_asked([1, 60, 1, 1, 1], *calls, name=[4, 5])

    def test_of_six_labels(self):
        calls = [tells([1, 2, 3, 4, 5, 0])]
        self.assert_asked([1, 60, 1, 1, 7], *calls, name=[1, 2, 3, 4, 5, 6])
        self.assert_asked([2, 60], *calls, name=[1, 2, 3, 4, 5])
        self.assert_asked([3, 60], *calls, name=[1, 2, 3, 4, 6])

    def test_an_alias(self):
        calls = [alias([0], [9, 9], 33)]
        self.assert_asked([4, 33, 2, 9, 9], *calls, name=[5])
        self.assert_asked([4, 33, 2, 9, 9], *calls, name=[5, 6], kind=HANDED_ON)
        self.assert_asked([1, 33, 1, 2, 9, 9], *calls, name=[5], kind=ALIAS)
        self.assert_asked([4, 33, 2, 9, 9], *calls, name=[9, 9])

    def test_of_another_sort_alone_it_is_nothing(self):
        for kind in (ALIAS, HANDED_ON):
            self.assert_asked([2, 60], tells([0], 1, 5), name=[5], kind=kind)

    def test_several_in_order_with_the_least_life(self):
        self.assert_asked([1, 20, 2, 1, 9, 1, 3], tells([0], 9, 40), tells([0], 3, 20), name=[5])

    def test_not_where_the_name_is_handed_on(self):
        calls = [tells([0], 1), tells([5, 0], 2), hand_on([5], 1, 20)]
        self.assert_asked([5, 20, 1, 5, 1, 1], *calls, name=[5])
        self.assert_asked([5, 20, 1, 5, 1, 1], *calls, name=[5, 1])
        self.assert_asked([1, 60, 1, 1, 1], *calls, name=[6])


class HandedOn(AskCase):

    def test_there_and_below_for_each_sort(self):
        for name in ([5, 6], [5, 6, 7], [5, 6, 1, 2, 3, 4]):
            for kind in (NUMBER, ALIAS, HANDED_ON):
                self.assert_asked([5, 33, 2, 5, 6, 1, 1], hand_on([5, 6], 1, 33), name=name,
                                  kind=kind)

    def test_not_above_nor_beside(self):
        self.assert_asked([2, 60], hand_on([5, 6], 1), name=[5])
        self.assert_asked([3, 60], hand_on([5, 6], 1), name=[5, 7])
        self.assert_asked([3, 60], hand_on([5, 6], 1), name=[6])

    def test_at_its_shortest_beginning(self):
        calls = [hand_on([5, 6, 7], 0, 10), hand_on([5, 6], 1, 20), hand_on([5, 6, 7, 8], 0, 5)]
        for name in ([5, 6], [5, 6, 7], [5, 6, 7, 8], [5, 6, 7, 8, 9]):
            self.assert_asked([5, 20, 2, 5, 6, 1, 1], *calls, name=name)

    def test_to_several_servers_in_rising_order_with_the_least_life(self):
        start = [begin(8, 1, [0]), zone(0, 60, [])]
        calls = start + [hand_on([5], other, life) for other, life in ((6, 40), (1, 30), (4, 50))]
        self.assert_asked([5, 30, 1, 5, 3, 1, 4, 6], *calls, name=[5, 1])
        calls += [hand_on([5], 6, 90), hand_on([5], 0, 70), hand_on([5, 1], 7, 2)]
        self.assert_asked([5, 30, 1, 5, 4, 0, 1, 4, 6], *calls, name=[5, 1])
        calls += [remove(0, 0, 3, [], [5], [1])]
        self.assert_asked([5, 50, 1, 5, 3, 0, 4, 6], *calls, name=[5, 1])

    def test_nothing_else_is_told(self):
        calls = [tells([5], 1, 9), tells([5, 6], 2, 9), alias([5, 7], [8], 9), tells([5, 0], 3, 9),
                 hand_on([5], 1, 33), tells([5], 4, 9)]
        for name in ([5], [5, 6], [5, 7], [5, 8]):
            for kind in (NUMBER, ALIAS, HANDED_ON):
                self.assert_asked([5, 33, 1, 5, 1, 1], *calls, name=name, kind=kind)

    def test_to_the_server_itself(self):
        self.assert_asked([5, 60, 1, 5, 1, 0], hand_on([5], 0), name=[5])

    def test_below_the_apex_of_a_deeper_zone(self):
        calls = [zone(0, 60, [3]), hand_on([3, 5], 1, 8, 0, [3])]
        self.assert_asked([5, 8, 2, 3, 5, 1, 1], *calls, name=[3, 5, 6])
        self.assert_asked([2, 60], *calls, name=[3])

    def test_at_the_apex_it_is_the_zone_above_that_hands_on(self):
        calls = [hand_on([3], 1, 8), zone(1, 44, [3]), zone(0, 44, [3])]
        self.assert_asked([5, 8, 1, 3, 1, 1], *calls[:2], name=[3])
        self.assert_asked([2, 44], *calls, name=[3])
        self.assert_asked([2, 44], *calls[:2], name=[3], server=1)

    def test_taken_out_it_is_not_handed_on(self):
        calls = [hand_on([5], 1), tells([5, 6]), remove(0, 0, 3, [], [5], [1])]
        self.assert_asked([1, 60, 1, 1, 7], *calls, name=[5, 6])


class WhichZone(AskCase):

    ZONES = [zone(0, 10, [3]), zone(0, 20, [3, 4]), zone(0, 30, [3, 4, 5, 6])]

    def test_the_longest_with_whose_apex_the_name_begins(self):
        for name, life in (([2], 60), ([4, 3], 60), ([3, 1], 10), ([3, 5], 10), ([3, 4, 1], 20),
                           ([3, 4, 5], 20), ([3, 4, 5, 7], 20), ([3, 4, 5, 6, 1], 30)):
            self.assert_asked([3, life], *self.ZONES, name=name)
        for name, life in (([], 60), ([3], 10), ([3, 4], 20), ([3, 4, 5, 6], 30)):
            self.assert_asked([2, life], *self.ZONES, name=name)

    def test_in_whatever_order_they_came(self):
        calls = list(reversed(self.ZONES)) + [drop(0, []), zone(0, 70, [])]
        for name, life in (([2], 70), ([3, 1], 10), ([3, 4, 1], 20), ([3, 4, 5, 6, 1], 30)):
            self.assert_asked([3, life], *calls, name=name)

    def test_what_another_zone_of_the_server_has_is_not_told(self):
        calls = [tells([3, 4, 1], 8), hand_on([3, 5], 1)] + self.ZONES
        self.assert_asked([3, 20], *calls, name=[3, 4, 1])
        self.assert_asked([3, 10], *calls, name=[3, 5])

    def test_what_is_dropped_tells_no_more(self):
        calls = self.ZONES + [drop(0, [3, 4])]
        self.assert_asked([3, 10], *calls, name=[3, 4, 1])
        self.assert_asked([3, 30], *calls, name=[3, 4, 5, 6, 1])


class AServerRefuses(AskCase):

    def test_without_a_zone(self):
        for name in ([], [5], [1, 2, 3, 4, 5, 6]):
            for kind in (NUMBER, ALIAS, HANDED_ON):
                self.assert_asked([0], name=name, kind=kind, server=1)

    def test_without_such_a_zone(self):
        calls = [zone(1, 60, [3, 4])]
        for name in ([], [3], [4], [3, 5], [4, 3], [4, 3, 4]):
            self.assert_asked([0], *calls, name=name, server=1)
        self.assert_asked([2, 60], *calls, name=[3, 4], server=1)

    def test_where_the_zone_is_not_good(self):
        calls = [tells([5]), copy(1, 0, 9, []), let_pass(9)]
        self.assert_asked([1, 60, 1, 1, 7], *calls, name=[5], server=1)
        for name in ([5], [], [6]):
            self.assert_asked([0], *calls, let_pass(1), name=name, server=1)

    def test_where_the_longest_one_is_not_good_and_a_shorter_one_is(self):
        calls = [zone(1, 60, []), tells([5]), zone(0, 60, [3]), copy(1, 0, 9, [3]), let_pass(10)]
        self.assert_asked([0], *calls, name=[3, 5], server=1)
        self.assert_asked([0], *calls, name=[3], server=1)
        self.assert_asked([3, 60], *calls, name=[4], server=1)
        self.assert_asked([3, 60], *calls, drop(1, [3]), name=[3, 5], server=1)
        self.assert_asked([3, 60], *calls, transfer(1, [3]), name=[3, 5], server=1)

    def test_where_a_shorter_one_is_not_good_and_the_longest_one_is(self):
        calls = [copy(1, 0, 9, []), zone(1, 44, [3]), let_pass(10)]
        self.assert_asked([3, 44], *calls, name=[3, 5], server=1)
        self.assert_asked([0], *calls, name=[4], server=1)


class ACopy(AskCase):

    def test_it_tells_what_the_zone_tells(self):
        calls = [tells([5], 7, 33), alias([6], [8]), tells([7, 0], 4), hand_on([9], 1),
                 copy(1, 0, 9, [])]
        for name in ([], [5], [6], [7], [7, 1], [8], [9], [9, 9]):
            for kind in (NUMBER, ALIAS, HANDED_ON):
                here, there = told(*calls, ask(0, kind, name), ask(1, kind, name))[-2:]
                self.assertEqual(here, there)

    def test_it_tells_its_own_state(self):
        calls = [copy(1, 0, 9, []), tells([5])]
        self.assert_asked([3, 60], *calls, name=[5], server=1)
        self.assert_asked([1, 60, 1, 1, 7], *calls, transfer(1, []), name=[5], server=1)

    def test_made_anew_it_has_the_life_of_the_other_one(self):
        calls = [copy(1, 0, 9, []), drop(0, []), zone(0, 44, []), transfer(1, [])]
        self.assert_asked([3, 44], *calls, name=[5], server=1)


class AskRefused(CallCase):

    def test_no_such_server(self):
        for server in (2, BIG):
            self.assert_refused(-2, ask(server, 1, [5]))

    def test_the_sort_is_not_1_to_3(self):
        for kind in (0, 4, 5, BIG):
            self.assert_refused(-1, ask(0, kind, [5]))

    def test_it_is_no_name(self):
        for name in ([0], [5, 0], [0, 5], [100], [5, 100], [BIG], [1] * 7, [1] * 1024,
                     [BIG] * 1024):
            self.assert_refused(-1, tells([5, 0]), tells([0]), ask(0, 1, name))

    def test_it_is_down(self):
        self.assert_refused(-6, number(5), switch(0, 0), ask(0, 1, [5]))
        self.assert_refused(-6, switch(1, 0), ask(1, 1, [5]))

    def test_the_one_told_first(self):
        down = [switch(0, 0), switch(1, 0)]
        self.assert_refused(-2, *down, ask(2, 0, [0]))
        self.assert_refused(-1, *down, ask(0, 0, [5]))
        self.assert_refused(-1, *down, ask(0, 1, [0]))
        self.assert_refused(-6, *down, ask(0, 3, []))

    def test_asking_changes_nothing(self):
        calls = [number(5), ask(0, 1, [5]), ask(0, 1, [6]), add(0, 2, 1, 60, [], [6], [7]),
                 ask(0, 1, [6])]
        self.assertEqual(told(*calls), [[2], [1, 60, 1, 1, 7], [3, 60], [3], [1, 60, 1, 1, 7]])
