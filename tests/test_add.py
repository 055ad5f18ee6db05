"""Call 5, add."""

from calling import (BIG, CallCase, add, begin, copy, last, number, play, played, records_of, told,
                     zone, zone_of)

NUMBER, ALIAS, HANDED_ON = 1, 2, 3


def full(count=40):
    return [number(label) for label in range(1, count + 1)]


class Add(CallCase):

    def test_it_answers_the_new_serial(self):
        self.assertEqual(told(number(5), number(6), number(7)), [[2], [3], [4]])

    def test_the_record_stands_behind_the_others(self):
        net = played(add(0, 0, 1, 60, [], [5], [7]), add(0, 0, 2, 70, [], [4], [1, 2]),
                     add(0, 0, 3, 80, [], [9], [1]))
        self.assertEqual(records_of(net, 0), [((5,), 1, (7,), 60), ((4,), 2, (1, 2), 70),
                                              ((9,), 3, (1,), 80)])

    def test_the_same_again_goes_behind_the_others(self):
        net = played(number(5), number(6), add(0, 0, 1, 99, [], [5], [7]))
        self.assertEqual(records_of(net, 0), [((6,), 1, (7,), 60), ((5,), 1, (7,), 99)])
        self.assertEqual(zone_of(net, 0).serial, 4)

    def test_the_same_again_is_one_record(self):
        calls = [number(5), number(5), number(5), copy(1, 0, 9, [])]
        self.assertEqual(told(*calls), [[2], [3], [4], [4]])
        self.assertEqual(len(records_of(played(*calls), 1)), 1)

    def test_of_one_name_several_values_and_sorts(self):
        net = played(number(5, 1), number(5, 2), add(0, 0, 3, 60, [], [5], [1]))
        self.assertEqual(len(records_of(net, 0)), 3)

    def test_in_a_zone_below_the_root(self):
        calls = [zone(1, 60, [3, 4]), add(1, 0, 1, 1, [3, 4], [3, 4], [1]),
                 add(1, 0, 1, 1, [3, 4], [3, 4, 5, 6, 7, 8], [1])]
        self.assertEqual(told(*calls), [[1], [2], [3]])

    def test_only_the_zone_told_is_changed(self):
        net = played(zone(0, 60, [3]), number(5, apex=[3]))
        self.assertEqual(zone_of(net, 0).serial, 1)
        self.assertEqual(zone_of(net, 0, [3]).serial, 2)


class NameOfARecord(CallCase):

    def assert_name(self, name):
        self.assert_told([2], add(0, 0, 1, 1, [], name, [1]))

    def assert_no_name(self, name):
        self.assert_refused(-1, add(0, 0, 1, 1, [], name, [1]))

    def test_of_0_to_6_labels(self):
        for length in range(7):
            self.assert_name([50] * length)

    def test_of_7_labels_and_more(self):
        for length in (7, 8, 1024):
            self.assert_no_name([50] * length)
            self.assert_no_name([50] * (length - 1) + [0])

    def test_labels(self):
        for label in (1, 99):
            self.assert_name([label])
            self.assert_name([label, label])
        for label in (100, 101, BIG):
            self.assert_no_name([label])
            self.assert_no_name([1, label])
            self.assert_no_name([label, 1])

    def test_the_last_label_may_be_0(self):
        for length in range(6):
            self.assert_name([50] * length + [0])

    def test_no_other_label_may_be_0(self):
        for name in ([0, 1], [1, 0, 1], [0, 0], [1, 0, 0], [1, 1, 1, 1, 0, 1]):
            self.assert_no_name(name)

    def test_it_begins_with_the_apex(self):
        apex = [3, 4]
        for name in ([3, 4], [3, 4, 5], [3, 4, 0]):
            self.assert_told([2], zone(0, 60, apex), add(0, 0, 1, 1, apex, name, [1]))

    def test_it_does_not_begin_with_the_apex(self):
        apex = [3, 4]
        for name in ([], [3], [4, 3], [3, 5], [4], [3, 0], [0], [1, 3, 4]):
            self.assert_refused(-1, zone(0, 60, apex), add(0, 0, 1, 1, apex, name, [1]))


class WhatARecordTells(CallCase):

    def assert_value(self, kind, value):
        self.assert_told([2], add(0, 0, kind, 1, [], [5], value))

    def assert_no_value(self, kind, value):
        self.assert_refused(-1, add(0, 0, kind, 1, [], [5], value))

    def test_sort_1_tells_one_number_up_to_a_thousand_million(self):
        for value in ([0], [1], [999999999], [1000000000]):
            self.assert_value(NUMBER, value)
        for value in ([1000000001], [BIG], [], [1, 2], [1] * 1024):
            self.assert_no_value(NUMBER, value)

    def test_sort_2_tells_a_name(self):
        for value in ([], [1], [99], [5], [1, 2, 3, 4, 5, 6]):
            self.assert_value(ALIAS, value)
        for value in ([0], [1, 0], [0, 1], [100], [BIG], [1] * 7, [1] * 1024):
            self.assert_no_value(ALIAS, value)

    def test_sort_3_tells_one_server_that_there_is(self):
        for value in ([0], [1]):
            self.assert_value(HANDED_ON, value)
        for value in ([2], [BIG], [], [0, 1], [0] * 1024):
            self.assert_no_value(HANDED_ON, value)
        self.assert_told([2], begin(8, 1, [0]), zone(0, 60, []), add(0, 0, 3, 1, [], [5], [7]))
        self.assert_refused(-1, begin(8, 1, [0]), zone(0, 60, []), add(0, 0, 3, 1, [], [5], [8]))

    def test_no_other_sort(self):
        for kind in (0, 4, 5, BIG):
            for value in ([], [0], [1], [1, 2]):
                self.assert_no_value(kind, value)

    def test_lives(self):
        for life in (0, 1, 100000):
            self.assert_told([2], add(0, 0, 1, life, [], [5], [1]))
            net = played(add(0, 0, 1, life, [], [5], [1]))
            self.assertEqual(records_of(net, 0)[0][3], life)
        for life in (100001, BIG):
            self.assert_refused(-1, add(0, 0, 1, life, [], [5], [1]))


class SerialTold(CallCase):

    def test_0_and_the_one_of_the_zone(self):
        calls = [add(0, 1, 1, 1, [], [1], [1]), add(0, 2, 1, 1, [], [2], [1]),
                 add(0, 0, 1, 1, [], [3], [1]), add(0, 4, 1, 1, [], [4], [1])]
        self.assertEqual(told(*calls), [[2], [3], [4], [5]])

    def test_another(self):
        for serial in (1, 3, BIG):
            self.assert_refused(-7, number(1), add(0, serial, 1, 1, [], [2], [1]))


class WhereRecordsMayStand(CallCase):

    def test_an_alias_where_another_record_is(self):
        for other in (number(5), add(0, 0, 3, 1, [], [5], [1]), add(0, 0, 2, 1, [], [5], [8])):
            self.assert_refused(-8, other, add(0, 0, 2, 1, [], [5], [9]))

    def test_another_record_where_an_alias_is(self):
        alias = add(0, 0, 2, 1, [], [5], [9])
        self.assert_refused(-8, alias, number(5))
        self.assert_refused(-8, alias, add(0, 0, 3, 1, [], [5], [1]))

    def test_behind_others_of_other_names(self):
        before = [number(4), number(6), number(5)]
        self.assert_refused(-8, *before, number(7), add(0, 0, 2, 1, [], [5], [9]))

    def test_the_alias_itself_again(self):
        calls = [add(0, 0, 2, 1, [], [5], [9]), number(6), add(0, 0, 2, 8, [], [5], [9])]
        self.assertEqual(told(*calls), [[2], [3], [4]])
        self.assertEqual(records_of(played(*calls), 0)[1], ((5,), 2, (9,), 8))

    def test_an_alias_beside_other_names(self):
        for name in ([], [6], [5, 5], [0], [5, 0]):
            self.assert_told([3], add(0, 0, 1, 1, [], name, [1]), add(0, 0, 2, 1, [], [5], [9]))
            self.assert_told([3], add(0, 0, 2, 1, [], [5], [9]), add(0, 0, 1, 1, [], name, [1]))

    def test_an_alias_at_the_apex_and_for_all_others(self):
        self.assert_told([2], add(0, 0, 2, 1, [], [], [9]))
        self.assert_told([2], add(0, 0, 2, 1, [], [0], [9]))
        self.assert_refused(-8, add(0, 0, 2, 1, [], [0], [9]), add(0, 0, 1, 1, [], [0], [9]))

    def test_sort_3_at_the_apex(self):
        self.assert_refused(-8, add(0, 0, 3, 1, [], [], [1]))
        self.assert_refused(-8, zone(0, 60, [3]), add(0, 0, 3, 1, [3], [3], [1]))
        self.assert_told([2], zone(0, 60, [3]), add(0, 0, 3, 1, [3], [3, 1], [1]))
        self.assert_told([2], zone(0, 60, [3]), add(0, 0, 3, 1, [], [3], [1]))

    def test_sort_3_for_all_others(self):
        self.assert_refused(-8, add(0, 0, 3, 1, [], [0], [1]))
        self.assert_refused(-8, add(0, 0, 3, 1, [], [5, 0], [1]))

    def test_other_sorts_at_the_apex_and_for_all_others(self):
        self.assert_told([2], add(0, 0, 1, 1, [], [], [1]))
        self.assert_told([2], add(0, 0, 1, 1, [], [0], [1]))


class AddRefused(CallCase):

    def test_no_such_server(self):
        for server in (2, BIG):
            self.assert_refused(-2, number(5, server=server))

    def test_no_zone_of_this_apex(self):
        for apex in ([1], [0], [1] * 7, [BIG] * 1024):
            self.assert_refused(-3, add(0, 0, 1, 1, apex, apex, [1]))
        self.assert_refused(-3, number(5, server=1))

    def test_it_is_a_copy(self):
        self.assert_refused(-6, copy(1, 0, 9, []), number(5, server=1))

    def test_40_records(self):
        self.assertEqual(last(*full()), [41])
        self.assert_refused(-5, *full(), number(41))

    def test_40_records_of_which_one_is_the_same(self):
        self.assert_refused(-5, *full(), number(1))

    def test_39_records_of_which_one_is_the_same(self):
        calls = full(39) + [number(1), number(40)]
        self.assertEqual(told(*calls)[-2:], [[41], [42]])
        self.assert_refused(-5, *calls, number(41))

    def test_the_one_told_first(self):
        is_copy = copy(1, 0, 9, [])
        self.assert_refused(-2, add(2, 9, 4, BIG, [1], [0, 0], []))
        self.assert_refused(-3, is_copy, add(1, 9, 4, BIG, [1], [0, 0], []))
        self.assert_refused(-6, is_copy, add(1, 9, 4, BIG, [], [0, 0], []))
        self.assert_refused(-6, is_copy, add(1, 9, 3, 1, [], [], [0]))

    def test_no_record_is_told_ahead_of_the_serial(self):
        self.assert_refused(-1, add(0, 9, 1, 1, [], [0, 0], [1]))
        self.assert_refused(-1, add(0, 9, 3, 1, [], [], [2]))
        self.assert_refused(-1, *full(), add(0, 9, 1, 100001, [], [1], [1]))

    def test_the_serial_is_told_ahead_of_where_it_stands(self):
        self.assert_refused(-7, add(0, 9, 3, 1, [], [], [1]))
        self.assert_refused(-7, number(5), add(0, 1, 2, 1, [], [5], [1]))
        self.assert_refused(-7, *full(), add(0, 9, 1, 1, [], [41], [1]))

    def test_where_it_stands_is_told_ahead_of_40_records(self):
        self.assert_refused(-8, *full(), add(0, 0, 2, 1, [], [5], [1]))
        self.assert_refused(-8, *full(), add(0, 0, 3, 1, [], [], [1]))

    def test_a_server_that_is_down_is_changed_all_the_same(self):
        net = played()
        net.servers[0].up = False
        self.assertEqual(play(net, number(5)), [[2]])

    def test_all_is_as_it_was(self):
        calls = [number(5), add(0, 0, 2, 1, [], [5], [1]), add(0, 9, 1, 1, [], [6], [1]),
                 add(0, 0, 1, 1, [], [100], [1]), copy(1, 0, 9, []), add(0, 2, 1, 1, [], [6], [1])]
        self.assertEqual(told(*calls), [[2], [-8], [-7], [-1], [2], [3]])
