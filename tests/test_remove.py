"""Call 6, remove."""

from calling import (BIG, CallCase, add, copy, number, play, played, records_of, remove, told,
                     zone, zone_of)


class Remove(CallCase):

    def test_it_answers_the_new_serial(self):
        calls = [number(5), number(6), remove(0, 0, 1, [], [5], [7]), remove(0, 0, 1, [], [6], [7])]
        self.assertEqual(told(*calls), [[2], [3], [4], [5]])

    def test_just_this_record_is_taken_out(self):
        net = played(number(5, 1), number(5, 2), number(6, 1), add(0, 0, 3, 60, [], [5], [1]),
                     remove(0, 0, 1, [], [5], [1]))
        self.assertEqual(records_of(net, 0), [((5,), 1, (2,), 60), ((6,), 1, (1,), 60),
                                              ((5,), 3, (1,), 60)])

    def test_records_of_each_sort_and_of_any_life(self):
        for kind, value in ((1, [0]), (2, []), (2, [4, 5]), (3, [1])):
            for life in (0, 100000):
                self.assert_told([3], add(0, 0, kind, life, [], [5], value),
                                 remove(0, 0, kind, [], [5], value))

    def test_what_stands_at_the_apex_and_for_all_others(self):
        for name in ([], [0], [5, 0]):
            self.assert_told([3], add(0, 0, 1, 1, [], name, [7]), remove(0, 0, 1, [], name, [7]))

    def test_there_is_room_again(self):
        full = [number(label) for label in range(1, 41)]
        calls = full + [number(41), remove(0, 0, 1, [], [9], [7]), number(41), number(42)]
        self.assertEqual(told(*calls)[-4:], [[-5], [42], [43], [-5]])

    def test_an_alias_no_longer_stands_there(self):
        calls = [add(0, 0, 2, 1, [], [5], [9]), number(5), remove(0, 0, 2, [], [5], [9]), number(5)]
        self.assertEqual(told(*calls), [[2], [-8], [3], [4]])

    def test_the_serial_told(self):
        before = [number(5), number(6)]
        self.assert_told([4], *before, remove(0, 3, 1, [], [5], [7]))
        self.assert_told([4], *before, remove(0, 0, 1, [], [5], [7]))

    def test_only_the_zone_told_is_changed(self):
        net = played(zone(0, 60, [3]), number(5, apex=[3]), add(0, 0, 1, 1, [], [3, 5], [7]),
                     remove(0, 0, 1, [3], [3, 5], [7]))
        self.assertEqual((zone_of(net, 0).serial, zone_of(net, 0, [3]).serial), (2, 3))
        self.assertEqual((len(records_of(net, 0)), records_of(net, 0, [3])), (1, []))

    def test_a_server_that_is_down_is_changed_all_the_same(self):
        net = played(number(5))
        net.servers[0].up = False
        self.assertEqual(play(net, remove(0, 0, 1, [], [5], [7])), [[3]])


class RemoveRefused(CallCase):

    def test_no_such_server(self):
        for server in (2, BIG):
            self.assert_refused(-2, remove(server, 0, 1, [], [5], [7]))

    def test_no_zone_of_this_apex(self):
        for apex in ([1], [0], [1] * 7, [BIG] * 1024):
            self.assert_refused(-3, remove(0, 0, 1, apex, [5], [7]))
        self.assert_refused(-3, remove(1, 0, 1, [], [5], [7]))

    def test_it_is_a_copy(self):
        self.assert_refused(-6, number(5), copy(1, 0, 9, []), remove(1, 0, 1, [], [5], [7]))

    def test_another_serial(self):
        for serial in (1, 3, BIG):
            self.assert_refused(-7, number(5), remove(0, serial, 1, [], [5], [7]))

    def test_no_such_record(self):
        for kind, name, value in ((1, [6], [7]), (1, [5, 7], [7]), (1, [], [7]), (1, [5], [8]),
                                  (1, [5], []), (1, [5], [7, 7]), (2, [5], [7]), (3, [5], [7]),
                                  (1, [0], [7])):
            self.assert_refused(-4, number(5), remove(0, 0, kind, [], name, value))

    def test_what_no_record_can_be_is_no_such_record(self):
        for kind in (0, 4, BIG):
            self.assert_refused(-4, number(5), remove(0, 0, kind, [], [5], [7]))
        for name in ([100], [0, 0], [1] * 7, [BIG] * 1024):
            self.assert_refused(-4, number(5), remove(0, 0, 1, [], name, [7]))
        self.assert_refused(-4, number(5), remove(0, 0, 1, [], [5], [BIG] * 1024))

    def test_it_is_taken_out_once(self):
        out = remove(0, 0, 1, [], [5], [7])
        self.assert_refused(-4, number(5), out, out)

    def test_the_one_told_first(self):
        is_copy = copy(1, 0, 9, [])
        self.assert_refused(-2, remove(2, 9, 1, [1], [5], [7]))
        self.assert_refused(-3, is_copy, remove(1, 9, 1, [1], [5], [7]))
        self.assert_refused(-6, is_copy, remove(1, 9, 1, [], [5], [7]))
        self.assert_refused(-7, remove(0, 9, 1, [], [5], [7]))

    def test_all_is_as_it_was(self):
        calls = [number(5), remove(0, 9, 1, [], [5], [7]), remove(0, 0, 1, [], [5], [8]),
                 remove(0, 2, 1, [], [5], [7])]
        self.assertEqual(told(*calls), [[2], [-7], [-4], [3]])
