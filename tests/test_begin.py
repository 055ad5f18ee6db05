"""Call 1, begin, and how a net is ahead of it."""

from calling import (BIG, CallCase, add, ask, begin, copy, drop, facts, let_pass, number, played,
                     query, records, switch, told, transfer, zone, zone_of)


class AtTheBeginning(CallCase):

    def test_server_0_has_the_zone_of_the_root_as_its_own(self):
        self.assert_refused(-4, zone(0, 60, []))
        self.assert_told([2], zone(0, 60, [1]))
        self.assert_told([2], number(5))

    def test_its_serial_is_1_and_it_has_no_record_and_life_60(self):
        self.assert_told([1], copy(1, 0, 9, []))
        here = zone_of(played(), 0)
        self.assertEqual((here.serial, here.records, here.life, here.changes), (1, [], 60, []))

    def test_server_1_has_no_zone(self):
        self.assert_refused(-3, drop(1, []))
        self.assert_told([1], zone(1, 60, []))

    def test_there_is_no_server_2(self):
        self.assert_refused(-2, zone(2, 60, []))

    def test_all_are_up_and_one_cache_asks_server_0(self):
        net = played()
        self.assertEqual([server.up for server in net.servers], [True, True])
        self.assertEqual((net.now, len(net.caches), net.roots), (0, 1, (0,)))

    def test_what_calls_show_of_it(self):
        calls = [records(0, []), records(1, []), ask(0, 1, []), ask(1, 1, []), facts(0), facts(1),
                 query(0, 1, [5]), switch(0, 1), switch(1, 1), let_pass(1)]
        self.assertEqual(told(*calls), [[1, 1, 0], [-3], [2, 60], [0], [0], [-2],
                                        [3, 1, 60, 0, 0], [-4], [-4], [1]])


class Begin(CallCase):

    def test_it_answers_how_many_servers(self):
        for servers in range(1, 9):
            self.assert_told([servers], begin(servers, 1, [0]))

    def test_the_servers_are_there_and_no_more(self):
        self.assert_told([1], begin(8, 1, [0]), zone(7, 60, []))
        self.assert_refused(-2, begin(8, 1, [0]), zone(8, 60, []))
        self.assert_refused(-2, begin(1, 1, [0]), zone(1, 60, []))

    def test_no_server_has_a_zone(self):
        for server in range(3):
            self.assert_refused(-3, begin(3, 1, [0]), drop(server, []))

    def test_1_to_4_caches(self):
        for caches in range(1, 5):
            self.assert_told([2], begin(2, caches, [0]))
            self.assertEqual(len(played(begin(2, caches, [0])).caches), caches)

    def test_the_servers_of_the_root_are_those_told(self):
        for roots in ([0], [7], [0, 7], [2, 3, 5], list(range(8))):
            self.assert_told([8], begin(8, 1, roots))
            self.assertEqual(played(begin(8, 1, roots)).roots, tuple(roots))

    def test_all_are_up_and_the_time_is_0(self):
        net = played(let_pass(77), switch(0, 0), begin(2, 1, [0]))
        self.assertEqual(net.now, 0)
        self.assertEqual([server.up for server in net.servers], [True, True])

    def test_the_caches_know_nothing_and_ask_the_servers_told(self):
        calls = [query(0, 1, [5]), begin(3, 2, [1, 2]), zone(2, 44, []), facts(0), facts(1),
                 query(0, 1, [5]), query(1, 1, [5])]
        self.assertEqual(told(*calls)[3:], [[0], [0], [3, 2, 44, 0, 0], [3, 2, 44, 0, 0]])

    def test_it_makes_all_anew_in_the_middle(self):
        calls = [number(5), zone(1, 60, [3]), begin(2, 1, [1]), drop(0, []), drop(1, [3]),
                 zone(0, 60, []), copy(1, 0, 9, []), number(6)]
        self.assertEqual(told(*calls), [[2], [1], [2], [-3], [-3], [1], [1], [2]])

    def test_a_copy_from_ahead_of_it_is_gone(self):
        self.assert_refused(-3, copy(1, 0, 9, []), begin(2, 1, [0]), zone(0, 60, []),
                            transfer(1, []))


class BeginRefused(CallCase):

    def test_not_1_to_8_servers(self):
        for servers in (0, 9, 1024, BIG):
            self.assert_refused(-1, begin(servers, 1, [0]))

    def test_not_1_to_4_caches(self):
        for caches in (0, 5, BIG):
            self.assert_refused(-1, begin(2, caches, [0]))

    def test_no_server_of_the_root(self):
        self.assert_refused(-1, begin(2, 1, []))

    def test_they_do_not_rise(self):
        for roots in ([1, 0], [0, 0], [0, 2, 1], [0, 1, 1], [3, 0, 2]):
            self.assert_refused(-1, begin(8, 1, roots))

    def test_they_are_not_of_these(self):
        for roots in ([2], [0, 2], [0, 1, 2], [BIG], [5, 1]):
            self.assert_refused(-1, begin(2, 1, roots))

    def test_very_many(self):
        self.assert_refused(-1, begin(8, 1, range(1024)))
        self.assert_refused(-1, begin(8, 1, [0] * 1024))
        self.assert_refused(-1, begin(BIG, BIG, [BIG] * 1024))

    def test_all_is_as_it_was(self):
        calls = [number(5), copy(1, 0, 9, []), begin(9, 1, [0]), begin(1, 5, [0]),
                 begin(1, 1, [1]), add(0, 2, 1, 1, [], [6], [1]), transfer(1, [])]
        self.assertEqual(told(*calls), [[2], [2], [-1], [-1], [-1], [3], [1, 3, 1]])
        calls = [let_pass(5), query(0, 1, [7]), switch(1, 0), begin(9, 1, [0]), facts(0),
                 ask(1, 1, []), let_pass(1)]
        self.assertEqual(told(*calls)[3:], [[-1], [1, 60, 1, 7, 0, 3], [-6], [6]])
