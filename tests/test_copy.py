"""Call 3, copy."""

from calling import (BIG, CallCase, add, begin, copy, drop, number, plain_zone, play, played,
                     remove, told, transfer, zone, zone_of)


class Copy(CallCase):

    def test_it_answers_the_serial(self):
        self.assert_told([1], copy(1, 0, 9, []))
        self.assert_told([3], number(5), number(6), copy(1, 0, 9, []))

    def test_it_is_the_zone_with_all_that_it_has(self):
        net = played(zone(0, 77, [4]), number(5, apex=[4]), number(6, apex=[4]),
                     remove(0, 0, 1, [4], [4, 5], [7]), copy(1, 0, 9, [4]))
        self.assertEqual(plain_zone(zone_of(net, 1, [4])), plain_zone(zone_of(net, 0, [4])))

    def test_it_has_the_server_from_which_it_is_and_how_long_it_is_good(self):
        held = played(begin(3, 1, [0]), zone(2, 60, []), copy(1, 2, 44, [])).servers[1]
        self.assertEqual((held.holding_of(()).origin, held.holding_of(()).good), (2, 44))

    def test_it_is_a_zone_more_of_the_server(self):
        self.assert_told([1], zone(1, 60, [1]), copy(1, 0, 9, []), drop(1, [1]))

    def test_what_is_done_to_the_zone_later_is_not_done_to_it(self):
        net = played(number(5), copy(1, 0, 9, []), number(6))
        self.assertEqual(zone_of(net, 1).serial, 2)
        self.assertEqual(len(zone_of(net, 1).records), 1)

    def test_good_of_0_and_100000(self):
        for good in (0, 1, 100000):
            self.assert_told([1], copy(1, 0, good, []))

    def test_a_copy_of_a_copy(self):
        calls = [begin(3, 1, [0]), zone(0, 60, []), number(5), copy(1, 0, 9, []), number(6),
                 copy(2, 1, 9, []), transfer(2, []), transfer(1, []), transfer(2, [])]
        self.assertEqual(told(*calls)[4:], [[3], [2], [0, 2, 0], [1, 3, 1], [1, 3, 1]])

    def test_it_is_since_now(self):
        net = played()
        net.now = 5
        play(net, copy(1, 0, 9, []))
        self.assertEqual(net.servers[1].holding_of(()).since, 5)

    def test_of_a_copy_it_is_since_when_that_one_is(self):
        net = played(begin(3, 1, [0]), zone(0, 60, []))
        net.now = 5
        play(net, copy(1, 0, 9, []))
        net.now = 8
        play(net, copy(2, 1, 9, []))
        self.assertEqual(net.servers[2].holding_of(()).since, 5)

    def test_what_is_below_is_not_copied(self):
        self.assert_refused(-3, zone(0, 60, [1]), copy(1, 0, 9, []), drop(1, [1]))


class CopyRefused(CallCase):

    def test_no_such_server(self):
        for server in (2, BIG):
            self.assert_refused(-2, copy(server, 0, 9, []))
            self.assert_refused(-2, copy(1, server, 9, []))

    def test_the_other_one_has_not_the_zone(self):
        self.assert_refused(-3, copy(0, 1, 9, []))
        for apex in ([1], [0], [1] * 7, [BIG] * 1024):
            self.assert_refused(-3, copy(1, 0, 9, apex))

    def test_good_above_100000(self):
        for good in (100001, BIG):
            self.assert_refused(-1, copy(1, 0, good, []))

    def test_it_has_one_of_this_apex(self):
        self.assert_refused(-4, zone(1, 60, []), copy(1, 0, 9, []))
        self.assert_refused(-4, copy(1, 0, 9, []), copy(1, 0, 9, []))

    def test_of_its_own_zone(self):
        self.assert_refused(-4, copy(0, 0, 9, []))
        self.assert_refused(-3, copy(1, 1, 9, []))

    def test_the_other_one_is_down(self):
        net = played()
        net.servers[0].up = False
        self.assertEqual(play(net, copy(1, 0, 9, []), drop(1, [])), [[-6], [-3]])

    def test_the_server_itself_may_be_down(self):
        net = played()
        net.servers[1].up = False
        self.assertEqual(play(net, copy(1, 0, 9, [])), [[1]])

    def test_the_other_copy_is_not_good(self):
        net = played(begin(3, 1, [0]), zone(0, 60, []), copy(1, 0, 9, []))
        net.now = 10
        self.assertEqual(play(net, copy(2, 1, 9, []), drop(2, [])), [[-6], [-3]])
        net.now = 9
        self.assertEqual(play(net, copy(2, 1, 9, [])), [[1]])

    def test_what_is_its_own_is_always_good(self):
        net = played()
        net.now = 1000000
        self.assertEqual(play(net, copy(1, 0, 0, [])), [[1]])

    def test_the_one_told_first(self):
        self.assert_refused(-2, copy(2, 1, 100001, []))
        self.assert_refused(-2, copy(1, 2, 100001, []))
        self.assert_refused(-2, copy(0, 2, 9, []))
        self.assert_refused(-3, copy(0, 1, 100001, []))
        self.assert_refused(-3, copy(0, 1, 9, []))
        self.assert_refused(-1, copy(0, 0, 100001, []))

    def test_the_one_told_first_where_the_other_one_is_down(self):
        net = played()
        net.servers[0].up = False
        net.servers[1].up = False
        calls = [copy(2, 0, 9, []), copy(0, 1, 9, []), copy(1, 0, 100001, []), copy(0, 0, 9, [])]
        self.assertEqual(play(net, *calls), [[-2], [-3], [-1], [-4]])

    def test_all_is_as_it_was(self):
        calls = [copy(1, 0, 100001, []), drop(1, []), add(0, 1, 1, 1, [], [1], [1])]
        self.assertEqual(told(*calls), [[-1], [-3], [2]])
