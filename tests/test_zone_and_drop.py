"""Calls 2, zone, and 4, drop."""

from calling import BIG, CallCase, copy, drop, number, played, told, transfer, zone, zone_of


class ZoneIsMade(CallCase):

    def test_it_answers_how_many_zones_the_server_has(self):
        calls = [zone(1, 60, []), zone(1, 60, [1]), zone(1, 60, [1, 2]), zone(0, 60, [1])]
        self.assertEqual(told(*calls), [[1], [2], [3], [2]])

    def test_copies_count_among_them(self):
        self.assert_told([2], copy(1, 0, 9, []), zone(1, 60, [1]))

    def test_it_is_its_own_with_serial_1_and_no_record(self):
        calls = [zone(1, 77, [4]), number(5, server=1, apex=[4]), copy(0, 1, 9, [4])]
        self.assertEqual(told(*calls), [[1], [2], [2]])
        here = zone_of(played(zone(1, 77, [4])), 1, [4])
        self.assertEqual((here.apex, here.serial, here.life), ((4,), 1, 77))
        self.assertEqual((here.records, here.changes), ([], []))

    def test_names_of_0_and_6_labels(self):
        self.assert_told([1], zone(1, 60, []))
        self.assert_told([1], zone(1, 60, [1, 99, 1, 99, 50, 1]))

    def test_labels_1_and_99(self):
        self.assert_told([1], zone(1, 60, [1]))
        self.assert_told([1], zone(1, 60, [99]))

    def test_lives_0_and_100000(self):
        for life in (0, 1, 100000):
            self.assert_told([1], zone(1, life, [1]))
            self.assertEqual(zone_of(played(zone(1, life, [1])), 1, [1]).life, life)


class ZoneRefused(CallCase):

    def test_no_such_server(self):
        for server in (2, 3, BIG):
            self.assert_refused(-2, zone(server, 60, [1]))

    def test_no_name(self):
        for apex in ([0], [100], [1, 0], [0, 1], [1, 100, 1], [BIG], [1] * 7, [1] * 1024):
            self.assert_refused(-1, zone(1, 60, apex))

    def test_a_life_above_100000(self):
        for life in (100001, BIG):
            self.assert_refused(-1, zone(1, life, [1]))

    def test_it_has_one_of_this_apex(self):
        self.assert_refused(-4, zone(1, 60, [1]), zone(1, 70, [1]))

    def test_it_has_a_copy_of_this_apex(self):
        self.assert_refused(-4, copy(1, 0, 9, []), zone(1, 60, []))

    def test_the_one_told_first(self):
        self.assert_refused(-2, zone(2, 60, [0]))
        self.assert_refused(-2, zone(2, 100001, []))
        self.assert_refused(-1, zone(0, 100001, []))
        self.assert_refused(-1, zone(0, 60, [0]))

    def test_all_is_as_it_was(self):
        calls = [number(5), zone(0, 60, []), zone(0, 60, [0]), zone(0, 60, [1])]
        self.assertEqual(told(*calls), [[2], [-4], [-1], [2]])


class Drop(CallCase):

    def test_it_answers_how_many_zones_are_left(self):
        calls = [zone(0, 60, [1]), zone(0, 60, [2]), drop(0, []), drop(0, [2]), drop(0, [1])]
        self.assertEqual(told(*calls), [[2], [3], [2], [1], [0]])

    def test_just_this_one_is_gone(self):
        calls = [zone(0, 60, [1]), drop(0, []), drop(0, []), number(5, apex=[1])]
        self.assertEqual(told(*calls), [[2], [1], [-3], [2]])

    def test_a_copy_is_dropped_and_the_other_one_stays(self):
        calls = [copy(1, 0, 9, []), drop(1, []), transfer(1, []), number(5)]
        self.assertEqual(told(*calls), [[1], [0], [-3], [2]])

    def test_the_copies_of_a_dropped_one_stay(self):
        calls = [number(5), copy(1, 0, 9, []), drop(0, []), copy(0, 1, 9, [])]
        self.assertEqual(told(*calls), [[2], [2], [0], [2]])

    def test_the_apex_is_free_again(self):
        calls = [number(5), drop(0, []), zone(0, 60, []), copy(1, 0, 9, [])]
        self.assertEqual(told(*calls), [[2], [0], [1], [1]])


class DropRefused(CallCase):

    def test_no_such_server(self):
        for server in (2, BIG):
            self.assert_refused(-2, drop(server, []))
            self.assert_refused(-2, drop(server, [1]))

    def test_no_zone_of_this_apex(self):
        for apex in ([1], [0], [100], [BIG], [1] * 7, [1] * 1024):
            self.assert_refused(-3, drop(0, apex))
        self.assert_refused(-3, drop(1, []))

    def test_an_apex_above_or_below_is_another_one(self):
        self.assert_refused(-3, zone(1, 60, [1, 2]), drop(1, [1]))
        self.assert_refused(-3, zone(1, 60, [1, 2]), drop(1, [1, 2, 3]))
