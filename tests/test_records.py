"""Call 12, records."""

from calling import (BIG, CallCase, add, alias, begin, copy, drop, facts, hand_on, last, let_pass,
                     number, records, records_told, remove, switch, tells, told, transfer, zone)


class Records(CallCase):

    def test_of_none(self):
        self.assert_told([1, 1, 0], records(0, []))
        self.assert_told([1, 1, 0], zone(1, 5, [3, 4]), records(1, [3, 4]))

    def test_number_by_number(self):
        calls = [tells([5, 6], 7, 33), alias([8], [9, 9, 9], 0), hand_on([4], 1, 100000),
                 tells([0], 0, 1), tells([], 1000000000, 2), alias([2, 0], [], 3)]
        self.assert_told([7, 1, 6,
                          2, 5, 6, 1, 33, 1, 7,
                          1, 8, 2, 0, 3, 9, 9, 9,
                          1, 4, 3, 100000, 1, 1,
                          1, 0, 1, 1, 1, 0,
                          0, 1, 2, 1, 1000000000,
                          2, 2, 0, 2, 3, 0], *calls, records(0, []))

    def test_the_serial_counts_what_came_and_what_went(self):
        calls = [number(5), number(6), remove(0, 0, 1, [], [5], [7])]
        self.assert_told([4, 1, 1, 1, 6, 1, 60, 1, 7], *calls, records(0, []))

    def test_the_same_again_stands_behind_the_others(self):
        calls = [tells([5], 7, 1), tells([6], 7, 2), tells([5], 7, 3)]
        self.assertEqual(records_told(last(*calls, records(0, []))),
                         (4, 1, [([6], 1, 2, [7]), ([5], 1, 3, [7])]))

    def test_of_the_zone_told_alone(self):
        calls = [zone(0, 60, [3]), tells([3, 1], 1), tells([3, 2], 2, apex=[3]), zone(1, 60, [3])]
        self.assert_told([2, 1, 1, 2, 3, 1, 1, 60, 1, 1], *calls, records(0, []))
        self.assert_told([2, 1, 1, 2, 3, 2, 1, 60, 1, 2], *calls, records(0, [3]))
        self.assert_told([1, 1, 0], *calls, records(1, [3]))

    def test_of_forty(self):
        calls = [number(label) for label in range(1, 41)]
        serial, good, given = records_told(last(*calls, number(41), records(0, [])))
        self.assertEqual((serial, good, [name for name, kind, life, value in given]),
                         (41, 1, [[label] for label in range(1, 41)]))

    def test_of_a_copy_by_its_own_state(self):
        calls = [number(5), copy(1, 0, 9, []), number(6)]
        self.assert_told([2, 1, 1, 1, 5, 1, 60, 1, 7], *calls, records(1, []))
        self.assertEqual(*told(*calls, transfer(1, []), records(0, []), records(1, []))[-2:])

    def test_of_a_server_that_is_down(self):
        self.assert_told([2, 1, 1, 1, 5, 1, 60, 1, 7], number(5), switch(0, 0), records(0, []))

    def test_a_copy_that_is_good_and_that_is_not(self):
        calls = [number(5), copy(1, 0, 9, []), let_pass(9)]
        self.assert_told([2, 1, 1, 1, 5, 1, 60, 1, 7], *calls, records(1, []))
        self.assert_told([2, 0, 1, 1, 5, 1, 60, 1, 7], *calls, let_pass(1), records(1, []))
        self.assert_told([2, 1, 1, 1, 5, 1, 60, 1, 7], *calls, let_pass(1), records(0, []))

    def test_a_zone_made_anew(self):
        self.assert_told([1, 1, 0], number(5), drop(0, []), zone(0, 60, []), records(0, []))

    def test_it_changes_nothing(self):
        calls = [number(5), records(0, []), records(0, []), add(0, 2, 1, 60, [], [6], [1])]
        self.assertEqual(told(*calls)[1:], [[2, 1, 1, 1, 5, 1, 60, 1, 7]] * 2 + [[3]])
        self.assert_told([0], *calls, facts(0))


class RecordsRefused(CallCase):

    def test_no_such_server(self):
        for server in (2, BIG):
            self.assert_refused(-2, records(server, []))
            self.assert_refused(-2, records(server, [0]))
        self.assert_refused(-2, begin(1, 1, [0]), records(1, []))

    def test_no_zone_of_this_apex(self):
        for apex in ([1], [0], [100], [1] * 7, [BIG] * 1024):
            self.assert_refused(-3, records(0, apex))
        self.assert_refused(-3, records(1, []))
        self.assert_refused(-3, begin(2, 1, [0]), records(0, []))

    def test_an_apex_above_or_below_is_another_one(self):
        self.assert_refused(-3, zone(1, 60, [1, 2]), records(1, [1]))
        self.assert_refused(-3, zone(1, 60, [1, 2]), records(1, [1, 2, 3]))
