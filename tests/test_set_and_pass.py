"""Calls 8, set, and 9, pass; and what copies are when time passes and servers go down."""

from calling import (BIG, CallCase, ask, begin, copy, drop, facts, let_pass, number, play, played,
                     query, records, remove, switch, told, transfer, zone)


class Set(CallCase):

    def test_it_answers_0_down_and_up(self):
        calls = [switch(0, 0), switch(1, 0), switch(0, 1), switch(1, 1), switch(0, 0)]
        self.assertEqual(told(*calls), [[0]] * 5)

    def test_just_this_one_is_down(self):
        calls = [begin(8, 1, [0]), switch(5, 0)] + [ask(server, 1, []) for server in range(8)]
        self.assertEqual(told(*calls)[2:], [[0], [0], [0], [0], [0], [-6], [0], [0]])

    def test_it_is_up_again(self):
        calls = [switch(0, 0), ask(0, 1, [7]), switch(0, 1), ask(0, 1, [7])]
        self.assertEqual(told(*calls), [[0], [-6], [0], [3, 60]])

    def test_what_it_has_stays(self):
        calls = [number(5), switch(0, 0), records(0, []), switch(0, 1), ask(0, 1, [5])]
        self.assertEqual(told(*calls)[2:], [[2, 1, 1, 1, 5, 1, 60, 1, 7], [0], [1, 60, 1, 1, 7]])

    def test_only_asking_and_handing_out_heed_it(self):
        calls = [number(5), switch(0, 0), switch(1, 0), number(6), zone(0, 60, [1]),
                 remove(0, 0, 1, [], [5], [7]), drop(0, [1]), records(0, []), zone(1, 60, [])]
        self.assertEqual(told(*calls)[3:], [[3], [2], [4], [1], [4, 1, 1, 1, 6, 1, 60, 1, 7], [1]])

    def test_begin_makes_all_up(self):
        calls = [switch(0, 0), switch(1, 0), begin(2, 1, [0]), switch(0, 1), switch(1, 1),
                 switch(0, 0)]
        self.assertEqual(told(*calls), [[0], [0], [2], [-4], [-4], [0]])


class SetRefused(CallCase):

    def test_no_such_server(self):
        for server in (2, 3, BIG):
            for up in (0, 1, 2):
                self.assert_refused(-2, switch(server, up))
        self.assert_refused(-2, begin(1, 1, [0]), switch(1, 0))

    def test_neither_up_nor_down(self):
        for up in (2, 3, BIG):
            self.assert_refused(-1, switch(0, up))
            self.assert_refused(-1, switch(0, 0), switch(0, up))

    def test_it_is_so(self):
        self.assert_refused(-4, switch(0, 1))
        self.assert_refused(-4, switch(0, 0), switch(0, 0))
        self.assert_refused(-4, switch(0, 0), switch(0, 1), switch(0, 1))
        self.assert_refused(-4, switch(0, 0), switch(1, 1))

    def test_all_is_as_it_was(self):
        calls = [switch(0, 0), switch(0, 2), switch(0, 0), ask(0, 1, []), switch(1, 1),
                 ask(1, 1, [])]
        self.assertEqual(told(*calls), [[0], [-1], [-4], [-6], [-4], [0]])


class Pass(CallCase):

    def test_it_answers_the_time(self):
        calls = [let_pass(1), let_pass(100000), let_pass(5), let_pass(99999)]
        self.assertEqual(told(*calls), [[1], [100001], [100006], [200005]])

    def test_the_time_of_sixty_calls(self):
        self.assertEqual(told(*[let_pass(100000)] * 60)[-1], [6000000])

    def test_begin_makes_the_time_0(self):
        self.assertEqual(told(let_pass(7), begin(1, 1, [0]), let_pass(3)), [[7], [1], [3]])

    def test_n_is_not_1_to_100000(self):
        for length in (0, 100001, 100002, BIG):
            self.assert_refused(-1, let_pass(length))
            self.assertEqual(told(let_pass(3), let_pass(length), let_pass(4)), [[3], [-1], [7]])

    def test_only_the_time_is_another(self):
        net = played(number(5), copy(1, 0, 9, []), query(0, 1, [5]), switch(1, 0))
        before = play(net, records(0, []), records(1, []), facts(0))
        self.assertEqual(play(net, let_pass(1)), [[1]])
        after = play(net, records(0, []), records(1, []), facts(0))
        self.assertEqual(after[:2], before[:2])
        self.assertEqual(after[2], [1, 59, 1, 5, 1, 1, 1, 1, 7])


class CopiesAndTime(CallCase):

    THREE = [begin(3, 1, [0]), zone(0, 60, []), number(5)]

    def goods(self, servers, *calls):
        """Whether the root's zone on each of the servers is good, behind the calls."""
        net = played(*calls)
        return [play(net, records(server, []))[0][1] for server in servers]

    def test_good_until_just_then_and_no_longer(self):
        for good in (1, 9, 100000):
            self.assertEqual(self.goods([1], copy(1, 0, good, [])), [1])
            self.assertEqual(self.goods([1], copy(1, 0, good, []), let_pass(good)), [1])
            self.assertEqual(self.goods([1], copy(1, 0, good, []), let_pass(good), let_pass(1)),
                             [0])

    def test_good_for_0_is_good_right_now(self):
        self.assertEqual(self.goods([1], copy(1, 0, 0, [])), [1])
        self.assertEqual(self.goods([1], copy(1, 0, 0, []), let_pass(1)), [0])

    def test_since_later_than_0(self):
        calls = [let_pass(50), copy(1, 0, 9, []), let_pass(9)]
        self.assertEqual(self.goods([1], *calls), [1])
        self.assertEqual(self.goods([1], *calls, let_pass(1)), [0])

    def test_ones_own_is_always_good(self):
        self.assertEqual(self.goods([0], *[let_pass(100000)] * 3), [1])

    def test_a_copy_of_a_copy_is_since_when_that_one_is(self):
        calls = self.THREE + [copy(1, 0, 9, []), let_pass(6), copy(2, 1, 10, []), let_pass(4)]
        self.assertEqual(self.goods([1, 2], *calls), [0, 1])
        self.assertEqual(self.goods([1, 2], *calls, let_pass(1)), [0, 0])

    def test_asked_until_just_then_and_one_later(self):
        calls = [number(5), copy(1, 0, 9, []), let_pass(9), ask(1, 1, [5]), let_pass(1),
                 ask(1, 1, [5]), ask(0, 1, [5])]
        self.assertEqual(told(*calls)[3:], [[1, 60, 1, 1, 7], [10], [0], [1, 60, 1, 1, 7]])

    def test_copy_from_one_that_is_down(self):
        self.assert_refused(-6, switch(0, 0), copy(1, 0, 9, []))
        self.assert_told([1], switch(0, 0), switch(0, 1), copy(1, 0, 9, []))
        self.assert_told([1], switch(1, 0), copy(1, 0, 9, []))

    def test_copy_from_one_whose_copy_is_not_good(self):
        calls = self.THREE + [copy(1, 0, 9, []), let_pass(9)]
        self.assert_told([2], *calls, copy(2, 1, 5, []))
        self.assert_refused(-6, *calls, let_pass(1), copy(2, 1, 5, []))
        self.assert_refused(-6, *calls, let_pass(1), copy(2, 1, 100000, []))
        self.assert_told([2], *calls, let_pass(1), copy(2, 0, 5, []))

    def test_copy_tells_minus_4_ahead_of_minus_6(self):
        self.assert_refused(-4, switch(0, 0), zone(1, 60, []), copy(1, 0, 9, []))
        self.assert_refused(-1, switch(0, 0), copy(1, 0, 100001, []))
        self.assert_refused(-3, switch(1, 0), copy(0, 1, 9, []))

    def test_a_copy_of_a_copy_may_be_old_from_the_first(self):
        calls = self.THREE + [copy(1, 0, 9, []), let_pass(7), copy(2, 1, 5, [])]
        self.assertEqual(told(*calls)[-1], [2])
        self.assertEqual(self.goods([1, 2], *calls), [1, 0])

    def test_transfer_where_one_is_down(self):
        for server in (0, 1):
            calls = [copy(1, 0, 9, []), number(5), switch(server, 0)]
            self.assert_refused(-5, *calls, transfer(1, []))
            self.assert_told([1, 2, 1], *calls, switch(server, 1), transfer(1, []))

    def test_transfer_tells_minus_6_ahead_of_minus_5(self):
        self.assert_refused(-6, switch(0, 0), transfer(0, []))
        self.assert_refused(-3, switch(1, 0), transfer(1, []))

    def test_transfer_from_a_copy_that_is_not_good(self):
        calls = self.THREE + [copy(1, 0, 9, []), copy(2, 1, 50, []), let_pass(9)]
        self.assert_told([0, 2, 0], *calls, transfer(2, []))
        self.assert_refused(-5, *calls, let_pass(1), transfer(2, []))

    def test_transfer_of_a_copy_that_is_not_good(self):
        calls = [copy(1, 0, 9, []), let_pass(10)]
        self.assertEqual(self.goods([1], *calls), [0])
        self.assertEqual(self.goods([1], *calls, transfer(1, []), let_pass(9)), [1])
        self.assertEqual(self.goods([1], *calls, transfer(1, []), let_pass(10)), [0])


class SinceBehindTransfer(CallCase):

    def good_behind(self, between, first, *calls):
        """Copies at 0, lets 4 pass, transfers; then tells how it is 9 and 10 later."""
        net = played(begin(3, 1, [0]), zone(0, 60, []), *calls, copy(1, 0, 9, []), let_pass(4))
        answered = play(net, *between, transfer(1, []))[-1]
        self.assertEqual(answered[0], first)
        play(net, let_pass(9))
        just_then = play(net, records(1, []))[0][1]
        play(net, let_pass(1))
        return [just_then, play(net, records(1, []))[0][1]]

    def test_nothing_new(self):
        self.assertEqual(self.good_behind([], 0), [1, 0])

    def test_changes(self):
        self.assertEqual(self.good_behind([number(5), number(6)], 1), [1, 0])

    def test_all_anew(self):
        self.assertEqual(self.good_behind([number(5)] * 9, 2), [1, 0])
        self.assertEqual(self.good_behind([drop(0, []), zone(0, 60, [])], 2), [1, 0])

    def test_an_older_state_leaves_it_as_it_is(self):
        older = [drop(0, []), copy(0, 2, 90, [])]
        self.assertEqual(self.good_behind(older, 3, copy(2, 0, 90, []), number(5)), [0, 0])

    def test_of_a_copy_since_when_that_one_is(self):
        for between, first in (([], 0), ([number(5)], 1), ([number(5)] * 9, 2)):
            net = played(begin(3, 1, [0]), zone(0, 60, []), copy(1, 0, 90, []),
                         copy(2, 1, 9, []), *between, let_pass(4), transfer(1, []), let_pass(3))
            self.assertEqual(play(net, transfer(2, []))[0][0], first)
            play(net, let_pass(6))
            self.assertEqual(play(net, records(2, []))[0][1], 1)
            play(net, let_pass(1))
            self.assertEqual(play(net, records(2, []))[0][1], 0)
