"""Call 7, transfer, and promise 3: a copy that's brought up is the other one's zone."""

import random

from calling import (BIG, CallCase, add, begin, copy, drop, number, plain_holding, plain_net,
                     plain_zone, play, played, records_of, remove, told, transfer, zone, zone_of)


def numbers(first, count):
    return [number(label) for label in range(first, first + count)]


def three():
    """Three servers, of which the first one has the root's zone."""
    return [begin(3, 1, [0]), zone(0, 60, [])]


class TransferCase(CallCase):

    def assert_brought_up(self, wanted, *calls, server=1, origin=0, apex=()):
        """The last call is answered so, and the copy is then the other one's zone."""
        self.assert_told(wanted, *calls)
        net = played(*calls)
        self.assertEqual(plain_zone(zone_of(net, server, apex)),
                         plain_zone(zone_of(net, origin, apex)))
        # They're one in all, but none sees what is done to the other one.
        was = plain_zone(zone_of(net, server, apex))
        play(net, number(77, apex=apex, server=origin))
        self.assertEqual(plain_zone(zone_of(net, server, apex)), was)


class NothingNew(TransferCase):

    def test_it_answers_0_and_the_serial_and_0(self):
        self.assert_brought_up([0, 1, 0], copy(1, 0, 9, []), transfer(1, []))
        self.assert_brought_up([0, 2, 0], number(5), copy(1, 0, 9, []), transfer(1, []))

    def test_behind_another_transfer(self):
        self.assert_brought_up([0, 2, 0], copy(1, 0, 9, []), number(5), transfer(1, []),
                               transfer(1, []))

    def test_refused_changes_are_nothing_new(self):
        self.assert_brought_up([0, 1, 0], copy(1, 0, 9, []), number(100), transfer(1, []))


class JustTheChanges(TransferCase):

    def test_of_1_to_8_changes(self):
        for count in range(1, 9):
            self.assert_brought_up([1, count + 1, count], copy(1, 0, 9, []), *numbers(1, count),
                                   transfer(1, []))

    def test_what_came_in_and_what_went(self):
        self.assert_brought_up([1, 6, 3], number(5), number(6), copy(1, 0, 9, []),
                               remove(0, 0, 1, [], [5], [7]), add(0, 0, 2, 4, [], [5], [9]),
                               number(8), transfer(1, []))

    def test_what_came_and_went_again(self):
        self.assert_brought_up([1, 3, 2], copy(1, 0, 9, []), number(5),
                               remove(0, 0, 1, [], [5], [7]), transfer(1, []))

    def test_the_same_again_goes_behind_the_others_in_the_copy_too(self):
        calls = [number(5), number(6), copy(1, 0, 9, []), add(0, 0, 1, 99, [], [5], [7]),
                 transfer(1, [])]
        self.assert_brought_up([1, 4, 1], *calls)
        self.assertEqual(records_of(played(*calls), 1), [((6,), 1, (7,), 60), ((5,), 1, (7,), 99)])

    def test_in_several_steps(self):
        calls = numbers(1, 3) + [copy(1, 0, 9, [])]
        for first in (4, 12, 20):
            calls = calls + numbers(first, 8) + [transfer(1, [])]
            self.assert_brought_up([1, first + 8, 8], *calls)

    def test_of_a_full_zone(self):
        calls = numbers(1, 40) + [copy(1, 0, 9, []), remove(0, 0, 1, [], [3], [7]), number(41)]
        self.assert_brought_up([1, 43, 2], *calls, transfer(1, []))

    def test_in_a_zone_below_the_root(self):
        self.assert_brought_up([1, 2, 1], zone(0, 33, [3, 4]), copy(1, 0, 9, [3, 4]),
                               number(5, apex=[3, 4]), transfer(1, [3, 4]), apex=[3, 4])


class AllAnew(TransferCase):

    def test_more_than_8_changes(self):
        for count in (9, 10, 20):
            self.assert_brought_up([2, count + 1, count], copy(1, 0, 9, []), *numbers(1, count),
                                   transfer(1, []))

    def test_more_than_8_changes_and_few_records(self):
        again = [number(5)] * 9
        self.assert_brought_up([2, 10, 1], copy(1, 0, 9, []), *again, transfer(1, []))

    def test_more_than_8_changes_and_no_record(self):
        both = [number(5), remove(0, 0, 1, [], [5], [7])] * 5
        self.assert_brought_up([2, 11, 0], copy(1, 0, 9, []), *both, transfer(1, []))

    def test_a_zone_that_was_made_anew(self):
        anew = [drop(0, []), zone(0, 70, [])]
        self.assert_brought_up([2, 1, 0], copy(1, 0, 9, []), *anew, transfer(1, []))
        self.assert_brought_up([2, 1, 0], number(5), copy(1, 0, 9, []), *anew, transfer(1, []))

    def test_a_zone_that_was_made_anew_with_a_like_serial(self):
        for count in (1, 2, 3):
            self.assert_brought_up([2, count + 1, count], *numbers(1, 2), copy(1, 0, 9, []),
                                   drop(0, []), zone(0, 60, []), *numbers(5, count),
                                   transfer(1, []))

    def test_a_zone_of_another_server_of_the_same_apex(self):
        self.assert_brought_up([2, 2, 1], *three(), number(5), copy(1, 0, 9, []), drop(0, []),
                               zone(2, 60, []), number(6, server=2), copy(0, 2, 9, []),
                               transfer(1, []), server=1, origin=2)

    def test_once_anew_it_goes_on_by_changes(self):
        self.assert_brought_up([1, 2, 1], copy(1, 0, 9, []), drop(0, []), zone(0, 70, []),
                               transfer(1, []), number(5), transfer(1, []))
        self.assert_brought_up([1, 18, 8], copy(1, 0, 9, []), *numbers(1, 9), transfer(1, []),
                               *numbers(10, 8), transfer(1, []))


class AnOlderState(TransferCase):

    # Server 1 has state 3; then server 0, from which it is, takes over state 2 from server 2.
    OLDER = [begin(3, 1, [0]), zone(0, 60, []), number(5), copy(2, 0, 9, []), number(6),
             copy(1, 0, 9, []), drop(0, []), copy(0, 2, 9, [])]

    def test_it_answers_3_alone_and_nothing_is_done(self):
        self.assert_told([3], *self.OLDER, transfer(1, []))
        net = played(*self.OLDER)
        net.now = 5
        was = plain_net(net)
        self.assertEqual(play(net, transfer(1, [])), [[3]])
        self.assertEqual(plain_net(net), was)

    def test_the_newer_state_is_handed_on_still(self):
        calls = self.OLDER + [transfer(1, []), drop(2, []), copy(2, 1, 9, [])]
        self.assert_told([3], *calls)

    def test_older_by_more_than_8_changes(self):
        calls = [*three(), copy(2, 0, 9, []), *numbers(1, 12), copy(1, 0, 9, []), drop(0, []),
                 copy(0, 2, 9, []), transfer(1, [])]
        self.assert_told([3], *calls)

    def test_a_zone_made_anew_is_none_however_low_its_serial(self):
        self.assert_brought_up([2, 1, 0], *numbers(1, 5), copy(1, 0, 9, []), drop(0, []),
                               zone(0, 60, []), transfer(1, []))

    def test_both_ways_round(self):
        calls = [number(5), copy(1, 0, 9, []), drop(0, []), copy(0, 1, 9, []), transfer(0, []),
                 transfer(1, [])]
        self.assertEqual(told(*calls)[-2:], [[0, 2, 0], [0, 2, 0]])


class CopiesOfCopies(TransferCase):

    CHAIN = [begin(4, 1, [0]), zone(0, 60, []), copy(1, 0, 9, []), copy(2, 1, 9, []),
             copy(3, 2, 9, [])]

    def test_only_what_the_copy_between_has_is_taken_over(self):
        self.assert_brought_up([0, 1, 0], *self.CHAIN, number(5), transfer(2, []), server=2,
                               origin=1)

    def test_changes_are_handed_on(self):
        calls = self.CHAIN + numbers(1, 8) + [transfer(1, []), transfer(2, []), transfer(3, [])]
        self.assertEqual(told(*calls)[-3:], [[1, 9, 8]] * 3)
        self.assert_brought_up([1, 9, 8], *calls, server=3, origin=0)

    def test_changes_are_handed_on_by_what_was_taken_over_anew(self):
        calls = self.CHAIN + numbers(1, 5) + [transfer(1, []), transfer(2, [])] + numbers(6, 9)
        calls = calls + [transfer(1, []), transfer(2, []), transfer(3, [])]
        self.assertEqual(told(*calls)[-3:], [[2, 15, 14]] * 3)
        self.assert_brought_up([2, 15, 14], *calls, server=3, origin=0)

    def test_changes_are_handed_on_by_copy(self):
        calls = [*three(), copy(1, 0, 9, []), *numbers(1, 6), copy(2, 0, 9, []), drop(0, []),
                 copy(0, 2, 9, []), transfer(1, [])]
        self.assert_brought_up([1, 7, 6], *calls)

    def test_last_changes_of_two_transfers_together(self):
        calls = [*three(), copy(1, 0, 9, []), copy(2, 1, 9, []), *numbers(1, 5), transfer(1, []),
                 *numbers(6, 3), transfer(1, []), transfer(2, [])]
        self.assert_brought_up([1, 9, 8], *calls, server=2, origin=1)
        calls = calls[:-2] + [number(9), transfer(1, []), transfer(2, [])]
        self.assert_brought_up([2, 10, 9], *calls, server=2, origin=1)


class SinceWhen(TransferCase):

    def since_of(self, net, server):
        return net.servers[server].holding_of(()).since

    def test_nothing_new_changes_and_all_anew_are_since_now(self):
        for between, wanted in (([], 0), (numbers(1, 3), 1), (numbers(1, 9), 2)):
            net = played(copy(1, 0, 9, []), *between)
            net.now = 7
            self.assertEqual(play(net, transfer(1, []))[0][0], wanted)
            self.assertEqual(self.since_of(net, 1), 7)

    def test_of_a_copy_they_are_since_when_that_one_is(self):
        for between, wanted in (([], 0), (numbers(1, 3), 1), (numbers(1, 9), 2)):
            net = played(*three(), copy(1, 0, 9, []), copy(2, 1, 9, []), *between)
            net.now = 4
            play(net, transfer(1, []))
            net.now = 7
            self.assertEqual(play(net, transfer(2, []))[0][0], wanted)
            self.assertEqual(self.since_of(net, 2), 4)

    def test_from_where_it_is_and_how_long_it_is_good_stay(self):
        for between in ([], numbers(1, 3), numbers(1, 9), [drop(0, []), zone(0, 60, [])]):
            net = played(copy(1, 0, 44, []), *between, transfer(1, []))
            self.assertEqual(plain_holding(net.servers[1].holding_of(()))[1:], (0, 44, 0))

    def test_a_copy_that_is_not_good_is_brought_up(self):
        net = played(copy(1, 0, 9, []))
        net.now = 100
        self.assertEqual(play(net, transfer(1, [])), [[0, 1, 0]])
        self.assertTrue(net.servers[1].holding_of(()).is_good(109))
        self.assertFalse(net.servers[1].holding_of(()).is_good(110))


class TransferRefused(TransferCase):

    def assert_refused_on(self, code, net, call):
        was = plain_net(net)
        self.assertEqual(play(net, call), [[code]])
        self.assertEqual(plain_net(net), was)

    def test_no_such_server(self):
        for server in (2, BIG):
            self.assert_refused(-2, transfer(server, []))
            self.assert_refused(-2, transfer(server, [1]))

    def test_no_zone_of_this_apex(self):
        for apex in ([1], [0], [1] * 7, [BIG] * 1024):
            self.assert_refused(-3, transfer(0, apex))
        self.assert_refused(-3, transfer(1, []))

    def test_it_is_no_copy(self):
        self.assert_refused(-6, transfer(0, []))
        self.assert_refused(-6, copy(1, 0, 9, []), transfer(0, []))

    def test_the_other_one_has_it_no_more(self):
        self.assert_refused(-5, copy(1, 0, 9, []), drop(0, []), transfer(1, []))
        self.assert_refused(-5, zone(0, 60, [1]), copy(1, 0, 9, []), drop(0, []), transfer(1, []))

    def test_a_third_one_has_it_still(self):
        self.assert_refused(-5, *three(), copy(1, 0, 9, []), copy(2, 0, 9, []), drop(0, []),
                            transfer(1, []))

    def test_one_of_both_is_down(self):
        for server in (0, 1):
            net = played(copy(1, 0, 9, []), number(5))
            net.servers[server].up = False
            self.assert_refused_on(-5, net, transfer(1, []))

    def test_a_third_one_is_down(self):
        net = played(*three(), copy(1, 0, 9, []))
        net.servers[2].up = False
        self.assertEqual(play(net, transfer(1, [])), [[0, 1, 0]])

    def test_the_other_copy_is_not_good(self):
        net = played(*three(), copy(1, 0, 9, []), copy(2, 1, 50, []))
        net.now = 10
        self.assert_refused_on(-5, net, transfer(2, []))
        net.now = 9
        self.assertEqual(play(net, transfer(2, [])), [[0, 1, 0]])

    def test_the_one_told_first(self):
        net = played(copy(1, 0, 9, []))
        net.servers[0].up = False
        net.servers[1].up = False
        self.assert_refused_on(-2, net, transfer(2, []))
        self.assert_refused_on(-3, net, transfer(1, [1]))
        self.assert_refused_on(-6, net, transfer(0, []))

    def test_all_is_as_it_was(self):
        calls = [copy(1, 0, 9, []), number(5), transfer(0, []), transfer(1, [1]), transfer(2, []),
                 transfer(1, [])]
        self.assertEqual(told(*calls)[2:], [[-6], [-3], [-2], [1, 2, 1]])


def any_call(draw):
    """Some call about few names, so that many are taken and few refused."""
    server = draw.randrange(3)
    apex = draw.choice([[], [1]])
    name = apex + draw.choice([[], [1], [2], [3], [0]])
    value = [draw.randrange(1, 4)]
    kinds = ["add", "remove", "transfer", "copy", "drop", "zone"]
    chosen = draw.choices(kinds, weights=[14, 5, 8, 5, 3, 1])[0]
    if chosen == "add":
        return add(server, 0, draw.choice([1, 1, 2]), draw.randrange(9), apex, name, value)
    if chosen == "remove":
        return remove(server, 0, 1, apex, name, value)
    if chosen == "transfer":
        return transfer(server, apex)
    if chosen == "copy":
        return copy(server, draw.randrange(3), draw.randrange(90), apex)
    if chosen == "drop":
        return drop(server, apex)
    return zone(server, draw.randrange(9), apex)


class ManyCalls(CallCase):

    def check_transfer(self, net, server, apex, answered):
        if answered[0] not in (0, 1, 2):
            return
        held = net.servers[server].holding_of(apex)
        other = net.servers[held.origin].holding_of(apex)
        self.assertEqual(plain_zone(held.zone), plain_zone(other.zone))
        self.assertEqual(answered[1], other.zone.serial)
        if answered[0] == 0:
            self.assertEqual(answered[2], 0)

    def test_whatever_was_ahead_the_copy_is_the_other_ones_zone(self):
        seen = {}
        for seed in range(200):
            draw = random.Random(seed)
            net = played(begin(3, 1, [0]), zone(0, 60, []), zone(1, 60, [1]))
            for turn in range(400):
                net.now += draw.randrange(2)
                call = any_call(draw)
                was = plain_net(net)
                answered = play(net, call)[0]
                if answered[0] < 0:
                    self.assertEqual((plain_net(net), len(answered)), (was, 1))
                if call[0] == 7:
                    seen[answered[0]] = seen.get(answered[0], 0) + 1
                    self.check_transfer(net, call[1], tuple(call[3:]), answered)
        for answer in (0, 1, 2, 3, -3, -5, -6):
            self.assertGreater(seen.get(answer, 0), 0, answer)
