"""The promises 1 to 5, each over nets drawn at random."""

import itertools
import random

from calling import (CallCase, add, ask, asked, begin, copy, drawn_change, drawn_name, drawn_net,
                     facts, facts_told, flush, found, hand_on, let_pass, play, played, query,
                     records, records_told, switch, transfer, zone)

TOLD, NOTHING, NO_NAME, ALIAS, HANDED_ON = 1, 2, 3, 4, 5
NAMES = [list(name) for length in range(4) for name in itertools.product((1, 2, 3), repeat=length)]
LONG = 100000


class Seen(CallCase):

    def setUp(self):
        self.seen = {}

    def note(self, *what):
        self.seen[what] = self.seen.get(what, 0) + 1

    def assert_seen(self, *wanted):
        for what in wanted:
            self.assertGreater(self.seen.get(what, 0), 0, what)


class WholeNet:
    """Each zone is the same wherever it is, and just where it's handed on to; all are up."""

    SERVERS = 5

    def __init__(self, draw):
        self.draw = draw
        roots = self.some_servers()
        self.net = played(begin(self.SERVERS, 2, roots))
        self.zone_with_all_below([], roots)

    def some_servers(self):
        return sorted(self.draw.sample(range(self.SERVERS), self.draw.randint(1, 3)))

    def life(self):
        return self.draw.choice([0, 1, 5, 20, 60, 60])

    def below(self, apex):
        """A name longer than the apex, of four labels at most."""
        most = max(1, 4 - len(apex))
        return apex + [self.draw.randint(1, 3) for turn in range(self.draw.randint(1, most))]

    def zone_with_all_below(self, apex, servers):
        play(self.net, zone(servers[0], self.life(), apex))
        for turn in range(self.draw.randrange(9)):
            self.add_record(apex, servers[0])
        handed_on = []
        for turn in range(self.draw.randrange(4) if len(apex) < 3 else 0):
            place = self.below(apex)
            if all(place[:len(one)] != one and one[:len(place)] != place for one in handed_on):
                self.try_to_hand_on(apex, servers[0], place, handed_on)
        for server in servers[1:]:
            assert play(self.net, copy(server, servers[0], LONG, apex))[0][0] > 0

    def add_record(self, apex, server):
        name = self.draw.choice([apex, self.below(apex), self.below(apex), self.below(apex)])
        if self.draw.randrange(3) == 0:
            name = name[:-1] + [0] if len(name) > len(apex) else name + [0]
        kind, value = self.draw.choice([(1, [self.draw.randrange(3)]), (2, drawn_name(self.draw))])
        play(self.net, add(server, 0, kind, self.life(), apex, name, value))

    def try_to_hand_on(self, apex, server, place, handed_on):
        servers = self.some_servers()
        calls = [hand_on(place, other, self.life(), server, apex) for other in servers]
        # Where an alias stands nothing is handed on: then there's no zone either.
        if play(self.net, *calls)[0][0] > 0:
            handed_on.append(place)
            self.zone_with_all_below(place, servers)


class FirstPromise(Seen):
    """A cache tells what an empty one would."""

    def check(self, seed):
        draw = random.Random(seed)
        net = WholeNet(draw).net
        few = draw.sample(NAMES, 15)
        for turn in range(50):
            if draw.randrange(3) == 0:
                play(net, let_pass(draw.choice([1, 1, 4, 20])))
            sort, name = draw.randint(1, 2), draw.choice(few)
            knowing, flushed, empty = play(net, query(0, sort, name), flush(1),
                                           query(1, sort, name))
            knowing, empty = found(knowing), found(empty)
            self.note("fewer", knowing[1] < empty[1])
            self.note("names", len(empty[3]))
            self.note("what", empty[0])
            if knowing[1] < 40 and empty[1] < 40:
                self.assertEqual((knowing[0], knowing[3:]), (empty[0], empty[3:]))

    def test_a_cache_tells_what_an_empty_one_would(self):
        for seed in range(250):
            self.check(seed)
        self.assert_seen(("fewer", True), ("fewer", False), ("names", 1), ("names", 2),
                         ("names", 6), *[("what", what) for what in range(4)])

    def test_what_is_told_is_good_as_long_as_it_says(self):
        # Nothing changes, so whatever is known or not, it's told the same later too.
        for seed in range(100):
            draw = random.Random(seed)
            net = WholeNet(draw).net
            for name in draw.sample(NAMES, 10):
                what, count, good, names, rows = found(play(net, query(0, 1, name))[0])
                if good > 1:
                    play(net, let_pass(good - 1))
                    self.assertEqual(found(play(net, query(0, 1, name))[0]),
                                     (what, 0, 1, names, rows))
                    self.note("good")
        self.assert_seen(("good",))


class SecondPromise(Seen):
    """A cache knows only what somebody told it, till then and that life, no longer."""

    def all_told(self, net, servers, now):
        """All facts that anybody could be told now, each with the time until when."""
        told = set()
        for server, sort, name in itertools.product(range(servers), (1, 2), NAMES):
            what, life, place, rows = asked(play(net, ask(server, sort, name))[0])
            if what > 0:
                about = place if what == HANDED_ON else name
                under = {NO_NAME: 0, ALIAS: 2, HANDED_ON: 3}.get(what, sort)
                told.add((tuple(about), under, what, str(rows), now + life))
        return told

    def check(self, seed, servers):
        draw = random.Random(seed)
        net, roots = drawn_net(draw, servers, 1, 60)
        told, now = set(), 0
        for turn in range(15):
            now = play(net, let_pass(draw.choice([1, 2, 5, 20])))[0][0]
            play(net, *[drawn_change(draw, servers) for change in range(4)])
            told |= self.all_told(net, servers, now)
            play(net, *[query(0, draw.randint(1, 2), draw.choice(NAMES)) for one in range(4)])
            for left, name, under, what, rows in facts_told(play(net, facts(0))[0]):
                self.assertGreater(left, 0)
                self.assertIn((tuple(name), under, what, str(rows), now + left), told)
                self.note("what", what)
        known = play(net, let_pass(LONG), facts(0))[1]
        self.assertEqual(known, [0])

    def test_each_fact_was_told_by_somebody_until_just_then(self):
        for seed in range(40):
            self.check(seed, 3)
        self.assert_seen(*[("what", what) for what in range(1, 6)])

    def test_no_longer_than_told_to_the_moment(self):
        for seed in range(60):
            draw = random.Random(seed)
            net, roots = drawn_net(draw, 4, 1, 60)
            play(net, *[query(0, draw.randint(1, 2), drawn_name(draw)) for turn in range(20)])
            left = facts_told(play(net, facts(0))[0])
            while left:
                step = draw.choice([1, 2, 5])
                known = facts_told(play(net, let_pass(step), facts(0))[1])
                left = [(fact[0] - step, *fact[1:]) for fact in left if fact[0] > step]
                self.assertEqual(known, left)
                self.note("step")
        self.assert_seen(("step",))


class ThirdPromise(Seen):
    """A copy that's brought up is the other one's zone."""

    def check(self, seed):
        draw = random.Random(seed)
        net, roots = drawn_net(draw, 3, 1, 30)
        origins = {}
        for turn in range(200):
            call = drawn_change(draw, 3)
            if draw.randrange(10) == 0:
                call = let_pass(draw.choice([1, 5, 20]))
            elif draw.randrange(4) == 0 and origins:
                call = transfer(*draw.choice(list(origins)))
            answered = play(net, call)[0]
            if call[0] == 3 and answered[0] > 0:
                origins[(call[1], tuple(call[5:]))] = call[2]
            if call[0] == 7 and answered[0] in (0, 1, 2):
                self.check_brought_up(net, call[1], list(call[3:]), origins, answered)

    def check_brought_up(self, net, server, apex, origins, answered):
        other = origins.get((server, tuple(apex)))
        if other is None:
            return
        here = records_told(play(net, records(server, apex))[0])
        there = records_told(play(net, records(other, apex))[0])
        self.assertEqual((here[0], here[2]), (there[0], there[2]))
        self.assertEqual(answered[1], there[0])
        self.assertEqual(play(net, transfer(server, apex)), [[0, there[0], 0]])
        self.note("first", answered[0])
        if answered[0] == 2:
            self.assertEqual(answered[2], len(there[2]))
        if answered[0] == 0:
            self.assertEqual(answered[2], 0)

    def test_the_copy_has_the_serial_and_the_records_of_the_other_one(self):
        for seed in range(60):
            self.check(seed)
        self.assert_seen(("first", 0), ("first", 1), ("first", 2))


class FourthPromise(Seen):
    """What's handed on, and where there's no such name."""

    def handed_on(self, apex, held, name):
        """The shortest beginning of the name at which the records hand on, or None."""
        places = [of for of, kind, life, value in held
                  if kind == 3 and len(of) > len(apex) and name[:len(of)] == of]
        return min(places, key=len, default=None)

    def is_no_name(self, apex, held, name):
        """There's neither it, nor anything below it, nor what stands for all others there."""
        there = [of for of, kind, life, value in held]
        if name == apex or any(of[:len(name)] == name for of in there):
            return False
        in_common = [length for of in there + [apex] for length in range(len(name) + 1)
                     if of[:length] == name[:length]]
        return name[:max(in_common)] + [0] not in there

    def check(self, net, server, apex):
        serial, good, held = records_told(play(net, records(server, apex))[0])
        for name in NAMES:
            if name[:len(apex)] != apex:
                continue
            place = self.handed_on(apex, held, name)
            for sort in (1, 2, 3):
                what, life, at, rows = asked(play(net, ask(server, sort, name))[0])
                self.note("what", what)
                self.assertEqual(what == HANDED_ON, place is not None)
                self.assertEqual(at, place)
                if place is None:
                    self.assertEqual(what == NO_NAME, self.is_no_name(apex, held, name))

    def test_nothing_else_is_told_where_it_is_handed_on_and_no_such_name_where_there_is_none(self):
        for seed in range(60):
            draw = random.Random(seed)
            for apex in ([], [1], [1, 2]):
                net = played(begin(3, 1, [0]), zone(0, 30, apex))
                for turn in range(25):
                    name = apex + [draw.randint(1, 3) for one in range(draw.randrange(3))]
                    name += [0] * (draw.randrange(4) == 0)
                    kind = draw.choice([1, 1, 1, 2, 3])
                    value = drawn_name(draw) if kind == 2 else [draw.randrange(3)]
                    play(net, add(0, 0, kind, draw.randrange(9), apex, name, value))
                    if turn % 4 == 0:
                        self.check(net, 0, apex)
        self.assert_seen(*[("what", what) for what in range(1, 6)])

    def test_a_cache_tells_of_no_such_name_only_what_a_server_tells(self):
        for seed in range(60):
            draw = random.Random(seed)
            net, roots = drawn_net(draw, 4, 1, 80)
            for turn in range(20):
                sort, first = draw.randint(1, 2), draw.choice(NAMES)
                what, count, good, names, rows = found(play(net, flush(0),
                                                            query(0, sort, first))[1])
                if what == NO_NAME:
                    told = [asked(play(net, ask(server, sort, ([first] + names)[-1]))[0])[0]
                            for server in range(4)]
                    self.assertIn(NO_NAME, told)
                    self.note("none")
        self.assert_seen(("none",))


class FifthPromise(Seen):
    """It always ends: 40 are asked at most, 6 names gone on with."""

    def crowded_net(self, draw):
        """Many refuse or are down, and nearly each name is an alias, or handed on round about."""
        roots = sorted(draw.sample(range(8), draw.randint(4, 8)))
        net = played(begin(8, 1, roots), *[zone(server, 30, []) for server in roots[-2:]])
        for server in roots[-2:]:
            for label in (1, 2, 3):
                for second in (1, 2, 3):
                    play(net, add(server, 0, 2, draw.randrange(3), [], [label, second],
                                  [draw.randint(1, 3), draw.randint(1, 3)]))
                if draw.randrange(3) == 0:
                    play(net, *[hand_on([label], other, 9, server) for other in range(8)])
        play(net, *[switch(server, 0) for server in roots[:2]])
        return net

    def test_it_ends(self):
        for seed in range(150):
            draw = random.Random(seed)
            net = self.crowded_net(draw)
            for turn in range(20):
                name = [draw.randint(1, 3), draw.randint(1, 3)]
                what, count, good, names, rows = found(play(net, query(0, 1, name))[0])
                self.assertLessEqual(count, 40)
                self.assertLessEqual(len(names), 6)
                self.note("asked", count)
                self.note("names", len(names))
                play(net, let_pass(1))
        self.assert_seen(("asked", 0), ("asked", 40), ("names", 0), ("names", 6))

    def test_it_ends_on_any_net(self):
        for seed in range(150):
            draw = random.Random(seed)
            net, roots = drawn_net(draw, 8, 1, 200, (0, 0, 1, 5))
            for turn in range(20):
                count, good, names = found(play(net, query(0, 1, drawn_name(draw)))[0])[1:4]
                self.assertLessEqual(count, 40)
                self.assertLessEqual(len(names), 6)
                self.note("names", len(names))
        self.assert_seen(("names", 0), ("names", 6))
