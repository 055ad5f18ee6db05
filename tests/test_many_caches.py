"""query, facts and flush over nets drawn at random, held to a plain telling of the document.

What the servers tell is taken from ask; all that a cache does with it is written here anew.
"""

import random
import unittest

from calling import (ask, asked, drawn_change, drawn_name, drawn_net, facts, facts_told, flush,
                     found, let_pass, play, query)

TOLD, NOTHING, NO_NAME, ALIAS, HANDED_ON = 1, 2, 3, 4, 5


class PlainCache:

    def __init__(self, net, roots):
        self.net = net
        self.roots = roots
        self.facts = []
        self.now = 0

    def known(self):
        """Each fact as facts tells it: how long still, the name, the sort, what, its rows."""
        return [(until - self.now, *rest) for until, *rest in self.facts if self.now < until]

    def look_up(self, name, sort, *whats):
        for left, of, under, what, rows in self.known():
            if of == name and under == sort and what in whats:
                return (what, left, rows)
        return None

    def learn(self, name, sort, what, life, rows):
        self.facts = [fact for fact in self.facts if fact[1:3] != (name, sort)]
        self.facts.append((self.now + life, name, sort, what, rows))

    def recall(self, name, sort):
        """What is known of it: what it is, how long still, its rows."""
        return (self.look_up(name, 0, NO_NAME) or self.look_up(name, sort, TOLD, NOTHING)
                or self.look_up(name, 2, ALIAS))

    def query(self, sort, first):
        names, count, good = [first], 0, 10 ** 9
        while True:
            told = self.recall(names[-1], sort)
            if told is None:
                told, more = self.ask(names[-1], sort, 40 - count)
                count += more
            if told is None:
                return (0, count, 0, names[1:], [])
            what, left, rows = told
            good = min(good, left)
            if what != ALIAS:
                return (what, count, good, names[1:], rows)
            if sort == 2:
                return (TOLD, count, good, names[1:], rows)
            if len(names) == 7:
                return (0, count, 0, names[1:], [])
            names.append(rows[0])

    def start(self, name):
        for length in reversed(range(1, len(name) + 1)):
            told = self.look_up(name[:length], 3, HANDED_ON)
            if told is not None:
                return (length, list(told[2][0]))
        return (0, list(self.roots))

    def ask(self, name, sort, most):
        depth, left = self.start(name)
        count = 0
        while left and count < most:
            count += 1
            what, life, place, rows = asked(play(self.net, ask(left.pop(0), sort, name))[0])
            if what == HANDED_ON:
                if len(place) > depth:
                    self.learn(place, 3, what, life, rows)
                    depth, left = len(place), list(rows[0])
            elif what > 0:
                under = {NO_NAME: 0, ALIAS: 2}.get(what, sort)
                self.learn(name, under, what, life, rows)
                return (what, life, rows), count
        return None, count


class ManyCaches(unittest.TestCase):

    def check(self, seed, servers, lives, changing):
        draw = random.Random(seed)
        net, roots = drawn_net(draw, servers, 2, 200, lives)
        plain = [PlainCache(net, roots), PlainCache(net, roots)]
        for turn in range(60):
            cache = draw.randrange(2)
            chosen = draw.randrange(20)
            if chosen < 4 and changing:
                play(net, *[drawn_change(draw, servers, lives) for change in range(3)])
            elif chosen < 7:
                now = play(net, let_pass(draw.choice([1, 2, 4, 5, 10, 20])))[0][0]
                plain[0].now = plain[1].now = now
            elif chosen == 7:
                self.assertEqual(play(net, flush(cache)), [[len(plain[cache].known())]])
                plain[cache].facts = []
            else:
                sort, name = draw.randint(1, 2), drawn_name(draw)
                wanted = plain[cache].query(sort, name)
                self.assertEqual(found(play(net, query(cache, sort, name))[0]), wanted)
                self.note(wanted)
            for one in (0, 1):
                self.assertEqual(facts_told(play(net, facts(one))[0]), plain[one].known())

    def note(self, wanted):
        for one in (("what", wanted[0]), ("known", wanted[1] == 0), ("names", len(wanted[3]))):
            self.seen[one] = self.seen.get(one, 0) + 1

    def assert_seen(self, *wanted):
        for one in wanted:
            self.assertGreater(self.seen.get(one, 0), 0, one)

    def test_while_all_is_changing(self):
        self.seen = {}
        for seed in range(150):
            self.check(seed, 4, (0, 1, 5, 20, 60), True)
        self.assert_seen(*[("what", what) for what in range(4)], ("known", True),
                         *[("names", count) for count in (0, 1, 2, 6)])

    def test_where_nothing_changes(self):
        self.seen = {}
        for seed in range(150):
            self.check(1000 + seed, 8, (0, 5, 20, 100000), False)
        self.assert_seen(*[("what", what) for what in range(4)], ("known", True),
                         *[("names", count) for count in (0, 1, 2, 6)])
