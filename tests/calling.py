"""Writes calls as lists of numbers, and takes the answers apart, call by call."""

import unittest

from netnames.net import Reader, answer_next, answers
from netnames.network import Net

BIG = 18446744073709551615


def row(numbers):
    return [len(numbers)] + list(numbers)


def begin(servers, caches, roots):
    return [1, servers, caches] + row(roots)


def zone(server, life, apex):
    return [2, server, life] + row(apex)


def copy(server, origin, good, apex):
    return [3, server, origin, good] + row(apex)


def drop(server, apex):
    return [4, server] + row(apex)


def add(server, serial, kind, life, apex, name, value):
    return [5, server, serial, kind, life] + row(apex) + row(name) + row(value)


def remove(server, serial, kind, apex, name, value):
    return [6, server, serial, kind] + row(apex) + row(name) + row(value)


def transfer(server, apex):
    return [7, server] + row(apex)


def switch(server, up):
    return [8, server, up]


def let_pass(length):
    return [9, length]


def query(cache, kind, name):
    return [10, cache, kind] + row(name)


def ask(server, kind, name):
    return [11, server, kind] + row(name)


def records(server, apex):
    return [12, server] + row(apex)


def facts(cache):
    return [13, cache]


def flush(cache):
    return [14, cache]


def number(label, value=7, server=0, apex=()):
    """Adds a number right below the apex."""
    return add(server, 0, 1, 60, apex, list(apex) + [label], [value])


def tells(name, value=7, life=60, server=0, apex=()):
    """Adds a number at the name."""
    return add(server, 0, 1, life, apex, name, [value])


def alias(name, other, life=60, server=0, apex=()):
    return add(server, 0, 2, life, apex, name, other)


def hand_on(name, other, life=60, server=0, apex=()):
    return add(server, 0, 3, life, apex, name, [other])


def joined(calls):
    return [one for call in calls for one in call]


def told(*calls):
    """What is answered on each of the calls, one list each."""
    given = answers(joined(calls))
    parts = []
    place = 0
    while place < len(given):
        length = given[place]
        parts.append(given[place + 1:place + 1 + length])
        place += 1 + length
    return parts


def last(*calls):
    return told(*calls)[-1]


def play(net, *calls):
    """Does the calls on this net, and gives back what is answered on each."""
    reader = Reader(joined(calls))
    parts = []
    while not reader.is_done():
        parts.append(answer_next(net, reader))
    return parts


def played(*calls):
    """A new net on which these calls were done."""
    net = Net()
    play(net, *calls)
    return net


APEXES = [[], [], [], [1], [1, 2], [2]]


def drawn_name(draw):
    return [draw.randint(1, 3) for turn in range(draw.randrange(4))]


def drawn_record(draw, servers, lives):
    """A record's sort, life, apex, name and value, as add has them."""
    apex = draw.choice(APEXES)
    name = apex + [draw.randint(1, 3) for turn in range(draw.randrange(3))]
    if draw.randrange(5) == 0:
        name = name + [0]
    kind = draw.choice([1, 1, 2, 2, 3, 3])
    value = {1: [draw.randrange(3)], 2: drawn_name(draw), 3: [draw.randrange(servers)]}[kind]
    return (kind, draw.choice(lives), apex, name, value)


def drawn_change(draw, servers, lives=(0, 1, 5, 20, 60)):
    """A call that changes something, about few names, so that many are taken and few refused."""
    chosen = draw.choices(["add", "remove", "zone", "drop", "copy", "transfer", "switch"],
                          weights=[12, 3, 3, 1, 4, 3, 3])[0]
    server = draw.randrange(servers)
    if chosen == "add":
        return add(server, 0, *drawn_record(draw, servers, lives))
    if chosen == "remove":
        kind, life, apex, name, value = drawn_record(draw, servers, lives)
        return remove(server, 0, kind, apex, name, value)
    if chosen == "zone":
        return zone(server, draw.choice(lives), draw.choice(APEXES))
    if chosen == "drop":
        return drop(server, draw.choice(APEXES))
    if chosen == "copy":
        return copy(server, draw.randrange(servers), draw.randrange(60), draw.choice(APEXES))
    if chosen == "transfer":
        return transfer(server, draw.choice(APEXES))
    return switch(server, draw.choice([0, 1, 1, 1]))


def drawn_net(draw, servers, caches, changes, lives=(0, 1, 5, 20, 60)):
    """A net with some zones, on which so many changes were tried; and the root's servers."""
    roots = sorted(draw.sample(range(servers), draw.randint(1, servers)))
    net = played(begin(servers, caches, roots), *[zone(server, 30, []) for server in roots])
    play(net, *[drawn_change(draw, servers, lives) for turn in range(changes)])
    return net, roots


class Numbers:
    """Takes an answer apart, number by number."""

    def __init__(self, numbers):
        self.left = list(numbers)

    def take(self):
        return self.left.pop(0)

    def row(self):
        return [self.take() for turn in range(self.take())]

    def rows(self):
        return [self.row() for turn in range(self.take())]


def found(numbers):
    """What query answers: what it is, how many were asked, how long good, names, what's told."""
    given = Numbers(numbers)
    parts = (given.take(), given.take(), given.take(), given.rows(), given.rows())
    assert given.left == []
    return parts


def asked(numbers):
    """What ask answers: what it is, the life, the name where it's handed on, its rows."""
    given = Numbers(numbers)
    what = given.take()
    if what <= 0:
        return (what, 0, None, [])
    life = given.take()
    place = given.row() if what == 5 else None
    if what == 1:
        return (what, life, place, given.rows())
    return (what, life, place, [given.row()] if what in (4, 5) else [])


def one_fact(given):
    left, name, kind, what = given.take(), given.row(), given.take(), given.take()
    if what == 1:
        return (left, name, kind, what, given.rows())
    return (left, name, kind, what, [given.row()] if what in (4, 5) else [])


def facts_told(numbers):
    """What facts answers: of each fact how long, the name, the sort, what it is, and its rows."""
    given = Numbers(numbers)
    parts = [one_fact(given) for turn in range(given.take())]
    assert given.left == []
    return parts


def records_told(numbers):
    """What records answers: the serial, if it's good; of each record name, sort, life, value."""
    given = Numbers(numbers)
    serial, good = given.take(), given.take()
    parts = [(given.row(), given.take(), given.take(), given.row())
             for turn in range(given.take())]
    assert given.left == []
    return (serial, good, parts)


def plain_record(record):
    return (record.name, record.kind, record.value, record.life)


def plain_zone(zone):
    """All that a zone is, as plain values that can be compared."""
    changes = [(change.puts_in, plain_change(change)) for change in zone.changes]
    records = [plain_record(record) for record in zone.records]
    return (zone.identity, zone.apex, zone.life, zone.serial, records, changes)


def plain_change(change):
    # What is taken out is told by name, sort and value alone: its life says nothing.
    whole = plain_record(change.record)
    return whole if change.puts_in else whole[:3]


def plain_holding(holding):
    return (plain_zone(holding.zone), holding.origin, holding.good, holding.since)


def plain_server(server):
    holdings = [(apex, plain_holding(held)) for apex, held in server.holdings.items()]
    return (server.up, holdings)


def plain_cache(cache):
    return [(fact.telling.outcome, fact.telling.name, fact.kind, fact.telling.rows, fact.until)
            for fact in cache.facts.values()]


def plain_net(net):
    servers = [plain_server(server) for server in net.servers]
    caches = [plain_cache(cache) for cache in net.caches]
    return (net.now, servers, caches, net.roots, net.zones_made)


def zone_of(net, server, apex=()):
    return net.servers[server].holding_of(tuple(apex)).zone


def records_of(net, server, apex=()):
    return [plain_record(record) for record in zone_of(net, server, apex).records]


class CallCase(unittest.TestCase):

    def assert_told(self, wanted, *calls):
        self.assertEqual(last(*calls), wanted)

    def assert_refused(self, code, *calls):
        """The last call is refused, and all is as it was ahead of it."""
        self.assertEqual(last(*calls), [code])
        net = played(*calls[:-1])
        was = plain_net(net)
        self.assertEqual(play(net, calls[-1]), [[code]])
        self.assertEqual(plain_net(net), was)
