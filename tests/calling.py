"""Writes calls as lists of numbers, and takes the answers apart, call by call."""

import unittest

from netnames.net import Reader, answer_next, answers
from netnames.network import Net

BIG = 18446744073709551615


def row(numbers):
    return [len(numbers)] + list(numbers)


def begin(servers, caches, roots):
    return [1, servers, caches] + row(roots)


def zone(server, life, apex):
    return [2, server, life] + row(apex)


def copy(server, origin, good, apex):
    return [3, server, origin, good] + row(apex)


def drop(server, apex):
    return [4, server] + row(apex)


def add(server, serial, kind, life, apex, name, value):
    return [5, server, serial, kind, life] + row(apex) + row(name) + row(value)


def remove(server, serial, kind, apex, name, value):
    return [6, server, serial, kind] + row(apex) + row(name) + row(value)


def transfer(server, apex):
    return [7, server] + row(apex)


def number(label, value=7, server=0, apex=()):
    """Adds a number right below the apex."""
    return add(server, 0, 1, 60, apex, list(apex) + [label], [value])


def joined(calls):
    return [one for call in calls for one in call]


def told(*calls):
    """What is answered on each of the calls, one list each."""
    given = answers(joined(calls))
    parts = []
    place = 0
    while place < len(given):
        length = given[place]
        parts.append(given[place + 1:place + 1 + length])
        place += 1 + length
    return parts


def last(*calls):
    return told(*calls)[-1]


def play(net, *calls):
    """Does the calls on this net, and gives back what is answered on each."""
    reader = Reader(joined(calls))
    parts = []
    while not reader.is_done():
        parts.append(answer_next(net, reader))
    return parts


def played(*calls):
    """A new net on which these calls were done."""
    net = Net()
    play(net, *calls)
    return net


def plain_record(record):
    return (record.name, record.kind, record.value, record.life)


def plain_zone(zone):
    """All that a zone is, as plain values that can be compared."""
    changes = [(change.puts_in, plain_change(change)) for change in zone.changes]
    records = [plain_record(record) for record in zone.records]
    return (zone.identity, zone.apex, zone.life, zone.serial, records, changes)


def plain_change(change):
    # What is taken out is told by name, sort and value alone: its life says nothing.
    whole = plain_record(change.record)
    return whole if change.puts_in else whole[:3]


def plain_holding(holding):
    return (plain_zone(holding.zone), holding.origin, holding.good, holding.since)


def plain_server(server):
    holdings = [(apex, plain_holding(held)) for apex, held in server.holdings.items()]
    return (server.up, holdings)


def plain_net(net):
    servers = [plain_server(server) for server in net.servers]
    return (net.now, servers, net.cache_count, net.roots, net.zones_made)


def zone_of(net, server, apex=()):
    return net.servers[server].holding_of(tuple(apex)).zone


def records_of(net, server, apex=()):
    return [plain_record(record) for record in zone_of(net, server, apex).records]


class CallCase(unittest.TestCase):

    def assert_told(self, wanted, *calls):
        self.assertEqual(last(*calls), wanted)

    def assert_refused(self, code, *calls):
        """The last call is refused, and all is as it was ahead of it."""
        self.assertEqual(last(*calls), [code])
        net = played(*calls[:-1])
        was = plain_net(net)
        self.assertEqual(play(net, calls[-1]), [[code]])
        self.assertEqual(plain_net(net), was)
