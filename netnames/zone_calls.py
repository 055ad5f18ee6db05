"""The calls 1 to 7, by which a net is begun and its zones are kept and copied.

Each gives back the numbers that are answered; a refusal is its one number, below 0.
What could refuse is asked, in the document's order, before anything is changed.
"""

from netnames.names import is_name
from netnames.servers import Holding
from netnames.zones import LONGEST_LIFE, Change, Record, is_right_record

MOST_SERVERS = 8
MOST_CACHES = 4
LONGEST_GOOD = 100000


def are_roots(roots, server_count):
    if len(roots) == 0 or roots[-1] >= server_count:
        return False
    # Where they rise, the last one is the highest: no other need be held to the count.
    return all([lower < higher for lower, higher in zip(roots, roots[1:])])


def answer_begin(net, server_count, cache_count, roots):
    if not 1 <= server_count <= MOST_SERVERS or not 1 <= cache_count <= MOST_CACHES:
        return [-1]
    if not are_roots(roots, server_count):
        return [-1]
    net.begin_anew(server_count, cache_count, roots)
    return [server_count]


def answer_zone(net, server, life, apex):
    if not net.has_server(server):
        return [-2]
    if not is_name(apex) or life > LONGEST_LIFE:
        return [-1]
    if net.servers[server].has_zone(apex):
        return [-4]
    net.make_zone(server, life, apex)
    return [net.servers[server].zone_count()]


# 0 stands for no refusal, here and below.
def refusal_of_zone(net, server, apex):
    if not net.has_server(server):
        return -2
    if not net.servers[server].has_zone(apex):
        return -3
    return 0


def refusal_of_copy(net, server, origin, good, apex):
    if not net.has_server(server):
        return -2
    refused = refusal_of_zone(net, origin, apex)
    if refused < 0:
        return refused
    if good > LONGEST_GOOD:
        return -1
    if net.servers[server].has_zone(apex):
        return -4
    if not net.servers[origin].can_hand_out(apex, net.now):
        return -6
    return 0


def answer_copy(net, server, origin, good, apex):
    refused = refusal_of_copy(net, server, origin, good, apex)
    if refused < 0:
        return [refused]
    other = net.servers[origin].holding_of(apex)
    since = other.since_for_copies(net.now)
    net.servers[server].hold(Holding(other.zone.twin(), origin, good, since))
    return [other.zone.serial]


def answer_drop(net, server, apex):
    refused = refusal_of_zone(net, server, apex)
    if refused < 0:
        return [refused]
    net.servers[server].let_go(apex)
    return [net.servers[server].zone_count()]


def refusal_of_own_zone(net, server, apex):
    refused = refusal_of_zone(net, server, apex)
    if refused == 0 and net.servers[server].holding_of(apex).is_copy():
        return -6
    return refused


def refusal_of_record(net, zone, serial, record):
    if not is_right_record(record, zone.apex, len(net.servers)):
        return -1
    if not zone.is_at(serial):
        return -7
    if not zone.may_stand_here(record):
        return -8
    if zone.is_full():
        return -5
    return 0


def answer_add(net, server, serial, kind, life, apex, name, value):
    refused = refusal_of_own_zone(net, server, apex)
    if refused < 0:
        return [refused]
    zone = net.servers[server].holding_of(apex).zone
    record = Record(name, kind, value, life)
    refused = refusal_of_record(net, zone, serial, record)
    if refused < 0:
        return [refused]
    zone.undergo(Change(True, record))
    return [zone.serial]


def answer_remove(net, server, serial, kind, apex, name, value):
    refused = refusal_of_own_zone(net, server, apex)
    if refused < 0:
        return [refused]
    zone = net.servers[server].holding_of(apex).zone
    # Which record it is doesn't hang on the life, so none is told.
    record = Record(name, kind, value, 0)
    if not zone.is_at(serial):
        return [-7]
    if not zone.has(record):
        return [-4]
    zone.undergo(Change(False, record))
    return [zone.serial]


def bring_up(held, other, now):
    here = held.zone
    there = other.zone
    is_same = here.identity == there.identity
    missing = there.serial - here.serial
    if is_same and missing < 0:
        return [3]
    held.since = other.since_for_copies(now)
    if is_same and missing == 0:
        return [0, here.serial, 0]
    if is_same and missing <= len(there.changes):
        for change in there.changes[-missing:]:
            here.undergo(change)
        return [1, here.serial, missing]
    held.zone = there.twin()
    return [2, there.serial, len(there.records)]


def answer_transfer(net, server, apex):
    refused = refusal_of_zone(net, server, apex)
    if refused < 0:
        return [refused]
    held = net.servers[server].holding_of(apex)
    if not held.is_copy():
        return [-6]
    other = net.servers[held.origin]
    if not net.servers[server].up or not other.can_hand_out(apex, net.now):
        return [-5]
    return bring_up(held, other.holding_of(apex), net.now)
