"""The calls 8 to 14: servers go up and down, time passes, servers and caches are asked.

Each gives back the numbers that are answered; a refusal is its one number, below 0.
What could refuse is asked, in the document's order, before anything is changed.
"""

from netnames.names import is_name
from netnames.search import Search
from netnames.telling import HANDS_ON, LEADS_ON, REFUSES, TELLS
from netnames.zone_calls import refusal_of_zone
from netnames.zones import ALIAS, HANDED_ON, NUMBER

LONGEST_PASS = 100000


def counted(row):
    return [len(row)] + list(row)


def each_counted(rows):
    numbers = []
    for row in rows:
        numbers.extend(counted(row))
    return numbers


# Only of what's told the rows are counted: an alias and the servers are one row each.
def rows_told(telling):
    if telling.outcome == TELLS:
        return [len(telling.rows)] + each_counted(telling.rows)
    return each_counted(telling.rows)


def answer_set(net, server, up):
    if not net.has_server(server):
        return [-2]
    if up > 1:
        return [-1]
    named = net.servers[server]
    is_up = up == 1
    if named.up == is_up:
        return [-4]
    named.up = is_up
    return [0]


def answer_pass(net, length):
    if not 1 <= length <= LONGEST_PASS:
        return [-1]
    net.now += length
    return [net.now]


def answer_query(net, cache, kind, name):
    if not net.has_cache(cache):
        return [-2]
    if kind not in (NUMBER, ALIAS) or not is_name(name):
        return [-1]
    search = Search(net, net.caches[cache], kind)
    found = search.found(name)
    went_on = [len(search.names)] + each_counted(search.names)
    if found is None:
        return [0, search.asked, 0] + went_on + [0]
    # An alias is found only where it's asked for: then it's what's told.
    outcome = TELLS if found.outcome == LEADS_ON else found.outcome
    told = [len(found.rows)] + each_counted(found.rows)
    return [outcome, search.asked, search.good] + went_on + told


def answer_ask(net, server, kind, name):
    if not net.has_server(server):
        return [-2]
    if kind not in (NUMBER, ALIAS, HANDED_ON) or not is_name(name):
        return [-1]
    if not net.servers[server].up:
        return [-6]
    telling = net.servers[server].told_of(name, kind, net.now)
    if telling.outcome == REFUSES:
        return [REFUSES]
    place = counted(telling.name) if telling.outcome == HANDS_ON else []
    return [telling.outcome, telling.life] + place + rows_told(telling)


def numbers_of_record(record):
    return counted(record.name) + [record.kind, record.life] + counted(record.value)


def answer_records(net, server, apex):
    refused = refusal_of_zone(net, server, apex)
    if refused < 0:
        return [refused]
    held = net.servers[server].holding_of(apex)
    good = 1 if held.is_good(net.now) else 0
    numbers = [held.zone.serial, good, len(held.zone.records)]
    for record in held.zone.records:
        numbers.extend(numbers_of_record(record))
    return numbers


def numbers_of_fact(fact, now):
    telling = fact.telling
    about = [fact.left(now)] + counted(telling.name) + [fact.kind]
    return about + [telling.outcome] + rows_told(telling)


def answer_facts(net, cache):
    if not net.has_cache(cache):
        return [-2]
    facts = net.caches[cache].known_facts(net.now)
    numbers = [len(facts)]
    for fact in facts:
        numbers.extend(numbers_of_fact(fact, net.now))
    return numbers


def answer_flush(net, cache):
    if not net.has_cache(cache):
        return [-2]
    known = len(net.caches[cache].known_facts(net.now))
    net.caches[cache].forget_all()
    return [known]
