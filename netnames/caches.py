"""Caches, and the facts that they know."""

from netnames.telling import HANDS_ON, LEADS_ON, NO_SUCH_NAME
from netnames.zones import ALIAS, HANDED_ON

# That there's no such name is so whatever sort is asked: it's a fact of this one.
NO_KIND = 0


class Fact:

    def __init__(self, telling, kind, until):
        self.telling = telling
        self.kind = kind
        self.until = until

    def is_known(self, now):
        return now < self.until

    def left(self, now):
        return self.until - now


def kind_of_fact(outcome, asked_kind):
    if outcome == NO_SUCH_NAME:
        return NO_KIND
    if outcome == LEADS_ON:
        return ALIAS
    if outcome == HANDS_ON:
        return HANDED_ON
    return asked_kind


class Cache:

    # The facts stand by name and sort, in the order in which they came.
    def __init__(self):
        self.facts = {}

    # The old fact is taken out first: put in its place, the new one would not be the last.
    # With a life of 0 the new one is never known, but the old one is gone all the same.
    def learn(self, telling, asked_kind, now):
        kind = kind_of_fact(telling.outcome, asked_kind)
        self.facts.pop((telling.name, kind), None)
        self.facts[(telling.name, kind)] = Fact(telling, kind, now + telling.life)

    def forget_all(self):
        self.facts = {}

    def known_facts(self, now):
        return [fact for fact in self.facts.values() if fact.is_known(now)]

    # None where that isn't known, here and below.
    def fact_of(self, name, kind, now):
        fact = self.facts.get((name, kind))
        if fact is None or not fact.is_known(now):
            return None
        return fact

    # Told of sort 2 an alias is only what's told there: it's gone on with where it was met
    # as an alias, when something else was asked.
    def alias_of(self, name, now):
        fact = self.fact_of(name, ALIAS, now)
        if fact is None or fact.telling.outcome != LEADS_ON:
            return None
        return fact

    def recalled(self, name, kind, now):
        fact = self.fact_of(name, NO_KIND, now)
        if fact is None:
            fact = self.fact_of(name, kind, now)
        if fact is None:
            fact = self.alias_of(name, now)
        return fact

    def nearest_handing_on(self, name, now):
        for length in range(len(name), 0, -1):
            fact = self.fact_of(name[:length], HANDED_ON, now)
            if fact is not None:
                return fact
        return None
