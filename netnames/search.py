"""How a cache finds what it's asked for: by what it knows, else by asking servers."""

from netnames.telling import HANDS_ON, LEADS_ON, REFUSES
from netnames.zones import ALIAS

MOST_ASKED = 40
MOST_NAMES = 6
LONGEST_GOOD = 1000000000


# One question to a cache, and what is counted while it's gone through.
class Search:

    def __init__(self, net, cache, kind):
        self.net = net
        self.cache = cache
        self.kind = kind
        self.asked = 0
        self.good = LONGEST_GOOD
        self.names = []

    # None where nothing can be told, here and below.
    def found(self, name):
        telling = self.told_of(name)
        while self.is_to_go_on(telling):
            if len(self.names) == MOST_NAMES:
                return None
            alias = telling.rows[0]
            self.names.append(alias)
            telling = self.told_of(alias)
        return telling

    # Where sort 2 is asked, the alias itself is what's told.
    def is_to_go_on(self, telling):
        return telling is not None and telling.outcome == LEADS_ON and self.kind != ALIAS

    def told_of(self, name):
        fact = self.cache.recalled(name, self.kind, self.net.now)
        if fact is not None:
            self.good = min(self.good, fact.left(self.net.now))
            return fact.telling
        telling = self.told_by_servers(name)
        if telling is not None:
            self.good = min(self.good, telling.life)
        return telling

    def told_by_servers(self, name):
        place = 0
        servers = self.net.roots
        nearest = self.cache.nearest_handing_on(name, self.net.now)
        if nearest is not None:
            place = len(nearest.telling.name)
            servers = nearest.telling.rows[0]
        turn = 0
        while turn < len(servers) and self.asked < MOST_ASKED:
            telling = self.told_by(servers[turn], name)
            turn += 1
            if telling.outcome not in (HANDS_ON, REFUSES):
                self.learn(telling)
                return telling
            # Only deeper down is gone on: so it can't go round in a circle.
            if telling.outcome == HANDS_ON and len(telling.name) > place:
                self.learn(telling)
                place = len(telling.name)
                servers = telling.rows[0]
                turn = 0
        return None

    def told_by(self, server, name):
        self.asked += 1
        return self.net.servers[server].told_when_asked(name, self.kind, self.net.now)

    def learn(self, telling):
        self.cache.learn(telling, self.kind, self.net.now)
