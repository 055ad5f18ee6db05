"""The net that a line of calls is about: its servers, its caches, and the time."""

from netnames.caches import Cache
from netnames.servers import Holding, Server
from netnames.zones import Zone

FIRST_SERVERS = 2
FIRST_CACHES = 1
FIRST_LIFE = 60


class Net:

    def __init__(self):
        self.begin_anew(FIRST_SERVERS, FIRST_CACHES, (0,))
        self.make_zone(0, FIRST_LIFE, ())

    def begin_anew(self, server_count, cache_count, roots):
        self.now = 0
        self.servers = [Server() for number in range(server_count)]
        self.caches = [Cache() for number in range(cache_count)]
        self.roots = roots
        self.zones_made = 0

    def make_zone(self, server, life, apex):
        self.zones_made += 1
        zone = Zone(self.zones_made, apex, life)
        self.servers[server].hold(Holding(zone, None, 0, self.now))

    def has_server(self, server):
        return server < len(self.servers)

    def has_cache(self, cache):
        return cache < len(self.caches)
