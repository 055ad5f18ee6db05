"""Names over the net: zones on servers, copied by what changed, and caches that ask them."""
