"""Steps of ciphers, tags and digests."""
