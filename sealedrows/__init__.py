"""Messages sealed with what may be seen told: ChaCha20 and Poly1305 of RFC 8439."""
