"""Lodge: a house where every key has a room of its own."""
