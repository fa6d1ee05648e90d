"""Who's ill, by tests of many at once."""
