"""Causalports: a store at several sites, sessions that go from one to another, tokens."""
