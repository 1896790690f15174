"""Tickshares: never a tick behind on many hands."""
