"""Caches of actions by whole keys: a near store, a far store, and the same outcomes."""
