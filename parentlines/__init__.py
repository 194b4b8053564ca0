"""Parentlines: kinds with several parents, what is found along their lines, and what is kept of it."""
