"""Listbylist: lists that share things, sorted anew by many hands."""
