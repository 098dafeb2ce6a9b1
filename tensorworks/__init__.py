"""Tensorworks: a compiler for tensor programs whose generated code is checked."""
