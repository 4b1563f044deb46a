"""Peepbook: code of a small machine, rewritten by rules that are checked."""
