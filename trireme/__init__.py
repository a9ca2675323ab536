"""Trireme: a compiler for words of many slots on machines that never wait."""
