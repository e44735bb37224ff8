"""Oneforall: one answers for all."""
