"""Remainways: ways of work on one term, and what is left of one after another."""
