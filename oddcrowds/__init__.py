"""Oddcrowds: who calls decides when, or where, but never both."""
