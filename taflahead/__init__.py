"""Taflhall: looking ahead. The interface is taflahead.looking.answers."""
