"""Leadersplice: the cutting room of a film's negative."""
