"""Lexiconlines: words of a machine in dictionary order."""
