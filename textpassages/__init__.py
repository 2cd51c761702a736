"""Selecting snippets of a text for a query; the entry is textpassages.desk.answers."""
