"""Regrind in injection moulding: which part of a shot was reground how often, and how strong the shot is."""
