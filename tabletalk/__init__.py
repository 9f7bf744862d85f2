"""Tabletalk: tables that talk to their neighbours, and when what they believe is true."""
