"""Lorries round bends: loads, the roads they may go, and the quickest ways."""
