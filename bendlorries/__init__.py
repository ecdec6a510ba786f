"""Lorries round bends: loads, the roads they may go, the quickest ways, and convoys on them."""
