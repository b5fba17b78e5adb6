"""Parties taken apart guest by guest: see plainparty.parties."""
