"""Doublecut: chains of links, cut twice and joined anew."""
