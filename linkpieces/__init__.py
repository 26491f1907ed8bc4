"""Packets from link to link, in pieces."""
