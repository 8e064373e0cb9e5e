"""Ringland: shapes by their rings, joined, shared and taken from one another."""
