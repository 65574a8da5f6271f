"""Nets of chutes in which balls drop from knot to knot."""
