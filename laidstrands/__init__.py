"""Laid to strands: wire runs off bobbins, and its joints come to lie in a strand."""
