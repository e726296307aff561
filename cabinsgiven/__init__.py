"""Cabins given out: a ship's cabins, and the parties that are housed in them."""
