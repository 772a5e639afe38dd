"""Beadfit: strings of beads and the patterns that they fit."""
