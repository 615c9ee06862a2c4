"""Taken back by each hand: several desks move the things of one tree."""
