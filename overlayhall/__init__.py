"""Overlayhall: programs greater than the room that they are done in."""
