"""Lamps that light rows: the ways in which lamps can stand in a hall with pillars."""
