"""Closuremill: functions that keep what is round them."""
