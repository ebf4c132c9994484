"""Homewords: machine words changed in place, and a writer of programs from tables."""
