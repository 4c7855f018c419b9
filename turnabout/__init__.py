"""Recruits who turn about: see turnabout.recruits.answers."""
