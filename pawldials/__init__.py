"""Pawldials: great dials under rules, some of which turn one way alone."""
