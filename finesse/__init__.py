"""Finesse: a laboratory of trick-taking card play."""
