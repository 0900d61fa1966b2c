"""Forkform: statements over four letters, put into forks."""
