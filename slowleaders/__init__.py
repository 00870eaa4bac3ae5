"""Slowleaders: cars that follow each other on a narrow road."""
