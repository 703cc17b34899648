"""Means of powers: see spreadmeans.powers.answers."""
