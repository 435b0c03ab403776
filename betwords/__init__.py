"""Bets of a totalisator's day: which words are a bet, and what they mean."""
