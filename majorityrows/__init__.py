"""Majority on each: what a panel of judges says, question by question."""
