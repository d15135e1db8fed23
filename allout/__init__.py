"""Allout: ways out of houses, rules with exceptions, the least that has to be raised, and minutes."""
