"""Wholepoll: an election whole, from the rolls to the last late truth."""
