"""Riddles made and solved: a desk with a field of tents and a hall of lamps."""
