"""Meetings for many: the plan of a day's meetings that costs the least."""
