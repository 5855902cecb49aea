"""Runsorts: rows too many for the room, put in order by runs and merges."""
