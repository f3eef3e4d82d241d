"""Drawn through dies: a rod, a row of dies, and the wire that comes out."""
