"""Cellguard: a census tabulator with disclosure control."""
