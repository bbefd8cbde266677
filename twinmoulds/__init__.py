"""Twinmoulds: sheets made by hand with two moulds, whose marks come and never go but by mending."""
