"""Strewfar: what walkers leave on an endless ground."""
