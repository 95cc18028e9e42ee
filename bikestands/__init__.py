"""Bikestands: what counts at stands tell of bikes that come back elsewhere."""
