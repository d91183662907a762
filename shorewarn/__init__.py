"""Shorewarn: waves, gauges, and walks to high ground that are sure."""
