"""Crowdroads: roads that slow when many go."""
