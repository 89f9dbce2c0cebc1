"""Tickworks: programs of streams that tick together."""
