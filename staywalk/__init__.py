"""Staywalk: walks through a table that others change meanwhile."""
