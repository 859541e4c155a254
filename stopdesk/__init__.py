"""Stopdesk: programs that are stopped and looked at, over a wire."""
