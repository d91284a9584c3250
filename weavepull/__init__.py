"""Weavepull: walks woven of walks, pulled one by one or pushed."""
