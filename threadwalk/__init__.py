"""Threadwalk: walks a garden's room along a thread, without a map."""
