"""Ringbeats: who beats whom around a ring."""
