"""Cheapcovers: things covered by the cheapest sets."""
