"""Paidinparts: money held, taken and given back in parts."""
