"""Bitloom: from told hardware to the bits of a fabric, and back."""
