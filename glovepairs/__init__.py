"""Pairs: single gloves in a box, and the pairs that can be made of them."""
