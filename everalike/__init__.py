"""Everalike: two webs alike, whatever is put to them."""
