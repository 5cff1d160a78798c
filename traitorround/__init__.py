"""Traitorround: hands that agree though some of them lie."""
