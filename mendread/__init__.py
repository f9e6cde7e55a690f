"""Mendread: texts that a grammar does not read, mended as cheaply as can be."""
