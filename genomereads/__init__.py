"""Reads of a genome. The calls lie in genomereads.bench."""
