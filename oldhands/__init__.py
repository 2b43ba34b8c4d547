"""Oldhands: kept records that every version reads."""
