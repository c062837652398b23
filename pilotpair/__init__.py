"""Pilotpair: pilots and boats in pairs that stay."""
