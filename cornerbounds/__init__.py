"""Bounds with certificates: small linear programs solved exactly, with proofs of the answers."""
