"""Words of envelopes: folded, and how many slips apart."""
