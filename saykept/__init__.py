"""Say: what's remembered. How readings were written: which text, how often, when last."""
