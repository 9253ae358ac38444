"""An abacus: books."""
