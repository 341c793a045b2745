"""How long a bounded program may run."""
