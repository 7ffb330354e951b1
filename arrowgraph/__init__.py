"""What hangs on what: a graph of arrows is kept and answered for."""
