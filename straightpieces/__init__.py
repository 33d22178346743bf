"""Functions made of straight pieces, exactly."""
