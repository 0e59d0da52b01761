"""Pictures made larger, made smaller, turned, mirrored and cut out, all of it exactly."""
