"""Words of steps that are alike but for how they are held."""
