"""All and some, over yes and no: quantified clauses."""
