"""Words of bits, made clauses. The entrance is answers in bitclauses.terms."""
