"""A name server's answers: a zone's text and a query's bytes go in, the answer's bytes come out."""
