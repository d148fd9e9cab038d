"""Certificates, written and read."""

from commonground.text.line import Line
from commonground.text.steps import step_on, step_text
from commonground.text.words import integer_text


def certificate_text(model, certificate):
    """Return the text of the certificate."""
    first = [certificate[0]]
    if certificate[0] == "best":
        first.extend([integer_text(a) for a in certificate[1]])
    lines = [" ".join(first)]
    lines.extend([step_text(model, step) for step in certificate[-1]])
    return "\n".join(lines)


def read_certificate(model, text):
    """Return the certificate that the text writes."""
    lines = [Line(number, words) for number, words in enumerate(text.split("\n"), 1)]
    first = lines[0]
    told = [first.one_of(("none", "best"))]
    if told[0] == "best":
        told.append(tuple([first.integer() for _ in range(model.many())]))
    first.end()
    return (*told, tuple([step_on(line, model) for line in lines[1:]]))
