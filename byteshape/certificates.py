"""Certificates: texts that show the answers about all files, and that can be checked without a search."""

from byteshape.evidence import Beside, Pairs, is_closed, rows_found
from byteshape.forms import about_one, about_two, certificate_told, line_text
from byteshape.machine import LIMIT, Machine
from byteshape.twice import two_ways
from byteshape.versions import covers
from byteshape.ways import first_paths, state_levels


def whole_text(form, evidence):
    """The certificate of several lines, one for each node that is come to."""
    return "\n".join([form.whole] + [line_text(form.line, row) for row in rows_found(evidence)])


def is_right(text, form, evidence):
    """Tells whether a certificate is right. Raises InvalidCertificate."""
    whole, rows = certificate_told(text, form)
    if whole:
        return is_closed(evidence, rows)
    node = evidence.node_of(rows[0])
    return node is not None and evidence.is_goal(node)


def plain_certificate(shape, *, limit=LIMIT):
    """The certificate of a shape. Raises TooMany."""
    form = about_one()
    found = two_ways(shape, limit=limit)
    if found is None:
        return whole_text(form, Pairs(shape))
    return line_text(form.single, (found.file, [found.first, found.second]))


def covers_certificate(one, other, *, limit=LIMIT):
    """The certificate of two shapes. Raises TooMany."""
    form = about_two()
    file = covers(one, other, limit=limit)
    if file is None:
        return whole_text(form, Beside(one, other))
    machine = Machine(one)
    return line_text(form.single, (file, first_paths(machine, state_levels(machine, file), file, 1)))


def check_plain(shape, text):
    """Tells whether a text is a certificate that is right for a shape. Raises InvalidCertificate."""
    return is_right(text, about_one(), Pairs(shape))


def check_covers(one, other, text):
    """Tells whether a text is a certificate that is right for two shapes. Raises InvalidCertificate."""
    return is_right(text, about_two(), Beside(one, other))
