"""Attempts: lists of requests to a case, of which all are carried out or none."""

from galloon.errors import GalloonError, Refused


def attempt(case, requests):
    """Carry out all requests of a list, or none if one is refused; the number of the requests."""
    # The case itself is not touched before all requests have been carried out.
    trial = case.twin()
    for index, request in enumerate(requests):
        try:
            _carry_out(trial, request)
        except GalloonError as error:
            raise Refused(index) from error
    case.take_over(trial)
    return len(requests)


def _carry_out(case, request):
    """Carry out one request."""
    word = request[0]
    if word == "lay":
        case.lay(request[1], request[2])
    elif word == "work":
        case.work(request[1], request[2])
    elif word == "see":
        case.see(request[1], request[2])
    elif word == "recall":
        case.recall(request[1], request[2])
    elif word == "among":
        case.among(request[1], request[2])
    elif word == "withdraw":
        case.withdraw(request[1])
    elif word == "undo":
        case.undo()
    elif word == "redo":
        case.redo()
