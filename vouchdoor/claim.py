"""Claims: statements with choices, and answers that do not tell which branch is meant.

Witnesses, tapes, first moves and replies of a claim are pairs: what belongs to its
statement, and a tuple with what belongs to each of its choices.
"""

from vouchdoor.statement import extracted, holds, reply, simulated


class Claim:
    """A statement, and choices: tuples of claims of which one is meant each time."""

    def __init__(self, statement, choices):
        self.statement = statement
        self.choices = tuple([tuple(branches) for branches in choices])

    def __eq__(self, other):
        return (isinstance(other, Claim) and self.statement == other.statement
                and self.choices == other.choices)


def satisfied(group, claim, witness):
    """Whether a witness satisfies a claim."""
    values, picks = witness
    if len(picks) != len(claim.choices) or not holds(group, claim.statement, values):
        return False
    return all([_pick_satisfied(group, branches, pick) for branches, pick in zip(claim.choices, picks)])


def _pick_satisfied(group, branches, pick):
    """Whether a pick names one of the branches and has a witness that satisfies it."""
    index, witness = pick
    return 0 <= index < len(branches) and satisfied(group, branches[index], witness)


def tape_size(claim):
    """How many numbers a tape of a claim has."""
    return len(claim.statement.unknowns) + sum([_choice_size(branches) for branches in claim.choices])


def _choice_size(branches):
    """How many numbers of a tape belong to a choice."""
    return _share_count(branches) + sum([tape_size(branch) for branch in branches])


def _share_count(branches):
    """How many shares a choice has: the challenge of one branch follows from the others."""
    return max(len(branches) - 1, 0)


def tape_of(claim, numbers):
    """The tape of a claim that a list of numbers makes."""
    end = len(claim.statement.unknowns)
    own = tuple(numbers[:end])
    parts = []
    for branches in claim.choices:
        start = end
        end = start + _choice_size(branches)
        parts.append(_choice_tape(branches, numbers[start:end]))
    return own, tuple(parts)


def _choice_tape(branches, numbers):
    """The shares and the tapes of all branches of a choice, made of a list of numbers."""
    end = _share_count(branches)
    shares = tuple(numbers[:end])
    tapes = []
    for branch in branches:
        start = end
        end = start + tape_size(branch)
        tapes.append(tape_of(branch, numbers[start:end]))
    return shares, tuple(tapes)


def _challenges(group, challenge, shares, chosen):
    """The challenges of all branches: the shares, and at the chosen one what is left."""
    left = (challenge - sum(shares)) % group.q
    return list(shares[:chosen]) + [left] + list(shares[chosen:])


def simulate(group, claim, challenge, tape):
    """A first move and a reply to a challenge that fits to it, made without a witness."""
    replies, parts = tape
    moves = []
    answers = []
    for branches, part in zip(claim.choices, parts):
        move, pairs = _simulate_choice(group, branches, challenge, part)
        moves.append(move)
        answers.append(pairs)
    own = simulated(group, claim.statement, challenge, replies)
    return (own, tuple(moves)), (tuple(replies), tuple(answers))


def _simulate_choice(group, branches, challenge, part):
    """The first moves, and the challenges with replies, of all branches of a choice."""
    shares, tapes = part
    challenges = _challenges(group, challenge, shares, len(branches) - 1)
    moves = []
    pairs = []
    for branch, share, tape in zip(branches, challenges, tapes):
        move, replied = simulate(group, branch, share, tape)
        moves.append(move)
        pairs.append((share, replied))
    return tuple(moves), tuple(pairs)


def first_move(group, claim, witness, tape):
    """The first move with a witness; it does not depend on the challenge."""
    _, picks = witness
    numbers, parts = tape
    moves = []
    for branches, pick, part in zip(claim.choices, picks, parts):
        moves.append(_choice_move(group, branches, pick, part))
    # For the challenge 0 the reply is the tape itself.
    return simulated(group, claim.statement, 0, numbers), tuple(moves)


def _choice_move(group, branches, pick, part):
    """The first moves of all branches of a choice, with a witness of the chosen one."""
    chosen, witness = pick
    shares, tapes = part
    # The chosen branch's own challenge is not known yet, and it is not used here.
    challenges = _challenges(group, 0, shares, chosen)
    moves = []
    for index, branch in enumerate(branches):
        if index == chosen:
            moves.append(first_move(group, branch, witness, tapes[index]))
        else:
            moves.append(simulate(group, branch, challenges[index], tapes[index])[0])
    return tuple(moves)


def answer(group, claim, witness, tape, challenge):
    """The reply to a challenge with a witness."""
    values, picks = witness
    numbers, parts = tape
    answers = []
    for branches, pick, part in zip(claim.choices, picks, parts):
        answers.append(_choice_answer(group, branches, pick, part, challenge))
    return reply(group, values, numbers, challenge), tuple(answers)


def _choice_answer(group, branches, pick, part, challenge):
    """The challenges and replies of all branches of a choice, with a witness of the chosen one."""
    chosen, witness = pick
    shares, tapes = part
    challenges = _challenges(group, challenge, shares, chosen)
    pairs = []
    for index, branch in enumerate(branches):
        share = challenges[index]
        if index == chosen:
            replied = answer(group, branch, witness, tapes[index], share)
        else:
            replied = simulate(group, branch, share, tapes[index])[1]
        pairs.append((share, replied))
    return tuple(pairs)


def fits(group, claim, first, challenge, replied):
    """Whether a reply to a challenge fits to a claim and a first move."""
    # The form is asked first: what follows counts on it.
    if not _has_form(claim, first, replied):
        return False
    numbers, moves = first
    replies, answers = replied
    if not all([0 <= number < group.q for number in [challenge, *replies]]):
        return False
    if simulated(group, claim.statement, challenge, replies) != numbers:
        return False
    return all([_choice_fits(group, branches, move, challenge, pairs)
                for branches, move, pairs in zip(claim.choices, moves, answers)])


def _has_form(claim, first, replied):
    """Whether a first move and a reply are pairs with as many replies and choices as a claim."""
    if len(first) != 2 or len(replied) != 2:
        return False
    _, moves = first
    replies, answers = replied
    return (len(replies) == len(claim.statement.unknowns) and len(moves) == len(claim.choices)
            and len(answers) == len(claim.choices))


def _choice_fits(group, branches, moves, challenge, pairs):
    """Whether the challenges of a choice have the right sum and the replies fit to them."""
    if len(moves) != len(branches) or len(pairs) != len(branches):
        return False
    if not all([len(pair) == 2 for pair in pairs]):
        return False
    if sum([share for share, _ in pairs]) % group.q != challenge:
        return False
    return all([fits(group, branch, move, share, replied)
                for branch, move, (share, replied) in zip(branches, moves, pairs)])


def extract(group, claim, one, other):
    """The witness that fitting replies to two different challenges for one first move show."""
    challenge, (replies, answers) = one
    other_challenge, (other_replies, other_answers) = other
    values = extracted(group, (challenge, replies), (other_challenge, other_replies))
    picks = []
    for branches, pairs, other_pairs in zip(claim.choices, answers, other_answers):
        picks.append(_extracted_pick(group, branches, pairs, other_pairs))
    return values, tuple(picks)


def _extracted_pick(group, branches, pairs, other_pairs):
    """The first branch with different challenges, and its witness."""
    differing = [index for index in range(len(branches)) if pairs[index][0] != other_pairs[index][0]]
    # There is one, as the challenges of the branches have different sums.
    chosen = differing[0]
    return chosen, extract(group, branches[chosen], pairs[chosen], other_pairs[chosen])


def tape_of_view(group, claim, witness, challenge, replied):
    """The only tape with which a witness gives this fitting reply and its first move."""
    values, picks = witness
    replies, answers = replied
    parts = []
    for branches, pick, pairs in zip(claim.choices, picks, answers):
        parts.append(_choice_tape_of_view(group, branches, pick, pairs))
    # Replying for the negative challenge takes away what the reply added to the tape.
    return reply(group, values, replies, -challenge), tuple(parts)


def _choice_tape_of_view(group, branches, pick, pairs):
    """The shares and the tapes of all branches with which a pick gives these replies."""
    chosen, witness = pick
    shares = []
    tapes = []
    for index, (share, replied) in enumerate(pairs):
        if index == chosen:
            tapes.append(tape_of_view(group, branches[index], witness, share, replied))
        else:
            shares.append(share)
            tapes.append(_simulating_tape(replied))
    return tuple(shares), tuple(tapes)


def _simulating_tape(replied):
    """The tape with which simulating gives a reply."""
    replies, answers = replied
    parts = []
    for pairs in answers:
        shares = tuple([share for share, _ in pairs[:-1]])
        parts.append((shares, tuple([_simulating_tape(inner) for _, inner in pairs])))
    return tuple(replies), tuple(parts)
