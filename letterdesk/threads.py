"""Threads: letters that hang together by answers."""


def thread(links, dates, number):
    """The list of the letters of the thread in which this letter is, each followed by what answers it."""
    answers = answers_to_each(links, dates)
    told = []
    # A list of what is still to tell, and no recursion: a thread may be as deep as it has letters.
    ahead = [top_of(links, number)]
    while len(ahead) > 0:
        letter = ahead.pop()
        told.append(letter)
        ahead.extend(answers[letter])
    return told


def top_of(links, number):
    """The letter of this one's thread that answers none."""
    top = number
    while links[top] is not None:
        top = links[top]
    return top


def answers_to_each(links, dates):
    """For each letter the list of those that answer it, the last one first, as they are taken from the end."""
    answers = [[] for link in links]
    for letter in sorted(range(len(links)), key=lambda n: (dates[n], n), reverse=True):
        if links[letter] is not None:
            answers[links[letter]].append(letter)
    return answers
