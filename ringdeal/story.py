"""The story: deeds done one after the other, each with its answer."""

from ringdeal.dealing import deal_of, moves
from ringdeal.errors import KeeperThere, NameThere, NoKeeper, NoName, NoShare


class Story:
    def __init__(self, plan):
        self.plan = plan
        self.shares = {}
        self.names = []
        self.rows = []

    # Dealt anew behind each change: the deal hangs on who is there alone, not on what was before.
    def deal_anew(self):
        before = self.rows
        self.rows = deal_of(self.plan, self.shares, self.names)
        return moves(before, self.rows)

    def come(self, keeper, share):
        # In this order, so that a keeper that is there is told so whatever its share would be.
        if keeper in self.shares:
            raise KeeperThere("this keeper is there already")
        if share < 1:
            raise NoShare("a share is one or more")
        self.shares[keeper] = share
        return self.deal_anew()

    def leave(self, keeper):
        if keeper not in self.shares:
            raise NoKeeper("this keeper isn't there")
        self.shares.pop(keeper)
        return self.deal_anew()

    def put(self, name):
        if name in self.names:
            raise NameThere("this name is there already")
        self.names.append(name)
        return self.deal_anew()

    def drop(self, name):
        self.need_name(name)
        self.names.remove(name)
        return self.deal_anew()

    def where(self, name):
        self.need_name(name)
        return dict(self.rows)[name]

    def need_name(self, name):
        if name not in self.names:
            raise NoName("this name isn't there")


def do(story, deed):
    word = deed[0]
    if word == "come":
        return story.come(deed[1], deed[2])
    if word == "leave":
        return story.leave(deed[1])
    if word == "put":
        return story.put(deed[1])
    if word == "drop":
        return story.drop(deed[1])
    return story.where(deed[1])


def answer_of(story, deed):
    try:
        return do(story, deed)
    except KeeperThere:
        return "keeper there"
    except NoShare:
        return "no share"
    except NoKeeper:
        return "no keeper"
    except NameThere:
        return "name there"
    except NoName:
        return "no name"


def answers(plan, deeds):
    story = Story(plan)
    return [answer_of(story, deed) for deed in deeds]


def ring_after(plan, deeds):
    story = Story(plan)
    for deed in deeds:
        answer_of(story, deed)
    return (story.rows, sorted(story.shares.items()))
