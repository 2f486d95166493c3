"""Forests that several tests use."""

import random

from rootward.forests import Forest
from rootward.zones import Zone

NET, ORG, SHOP, NN, NO = ("net",), ("org",), ("shop", "net"), ("ns", "net"), ("ns", "org")
WWW = ("www", "shop", "net")


def zone_of(apex, host, more):
    """A zone with a start, a server, and some records."""
    return Zone(apex, [(apex, "start", 9, (host, 1, 2, 3, 4, 5)), (apex, "server", 9, host)] + more)


def shop_zones():
    """The zones of the document's example."""
    parts = [((), ("ns",), [(("ns",), "addr", 9, 1), (NET, "server", 9, NN), (NN, "addr", 9, 2), (ORG, "server", 9, NN)]),
             (NET, NN, [(NN, "addr", 9, 2), (SHOP, "server", 9, NO)]), (ORG, NN, [(NO, "addr", 9, 3)]), (SHOP, NO, [(WWW, "addr", 9, 9)])]
    return [zone_of(*part) for part in parts]


def shop_forest():
    return Forest(shop_zones(), {1: [()], 2: [NET, ORG], 3: [SHOP]}, [1])


def with_more(zone, records):
    """A zone with those of some records that it can have."""
    for record in records:
        try:
            zone = zone.with_records([record])
        except ValueError:
            pass
    return zone


APEXES = [(), ("a",), ("b",), ("c", "a"), ("d", "a"), ("e", "b"), ("f", "c", "a"), ("g",)]


def random_forest(seed, machines=5, zones=6):
    """A forest whose zones, servers and machines a number decides."""
    chance = random.Random(seed)
    apexes = [()] + [apex for apex in APEXES[1:] if chance.random() < 0.7][:zones - 1]
    hosts = [(label,) + apex for apex in apexes for label in ["n", "m"]]
    wanted = {apex: chance.sample(hosts, chance.randrange(1, 3)) for apex in apexes}
    for apex in apexes:
        if chance.random() < 0.6:
            wanted[apex] = [("n",) + apex] + wanted[apex][:chance.randrange(2)]
    found = []
    for apex in apexes:
        more = []
        for other in apexes[1:]:
            if parent_in(apexes, other) == apex and chance.random() < 0.95:
                more.extend([(other, "server", 7, host) for host in wanted[other]])
                more.extend([(host, "addr", 6, address_of(chance, hosts, host)) for host in wanted[other] if chance.random() < 0.8])
        for host in hosts:
            if parent_in(apexes, host) == apex or chance.random() < 0.05:
                kind = chance.choice(["addr"] * 9 + ["alias", "tree"])
                data = address_of(chance, hosts, host) if kind == "addr" else chance.choice(hosts)
                more.append((host, kind, chance.randrange(3, 9), data))
                if chance.random() < 0.1:
                    more.append((host, kind, chance.randrange(3, 9), chance.randrange(machines + 1)))
        more.extend([(("w",) + apex, "alias", 8, ("w",) + chance.choice(apexes)), (("t",) + apex, "tree", 5, chance.choice(apexes)),
                     (("x",) + apex, "addr", 8, 5), (("q",) + apex, "server", 8, ("n",))][:chance.choice([0, 0, 1, 2, 3, 4])])
        found.append(with_more(zone_of(apex, wanted[apex][0], [(apex, "server", 9, host) for host in wanted[apex][1:]]), more))
    served = {machine: [apex for apex in apexes if chance.random() < 0.2] for machine in range(1, machines + 1)}
    for apex in apexes:
        for host in wanted[apex]:
            machine = address_of(chance, hosts, host)
            if machine in served and chance.random() < 0.9:
                served[machine] = [other for other in served[machine] if other != apex] + [apex]
    served[1] = [apex for apex in served[1] if apex != ()] + [()]
    return Forest(found, served, sorted({1, chance.randrange(machines) + 1}))


def address_of(chance, hosts, host):
    """An address of a host, mostly the same one."""
    return hosts.index(host) % 5 + 1 if chance.random() < 0.97 else chance.randrange(7)


def parent_in(apexes, name):
    """The longest of some apexes above a name."""
    return max([apex for apex in apexes if len(apex) < len(name) and name[len(name) - len(apex):] == apex], key=len)
