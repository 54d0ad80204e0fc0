"""Genes in their hosts: doubled clades, and losses."""

from cladebook.clades import depth_of, least_node, parts_of
from cladebook.kinds import singles_of


def host_nodes(genes, hosts, homes):
    """Of each node of the genes' tree its node of the hosts'; homes are of the genes' kinds, rising."""
    nodes = {}
    singles = singles_of(genes.kinds)
    for k in range(len(singles)):
        nodes[singles[k]] = 1 << homes[k]
    # Rising, so that the parts of a clade come ahead of it. What has their nodes has all homes within them.
    for clade in reversed(genes.clades):
        parts = parts_of(genes, clade)
        nodes[clade] = least_node(hosts, nodes[parts[0]] | nodes[parts[1]])
    return nodes


def settle_clades(genes, hosts, homes):
    """Of each clade of the genes' tree, in order: its node, 1 if it is doubled, else 0, its losses."""
    nodes = host_nodes(genes, hosts, homes)
    return [settle_clade(genes, hosts, nodes, clade) for clade in genes.clades]


def settle_clade(genes, hosts, nodes, clade):
    """Its node, whether it is doubled, and its losses, of one clade of the genes' tree."""
    node = nodes[clade]
    inner = [nodes[part] for part in parts_of(genes, clade)]
    doubled = 1 if node in inner else 0
    losses = 0
    for one in inner:
        losses += depth_of(hosts, one) - depth_of(hosts, node) - 1 + doubled
    return [node, doubled, losses]
