// Package gate is what gates of circuits take and whether they are secret, for all layers that make or ask them: see doc/15-circ.md.
package gate

import "bauta/api"

// Takes is how many gates one of that kind takes: of one it is A, of two A and B.
func Takes(kind int) int {
	switch kind {
	case api.GNot, api.GShl, api.GShr, api.GRot:
		return 1
	case api.GAnd, api.GXor, api.GOr, api.GAdd, api.GSub:
		return 2
	}
	return 0
}

// Secret tells whether the word of g, which takes gates of l, is secret.
func Secret(l []api.Gate, g api.Gate) bool {
	switch Takes(g.K) {
	case 1:
		return l[g.A].Secret
	case 2:
		return l[g.A].Secret || l[g.B].Secret
	}
	return g.K == api.GSec
}
