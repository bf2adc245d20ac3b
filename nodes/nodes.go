// Package nodes finds nodes in branches and stacks; where there is none, it is a free one.
package nodes

import "craquelure/api"

// Of answers the node of an inode.
func Of(b api.Branch, ino int) api.Node {
	if ino < 1 || ino > len(b.Nodes) {
		return api.Node{}
	}
	return b.Nodes[ino-1]
}

// Lower answers the node of a place in a lower layer; there is none in the upper one.
func Lower(s api.Stack, p api.Place) api.Node {
	if p.Layer < 1 || p.Layer > len(s.Lowers) {
		return api.Node{}
	}
	return Of(s.Lowers[p.Layer-1], p.Ino)
}
