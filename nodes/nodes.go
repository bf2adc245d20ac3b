// Package nodes finds nodes, and what they have, in branches and stacks; where there is none, it is a free one.
package nodes

import "craquelure/api"

const upper = 0 // number of the upper layer

// Of answers the node of an inode.
func Of(b api.Branch, ino int) api.Node {
	if ino < 1 || ino > len(b.Nodes) {
		return api.Node{}
	}
	return b.Nodes[ino-1]
}

// At answers the node of a place.
func At(s api.Stack, p api.Place) api.Node {
	if p.Layer == upper {
		return Of(s.Upper, p.Ino)
	}
	return Lower(s, p)
}

// Lower answers the node of a place in a lower layer; there is none in the upper one.
func Lower(s api.Stack, p api.Place) api.Node {
	return Of(Beneath(s, p.Layer), p.Ino)
}

// Beneath answers a lower layer; one without nodes, if there is none of that number.
func Beneath(s api.Stack, layer int) api.Branch {
	if layer <= upper || layer > len(s.Lowers) {
		return api.Branch{}
	}
	return s.Lowers[layer-1]
}

// Entries answers the entries of a directory, and none of what is no Dir.
func Entries(b api.Branch, dir int) []api.Entry {
	n := Of(b, dir)
	if n.Kind != api.Dir {
		return nil
	}
	return n.Entries
}

// First answers the first entry of a directory that has that name, and whose node is not free, and that node.
func First(b api.Branch, dir int, name string) (api.Entry, api.Node) {
	for _, e := range Entries(b, dir) {
		if e.Name != name {
			continue
		}
		if n := Of(b, e.Ino); n.Kind != api.Free {
			return e, n
		}
	}
	return api.Entry{}, api.Node{}
}

// Has tells whether a node's attributes have what these bits say.
func Has(n api.Node, bits int) bool {
	return n.Attr.Has&bits == bits
}

// Marked tells whether a node has the mark of an opaque directory, whatever its kind.
func Marked(n api.Node) bool {
	return Has(n, api.HasOpaque) && n.Attr.Opaque == api.Mark
}
