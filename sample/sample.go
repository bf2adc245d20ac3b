// Package sample is what the tests of several layers hand in: numbers and kinds that may not be, entries, stacks and images.
package sample

import (
	"math"
	"slices"

	"craquelure/api"
)

const firstSlot = 2 // no place of a list, so that neither is taken for the other

// Far answers numbers that lie far off, and at the ends of what an int can hold.
func Far() []int {
	return []int{math.MinInt, math.MinInt + 1, -1 << 32, -65536, -256, -2, 255, 256, 65535, 65536, 1<<32 + 1, math.MaxInt - 1, math.MaxInt}
}

// Strange answers kinds that there are not.
func Strange() []int {
	return append(Far(), -1, api.White+1)
}

// Slotted answers the entries, each with a slot of its own.
func Slotted(entries []api.Entry) []api.Entry {
	l := slices.Clone(entries)
	for i := range l {
		l[i].Slot = i + firstSlot
	}
	return l
}

// InTree tells of each inode whether it is in the tree, and of 0 that it is not.
func InTree(b api.Branch) []bool {
	return Reached(b, api.Root)
}

// Reached tells of each inode whether it is reached from these, and of 0 that it is not: what is named by what was told to be, over and over; a second reading of the document's words, beside walk.Reach.
func Reached(b api.Branch, from ...int) []bool {
	in := make([]bool, len(b.Nodes)+1)
	for _, ino := range from {
		if ino <= len(b.Nodes) && b.Nodes[ino-1].Kind == api.Dir {
			in[ino] = true
		}
	}
	for range b.Nodes {
		for i, n := range b.Nodes {
			for _, e := range n.Entries {
				if in[i+1] && n.Kind == api.Dir && e.Ino >= 1 && e.Ino <= len(b.Nodes) {
					in[e.Ino] = true
				}
			}
		}
	}
	return in
}
