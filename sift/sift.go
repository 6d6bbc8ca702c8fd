// Package sift: stores with some of another's values. It looks for nothing that may be wrong: whoever asks has checked what
// it asks of.
package sift

import (
	"slices"

	"cordon/api"
)

// Those tells the store of those values, of a store, that stay; which ones do is told variable by variable. It is new memory.
func Those(s api.Store, stays func(v, value int) bool) api.Store {
	out := make(api.Store, len(s))
	for v, values := range s {
		for _, value := range values {
			if stays(v, value) {
				out[v] = append(out[v], value)
			}
		}
	}
	return out
}

// All tells the same store, in new memory.
func All(s api.Store) api.Store {
	return Those(s, func(v, value int) bool { return true })
}

// None tells the store with no values of as many variables.
func None(s api.Store) api.Store { return make(api.Store, len(s)) }

// Failed: has a variable no values?
func Failed(s api.Store) bool {
	return slices.ContainsFunc(s, func(values []int) bool { return len(values) == 0 })
}
