// Package sift: stores with some of another's values.
package sift

import "cordon/api"

// Those tells the store of those values, of a store, that stay; which ones do is told variable by variable. It is new memory.
func Those(s api.Store, stays func(v, value int) bool) api.Store {
	out := make(api.Store, len(s))
	for v, values := range s {
		for _, value := range values {
			if stays(v, value) {
				out[v] = append(out[v], value)
			}
		}
	}
	return out
}
