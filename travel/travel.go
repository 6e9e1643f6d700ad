// Package travel says how soon a vehicle can be at another point, which the layers topology and chain both need.
package travel

import (
	"tollway/api"
	"tollway/graph"
)

const (
	again   = 60  // seconds between two passages of one point
	unknown = 300 // seconds between points that no path connects
)

// Least returns the least number of seconds from one point to another one.
func Least(n api.Network, from, to string) int {
	if from == to {
		return again
	}
	if _, least, ok := graph.Shortest(n, from, to); ok {
		return least
	}
	return unknown
}
