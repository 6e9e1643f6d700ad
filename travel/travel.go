// Package travel says how soon a vehicle can be at another point, and on which paths it can have driven there; several layers need it for many pairs of passages at the same points.
package travel

import (
	"tollway/api"
	"tollway/graph"
)

const (
	again   = 60  // seconds between two passages of one point
	unknown = 300 // seconds between points that no path connects
)

// Least returns the least number of seconds from one point to another one.
func Least(n api.Network, from, to string) int {
	if from == to {
		return again
	}
	if _, least, ok := graph.Shortest(n, from, to); ok {
		return least
	}
	return unknown
}

// Path is a path with its least and its greatest duration.
type Path struct {
	Points          []string
	Least, Greatest int
}

// Paths returns the paths between two points that graph.Paths returns.
func Paths(n api.Network, from, to string) ([]Path, api.Errno) {
	all, e := graph.Paths(n, from, to)
	if e != api.OK {
		return nil, e
	}
	var l []Path
	for _, points := range all {
		least, greatest, _ := graph.Bounds(n, points)
		l = append(l, Path{points, least, greatest})
	}
	return l, api.OK
}

// Fitting returns the points of the paths that can take that many seconds.
func Fitting(l []Path, seconds int) [][]string {
	var r [][]string
	for _, p := range l {
		if p.Least <= seconds && seconds <= p.Greatest {
			r = append(r, p.Points)
		}
	}
	return r
}
