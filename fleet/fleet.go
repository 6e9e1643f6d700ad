// Package fleet tells which passages belong to which vehicle, which the layers passage and trip both need.
package fleet

import (
	"cmp"

	"tollway/api"
)

// Owners knows, for each plate, the only tag with which it occurs; the tag is empty if a plate occurs with several tags.
type Owners map[string]string

// Learn returns the owners of the plates in a list.
func Learn(l []api.Passage) Owners {
	o := Owners{}
	for _, p := range l {
		if p.Tag == "" || p.Plate == "" {
			continue
		}
		if known, ok := o[p.Plate]; ok && known != p.Tag {
			o[p.Plate] = ""
		} else {
			o[p.Plate] = p.Tag
		}
	}
	return o
}

// Of returns the vehicle to which a passage belongs, or the empty string if there is none.
func (o Owners) Of(p api.Passage) string { return cmp.Or(p.Tag, o[p.Plate], p.Plate) }

// Divide returns the passages of each vehicle, in their order.
func Divide(l []api.Passage) map[string][]api.Passage {
	o := Learn(l)
	r := map[string][]api.Passage{}
	for _, p := range l {
		if v := o.Of(p); v != "" {
			r[v] = append(r[v], p)
		}
	}
	return r
}
