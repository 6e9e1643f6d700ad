// Package fresh copies values of api that contain lists, so that results share no memory with arguments.
package fresh

import (
	"slices"

	"tollway/api"
)

// list copies a list whose elements are copied by a function.
func list[T any](l []T, copied func(T) T) []T {
	r := slices.Clone(l)
	for i := range r {
		r[i] = copied(r[i])
	}
	return r
}

// Passage copies a passage.
func Passage(p api.Passage) api.Passage {
	p.Sources = slices.Clone(p.Sources)
	return p
}

// Passages copies passages.
func Passages(l []api.Passage) []api.Passage { return list(l, Passage) }

// Charge copies a charge.
func Charge(x api.Charge) api.Charge {
	x.Lines = slices.Clone(x.Lines)
	return x
}

// Charges copies charges.
func Charges(l []api.Charge) []api.Charge { return list(l, Charge) }

// Entry copies an entry of a ledger.
func Entry(e api.Entry) api.Entry {
	e.Posts = slices.Clone(e.Posts)
	return e
}

// Image copies an image.
func Image(im api.Image) api.Image {
	im.Hold = slices.Clone(im.Hold)
	return im
}

// Images copies images.
func Images(l []api.Image) []api.Image { return list(l, Image) }

// File copies a file of an agency.
func File(f api.File) api.File {
	f.Records = slices.Clone(f.Records)
	return f
}

// Files copies files of an agency.
func Files(l []api.File) []api.File { return list(l, File) }

// Partner copies the state of an exchange.
func Partner(p api.Partner) api.Partner {
	p.Waiting = Files(p.Waiting)
	p.Ours = slices.Clone(p.Ours)
	p.Theirs = slices.Clone(p.Theirs)
	return p
}

// Books copies books.
func Books(b api.Books) api.Books {
	return api.Books{Ledger: api.Ledger{Entries: list(b.Ledger.Entries, Entry)}, Done: Charges(b.Done)}
}
