// Package fresh copies values of api that contain lists, so that results share no memory with arguments.
package fresh

import (
	"slices"

	"tollway/api"
)

// list copies a list whose elements are copied by a function.
func list[T any](l []T, copied func(T) T) []T {
	r := slices.Clone(l)
	for i := range r {
		r[i] = copied(r[i])
	}
	return r
}

// Passage copies a passage.
func Passage(p api.Passage) api.Passage {
	p.Sources = slices.Clone(p.Sources)
	return p
}

// Passages copies passages.
func Passages(l []api.Passage) []api.Passage { return list(l, Passage) }

// Charge copies a charge.
func Charge(x api.Charge) api.Charge {
	x.Lines = slices.Clone(x.Lines)
	return x
}

// Charges copies charges.
func Charges(l []api.Charge) []api.Charge { return list(l, Charge) }

// Entry copies an entry of a ledger.
func Entry(e api.Entry) api.Entry {
	e.Posts = slices.Clone(e.Posts)
	return e
}

// Image copies an image.
func Image(im api.Image) api.Image {
	im.Hold = slices.Clone(im.Hold)
	return im
}

// Images copies images.
func Images(l []api.Image) []api.Image { return list(l, Image) }

// File copies a file of an agency.
func File(f api.File) api.File {
	f.Records = slices.Clone(f.Records)
	return f
}

// Files copies files of an agency.
func Files(l []api.File) []api.File { return list(l, File) }

// Partner copies the state of an exchange.
func Partner(p api.Partner) api.Partner {
	p.Waiting = Files(p.Waiting)
	p.Ours = slices.Clone(p.Ours)
	p.Theirs = slices.Clone(p.Theirs)
	return p
}

// Trip copies a trip.
func Trip(x api.Trip) api.Trip {
	x.Stops = slices.Clone(x.Stops)
	return x
}

// Zone copies a zone.
func Zone(z api.Zone) api.Zone {
	z.Hours = slices.Clone(z.Hours)
	z.Steps = slices.Clone(z.Steps)
	return z
}

// Device copies a device.
func Device(d api.Device) api.Device {
	d.Offsets = slices.Clone(d.Offsets)
	d.Down = slices.Clone(d.Down)
	return d
}

// Tariff copies a tariff.
func Tariff(x api.Tariff) api.Tariff {
	x.Bands = slices.Clone(x.Bands)
	x.Rates = slices.Clone(x.Rates)
	return x
}

// Permit copies a permit.
func Permit(p api.Permit) api.Permit {
	p.Plates = slices.Clone(p.Plates)
	p.Hours = slices.Clone(p.Hours)
	return p
}

// Account copies an account.
func Account(a api.Account) api.Account {
	a.Owned = slices.Clone(a.Owned)
	return a
}

// Config copies a configuration.
func Config(c api.Config) api.Config {
	c.Top.Net.Points = slices.Clone(c.Top.Net.Points)
	c.Top.Net.Links = slices.Clone(c.Top.Net.Links)
	c.Top.Systems = slices.Clone(c.Top.Systems)
	c.Devices = list(c.Devices, Device)
	c.Classes = slices.Clone(c.Classes)
	c.Tags = slices.Clone(c.Tags)
	c.Tariffs = list(c.Tariffs, Tariff)
	c.Scale.Up = slices.Clone(c.Scale.Up)
	c.Scale.Down = slices.Clone(c.Scale.Down)
	c.Scale.Parts = slices.Clone(c.Scale.Parts)
	c.Discounts = slices.Clone(c.Discounts)
	c.Caps = slices.Clone(c.Caps)
	c.Zones = list(c.Zones, Zone)
	c.Permits = list(c.Permits, Permit)
	c.Accounts = list(c.Accounts, Account)
	c.Reliefs = slices.Clone(c.Reliefs)
	c.Holidays = slices.Clone(c.Holidays)
	c.Law.Days = slices.Clone(c.Law.Days)
	c.Law.Fees = slices.Clone(c.Law.Fees)
	c.Keeping = slices.Clone(c.Keeping)
	return c
}

// Result copies a result.
func Result(r api.Result) api.Result {
	return api.Result{
		Passages:   Passages(r.Passages),
		Rejects:    slices.Clone(r.Rejects),
		Trips:      list(r.Trips, Trip),
		Stays:      slices.Clone(r.Stays),
		Charges:    Charges(r.Charges),
		Exclusions: slices.Clone(r.Exclusions),
	}
}

// State copies a state.
func State(s api.State) api.State {
	s.Config = Config(s.Config)
	s.Seen = slices.Clone(s.Seen)
	s.Rejects = slices.Clone(s.Rejects)
	s.Parked = slices.Clone(s.Parked)
	s.Result = Result(s.Result)
	s.Books = Books(s.Books)
	s.Cases = slices.Clone(s.Cases)
	return s
}

// Books copies books.
func Books(b api.Books) api.Books {
	return api.Books{Ledger: api.Ledger{Entries: list(b.Ledger.Entries, Entry)}, Done: Charges(b.Done)}
}
