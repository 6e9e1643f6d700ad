package scenario

import (
	"strings"

	"tollway/api"
	"tollway/text"
)

// What a line refers to.
const (
	nothing = iota
	device
	tariff
	scale
	zone
	permit
	account
)

// form is the form of the lines that begin with a word. Its fields are: s a string, - a string that may be absent, n a number, or words, which are counted from 1.
type form struct {
	fields string
	refers int
	add    func(d *draft, v []value)
}

// value is a field: a string, or a number.
type value struct {
	text string
	n    int
}

// forms returns the forms of all configuration lines.
func forms() map[string]form {
	return map[string]form{
		"point":    {"s open|entry|exit|check -", nothing, (*draft).point},
		"link":     {"s s n n", nothing, (*draft).link},
		"system":   {"s open|closed n", nothing, (*draft).system},
		"device":   {"s s tag|camera|loop n", nothing, (*draft).device},
		"offset":   {"n n", device, (*draft).offset},
		"down":     {"n n", device, (*draft).down},
		"class":    {"n n n", nothing, (*draft).class},
		"state":    {"s n n", nothing, (*draft).state},
		"gap":      {"n", nothing, (*draft).gap},
		"weak":     {"n", nothing, (*draft).weak},
		"agency":   {"s", nothing, (*draft).agency},
		"tariff":   {"n n", nothing, (*draft).tariff},
		"band":     {"s n n n", tariff, (*draft).band},
		"rate":     {"s - n - n", tariff, (*draft).rate},
		"scale":    {"n n", nothing, (*draft).scale},
		"level":    {"n n n", scale, (*draft).level},
		"discount": {"s part|fixed|free n - - n n n n n", nothing, (*draft).discount},
		"cap":      {"s - n n", nothing, (*draft).cap},
		"zone":     {"s n n n n", nothing, (*draft).zone},
		"hours":    {"n n n", zone, (*draft).hours},
		"step":     {"n n n", zone, (*draft).step},
		"permit":   {"s s n n n", nothing, (*draft).permit},
		"plate":    {"s", permit, (*draft).plate},
		"allow":    {"n n n", permit, (*draft).allow},
		"account":  {"s prepay|postpay|exempt", nothing, (*draft).account},
		"owns":     {"- - n n", account, (*draft).owns},
		"refill":   {"n n n n", account, (*draft).refill},
		"relief":   {"any|tag|camera|loop n", nothing, (*draft).relief},
		"holiday":  {"n", nothing, (*draft).holiday},
		"law":      {"n", nothing, (*draft).law},
		"stage":    {"n n", nothing, (*draft).stage},
		"keep":     {"n n n", nothing, (*draft).keep},
	}
}

// read returns the value of a field of a kind.
func read(kind, s string) (value, api.Errno) {
	switch kind {
	case "s":
		return value{text: s}, api.OK
	case "-":
		if s == "-" {
			s = ""
		}
		return value{text: s}, api.OK
	case "n":
		n, e := text.Number(s)
		return value{n: n}, e
	}
	for i, w := range strings.Split(kind, "|") {
		if w == s {
			return value{n: i + 1}, api.OK
		}
	}
	return value{}, api.ErrForm
}

// draft is a configuration to which lines add.
type draft struct {
	c      api.Config
	scaled bool // there was a scale line
}

// has reports whether there is what a line refers to.
func (d *draft) has(what int) bool {
	switch what {
	case device:
		return len(d.c.Devices) > 0
	case tariff:
		return len(d.c.Tariffs) > 0
	case scale:
		return d.scaled
	case zone:
		return len(d.c.Zones) > 0
	case permit:
		return len(d.c.Permits) > 0
	case account:
		return len(d.c.Accounts) > 0
	}
	return true
}

// take adds a line of a form.
func (d *draft) take(line string, f form) api.Errno {
	fields, e := text.Fields(line)
	if e != api.OK {
		return e
	}
	kinds := strings.Split(f.fields, " ")
	if len(fields) != len(kinds)+1 {
		return api.ErrForm
	}
	var values []value
	for i, kind := range kinds {
		v, e := read(kind, fields[i+1])
		if e != api.OK {
			return e
		}
		values = append(values, v)
	}
	if !d.has(f.refers) {
		return api.ErrState
	}
	f.add(d, values)
	return api.OK
}

// last returns the last element of a list.
func last[T any](l []T) *T { return &l[len(l)-1] }

func window(v []value) api.Window { return api.Window{Days: v[0].n, From: v[1].n, To: v[2].n} }

func interval(v []value) api.Interval { return api.Interval{From: v[0].n, To: v[1].n} }

func (d *draft) point(v []value) {
	n := &d.c.Top.Net
	n.Points = append(n.Points, api.Point{Name: v[0].text, Kind: v[1].n, System: v[2].text})
}

func (d *draft) link(v []value) {
	n := &d.c.Top.Net
	n.Links = append(n.Links, api.Link{From: v[0].text, To: v[1].text, Min: v[2].n, Max: v[3].n})
}

func (d *draft) system(v []value) {
	t := &d.c.Top
	t.Systems = append(t.Systems, api.System{Name: v[0].text, Closed: v[1].n == 2, Most: v[2].n})
}

func (d *draft) device(v []value) {
	d.c.Devices = append(d.c.Devices, api.Device{Name: v[0].text, Point: v[1].text, Kind: v[2].n, Lane: v[3].n})
}

func (d *draft) offset(v []value) {
	x := last(d.c.Devices)
	x.Offsets = append(x.Offsets, api.Offset{From: v[0].n, Delta: v[1].n})
}

func (d *draft) down(v []value) {
	x := last(d.c.Devices)
	x.Down = append(x.Down, interval(v))
}

func (d *draft) class(v []value) {
	d.c.Classes = append(d.c.Classes, api.ClassRule{From: v[0].n, To: v[1].n, Class: v[2].n})
}

func (d *draft) state(v []value) {
	d.c.Tags = append(d.c.Tags, api.TagState{Tag: v[0].text, From: v[1].n, State: v[2].n})
}

func (d *draft) gap(v []value) { d.c.Gap = v[0].n }

func (d *draft) weak(v []value) { d.c.Weak = v[0].n }

func (d *draft) agency(v []value) { d.c.Agency = v[0].text }

func (d *draft) tariff(v []value) {
	d.c.Tariffs = append(d.c.Tariffs, api.Tariff{Valid: interval(v)})
}

func (d *draft) band(v []value) {
	x := last(d.c.Tariffs)
	x.Bands = append(x.Bands, api.Band{Name: v[0].text, Window: window(v[1:])})
}

func (d *draft) rate(v []value) {
	x := last(d.c.Tariffs)
	x.Rates = append(x.Rates, api.Rate{From: v[0].text, To: v[1].text, Class: v[2].n, Band: v[3].text, Cents: v[4].n})
}

func (d *draft) scale(v []value) {
	d.c.Scale = api.Scale{Period: v[0].n, Parts: []int{v[1].n}}
	d.scaled = true
}

func (d *draft) level(v []value) {
	s := &d.c.Scale
	s.Up, s.Down, s.Parts = append(s.Up, v[0].n), append(s.Down, v[1].n), append(s.Parts, v[2].n)
}

func (d *draft) discount(v []value) {
	d.c.Discounts = append(d.c.Discounts, api.Discount{Name: v[0].text, Kind: v[1].n, Amount: v[2].n, Group: v[3].text, System: v[4].text, Class: v[5].n, Window: window(v[6:]), Least: v[9].n})
}

func (d *draft) cap(v []value) {
	d.c.Caps = append(d.c.Caps, api.Cap{Name: v[0].text, System: v[1].text, Days: v[2].n, Cents: v[3].n})
}

func (d *draft) zone(v []value) {
	d.c.Zones = append(d.c.Zones, api.Zone{Name: v[0].text, Grace: v[1].n, Free: v[2].n, DayMax: v[3].n, MaxStay: v[4].n})
}

func (d *draft) hours(v []value) {
	z := last(d.c.Zones)
	z.Hours = append(z.Hours, window(v))
}

func (d *draft) step(v []value) {
	z := last(d.c.Zones)
	z.Steps = append(z.Steps, api.Step{Upto: v[0].n, Unit: v[1].n, Cents: v[2].n})
}

func (d *draft) permit(v []value) {
	d.c.Permits = append(d.c.Permits, api.Permit{Name: v[0].text, Zone: v[1].text, Valid: interval(v[2:]), Most: v[4].n})
}

func (d *draft) plate(v []value) {
	p := last(d.c.Permits)
	p.Plates = append(p.Plates, v[0].text)
}

func (d *draft) allow(v []value) {
	p := last(d.c.Permits)
	p.Hours = append(p.Hours, window(v))
}

// account adds an account of the agency as it is now; its kinds are prepay, postpay and exempt.
func (d *draft) account(v []value) {
	d.c.Accounts = append(d.c.Accounts, api.Account{Name: v[0].text, Agency: d.c.Agency, Prepay: v[1].n == 1, Exempt: v[1].n == 3})
}

func (d *draft) owns(v []value) {
	a := last(d.c.Accounts)
	a.Owned = append(a.Owned, api.Owned{Tag: v[0].text, Plate: v[1].text, Time: interval(v[2:])})
}

func (d *draft) refill(v []value) {
	last(d.c.Accounts).Refill = api.Refill{Below: v[0].n, Cents: v[1].n, Tries: v[2].n, Wait: v[3].n}
}

// relief adds a compensating rule; its first kind stands for all kinds of devices, which is 0.
func (d *draft) relief(v []value) {
	d.c.Reliefs = append(d.c.Reliefs, api.Relief{Kind: v[0].n - 1, Part: v[1].n})
}

func (d *draft) holiday(v []value) { d.c.Holidays = append(d.c.Holidays, v[0].n) }

func (d *draft) law(v []value) { d.c.Law.Limit = v[0].n }

func (d *draft) stage(v []value) {
	w := &d.c.Law
	w.Days, w.Fees = append(w.Days, v[0].n), append(w.Fees, v[1].n)
}

func (d *draft) keep(v []value) {
	d.c.Keeping = append(d.c.Keeping, api.Keeping{Purpose: v[0].n, Seconds: v[1].n, Least: v[2].n})
}
