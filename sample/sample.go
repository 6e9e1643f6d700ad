// Package sample has a small configuration and events for the tests of several layers.
package sample

import (
	"tollway/api"
	"tollway/tag"
)

const day = 86400

// Tag returns the transponder number of a serial number.
func Tag(serial int) string {
	s, _ := tag.Make("001", serial)
	return s
}

func until(to int) api.Interval { return api.Interval{From: 0, To: to} }

// topology has an open point, and a closed system with a check point.
func topology() api.Topology {
	return api.Topology{
		Net: api.Network{
			Points: []api.Point{
				{Name: "open", Kind: api.POpen, System: "ring"},
				{Name: "in", Kind: api.PEntry, System: "tube"},
				{Name: "mid", Kind: api.PCheck},
				{Name: "out", Kind: api.PExit, System: "tube"},
			},
			Links: []api.Link{{From: "open", To: "in", Min: 60, Max: 900}, {From: "in", To: "mid", Min: 60, Max: 900}, {From: "mid", To: "out", Min: 60, Max: 900}},
		},
		Systems: []api.System{{Name: "ring"}, {Name: "tube", Closed: true, Most: 3600}},
	}
}

// devices returns a transponder reader, a camera and a loop for each point; the camera at the exit fails for a while.
func devices() []api.Device {
	var l []api.Device
	for _, p := range topology().Net.Points {
		for kind, name := range []string{"t", "c", "l"} {
			d := api.Device{Name: name + p.Name, Point: p.Name, Kind: kind + 1, Lane: 1}
			if d.Name == "cout" {
				d.Down = []api.Interval{{From: 5 * day, To: 6 * day}}
			}
			if d.Name == "copen" {
				d.Offsets = []api.Offset{{From: 100, Delta: 3}, {From: 2 * day, Delta: -5}}
			}
			l = append(l, d)
		}
	}
	return l
}

func tariffs() []api.Tariff {
	peak := api.Window{Days: 31, From: 420, To: 540}
	rates := []api.Rate{
		{From: "open", Class: 1, Cents: 400},
		{From: "open", Class: 1, Band: "peak", Cents: 600},
		{From: "open", Class: 2, Band: "peak", Cents: 900},
		{From: "in", To: "out", Class: 1, Cents: 1000},
	}
	return []api.Tariff{{Valid: until(20 * day), Bands: []api.Band{{Name: "peak", Window: peak}}, Rates: rates}}
}

func accounts() []api.Account {
	plate := func(s string) api.Owned { return api.Owned{Plate: s, Time: until(100 * day)} }
	return []api.Account{
		{Name: "ann", Agency: "north", Prepay: true, Owned: []api.Owned{{Tag: Tag(1), Time: until(100 * day)}, plate("AB12")}},
		{Name: "bob", Agency: "north", Owned: []api.Owned{{Tag: Tag(2), Time: until(3 * day)}, plate("CD34")}},
		{Name: "fire", Agency: "north", Exempt: true, Owned: []api.Owned{plate("FD112")}},
	}
}

// Config returns the configuration.
func Config() api.Config {
	return api.Config{
		Top:       topology(),
		Devices:   devices(),
		Classes:   []api.ClassRule{{From: 2, To: 2, Class: 1}, {From: 3, To: 5, Class: 2}},
		Tags:      []api.TagState{{Tag: Tag(3), From: day, State: 2}},
		Gap:       10,
		Weak:      500,
		Tariffs:   tariffs(),
		Scale:     api.Scale{Period: 600, Up: []int{2}, Down: []int{1}, Parts: []int{1000, 1500}},
		Discounts: []api.Discount{{Name: "often", Kind: api.KPart, Amount: 100, Least: 2}},
		Caps:      []api.Cap{{Name: "daily", Days: 1, Cents: 2000}},
		Zones:     []api.Zone{{Name: "zone", Hours: []api.Window{{Days: 31, From: 480, To: 1080}}, Steps: []api.Step{{Unit: 600, Cents: 50}}, Grace: 300, Free: 600, MaxStay: 4 * 3600}},
		Permits:   []api.Permit{{Name: "card", Zone: "zone", Plates: []string{"CD34"}, Valid: until(2 * day), Most: 1}},
		Accounts:  accounts(),
		Reliefs:   []api.Relief{{Kind: api.DCamera, Part: 1000}},
		Holidays:  []int{4},
		Law:       api.Law{Days: []int{5, 10, 10, 20}, Fees: []int{100, 200, 300, 1000}, Limit: 300},
		Keeping:   []api.Keeping{{Purpose: 1, Seconds: day, Least: 0}},
		Agency:    "north",
	}
}

// Detect returns the event of a detection, whose reading fits the first letter of the device.
func Detect(device string, seq, time int, reading string, axles int) api.Event {
	d := api.Detection{Device: device, Seq: seq, Time: time, Axles: axles, Score: 950}
	if device[0] == 't' {
		d.Tag = reading
	} else {
		d.Plate = reading
	}
	return api.Event{Kind: api.IDetect, Detect: d}
}

// Park returns the event of a parking event in the zone.
func Park(kind int, plate string, time, until int) api.Event {
	return api.Event{Kind: api.IPark, Park: api.Parked{Kind: kind, Zone: "zone", Plate: plate, Time: time, Until: until}}
}

// Input returns an event of the kind IDetect or IPark that depends on what pick returns, from 0 up to its argument.
func Input(pick func(n int) int) api.Event {
	plates := []string{"AB12", "A812", "CD34", "FD112", "XY99", "bad"}
	time := 120*pick(90) + pick(7)*day
	if pick(3) == 0 {
		kind := 1 + pick(6)
		paid := 0
		if kind == api.EvStart || kind == api.EvExtend {
			paid = time + 600*pick(20)
		}
		return Park(kind, plates[pick(len(plates))], time+28800, paid)
	}
	point := []string{"open", "in", "mid", "out"}[pick(4)]
	switch pick(5) {
	case 0, 1:
		return Detect("t"+point, pick(50), time+pick(9), Tag(1+pick(3)), 0)
	case 2, 3:
		return Detect("c"+point, pick(50), time+pick(9), plates[pick(len(plates))], 0)
	}
	return Detect("l"+point, pick(50), time+pick(9), "", 1+pick(4))
}

// Event returns an event of any kind that depends on what pick returns.
func Event(pick func(n int) int) api.Event {
	switch pick(12) {
	case 0:
		return api.Event{Kind: api.IClose, Day: pick(12)}
	case 1:
		return api.Event{Kind: api.IPay, Name: []string{"ann", "bob", "eve"}[pick(3)], Cents: pick(900)}
	case 2:
		return api.Event{Kind: api.ILate, Day: pick(90)}
	}
	return Input(pick)
}
