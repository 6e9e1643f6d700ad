package permit

import (
	"math"
	"math/rand"
	"slices"
	"strconv"
	"strings"
	"testing"

	"tollway/api"
)

func iv(from, to int) api.Interval { return api.Interval{From: from, To: to} }

func example() api.Permit {
	return api.Permit{Name: "p", Zone: "a", Plates: []string{"AB12", "CD34"}, Valid: iv(0, 172800), Hours: []api.Window{{Days: 1, From: 0, To: 720}}, Most: 1}
}

// P29.1
func TestCheck(t *testing.T) {
	zones := []api.Zone{{Name: "b"}, {Name: "a", DayMax: -1}, {Name: ""}}
	many := func(n int) []string {
		var l []string
		for i := range n {
			l = append(l, "A"+strconv.Itoa(i))
		}
		return l
	}
	for i, x := range []struct {
		change func(p *api.Permit)
		e      api.Errno
	}{
		{func(p *api.Permit) {}, api.OK}, {func(p *api.Permit) { p.Name, p.Zone = "P", "x" }, api.ErrName}, {func(p *api.Permit) { p.Zone, p.Plates = "x", many(1025) }, api.ErrZone}, {func(p *api.Permit) { p.Zone = "" }, api.OK}, {func(p *api.Permit) { p.Plates = many(1024) }, api.OK}, {func(p *api.Permit) { p.Plates = append(many(1024), "?") }, api.ErrLimit}, {func(p *api.Permit) { p.Plates = nil }, api.OK},
		{func(p *api.Permit) { p.Plates[0], p.Plates[1] = "ab12", "ab12" }, api.ErrPlate}, {func(p *api.Permit) { p.Plates[1] = "A" }, api.ErrPlate}, {func(p *api.Permit) { p.Plates[1], p.Valid.To = "AB12", 0 }, api.ErrExists}, {func(p *api.Permit) { p.Plates = []string{"AB", "AB", "?"} }, api.ErrExists}, {func(p *api.Permit) { p.Valid.To, p.Hours = 0, make([]api.Window, 33) }, api.ErrTime}, {func(p *api.Permit) { p.Valid.To = api.MaxTime + 1 }, api.ErrTime},
		{func(p *api.Permit) { p.Hours = make([]api.Window, 33) }, api.ErrLimit}, {func(p *api.Permit) { p.Hours = slices.Repeat(p.Hours, 32) }, api.OK}, {func(p *api.Permit) { p.Hours = nil }, api.OK}, {func(p *api.Permit) { p.Hours[0].To, p.Most = 1441, 0 }, api.ErrTime}, {func(p *api.Permit) { p.Most = 0 }, api.ErrArg}, {func(p *api.Permit) { p.Most = api.MaxNumber + 1 }, api.ErrArg}, {func(p *api.Permit) { p.Most = api.MaxNumber }, api.OK},
	} {
		p := example()
		x.change(&p)
		if e := Check(p, zones); e != x.e {
			t.Error(i, int(e))
		}
	}
}

// P29.2
func TestValid(t *testing.T) {
	p := example()
	for _, x := range []struct {
		plate string
		t     int
		want  bool
	}{{"ab-12", 43199, true}, {"ab-12", 43200, false}, {"AB13", 43199, false}, {"CD34", 0, true}, {"AB12", 86400, false}, {"AB12", -1, false}, {"", 5, false}, {"A", 5, false}, {"AB12", math.MaxInt, false}} {
		if Valid(p, x.plate, x.t) != x.want {
			t.Error(x)
		}
	}
	p.Hours = nil
	for at, want := range map[int]bool{0: true, 172799: true, 172800: false, -1: false, math.MinInt: false} {
		if Valid(p, "AB12", at) != want {
			t.Error(at)
		}
	}
	p.Valid = iv(-5, 100)
	if Valid(p, "AB12", 5) {
		t.Error("Valid is not valid")
	}
	p = example()
	p.Hours[0].From = -1
	if Valid(p, "AB12", 5) {
		t.Error("a window is not valid")
	}
	p = example()
	p.Plates = []string{"ab12", "?", "", "A"} // none of these is a normal form
	for _, s := range []string{"ab12", "AB12", "?", "", "A"} {
		if Valid(p, s, 5) {
			t.Error(s)
		}
	}
}

// P29.3, P29.4
func TestAllowed(t *testing.T) {
	p := example()
	always, odd := p, p
	always.Hours, odd.Hours = nil, []api.Window{{}}
	broken := p
	broken.Valid = iv(9, 9)
	for i, x := range []struct {
		p     api.Permit
		plate string
		i     api.Interval
		want  []api.Interval
		e     api.Errno
	}{
		{p, "AB12", iv(3600, 172800), []api.Interval{iv(3600, 43200)}, api.OK}, {p, "ab 12", iv(3600, 172800), []api.Interval{iv(3600, 43200)}, api.OK}, {p, "AB13", iv(3600, 172800), nil, api.OK}, {always, "AB12", iv(3600, 200000), []api.Interval{iv(3600, 172800)}, api.OK}, {odd, "AB12", iv(3600, 172800), nil, api.OK}, {broken, "AB12", iv(3600, 172800), nil, api.OK}, {p, "AB12", iv(50000, 172800), nil, api.OK},
		{p, "AB12", iv(5, 5), nil, api.ErrTime}, {p, "?", iv(-1, 5), nil, api.ErrTime}, {p, "?", iv(0, 366*86400+1), nil, api.ErrLimit}, {always, "AB12", iv(0, 366*86400), []api.Interval{iv(0, 172800)}, api.OK}, {always, "AB12", iv(0, 366*86400+1), nil, api.ErrLimit},
	} {
		if l, e := Allowed(x.p, x.plate, x.i); !slices.Equal(l, x.want) || e != x.e {
			t.Error(i, l, int(e))
		}
		if l, e := Covered([]api.Permit{x.p}, x.plate, "a", x.i); !slices.Equal(l, x.want) || e != x.e {
			t.Error("Covered", i, l, int(e))
		}
		if l, e := Covered([]api.Permit{x.p}, x.plate, "b", x.i); len(l) != 0 || e != x.e {
			t.Error("another zone", i, l, int(e))
		}
		if l, e := Covered(nil, x.plate, "a", x.i); len(l) != 0 || e != x.e {
			t.Error("no permits", i, l, int(e))
		}
	}
	other := example()
	other.Hours, other.Valid = nil, iv(40000, 60000)
	b := always
	b.Zone = "b"
	if l, e := Covered([]api.Permit{b, other, p}, "AB12", "a", iv(100, 100000)); !slices.Equal(l, []api.Interval{iv(100, 60000)}) || e != api.OK {
		t.Error(l, int(e))
	}
}

// P29.5
func TestExcess(t *testing.T) {
	stay := func(id string, from, to int) api.Stay {
		return api.Stay{ID: id, Zone: "a", Plate: "ab12", Time: iv(from, to)}
	}
	p := example()
	zone, plate, late := stay("zone", 10, 90), stay("plate", 10, 90), stay("late", 172800, 172900)
	zone.Zone, plate.Plate = "b", "XY99"
	for i, x := range []struct {
		most int
		l    []api.Stay
		want string
	}{
		{1, []api.Stay{stay("x", 0, 100), stay("y", 50, 150)}, "y"}, {1, []api.Stay{stay("x", 0, 100), stay("y", 50, 150), stay("z", 100, 200)}, "y"}, {1, []api.Stay{stay("z", 100, 200), stay("y", 50, 150), stay("x", 0, 100)}, "y"}, {2, []api.Stay{stay("x", 0, 100), stay("y", 50, 150)}, ""}, {2, []api.Stay{stay("x", 0, 100), stay("y", 50, 150), stay("z", 99, 200)}, "z"}, {1, []api.Stay{stay("b", 5, 9), stay("a", 5, 7), stay("c", 7, 9)}, "b"}, {1, []api.Stay{stay("a", 5, 9), stay("a", 5, 9)}, "a"},
		{1, []api.Stay{stay("x", 0, 100), zone, plate, stay("bad", 60, 60), late}, ""}, {0, []api.Stay{stay("x", 0, 100), stay("y", 300, 400)}, "x y"}, {math.MinInt, []api.Stay{stay("x", 0, 100)}, "x"}, {1, nil, ""}, {1, []api.Stay{stay("x", 50000, 60000), stay("y", 50001, 60000)}, "y"},
	} {
		p.Most = x.most
		if l := Excess(p, x.l); strings.Join(l, " ") != x.want {
			t.Error(i, l)
		}
	}
	p.Valid = iv(5, 5)
	if l := Excess(p, []api.Stay{stay("x", 5, 100), stay("y", 5, 100)}); len(l) != 0 {
		t.Error(l)
	}
}

// P29.6, P29.7
func TestConsequences(t *testing.T) {
	r := rand.New(rand.NewSource(1))
	for range 300 {
		var l []api.Permit
		for range r.Intn(4) {
			p := example()
			p.Zone = []string{"a", "b"}[r.Intn(2)]
			p.Valid = iv(r.Intn(200000), r.Intn(400000))
			from := r.Intn(1440)
			p.Hours = nil
			for range r.Intn(3) {
				p.Hours = append(p.Hours, api.Window{Days: r.Intn(128), From: from, To: from + r.Intn(1440-from)})
			}
			l = append(l, p)
		}
		i := iv(r.Intn(100000), 100000+r.Intn(300000))
		covered, _ := Covered(l, "AB12", "a", i)
		for range 50 {
			at := i.From + r.Intn(i.To-i.From)
			any := false
			for _, p := range l {
				allowed, _ := Allowed(p, "AB12", i)
				valid := Valid(p, "AB12", at)
				if valid != in(allowed, at) {
					t.Fatal(p, i, at, allowed)
				}
				any = any || valid && p.Zone == "a"
			}
			if any != in(covered, at) {
				t.Fatal(l, i, at, covered)
			}
		}
		p := example()
		p.Most = 1 + r.Intn(3)
		var stays []api.Stay
		for k := range r.Intn(12) {
			from := r.Intn(30)
			stays = append(stays, api.Stay{ID: strconv.Itoa(k), Zone: "a", Plate: p.Plates[r.Intn(2)], Time: iv(from, from+1+r.Intn(15))})
		}
		out := Excess(p, stays)
		for at := range 50 {
			n := 0
			for _, s := range stays {
				if !slices.Contains(out, s.ID) && s.Time.From <= at && at < s.Time.To {
					n++
				}
			}
			if n > p.Most {
				t.Fatal(p.Most, stays, out, at)
			}
		}
		for _, s := range stays { // and none is in excess without need
			n := 0
			for _, o := range stays {
				if !slices.Contains(out, o.ID) && o.Time.From <= s.Time.From && s.Time.From < o.Time.To {
					n++
				}
			}
			if slices.Contains(out, s.ID) && n < p.Most {
				t.Fatal("without need", p.Most, stays, out)
			}
		}
	}
}

func in(l []api.Interval, t int) bool {
	return slices.ContainsFunc(l, func(i api.Interval) bool { return i.From <= t && t < i.To })
}
