package bill

import (
	"math"
	"math/rand"
	"reflect"
	"slices"
	"strconv"
	"testing"

	"tollway/api"
	"tollway/cap"
	"tollway/fresh"
)

func charge(vehicle string, time, cents int) api.Charge {
	return api.Charge{Key: strconv.Itoa(time), Vehicle: vehicle, System: "s", Time: time, Lines: []api.Line{{Text: "base", Cents: cents}}, Cents: cents}
}

func config() api.Config {
	own := func(plate string, from, to int) api.Owned {
		return api.Owned{Plate: plate, Time: api.Interval{From: from, To: to}}
	}
	return api.Config{
		Accounts: []api.Account{{Name: "ann", Owned: []api.Owned{own("AB1", 0, 1000000)}}, {Name: "bob", Owned: []api.Owned{own("XY9", 0, 500)}}, {Name: "ann", Owned: []api.Owned{own("EF5", 0, 1000000)}}},
		Caps:     []api.Cap{{Name: "day", Days: 1, Cents: 500}},
	}
}

// P34.1
func TestMonth(t *testing.T) {
	for at, want := range map[int]int{0: 0, 2678399: 0, 2678400: 1, 31536000: 12, 31535999: 11, -1: -1, api.MaxTime: -1, api.MaxDay * 86400: -1, math.MaxInt: -1, math.MinInt: -1} {
		if n := Month(at); n != want {
			t.Error(at, n)
		}
	}
	if n := Month(api.MaxDay*86400 - 1); n < 2177*12 {
		t.Error(n)
	}
}

// P34.2
func TestEarlier(t *testing.T) {
	trip := func(id, vehicle string, times ...int) api.Trip {
		x := api.Trip{ID: id, Vehicle: vehicle}
		for _, at := range times {
			x.Stops = append(x.Stops, api.Stop{Time: at})
		}
		return x
	}
	month := 2678400
	l := []api.Trip{trip("a", "v", 0, 9999999), trip("b", "v", 4999), trip("c", "v", 5000, 5001), trip("e", "v", 5000), trip("f", "v", 5001), trip("g", "w", 100), trip("h", "v"), trip("i", "v", month), trip("j", "v", month+5), trip("k", "v", -7)}
	for i, x := range []struct {
		x    api.Trip
		want int
	}{
		{trip("d", "v", 5000), 3}, {trip("c", "v", 5000), 2}, {trip("a", "v", 0), 0}, {trip("z", "v", 0), 1}, {trip("z", "v", month-1), 5}, {trip("z", "v", month), 1}, {trip("z", "v", month+6), 2}, {trip("z", "w", 5000), 1}, {trip("z", "x", 5000), 0}, {trip("z", "v"), 0}, {trip("z", "v", -1), 0}, {trip("z", "v", api.MaxDay*86400), 0}, {trip("z", "v", math.MaxInt), 0},
	} {
		if n := Earlier(l, x.x); n != x.want {
			t.Error(i, n)
		}
	}
	late := api.MaxDay*86400 + 5
	if n := Earlier([]api.Trip{trip("a", "v", late)}, trip("b", "v", late+1)); n != 0 {
		t.Error(n)
	}
}

// P34.3
func TestCapped(t *testing.T) {
	c := config()
	l := []api.Charge{charge("AB1", 90000, 300), charge("AB1", 200, 300), charge("AB1", 100, 300), charge("CD2", 100, 900), charge("XY9", 100, 900), charge("XY9", 500, 900), charge("EF5", 150, 100)}
	r, e := Capped(c, l)
	if e != api.OK {
		t.Fatal(int(e))
	}
	want := fresh.Charges(l)
	reduce(&want[1], 100) // 300 at 100 and 100 at 150, of the same account, are before it
	reduce(&want[4], 500)
	if !reflect.DeepEqual(r, want) || !slices.Equal(r[1].Lines, []api.Line{{Text: "base", Cents: 300}, {Text: "cap", Cents: -200}}) || r[1].Cents != 100 || r[5].Cents != 900 || r[3].Cents != 900 {
		t.Error(r)
	}
	if l[1].Cents != 300 || len(l[1].Lines) != 1 {
		t.Error("changed")
	}
	r[0].Lines[0].Cents = 1
	if l[0].Lines[0].Cents != 300 {
		t.Error("shared memory")
	}
	// The errors are those of all charges, also of those without an owner.
	for i, x := range []struct {
		change func(c *api.Config, l []api.Charge)
		e      api.Errno
	}{
		{func(c *api.Config, l []api.Charge) { l[3].Cents, l[3].Time = -1, -1 }, api.ErrMoney}, {func(c *api.Config, l []api.Charge) { l[3].Time = -1 }, api.ErrTime}, {func(c *api.Config, l []api.Charge) { c.Caps[0].Name, l[3].Cents = "", -1 }, api.ErrName}, {func(c *api.Config, l []api.Charge) { c.Caps = make([]api.Cap, 13) }, api.ErrLimit}, {func(c *api.Config, l []api.Charge) { c.Accounts, l[3].Cents = nil, api.MaxMoney+1 }, api.ErrMoney},
	} {
		c, l := config(), fresh.Charges(l)
		x.change(&c, l)
		if r, e := Capped(c, l); len(r) != 0 || e != x.e {
			t.Error(i, int(e))
		}
	}
	if r, e := Capped(c, make([]api.Charge, api.MaxList+1)); len(r) != 0 || e != api.ErrLimit {
		t.Error(int(e))
	}
	if r, e := Capped(c, nil); len(r) != 0 || e != api.OK {
		t.Error(int(e))
	}
}

// P34.4, P34.5
func TestTotal(t *testing.T) {
	c := config()
	l := []api.Charge{charge("AB1", 100, 300), charge("CD2", 100, 7), charge("AB1", 90000, 40), charge("EF5", 5, 1), charge("XY9", 500, 9), charge("XY9", 499, 2)}
	for name, want := range map[string]string{"ann": "300 40 1 ", "bob": "2 ", "eve": "", "": ""} {
		s := ""
		for _, x := range Of(c, name, l) {
			s += strconv.Itoa(x.Cents) + " "
		}
		if s != want {
			t.Error(name, s)
		}
	}
	Of(c, "ann", l)[0].Lines[0].Cents = 9
	if l[0].Lines[0].Cents != 300 {
		t.Error("shared memory")
	}
	iv := func(from, to int) api.Interval { return api.Interval{From: from, To: to} }
	big := charge("AB1", 50, api.MaxMoney+1)
	for i, x := range []struct {
		name string
		l    []api.Charge
		i    api.Interval
		n    int
		e    api.Errno
	}{
		{"ann", l, iv(0, 86400), 301, api.OK}, {"ann", l, iv(0, 90000), 301, api.OK}, {"ann", l, iv(0, 90001), 341, api.OK}, {"ann", l, iv(100, 101), 300, api.OK}, {"ann", l, iv(101, 102), 0, api.OK}, {"bob", l, iv(0, api.MaxTime), 2, api.OK}, {"eve", l, iv(5, 5), 0, api.ErrAccount}, {"ann", []api.Charge{big}, iv(5, 5), 0, api.ErrTime}, {"ann", []api.Charge{big}, iv(0, 60), 0, api.ErrMoney}, {"ann", []api.Charge{big}, iv(0, 50), 0, api.OK}, {"ann", slices.Repeat(l[:1], 1025), iv(0, 101), 0, api.ErrLimit}, {"ann", slices.Repeat(l[:1], 1024), iv(0, 101), 1024 * 300, api.OK},
	} {
		if n, e := Total(c, x.name, x.l, x.i); n != x.n || e != x.e {
			t.Error(i, n, int(e))
		}
	}
}

// P34.6
func TestDays(t *testing.T) {
	l := []api.Charge{charge("", 90000, 300), charge("", 100, 400), charge("", 86399, 100), charge("", -1, 9), charge("", api.MaxTime, 9), charge("", 5, api.MaxMoney+1), charge("", 86400, -40), charge("", 5, math.MinInt), charge("", api.MaxTime-1, 3)}
	days, sums := Days(l)
	if !slices.Equal(days, []int{0, 1, api.MaxDay}) || !slices.Equal(sums, []int{500, 260, 3}) {
		t.Error(days, sums)
	}
	if days, sums := Days(nil); len(days)+len(sums) != 0 {
		t.Error(days, sums)
	}
}

// P34.7 to P34.10
func TestConsequences(t *testing.T) {
	r := rand.New(rand.NewSource(1))
	for range 600 {
		c := config()
		c.Caps = append(c.Caps, api.Cap{Name: "m", System: "s", Cents: r.Intn(2000)})
		l := make([]api.Charge, r.Intn(12))
		for i := range l {
			l[i] = charge([]string{"AB1", "CD2", "EF5", "XY9"}[r.Intn(4)], r.Intn(300000), r.Intn(400))
			l[i].System = []string{"s", "t"}[r.Intn(2)]
		}
		got, e := Capped(c, l)
		if e != api.OK || len(got) != len(l) {
			t.Fatal(int(e))
		}
		for i, x := range got {
			sum := 0
			for _, k := range x.Lines {
				sum += k.Cents
			}
			if sum != x.Cents || x.Cents < 0 || x.Cents > l[i].Cents {
				t.Fatal(x)
			}
			x.Lines, x.Cents = l[i].Lines, l[i].Cents
			if !reflect.DeepEqual(x, l[i]) {
				t.Fatal("something else changes", x)
			}
		}
		if again, _ := Capped(c, got); !reflect.DeepEqual(again, got) {
			t.Fatal("not idempotent", got, again)
		}
		all := len(Of(c, "ann", l)) + len(Of(c, "bob", l))
		owned := 0
		for _, x := range l {
			if x.Vehicle == "AB1" || x.Vehicle == "EF5" || x.Vehicle == "XY9" && x.Time < 500 {
				owned++
			}
		}
		if all != owned {
			t.Fatal("an owner", l)
		}
		for _, name := range []string{"ann", "bob"} {
			var ours []api.Charge
			var paid []int
			for i, x := range l {
				if len(Of(c, name, []api.Charge{x})) == 1 {
					ours = append(ours, x)
					paid = append(paid, got[i].Cents)
				}
			}
			if want, _ := cap.Apply(c.Caps, ours); !slices.Equal(want, paid) {
				t.Fatal(name, want, paid)
			}
		}
		days, sums := Days(got)
		total := 0
		for i, n := range sums {
			total += n
			if i > 0 && days[i] <= days[i-1] {
				t.Fatal(days)
			}
		}
		for _, x := range got {
			total -= x.Cents
			if !slices.Contains(days, x.Time/86400) {
				t.Fatal(days, x)
			}
		}
		if total != 0 {
			t.Fatal(days, sums)
		}
	}
}
