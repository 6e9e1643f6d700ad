package price

import (
	"math"
	"math/rand"
	"reflect"
	"slices"
	"strconv"
	"testing"

	"tollway/api"
	"tollway/discount"
	"tollway/parkfee"
)

func config() api.Config {
	return api.Config{
		Tariffs: []api.Tariff{
			{Valid: api.Interval{From: 0, To: 10000}, Bands: []api.Band{{Name: "peak", Window: api.Window{Days: 1, From: 60, To: 120}}}, Rates: []api.Rate{{From: "a", Class: 1, Cents: 400}, {From: "a", Class: 1, Band: "peak", Cents: 900}, {From: "in", To: "out", Class: 2, Cents: 501}}},
			{Valid: api.Interval{From: 10000, To: 20000}, Rates: []api.Rate{{From: "a", Class: 1, Cents: api.MaxMoney}}},
		},
		Scale:     api.Scale{Period: 60, Up: []int{10, 20}, Down: []int{5, 15}, Parts: []int{1000, 1500, 2500}},
		Discounts: []api.Discount{{Name: "ten", Kind: api.KPart, Amount: 100, Class: 1, System: "s", Least: 2}},
		Zones:     []api.Zone{{Name: "z", Steps: []api.Step{{Unit: 60, Cents: 10}}}, {Name: "dear", Steps: []api.Step{{Unit: 1, Cents: api.MaxNumber}}}, {Name: "bad"}},
	}
}

func open(time int) api.Trip {
	return api.Trip{ID: "d.5", Vehicle: "AB1", System: "s", Class: 1, Stops: []api.Stop{{Point: "a", Time: time, Passage: "d.5"}}}
}

func journey() api.Trip {
	return api.Trip{ID: "d.5", Vehicle: "AB1", System: "c", Class: 2, Stops: []api.Stop{{Point: "in", Time: 9999}, {Point: "x", Time: 10500}, {Point: "out", Time: 11000}}}
}

// P31.1
func TestBase(t *testing.T) {
	odd := journey()
	odd.Class = 1
	for i, x := range []struct {
		x api.Trip
		n int
		e api.Errno
	}{{open(100), 400, api.OK}, {open(3600), 900, api.OK}, {open(7200), 400, api.OK}, {open(10000), api.MaxMoney, api.OK}, {journey(), 501, api.OK}, {open(20000), 0, api.ErrTariff}, {open(-1), 0, api.ErrTariff}, {odd, 0, api.ErrTariff}, {api.Trip{}, 0, api.ErrArg}} {
		if n, e := Base(config(), x.x); n != x.n || e != x.e {
			t.Error(i, n, int(e))
		}
		if x.e != api.OK {
			if c, e := Trip(config(), x.x, 0, 0); !reflect.DeepEqual(c, api.Charge{}) || e != x.e {
				t.Error("Trip", i, c, int(e))
			}
		}
	}
}

func lines(l ...any) []api.Line {
	var r []api.Line
	for i := 0; i < len(l); i += 2 {
		r = append(r, api.Line{Text: l[i].(string), Cents: l[i+1].(int)})
	}
	return r
}

// P31.2
func TestTrip(t *testing.T) {
	for i, x := range []struct {
		x              api.Trip
		level, earlier int
		lines          []api.Line
		cents          int
	}{
		{open(100), 1, 2, lines("base", 400, "level", 200, "ten", -60), 540}, {open(100), 1, 1, lines("base", 400, "level", 200), 600}, {open(100), 0, 0, lines("base", 400), 400}, {open(100), 2, 5, lines("base", 400, "level", 600, "ten", -100), 900}, {open(100), 9, 0, lines("base", 400), 400}, {journey(), 1, 9, lines("base", 501, "level", 251), 752}, // 751.5 is rounded to the even number
	} {
		want := api.Charge{Key: "t:d.5", Vehicle: "AB1", System: x.x.System, Class: x.x.Class, Time: x.x.Stops[len(x.x.Stops)-1].Time, Lines: x.lines, Cents: x.cents}
		if c, e := Trip(config(), x.x, x.level, x.earlier); !reflect.DeepEqual(c, want) || e != api.OK {
			t.Error(i, c, int(e))
		}
		if e := Check(want); e != api.OK {
			t.Error(i, int(e))
		}
	}
	c := config()
	c.Discounts = nil
	for i := range 13 {
		c.Discounts = append(c.Discounts, api.Discount{Name: "d" + strconv.Itoa(i), Kind: api.KFixed, Amount: 1 << i})
	}
	if x, e := Trip(c, open(100), 1, 0); !reflect.DeepEqual(x, api.Charge{}) || e != api.ErrLimit {
		t.Error(x, int(e))
	}
	if x, e := Trip(c, open(10000), 1, 0); !reflect.DeepEqual(x, api.Charge{}) || e != api.ErrLimit {
		t.Error("the limit comes first", x, int(e))
	}
	c.Discounts[3].Least = 1
	if x, e := Trip(c, open(100), 0, 0); len(x.Lines) == 1 || x.Cents != 0 || e != api.OK {
		t.Error(x, int(e))
	}
	if x, e := Trip(config(), open(10000), 1, 0); !reflect.DeepEqual(x, api.Charge{}) || e != api.ErrMoney {
		t.Error(x, int(e))
	}
	c = config()
	c.Scale.Parts[0] = 0
	if x, e := Trip(c, open(100), 0, 5); !reflect.DeepEqual(x.Lines, lines("base", 400, "level", -400)) || x.Cents != 0 || e != api.OK {
		t.Error(x, int(e))
	}
}

// P31.3
func TestStay(t *testing.T) {
	s := api.Stay{ID: "5.z.AB1.0.0", Zone: "z", Plate: "AB1", Time: api.Interval{From: 0, To: 500}}
	iv := func(from, to int) api.Interval { return api.Interval{From: from, To: to} }
	for i, x := range []struct {
		zone   string
		unpaid []api.Interval
		lines  []api.Line
		cents  int
		e      api.Errno
	}{
		{"z", []api.Interval{iv(0, 60), iv(100, 161)}, lines("stay", 10, "stay", 20), 30, api.OK}, {"z", nil, nil, 0, api.OK}, {"dear", []api.Interval{iv(0, 1<<19), iv(0, 1)}, nil, 0, api.ErrMoney}, {"dear", []api.Interval{iv(0, 1<<19), iv(0, 1), iv(5, 5)}, nil, 0, api.ErrTime}, {"dear", []api.Interval{iv(0, 1<<19+1), iv(5, 5)}, nil, 0, api.ErrMoney}, {"z", []api.Interval{iv(5, 5)}, nil, 0, api.ErrTime}, {"bad", []api.Interval{iv(0, 60)}, nil, 0, api.ErrArg}, {"bad", nil, nil, 0, api.OK}, {"x", []api.Interval{iv(5, 5)}, nil, 0, api.ErrZone}, {"z", []api.Interval{iv(0, 400*86400)}, nil, 0, api.ErrLimit},
	} {
		s.Zone = x.zone
		want := api.Charge{}
		if x.e == api.OK {
			want = api.Charge{Key: "p:5.z.AB1.0.0", Vehicle: "AB1", System: x.zone, Time: 500, Lines: x.lines, Cents: x.cents}
		}
		if c, e := Stay(config(), s, x.unpaid); !reflect.DeepEqual(c, want) || e != x.e {
			t.Error(i, c, int(e))
		}
	}
}

// P31.4
func TestCheck(t *testing.T) {
	most := api.MaxMoney
	for i, x := range []struct {
		change func(x *api.Charge)
		e      api.Errno
	}{
		{func(x *api.Charge) {}, api.OK}, {func(x *api.Charge) { x.Key, x.Class = "", 10 }, api.ErrName}, {func(x *api.Charge) { x.Vehicle, x.Class = "", 10 }, api.ErrName}, {func(x *api.Charge) { x.Class, x.Time = 10, -1 }, api.ErrClass}, {func(x *api.Charge) { x.Class = -1 }, api.ErrClass}, {func(x *api.Charge) { x.Class = 9 }, api.OK}, {func(x *api.Charge) { x.Class = 0 }, api.OK}, {func(x *api.Charge) { x.Time, x.Cents = -1, -1 }, api.ErrTime}, {func(x *api.Charge) { x.Time = api.MaxTime }, api.OK}, {func(x *api.Charge) { x.Time = 0 }, api.OK}, {func(x *api.Charge) { x.Time = api.MaxTime + 1 }, api.ErrTime},
		{func(x *api.Charge) { x.Lines[0].Cents = most + 1 }, api.ErrMoney}, {func(x *api.Charge) { x.Lines[0].Cents = math.MinInt }, api.ErrMoney}, {func(x *api.Charge) { x.Cents = -1 }, api.ErrMoney}, {func(x *api.Charge) { x.Cents = most + 1 }, api.ErrMoney}, {func(x *api.Charge) { x.Cents = 99 }, api.ErrSum}, {func(x *api.Charge) { x.Lines = nil }, api.ErrSum}, {func(x *api.Charge) { x.Lines, x.Cents = nil, 0 }, api.OK}, {func(x *api.Charge) { x.Lines[0].Text = "" }, api.OK}, {func(x *api.Charge) { x.Lines, x.Cents = lines("a", most, "b", most, "c", -most), most }, api.OK},
		{func(x *api.Charge) { x.Lines, x.Cents = slices.Repeat(lines("a", most), 1<<14), 0 }, api.ErrSum}, // 2^64
		{func(x *api.Charge) {
			x.Lines, x.Cents = append(slices.Repeat(lines("a", -most), 1<<14), slices.Repeat(lines("a", most), 1<<14)...), 0
		}, api.OK},
	} {
		c := api.Charge{Key: "k", Vehicle: "v", Class: 1, Time: 5, Lines: lines("a", 150, "b", -50), Cents: 100}
		x.change(&c)
		if e := Check(c); e != x.e {
			t.Error(i, int(e))
		}
	}
}

// P31.5
func TestSort(t *testing.T) {
	l := []api.Charge{{Key: "b", Time: 5, Cents: 1}, {Key: "a", Time: 5, Cents: 2, Lines: lines("x", 1)}, {Key: "z", Time: 4, Cents: 3}, {Key: "a", Time: 5, Cents: 4}}
	s := Sort(l)
	got := ""
	for _, x := range s {
		got += strconv.Itoa(x.Cents)
	}
	if got != "3241" {
		t.Error(got)
	}
	s[1].Lines[0].Cents = 9
	if l[1].Lines[0].Cents != 1 || l[0].Cents != 1 {
		t.Error("shared memory")
	}
	if n, e := Total(l); n != 10 || e != api.OK {
		t.Error(n, int(e))
	}
	for _, x := range []struct {
		l []api.Charge
		n int
		e api.Errno
	}{{nil, 0, api.OK}, {make([]api.Charge, api.MaxList), 0, api.OK}, {make([]api.Charge, api.MaxList+1), 0, api.ErrLimit}, {[]api.Charge{{Cents: api.MaxMoney}, {Cents: 1}}, 0, api.ErrMoney}, {[]api.Charge{{Cents: api.MaxMoney + 1}, {Cents: -1}}, 0, api.ErrMoney}} {
		if n, e := Total(x.l); n != x.n || e != x.e {
			t.Error(len(x.l), n, int(e))
		}
	}
}

// P31.6 to P31.8
func TestConsequences(t *testing.T) {
	r := rand.New(rand.NewSource(1))
	for range 1000 {
		c := config()
		c.Discounts = nil
		for i := range r.Intn(4) {
			c.Discounts = append(c.Discounts, api.Discount{Name: "d" + strconv.Itoa(i), Kind: api.KPart, Amount: r.Intn(700), Group: []string{"", "g"}[r.Intn(2)], Least: r.Intn(3)})
		}
		level, earlier := r.Intn(3), r.Intn(4)
		x := open(r.Intn(9000))
		ch, e := Trip(c, x, level, earlier)
		if e != api.OK || Check(ch) != api.OK {
			t.Fatal(ch, int(e), int(Check(ch)))
		}
		base, _ := Base(c, x)
		price := base * c.Scale.Parts[level] / 1000
		if ch.Cents > price {
			t.Fatal(ch, price)
		}
		for _, d := range c.Discounts {
			if discount.Applies(d, x, earlier) && price-discount.Amount(d, price) < ch.Cents {
				t.Fatal("a discount is better", d, ch)
			}
		}
		s := api.Stay{ID: "i", Zone: "z", Plate: "AB1", Time: api.Interval{From: 0, To: 90000}}
		var unpaid []api.Interval
		sum := 0
		for range r.Intn(4) {
			from := r.Intn(50000)
			unpaid = append(unpaid, api.Interval{From: from, To: from + 1 + r.Intn(9000)})
			n, _ := parkfee.Fee(c.Zones[0], unpaid[len(unpaid)-1])
			sum += n
		}
		if ch, e := Stay(c, s, unpaid); ch.Cents != sum || len(ch.Lines) != len(unpaid) || e != api.OK || Check(ch) != api.OK {
			t.Fatal(ch, sum, int(e))
		}
	}
}
