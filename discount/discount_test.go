package discount

import (
	"math"
	"math/rand"
	"slices"
	"strconv"
	"testing"

	"tollway/api"
)

func part(name string, n int, group string) api.Discount {
	return api.Discount{Name: name, Kind: api.KPart, Amount: n, Group: group}
}

func fixed(name string, n int, group string) api.Discount {
	return api.Discount{Name: name, Kind: api.KFixed, Amount: n, Group: group}
}

func example() []api.Discount {
	return []api.Discount{part("a", 250, "g"), fixed("b", 300, "g"), part("c", 500, "g"), fixed("d", 100, "")}
}

// P24.1, P24.2
func TestCheck(t *testing.T) {
	monday := api.Window{Days: 1, From: 60, To: 120}
	for i, x := range []struct {
		change func(d *api.Discount)
		e      api.Errno
	}{
		{func(d *api.Discount) {}, api.OK}, {func(d *api.Discount) { d.Name, d.Kind = "A", 0 }, api.ErrName}, {func(d *api.Discount) { d.Kind, d.Group = 0, "G" }, api.ErrArg}, {func(d *api.Discount) { d.Kind = 4 }, api.ErrArg}, {func(d *api.Discount) { d.Kind, d.Amount = 4, 0 }, api.ErrArg}, {func(d *api.Discount) { d.Kind, d.Amount = 0, 0 }, api.ErrArg}, {func(d *api.Discount) { d.Amount, d.Group = 1001, "G" }, api.ErrArg}, {func(d *api.Discount) { d.Amount = 1000 }, api.OK}, {func(d *api.Discount) { d.Amount = 0 }, api.OK}, {func(d *api.Discount) { d.Amount = -1 }, api.ErrArg},
		{func(d *api.Discount) { d.Kind, d.Amount = api.KFixed, api.MaxMoney }, api.OK}, {func(d *api.Discount) { d.Kind, d.Amount = api.KFixed, api.MaxMoney+1 }, api.ErrArg}, {func(d *api.Discount) { d.Kind, d.Amount = api.KFixed, -1 }, api.ErrArg}, {func(d *api.Discount) { d.Kind, d.Amount = api.KFree, 0 }, api.OK}, {func(d *api.Discount) { d.Kind, d.Amount = api.KFree, 1 }, api.ErrArg}, {func(d *api.Discount) { d.Kind, d.Amount = api.KFree, -1 }, api.ErrArg},
		{func(d *api.Discount) { d.Group, d.Class = "G", 10 }, api.ErrName}, {func(d *api.Discount) { d.Group = "" }, api.OK}, {func(d *api.Discount) { d.System, d.Class = "S", 10 }, api.ErrName}, {func(d *api.Discount) { d.System = "s" }, api.OK}, {func(d *api.Discount) { d.Class, d.Least = 10, -1 }, api.ErrClass}, {func(d *api.Discount) { d.Class = -1 }, api.ErrClass}, {func(d *api.Discount) { d.Class = 9 }, api.OK},
		{func(d *api.Discount) { d.Window = monday }, api.OK}, {func(d *api.Discount) { d.Window.From, d.Least = 1, -1 }, api.ErrTime}, {func(d *api.Discount) { d.Window.To = 1 }, api.ErrTime}, {func(d *api.Discount) { d.Window = api.Window{To: 1440} }, api.ErrTime}, {func(d *api.Discount) { d.Window = api.Window{Days: 128, To: 1440} }, api.ErrTime}, {func(d *api.Discount) { d.Window = api.Window{Days: 1} }, api.ErrTime}, {func(d *api.Discount) { d.Window = api.Window{Days: 1, From: -1, To: 5} }, api.ErrTime}, {func(d *api.Discount) { d.Window = api.Window{Days: -1, To: 5} }, api.ErrTime},
		{func(d *api.Discount) { d.Least = -1 }, api.ErrRange}, {func(d *api.Discount) { d.Least = api.MaxNumber }, api.OK}, {func(d *api.Discount) { d.Least = api.MaxNumber + 1 }, api.ErrRange},
	} {
		d := part("a", 100, "g")
		x.change(&d)
		if e := Check(d); e != x.e {
			t.Error(i, int(e))
		}
		if e := CheckAll([]api.Discount{part("z", 1, ""), d}); e != x.e {
			t.Error("CheckAll", i, int(e))
		}
		if x.e != api.OK && Amount(d, 1000) != 0 {
			t.Error("Amount", i)
		}
	}
	var many []api.Discount
	for i := range 13 {
		many = append(many, part("a"+strconv.Itoa(i), 1, ""))
	}
	for i, x := range []struct {
		l []api.Discount
		e api.Errno
	}{{nil, api.OK}, {many[:12], api.OK}, {many, api.ErrLimit}, {make([]api.Discount, 13), api.ErrLimit}, {append(example(), part("a", 1, "")), api.ErrExists}, {append(example(), part("a", 1001, "")), api.ErrArg}, {append(example(), part("a", 1, ""), part("A", 1, "")), api.ErrExists}} {
		if e := CheckAll(x.l); e != x.e {
			t.Error(i, int(e))
		}
		if x.e == api.OK {
			continue
		}
		if l, n, e := Best(x.l, -1); len(l) != 0 || n != 0 || e != x.e {
			t.Error("Best", i, l, n, int(e))
		}
		if l := Lines(x.l, 100); len(l) != 0 {
			t.Error("Lines", i, l)
		}
	}
}

// P24.3
func TestApplies(t *testing.T) {
	trip := api.Trip{System: "s", Class: 2, Stops: []api.Stop{{Time: 3600}, {Time: 99999}}}
	for i, x := range []struct {
		change  func(d *api.Discount, x *api.Trip)
		earlier int
		want    bool
	}{
		{func(d *api.Discount, x *api.Trip) {}, 3, true}, {func(d *api.Discount, x *api.Trip) {}, 2, false}, {func(d *api.Discount, x *api.Trip) {}, math.MinInt, false}, {func(d *api.Discount, x *api.Trip) {}, math.MaxInt, true}, {func(d *api.Discount, x *api.Trip) { x.Stops = nil }, 3, false}, {func(d *api.Discount, x *api.Trip) { d.Name = "" }, 3, false},
		{func(d *api.Discount, x *api.Trip) { d.System = "t" }, 3, false}, {func(d *api.Discount, x *api.Trip) { d.System = "" }, 3, true}, {func(d *api.Discount, x *api.Trip) { d.Class = 1 }, 3, false}, {func(d *api.Discount, x *api.Trip) { d.Class = 0 }, 3, true},
		{func(d *api.Discount, x *api.Trip) { x.Stops[0].Time = 7200 }, 3, false}, {func(d *api.Discount, x *api.Trip) { x.Stops[0].Time = 7199 }, 3, true}, {func(d *api.Discount, x *api.Trip) { x.Stops[0].Time = -1 }, 3, false}, {func(d *api.Discount, x *api.Trip) { x.Stops[0].Time, d.Window = -1, api.Window{} }, 3, true}, {func(d *api.Discount, x *api.Trip) { d.Window.Days = 2 }, 3, false},
	} {
		d := api.Discount{Name: "a", Kind: api.KPart, System: "s", Class: 2, Window: api.Window{Days: 1, From: 60, To: 120}, Least: 3}
		y := trip
		y.Stops = slices.Clone(trip.Stops)
		x.change(&d, &y)
		if Applies(d, y, x.earlier) != x.want {
			t.Error(i)
		}
	}
}

// P24.4
func TestAmount(t *testing.T) {
	free := api.Discount{Name: "f", Kind: api.KFree}
	for _, x := range []struct {
		d        api.Discount
		cents, n int
	}{
		{part("a", 250, ""), 7, 1}, {part("a", 500, ""), 7, 3}, {part("a", 1000, ""), api.MaxMoney, api.MaxMoney}, {part("a", 999, ""), api.MaxMoney, api.MaxMoney - (api.MaxMoney+999)/1000}, {part("a", 999, ""), 1, 0}, {fixed("b", 300, ""), 1000, 300}, {fixed("b", 300, ""), 200, 200}, {fixed("b", 300, ""), 0, 0}, {free, 123, 123}, {free, 0, 0},
		{free, -1, 0}, {free, api.MaxMoney + 1, 0}, {free, api.MaxMoney, api.MaxMoney}, {fixed("b", 300, ""), math.MinInt, 0}, {part("A", 500, ""), 100, 0},
	} {
		if n := Amount(x.d, x.cents); n != x.n {
			t.Error(x, n)
		}
	}
}

// P24.5
func TestBest(t *testing.T) {
	for i, x := range []struct {
		l     []api.Discount
		cents int
		want  []int
		n     int
		e     api.Errno
	}{
		{example(), 1000, []int{2, 3}, 600, api.OK}, {example(), 100, []int{1}, 100, api.OK}, {example(), 0, nil, 0, api.OK}, {nil, 100, nil, 0, api.OK}, {example(), -1, nil, 0, api.ErrMoney}, {example(), api.MaxMoney + 1, nil, 0, api.ErrMoney}, {example(), api.MaxMoney, []int{2, 3}, api.MaxMoney/2 + 100, api.OK},
		{[]api.Discount{fixed("a", 50, ""), fixed("b", 50, ""), fixed("c", 100, "")}, 100, []int{2}, 100, api.OK}, {[]api.Discount{fixed("a", 50, ""), fixed("b", 50, ""), fixed("c", 50, "")}, 100, []int{0, 1}, 100, api.OK}, {[]api.Discount{fixed("a", 70, "g"), fixed("b", 50, "g"), fixed("c", 50, "h"), fixed("d", 60, "h")}, 1000, []int{0, 3}, 130, api.OK}, {[]api.Discount{part("a", 1, ""), fixed("b", 0, "")}, 100, nil, 0, api.OK}, {[]api.Discount{fixed("a", 40, ""), fixed("b", 70, ""), fixed("c", 70, "")}, 100, []int{0, 1}, 100, api.OK},
	} {
		if l, n, e := Best(x.l, x.cents); !slices.Equal(l, x.want) || n != x.n || e != x.e {
			t.Error(i, l, n, int(e))
		}
	}
}

// P24.6
func TestLines(t *testing.T) {
	if l := Lines(example(), 1000); !slices.Equal(l, []api.Line{{Text: "c", Cents: -500}, {Text: "d", Cents: -100}}) {
		t.Error(l)
	}
	if l := Lines([]api.Discount{fixed("a", 40, ""), fixed("b", 70, "")}, 100); !slices.Equal(l, []api.Line{{Text: "a", Cents: -40}, {Text: "b", Cents: -60}}) {
		t.Error(l)
	}
	for _, cents := range []int{-1, 0, api.MaxMoney + 1} {
		if l := Lines(example(), cents); len(l) != 0 {
			t.Error(cents, l)
		}
	}
}

// P24.5 to P24.9
func TestBestOfAll(t *testing.T) {
	r := rand.New(rand.NewSource(1))
	for range 1500 {
		l := make([]api.Discount, r.Intn(7))
		for i := range l {
			d := api.Discount{Name: "d" + strconv.Itoa(i), Kind: 1 + r.Intn(3), Group: []string{"", "g", "h"}[r.Intn(3)]}
			if d.Kind != api.KFree {
				d.Amount = 10 * r.Intn(8)
			} else if r.Intn(4) > 0 {
				d.Kind, d.Amount = api.KPart, 100*r.Intn(5)
			}
			l[i] = d
		}
		cents := r.Intn(200)
		var best []int
		most := -1
		for set := range 1 << len(l) {
			var c []int
			sum := 0
			ok := true
			for i := range l {
				if set>>i&1 == 1 {
					for _, k := range c {
						ok = ok && (l[k].Group == "" || l[k].Group != l[i].Group)
					}
					c = append(c, i)
					sum += Amount(l[i], cents)
				}
			}
			sum = min(sum, cents)
			if ok && (sum > most || sum == most && (len(c) < len(best) || len(c) == len(best) && slices.Compare(c, best) < 0)) {
				best, most = c, sum
			}
		}
		got, n, e := Best(l, cents)
		if !slices.Equal(got, best) || n != most || e != api.OK {
			t.Fatal(l, cents, got, n, best, most)
		}
		sum := 0
		for i, x := range Lines(l, cents) {
			sum += x.Cents
			if x.Cents >= 0 || x.Text != l[best[i]].Name {
				t.Fatal(l, cents, x)
			}
		}
		if sum != -most || len(Lines(l, cents)) != len(best) {
			t.Fatal(l, cents, sum)
		}
		r.Shuffle(len(l), func(i, j int) { l[i], l[j] = l[j], l[i] })
		if _, m, _ := Best(l, cents); m != n {
			t.Fatal("the order matters", l, cents)
		}
		if len(l) > 0 {
			if _, m, _ := Best(l[1:], cents); m > n {
				t.Fatal("fewer are better", l, cents)
			}
		}
	}
}
