package account

import (
	"math"
	"math/rand"
	"reflect"
	"slices"
	"strconv"
	"testing"

	"tollway/api"
)

const tagOne = "001000000016"

func own(plate string, from, to int) api.Owned {
	return api.Owned{Plate: plate, Time: api.Interval{From: from, To: to}}
}

func acc(name string, l ...api.Owned) api.Account { return api.Account{Name: name, Owned: l} }

// P33.1
func TestCheck(t *testing.T) {
	var many []api.Owned
	for i := range 65 {
		many = append(many, own("AB12", 10*i, 10*i+10))
	}
	tagged := api.Owned{Tag: tagOne, Time: api.Interval{From: 0, To: 9}}
	for i, x := range []struct {
		a api.Account
		e api.Errno
	}{
		{acc("a"), api.OK}, {api.Account{Name: "A", Agency: "N"}, api.ErrName}, {api.Account{Name: "a", Agency: "N", Owned: many}, api.ErrAgency}, {api.Account{Name: "a", Agency: "n"}, api.OK}, {acc("a", many[:64]...), api.OK}, {acc("a", many...), api.ErrLimit}, {acc("a", append(many[:64:64], api.Owned{})...), api.ErrLimit},
		{acc("a", api.Owned{}), api.ErrArg}, {acc("a", api.Owned{Tag: "x", Plate: "y"}), api.ErrArg}, {acc("a", api.Owned{Tag: "x"}), api.ErrTag}, {acc("a", api.Owned{Plate: "ab12"}), api.ErrPlate}, {acc("a", api.Owned{Plate: "A"}), api.ErrPlate}, {acc("a", own("AB12", 5, 5)), api.ErrTime}, {acc("a", own("AB12", 0, api.MaxTime+1)), api.ErrTime}, {acc("a", own("AB12", 0, api.MaxTime), tagged), api.OK},
		{acc("a", own("AB12", 0, 10), own("AB12", 9, 20)), api.ErrExists}, {acc("a", own("AB12", 9, 20), own("AB12", 0, 10)), api.ErrExists}, {acc("a", own("AB12", 0, 30), own("AB12", 9, 20)), api.ErrExists}, {acc("a", own("AB12", 9, 20), own("AB12", 0, 30)), api.ErrExists}, {acc("a", own("AB12", 9, 20), own("AB12", 9, 20)), api.ErrExists}, {acc("a", own("AB12", 0, 10), own("AB12", 10, 20), own("AB13", 5, 15)), api.OK}, {acc("a", own("AB12", 20, 30), own("AB12", 0, 10), own("AB12", 10, 20)), api.OK}, {acc("a", tagged, tagged, api.Owned{}), api.ErrExists}, {acc("a", tagged, api.Owned{}, tagged), api.ErrArg},
		{api.Account{Name: "a", Refill: api.Refill{Below: -1, Tries: 99}}, api.OK},
	} {
		if e := Check(x.a); e != x.e {
			t.Error(i, int(e))
		}
		if e := CheckAll([]api.Account{acc("first"), x.a}); e != x.e {
			t.Error("CheckAll", i, int(e))
		}
	}
}

// P33.2
func TestCheckAll(t *testing.T) {
	var many []api.Account
	for i := range api.MaxList + 1 {
		many = append(many, acc("a"+strconv.Itoa(i)))
	}
	for i, x := range []struct {
		l []api.Account
		e api.Errno
	}{
		{nil, api.OK}, {many[:api.MaxList], api.OK}, {many, api.ErrLimit}, {[]api.Account{acc("a"), acc("a")}, api.ErrExists}, {[]api.Account{acc("a", own("AB12", 0, 10)), acc("b", own("AB12", 5, 15))}, api.ErrExists}, {[]api.Account{acc("a", own("AB12", 0, 10)), acc("b", own("AB12", 10, 15))}, api.OK}, {[]api.Account{acc("a", own("AB12", 0, 10)), acc("b", own("AB12", 5, 5))}, api.ErrTime}, {[]api.Account{acc("a"), acc("a"), acc("B")}, api.ErrExists}, {[]api.Account{acc("a"), acc("B"), acc("a")}, api.ErrName},
	} {
		if e := CheckAll(x.l); e != x.e {
			t.Error(i, int(e))
		}
	}
}

// P33.3
func TestFind(t *testing.T) {
	l := []api.Account{acc("a", own("AB12", 0, 100), api.Owned{Tag: "T", Plate: "P", Time: api.Interval{From: 5, To: 9}}), acc("b", own("AB12", 50, 200), own("", 0, 100), own("CD", -1, 100)), acc("a")}
	if a, ok := Find(l, "a"); !ok || !reflect.DeepEqual(a, l[0]) {
		t.Error(a, ok)
	}
	if a, ok := Find(l, "c"); ok || !reflect.DeepEqual(a, api.Account{}) {
		t.Error(a, ok)
	}
	a, _ := Find(l, "a")
	a.Owned[0].Plate = "X"
	if l[0].Owned[0].Plate != "AB12" {
		t.Error("shared memory")
	}
	for _, x := range []struct {
		vehicle string
		t       int
		want    string
	}{{"AB12", 99, "a"}, {"AB12", 0, "a"}, {"AB12", 100, "b"}, {"AB12", 60, "a"}, {"AB12", 200, ""}, {"AB12", -1, ""}, {"", 5, ""}, {"CD", 5, ""}, {"T", 5, "a"}, {"P", 8, "a"}, {"P", 9, ""}, {"X", 5, ""}, {"AB12", math.MaxInt, ""}, {"AB12", math.MinInt, ""}} {
		if s, ok := Owner(l, x.vehicle, x.t); s != x.want || ok != (x.want != "") {
			t.Error(x, s, ok)
		}
	}
}

// P33.4
func TestLink(t *testing.T) {
	var many []api.Owned
	for i := range 64 {
		many = append(many, own("XY99", 10*i, 10*i+10))
	}
	l := []api.Account{acc("a", own("AB12", 0, 100), own("CD34", 7, 3)), acc("b"), acc("full", many...), acc("b")}
	for i, x := range []struct {
		name string
		o    api.Owned
		e    api.Errno
	}{
		{"b", own("AB12", 100, 200), api.OK}, {"b", own("AB12", 99, 200), api.ErrExists}, {"b", own("CD34", 0, 9), api.OK}, {"a", own("AB12", 50, 60), api.ErrExists}, {"b", api.Owned{Tag: tagOne, Time: api.Interval{From: 0, To: 9}}, api.OK}, {"x", api.Owned{}, api.ErrAccount}, {"b", api.Owned{}, api.ErrArg}, {"b", api.Owned{Tag: "x", Plate: "y"}, api.ErrArg}, {"b", api.Owned{Tag: "x"}, api.ErrTag}, {"b", own("ab", 0, 9), api.ErrPlate}, {"b", own("AB12", 9, 9), api.ErrTime}, {"full", own("AB12", 9, 9), api.ErrTime}, {"full", own("AB12", 50, 60), api.ErrLimit}, {"full", own("ZZ", 50, 60), api.ErrLimit},
	} {
		before := fmtAll(l)
		r, e := Link(l, x.name, x.o)
		if e != x.e || e != api.OK && !reflect.DeepEqual(r, l) || fmtAll(l) != before {
			t.Error(i, int(e), r)
		}
		if e == api.OK {
			want := fresh(l)
			k := index(l, x.name)
			want[k].Owned = append(want[k].Owned, x.o)
			if !reflect.DeepEqual(r[k], want[k]) || fmtAll(r) != fmtAll(want) {
				t.Error(i, r)
			}
			r[0].Owned[0].Plate = "X"
			if fmtAll(l) != before {
				t.Error("shared memory")
			}
		}
	}
}

func fmtAll(l []api.Account) string {
	s := ""
	for _, a := range l {
		s += a.Name + "("
		for _, o := range a.Owned {
			s += o.Tag + o.Plate + strconv.Itoa(o.Time.From) + "-" + strconv.Itoa(o.Time.To) + " "
		}
		s += ")"
	}
	return s
}

// P33.5
func TestUnlink(t *testing.T) {
	l := []api.Account{acc("a", own("AB12", 9, 3), own("AB12", 0, 100), own("AB12", 50, 70), api.Owned{Tag: "T", Time: api.Interval{From: 5, To: 9}}), acc("b", own("", 0, 9), own("AB12", 100, 200))}
	for i, x := range []struct {
		name, vehicle string
		t             int
		want          string
		e             api.Errno
	}{
		{"a", "AB12", 50, "a(AB129-3 AB120-50 AB1250-70 T5-9 )b(0-9 AB12100-200 )", api.OK}, {"a", "AB12", 0, "a(AB129-3 AB1250-70 T5-9 )b(0-9 AB12100-200 )", api.OK}, {"a", "T", 6, "a(AB129-3 AB120-100 AB1250-70 T5-6 )b(0-9 AB12100-200 )", api.OK}, {"b", "AB12", 199, "a(AB129-3 AB120-100 AB1250-70 T5-9 )b(0-9 AB12100-199 )", api.OK},
		{"x", "AB12", -1, "", api.ErrAccount}, {"a", "X", -1, "", api.ErrTime}, {"a", "AB12", api.MaxTime, "", api.ErrTime}, {"a", "AB12", 100, "", api.ErrNone}, {"a", "X", 5, "", api.ErrNone}, {"b", "", 5, "", api.ErrNone}, {"b", "AB12", 50, "", api.ErrNone},
	} {
		before := fmtAll(l)
		r, e := Unlink(l, x.name, x.vehicle, x.t)
		if e != x.e || e == api.OK && fmtAll(r) != x.want || e != api.OK && !reflect.DeepEqual(r, l) || fmtAll(l) != before {
			t.Error(i, int(e), fmtAll(r))
		}
	}
}

// P33.5: the first element of an account
func TestUnlinkFirst(t *testing.T) {
	l := []api.Account{acc("a", own("AB12", 0, 100), own("CD34", 0, 100))}
	for at, want := range map[int]string{50: "a(AB120-50 CD340-100 )", 0: "a(CD340-100 )"} {
		if r, e := Unlink(l, "a", "AB12", at); e != api.OK || fmtAll(r) != want {
			t.Error(at, fmtAll(r), int(e))
		}
	}
}

// P33.6, P33.7
func TestOneOwner(t *testing.T) {
	r := rand.New(rand.NewSource(1))
	plates := []string{"AB12", "CD34"}
	for range 400 {
		l := []api.Account{acc("a"), acc("b"), acc("c")}
		for range 15 {
			name, plate, at := string(rune('a'+r.Intn(3))), plates[r.Intn(2)], r.Intn(60)
			before := l
			if r.Intn(2) == 0 {
				o := own(plate, at, at+1+r.Intn(20))
				next, e := Link(l, name, o)
				if e == api.OK {
					for k := o.Time.From; k < o.Time.To; k++ {
						if s, ok := Owner(next, plate, k); s != name || !ok {
							t.Fatal(fmtAll(next), o, k)
						}
					}
				}
				l = next
			} else if next, e := Unlink(l, name, plate, at); e == api.OK {
				if s, ok := Owner(next, plate, at); ok {
					t.Fatal(s, fmtAll(next))
				}
				for k := range 90 {
					for _, v := range plates {
						s, _ := Owner(next, v, k)
						old, _ := Owner(before, v, k)
						if s != old && (v != plate || k < at) {
							t.Fatal("something else changes", fmtAll(before), fmtAll(next))
						}
					}
				}
				l = next
			}
			if e := CheckAll(l); e != api.OK {
				t.Fatal(fmtAll(l), int(e))
			}
			for k := range 90 {
				n := 0
				for _, a := range l {
					if slices.ContainsFunc(a.Owned, func(o api.Owned) bool { return holds(o, plate, k) }) {
						n++
					}
				}
				if n > 1 {
					t.Fatal("two owners", fmtAll(l))
				}
			}
		}
	}
}
