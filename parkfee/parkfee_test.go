package parkfee

import (
	"math"
	"math/rand"
	"slices"
	"testing"

	"tollway/api"
	"tollway/zone"
)

func iv(from, to int) api.Interval { return api.Interval{From: from, To: to} }

func step(upto, unit, cents int) api.Step { return api.Step{Upto: upto, Unit: unit, Cents: cents} }

func example() api.Zone {
	return api.Zone{Name: "z", Steps: []api.Step{step(3600, 1800, 100), step(0, 3600, 150)}, DayMax: 1000}
}

// dear is a zone whose prices soon do not fit.
func dear() api.Zone {
	return api.Zone{Name: "z", Steps: []api.Step{step(0, 1, api.MaxNumber)}}
}

// P28.1 to P28.4: the error of the zone comes first.
func TestZone(t *testing.T) {
	bad := api.Zone{Name: "z"}
	if n, e := Steps(bad, -1); n != 0 || e != api.ErrArg {
		t.Error(n, int(e))
	}
	bad.Hours = []api.Window{{}}
	if l, e := Days(bad, iv(5, 5)); len(l) != 0 || e != api.ErrTime {
		t.Error(l, int(e))
	}
	bad.Hours, bad.Name = nil, ""
	if n, e := Steps(bad, -1); n != 0 || e != api.ErrName {
		t.Error(n, int(e))
	}
	if n, e := Fee(bad, iv(5, 5)); n != 0 || e != api.ErrName {
		t.Error(n, int(e))
	}
	if n, e := Longest(bad, -1, -1); n != 0 || e != api.ErrName {
		t.Error(n, int(e))
	}
	if n, e := Refund(bad, iv(5, 5), -1); n != 0 || e != api.ErrName {
		t.Error(n, int(e))
	}
	if l, e := Days(bad, iv(5, 5)); len(l) != 0 || e != api.ErrName {
		t.Error(l, int(e))
	}
}

// P28.1
func TestSteps(t *testing.T) {
	three := api.Zone{Name: "z", Steps: []api.Step{step(100, 60, 5), step(150, 20, 7), step(0, 1000, 1)}}
	for i, x := range []struct {
		z          api.Zone
		seconds, n int
		e          api.Errno
	}{
		{example(), 0, 0, api.OK}, {example(), 1, 100, api.OK}, {example(), 1800, 100, api.OK}, {example(), 1801, 200, api.OK}, {example(), 3600, 200, api.OK}, {example(), 3601, 350, api.OK}, {example(), 7200, 350, api.OK}, {example(), 7201, 500, api.OK}, {example(), api.MaxTime, 200 + 150*((api.MaxTime-3600+3599)/3600), api.OK},
		{three, 60, 5, api.OK}, {three, 61, 10, api.OK}, {three, 100, 10, api.OK}, {three, 101, 17, api.OK}, {three, 120, 17, api.OK}, {three, 121, 24, api.OK}, {three, 150, 31, api.OK}, {three, 151, 32, api.OK}, {three, 1150, 32, api.OK}, {three, 1151, 33, api.OK},
		{example(), -1, 0, api.ErrArg}, {example(), api.MaxTime + 1, 0, api.ErrArg}, {example(), math.MinInt, 0, api.ErrArg}, {dear(), 1 << 19, api.MaxMoney, api.OK}, {dear(), 1<<19 + 1, 0, api.ErrMoney}, {dear(), api.MaxTime, 0, api.ErrMoney},
		{api.Zone{Name: "z", Steps: []api.Step{step(1<<19, 1, api.MaxNumber), step(0, api.MaxTime, 1)}}, 1<<19 + 1, 0, api.ErrMoney},
	} {
		if n, e := Steps(x.z, x.seconds); n != x.n || e != x.e {
			t.Error(i, n, int(e))
		}
	}
}

// P28.2
func TestDays(t *testing.T) {
	office := example()
	office.Hours = []api.Window{{Days: 31, From: 480, To: 1080}}
	free, one := example(), example()
	free.DayMax, one.DayMax = 0, 1
	for i, x := range []struct {
		z    api.Zone
		i    api.Interval
		want []int
		e    api.Errno
	}{
		{example(), iv(0, 7200), []int{350}, api.OK}, {example(), iv(0, 172800), []int{1000, 1000}, api.OK}, {example(), iv(84600, 88200), []int{100, 100}, api.OK}, {example(), iv(86399, 86401), []int{100, 0}, api.OK}, {free, iv(0, 86400), []int{3650}, api.OK}, {free, iv(86400-3600, 86400+3600), []int{200, 150}, api.OK},
		{office, iv(0, 28800), []int{0}, api.OK}, {one, iv(0, 86401), []int{1, 1}, api.OK}, {one, iv(80000, 90000), []int{1, 1}, api.OK}, {office, iv(64000, 86400+28801), []int{100, 0}, api.OK}, {office, iv(64000, 86400+30000), []int{100, 100}, api.OK}, {office, iv(5*86400, 7*86400+1), []int{0, 0, 0}, api.OK}, {office, iv(api.MaxTime-1, api.MaxTime), []int{0}, api.OK},
		{example(), iv(5, 5), nil, api.ErrTime}, {example(), iv(0, 366*86400+1), nil, api.ErrLimit}, {dear(), iv(0, 1<<19), nil, api.OK}, {dear(), iv(0, 1<<19+1), nil, api.ErrMoney}, {dear(), iv(-1, 1<<30), nil, api.ErrTime},
	} {
		l, e := Days(x.z, x.i)
		if x.want != nil && !slices.Equal(l, x.want) || e != x.e || e != api.OK && len(l) > 0 {
			t.Error(i, l, int(e))
		}
		sum := 0
		for _, n := range l {
			sum += n
		}
		if n, e := Fee(x.z, x.i); n != sum || e != x.e {
			t.Error("Fee", i, n, int(e))
		}
	}
}

// P28.3
func TestLongest(t *testing.T) {
	stay, short := example(), example()
	stay.MaxStay, short.MaxStay = 600, 1
	gratis := api.Zone{Name: "z", Steps: []api.Step{step(0, 60, 0)}}
	night := example()
	night.Hours = []api.Window{{Days: 1, From: 480, To: 1080}}
	for i, x := range []struct {
		z              api.Zone
		from, cents, t int
		e              api.Errno
	}{
		{example(), 0, 350, 7200, api.OK}, {example(), 0, 99, 0, api.ErrFunds}, {example(), 0, 100, 1800, api.OK}, {example(), 0, 349, 3600, api.OK}, {example(), 0, 0, 0, api.ErrFunds}, {stay, 0, 1000, 600, api.OK}, {stay, 0, 99, 0, api.ErrFunds}, {short, 5, 100, 6, api.OK}, {gratis, 5, 0, 366 * 86400, api.OK}, {gratis, 86400, 0, 367 * 86400, api.OK}, {gratis, api.MaxTime - 1, 0, api.MaxTime, api.OK}, {gratis, api.MaxTime - 500000, 0, api.MaxTime, api.OK},
		{night, 0, 0, 28800, api.OK}, {night, 0, 99, 28800, api.OK}, {night, 64800, 0, 7*86400 + 28800, api.OK}, {dear(), 0, api.MaxMoney, 1 << 19, api.OK}, {example(), 0, 1000, 86400, api.OK},
		{example(), -1, -1, 0, api.ErrTime}, {example(), api.MaxTime, 5, 0, api.ErrTime}, {example(), 0, -1, 0, api.ErrMoney}, {example(), 0, api.MaxMoney + 1, 0, api.ErrMoney},
	} {
		if n, e := Longest(x.z, x.from, x.cents); n != x.t || e != x.e {
			t.Error(i, n, int(e))
		}
	}
}

// P28.4
func TestRefund(t *testing.T) {
	for i, x := range []struct {
		z     api.Zone
		i     api.Interval
		to, n int
		e     api.Errno
	}{
		{example(), iv(0, 7200), 1800, 250, api.OK}, {example(), iv(0, 7200), 0, 350, api.OK}, {example(), iv(0, 7200), 7200, 0, api.OK}, {example(), iv(100, 7200), 100, 350, api.OK}, {example(), iv(0, 172800), 86400, 1000, api.OK},
		{example(), iv(0, 7200), -1, 0, api.ErrTime}, {example(), iv(0, 7200), 7201, 0, api.ErrTime}, {example(), iv(100, 7200), 99, 0, api.ErrTime}, {example(), iv(5, 5), 5, 0, api.ErrTime}, {example(), iv(0, 367*86400), -1, 0, api.ErrLimit}, {dear(), iv(0, 1<<20), -1, 0, api.ErrMoney},
	} {
		if n, e := Refund(x.z, x.i, x.to); n != x.n || e != x.e {
			t.Error(i, n, int(e))
		}
	}
}

// P28.2, P28.5 to P28.7: compared with the definition
func TestFees(t *testing.T) {
	r := rand.New(rand.NewSource(1))
	for range 150 {
		z := api.Zone{Name: "z", Steps: []api.Step{step(1+r.Intn(9000), 1+r.Intn(3000), r.Intn(200)), step(0, 1+r.Intn(9000), r.Intn(200))}, MaxStay: r.Intn(2) * (1 + r.Intn(100000))}
		if r.Intn(2) == 0 {
			z.DayMax = 1 + r.Intn(1500)
		}
		for range r.Intn(3) {
			from := r.Intn(1440)
			z.Hours = append(z.Hours, api.Window{Days: 1 + r.Intn(127), From: from, To: from + 1 + r.Intn(1440-from)})
		}
		from := r.Intn(10 * 86400)
		i := iv(from, from+1+r.Intn(3*86400))
		seconds := func(to int) int {
			n := 0
			if to > i.From {
				l, _ := zone.Enforced(z, iv(i.From, min(to, i.To)))
				for _, x := range l {
					n += x.To - x.From
				}
			}
			return n
		}
		l, e := Days(z, i)
		if e != api.OK || len(l) != (i.To-1)/86400-i.From/86400+1 {
			t.Fatal(z, i, l, int(e))
		}
		sum := 0
		for k, n := range l {
			day := i.From/86400 + k
			after, _ := Steps(z, seconds((day+1)*86400))
			before, _ := Steps(z, seconds(day*86400))
			want := after - before
			if z.DayMax > 0 {
				want = min(want, z.DayMax)
			}
			if n != want {
				t.Fatal(z, i, k, n, want)
			}
			sum += n
		}
		fee, _ := Fee(z, i)
		to := i.From + r.Intn(i.To-i.From)
		back, _ := Refund(z, i, to)
		if fee != sum || back < 0 || back > fee || seconds(i.To) == 0 && fee != 0 {
			t.Fatal(z, i, fee, sum, back)
		}
		n := r.Intn(20000)
		a, _ := Steps(z, n)
		b, _ := Steps(z, n+1)
		if b < a {
			t.Fatal("more seconds cost less", z, n)
		}
		cents := r.Intn(3000)
		end, e := Longest(z, from, cents)
		if e == api.ErrFunds {
			end = from
		} else if paid, f := Fee(z, iv(from, end)); e != api.OK || f != api.OK || paid > cents || z.MaxStay > 0 && end-from > z.MaxStay {
			t.Fatal(z, from, cents, end, paid)
		}
		more, f := Fee(z, iv(from, end+1))
		if f == api.OK && more <= cents && (z.MaxStay == 0 || end+1-from <= z.MaxStay) {
			t.Fatal("not the longest", z, from, cents, end)
		}
	}
}
