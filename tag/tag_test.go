package tag

import (
	"math"
	"math/rand"
	"testing"

	"tollway/api"
)

const (
	one  = "001000000016"
	next = "001000000024"
)

func state(tag string, from, n int) api.TagState { return api.TagState{Tag: tag, From: from, State: n} }

// luhn is the definition of the check digit.
func luhn(s string) bool {
	sum := 0
	for i := range s {
		d := int(s[i] - '0')
		if i%2 == 0 {
			d *= 2
			if d > 9 {
				d -= 9
			}
		}
		sum += d
	}
	return sum%10 == 0
}

// P11.1
func TestCheck(t *testing.T) {
	for _, s := range []string{one, next, "000000000000", "999999999999", "123456789015"} {
		want := api.OK
		if !luhn(s) {
			want = api.ErrTag
		}
		if e := Check(s); e != want {
			t.Error(s, int(e))
		}
	}
	for _, s := range []string{"", "0", "001000000017", one + "0", one[:11], "0010000000 6", "00100000001x", "-01000000016", "00100000001é", "0000000000\xff\xff", "/00000000000", ":00000000000", "００００"} {
		if e := Check(s); e != api.ErrTag {
			t.Error(s, int(e))
		}
		if a, e := Agency(s); a != "" || e != api.ErrTag {
			t.Error(s, a, int(e))
		}
		if n, e := Serial(s); n != 0 || e != api.ErrTag {
			t.Error(s, n, int(e))
		}
	}
}

// P11.2
func TestMake(t *testing.T) {
	for _, x := range []struct {
		agency string
		serial int
		want   string
		e      api.Errno
	}{
		{"001", 1, one, api.OK}, {"001", 2, next, api.OK}, {"000", 0, "000000000000", api.OK},
		{"01", -1, "", api.ErrAgency}, {"0001", 1, "", api.ErrAgency}, {"", 1, "", api.ErrAgency}, {"00x", 1, "", api.ErrAgency}, {"0-1", 1, "", api.ErrAgency}, {"é1", 1, "", api.ErrAgency}, {"/00", 1, "", api.ErrAgency}, {"00:", 1, "", api.ErrAgency},
		{"001", -1, "", api.ErrRange}, {"001", 100_000_000, "", api.ErrRange}, {"001", math.MaxInt, "", api.ErrRange}, {"001", math.MinInt, "", api.ErrRange},
	} {
		if s, e := Make(x.agency, x.serial); s != x.want || e != x.e {
			t.Error(x, s, int(e))
		}
	}
	if s, e := Make("999", 99_999_999); e != api.OK || !luhn(s) || s[:11] != "99999999999" {
		t.Error(s, int(e))
	}
}

// P11.3, P11.6
func TestInverse(t *testing.T) {
	r := rand.New(rand.NewSource(1))
	for range 2000 {
		b := make([]byte, 3)
		for i := range b {
			b[i] = byte('0' + r.Intn(10))
		}
		serial := r.Intn(100_000_000) >> r.Intn(27)
		s, e := Make(string(b), serial)
		if e != api.OK || len(s) != 12 || !luhn(s) || Check(s) != api.OK {
			t.Fatal(string(b), serial, s, int(e))
		}
		a, e := Agency(s)
		n, f := Serial(s)
		if a != string(b) || n != serial || e != api.OK || f != api.OK {
			t.Fatal(s, a, n, int(e), int(f))
		}
		// P11.7: errors in reading
		i, d := r.Intn(12), byte('0'+r.Intn(10))
		x := []byte(s)
		x[i] = d
		if (Check(string(x)) == api.OK) != (string(x) == s) {
			t.Fatal(s, string(x))
		}
		if i < 11 {
			x = []byte(s)
			x[i], x[i+1] = x[i+1], x[i]
			pair := s[i : i+2]
			if (Check(string(x)) == api.OK) != (pair[0] == pair[1] || pair == "09" || pair == "90") {
				t.Fatal(s, string(x))
			}
		}
	}
}

// P11.4
func TestCheckAll(t *testing.T) {
	many := []api.TagState{}
	for i := range api.MaxList + 1 {
		many = append(many, state(one, i, 1))
	}
	for i, x := range []struct {
		l []api.TagState
		e api.Errno
	}{
		{nil, api.OK}, {many[:api.MaxList], api.OK}, {many, api.ErrLimit}, {[]api.TagState{state(one, 5, 2), state(one, 9, 1), state(next, 0, 3)}, api.OK}, {[]api.TagState{state(one, api.MaxTime-1, 3)}, api.OK},
		{[]api.TagState{state("x", -1, 0)}, api.ErrTag}, {[]api.TagState{state(one, -1, 0)}, api.ErrTime}, {[]api.TagState{state(one, api.MaxTime, 0)}, api.ErrTime}, {[]api.TagState{state(one, 0, 0)}, api.ErrArg}, {[]api.TagState{state(one, 0, 4)}, api.ErrArg},
		{[]api.TagState{state(next, 0, 1), state(one, 0, 1)}, api.ErrOrder}, {[]api.TagState{state(next, 0, 1), state(one, 5, 1)}, api.ErrOrder}, {[]api.TagState{state(one, 5, 1), state(one, 5, 2)}, api.ErrOrder}, {[]api.TagState{state(one, 5, 1), state(one, 4, 2)}, api.ErrOrder}, {[]api.TagState{state(one, 5, 1), state(one, 4, 9)}, api.ErrArg}, {[]api.TagState{state(one, 5, 1), state(next, 4, 1)}, api.OK}, {[]api.TagState{state(one, 5, 1), state(one, 5, 1), state("", 0, 0)}, api.ErrOrder},
	} {
		if e := CheckAll(x.l); e != x.e {
			t.Error(i, int(e))
		}
	}
}

// P11.5, P11.8
func TestState(t *testing.T) {
	l := []api.TagState{state(one, 5, 2), state(one, 9, 1), state(next, 7, 3)}
	for _, x := range []struct {
		tag     string
		t, want int
	}{
		{one, 4, 1}, {one, 5, 2}, {one, 8, 2}, {one, 9, 1}, {one, math.MaxInt, 1}, {one, math.MinInt, 1}, {next, 6, 1}, {next, 7, 3}, {"000000000000", 9, 1}, {"001000000017", 9, 0}, {"", 9, 0},
	} {
		if n := State(l, x.tag, x.t); n != x.want {
			t.Error(x, n)
		}
	}
	// Any list is accepted: its last element counts, whatever the order and the states are.
	odd := []api.TagState{state(one, 9, 7), state(one, 5, -4), state("x", 1, 2)}
	if n := State(odd, one, 9); n != -4 {
		t.Error(n)
	}
	if n := State(odd, "x", 9); n != 0 {
		t.Error(n)
	}
}
