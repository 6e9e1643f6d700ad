package integer

import (
	"math"
	"testing"
)

func TestParse(t *testing.T) {
	for s, want := range map[string]int{"0": 0, "-7": -7, "2147483648": 1 << 31, "2147483649": 1<<31 + 1, "-99999999999": -99999999999, "9223372036854775807": math.MaxInt, "9223372036854775808": math.MaxInt, "-9223372036854775808": math.MinInt, "-9223372036854775809": math.MinInt, "99999999999999999999999999": math.MaxInt} {
		if n, ok := Parse(s); n != want || !ok {
			t.Error(s, n, ok)
		}
	}
	for _, s := range []string{"", "-", "-0", "00", "+1", "1_0", "99999999999999999999999x", " 1", "0x10"} {
		if n, ok := Parse(s); n != 0 || ok {
			t.Error(s, n, ok)
		}
	}
}
