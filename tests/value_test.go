package tests

import (
	"cmp"
	"math"
	"strconv"
	"testing"

	"loop.example/queryoptimizer/impl"
)

// invalidValues are no values.
var invalidValues = []impl.Value{
	num(10000), num(-10000), num(math.MaxInt), num(math.MinInt),
	{Null: true, N: 1}, {Null: true, N: -1}, {Null: true, N: 10000},
}

// orderedValues are values in ascending order.
var orderedValues = row("null -9999 -9998 -10 -2 -1 0 1 2 9 10 11 9998 9999")

func TestValidValue(t *testing.T) {
	for _, v := range orderedValues {
		if !impl.ValidValue(v) {
			t.Errorf("ValidValue(%v) is false", v)
		}
	}
	for _, v := range invalidValues {
		if impl.ValidValue(v) {
			t.Errorf("ValidValue(%v) is true", v)
		}
	}
}

func TestP001ValuesAreTotallyOrdered(t *testing.T) {
	for i, a := range orderedValues {
		for k, b := range orderedValues {
			want := cmp.Compare(i, k)
			if got := impl.CompareValues(a, b); got != want {
				t.Errorf("CompareValues(%v, %v) = %d, want %d", a, b, got, want)
			}
		}
	}
}

func TestP001InvalidValuesAreNotCompared(t *testing.T) {
	for _, v := range invalidValues {
		for _, w := range append([]impl.Value{v}, orderedValues...) {
			if impl.CompareValues(v, w) != 2 || impl.CompareValues(w, v) != 2 {
				t.Errorf("CompareValues of %v and %v is not 2", v, w)
			}
		}
	}
}

func TestP002DecodingAValueInvertsEncoding(t *testing.T) {
	for n := -9999; n <= 9999; n++ {
		s := impl.EncodeValue(num(n))
		if s != strconv.Itoa(n) {
			t.Fatalf("EncodeValue of %d = %q", n, s)
		}
		if v, ok := impl.DecodeValue(s); !ok || v != num(n) {
			t.Fatalf("DecodeValue(%q) = %v, %v", s, v, ok)
		}
	}
	if s := impl.EncodeValue(null); s != "null" {
		t.Errorf("EncodeValue(null) = %q", s)
	}
	if v, ok := impl.DecodeValue("null"); !ok || v != null {
		t.Errorf("DecodeValue(null) = %v, %v", v, ok)
	}
	for _, v := range invalidValues {
		if s := impl.EncodeValue(v); s != "" {
			t.Errorf("EncodeValue(%v) = %q", v, s)
		}
	}
}

// canonicalNumber reports whether a string is a number in the range, without superfluous characters.
func canonicalNumber(s string) bool {
	if s == "0" {
		return true
	}
	if len(s) > 0 && s[0] == '-' {
		s = s[1:]
	}
	if len(s) < 1 || len(s) > 4 || s[0] == '0' {
		return false
	}
	for i := range len(s) {
		if s[i] < '0' || s[i] > '9' {
			return false
		}
	}
	return true
}

// checkDecode checks the result of DecodeValue for a string.
func checkDecode(t *testing.T, s string) {
	t.Helper()
	v, ok := impl.DecodeValue(s)
	if want := s == "null" || canonicalNumber(s); ok != want {
		t.Errorf("DecodeValue(%q) returns %v", s, ok)
	}
	if !ok && v != (impl.Value{}) {
		t.Errorf("DecodeValue(%q) = %v without success", s, v)
	}
	if ok && (!impl.ValidValue(v) || impl.EncodeValue(v) != s) {
		t.Errorf("DecodeValue(%q) = %v", s, v)
	}
}

func TestP003TheTextFormOfValuesIsCanonical(t *testing.T) {
	for _, s := range []string{
		"", "null", "nul", "nulll", " null", "null ", "NULL", "Null", "-null", "+1", "1 ", " 1", "1\n", "\x00", "1\x00",
		"9999", "-9999", "10000", "-10000", "99999999999999999999", "-99999999999999999999", "00000", "0x1", "1_0", "1e1",
		"1.0", "--1", "1-", "\u0661", "\uff11", "true", "9223372036854775807", "-9223372036854775808",
	} {
		checkDecode(t, s)
	}
	last := []string{""}
	for range 5 {
		var longer []string
		for _, s := range last {
			for _, c := range "019-+ _n" {
				longer = append(longer, s+string(c))
			}
		}
		for _, s := range longer {
			checkDecode(t, s)
		}
		last = longer
	}
}

func TestP004RowsAreTotallyOrdered(t *testing.T) {
	ordered := rows("null null", "null -1", "null 0", "null 9999", "-9999 5", "-1 null", "0 -3", "0 3", "1 null", "9999 9999")
	for i, a := range ordered {
		for k, b := range ordered {
			want := cmp.Compare(i, k)
			if got := impl.CompareRows(a, b); got != want {
				t.Errorf("CompareRows(%v, %v) = %d, want %d", a, b, got, want)
			}
		}
	}
	for width := 1; width <= impl.MaxWidth; width++ {
		for c := range width {
			a, b := make([]impl.Value, width), make([]impl.Value, width)
			b[c] = num(1)
			for later := c + 1; later < width; later++ {
				a[later] = num(9)
			}
			if impl.CompareRows(a, b) != -1 || impl.CompareRows(b, a) != 1 || impl.CompareRows(b, b) != 0 {
				t.Errorf("CompareRows of %v and %v", a, b)
			}
		}
	}
}

func TestP004InvalidRowsAreNotCompared(t *testing.T) {
	wide := row("1 2 3 4 5 6 7")
	for _, c := range [][2][]impl.Value{
		{nil, nil}, {{}, {}}, {nil, row("1")}, {row("1"), row("1 2")}, {wide, wide}, {wide, wide[:6]},
		{row("1 10000"), row("2 3")}, {row("0 -10000"), row("0 -10000")}, {{{Null: true, N: 1}}, {{Null: true, N: 1}}},
		{row("1 2 3"), {num(0), num(0), {Null: true, N: 2}}},
	} {
		if impl.CompareRows(c[0], c[1]) != 2 || impl.CompareRows(c[1], c[0]) != 2 {
			t.Errorf("CompareRows of %v and %v is not 2", c[0], c[1])
		}
	}
}
