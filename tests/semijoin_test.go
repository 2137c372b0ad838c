package tests

import (
	"slices"
	"testing"

	"loop.example/queryoptimizer/impl"
)

func TestSemijoins(t *testing.T) {
	a := table(t, 2, "null null", "null 1", "null 1", "-9999 2", "0 2", "1 1", "1 1", "1 5", "2 null", "9999 3")
	b := table(t, 3, "null 7 1", "1 0 null", "1 2 null", "3 2 2", "9999 9999 2")
	none, noNulls := impl.Table{Width: 3}, table(t, 3, "1 0 -9999", "1 2 5", "3 2 2", "9999 9999 2")
	for _, c := range []struct {
		name             string
		c                joinCase
		semi, anti, noIn []string
	}{
		{"the first columns", joinCase{a, b, 0, 0}, []string{"1 1", "1 1", "1 5", "9999 3"}, []string{"null null", "null 1", "null 1", "-9999 2", "0 2", "2 null"}, nil},
		{"the last columns", joinCase{a, b, 1, 2}, []string{"null 1", "null 1", "-9999 2", "0 2", "1 1", "1 1"}, []string{"null null", "1 5", "2 null", "9999 3"}, nil},
		{"a column without nulls", joinCase{a, b, 1, 1}, []string{"-9999 2", "0 2"}, []string{"null null", "null 1", "null 1", "1 1", "1 1", "1 5", "2 null", "9999 3"}, []string{"null 1", "null 1", "1 1", "1 1", "1 5", "9999 3"}},
		{"the first columns, without nulls on the right", joinCase{a, noNulls, 0, 0}, []string{"1 1", "1 1", "1 5", "9999 3"}, []string{"null null", "null 1", "null 1", "-9999 2", "0 2", "2 null"}, []string{"-9999 2", "0 2", "2 null"}},
		{"the first and the last column, without nulls on the right", joinCase{a, noNulls, 0, 2}, []string{"-9999 2", "2 null"}, []string{"null null", "null 1", "null 1", "0 2", "1 1", "1 1", "1 5", "9999 3"}, []string{"0 2", "1 1", "1 1", "1 5", "9999 3"}},
		{"no rows on the right", joinCase{a, none, 0, 2}, nil, []string{"null null", "null 1", "null 1", "-9999 2", "0 2", "1 1", "1 1", "1 5", "2 null", "9999 3"}, []string{"null null", "null 1", "null 1", "-9999 2", "0 2", "1 1", "1 1", "1 5", "2 null", "9999 3"}},
		{"no rows on the left", joinCase{impl.Table{Width: 2}, b, 1, 0}, nil, nil, nil},
		{"no rows on both sides", joinCase{impl.Table{Width: 2}, none, 0, 0}, nil, nil, nil},
		{"nulls alone on the left", joinCase{table(t, 2, "null 1", "null 2"), noNulls, 0, 0}, nil, []string{"null 1", "null 2"}, nil},
		{"nulls alone on the right", joinCase{a, table(t, 1, "null", "null"), 1, 0}, nil, []string{"null null", "null 1", "null 1", "-9999 2", "0 2", "1 1", "1 1", "1 5", "2 null", "9999 3"}, nil},
		{"nulls alone on both sides", joinCase{table(t, 1, "null", "null"), table(t, 1, "null"), 0, 0}, nil, []string{"null", "null"}, nil},
		{"nulls alone on the left, no rows on the right", joinCase{table(t, 1, "null", "null"), none, 0, 0}, nil, []string{"null", "null"}, []string{"null", "null"}},
		{"a null in another column", joinCase{table(t, 1, "1", "2", "3"), table(t, 2, "null 2", "5 7"), 0, 1}, []string{"2"}, []string{"1", "3"}, []string{"1", "3"}},
		{"both have MaxWidth columns", joinCase{table(t, 6, "1 2 3 4 5 6", "1 2 3 4 5 7"), table(t, 6, "6 6 6 6 6 7"), 5, 0}, []string{"1 2 3 4 5 6"}, []string{"1 2 3 4 5 7"}, []string{"1 2 3 4 5 7"}},
	} {
		for _, f := range []struct {
			name string
			f    matching
			want []string
		}{{"SemiJoin", impl.SemiJoin, c.semi}, {"AntiJoin", impl.AntiJoin, c.anti}, {"NotIn", impl.NotIn, c.noIn}} {
			if got := matched(t, f.f, c.c); !equal(got, impl.Table{Width: c.c.a.Width, Rows: rows(f.want...)}) {
				t.Errorf("%s: %s = %v, want %q", c.name, f.name, shown(got), f.want)
			}
		}
	}
	most := tableOf(t, 1, numbered(0, impl.MaxRows))
	c := joinCase{most, most, 0, 0}
	if x, y, z := matched(t, impl.SemiJoin, c), matched(t, impl.AntiJoin, c), matched(t, impl.NotIn, c); !equal(x, most) || len(y.Rows) != 0 || len(z.Rows) != 0 {
		t.Errorf("SemiJoin, AntiJoin and NotIn of MaxRows rows with themselves = %v, %v, %v", shown(x), shown(y), shown(z))
	}
}

func TestSemijoinsOfInvalidArguments(t *testing.T) {
	for name, f := range map[string]matching{"SemiJoin": impl.SemiJoin, "AntiJoin": impl.AntiJoin, "NotIn": impl.NotIn} {
		for _, c := range wrongMatches(t) {
			if x, ok := f(c.a, c.b, c.ca, c.cb); ok || !equal(x, impl.Table{}) {
				t.Errorf("%s of %v = %v, %v", name, c, x, ok)
			}
		}
	}
}

// hasMatch reports whether the value of a row in the column of a case is a number that the other column has.
func hasMatch(c joinCase, r []impl.Value) bool {
	return !r[c.ca].Null && slices.Contains(columnOf(c.b, c.cb), r[c.ca])
}

func TestP106SemiJoinAndAntiJoinDivideATable(t *testing.T) {
	divided := 0
	for _, c := range matchCases(t) {
		semi, anti := matched(t, impl.SemiJoin, c), matched(t, impl.AntiJoin, c)
		if u := unionOf(t, semi, anti); !equal(u, c.a) {
			t.Fatalf("SemiJoin of %v = %v, AntiJoin = %v", c, shown(semi), shown(anti))
		}
		for _, r := range semi.Rows {
			if !hasMatch(c, r) {
				t.Fatalf("SemiJoin of %v has the row %v", c, r)
			}
		}
		if again := matched(t, impl.SemiJoin, joinCase{semi, c.b, c.ca, c.cb}); !equal(again, semi) {
			t.Fatalf("SemiJoin of %v = %v, and of this %v", c, shown(semi), shown(again))
		}
		if len(semi.Rows) > 0 && len(anti.Rows) > 0 {
			divided++
		}
	}
	if divided < 2000 {
		t.Errorf("only %d tables are divided", divided)
	}
}

func TestP107ASemijoinHasTheJoinedRows(t *testing.T) {
	for _, c := range joinCases(t) {
		semi, joined := matched(t, impl.SemiJoin, c), hashJoined(t, c, 3)
		if len(slowJoin(c)) > impl.MaxRows {
			continue
		}
		for _, r := range c.a.Rows {
			want := 0
			if slices.ContainsFunc(joined.Rows, func(s []impl.Value) bool { return slices.Equal(s[:c.a.Width], r) }) {
				want = countOf(c.a.Rows, r)
			}
			if got := impl.CountRow(semi, r); got != want {
				t.Fatalf("SemiJoin of %v = %v, which has the row %v %d times, want %d", c, shown(semi), r, got, want)
			}
		}
		if slices.ContainsFunc(semi.Rows, func(r []impl.Value) bool { return impl.CountRow(c.a, r) == 0 }) {
			t.Fatalf("SemiJoin of %v = %v", c, shown(semi))
		}
	}
}

func TestP108SemijoinsDoNotChangeAJoin(t *testing.T) {
	for _, c := range joinCases(t) {
		want, semi := hashJoined(t, c, 5), matched(t, impl.SemiJoin, c)
		if got := hashJoined(t, joinCase{semi, c.b, c.ca, c.cb}, 5); !equal(got, want) {
			t.Fatalf("HashJoin of %v = %v, with SemiJoin %v", c, shown(want), shown(got))
		}
	}
}

func TestP109AntijoinsKeepNulls(t *testing.T) {
	kept := 0
	for _, c := range matchCases(t) {
		anti := matched(t, impl.AntiJoin, c)
		for _, r := range c.a.Rows {
			if r[c.ca].Null {
				kept++
			}
			if r[c.ca].Null && impl.CountRow(anti, r) != countOf(c.a.Rows, r) {
				t.Fatalf("AntiJoin of %v = %v", c, shown(anti))
			}
		}
		for _, r := range anti.Rows {
			if hasMatch(c, r) {
				t.Fatalf("AntiJoin of %v has the row %v", c, r)
			}
		}
	}
	if kept < 5000 {
		t.Errorf("only %d rows have nulls", kept)
	}
}

func TestP110NotInIsStricterThanNotExists(t *testing.T) {
	stricter, some := 0, 0
	for _, c := range matchCases(t) {
		got, anti := matched(t, impl.NotIn, c), matched(t, impl.AntiJoin, c)
		if !impl.IsSubtable(got, anti) {
			t.Fatalf("NotIn of %v = %v, AntiJoin = %v", c, shown(got), shown(anti))
		}
		others := columnOf(c.b, c.cb)
		if slices.Contains(others, null) && len(got.Rows) > 0 || len(others) == 0 && !equal(got, c.a) {
			t.Fatalf("NotIn of %v = %v", c, shown(got))
		}
		if want := slowNotIn(t, c); !equal(got, want) {
			t.Fatalf("NotIn of %v = %v, want %v", c, shown(got), shown(want))
		}
		if len(got.Rows) > 0 {
			some++
		}
		if len(got.Rows) < len(anti.Rows) {
			stricter++
		}
	}
	if stricter < 2000 || some < 2000 {
		t.Errorf("only %d are smaller than AntiJoin, only %d have rows", stricter, some)
	}
}

// slowNotIn returns the rows whose value is different from each value of the other column, where a comparison with null is not true.
func slowNotIn(t *testing.T, c joinCase) impl.Table {
	t.Helper()
	var list [][]impl.Value
	for _, r := range c.a.Rows {
		different := true
		for _, v := range columnOf(c.b, c.cb) {
			different = different && isTrue(t, not(op(impl.EqualTo, val(r[c.ca]), val(v))), r)
		}
		if different {
			list = append(list, r)
		}
	}
	return tableOf(t, c.a.Width, list)
}

func TestP111WithoutNullsNotInIsNotExists(t *testing.T) {
	found := 0
	for _, c := range matchCases(t) {
		if slices.Contains(columnOf(c.a, c.ca), null) || slices.Contains(columnOf(c.b, c.cb), null) {
			continue
		}
		got, anti := matched(t, impl.NotIn, c), matched(t, impl.AntiJoin, c)
		if !equal(got, anti) {
			t.Fatalf("NotIn of %v = %v, AntiJoin = %v", c, shown(got), shown(anti))
		}
		if n := len(got.Rows); n > 0 && n < len(c.a.Rows) {
			found++
		}
	}
	if found < 300 {
		t.Errorf("only %d antijoins without nulls have some of the rows", found)
	}
}
