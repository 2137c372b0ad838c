package tests

import (
	"slices"
	"testing"

	"loop.example/queryoptimizer/impl"
)

// appliedAll returns the plan after some steps, and fails if they cannot be applied.
func appliedAll(t *testing.T, p impl.Plan, widths []int, steps []impl.Step) impl.Plan {
	t.Helper()
	q, ok := impl.ApplySteps(p, widths, steps)
	if !ok {
		t.Fatalf("ApplySteps(%v, %v) fails", p, steps)
	}
	return q
}

// slowNormal returns the plan and the steps of Normalize, found by the words of the document.
func slowNormal(t *testing.T, p impl.Plan, widths []int) (impl.Plan, []impl.Step) {
	t.Helper()
	var steps []impl.Step
	for len(steps) < impl.MaxSteps {
		list := slices.DeleteFunc(impl.StepsFor(p, widths), func(s impl.Step) bool {
			return slices.Contains([]int{impl.SplitFilter, impl.FilterIntoJoin, impl.CommuteJoin}, s.Rule)
		})
		if len(list) == 0 {
			break
		}
		steps = append(steps, list[0])
		p = applied(t, p, widths, list[0])
	}
	return p, steps
}

// swings returns a number of steps that merge two filters and split them again.
func swings(count int) []impl.Step {
	return slices.Repeat([]impl.Step{step(impl.MergeFilters), step(impl.SplitFilter)}, (count+1)/2)[:count]
}

func TestApplySteps(t *testing.T) {
	widths := []int{2, 1}
	x, y := scan(0), scan(1)
	f := equals(0, 2)
	p := filter(and(col(0), isNull(2)), distinct(distinct(join(f, x, y))))
	for _, c := range []struct {
		steps []impl.Step
		want  impl.Plan
	}{
		{nil, p},
		{[]impl.Step{step(impl.DropDistinct, 0)}, filter(and(col(0), isNull(2)), distinct(join(f, x, y)))},
		{[]impl.Step{step(impl.SplitFilter), step(impl.DropDistinct, 0, 0)}, filter(isNull(2), filter(col(0), distinct(join(f, x, y))))},
		{[]impl.Step{step(impl.DropDistinct, 0), step(impl.SplitFilter), step(impl.MergeFilters)}, filter(and(col(0), isNull(2)), distinct(join(f, x, y)))},
		{[]impl.Step{step(impl.CommuteJoin, 0, 0, 0), step(impl.DropDistinct, 0)}, filter(and(col(0), isNull(2)), distinct(project(join(equals(1, 0), y, x), col(1), col(2), col(0))))},
	} {
		if got := appliedAll(t, p, widths, c.steps); !equal(got, c.want) {
			t.Errorf("ApplySteps(%v) = %v, want %v", c.steps, got, c.want)
		}
		if !impl.CheckRewrite(p, c.want, widths, c.steps) {
			t.Errorf("CheckRewrite(%v, %v) is false", c.want, c.steps)
		}
	}
	for _, steps := range [][]impl.Step{
		{{}}, {step(impl.DropDistinct)}, {step(impl.DropDistinct, 0), step(impl.DropDistinct, 0)}, {step(impl.DropDistinct, 0, 0), step(impl.SplitFilter)},
		{step(impl.SplitFilter), step(impl.DropDistinct, 0)}, {step(impl.SplitFilter), step(impl.SplitFilter)}, {step(impl.SplitFilter), step(12)}, {step(impl.SplitFilter, 0)}, {step(impl.SplitFilter), step(-1)},
	} {
		if got, ok := impl.ApplySteps(p, widths, steps); ok || !equal(got, impl.Plan{}) {
			t.Errorf("ApplySteps(%v) = %v, %v", steps, got, ok)
		}
		if impl.CheckRewrite(p, impl.Plan{}, widths, steps) || impl.CheckRewrite(p, p, widths, steps) {
			t.Errorf("CheckRewrite(%v) is true", steps)
		}
	}
}

func TestMaxStepsAreApplied(t *testing.T) {
	widths := []int{2}
	p := filter(col(0), filter(col(1), scan(0)))
	merged := filter(and(col(1), col(0)), scan(0))
	for count := range impl.MaxSteps + 5 {
		want := p
		if count%2 == 1 {
			want = merged
		}
		if count > impl.MaxSteps {
			if got, ok := impl.ApplySteps(p, widths, swings(count)); ok || !equal(got, impl.Plan{}) {
				t.Errorf("ApplySteps of %d steps = %v, %v", count, got, ok)
			}
		} else if got := appliedAll(t, p, widths, swings(count)); !equal(got, want) {
			t.Errorf("ApplySteps of %d steps = %v", count, got)
		}
		if impl.CheckRewrite(p, want, widths, swings(count)) != (count <= impl.MaxSteps) {
			t.Errorf("CheckRewrite of %d steps is wrong", count)
		}
	}
}

func TestP048StepsCanBeAppliedOneAfterTheOther(t *testing.T) {
	m := &maker{state: 48}
	for _, c := range rewritablePlans(t, 48, 300) {
		steps, want := m.walk(t, c.p, c.widths, m.below(8))
		if got := appliedAll(t, c.p, c.widths, steps); !equal(got, want) {
			t.Fatalf("ApplySteps(%v, %v) = %v, want %v", c.p, steps, got, want)
		}
		for i := range len(steps) + 1 {
			middle := appliedAll(t, c.p, c.widths, steps[:i])
			if got := appliedAll(t, middle, c.widths, steps[i:]); !equal(got, want) {
				t.Fatalf("the end of %v gives %v of %v, want %v", steps, got, middle, want)
			}
		}
		if isSmall(t, want, c.db) {
			sameResult(t, c.p, want, c.db)
		}
	}
}

func TestP049CertificatesAreChecked(t *testing.T) {
	m := &maker{state: 49}
	for _, c := range rewritablePlans(t, 49, 150) {
		steps, q := m.walk(t, c.p, c.widths, m.below(4))
		if !impl.CheckRewrite(c.p, q, c.widths, steps) || !impl.CheckRewrite(c.p, c.p, c.widths, nil) {
			t.Fatalf("CheckRewrite(%v, %v, %v) is false", c.p, q, steps)
		}
		if impl.CheckRewrite(c.p, c.p, c.widths, steps) != equal(c.p, q) || impl.CheckRewrite(c.p, q, c.widths, nil) != equal(c.p, q) {
			t.Fatalf("CheckRewrite(%v, %v, %v) is wrong for exchanged or missing arguments", c.p, q, steps)
		}
		for _, other := range otherPlans(q) {
			if impl.CheckRewrite(c.p, other, c.widths, steps) {
				t.Fatalf("CheckRewrite(%v, %v, %v) is true", c.p, other, steps)
			}
		}
	}
}

func TestP049CheckedPlansMayBeInvalid(t *testing.T) {
	widths := []int{2, 1}
	for _, p := range basicPlans() {
		for i, q := range invalidPlans() {
			if impl.CheckRewrite(p, q, widths, nil) || impl.CheckRewrite(q, p, widths, nil) || impl.CheckRewrite(q, q, widths, nil) || impl.CheckRewrite(q, impl.Plan{}, widths, nil) {
				t.Errorf("CheckRewrite of %v and the invalid plan %d is true", p, i)
			}
		}
	}
	// A nil slice and an empty slice are the same value.
	empty := impl.Plan{Kind: impl.Scan, Exprs: []impl.Expr{}, Cols: []int{}, Kids: []impl.Plan{}}
	one := impl.Expr{Kind: impl.Constant, Val: num(1), Kids: []impl.Expr{}}
	if !impl.CheckRewrite(scan(0), empty, widths, []impl.Step{}) || !impl.CheckRewrite(filter(one, empty), filter(lit(1), scan(0)), widths, nil) {
		t.Error("CheckRewrite distinguishes nil slices and empty slices")
	}
	steps := []impl.Step{{Rule: impl.DropDistinct, Path: []int{}}}
	if !impl.CheckRewrite(distinct(distinct(empty)), distinct(scan(0)), widths, steps) {
		t.Error("CheckRewrite distinguishes nil paths and empty paths")
	}
}

func TestNormalize(t *testing.T) {
	widths := []int{2, 1}
	x, y := scan(0), scan(1)
	f := equals(0, 2)
	five := op(impl.EqualTo, col(2), lit(5))
	for _, c := range []struct {
		p, want impl.Plan
		steps   []impl.Step
	}{
		{x, x, nil},
		{join(f, x, y), join(f, x, y), nil},
		{filter(f, join(f, x, y)), filter(f, join(f, x, y)), nil},
		{filter(and(col(0), col(1)), x), filter(and(col(0), col(1)), x), nil},
		{filter(five, leftJoin(f, x, y)), join(f, x, filter(op(impl.EqualTo, col(0), lit(5)), y)), []impl.Step{step(impl.OuterToInner), step(impl.PushRight)}},
		{filter(lit(0), leftJoin(f, x, y)), leftJoin(f, filter(lit(0), x), y), []impl.Step{step(impl.PushLeft)}},
		{filter(lit(0), join(f, x, y)), join(f, filter(lit(0), x), y), []impl.Step{step(impl.PushLeft)}},
		{filter(isNull(2), leftJoin(f, x, y)), filter(isNull(2), leftJoin(f, x, y)), nil},
		{
			filter(five, filter(col(0), leftJoin(f, x, y))), filter(and(col(0), five), join(f, x, y)),
			[]impl.Step{step(impl.MergeFilters), step(impl.OuterToInner)},
		},
		{
			filter(col(0), project(union(x, distinct(distinct(x))), col(1))), project(union(filter(col(1), x), filter(col(1), distinct(x))), col(1)),
			[]impl.Step{step(impl.FilterProject), step(impl.FilterUnion, 0), step(impl.DropDistinct, 0, 1, 0)},
		},
		{
			project(project(filter(lit(1), join(lit(1), y, x)), col(1), col(2)), col(1)), project(join(lit(1), filter(lit(1), y), x), col(2)),
			[]impl.Step{step(impl.MergeProjects), step(impl.PushLeft, 0)},
		},
		{distinct(distinct(group(x, 0))), group(x, 0), []impl.Step{step(impl.DropDistinct), step(impl.DropDistinct)}},
	} {
		got, steps := impl.Normalize(c.p, widths)
		if !equal(got, c.want) || !equal(steps, c.steps) {
			t.Errorf("Normalize(%v) = %v, %v, want %v, %v", c.p, got, steps, c.want, c.steps)
		}
		if impl.IsNormal(c.p, widths) != (len(c.steps) == 0) || !impl.IsNormal(c.want, widths) {
			t.Errorf("IsNormal(%v) or IsNormal(%v) is wrong", c.p, c.want)
		}
		for _, db := range ruleTables(t) {
			sameResult(t, c.p, c.want, db)
		}
	}
}

func TestNormalizeFollowsTheWordsOfTheDocument(t *testing.T) {
	for _, c := range rewritablePlans(t, 8, 400) {
		want, list := slowNormal(t, c.p, c.widths)
		if got, steps := impl.Normalize(c.p, c.widths); !equal(got, want) || !equal(steps, list) {
			t.Fatalf("Normalize(%v) = %v, %v, want %v, %v", c.p, got, steps, want, list)
		}
	}
}

func TestNormalizeStopsAfterMaxSteps(t *testing.T) {
	widths := []int{1}
	for _, c := range []struct {
		unions, steps int
		normal        bool
	}{{0, 0, true}, {1, 1, true}, {39, 39, true}, {40, 40, true}, {41, 40, false}, {63, 40, false}} {
		p := filter(not(col(0)), unions(c.unions))
		q, steps := impl.Normalize(p, widths)
		if len(steps) != c.steps || impl.IsNormal(q, widths) != c.normal || !impl.CheckRewrite(p, q, widths, steps) {
			t.Errorf("Normalize of a filter above %d unions has %d steps and the plan %v", c.unions, len(steps), q)
		}
		_, rest := impl.Normalize(q, widths)
		if len(rest) != c.unions-c.steps {
			t.Errorf("Normalize of the result for %d unions has %d steps", c.unions, len(rest))
		}
	}
}

func TestP050NormalizationIsCertified(t *testing.T) {
	changed := 0
	for _, c := range rewritablePlans(t, 50, 400) {
		q, steps := impl.Normalize(c.p, c.widths)
		if !impl.CheckRewrite(c.p, q, c.widths, steps) || len(steps) < impl.MaxSteps && !impl.IsNormal(q, c.widths) {
			t.Fatalf("Normalize(%v) = %v, %v", c.p, q, steps)
		}
		if len(steps) > 1 {
			changed++
		}
	}
	if changed < 100 {
		t.Errorf("only %d plans are normalized by several steps", changed)
	}
}

func TestP051NormalizationKeepsTheResult(t *testing.T) {
	for _, c := range rewritablePlans(t, 51, 400) {
		if q, _ := impl.Normalize(c.p, c.widths); isSmall(t, q, c.db) {
			sameResult(t, c.p, q, c.db)
		}
	}
}

func TestP052NormalPlansAreNotChanged(t *testing.T) {
	normal := 0
	for _, c := range rewritablePlans(t, 52, 400) {
		q, steps := impl.Normalize(c.p, c.widths)
		if impl.IsNormal(c.p, c.widths) != (len(steps) == 0) {
			t.Fatalf("IsNormal(%v) is %v, but Normalize applies %v", c.p, impl.IsNormal(c.p, c.widths), steps)
		}
		if len(steps) > 0 {
			continue
		}
		normal++
		if !equal(c.p, q) {
			t.Fatalf("Normalize(%v) = %v without steps", c.p, q)
		}
	}
	if normal < 50 || normal > 350 {
		t.Errorf("%d of 400 plans are normal", normal)
	}
}

func TestP149NormalizationKeepsTheWidth(t *testing.T) {
	for _, c := range rewritablePlans(t, 149, 400) {
		q, _ := impl.Normalize(c.p, c.widths)
		sameTables(t, c.p, q, c.widths)
	}
}

func TestInvalidArgumentsHaveNoCertificates(t *testing.T) {
	nothing := func(p impl.Plan, widths []int) bool {
		q, ok := impl.ApplySteps(p, widths, nil)
		n, steps := impl.Normalize(p, widths)
		return !ok && equal(q, impl.Plan{}) && equal(n, impl.Plan{}) && steps == nil && !impl.IsNormal(p, widths) && !impl.CheckRewrite(p, p, widths, nil)
	}
	for i, p := range invalidPlans() {
		if !nothing(p, []int{2, 1}) {
			t.Errorf("the invalid plan %d has a certificate or a normal form", i)
		}
	}
	for _, widths := range [][]int{nil, {}, {0}, {-1}, {7}, {1, 0}, {1, 7}, {1, 1, 1, 1, 1}} {
		if !nothing(scan(0), widths) || !nothing(distinct(distinct(scan(0))), widths) {
			t.Errorf("a plan has a certificate or a normal form for the widths %v", widths)
		}
	}
	if nothing(scan(0), []int{2, 1}) {
		t.Error("a valid plan has no certificate")
	}
}
