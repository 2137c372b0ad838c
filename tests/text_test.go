package tests

import (
	"slices"
	"strings"
	"testing"

	"loop.example/queryoptimizer/impl"
)

func TestExpressionTexts(t *testing.T) {
	for text, e := range map[string]impl.Expr{
		"#0": col(0), "#5": col(5), "0": lit(0), "-1": lit(-1), "9999": lit(9999), "-9999": lit(-9999), "null": val(null),
		"(+ #0 1)": op(impl.Plus, col(0), lit(1)), "(- #0 -1)": op(impl.Minus, col(0), lit(-1)), "(* -9999 9999)": op(impl.Times, lit(-9999), lit(9999)),
		"(= #1 #0)": equals(1, 0), "(< null 0)": op(impl.LessThan, val(null), lit(0)), "(and #0 #1)": and(col(0), col(1)), "(or #1 #0)": op(impl.OrExpr, col(1), col(0)),
		"(not -5)": not(lit(-5)), "(null #3)": isNull(3), "(null null)": op(impl.NullTest, val(null)), "(null (null null))": op(impl.NullTest, op(impl.NullTest, val(null))),
		"(- (- -1 -2) (- #0 #1))":             op(impl.Minus, op(impl.Minus, lit(-1), lit(-2)), op(impl.Minus, col(0), col(1))),
		"(and (< #0 -3) (null #1))":           and(op(impl.LessThan, col(0), lit(-3)), isNull(1)),
		"(or (not (+ #0 1)) (* 2 (null #2)))": op(impl.OrExpr, not(op(impl.Plus, col(0), lit(1))), op(impl.Times, lit(2), isNull(2))),
	} {
		checkExprForm(t, e, text)
	}
}

func TestP123DecodingAnExpressionInvertsEncoding(t *testing.T) {
	for n := -9999; n <= 9999; n++ {
		checkExprForm(t, lit(n), impl.EncodeValue(num(n)))
	}
	for kind, name := range exprNames {
		kids := []impl.Expr{col(2), lit(-7)}[:2-kind/impl.NotExpr]
		checkExprForm(t, op(kind, kids...), []string{"(" + name + " #2 -7)", "(" + name + " #2)"}[2-len(kids)])
	}
	for _, c := range someExprs(2000, impl.MaxLevels) {
		checkExprForm(t, c.e, slowExprText(c.e))
	}
}

func TestP123LimitsOfEncodedExpressions(t *testing.T) {
	for _, leaf := range []impl.Expr{col(5), lit(-9999), val(null)} {
		for levels := range impl.MaxLevels + 1 {
			checkExprForm(t, nested(levels, leaf), strings.Repeat("(not ", levels)+slowExprText(leaf)+strings.Repeat(")", levels))
		}
	}
	checkExprForm(t, bush(impl.MaxLevels), slowExprText(bush(impl.MaxLevels)))
	for i, e := range append(invalidExprs(), nested(100000, col(0))) {
		if s := impl.EncodeExpr(e); s != "" {
			t.Errorf("EncodeExpr of the invalid expression %d = %q", i, s)
		}
	}
	// A nil slice and an empty slice are the same value.
	if s := impl.EncodeExpr(impl.Expr{Kind: impl.Constant, Kids: []impl.Expr{}}); s != "0" {
		t.Errorf("EncodeExpr of a constant with an empty slice = %q", s)
	}
}

// malformedExprs are texts that no expression has.
func malformedExprs() []string {
	list := []string{
		"", " ", "(", ")", "()", "( )", ")(", "(())", "#0 #1", "1 2", "#0)", "(#0", "(#0)", "(1)", "(null)", "((not #0))", "(not)", "(not )", "(not #0", "(not #0))", "not #0", "(not #0) ", " (not #0)", "(not #0)\n", "\n(not #0)",
		"( not #0)", "(not  #0)", "(not #0 )", "(not#0)", "(not(not #0))", "(not (not #0)", "(not #0 #1)", "(not\t#0)", "(NOT #0)", "(Not #0)", "(no #0)", "(nott #0)", "(- #0)", "(-#0 #1)", "(-1 #0)", "(- #0 #1 #2)", "(+ #0)", "(+ #0 )", "(+ #0  #1)", "(+ #0#1)",
		"(+ (not #0)(not #1))", "(null #0 #1)", "(null null null)", "(and #0 #1 #2)", "(and (or #0 #1) #2", "(or)", "(or #0)", "(> #0 #1)", "(<= #0 #1)", "(== #0 #1)", "(xor #0 #1)", "(constant 1)", "(column 0)", "(# 0)", "(#0 #1 #2)", "(3 #0 #1)", "(+, #0, #1)", "[+ #0 #1]",
		"(not (scan 0))", "(not scan)", "(distinct #0)", "\x00", "(\x00 #0)", "\xff", "(not \xff)", "(é #0)", "(not #0)(not #0)", "(not #0)#0", "#0(not #0)",
		strings.Repeat("(not ", impl.MaxLevels+1) + "#0" + strings.Repeat(")", impl.MaxLevels+1),
		"(+ #0 " + strings.Repeat("(not ", impl.MaxLevels) + "#0" + strings.Repeat(")", impl.MaxLevels+1),
		"(+ " + strings.Repeat("(not ", impl.MaxLevels) + "#0" + strings.Repeat(")", impl.MaxLevels) + " #0)",
	}
	for _, word := range slices.Concat(wrongNumbers, wrongColumnTexts) {
		list = append(list, word, "(not "+word+")", "(+ #0 "+word+")", "(+ "+word+" #0)")
	}
	return list
}

// longTexts are texts that are much longer than those of expressions and plans, or nested far deeper.
func longTexts() []string {
	var list []string
	for _, part := range []string{"(", ")", " ", "#", "0", "9", "-", "(not ", "(+ #0 ", "(+ ", "(null ", "(distinct ", "(union (scan 0) ", "(union ", "(filter #0 ", "(filter ", "(project #0 ", "(project ", "(group ", "(group #0 ", "(project #0 #0 #0 #0 #0 #0 #0 ", "not", "scan", "x", " #0", " (scan 0)", "(scan 0)"} {
		list = append(list, strings.Repeat(part, 300000))
	}
	for _, middle := range []string{"#0", "(scan 0)"} {
		for _, part := range []string{"(not ", "(distinct ", "(group ", "(filter #0 "} {
			list = append(list, strings.Repeat(part, 300000)+middle+strings.Repeat(")", 300000))
		}
	}
	return append(list, "(group"+strings.Repeat(" #0", 300000)+" (scan 0))", "(project"+strings.Repeat(" #0", 300000)+" (scan 0))", "(scan "+strings.Repeat("0", 1000000)+")", "(not "+strings.Repeat("1", 1000000)+")", "#"+strings.Repeat("1", 1000000))
}

func TestP124MalformedExpressionTexts(t *testing.T) {
	for _, text := range slices.Concat(malformedExprs(), longTexts(), []string{"(scan 0)", "(filter #0 (scan 0))"}) {
		refusesExpr(t, text)
	}
}

func TestP124TheTextFormOfExpressionsIsCanonical(t *testing.T) {
	texts := []string{"#0", "-1", "9999", "null", "(- #0 -10)", "(null null)", "(not (not #5))", "(and (< #0 -3) (null #1))"}
	for _, c := range someExprs(25, 3) {
		texts = append(texts, slowExprText(c.e))
	}
	checkEdits(t, texts, func(text string) bool { return isExprForm(t, text) })
}

func TestP124OnlyTextFormsAreDecoded(t *testing.T) {
	want := []string{"#0", "null", "(not #0)", "(not null)", "(null #0)", "(null null)", "(= #0 #0)", "(= #0 null)", "(= null #0)", "(= null null)"}
	var got []string
	sequences([]string{"(", ")", " ", "#0", "null", "not", "="}, 7, func(text string) {
		if isExprForm(t, text) {
			got = append(got, text)
		}
	})
	slices.Sort(want)
	slices.Sort(got)
	if !equal(got, want) {
		t.Errorf("the texts %q are decoded, want %q", got, want)
	}
}

func TestTextsThatAreNestedVeryDeeply(t *testing.T) {
	// So many nested calls would not fit onto the stack.
	for _, part := range []string{"(not ", "(+ #0 ", "(distinct ", "(union (scan 0) "} {
		text := strings.Repeat(part, 8000000)
		refusesExpr(t, text)
		refusesPlan(t, text, []int{1})
		if got := impl.RunSession([]impl.Table{{Width: 1}}, []string{"load " + text}); got != "no\n" {
			t.Errorf("RunSession of a text of %q = %q", part, got)
		}
	}
	refusesPlan(t, "(filter "+strings.Repeat("(not ", 8000000), []int{1})
}

func TestPlanTexts(t *testing.T) {
	widths := []int{2, 1}
	for text, p := range map[string]impl.Plan{
		"(scan 0)": scan(0), "(scan 1)": scan(1), "(filter #1 (scan 0))": filter(col(1), scan(0)), "(filter (< #0 -3) (scan 1))": filter(op(impl.LessThan, col(0), lit(-3)), scan(1)),
		"(project #1 (scan 0))": project(scan(0), col(1)), "(project -3 (null #0) #1 (scan 0))": project(scan(0), lit(-3), isNull(0), col(1)),
		"(project #0 #1 #0 #1 0 null (scan 0))": project(scan(0), col(0), col(1), col(0), col(1), lit(0), val(null)),
		"(join (= #0 #2) (scan 0) (scan 1))":    join(equals(0, 2), scan(0), scan(1)), "(join 1 (scan 1) (scan 0))": join(lit(1), scan(1), scan(0)),
		"(left null (scan 0) (distinct (scan 1)))": leftJoin(val(null), scan(0), distinct(scan(1))),
		"(union (scan 0) (filter #0 (scan 0)))":    union(scan(0), filter(col(0), scan(0))), "(distinct (scan 1))": distinct(scan(1)),
		"(group (scan 0))": group(scan(0)), "(group #0 (scan 0))": group(scan(0), 0), "(group #0 #1 (scan 0))": group(scan(0), 0, 1), "(group #1 (group #0 #1 (scan 0)))": group(group(scan(0), 0, 1), 1),
		"(project (null (null 0)) (union (scan 1) (scan 1)))": project(union(scan(1), scan(1)), op(impl.NullTest, op(impl.NullTest, lit(0)))),
	} {
		checkPlanForm(t, p, widths, text)
	}
	checkPlanForm(t, group(scan(0), 0, 1, 2, 4, 5), []int{6}, "(group #0 #1 #2 #4 #5 (scan 0))")
	checkPlanForm(t, scan(3), []int{1, 2, 3, 6}, "(scan 3)")
}

func TestP125DecodingAPlanInvertsEncoding(t *testing.T) {
	for _, list := range [][]somePlan{somePlans(t, 125, 300), rewritablePlans(t, 1250, 300)} {
		for _, c := range list {
			checkPlanForm(t, c.p, c.widths, slowPlanText(c.p))
		}
	}
	m := &maker{state: 125}
	for range 300 {
		widths := []int{1 + m.below(6), 1 + m.below(6), 1 + m.below(6)}[m.below(3):]
		p, _ := m.plan(widths, impl.MaxDepth)
		checkPlanForm(t, p, widths, slowPlanText(p))
	}
}

func TestP125LimitsOfEncodedPlans(t *testing.T) {
	widths := []int{2, 1}
	for levels := range impl.MaxDepth + 1 {
		checkPlanForm(t, stacked(levels, scan(1)), widths, strings.Repeat("(distinct ", levels)+"(scan 1)"+strings.Repeat(")", levels))
	}
	checkPlanForm(t, thicket(impl.MaxDepth), widths, slowPlanText(thicket(impl.MaxDepth)))
	deep := stacked(impl.MaxDepth-1, filter(nested(impl.MaxLevels, col(1)), scan(0)))
	checkPlanForm(t, deep, widths, slowPlanText(deep))
	for i, p := range append(invalidPlans(), stacked(100000, scan(0))) {
		if s := impl.EncodePlan(p, widths); s != "" {
			t.Errorf("EncodePlan of the invalid plan %d = %q", i, s)
		}
	}
	for _, wrong := range [][]int{nil, {0}, {-1}, {7}, {2, 0}, {2, 7}, {1, 1, 1, 1, 1}} {
		if s := impl.EncodePlan(scan(0), wrong); s != "" {
			t.Errorf("EncodePlan for the widths %v = %q", wrong, s)
		}
		refusesPlan(t, "(scan 0)", wrong)
		refusesPlan(t, "", wrong)
	}
}

// malformedPlans are texts that no plan for the widths 2 and 1 has.
func malformedPlans() []string {
	list := []string{
		"", " ", "(", ")", "()", "scan", "scan 0", "(scan)", "(scan )", "(scan 0", "(scan 0))", "scan 0)", "( scan 0)", "(scan  0)", "(scan 0 )", " (scan 0)", "(scan 0) ", "(scan 0)\n", "((scan 0))", "(scan0)", "(scan 0 0)", "(scan 2)", "(scan 4)", "(scan -1)", "(scan #0)", "(scan null)", "(scan (scan 0))",
		"(Scan 0)", "(scans 0)", "(sca 0)", "(0)", "(1 0)", "#0", "0", "null", "(not #0)", "(scan 0)(scan 0)", "(scan 0) (scan 0)",
		"(filter (scan 0))", "(filter #0)", "(filter #0 )", "(filter #0 (scan 0)", "(filter #0 (scan 0)))", "(filter #0  (scan 0))", "(filter  #0 (scan 0))", "(filter #0 (scan 0) )", "(filter #0(scan 0))", "(filter (scan 0) #0)", "(filter #0 #1 (scan 0))", "(filter #0 (scan 0) (scan 0))", "(filter #0 0)", "(filter #0 #0)", "(filter 0 #0 (scan 0))", "(filter (scan 0) (scan 0))",
		"(filter #1 (scan 1))", "(filter #2 (scan 0))", "(filter (not (+ #0 #5)) (scan 0))", "(filter (not) (scan 0))", "(filter (nott #0) (scan 0))", "(filter (not #0 (scan 0))",
		"(project (scan 0))", "(project  (scan 0))", "(project #0)", "(project #0 #1)", "(project (scan 0) #0)", "(project #0 (scan 0) #0)", "(project #0 (scan 0) (scan 0))", "(project #0  #1 (scan 0))", "(project #0 #1  (scan 0))", "(project #0 #2 (scan 0))", "(project #0 #0 #0 #0 #0 #0 #0 (scan 0))", "(project #0 (not #0)(scan 0))",
		"(join #0 (scan 0))", "(join (scan 0) (scan 1))", "(join #3 (scan 0) (scan 1))", "(join #0 (scan 0)(scan 1))", "(join #0 (scan 0) (scan 1) (scan 1))", "(join #0 #1 (scan 0) (scan 1))", "(join (scan 0) #0 (scan 1))", "(join (scan 0) (scan 1) #0)",
		"(leftjoin #0 (scan 0) (scan 1))", "(left (scan 0) (scan 1))", "(left #0 (scan 0))", "(left #3 (scan 0) (scan 1))", "(left #0 (scan 0) (scan 1) 0)",
		"(union (scan 0))", "(union (scan 0) (scan 1))", "(union (scan 0)  (scan 0))", "(union (scan 0) (scan 0) (scan 0))", "(union #0 (scan 0) (scan 0))", "(union (scan 0)(scan 0))", "(union)", "(union 0 0)",
		"(distinct)", "(distinct (scan 0) (scan 0))", "(distinct #0 (scan 0))", "(distinct 0)", "(distinct 0 (scan 0))", "(distinct(scan 0))", "(distinct (scan 0)", "(distinct  (scan 0))",
		"(group)", "(group #0)", "(group #0 )", "(group 0 (scan 0))", "(group #1 #0 (scan 0))", "(group #0 #0 (scan 0))", "(group #2 (scan 0))", "(group #0  #1 (scan 0))", "(group #0#1 (scan 0))", "(group  (scan 0))", "(group (scan 0) #0)", "(group (not #0) (scan 0))", "(group #0 (not #0) (scan 0))", "(group null (scan 0))", "(group #0 #1 #2 (scan 0))", "(group#0 (scan 0))",
		strings.Repeat("(distinct ", impl.MaxDepth+1) + "(scan 0)" + strings.Repeat(")", impl.MaxDepth+1),
		"(union (scan 0) " + strings.Repeat("(distinct ", impl.MaxDepth) + "(scan 0)" + strings.Repeat(")", impl.MaxDepth+1),
		"(union " + strings.Repeat("(distinct ", impl.MaxDepth) + "(scan 0)" + strings.Repeat(")", impl.MaxDepth) + " (scan 0))",
		"(filter " + strings.Repeat("(not ", impl.MaxLevels+1) + "#0" + strings.Repeat(")", impl.MaxLevels+1) + " (scan 0))",
	}
	for _, word := range wrongNumbers {
		list = append(list, "(scan "+word+")", "(filter "+word+" (scan 0))", "(group "+word+" (scan 0))")
	}
	for _, word := range wrongColumnTexts {
		list = append(list, "(scan "+word+")", "(filter "+word+" (scan 0))", "(group "+word+" (scan 0))", "(project #0 "+word+" (scan 0))", "(group #0 "+word+" (scan 0))")
	}
	return list
}

func TestP126MalformedPlanTexts(t *testing.T) {
	for _, text := range slices.Concat(malformedPlans(), malformedExprs(), longTexts()) {
		refusesPlan(t, text, []int{2, 1})
	}
}

func TestP126TheTextFormOfPlansIsCanonical(t *testing.T) {
	widths := []int{2, 1}
	var texts []string
	for _, p := range append(basicPlans(), group(scan(0)), group(group(scan(0), 0, 1), 0, 2), filter(and(col(0), op(impl.LessThan, lit(-3), col(1))), union(scan(0), scan(0))), project(distinct(scan(1)), val(null), not(col(0)), lit(-10))) {
		texts = append(texts, slowPlanText(p))
	}
	m := &maker{state: 126}
	for range 15 {
		p, _ := m.plan(widths, 2)
		texts = append(texts, slowPlanText(p))
	}
	checkEdits(t, texts, func(text string) bool { return isPlanForm(t, text, widths) })
}

func TestP126OnlyTextFormsAreDecoded(t *testing.T) {
	want := []string{"(filter #0 (scan 0))", "(group #0 (scan 0))", "(group (group (scan 0)))", "(group (scan 0))", "(scan 0)"}
	var got []string
	sequences([]string{"(filter", "(group", "(scan 0)", ")", " ", "#0"}, 7, func(text string) {
		if isPlanForm(t, text, []int{1}) {
			got = append(got, text)
		}
	})
	slices.Sort(want)
	slices.Sort(got)
	if !equal(got, want) {
		t.Errorf("the texts %q are decoded, want %q", got, want)
	}
}

func TestTextsDependOnTheWidths(t *testing.T) {
	for _, c := range []struct {
		text   string
		widths []int
		ok     bool
	}{
		{"(scan 1)", []int{1}, false}, {"(scan 1)", []int{1, 6}, true}, {"(scan 3)", []int{1, 1, 1, 1}, true}, {"(scan 4)", []int{1, 1, 1, 1, 1}, false},
		{"(filter #5 (scan 0))", []int{6}, true}, {"(filter #5 (scan 0))", []int{5}, false}, {"(project (+ #0 #3) (scan 0))", []int{4}, true}, {"(project (+ #0 #3) (scan 0))", []int{3}, false},
		{"(join (= #2 #3) (scan 0) (scan 1))", []int{3, 1}, true}, {"(join (= #2 #3) (scan 0) (scan 1))", []int{1, 3}, true}, {"(join (= #2 #3) (scan 0) (scan 1))", []int{2, 1}, false}, {"(join (= #2 #3) (scan 0) (scan 1))", []int{4, 3}, false},
		{"(union (scan 0) (scan 1))", []int{3, 3}, true}, {"(union (scan 0) (scan 1))", []int{3, 2}, false},
		{"(group #0 #4 (scan 0))", []int{5}, true}, {"(group #0 #4 (scan 0))", []int{4}, false}, {"(group #0 #1 #2 #3 #4 #5 (scan 0))", []int{6}, false},
	} {
		if isPlanForm(t, c.text, c.widths) != c.ok {
			t.Errorf("DecodePlan(%q, %v) returns %v", c.text, c.widths, !c.ok)
		}
	}
}
