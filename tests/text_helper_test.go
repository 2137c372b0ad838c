package tests

import (
	"regexp"
	"slices"
	"strconv"
	"strings"
	"testing"

	"loop.example/queryoptimizer/impl"
)

// exprNames are the names of the kinds of expressions with kids.
var exprNames = map[int]string{
	impl.Plus: "+", impl.Minus: "-", impl.Times: "*", impl.EqualTo: "=", impl.LessThan: "<",
	impl.AndExpr: "and", impl.OrExpr: "or", impl.NotExpr: "not", impl.NullTest: "null",
}

// planNames are the names of the kinds of plans.
var planNames = map[int]string{
	impl.Scan: "scan", impl.Filter: "filter", impl.Project: "project", impl.Join: "join",
	impl.LeftJoin: "left", impl.Union: "union", impl.Distinct: "distinct", impl.Group: "group",
}

// slowExprText returns the text form of a valid expression, by the words of the document.
func slowExprText(e impl.Expr) string {
	switch {
	case e.Kind == impl.Column:
		return "#" + strconv.Itoa(e.Col)
	case e.Kind == impl.Constant && e.Val.Null:
		return "null"
	case e.Kind == impl.Constant:
		return strconv.Itoa(e.Val.N)
	}
	text := "(" + exprNames[e.Kind]
	for _, kid := range e.Kids {
		text += " " + slowExprText(kid)
	}
	return text + ")"
}

// slowPlanText returns the text form of a valid plan, by the words of the document.
func slowPlanText(p impl.Plan) string {
	text := "(" + planNames[p.Kind]
	if p.Kind == impl.Scan {
		text += " " + strconv.Itoa(p.Table)
	}
	for _, c := range p.Cols {
		text += " #" + strconv.Itoa(c)
	}
	for _, e := range p.Exprs {
		text += " " + slowExprText(e)
	}
	for _, kid := range p.Kids {
		text += " " + slowPlanText(kid)
	}
	return text + ")"
}

// checkExprForm checks EncodeExpr and DecodeExpr of a valid expression and its text form.
func checkExprForm(t *testing.T, e impl.Expr, text string) {
	t.Helper()
	if got := impl.EncodeExpr(e); got != text {
		t.Fatalf("EncodeExpr(%v) = %q, want %q", e, got, text)
	}
	if got, ok := impl.DecodeExpr(text); !ok || !equal(got, e) {
		t.Fatalf("DecodeExpr(%q) = %v, %v", text, got, ok)
	}
}

// checkPlanForm checks EncodePlan and DecodePlan of a valid plan and its text form.
func checkPlanForm(t *testing.T, p impl.Plan, widths []int, text string) {
	t.Helper()
	if got := impl.EncodePlan(p, widths); got != text {
		t.Fatalf("EncodePlan(%v, %v) = %q, want %q", p, widths, got, text)
	}
	if got, ok := impl.DecodePlan(text, widths); !ok || !equal(got, p) {
		t.Fatalf("DecodePlan(%q, %v) = %v, %v", text, widths, got, ok)
	}
}

// refusesExpr fails unless a text is no text form of an expression.
func refusesExpr(t *testing.T, text string) {
	t.Helper()
	if e, ok := impl.DecodeExpr(text); ok || !equal(e, impl.Expr{}) {
		t.Errorf("DecodeExpr(%q) = %v, %v", beginning(text), e, ok)
	}
}

// refusesPlan fails unless a text is no text form of a plan for some widths.
func refusesPlan(t *testing.T, text string, widths []int) {
	t.Helper()
	if p, ok := impl.DecodePlan(text, widths); ok || !equal(p, impl.Plan{}) {
		t.Errorf("DecodePlan(%q, %v) = %v, %v", beginning(text), widths, p, ok)
	}
}

// beginning returns a text, or the beginning of a long one.
func beginning(text string) string {
	return text[:min(len(text), 200)]
}

// isExprForm reports whether DecodeExpr succeeds for a text, and fails if the text is not that of its result.
func isExprForm(t *testing.T, text string) bool {
	t.Helper()
	e, ok := impl.DecodeExpr(text)
	if !ok {
		refusesExpr(t, text)
		return false
	}
	if !impl.ValidExpr(e, impl.MaxWidth) || slowExprText(e) != text || impl.EncodeExpr(e) != text {
		t.Fatalf("DecodeExpr(%q) = %v", text, e)
	}
	return true
}

// isPlanForm reports whether DecodePlan succeeds for a text, and fails if the text is not that of its result.
func isPlanForm(t *testing.T, text string, widths []int) bool {
	t.Helper()
	p, ok := impl.DecodePlan(text, widths)
	if !ok {
		refusesPlan(t, text, widths)
		return false
	}
	if impl.PlanWidth(p, widths) == 0 || slowPlanText(p) != text || impl.EncodePlan(p, widths) != text {
		t.Fatalf("DecodePlan(%q, %v) = %v", text, widths, p)
	}
	return true
}

// wrongNumbers are texts of numbers that no number has.
var wrongNumbers = []string{
	"-0", "00", "01", "-01", "+1", "+0", "10000", "-10000", "99999", "-", "+", "--1", "1-", "1.0", "1e2", "0x1", "1_0", "- 1", "one", "NULL", "Null", "nul", "nulls", "-null",
	"9223372036854775807", "9223372036854775808", "-9223372036854775808", "18446744073709551616", "18446744073709551617", strings.Repeat("0", 300), strings.Repeat("9", 300), "1\x00", "\u0661", "\uff11", "1\n", "1\t",
}

// wrongColumnTexts are texts of columns that no column has.
var wrongColumnTexts = []string{"#", "##0", "#00", "#01", "#-1", "#-0", "#+1", "#6", "#10", "#9999", "#10000", "#null", "# 0", "#(0)", "0#", "#0#", "#0x0", "#\x00", "#18446744073709551616"}

// pieces are the parts of text forms that stand alone: parentheses, spaces, and words.
var pieces = regexp.MustCompile(`[() ]|[^() ]+`)

// edits returns texts that differ from a text in one place.
func edits(text string) []string {
	var list []string
	for i := range len(text) + 1 {
		for _, c := range "() #-+019nx\n" {
			list = append(list, text[:i]+string(c)+text[i:])
			if i < len(text) {
				list = append(list, text[:i]+string(c)+text[i+1:])
			}
		}
		if i < len(text) {
			list = append(list, text[:i]+text[i+1:], text[:i], text[i:], text[:i]+strings.ToUpper(text[i:i+1])+text[i+1:])
		}
	}
	return append(list, pieceEdits(text)...)
}

// pieceEdits returns texts that differ from a text in one or two of its pieces.
func pieceEdits(text string) []string {
	var list []string
	all := pieces.FindAllString(text, -1)
	for i := range all {
		list = append(list, strings.Join(slices.Concat(all[:i], all[i+1:]), ""), strings.Join(slices.Concat(all[:i+1], all[i:]), ""))
		for _, other := range []string{"#0", "#5", "0", "null", "not", "and", "-", "scan", "filter", "union", "group", "distinct", "(scan 0)", "(not #0)", " ", " #0", " (scan 0)", ""} {
			list = append(list, strings.Join(slices.Concat(all[:i], []string{other}, all[i+1:]), ""))
		}
		for k := range i {
			swapped := slices.Clone(all)
			swapped[i], swapped[k] = swapped[k], swapped[i]
			list = append(list, strings.Join(swapped, ""))
		}
	}
	return list
}

// checkEdits calls a check, which tells whether a text is a text form, for all texts that differ from some texts in one place, and fails unless there are many of both kinds.
func checkEdits(t *testing.T, texts []string, isForm func(text string) bool) {
	t.Helper()
	forms, others := 0, 0
	for _, text := range texts {
		for _, other := range edits(text) {
			if isForm(other) {
				forms++
			} else {
				others++
			}
		}
	}
	if forms < 500 || others < 5000 {
		t.Errorf("only %d edited texts are text forms, only %d are not", forms, others)
	}
}

// sequences calls a function for all texts of at most a number of words.
func sequences(words []string, count int, visit func(text string)) {
	var extend func(text string, left int)
	extend = func(text string, left int) {
		visit(text)
		if left > 0 {
			for _, word := range words {
				extend(text+word, left-1)
			}
		}
	}
	extend("", count)
}
