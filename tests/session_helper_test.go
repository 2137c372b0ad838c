package tests

import (
	"strconv"
	"strings"
	"testing"

	"loop.example/queryoptimizer/impl"
)

// stepText returns a step as a session writes it.
func stepText(s impl.Step) string {
	text := strconv.Itoa(s.Rule)
	for _, kid := range s.Path {
		text += "." + strconv.Itoa(kid)
	}
	return text
}

// stepTexts returns steps as a session writes them.
func stepTexts(steps []impl.Step) string {
	text := ""
	for _, s := range steps {
		text += stepText(s) + ";"
	}
	return text
}

// rowTexts returns rows as a session writes them.
func rowTexts(list [][]impl.Value) string {
	text := ""
	for _, r := range list {
		for i, v := range r {
			if i > 0 {
				text += ","
			}
			text += impl.EncodeValue(v)
		}
		text += ";"
	}
	return text
}

// slowSession is a session on valid tables, by the words of the document; the plan has the Kind 0 if there is none.
type slowSession struct {
	db    []impl.Table
	p     impl.Plan
	steps []impl.Step
}

// line returns the output of a line.
func (s *slowSession) line(line string) string {
	widths := widthsOf(s.db)
	if strings.HasPrefix(line, "load ") && line != "load " {
		p, ok := impl.DecodePlan(line[5:], widths)
		if !ok {
			return "no"
		}
		s.p, s.steps = p, nil
		return "ok"
	}
	if s.p.Kind == 0 {
		return "what"
	}
	switch line {
	case "run":
		result, _ := impl.EvalPlan(s.p, s.db)
		return rowTexts(result.Rows)
	case "plan":
		return impl.EncodePlan(s.p, widths)
	case "cost":
		return strconv.Itoa(impl.PlanCost(s.p, s.db))
	case "steps":
		return stepTexts(impl.StepsFor(s.p, widths))
	case "proof":
		return stepTexts(s.steps)
	}
	for n := range 10 {
		if line == "step "+strconv.Itoa(n) {
			return s.apply(n)
		}
	}
	return "what"
}

// apply returns the output of a line that applies a step.
func (s *slowSession) apply(n int) string {
	steps := impl.StepsFor(s.p, widthsOf(s.db))
	if n >= len(steps) || len(s.steps) == impl.MaxSteps {
		return "no"
	}
	s.p, _ = impl.ApplyStep(s.p, widthsOf(s.db), steps[n])
	s.steps = append(s.steps, steps[n])
	return stepText(steps[n])
}

// slowOutput returns the output of a session on valid tables.
func slowOutput(db []impl.Table, lines []string) string {
	s := &slowSession{db: db}
	output := ""
	for i, line := range lines {
		if i < impl.MaxLines {
			output += s.line(line) + "\n"
		}
	}
	return output
}

// checkSession checks the output of a session, whose lines are given with the output of each one.
func checkSession(t *testing.T, db []impl.Table, pairs ...string) {
	t.Helper()
	var lines []string
	want := ""
	for i := 0; i < len(pairs); i += 2 {
		lines = append(lines, pairs[i])
		want += pairs[i+1] + "\n"
	}
	if got := impl.RunSession(db, lines); got != want {
		t.Errorf("RunSession(%q) = %q, want %q", lines, got, want)
	}
	if got := slowOutput(db, lines); got != want {
		t.Errorf("the output of %q should be %q, the test expects %q", lines, got, want)
	}
}

// wrongLines are lines that are no commands, also if there is a plan.
var wrongLines = []string{
	"", " ", "\n", "run ", " run", "run\n", "Run", "RUN", "runs", "ru", "run run", "run (scan 0)", "run;", "plan ", " plan", "plan 0", "plans", "cost ", " cost", "costs", "steps ", " steps", "steps 0", "proof ", " proof", "proofs",
	"load", "load ", "loads (scan 0)", "Load (scan 0)", " load (scan 0)", "load\t(scan 0)", "load(scan 0)", "loa (scan 0)", "step", "step ", "step  ", "step  0", "step 0 ", " step 0", "step0", "step 00", "step 01", "step 10", "step 99", "step -1", "step +1", "step x", "step #0", "step 0;", "step 0\n", "step\t0", "Step 0", "step :", "step /", "step \x00", "step \u0660", "step 0 0", "steps0", "steps 1",
	"(scan 0)", "what", "ok", "no", "wrong", "quit", "help", "\x00", "\xff", "explain",
}

// wrongLoads are lines that load no plan for tables of the width 2 and 1.
var wrongLoads = []string{"load  ", "load  (scan 0)", "load (scan 0) ", "load (scan 2)", "load (scan 0", "load scan 0", "load x", "load load (scan 0)", "load (filter #2 (scan 0))", "load (scan 0)\n", "load \n", "load (union (scan 0) (scan 1))", "load #0"}

// loading returns a line that loads a plan for tables of some widths.
func (m *maker) loading(widths []int) string {
	p, _ := m.rewritable(widths, m.below(5))
	return "load " + slowPlanText(p)
}

// session returns the lines of a session, most of which are commands.
func (m *maker) session(widths []int) []string {
	var lines []string
	if m.below(4) > 0 {
		lines = append(lines, m.loading(widths))
	}
	for range m.below(impl.MaxLines + 6) {
		switch m.below(14) {
		case 0:
			lines = append(lines, m.loading(widths))
		case 1:
			lines = append(lines, wrongLines[m.below(len(wrongLines))])
		case 2:
			lines = append(lines, wrongLoads[m.below(len(wrongLoads))])
		case 3, 4, 5, 6, 7, 8:
			lines = append(lines, "step "+strconv.Itoa(m.below(10)/(1+m.below(4))))
		default:
			lines = append(lines, []string{"run", "plan", "cost", "steps", "proof"}[m.below(5)])
		}
	}
	return lines
}
