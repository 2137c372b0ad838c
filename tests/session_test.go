package tests

import (
	"slices"
	"strings"
	"testing"

	"loop.example/queryoptimizer/impl"
)

// sessionTables returns tables of the widths 2 and 1.
func sessionTables(t *testing.T) []impl.Table {
	t.Helper()
	return []impl.Table{table(t, 2, "null -9999", "null -9999", "-1 null", "0 0", "3 9999"), table(t, 1, "-1", "3", "3")}
}

func TestSessionCommands(t *testing.T) {
	db := sessionTables(t)
	checkSession(t, db)
	checkSession(t, db, "load (scan 0)", "ok", "run", "null,-9999;null,-9999;-1,null;0,0;3,9999;", "plan", "(scan 0)", "cost", "5", "steps", "", "proof", "", "step 0", "no")
	checkSession(t, db, "load (filter null (scan 0))", "ok", "run", "", "cost", "5", "plan", "(filter null (scan 0))", "steps", "")
	checkSession(t, db, "load (group (scan 1))", "ok", "run", "3;", "cost", "4")
	checkSession(t, db,
		"load (filter (= #0 #2) (join 1 (scan 0) (scan 1)))", "ok", "run", "-1,null,-1;3,9999,3;3,9999,3;", "cost", "26", "steps", "5;6.0;", "proof", "",
		"step 1", "6.0", "plan", "(filter (= #0 #2) (project #1 #2 #0 (join 1 (scan 1) (scan 0))))", "steps", "10;6.0.0;", "proof", "6.0;", "cost", "41",
		"step 0", "10", "proof", "6.0;10;", "run", "-1,null,-1;3,9999,3;3,9999,3;", "step 9", "no", "proof", "6.0;10;",
		"load (scan 1)", "ok", "proof", "", "run", "-1;3;3;",
	)
	checkSession(t, db, "load (filter (and #0 #1) (scan 0))", "ok", "step 0", "2", "plan", "(filter #1 (filter #0 (scan 0)))", "step 0", "1", "plan", "(filter (and #0 #1) (scan 0))", "proof", "2;1;")
	checkSession(t, db, "load (distinct (union (scan 1) (distinct (distinct (scan 1)))))", "ok", "steps", "9.0.1;", "step 0", "9.0.1", "steps", "", "step 0", "no", "proof", "9.0.1;")
}

func TestSessionsWithoutRows(t *testing.T) {
	most := tableOf(t, 1, numbered(0, impl.MaxRows))
	db := []impl.Table{{Width: 1}, most}
	checkSession(t, db, "load (scan 0)", "ok", "run", "", "cost", "0")
	checkSession(t, db, "load (union (scan 1) (scan 1))", "ok", "run", "", "cost", "800", "plan", "(union (scan 1) (scan 1))")
	checkSession(t, db, "load (scan 1)", "ok", "run", rowTexts(most.Rows), "cost", "400")
	checkSession(t, db, "load (left 1 (scan 0) (scan 1))", "ok", "run", "", "cost", "400")
	checkSession(t, db, "load (filter (= #0 7) (left 1 (filter (< #0 10) (scan 1)) (scan 0)))", "ok", "run", "7,null;")
}

func TestLinesThatAreNoCommands(t *testing.T) {
	db := sessionTables(t)
	for _, line := range slices.Concat(wrongLines, longTexts()) {
		checkSession(t, db, line, "what", "load (filter #0 (filter #1 (scan 0)))", "ok", line, "what", "step 0", "1", line, "what", "proof", "1;", "plan", "(filter (and #1 #0) (scan 0))")
	}
	for _, text := range longTexts() {
		checkSession(t, db, "load "+text, "no", "plan", "what")
		for _, word := range []string{"run", "step", "step ", "step 0", "steps", "proof", "plan ", "cost"} {
			checkSession(t, db, "load (scan 0)", "ok", word+text, "what")
		}
	}
}

func TestLoadsThatFailChangeNothing(t *testing.T) {
	db := sessionTables(t)
	for _, line := range wrongLoads {
		checkSession(t, db, line, "no", "plan", "what", line, "no", "load (filter #0 (filter #1 (scan 0)))", "ok", line, "no", "plan", "(filter #0 (filter #1 (scan 0)))", "step 0", "1", line, "no", "plan", "(filter (and #1 #0) (scan 0))", "proof", "1;")
	}
	for _, text := range append(malformedPlans(), malformedExprs()...) {
		if text != "" {
			checkSession(t, db, "load (scan 1)", "ok", "load "+text, "no", "plan", "(scan 1)")
		}
	}
}

func TestStepsByDigits(t *testing.T) {
	db := []impl.Table{table(t, 1, "1", "2")}
	deep := "(join 1 (join 1 (scan 0) (scan 0)) (join 1 (scan 0) (join 1 (scan 0) (scan 0))))"
	checkSession(t, db, "load "+deep, "ok", "steps", "6;6.0;6.1;6.1.1;", "step 3", "6.1.1", "step 4", "no", "step 9", "no", "proof", "6.1.1;")
	many := "(union (union (union (distinct (distinct (scan 0))) (distinct (distinct (scan 0)))) (union (distinct (distinct (scan 0))) (distinct (distinct (scan 0))))) (union (union (distinct (distinct (scan 0))) (distinct (distinct (scan 0)))) (union (distinct (distinct (distinct (scan 0)))) (union (distinct (distinct (scan 0))) (distinct (distinct (scan 0)))))))"
	steps := "9.0.0.0;9.0.0.1;9.0.1.0;9.0.1.1;9.1.0.0;9.1.0.1;9.1.1.0;9.1.1.0.0;9.1.1.1.0;9.1.1.1.1;"
	checkSession(t, db, "load "+many, "ok", "steps", steps, "step 9", "9.1.1.1.1", "step 9", "no", "step 8", "9.1.1.1.0", "step 0", "9.0.0.0", "proof", "9.1.1.1.1;9.1.1.1.0;9.0.0.0;")
	eleven := "(union " + many + " (distinct (distinct (scan 0))))"
	checkSession(t, db, "load "+eleven, "ok", "step 10", "what", "step 9", "9.0.1.1.1.1", "step 9", "9.1", "proof", "9.0.1.1.1.1;9.1;")
}

func TestStepsOfTheLongestSession(t *testing.T) {
	db := []impl.Table{table(t, 2, "1 0", "1 2")}
	pairs := []string{"load (filter #0 (filter #1 (scan 0)))", "ok"}
	proof := ""
	for i := range impl.MaxLines - 2 {
		rule := string(rune('1' + i%2))
		pairs = append(pairs, "step 0", rule)
		proof += rule + ";"
	}
	// MaxLines lines cannot apply MaxSteps steps.
	checkSession(t, db, append(slices.Clone(pairs), "proof", proof)...)
	checkSession(t, db, append(slices.Clone(pairs), "run", "1,2;")...)
	checkSession(t, db, append(slices.Clone(pairs), "step 0", "1")...)
}

func TestSessionsByTheWordsOfTheDocument(t *testing.T) {
	m := &maker{state: 2600}
	proofs := 0
	for range 600 {
		db := m.db(t, 4)
		lines := m.session(widthsOf(db))
		want := slowOutput(db, lines)
		if got := impl.RunSession(db, lines); got != want {
			t.Fatalf("RunSession(%v, %q) = %q, want %q", db, lines, got, want)
		}
		for i, output := range strings.Split(want, "\n")[:min(len(lines), impl.MaxLines)] {
			if lines[i] == "proof" && strings.Count(output, ";") > 1 {
				proofs++
			}
		}
	}
	if proofs < 100 {
		t.Errorf("only %d proofs of more than one step are printed", proofs)
	}
}

func TestP136OutputDependsOnlyOnPrecedingLines(t *testing.T) {
	m := &maker{state: 136}
	for range 100 {
		db := m.db(t, 4)
		lines := append([]string{"load (distinct (scan 0))"}, m.session(widthsOf(db))...)
		whole := impl.RunSession(db, lines)
		for i := range len(lines) + 1 {
			got := impl.RunSession(db, lines[:i])
			if !strings.HasPrefix(whole, got) || strings.Count(got, "\n") != min(i, impl.MaxLines) {
				t.Fatalf("RunSession(%v, %q) = %q, the whole session has %q", db, lines[:i], got, whole)
			}
		}
	}
}

func TestP136LinesAfterMaxLinesProduceNothing(t *testing.T) {
	db := []impl.Table{table(t, 1, "4")}
	for _, line := range []string{"run", "plan", "load (scan 0)", "step 0", "x", ""} {
		lines := append([]string{"load (scan 0)"}, slices.Repeat([]string{line}, impl.MaxLines-1)...)
		want := slowOutput(db, lines)
		if strings.Count(want, "\n") != impl.MaxLines {
			t.Fatalf("%d lines have the output %q", len(lines), want)
		}
		for more := range 40 {
			if got := impl.RunSession(db, append(slices.Clone(lines), slices.Repeat([]string{"run"}, more)...)); got != want {
				t.Errorf("RunSession with %d lines = %q, want %q", len(lines)+more, got, want)
			}
		}
	}
	if got := impl.RunSession(db, make([]string, 100000)); got != strings.Repeat("what\n", impl.MaxLines) {
		t.Errorf("RunSession with 100000 lines = %q", got)
	}
}

func TestP137ALoadedPlanIsPrinted(t *testing.T) {
	for _, c := range append(somePlans(t, 137, 200), rewritablePlans(t, 1370, 200)...) {
		text := impl.EncodePlan(c.p, c.widths)
		checkSession(t, c.db, "load "+text, "ok", "plan", text, "proof", "")
		checkSession(t, c.db, "load (filter 1 (filter 1 (scan 0)))", "ok", "step 0", "1", "load "+text, "ok", "proof", "", "plan", text)
	}
}

func TestP138StepsDoNotChangeWhatIsRun(t *testing.T) {
	applied := 0
	for _, c := range rewritablePlans(t, 138, 300) {
		steps := impl.StepsFor(c.p, c.widths)
		for i, s := range steps[:min(len(steps), 10)] {
			q, _ := impl.ApplyStep(c.p, c.widths, s)
			if !isSmall(t, q, c.db) {
				continue
			}
			output := rowTexts(rowsOf(t, c.p, c.db))
			checkSession(t, c.db, "load "+impl.EncodePlan(c.p, c.widths), "ok", "run", output, "step "+string(rune('0'+i)), stepText(s), "run", output, "proof", stepText(s)+";", "plan", impl.EncodePlan(q, c.widths))
			applied++
		}
	}
	if applied < 300 {
		t.Errorf("only %d steps are applied", applied)
	}
}

func TestP139SessionsNeedTables(t *testing.T) {
	good := table(t, 1, "1")
	five := []impl.Table{good, good, good, good, good}
	list := [][]impl.Table{nil, {}, five, append(five, five...)}
	for _, bad := range invalidTables() {
		list = append(list, []impl.Table{bad}, []impl.Table{good, bad}, []impl.Table{bad, good}, []impl.Table{good, good, good, bad}, append(slices.Clone(five), bad))
	}
	for _, db := range list {
		for _, lines := range [][]string{nil, {}, {"run"}, {"load (scan 0)"}, {"load (scan 0)", "run", "x"}, make([]string, 100)} {
			if got := impl.RunSession(db, lines); got != "wrong\n" {
				t.Errorf("RunSession(%v, %q) = %q", db, lines, got)
			}
		}
	}
	for count := 1; count <= impl.MaxTables; count++ {
		checkSession(t, five[:count])
		for _, line := range append([]string{"run", "plan", "cost", "steps", "proof", "step 0", "step 9"}, wrongLines...) {
			checkSession(t, five[:count], line, "what")
			checkSession(t, five[:count], "load x", "no", line, "what", line, "what")
		}
		checkSession(t, five[:count], "run", "what", "load (scan 0)", "ok", "run", "1;")
	}
}
