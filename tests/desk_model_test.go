package tests

import (
	"fmt"
	"regexp"
	"strings"
	"testing"

	"loop.example/g00571/impl"
)

// deskForm: the lines of a desk without their line feeds, by the words of chapter 12 alone.
var deskForm = regexp.MustCompile(`\A(all|pods|disks|do( [^ \n]+)+|crash (0|[1-9][0-9]{0,8}))\z`)

// deskModel is a desk as it ought to be: what there is, and how many bytes its log has.
type deskModel struct {
	cluster impl.Cluster
	log     int
}

// deskFaultModel: what DeskFault ought to tell.
func deskFaultModel(text string) impl.DeskOut {
	if len(text) > 8000 {
		return impl.DeskOut{Code: impl.ErrSize}
	}
	for at, line := range strings.SplitAfter(text, "\n") {
		words, ended := strings.CutSuffix(line, "\n")
		if line != "" && (at >= 40 || !ended || !deskForm.MatchString(words)) {
			return impl.DeskOut{Line: int64(at), Code: impl.ErrSyntax}
		}
	}
	return impl.DeskOut{}
}

// deskRunModel: what DeskRun ought to tell.
func deskRunModel(text string) impl.DeskOut {
	if fault := deskFaultModel(text); fault.Code != impl.OK {
		return fault
	}
	m, told := deskModel{cluster: impl.DeskCluster()}, ""
	for line := range strings.Lines(text) {
		told += m.tell(strings.TrimSuffix(line, "\n")) + "\n"
	}
	return impl.DeskOut{Text: told}
}

// tell: does what the line asks for, and tells what it ought to.
func (m *deskModel) tell(line string) string {
	first, rest, _ := strings.Cut(line, " ")
	switch first {
	case "do":
		return m.obey(rest)
	case "all":
		return m.obey("all")
	case "pods":
		return m.pods()
	case "disks":
		return m.disks()
	}
	// All that was done is synced: a crash takes none of it, whatever it keeps of what is not.
	return fmt.Sprintf("pods %d", len(m.cluster.Pods))
}

func (m *deskModel) obey(act string) string {
	then, code := actMove(act).want(m.cluster)
	if code == impl.OK && m.log+len(record(act)) > 8000 {
		code = impl.ErrFull
	}
	if code != impl.OK {
		return fmt.Sprintf("error %d", code)
	}
	m.cluster, m.log = then, m.log+len(record(act))
	return "ok"
}

func (m *deskModel) pods() string {
	told := ""
	for at, p := range m.cluster.Pods {
		if at > 0 {
			told += ","
		}
		switch p.Phase {
		case impl.PhPending:
			told += p.Name + "@-"
		case impl.PhPlaced:
			told += p.Name + "@" + p.Node
		case impl.PhRunning:
			told += p.Name + "@" + p.Node + "+"
		}
	}
	if told == "" {
		return "-"
	}
	return told
}

func (m *deskModel) disks() string {
	told := ""
	for at, v := range m.cluster.Volumes {
		if at > 0 {
			told += ","
		}
		told += v.Name + "@"
		for at, node := range v.On {
			if at > 0 {
				told += "+"
			}
			told += node
		}
		if len(v.On) == 0 {
			told += "-"
		}
	}
	if told == "" {
		return "-"
	}
	return told
}

// wantDesk: DeskRun tells this of the text, each time it is run, and DeskFault the same without Text.
func wantDesk(t *testing.T, text string, want impl.DeskOut) {
	t.Helper()
	for range 2 {
		if got := impl.DeskRun(text); got != want {
			t.Errorf("DeskRun of %d bytes %.300q: got code %d, Line %d, %q, want code %d, Line %d, %q", len(text), text, got.Code, got.Line, got.Text, want.Code, want.Line, want.Text)
		}
	}
	want.Text = ""
	if got := impl.DeskFault(text); got != want {
		t.Errorf("DeskFault of %d bytes %.300q: got %+v, want %+v", len(text), text, got, want)
	}
}

// wantTold: the text is right, and tells this.
func wantTold(t *testing.T, text string, told string) {
	t.Helper()
	wantDesk(t, text, impl.DeskOut{Text: told})
}

// wantFault: the text is refused at that line, and nothing else is told.
func wantFault(t *testing.T, text string, line int64) {
	t.Helper()
	wantDesk(t, text, impl.DeskOut{Line: line, Code: impl.ErrSyntax})
}

// textOf: the lines, each with a line feed at its end.
func textOf(lines ...string) string {
	out := ""
	for _, line := range lines {
		out += line + "\n"
	}
	return out
}

// script is what stands on a desk line by line, and what each line tells.
type script struct {
	lines, told []string
}

// scriptOf: of a line, what it tells, the next line, and so on.
func scriptOf(pairs ...string) script {
	var out script
	for at := 0; at+1 < len(pairs); at += 2 {
		out.lines, out.told = append(out.lines, pairs[at]), append(out.told, pairs[at+1])
	}
	return out
}

// crashed: the script with the power gone behind that line, when there are so many pods.
func (s script) crashed(behind int, keep string, pods int) script {
	lines := append(append([]string{}, s.lines[:behind]...), "crash "+keep)
	told := append(append([]string{}, s.told[:behind]...), fmt.Sprintf("pods %d", pods))
	return script{append(lines, s.lines[behind:]...), append(told, s.told[behind:]...)}
}

// want: the lines tell this, one by one (promise 15): as many of them as there are, whatever comes behind.
func (s script) want(t *testing.T, what string) {
	t.Helper()
	if got := deskRunModel(textOf(s.lines...)); got.Text != textOf(s.told...) {
		t.Fatalf("%s: the model tells %q, want %q", what, got.Text, s.told)
	}
	for count := range len(s.lines) + 1 {
		wantTold(t, textOf(s.lines[:count]...), textOf(s.told[:count]...))
		if t.Failed() {
			t.Fatalf("%s, up to line %d", what, count)
		}
	}
}

// podsBehind: how many pods there ought to be behind so many lines.
func (s script) podsBehind(count int) int {
	m := deskModel{cluster: impl.DeskCluster()}
	for _, line := range s.lines[:count] {
		m.tell(line)
	}
	return len(m.cluster.Pods)
}

// wantThroughCrashes: likewise, and the same with the power gone behind any of the lines: nothing is lost by it.
func (s script) wantThroughCrashes(t *testing.T, what string) {
	t.Helper()
	s.want(t, what)
	for behind := range len(s.lines) + 1 {
		for _, keep := range []string{"0", "999999999"} {
			crash := s.crashed(behind, keep, s.podsBehind(behind))
			wantTold(t, textOf(crash.lines...), textOf(crash.told...))
			if t.Failed() {
				t.Fatalf("%s, with a crash behind line %d: %q", what, behind, s.lines)
			}
		}
	}
}
