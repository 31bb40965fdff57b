package tests

import (
	"math/rand"
	"slices"
	"strconv"
	"strings"
	"testing"

	"loop.example/g00505/impl"
)

func TestInterpreterConstants(t *testing.T) {
	expectInts(t, "limits", []int{impl.MaxInput, impl.MaxLines}, 4000, 80)
}

// familyLines builds the family: two core ASes, each with one child, and a child of the first child.
const familyLines = "core 0\ncore 0\nas 0\nas 0\nas 0\nlink 0 1 1 1 core\nlink 0 2 2 1 child\nlink 1 2 3 1 child\nlink 2 2 4 1 child\n"

const familyOutput = "0-0\n0-1\n0-2\n0-3\n0-4\nok\nok\nok\nok\n"

func expectOutput(t *testing.T, what string, text string, want string) {
	t.Helper()
	if got := impl.Execute(text); got != want {
		t.Errorf("%s: Execute(%q) = %q; want %q", what, text, got, want)
	}
	if model := modelExecute(text); model != want {
		t.Errorf("the model of %s: Execute(%q) = %q; want %q", what, text, model, want)
	}
}

// expectAnswer expects this answer to a line behind the lines that build the family.
func expectAnswer(t *testing.T, line string, want string) {
	t.Helper()
	expectOutput(t, "a line", familyLines+line+"\n", familyOutput+want+"\n")
}

// modelBench is the state of an interpreter by the words of the document.
type modelBench struct {
	p        impl.Topology
	policies []impl.Policy
	k        impl.SegmentDatabase
	now      int
	w        impl.Network
}

func modelExecute(text string) string {
	lines := strings.SplitAfter(text, "\n")
	if lines[len(lines)-1] == "" {
		lines = lines[:len(lines)-1]
	}
	if len(text) > 4000 || len(lines) > 80 {
		return "too long\n"
	}
	b, output := modelBench{}, ""
	for _, line := range lines {
		if line = strings.TrimSuffix(line, "\n"); line != "" {
			output += b.answer(line) + "\n"
		}
	}
	return output
}

// forms are the words behind each command: numbers, a kind of link, or a text.
var forms = map[string]string{
	"core": "n", "as": "n", "link": "nnnnk", "policy": "nnnnn", "beacon": "", "time": "n", "paths": "nn", "path": "nnn", "start": "n", "flow": "nn", "send": "nt", "refresh": "n", "tick": "",
	"deliver": "n", "drop": "n", "duplicate": "n", "fail": "n", "repair": "n", "rounds": "n", "settle": "", "counters": "", "received": "n", "delivered": "", "idle": "", "links": "",
}

func (b *modelBench) answer(line string) string {
	words := strings.Split(line, " ")
	form, ok := forms[words[0]]
	if !ok || len(words) != len(form)+1 {
		return "syntax error"
	}
	n := []int{}
	for i, word := range words[1:] {
		switch form[i] {
		case 'n':
			number, err := strconv.Atoi(word)
			if err != nil || number < 0 || number > impl.MaxInt || strconv.Itoa(number) != word {
				return "syntax error"
			}
			n = append(n, number)
		case 'k':
			kind := slices.Index([]string{"core", "child", "peer"}, word)
			if kind < 0 {
				return "syntax error"
			}
			n = append(n, kind+1)
		case 't':
			if word == "" {
				return "syntax error"
			}
		}
	}
	if answer, ok := b.build(words[0], n); ok {
		return answer
	}
	return b.act(words, n)
}

func okOrNo(ok bool) string {
	if ok {
		return "ok"
	}
	return "no"
}

func yesOrNo(ok bool) string {
	if ok {
		return "yes"
	}
	return "no"
}

// build answers to the commands that do not need the network.
func (b *modelBench) build(command string, n []int) (string, bool) {
	switch command {
	case "core", "as":
		p := cloneTopology(b.p)
		p.ASes = append(p.ASes, impl.AS{ISD: n[0], Core: command == "core", Key: 1000 + len(p.ASes)})
		if !impl.ValidTopology(p) {
			return "no", true
		}
		b.p, b.policies = p, append(b.policies, impl.DefaultPolicy())
		return strconv.Itoa(n[0]) + "-" + strconv.Itoa(len(p.ASes)-1), true
	case "link":
		p := cloneTopology(b.p)
		p.Links = append(p.Links, impl.Link{A: n[0], AInterface: n[1], B: n[2], BInterface: n[3], Kind: n[4]})
		if impl.ValidTopology(p) {
			b.p = p
			return "ok", true
		}
		return "no", true
	case "policy":
		policy := impl.Policy{MaxLength: n[1], Lifetime: n[2], DeniedASes: n[3], ClosedInterfaces: n[4]}
		if n[0] >= len(b.p.ASes) || !impl.ValidPolicy(policy) {
			return "no", true
		}
		b.policies[n[0]] = policy
		return "ok", true
	case "beacon":
		k := impl.BuildDatabase(b.p, b.policies, impl.RunBeaconing(b.p, b.policies, b.now))
		for _, s := range append(k.Down, k.Core...) {
			b.k = impl.AddSegment(b.p, b.k, s)
		}
		return strconv.Itoa(len(b.k.Down) + len(b.k.Core)), true
	case "time":
		if n[0] <= impl.MaxTime {
			b.now = n[0]
		}
		return okOrNo(n[0] <= impl.MaxTime), true
	case "paths":
		return strconv.Itoa(len(impl.FindPaths(b.p, b.k, n[0], n[1], b.now))), true
	case "path":
		l := impl.SortPaths(impl.FindPaths(b.p, b.k, n[0], n[1], b.now))
		if n[2] < len(l) {
			return impl.FormatPath(b.p, l[n[2]]), true
		}
		return "none", true
	case "links":
		return impl.FormatTopology(b.p), true
	}
	return "", false
}

// act answers to the commands that need the network.
func (b *modelBench) act(words []string, n []int) string {
	ok := false
	switch words[0] {
	case "start":
		b.w = impl.NewNetwork(b.p, b.k, n[0], b.now)
		return okOrNo(impl.ValidNetwork(b.w))
	case "flow":
		b.w, ok = impl.AddFlow(b.w, impl.NewFlow(n[0], n[1], 0))
		return okOrNo(ok)
	case "rounds":
		b.w = impl.RunRounds(b.w, n[0])
		return b.counters()
	case "settle":
		b.w = impl.Settle(b.w)
		return b.counters()
	case "counters":
		return b.counters()
	case "received":
		if n[0] >= len(b.w.Inboxes) {
			return "none"
		}
		texts := []string{}
		for _, m := range b.w.Inboxes[n[0]].Received {
			texts = append(texts, string(m.Data))
		}
		if len(texts) == 0 {
			return "-"
		}
		return strings.Join(texts, "|")
	case "delivered":
		return yesOrNo(impl.AllDelivered(b.w))
	case "idle":
		return yesOrNo(impl.IsIdle(b.w))
	}
	e := impl.Event{Kind: map[string]int{"tick": 1, "deliver": 2, "drop": 3, "duplicate": 4, "fail": 5, "repair": 6, "send": 8, "refresh": 9}[words[0]]}
	if len(n) > 0 {
		e.N = n[0]
	}
	if words[0] == "send" {
		e.Data = []byte(words[2])
	}
	b.w, ok = impl.ApplyEvent(b.w, e)
	return okOrNo(ok)
}

func (b *modelBench) counters() string {
	l := []string{}
	for _, n := range impl.Counters(b.w) {
		l = append(l, strconv.Itoa(n))
	}
	return strings.Join(l, " ")
}

func TestExecuteOfASession(t *testing.T) {
	expectOutput(t, "a session", familyLines+"beacon\npaths 4 3\npath 4 3 0\npath 4 3 1\npath 4 3 2\nstart 8\nflow 4 3\nsend 0 hello\nsend 0 you\ncounters\ntick\ncounters\ndeliver 0\ncounters\nreceived 0\ndelivered\nidle\nrounds 1\nreceived 0\ndelivered\nidle\nlinks\nsettle\n",
		familyOutput+"5\n2\n0>0-4>1 2>0-2>1 2>0-0>1 1>0-1>2 1>0-3>0\n0>0-4>1 2>0-2>1 2>0-0>1 1>0-1>2 1>0-3>0\nnone\nok\nok\nok\nok\n0 0 0 0 0\nok\n1 1 0 0 0\nok\n1 1 0 0 0\n-\nno\nno\n2 0 0 0 1\nhello\nno\nno\n0-0#1=0-1#1 0-0#2>0-2#1 0-1#2>0-3#1 0-2#2>0-4#1\n98 0 0 0 2\n")
	// Once a round has passed, each round acknowledges one message more.
	expectOutput(t, "a session", familyLines+"beacon\nstart 8\nflow 4 3\nsend 0 a\nsend 0 b\nsend 0 c\nrounds 3\nreceived 0\ndelivered\nidle\nrounds 0\n", familyOutput+"5\nok\nok\nok\nok\nok\n3 0 0 0 3\na|b|c\nyes\nyes\n3 0 0 0 3\n")
}

func TestExecuteOfTopologies(t *testing.T) {
	expectOutput(t, "ASes", "core 0\nas 2\ncore 1\nas 0\nas 1\ncore 2\nas 2\nas 0\nas 0\ncore 0\nlinks", "0-0\n2-1\n1-2\n0-3\n1-4\n2-5\n2-6\n0-7\nno\nno\n-\n")
	for _, isd := range []string{"3", "4", "1000000000000"} {
		expectOutput(t, "an AS of another ISD", "core "+isd+"\nas "+isd+"\nas 2\n", "no\nno\n2-0\n")
	}
	expectOutput(t, "links", "core 0\ncore 0\nas 0\nas 0\nlink 0 1 1 1 core\nlink 0 6 2 6 child\nlink 2 3 3 1 peer\nlinks\n", "0-0\n0-1\n0-2\n0-3\nok\nok\nok\n0-0#1=0-1#1 0-0#6>0-2#6 0-2#3~0-3#1\n")
	for _, bad := range []string{"link 0 1 1 2 core", "link 0 2 1 1 core", "link 0 3 0 4 core", "link 1 3 0 3 core", "link 0 0 1 3 core", "link 0 7 1 3 core", "link 0 3 1 0 core", "link 0 3 1 7 core", "link 0 3 5 1 child", "link 5 1 6 1 core", "link 0 3 2 3 core", "link 0 3 1 3 child", "link 0 3 1 3 peer", "link 0 3 2 3 peer", "link 0 1000000000000 1 3 core"} {
		expectAnswer(t, bad+"\nlinks", "no\n0-0#1=0-1#1 0-0#2>0-2#1 0-1#2>0-3#1 0-2#2>0-4#1")
	}
	expectAnswer(t, "link 3 2 4 2 peer\nlink 3 2 4 3 peer\nlinks", "ok\nno\n0-0#1=0-1#1 0-0#2>0-2#1 0-1#2>0-3#1 0-2#2>0-4#1 0-3#2~0-4#2")
	expectOutput(t, "a link without ASes", "link 0 1 1 1 core\nlinks", "no\n-\n")
}

// linesOf builds this topology, apart from its keys.
func linesOf(p impl.Topology) (lines string, output string) {
	for r, a := range p.ASes {
		lines += map[bool]string{true: "core ", false: "as "}[a.Core] + strconv.Itoa(a.ISD) + "\n"
		output += strconv.Itoa(a.ISD) + "-" + strconv.Itoa(r) + "\n"
	}
	for _, k := range p.Links {
		lines += "link "
		for _, n := range []int{k.A, k.AInterface, k.B, k.BInterface} {
			lines += strconv.Itoa(n) + " "
		}
		lines += []string{"core", "child", "peer"}[k.Kind-1] + "\n"
		output += "ok\n"
	}
	return lines, output
}

// The order of paths that are equal in length and expiry follows from their digests, and those from the keys, which are 1000 and up.
func TestExecuteUsesTheKeys(t *testing.T) {
	p := world()
	for i := range p.ASes {
		p.ASes[i].Key = 1000 + i
	}
	policies := []impl.Policy{{MaxLength: 8, Lifetime: 30}}
	k := impl.BuildDatabase(p, policies, impl.RunBeaconing(p, policies, 20))
	text, want := linesOf(p)
	text += "time 20\npolicy 0 8 30 0 0\nbeacon\ntime 25\n"
	want += "ok\nok\n" + strconv.Itoa(impl.SegmentCount(k)) + "\nok\n"
	for _, ends := range [][2]int{{4, 6}, {4, 7}} {
		l := impl.SortPaths(impl.FindPaths(p, k, ends[0], ends[1], 25))
		expectBool(t, "many paths", len(l) > 10, true)
		for i, path := range l {
			text += "path " + strconv.Itoa(ends[0]) + " " + strconv.Itoa(ends[1]) + " " + strconv.Itoa(i) + "\n"
			want += impl.FormatPath(p, path) + "\n"
		}
	}
	expectOutput(t, "the world", text, want)
}

func TestExecuteOfPolicies(t *testing.T) {
	for line, want := range map[string]string{
		"policy 0 1 1 0 0": "ok", "policy 4 8 1000 65535 65535": "ok", "policy 5 8 100 0 0": "no", "policy 1000000000000 8 100 0 0": "no", "policy 0 0 100 0 0": "no", "policy 0 9 100 0 0": "no", "policy 0 8 0 0 0": "no", "policy 0 8 1001 0 0": "no",
		"policy 0 8 100 65536 0": "no", "policy 0 8 100 0 65536": "no", "policy 0 100 8 0 0": "no",
	} {
		expectAnswer(t, line, want)
	}
	expectOutput(t, "a policy without ASes", "policy 0 8 100 0 0\n", "no\n")
	// AS 2 allows no further hop, none to AS 4, or none behind AS 0, or sends nothing through its interface 2.
	expectAnswer(t, "beacon", "5")
	for _, policy := range []string{"policy 2 1 100 0 0", "policy 2 8 100 1 0"} {
		expectAnswer(t, policy+"\nbeacon\npaths 4 3\npaths 2 3", "ok\n3\n0\n0")
	}
	expectAnswer(t, "policy 2 8 100 0 4\nbeacon\npaths 4 3\npaths 2 3", "ok\n4\n0\n2")
	expectAnswer(t, "policy 4 8 100 4 0\nbeacon\npaths 4 3\npaths 2 3", "ok\n4\n0\n2")
	// A policy that is rejected changes nothing; a second one takes the place of the first.
	expectAnswer(t, "policy 2 0 100 0 0\nbeacon", "no\n5")
	expectAnswer(t, "policy 2 1 100 0 0\npolicy 2 8 100 0 0\nbeacon", "ok\nok\n5")
	// The lifetime of hops.
	expectAnswer(t, "policy 2 8 7 0 0\nbeacon\ntime 7\npaths 4 3\ntime 8\npaths 4 3\npaths 0 1\ntime 100\npaths 0 1\ntime 101\npaths 0 1", "ok\n5\nok\n2\nok\n0\n2\nok\n2\nok\n0")
	// ASes that are added later have the default policy.
	expectAnswer(t, "policy 4 1 100 0 0\nas 0\nlink 2 3 5 1 child\nbeacon", "ok\n0-5\nok\n5")
}

func TestExecuteOfBeacons(t *testing.T) {
	expectAnswer(t, "beacon\nbeacon\nbeacon", "5\n5\n5")
	expectAnswer(t, "beacon\ntime 1\nbeacon\ntime 0\nbeacon", "5\nok\n10\nok\n10")
	expectOutput(t, "beacons without ASes", "beacon\n", "0\n")
	expectOutput(t, "beacons without links", "core 0\nbeacon\n", "0-0\n0\n")
	expectAnswer(t, "beacon\nas 0\nlink 2 3 5 1 child\nbeacon\npaths 5 3", "5\n0-5\nok\n6\n2")
	expectAnswer(t, "paths 4 3\npath 4 3 0", "0\nnone")
}

func TestExecuteOfTimes(t *testing.T) {
	expectAnswer(t, "time 0\ntime 1000000\ntime 1000001\ntime 1000000000000\ntime 5", "ok\nok\nno\nno\nok")
	expectAnswer(t, "time 7\ntime 1000001\nstart 3\ncounters", "ok\nno\nok\n7 0 0 0")
	expectAnswer(t, "time 1000000\nstart 3\ntick\ncounters", "ok\nok\nno\n1000000 0 0 0")
	// The time of the interpreter and the time of the network are two.
	expectAnswer(t, "time 7\nstart 3\ntime 90\ntick\ncounters\nstart 3\ncounters", "ok\nok\nok\nok\n8 0 0 0\nok\n90 0 0 0")
}

func TestExecuteOfPaths(t *testing.T) {
	expectAnswer(t, "beacon\npaths 4 3\npaths 3 4\npaths 4 4\npaths 4 5\npaths 5 4\npaths 1000000000000 4\npaths 0 4", "5\n2\n2\n0\n0\n0\n0\n1")
	expectAnswer(t, "beacon\npath 0 4 0\npath 0 4 1\npath 0 4 1000000000000\npath 4 4 0\npath 9 4 0", "5\n0>0-0>2 1>0-2>2 1>0-4>0\nnone\nnone\nnone\nnone")
}

func TestExecuteOfNetworks(t *testing.T) {
	for capacity, want := range map[string]string{"0": "ok", "1": "ok", "20": "ok", "21": "ok", "1000000000000": "ok"} {
		expectAnswer(t, "start "+capacity, want)
	}
	expectOutput(t, "a network without ASes", "start 8\ncounters\n", "no\n0 0 0 0\n")
	expectAnswer(t, "start 8\nflow 4 3\nflow 4 3\nflow 3 4\nflow 4 4\nflow 4 5\nflow 5 4\nflow 1000000000000 4\nflow 0 1\nflow 1 0\nflow 2 3\ncounters", "ok\nok\nno\nok\nno\nno\nno\nno\nok\nok\nno\n0 0 0 0 0 0 0 0")
	// A new network has no flows, and the segments that are known then.
	expectAnswer(t, "start 8\nflow 4 3\nbeacon\nrefresh 0\nsend 0 x\nrounds 1\nstart 8\ncounters\nflow 4 3\nsend 0 x\nrounds 1", "ok\nok\n5\nok\nok\n1 0 0 0 0\nok\n0 0 0 0\nok\nok\n1 0 0 0 1")
	// Nor does it change with the topology.
	expectAnswer(t, "start 8\nas 0\nflow 5 4\nlink 0 3 5 1 child\nfail 4\nfail 3", "ok\n0-5\nno\nok\nno\nok")
	// A rejected start leaves no network behind.
	expectAnswer(t, "start 1\nfail 0\nfail 0\nrepair 0\nrepair 0\nfail 4\nrepair 1000000000000\ncounters", "ok\nok\nno\nok\nno\nno\nno\n0 0 0 0")
	// The capacity of 1 is not enough for two flows.
	expectAnswer(t, "beacon\nstart 0\nflow 4 3\nflow 4 1\nsend 0 x\nsend 1 y\ntick\ncounters\nstart 2\nflow 4 3\nflow 4 1\nsend 0 x\nsend 1 y\ntick\ncounters", "5\nok\nok\nok\nok\nok\nok\n1 1 1 0 0 0\nok\nok\nok\nok\nok\nok\n1 2 0 0 0 0")
}

func TestExecuteOfEvents(t *testing.T) {
	started := "beacon\nstart 8\nflow 4 3\nsend 0 hi\ntick\n"
	answered := "5\nok\nok\nok\nok\n"
	expectAnswer(t, started+"deliver 0\ndeliver 0\ndeliver 0\ndeliver 0\nreceived 0\ncounters\ndeliver 1\ndeliver 0\ndeliver 0\ndeliver 0\ndeliver 0\ndeliver 0\ncounters", answered+"ok\nok\nok\nok\nhi\n1 1 0 0 0\nno\nok\nok\nok\nok\nno\n1 0 0 0 1")
	expectAnswer(t, started+"duplicate 0\nduplicate 2\ncounters\ndrop 1\ndrop 1\ndrop 0\ndrop 0\ncounters", answered+"ok\nno\n1 2 0 0 0\nok\nno\nok\nno\n1 0 2 0 0")
	expectAnswer(t, "start 8\nflow 4 3\nbeacon\nsend 0 hi\nrounds 1\nrefresh 0\nrefresh 1\nrounds 1", "ok\nok\n5\nok\n1 0 0 0 0\nok\nno\n2 0 0 0 0")
	expectAnswer(t, started+"fail 1\nrounds 6\ndelivered\nidle\nrepair 1\nrounds 1\ndelivered\nidle", answered+"ok\n7 0 6 1 0\nyes\nno\nok\n8 0 6 0 1\nyes\nyes")
	// When the paths have expired, nothing is delivered any more.
	expectAnswer(t, started+"fail 1\nsettle\nrepair 1\nsettle\ndelivered\nidle", answered+"ok\n95 0 94 1 0\nok\n189 0 94 0 1\nyes\nyes")
	expectAnswer(t, started+"fail 1\nsettle\nsettle\nrepair 1\nsettle\ndelivered\nidle", answered+"ok\n95 0 94 1 0\n189 0 122 1 0\nok\n283 0 145 0 0\nyes\nno")
	expectAnswer(t, "start 8\nflow 4 3\nsend 0 x\nsend 1 x\nsend 0 "+strings.Repeat("x", 40)+"\nsend 0 "+strings.Repeat("x", 41), "ok\nok\nok\nno\nok\nno")
	expectAnswer(t, "start 8\nflow 4 3"+strings.Repeat("\nsend 0 x", 21), "ok\nok"+strings.Repeat("\nok", 20)+"\nno")
	expectAnswer(t, "start 8\nreceived 0\nflow 4 3\nreceived 0\nreceived 1\nreceived 1000000000000", "ok\nnone\nok\n-\nnone\nnone")
	expectAnswer(t, "start 8\nrounds 1000\nrounds 1001\nrounds 1000000000000\nsettle", "ok\n1000 0 0 0\n1000 0 0 0\n1000 0 0 0\n1008 0 0 0")
	expectAnswer(t, "start 8\ndelivered\nidle\nflow 4 3\nsend 0 x\ndelivered\nidle", "ok\nyes\nyes\nok\nok\nyes\nyes")
}

// Ahead of start, there is the zero network.
func TestExecuteWithoutANetwork(t *testing.T) {
	for line, want := range map[string]string{
		"tick": "no", "deliver 0": "no", "drop 0": "no", "duplicate 0": "no", "fail 0": "no", "repair 0": "no", "send 0 x": "no", "refresh 0": "no", "flow 0 1": "no", "flow 4 3": "no", "received 0": "none", "delivered": "yes", "idle": "yes", "counters": "0 0 0 0", "rounds 5": "0 0 0 0", "settle": "0 0 0 0",
	} {
		expectOutput(t, "a line without a network", line, want+"\n")
		expectAnswer(t, line, want)
	}
}

// ordinary has a line for each command.
func ordinary() []string {
	return []string{
		"core 0", "as 1", "link 0 3 1 3 core", "policy 0 8 100 0 0", "beacon", "time 5", "paths 4 3", "path 4 3 0", "start 8", "flow 4 3", "send 0 hello", "refresh 0", "tick", "deliver 0", "drop 0", "duplicate 0", "fail 0", "repair 0", "rounds 1", "settle", "counters", "received 0", "delivered", "idle", "links",
	}
}

// malformed are lines that are not quite like this one.
func malformed(line string) []string {
	words := strings.Split(line, " ")
	l := []string{line + " ", " " + line, line + "  ", line + " 1", line + " x", line + "x", "x" + line, strings.ToUpper(line), line + "\r", line + "\t", "\t" + line, line + "\x00", strings.Join(words[:len(words)-1], " ") + " "}
	if len(words) > 1 {
		l = append(l, strings.Join(words[:len(words)-1], " "), strings.Join(words, "\t"), strings.Join(words, ","), strings.Join(words, ""))
	}
	for i := range words {
		if i > 0 {
			l = append(l, strings.Join(words[:i], " ")+"  "+strings.Join(words[i:], " "))
		}
		if _, err := strconv.Atoi(words[i]); err != nil {
			continue
		}
		for _, other := range []string{"", "x", "01", "00", "-1", "-0", "+1", "1.0", "1e1", "0x1", "1_0", "１", "1\xff", "1000000000001", "99999999999999999999999999", "core"} {
			changed := slices.Clone(words)
			changed[i] = other
			l = append(l, strings.Join(changed, " "))
		}
	}
	return l
}

func TestExecuteOfMalformedLines(t *testing.T) {
	for _, line := range ordinary() {
		for _, bad := range malformed(line) {
			if words := strings.Split(bad, " "); len(words) == 3 && words[0] == "send" && words[1] == "0" && words[2] != "" {
				// Any text may be sent.
				continue
			}
			expectAnswer(t, bad, "syntax error")
			expectOutput(t, "a malformed line", bad, "syntax error\n")
		}
	}
	for _, bad := range []string{" ", "  ", "hello", "?", "core", "link 0 3 1 3 x", "link 0 3 1 3 Core", "link 0 3 1 3 ", "link 0 3 1 3 1", "link 0 3 1 3 none", "inject 0", "send 0", "send 0 ", "send 0  x", "send  0 x", "send x 0", "send 0 x y", "send", "\xff\xfe", "core\xff 0", "\r", "\x00", "ticks", "tic", "execute", "quit"} {
		expectAnswer(t, bad, "syntax error")
	}
	// A malformed line changes nothing.
	expectAnswer(t, "core 0 \nlink 0 3 1 3 core \ntime 9 \nstart 8\ntick \n tick\ncounters\nlinks", "syntax error\nsyntax error\nsyntax error\nok\nsyntax error\nsyntax error\n0 0 0 0\n0-0#1=0-1#1 0-0#2>0-2#1 0-1#2>0-3#1 0-2#2>0-4#1")
}

// The bytes of a text are sent as they are, whether or not they are valid text.
func TestExecuteOfTexts(t *testing.T) {
	for _, text := range []string{"x", "0", "01", "core", "-", "|", "a|b", "\xff", "\xff\xfe\x80x", "\xe2\x82", "é", "日本", "\r", "\t", "\x00", "\u00a0", "\u2028", "\ufffd", strings.Repeat("\xc3", 40), strings.Repeat("é", 20), "send", "1000000000001"} {
		expectAnswer(t, "beacon\nstart 8\nflow 4 3\nsend 0 "+text+"\nsend 0 end\nrounds 3\nreceived 0", "5\nok\nok\nok\nok\n3 0 0 0 2\n"+text+"|end")
	}
	expectAnswer(t, "start 8\nflow 4 3\nsend 0 "+strings.Repeat("é", 21), "ok\nok\nno")
}

func TestExecuteOfLines(t *testing.T) {
	for text, want := range map[string]string{
		"": "", "\n": "", "\n\n\n": "", "tick": "no\n", "tick\n": "no\n", "\ntick": "no\n", "tick\n\n": "no\n", "\n\ntick\n\n\nlinks\n\n": "no\n-\n", "tick\nlinks": "no\n-\n", "links\ntick\n": "-\nno\n",
	} {
		expectOutput(t, "lines", text, want)
	}
	for n := 78; n <= 82; n++ {
		many, empty := strings.Repeat("links\n", n), strings.Repeat("\n", n)
		wantMany, wantEmpty := strings.Repeat("-\n", n), ""
		if n > 80 {
			wantMany, wantEmpty = "too long\n", "too long\n"
		}
		expectOutput(t, "many lines", many, wantMany)
		expectOutput(t, "many lines without a newline at the end", strings.TrimSuffix(many, "\n"), wantMany)
		expectOutput(t, "many empty lines", empty, wantEmpty)
		mixed := ""
		if n > 79 {
			mixed = "too long\n"
		} else {
			mixed = "-\n"
		}
		expectOutput(t, "a last line behind empty ones", empty+"links", mixed)
	}
	for n := 3998; n <= 4002; n++ {
		// One long line, and some that are not.
		long := strings.Repeat("x", n)
		want, last := "syntax error\n", "-\nsyntax error\n"
		if n > 4000 {
			want, last = "too long\n", "too long\n"
		}
		expectOutput(t, "a long line", long, want)
		expectOutput(t, "a long line with a newline", long[:n-1]+"\n", want)
		expectOutput(t, "a long line behind another", "links\n"+long[:n-6], last)
		expectOutput(t, "long bytes that are no valid text", strings.Repeat("\xff", n), want)
		if n%2 == 0 {
			expectOutput(t, "long characters", strings.Repeat("é", n/2), want)
		}
	}
}

// randomLine is mostly a line that is not malformed.
func randomLine(r *rand.Rand) string {
	number := func(n int) string { return " " + strconv.Itoa(r.Intn(n)) }
	switch r.Intn(34) {
	case 0:
		return ""
	case 1:
		l := malformed(ordinary()[r.Intn(25)])
		return l[r.Intn(len(l))]
	case 2, 3:
		return "core" + number(2)
	case 4, 5:
		return "as" + number(2)
	case 6:
		return "policy" + number(6) + number(9) + number(200) + number(3) + number(3)
	case 7, 8, 9:
		return "beacon"
	case 10:
		return "time" + number(60)
	case 11:
		return "paths" + number(8) + number(8)
	case 12:
		return "path" + number(8) + number(8) + number(3)
	case 13:
		return "start" + number(10)
	case 14, 15, 16:
		return "flow" + number(7) + number(7)
	case 17, 18, 19:
		return "send" + number(3) + " t" + strconv.Itoa(r.Intn(1000))
	case 20, 21:
		return "rounds" + number(6)
	case 22:
		return "received" + number(3)
	case 23:
		return "settle"
	case 24, 25:
		return "tick"
	case 26, 27:
		return "deliver" + number(2)
	case 28:
		return []string{"drop", "duplicate", "refresh"}[r.Intn(3)] + number(2)
	case 29:
		return []string{"fail", "repair"}[r.Intn(2)] + number(8)
	case 30:
		return []string{"counters", "delivered", "idle", "links"}[r.Intn(4)]
	}
	return "link" + number(5) + number(7) + " " + strconv.Itoa(1+r.Intn(7)) + number(7) + []string{" core", " child", " child", " peer"}[r.Intn(4)]
}

// The output for a line depends on the preceding lines only.
func TestManySessions(t *testing.T) {
	r := rand.New(rand.NewSource(63))
	answers := map[string]int{}
	for i := range 150 {
		lines := []string{}
		if i%3 > 0 {
			lines = strings.Split(strings.TrimSuffix(familyLines, "\n"), "\n")
			lines = append(lines, "beacon", "start 8", "flow 4 3", "flow 0 4", "send 0 first")
		}
		for range r.Intn(60) {
			lines = append(lines, randomLine(r))
		}
		lines = lines[:min(len(lines), 80)]
		text := strings.Join(lines, "\n")
		whole := impl.Execute(text)
		if want := modelExecute(text); whole != want {
			t.Fatalf("Execute(%q) = %q; want %q", text, whole, want)
		}
		for _, answer := range strings.Split(whole, "\n") {
			answers[answer]++
		}
		for range 4 {
			n := r.Intn(len(lines) + 1)
			part := impl.Execute(strings.Join(lines[:n], "\n"))
			if !strings.HasPrefix(whole, part) {
				t.Fatalf("the output for the first %d lines of %q is %q; later it is %q", n, text, part, whole)
			}
		}
	}
	for _, answer := range []string{"ok", "no", "syntax error", "yes", "none", "-"} {
		if answers[answer] < 10 {
			t.Errorf("too few answers: %v", answers)
		}
	}
}

func TestExecuteOfAnyBytes(t *testing.T) {
	r := rand.New(rand.NewSource(64))
	for range 300 {
		text := []byte(familyLines + strings.Join(ordinary(), "\n"))
		for range r.Intn(8) {
			text[r.Intn(len(text))] = byte(r.Intn(256))
		}
		if r.Intn(4) == 0 {
			text = text[:r.Intn(len(text))]
		}
		expectOutput(t, "any bytes", string(text), modelExecute(string(text)))
	}
}
