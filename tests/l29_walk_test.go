package tests

import (
	"math"
	"math/rand"
	"slices"
	"testing"

	"loop.example/g00505/impl"
)

// modelFailed returns the set by the words of the document.
func modelFailed(p impl.Topology, failed []int, r int) int {
	s := 0
	for iface := range 16 {
		if i, _, _, _ := modelEnd(p, r, iface); i >= 0 && slices.Contains(failed, i) {
			s |= 1 << iface
		}
	}
	return s
}

func TestFailedInterfaces(t *testing.T) {
	p := world()
	for r := -1; r <= 9; r++ {
		expectInt(t, "FailedInterfaces without failed links", impl.FailedInterfaces(p, nil, r), 0)
		expectInt(t, "FailedInterfaces of links that do not exist", impl.FailedInterfaces(p, append(strange(), 13, 14), r), 0)
		expectInt(t, "FailedInterfaces of all links", impl.FailedInterfaces(p, []int{12, 11, 10, 9, 8, 7, 6, 5, 4, 3, 2, 1, 0}, r), impl.MakeSet(impl.Interfaces(p, r)))
		for i, k := range p.Links {
			want := 0
			if r == k.A {
				want = 1 << k.AInterface
			} else if r == k.B {
				want = 1 << k.BInterface
			}
			for _, failed := range [][]int{{i}, {i, i}, {-1, i}, {99, i, 13, i}} {
				expectInt(t, "FailedInterfaces of a link", impl.FailedInterfaces(p, failed, r), want)
			}
		}
	}
	expectInt(t, "FailedInterfaces of two links", impl.FailedInterfaces(p, []int{6, 4}, 3), 1<<1+1<<3)
	for _, r := range strange() {
		expectInt(t, "FailedInterfaces of no AS", impl.FailedInterfaces(p, []int{0, 1, 2}, r), 0)
	}
	expectInt(t, "FailedInterfaces without links", impl.FailedInterfaces(impl.Topology{}, []int{-1, 0}, 0), 0)
}

func TestFailedInterfacesOfInvalidTopologies(t *testing.T) {
	p := world()
	p.Links = append(p.Links, impl.Link{A: 0, AInterface: 1, B: 5, BInterface: 3, Kind: impl.LkPeer})
	// The first link counts that uses an interface.
	expectInt(t, "FailedInterfaces of the second link", impl.FailedInterfaces(p, []int{13}, 0), 0)
	expectInt(t, "FailedInterfaces of the first link", impl.FailedInterfaces(p, []int{0}, 0), 2)
	expectInt(t, "FailedInterfaces of the second link at its other end", impl.FailedInterfaces(p, []int{13}, 5), 8)
	odd := impl.Topology{Links: []impl.Link{
		{A: 3, AInterface: 0, B: 3, BInterface: 15}, {A: 3, AInterface: 16, B: 3, BInterface: -1}, {A: 3, AInterface: 7, B: -4, BInterface: 8}, {A: 3, AInterface: math.MaxInt, B: 3, BInterface: 99},
	}}
	expectInt(t, "FailedInterfaces of one AS at both ends", impl.FailedInterfaces(odd, []int{0}, 3), 1+1<<15)
	expectInt(t, "FailedInterfaces that no set contains", impl.FailedInterfaces(odd, []int{1, 3}, 3), 0)
	expectInt(t, "FailedInterfaces of all links", impl.FailedInterfaces(odd, []int{0, 1, 2, 3}, 3), 1+1<<7+1<<15)
	expectInt(t, "FailedInterfaces of no AS", impl.FailedInterfaces(odd, []int{2}, -4), 1<<8)
	r := rand.New(rand.NewSource(50))
	for range 500 {
		q, failed := randomTopology(r), []int{}
		for range r.Intn(12) {
			failed = append(failed, r.Intn(32)-2)
		}
		for as := -2; as < 20; as++ {
			expectInt(t, "FailedInterfaces", impl.FailedInterfaces(q, failed, as), modelFailed(q, failed, as))
		}
	}
}

// modelTraverse follows a packet by the words of the document.
func modelTraverse(p impl.Topology, now int, failed []int, pk impl.Packet) impl.Trace {
	w := impl.Trace{}
	r, in := pk.Src, 0
	for range 30 {
		v := impl.Forward(p, r, now, modelFailed(p, failed, r), in, pk)
		w.Code, w.Packet, pk = v.Code, v.Packet, v.Packet
		if v.Code > impl.FwDeliver {
			break
		}
		w.Steps = append(w.Steps, impl.Step{AS: r, Ingress: in, Egress: v.Egress})
		if v.Code == impl.FwDeliver {
			break
		}
		_, r, in, _ = modelEnd(p, r, v.Egress)
	}
	return w
}

func expectTrace(t *testing.T, what string, p impl.Topology, now int, failed []int, pk impl.Packet, want impl.Trace) {
	t.Helper()
	if got := impl.Traverse(p, now, failed, pk); !same(got, want) {
		t.Errorf("Traverse %s = %+v; want %+v", what, got, want)
	}
	if model := modelTraverse(p, now, failed, pk); !same(model, want) {
		t.Errorf("the model of Traverse %s = %+v; want %+v", what, model, want)
	}
}

// stops returns the packet as it comes to each AS of its path, and at last as it is delivered.
func stops(pk impl.Packet) []impl.Packet {
	l := []impl.Packet{pk}
	for i, part := range pk.Path.Parts {
		for k := range part.Hops {
			// The last hop of a part and the first one of the next part are traversed together.
			if k == 0 && i > 0 {
				l = l[:len(l)-1]
			}
			next := at(pk, i, min(k+1, len(part.Hops)-1), impl.BetaAfter(part, k+1))
			l = append(l, next)
		}
	}
	return l
}

func TestTraverseToTheEnd(t *testing.T) {
	p := world()
	for _, path := range worldPaths() {
		for now, code := range map[int]int{9: impl.FwExpired, 10: impl.FwDeliver, 100: impl.FwDeliver, 101: impl.FwExpired} {
			pk := impl.NewPacket(impl.PkAck, path, 3, 4, []byte{5})
			want := impl.Trace{Code: code, Packet: pk}
			if code == impl.FwDeliver {
				l := stops(pk)
				want.Steps, want.Packet = modelSteps(path), l[len(l)-1]
			}
			expectTrace(t, "to the end", p, now, nil, pk, want)
			expectBool(t, "Reaches", impl.Reaches(p, now, nil, path), code == impl.FwDeliver)
		}
	}
	end := at(impl.NewPacket(impl.PkData, longPath(), 0, 0, nil), 2, 2, impl.BetaAt(along(p, "2:0>3 5:1>2 6:1>0"), 3))
	expectTrace(t, "along the long path", p, 50, []int{}, impl.NewPacket(impl.PkData, longPath(), 0, 0, nil), impl.Trace{Code: impl.FwDeliver, Steps: stepsAlong("0>4>1 3>3>1 3>0>2 2>2>3 1>5>2 1>6>0"), Packet: end})
}

func TestTraverseWithFailedLinks(t *testing.T) {
	p := world()
	pk := impl.NewPacket(impl.PkData, longPath(), 0, 0, []byte{1})
	// The links behind the steps of the long path.
	links := []int{6, 4, 2, 8, 9}
	l, steps := stops(pk), impl.PathSteps(longPath())
	for i, link := range links {
		want := impl.Trace{Code: impl.FwLinkDown, Steps: steps[:i], Packet: l[i]}
		for _, failed := range [][]int{{link}, append(slices.Clone(links[i:]), 0), {99, -1, link}} {
			expectTrace(t, "over a failed link", p, 50, failed, pk, want)
			expectBool(t, "Reaches over a failed link", impl.Reaches(p, 50, failed, longPath()), false)
		}
	}
	expectTrace(t, "beside failed links", p, 50, []int{0, 1, 3, 5, 7, 10, 11, 12, 13, -1}, pk, impl.Trace{Code: impl.FwDeliver, Steps: steps, Packet: l[len(l)-1]})
	expectBool(t, "Reaches beside failed links", impl.Reaches(p, 50, []int{0, 1, 3, 5, 7, 10, 11, 12, 13, -1}, longPath()), true)
}

// Of two links at one interface, the first one counts.
func TestTraverseWithFailedLinksInInvalidTopologies(t *testing.T) {
	p := world()
	p.Links = append(p.Links, impl.Link{A: 0, AInterface: 2, B: 6, BInterface: 5, Kind: impl.LkCore})
	pk := impl.NewPacket(impl.PkData, longPath(), 0, 0, nil)
	l := stops(pk)
	expectTrace(t, "with the second link failed", p, 50, []int{13}, pk, impl.Trace{Code: impl.FwDeliver, Steps: impl.PathSteps(longPath()), Packet: l[len(l)-1]})
	expectTrace(t, "with the first link failed", p, 50, []int{2}, pk, impl.Trace{Code: impl.FwLinkDown, Steps: impl.PathSteps(longPath())[:2], Packet: l[2]})
}

func TestTraverseOfPacketsThatStartElsewhere(t *testing.T) {
	p := world()
	pk := impl.NewPacket(impl.PkData, longPath(), 0, 0, nil)
	for _, src := range []int{0, 1, 2, 3, 5, 6, 7} {
		other := pk
		other.Src = src
		expectTrace(t, "from another AS", p, 50, nil, other, impl.Trace{Code: impl.FwMalformed, Packet: other})
	}
	large, negative := invalidPackets()
	for _, other := range slices.Concat(large, negative, []impl.Packet{{}}) {
		expectTrace(t, "of an invalid packet", p, 50, nil, other, impl.Trace{Code: impl.FwMalformed, Packet: other})
	}
	// From the middle of a part, nothing comes from the AS itself.
	for i, s := range impl.PathSteps(longPath())[1:] {
		other := stops(pk)[i+1]
		other.Src = s.AS
		expectTrace(t, "from the middle", p, 50, nil, other, impl.Trace{Code: impl.FwIngress, Packet: other})
	}
	// At the first hop of a later part, which begins here, it does.
	later := at(pk, 1, 0, pk.Path.Parts[1].Beta)
	later.Src = 0
	l := stops(pk)
	end := l[len(l)-1]
	end.Src = 0
	expectTrace(t, "from a later part", p, 50, nil, later, impl.Trace{Code: impl.FwDeliver, Steps: stepsAlong("0>0>2 2>2>3 1>5>2 1>6>0"), Packet: end})
	// Another destination is noticed at the end only.
	other := pk
	other.Dst = 5
	want := impl.Trace{Code: impl.FwMalformed, Steps: impl.PathSteps(longPath())[:5], Packet: l[5]}
	want.Packet.Dst = 5
	expectTrace(t, "to another AS", p, 50, nil, other, want)
}

// How far a packet comes whose hop i, in the direction of travel, is not as it was authenticated.
func TestTraverseOfChangedHops(t *testing.T) {
	p := world()
	steps := impl.PathSteps(longPath())
	step := 0
	for i, part := range longPath().Parts {
		for k := range part.Hops {
			if k > 0 {
				step++
			}
			expect := func(what string, now int, code int, change func(h *impl.Hop)) {
				t.Helper()
				path := longPath()
				change(&path.Parts[i].Hops[k])
				pk := impl.NewPacket(impl.PkData, path, 0, 0, nil)
				expectTrace(t, what, p, now, nil, pk, impl.Trace{Code: code, Steps: steps[:step], Packet: stops(pk)[step]})
				expectBool(t, "Reaches "+what, impl.Reaches(p, now, nil, path), false)
			}
			expect("with another MAC", 50, impl.FwMAC, func(h *impl.Hop) { h.MAC = (h.MAC + 1) % impl.Prime })
			expect("with another expiry", 50, impl.FwMAC, func(h *impl.Hop) { h.Expiry++ })
		}
	}
	for i, k := range []int{2, 1, 0, 3, 4, 5, 6, 7} {
		expiries := [8]int{90, 90, 90, 90, 90, 90, 90, 90}
		expiries[k] = 40
		pk := impl.NewPacket(impl.PkData, timed([3]int{5, 5, 5}, expiries), 0, 0, nil)
		far := []int{0, 1, 2, 2, 3, 3, 4, 5}[i]
		expectTrace(t, "with an expired hop", p, 41, nil, pk, impl.Trace{Code: impl.FwExpired, Steps: steps[:far], Packet: stops(pk)[far]})
	}
	for i, far := range []int{0, 2, 3} {
		timestamps := [3]int{5, 5, 5}
		timestamps[i] = 30
		pk := impl.NewPacket(impl.PkData, timed(timestamps, [8]int{90, 90, 90, 90, 90, 90, 90, 90}), 0, 0, nil)
		expectTrace(t, "with a late part", p, 29, nil, pk, impl.Trace{Code: impl.FwExpired, Steps: steps[:far], Packet: stops(pk)[far]})
		other := copyOf(pk)
		other.Path.Parts[i].Timestamp--
		expectTrace(t, "with another time", p, 50, nil, other, impl.Trace{Code: impl.FwMAC, Steps: steps[:far], Packet: stops(other)[far]})
	}
}

func TestTraverseOfOtherPaths(t *testing.T) {
	p := world()
	for _, texts := range [][]string{{"down1 0:0>4 4:4>0"}, {"up2 0:0>3 3:1>3 4:1>0"}, {"up1 1:0>1 0:1>0", "core1 2:0>2 0:2>0", "down1 1:0>1 0:1>0"}} {
		path := pathAlong(p, texts...)
		pk := impl.NewPacket(impl.PkData, path, 0, 0, nil)
		last := path.Parts[len(path.Parts)-1]
		end := at(pk, len(path.Parts)-1, 0, impl.BetaAfter(last, 1))
		// An AS delivers to itself at once, even if all links have failed.
		expectTrace(t, "to the AS itself", p, 50, []int{0, 1, 2, 3, 4, 5, 6, 7, 8, 9, 10, 11, 12}, pk, impl.Trace{Code: impl.FwDeliver, Steps: []impl.Step{{AS: pk.Src}}, Packet: end})
	}
	pk := impl.NewPacket(impl.PkData, valley(), 0, 0, nil)
	expectTrace(t, "through a valley", p, 50, nil, pk, impl.Trace{Code: impl.FwTransit, Steps: stepsAlong("0>0>3"), Packet: stops(pk)[1]})
	for _, path := range []impl.Path{{}, pathOfParts(impl.PathPart{}), pathAlong(p, "up 0:0>3 3:1>3 4:1>0", "down 2:0>3 5:1>0")} {
		pk := impl.NewPacket(impl.PkData, path, 0, 0, nil)
		expectTrace(t, "of a path that is not simple", p, 50, nil, pk, impl.Trace{Code: impl.FwMalformed, Packet: pk})
		expectBool(t, "Reaches on a path that is not simple", impl.Reaches(p, 50, nil, path), false)
	}
}

// longest has a path of as many steps as there can be: up from AS 7 to AS 0, over to AS 7 and down to AS 0, through all interfaces. Such a topology is not valid.
func longest() (impl.Topology, impl.Path) {
	p, up, core, down := impl.Topology{}, []impl.Hop{}, []impl.Hop{}, []impl.Hop{}
	for i := range 8 {
		p.ASes = append(p.ASes, impl.AS{Core: true, Key: 11 + i})
		up = append(up, impl.Hop{AS: i, Ingress: 2, Egress: 1, Expiry: 100})
		core = append(core, impl.Hop{AS: i, Ingress: 4, Egress: 3, Expiry: 100})
		down = append(down, impl.Hop{AS: 7 - i, Ingress: 6, Egress: 5, Expiry: 100})
	}
	for i := range 7 {
		p.Links = append(p.Links,
			impl.Link{A: i, AInterface: 1, B: i + 1, BInterface: 2, Kind: impl.LkChild},
			impl.Link{A: i, AInterface: 3, B: i + 1, BInterface: 4, Kind: impl.LkCore},
			impl.Link{A: i + 1, AInterface: 5, B: i, BInterface: 6, Kind: impl.LkChild})
	}
	path := impl.Path{}
	for i, l := range [][]impl.Hop{up, core, down} {
		l[0].Ingress, l[7].Egress = 0, 0
		path.Parts = append(path.Parts, modelPart(build(p, 10, 500+i, l...), []int{impl.PaUp, impl.PaCore, impl.PaDown}[i], 0))
	}
	return p, path
}

func TestTraverseOfTheLongestPath(t *testing.T) {
	p, path := longest()
	expectBool(t, "ValidTopology", impl.ValidTopology(p), false)
	steps := impl.PathSteps(path)
	expectInt(t, "the number of steps", len(steps), 22)
	pk := impl.NewPacket(impl.PkData, path, 0, 0, nil)
	l := stops(pk)
	expectTrace(t, "of the longest path", p, 50, nil, pk, impl.Trace{Code: impl.FwDeliver, Steps: steps, Packet: l[22]})
	for i, s := range steps[:21] {
		link, _, _, _ := modelEnd(p, s.AS, s.Egress)
		expectTrace(t, "of a part of the longest path", p, 50, []int{link}, pk, impl.Trace{Code: impl.FwLinkDown, Steps: steps[:i], Packet: l[i]})
	}
}

func TestTraceInterfaces(t *testing.T) {
	of := func(text string) impl.Trace { return impl.Trace{Code: 5, Steps: stepsAlong(text)} }
	expectInts(t, "TraceInterfaces without steps", impl.TraceInterfaces(impl.Trace{}))
	expectInts(t, "TraceInterfaces of the long path", impl.TraceInterfaces(of("0>4>1 3>3>1 3>0>2 2>2>3 1>5>2 1>6>0")), 33, 27, 25, 3, 2, 18, 19, 41, 42, 49)
	expectInts(t, "TraceInterfaces of 0", impl.TraceInterfaces(of("0>4>0 0>0>0")))
	expectInts(t, "TraceInterfaces with 0 within", impl.TraceInterfaces(of("3>4>0 0>5>0 0>6>2 1>0>1")), 35, 50, 1, 1)
	wild := impl.Trace{Steps: []impl.Step{{AS: -1, Ingress: -2, Egress: 100}, {AS: math.MaxInt, Ingress: 9}}}
	expectInts(t, "TraceInterfaces of no ASes", impl.TraceInterfaces(wild), -10, 92, 1)
}

func TestWorkingPaths(t *testing.T) {
	p := world()
	l := worldPaths()
	all := []int{}
	for i := range l {
		all = append(all, i)
	}
	expectInts(t, "WorkingPaths of no paths", impl.WorkingPaths(p, 50, []int{0}, nil))
	expectInts(t, "WorkingPaths", impl.WorkingPaths(p, 50, nil, l), all...)
	expectInts(t, "WorkingPaths too early", impl.WorkingPaths(p, 9, nil, l))
	expectInts(t, "WorkingPaths too late", impl.WorkingPaths(p, 101, nil, l))
	for i := range p.Links {
		want := []int{}
		for n, path := range l {
			over := slices.ContainsFunc(modelSteps(path), func(s impl.Step) bool { k, _, _, _ := modelEnd(p, s.AS, s.Egress); return s.Egress != 0 && k == i })
			if !over {
				want = append(want, n)
			}
		}
		expectInts(t, "WorkingPaths with a failed link", impl.WorkingPaths(p, 50, []int{i}, l), want...)
	}
	forged := longPath()
	forged.Parts[2].Hops[2].MAC ^= 1
	odd := []impl.Path{{}, longPath(), pathOfParts(impl.PathPart{}), forged, longPath(), valley(), pathAlong(p, "down1 0:0>4 4:4>0")}
	expectInts(t, "WorkingPaths of odd paths", impl.WorkingPaths(p, 50, nil, odd), 1, 4, 6)
	expectInts(t, "WorkingPaths without ASes", impl.WorkingPaths(impl.Topology{}, 50, nil, odd))
}

func TestEqualSteps(t *testing.T) {
	l := stepsAlong("0>4>1 3>3>1 3>0>2")
	expectBool(t, "EqualSteps", impl.EqualSteps(l, slices.Clone(l)), true)
	expectBool(t, "EqualSteps of nil and empty", impl.EqualSteps(nil, []impl.Step{}) && impl.EqualSteps([]impl.Step{}, nil) && impl.EqualSteps(nil, nil), true)
	for i := range l {
		for _, change := range []func(s *impl.Step){func(s *impl.Step) { s.AS++ }, func(s *impl.Step) { s.Ingress++ }, func(s *impl.Step) { s.Egress++ }} {
			m := slices.Clone(l)
			change(&m[i])
			expectBool(t, "EqualSteps with another step", impl.EqualSteps(l, m) || impl.EqualSteps(m, l), false)
		}
		expectBool(t, "EqualSteps of fewer steps", impl.EqualSteps(l, l[:i]) || impl.EqualSteps(l[:i], l), false)
	}
	expectBool(t, "EqualSteps of another order", impl.EqualSteps(l, []impl.Step{l[0], l[2], l[1]}), false)
	expectBool(t, "EqualSteps of a zero step", impl.EqualSteps(nil, []impl.Step{{}}), false)
}

func TestFormatTrace(t *testing.T) {
	p := world()
	steps := stepsAlong("0>4>1 3>3>0")
	names := []string{"forward", "deliver", "malformed", "ingress", "mac", "expired", "transit", "linkdown"}
	for code, name := range names {
		expectText(t, "FormatTrace", impl.FormatTrace(p, impl.Trace{Code: code, Steps: steps}), name+" 0>0-4>1 3>0-3>0")
		expectText(t, "FormatTrace without steps", impl.FormatTrace(p, impl.Trace{Code: code}), name)
	}
	for _, code := range append(strange(), 8) {
		expectText(t, "FormatTrace of an unknown code", impl.FormatTrace(p, impl.Trace{Code: code}), "")
		expectText(t, "FormatTrace of an unknown code", impl.FormatTrace(p, impl.Trace{Code: code, Steps: steps}), " 0>0-4>1 3>0-3>0")
	}
	expectText(t, "FormatTrace of no ASes", impl.FormatTrace(p, impl.Trace{Code: 4, Steps: []impl.Step{{AS: 8, Ingress: -1}, {AS: -1, Egress: 77}, {AS: 7}}}), "mac -1>?>0 0>?>77 0>2-7>0")
	expectText(t, "FormatTrace without ASes", impl.FormatTrace(impl.Topology{}, impl.Trace{Steps: steps}), "forward 0>?>1 3>?>0")
}

// Wherever a packet goes, it passes no interface twice; a usable path that all ASes permit is traversed to its end.
func TestManyTraversals(t *testing.T) {
	codes := map[int]int{}
	manyPaths(t, 51, func(r *rand.Rand, p impl.Topology, path impl.Path) {
		now, failed := 10+r.Intn(101), []int{}
		pk := impl.NewPacket(1+r.Intn(3), path, 0, 0, nil)
		if impl.PathUsable(p, path, now) && impl.PathAllowed(p, path) {
			l := stops(pk)
			expectSame(t, "Traverse", impl.Traverse(p, now, nil, pk), impl.Trace{Code: impl.FwDeliver, Steps: modelSteps(path), Packet: l[len(l)-1]})
			expectBool(t, "Reaches", impl.Reaches(p, now, nil, path), true)
		}
		switch r.Intn(6) {
		case 0:
			changes := packetChanges(pk)
			changes[r.Intn(len(changes))](&pk)
		case 1:
			now = r.Intn(130)
		case 2:
			failed = append(failed, r.Intn(len(p.Links)), r.Intn(len(p.Links)))
		case 3:
			part := &pk.Path.Parts[r.Intn(len(pk.Path.Parts))]
			part.Hops[r.Intn(len(part.Hops))].MAC ^= 1
		case 4:
			pk.Dst = r.Intn(len(p.ASes))
		}
		got := impl.Traverse(p, now, failed, pk)
		if want := modelTraverse(p, now, failed, pk); !same(got, want) {
			t.Fatalf("Traverse(%+v, %d, %v, %+v) = %+v; want %+v", p, now, failed, pk, got, want)
		}
		codes[got.Code]++
		seen := map[int]bool{}
		for _, n := range impl.TraceInterfaces(got) {
			if seen[n] {
				t.Fatalf("the interface %d twice in %+v", n, got.Steps)
			}
			seen[n] = true
		}
	})
	for _, code := range []int{impl.FwDeliver, impl.FwMalformed, impl.FwMAC, impl.FwExpired, impl.FwLinkDown} {
		if codes[code] < 20 {
			t.Errorf("too few traces with the code %d: %v", code, codes)
		}
	}
}

func TestTraversalSharesNoMemory(t *testing.T) {
	p := world()
	packets := []impl.Packet{{}, longPacket(), impl.NewPacket(1, valley(), 0, 0, nil)}
	for _, path := range worldPaths() {
		packets = append(packets, impl.NewPacket(1, path, 1, 2, []byte{3}))
		expectPure(t, "Reaches", impl.Reaches, p, 50, []int{0, 3}, path)
	}
	for _, pk := range packets {
		for _, failed := range [][]int{nil, {0, 4, 6}, {9}, {-1, 99}} {
			w := expectPure(t, "Traverse", impl.Traverse, p, 50, failed, pk)[0]
			expectPure(t, "TraceInterfaces", impl.TraceInterfaces, w)
			expectPure(t, "FormatTrace", impl.FormatTrace, p, w)
			expectPure(t, "FailedInterfaces", impl.FailedInterfaces, p, failed, pk.Src)
		}
	}
	expectPure(t, "WorkingPaths", impl.WorkingPaths, p, 50, []int{0, 2}, worldPaths())
	expectPure(t, "EqualSteps", impl.EqualSteps, stepsAlong("0>4>1 3>3>1"), stepsAlong("0>4>1 3>3>2"))
}
