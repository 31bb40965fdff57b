package tests

import (
	"math"
	"math/rand"
	"slices"
	"testing"

	"loop.example/g00505/impl"
)

// at returns the packet at another position.
func at(pk impl.Packet, part int, hop int, beta int) impl.Packet {
	pk.PartIndex, pk.HopIndex, pk.Beta = part, hop, beta
	return pk
}

// rejected is the verdict with this code about the packet as it came.
func rejected(code int, pk impl.Packet) impl.Verdict {
	return impl.Verdict{Code: code, Packet: pk}
}

func TestAdvanceHop(t *testing.T) {
	pk := impl.NewPacket(impl.PkData, longPath(), 3, 4, []byte{5})
	positions := [][2]int{{0, 0}, {0, 1}, {0, 2}, {1, 0}, {1, 1}, {2, 0}, {2, 1}, {2, 2}}
	for i, from := range positions {
		to := positions[min(i+1, 7)]
		beta := 77
		if to[0] != from[0] {
			beta = pk.Path.Parts[to[0]].Beta
		}
		got := impl.AdvanceHop(at(pk, from[0], from[1], 77))
		expectSame(t, "AdvanceHop", got, at(pk, to[0], to[1], beta))
	}
	for _, n := range append(strange(), 3, 4) {
		for _, odd := range []impl.Packet{at(pk, n, 0, 77), at(pk, 0, n, 77), at(pk, 2, n, 77), at(pk, n, n, 77)} {
			expectSame(t, "AdvanceHop beyond the path", impl.AdvanceHop(odd), odd)
		}
	}
	expectSame(t, "AdvanceHop of the zero packet", impl.AdvanceHop(impl.Packet{}), impl.Packet{})
}

func TestAdvanceHopOnOddPaths(t *testing.T) {
	none, a, b := impl.PathPart{Beta: 8}, onePart(impl.PaUp, 3), onePart(impl.PaUp, -1, -1)
	cases := []struct {
		what string
		from impl.Packet
		part int
		hop  int
		beta int
	}{
		{"ahead of a part without hops", impl.Packet{Path: pathOfParts(a, none, a), Beta: 5}, 1, 0, 8},
		{"ahead of a last part without hops", impl.Packet{Path: pathOfParts(a, none), Beta: 5}, 1, 0, 8},
		{"in a part without hops", impl.Packet{Path: pathOfParts(a, none, a), PartIndex: 1, Beta: 5}, 1, 0, 5},
		{"at no AS", impl.Packet{Path: pathOfParts(b, a), Beta: 5}, 0, 0, 5},
		{"at the end of a part at no AS", impl.Packet{Path: pathOfParts(b, a), HopIndex: 1, Beta: 5}, 0, 1, 5},
		{"ahead of no AS", impl.Packet{Path: pathOfParts(a, b), Beta: 5}, 1, 0, 0},
		{"on a path of five parts", impl.Packet{Path: pathOfParts(a, a, a, a, none), PartIndex: 3, Beta: 5}, 4, 0, 8},
	}
	for _, c := range cases {
		expectSame(t, "AdvanceHop "+c.what, impl.AdvanceHop(c.from), at(c.from, c.part, c.hop, c.beta))
	}
}

func TestVerifyCurrentHop(t *testing.T) {
	p := world()
	for _, path := range worldPaths() {
		for i, part := range path.Parts {
			beta := part.Beta
			for k, h := range part.Hops {
				pk := at(impl.NewPacket(impl.PkData, path, 0, 0, nil), i, k, beta)
				beta = (beta + h.MAC) % impl.Prime
				if modelReversed(part.Kind) {
					beta = (beta + 2*impl.Prime - 2*h.MAC) % impl.Prime
				}
				got, ok := impl.VerifyCurrentHop(p, pk)
				expectSame(t, "VerifyCurrentHop", got, at(pk, i, k, beta))
				expectBool(t, "VerifyCurrentHop", ok, true)
				expectNotVerified(t, p, "another topology", pk, func(pk *impl.Packet) { pk.Path.Parts[i].Hops[k].AS = 8 })
				expectNotVerified(t, p, "another beta", pk, func(pk *impl.Packet) { pk.Beta = (pk.Beta + 1) % impl.Prime })
				expectNotVerified(t, p, "another time", pk, func(pk *impl.Packet) { pk.Path.Parts[i].Timestamp++ })
				expectNotVerified(t, p, "the other direction", pk, func(pk *impl.Packet) { pk.Path.Parts[i].Kind = 5 - part.Kind })
				for name, change := range hopChanges() {
					expectNotVerified(t, p, "another "+name, pk, func(pk *impl.Packet) { change(&pk.Path.Parts[i].Hops[k], 1) })
				}
				for _, mac := range []int{-1, impl.Prime, h.MAC + impl.Prime, h.MAC - impl.Prime, math.MinInt, math.MaxInt} {
					expectNotVerified(t, p, "a MAC out of range", pk, func(pk *impl.Packet) { pk.Path.Parts[i].Hops[k].MAC = mac })
				}
				expectNotVerified(t, impl.Topology{}, "no ASes", pk, func(pk *impl.Packet) {})
				expectNotVerified(t, impl.Topology{ASes: p.ASes[:h.AS]}, "an AS that does not exist", pk, func(pk *impl.Packet) {})
			}
		}
	}
}

func expectNotVerified(t *testing.T, p impl.Topology, what string, pk impl.Packet, change func(pk *impl.Packet)) {
	t.Helper()
	other := copyOf(pk)
	change(&other)
	if got, ok := impl.VerifyCurrentHop(p, other); ok || !same(got, other) {
		t.Errorf("VerifyCurrentHop with %s = %+v, %v; want the packet, false", what, got, ok)
	}
}

func TestVerifyCurrentHopAtOtherPlaces(t *testing.T) {
	p := world()
	pk := impl.NewPacket(impl.PkData, longPath(), 0, 0, nil)
	for _, n := range append(strange(), 3, 4) {
		expectNotVerified(t, p, "no such part", at(pk, n, 0, pk.Beta), func(pk *impl.Packet) {})
		expectNotVerified(t, p, "no such hop", at(pk, 0, n, pk.Beta), func(pk *impl.Packet) {})
	}
	expectNotVerified(t, p, "no path", impl.Packet{}, func(pk *impl.Packet) {})
	// The packet need not be valid, nor on a well-formed path.
	odd := pathOfParts(impl.PathPart{Kind: 9, Timestamp: 10, Hops: []impl.Hop{authenticated(p, 10, 500, impl.Hop{AS: 6, Ingress: 5, Egress: 4, Expiry: 9})}})
	pk = impl.Packet{Kind: -1, Path: odd, Beta: 500, Seq: -1}
	got, ok := impl.VerifyCurrentHop(p, pk)
	expectBool(t, "VerifyCurrentHop of an odd packet", ok, true)
	expectSame(t, "VerifyCurrentHop of an odd packet", got, at(pk, 0, 0, (500+odd.Parts[0].Hops[0].MAC)%impl.Prime))
}

// A Beta out of range counts as it is for the MAC of a part that is not reversed, and as 0 otherwise; what comes after it is as for 0.
func TestVerifyCurrentHopWithABetaOutOfRange(t *testing.T) {
	p := world()
	h := impl.Hop{AS: 3, Ingress: 1, Egress: 3, Expiry: 9}
	for _, beta := range []int{-1, impl.Prime, math.MinInt, math.MaxInt} {
		for _, kind := range partKinds() {
			g := authenticated(p, 10, beta, h)
			if modelReversed(kind) {
				g = authenticated(p, 10, 0, h)
			}
			pk := impl.Packet{Path: pathOfParts(impl.PathPart{Kind: kind, Timestamp: 10, Hops: []impl.Hop{g}}), Beta: beta}
			got, ok := impl.VerifyCurrentHop(p, pk)
			expectBool(t, "VerifyCurrentHop", ok, true)
			expectInt(t, "the Beta", got.Beta, 0)
		}
	}
}

func TestCurrentHopValid(t *testing.T) {
	timestamps, expiries := [3]int{20, 30, 40}, [8]int{91, 92, 93, 94, 95, 96, 97, 98}
	pk := impl.NewPacket(impl.PkData, timed(timestamps, expiries), 0, 0, nil)
	// The hops of the first part are traversed in reverse order.
	ends := [][]int{{93, 92, 91}, {94, 95}, {96, 97, 98}}
	for i, l := range ends {
		for k, expiry := range l {
			for now, want := range map[int]bool{timestamps[i] - 1: false, timestamps[i]: true, expiry: true, expiry + 1: false, -1: false, math.MinInt: false, math.MaxInt: false} {
				expectBool(t, "CurrentHopValid at "+impl.FormatInt(now), impl.CurrentHopValid(at(pk, i, k, 0), now), want)
			}
		}
	}
	for _, n := range append(strange(), 3, 4) {
		expectBool(t, "CurrentHopValid beyond the path", impl.CurrentHopValid(at(pk, n, 0, 0), 50), false)
		expectBool(t, "CurrentHopValid beyond the path", impl.CurrentHopValid(at(pk, 0, n, 0), 50), false)
	}
	expectBool(t, "CurrentHopValid without a path", impl.CurrentHopValid(impl.Packet{}, 0), false)
	hop := impl.Hop{AS: 99, Expiry: 5}
	expectBool(t, "CurrentHopValid of any AS", impl.CurrentHopValid(impl.Packet{Path: pathOfParts(impl.PathPart{Timestamp: -3, Hops: []impl.Hop{hop}})}, -3), true)
	hop.AS = -1
	expectBool(t, "CurrentHopValid of no AS", impl.CurrentHopValid(impl.Packet{Path: pathOfParts(impl.PathPart{Hops: []impl.Hop{hop}})}, 3), false)
}

// modelForward decides by the words of the document.
func modelForward(p impl.Topology, r int, now int, failed int, in int, pk impl.Packet) impl.Verdict {
	if !impl.ValidPacket(pk) || !impl.SimplePath(p, pk.Path) || impl.CurrentAS(pk) != r {
		return rejected(impl.FwMalformed, pk)
	}
	expected := impl.PartIngress(pk.Path.Parts[pk.PartIndex], pk.HopIndex)
	if pk.PartIndex == 0 && pk.HopIndex == 0 {
		expected = 0
	}
	if in != expected {
		return rejected(impl.FwIngress, pk)
	}
	moved, ok := impl.VerifyCurrentHop(p, pk)
	for {
		part := moved.Path.Parts[moved.PartIndex]
		if !ok {
			return rejected(impl.FwMAC, pk)
		}
		if part.Timestamp > now || part.Hops[moved.HopIndex].Expiry < now {
			return rejected(impl.FwExpired, pk)
		}
		if moved.HopIndex != len(part.Hops)-1 || moved.PartIndex == len(moved.Path.Parts)-1 {
			break
		}
		moved, ok = impl.VerifyCurrentHop(p, impl.AdvanceHop(moved))
	}
	if impl.AtLastHop(moved) {
		if pk.Dst != r {
			return rejected(impl.FwMalformed, pk)
		}
		return impl.Verdict{Code: impl.FwDeliver, Packet: moved}
	}
	out := impl.PartEgress(moved.Path.Parts[moved.PartIndex], moved.HopIndex)
	if !impl.StepAllowed(p, impl.Step{AS: r, Ingress: in, Egress: out}) {
		return rejected(impl.FwTransit, pk)
	}
	if impl.Contains(failed, out) {
		return rejected(impl.FwLinkDown, pk)
	}
	return impl.Verdict{Code: impl.FwForward, Egress: out, Packet: impl.AdvanceHop(moved)}
}

func expectVerdict(t *testing.T, what string, p impl.Topology, r int, now int, failed int, in int, pk impl.Packet, want impl.Verdict) {
	t.Helper()
	if got := impl.Forward(p, r, now, failed, in, pk); !same(got, want) {
		t.Errorf("Forward %s = %+v; want %+v", what, got, want)
	}
	if model := modelForward(p, r, now, failed, in, pk); !same(model, want) {
		t.Errorf("the model of Forward %s = %+v; want %+v", what, model, want)
	}
}

func TestForwardAlongTheLongPath(t *testing.T) {
	p := world()
	pk := impl.NewPacket(impl.PkData, longPath(), 3, 4, []byte{5})
	up, core, down := along(p, "0:0>3 3:1>3 4:1>0"), along(p, "0:0>2 2:2>0"), along(p, "2:0>3 5:1>2 6:1>0")
	// The packet behind each AS: at AS 0, it leaves the first part, and at AS 2, the second one.
	positions := []impl.Packet{
		pk, at(pk, 0, 1, impl.BetaAt(up, 2)), at(pk, 0, 2, impl.BetaAt(up, 1)), at(pk, 1, 1, impl.BetaAt(core, 1)), at(pk, 2, 1, impl.BetaAt(down, 1)), at(pk, 2, 2, impl.BetaAt(down, 2)), at(pk, 2, 2, impl.BetaAt(down, 3)),
	}
	for i, s := range impl.PathSteps(longPath()) {
		code := impl.FwForward
		if i == 5 {
			code = impl.FwDeliver
		}
		expectVerdict(t, "along the long path", p, s.AS, 50, 0, s.Ingress, positions[i], impl.Verdict{Code: code, Egress: s.Egress, Packet: positions[i+1]})
		for _, now := range []int{9, 101, -1, impl.MaxTime, math.MinInt, math.MaxInt} {
			expectVerdict(t, "out of time", p, s.AS, now, 0, s.Ingress, positions[i], rejected(impl.FwExpired, positions[i]))
		}
		for _, now := range []int{10, 100} {
			expectVerdict(t, "at the ends of time", p, s.AS, now, 0, s.Ingress, positions[i], impl.Verdict{Code: code, Egress: s.Egress, Packet: positions[i+1]})
		}
		for r := -1; r <= 9; r++ {
			if r != s.AS {
				expectVerdict(t, "at another AS", p, r, 50, 0, s.Ingress, positions[i], rejected(impl.FwMalformed, positions[i]))
			}
		}
		for _, in := range append(strange(), 0, 1, 2, 3, 4, 5, 6, 7) {
			if in != s.Ingress {
				expectVerdict(t, "through another interface", p, s.AS, 50, 0, in, positions[i], rejected(impl.FwIngress, positions[i]))
			}
		}
		other := positions[i]
		other.Beta = (other.Beta + 1) % impl.Prime
		expectVerdict(t, "with another beta", p, s.AS, 50, 0, s.Ingress, other, rejected(impl.FwMAC, other))
		other = positions[i]
		other.Dst = 5
		want := impl.Verdict{Code: code, Egress: s.Egress, Packet: positions[i+1]}
		want.Packet.Dst = 5
		if i == 5 {
			want = rejected(impl.FwMalformed, other)
		}
		expectVerdict(t, "to another destination", p, s.AS, 50, 0, s.Ingress, other, want)
	}
}

// valley leads down from AS 0 to 3 and up to 1, authenticated by all of them, as a core part.
func valley() impl.Path {
	return pathAlong(world(), "core 0:0>3 3:1>2 1:3>0")
}

// Whatever applies first decides.
func TestForwardInTheOrderOfItsSteps(t *testing.T) {
	p := world()
	codes := []int{impl.FwMalformed, impl.FwIngress, impl.FwMAC, impl.FwExpired, impl.FwTransit, impl.FwLinkDown}
	for n := range 64 {
		broken := func(i int) bool { return n>>i&1 == 1 }
		// AS 3 receives the packet through interface 1.
		path := pathAlong(p, "down 0:0>3 3:1>3 4:1>0")
		if broken(4) {
			path = valley()
		}
		out := path.Parts[0].Hops[1].Egress
		start := impl.NewPacket(impl.PkData, path, 0, 0, nil)
		pk := at(start, 0, 1, impl.BetaAfter(path.Parts[0], 1))
		in, now, failed := 1, 50, 0
		if broken(0) {
			pk.Seq = -1
		}
		if broken(1) {
			in = 2
		}
		if broken(2) {
			pk.Beta ^= 1
		}
		if broken(3) {
			now = 101
		}
		if broken(5) {
			failed = 1 << out
		}
		want := impl.Verdict{Code: impl.FwForward, Egress: out, Packet: at(start, 0, 2, impl.BetaAfter(path.Parts[0], 2))}
		for i := 5; i >= 0; i-- {
			if broken(i) {
				want = rejected(codes[i], pk)
			}
		}
		expectVerdict(t, "with the faults "+impl.FormatInt(n), p, 3, now, failed, in, pk, want)
	}
}

func TestForwardOfMalformedPackets(t *testing.T) {
	p := world()
	large, negative := invalidPackets()
	for _, pk := range slices.Concat(large, negative, []impl.Packet{{}}) {
		for r := -1; r <= 8; r++ {
			expectVerdict(t, "of an invalid packet", p, r, 50, 0, 2, pk, rejected(impl.FwMalformed, pk))
		}
	}
	for _, path := range []impl.Path{
		pathAlong(p, "up 0:0>3 3:1>3 4:1>0", "down 0:0>3 3:1>4 4:2>0"), pathAlong(p, "up 0:0>3 3:1>3 4:1>0", "down 2:0>3 5:1>0"), pathAlong(p, "down 0:0>3 3:1>0", "up 0:0>3 3:1>0"), pathAlong(p, "up 0:0>4 3:1>3 4:1>0"),
	} {
		pk := impl.NewPacket(impl.PkData, path, 0, 0, nil)
		expectBool(t, "ValidPacket", impl.ValidPacket(pk), true)
		expectVerdict(t, "of a packet on a path that is not simple", p, impl.CurrentAS(pk), 50, 0, 0, pk, rejected(impl.FwMalformed, pk))
	}
	pk := impl.NewPacket(impl.PkData, longPath(), 0, 0, nil)
	expectVerdict(t, "without ASes", impl.Topology{}, 4, 50, 0, 0, pk, rejected(impl.FwMalformed, pk))
	expectVerdict(t, "without links", impl.Topology{ASes: p.ASes}, 4, 50, 0, 0, pk, rejected(impl.FwMalformed, pk))
}

func TestForwardWherePartsMeet(t *testing.T) {
	p := world()
	follow := func(what string, texts ...string) {
		t.Helper()
		path := pathAlong(p, texts...)
		pk := impl.NewPacket(impl.PkAck, path, 1, 2, []byte{3})
		steps := modelSteps(path)
		for i, s := range steps {
			v := impl.Forward(p, s.AS, 50, 0, s.Ingress, pk)
			expectVerdict(t, what, p, s.AS, 50, 0, s.Ingress, pk, v)
			if i == len(steps)-1 {
				last := path.Parts[len(path.Parts)-1]
				end := at(pk, len(path.Parts)-1, len(last.Hops)-1, impl.BetaAfter(last, len(last.Hops)))
				expectSame(t, what+" to its end", v, impl.Verdict{Code: impl.FwDeliver, Packet: end})
			} else if v.Code != impl.FwForward || v.Egress != s.Egress {
				t.Fatalf("%s: %+v", what, v)
			}
			pk = v.Packet
		}
	}
	follow("one part", "up 0:0>3 3:1>3 4:1>0")
	follow("two parts", "up 0:0>3 3:1>0", "down 0:0>4 4:4>0")
	follow("two parts that meet below the core", "up1 0:0>3 3:1>3 4:1>0", "down1 1:0>3 3:2>4 4:2>0")
	follow("three parts", "up 0:0>3 3:1>3 4:1>0", "back 2:0>2 0:2>0", "down 2:0>3 5:1>0")
	follow("three parts that meet at one AS", "up 0:0>3 3:1>0", "core1 1:0>1 0:1>0", "down 0:0>4 4:4>0")
	follow("three parts that meet at one AS", "up 0:0>3 3:1>0", "back1 1:0>1 0:1>0", "down 0:0>4 4:4>0")
	follow("a single hop at the end", "up 0:0>3 3:1>0", "core1 1:0>1 0:1>0")
	follow("two single hops at the end", "up 0:0>3 3:1>0", "core1 1:0>1 0:1>0", "down1 1:0>1 0:1>0")
	follow("a single hop at the beginning", "up2 0:0>3 3:1>3 4:1>0", "down2 0:0>3 3:1>3 4:1>0")
	follow("two single hops at the beginning", "up1 1:0>1 0:1>0", "back1 1:0>1 0:1>0", "down 0:0>4 4:4>0")
	follow("a single hop", "down1 0:0>4 4:4>0")
	follow("three single hops", "up1 1:0>1 0:1>0", "core1 2:0>2 0:2>0", "down1 1:0>1 0:1>0")
}

// Each hop at an AS is verified, its MAC ahead of its time, in the order of the parts.
func TestForwardVerifiesAllHopsWherePartsMeet(t *testing.T) {
	p := world()
	expire := func(text string, kind int, from int, as int, expiry int) impl.PathPart {
		hops := route(text)
		for i := range hops {
			if hops[i].AS == as {
				hops[i].Expiry = expiry
			}
		}
		return modelPart(build(p, 10, 500, hops...), kind, from)
	}
	// AS 0 receives the packet at the last hop of the first part; nothing, the MAC or the time of its three hops is wrong.
	for n := range 27 {
		faults := [3]int{n % 3, n / 3 % 3, n / 9}
		texts, kinds, from := []string{"0:0>3 3:1>0", "1:0>1 0:1>0", "0:0>4 4:4>0"}, []int{impl.PaUp, impl.PaCore, impl.PaDown}, []int{0, 1, 0}
		path, code := impl.Path{}, impl.FwForward
		for i := range 3 {
			part := expire(texts[i], kinds[i], from[i], 0, 100-50*(faults[i]/2))
			if faults[i] == 1 {
				part.Beta ^= 1
			}
			if faults[i] > 0 && code == impl.FwForward {
				code = []int{impl.FwMAC, impl.FwExpired}[faults[i]-1]
			}
			path.Parts = append(path.Parts, part)
		}
		pk := impl.NewPacket(impl.PkData, path, 0, 0, nil)
		pk = at(pk, 0, 1, impl.BetaAfter(path.Parts[0], 1))
		want := rejected(code, pk)
		if code == impl.FwForward {
			want = impl.Verdict{Egress: 4, Packet: at(pk, 2, 1, impl.BetaAfter(path.Parts[2], 1))}
		}
		expectVerdict(t, "with the faults "+impl.FormatInt(n), p, 0, 60, 0, 3, pk, want)
	}
}

// At the first hop of a later part, a packet is expected through the ingress of this hop.
func TestForwardAtTheFirstHopOfALaterPart(t *testing.T) {
	p := world()
	path := pathAlong(p, "up1 0:0>3 3:1>3 4:1>0", "down1 1:0>3 3:2>4 4:2>0")
	pk := at(impl.NewPacket(impl.PkData, path, 0, 0, nil), 1, 0, path.Parts[1].Beta)
	forwarded := impl.Verdict{Egress: 4, Packet: at(pk, 1, 1, impl.BetaAfter(path.Parts[1], 1))}
	for in := -1; in <= 7; in++ {
		want := rejected(impl.FwIngress, pk)
		if in == 2 {
			want = forwarded
		}
		expectVerdict(t, "at a later part", p, 3, 50, 0, in, pk, want)
	}
	path = longPath()
	pk = at(impl.NewPacket(impl.PkData, path, 0, 0, nil), 1, 0, path.Parts[1].Beta)
	expectVerdict(t, "at a later part that begins here", p, 0, 50, 0, 0, pk, impl.Verdict{Egress: 2, Packet: at(pk, 1, 1, impl.BetaAfter(path.Parts[1], 1))})
	expectVerdict(t, "at a later part that begins here", p, 0, 50, 0, 3, pk, rejected(impl.FwIngress, pk))
	// At the first hop of the first part it comes from the AS itself, whatever the ingress of this hop is.
	path = pathAlong(p, "down1 0:0>3 3:1>3 4:1>0")
	pk = impl.NewPacket(impl.PkData, path, 0, 0, nil)
	expectInt(t, "PartIngress", impl.PartIngress(path.Parts[0], 0), 1)
	expectVerdict(t, "at the first part", p, 3, 50, 0, 0, pk, impl.Verdict{Egress: 3, Packet: at(pk, 0, 1, impl.BetaAfter(path.Parts[0], 1))})
	expectVerdict(t, "at the first part", p, 3, 50, 0, 1, pk, rejected(impl.FwIngress, pk))
}

func TestForwardWithFailedInterfaces(t *testing.T) {
	p := world()
	path := longPath()
	pk := impl.NewPacket(impl.PkData, path, 0, 0, nil)
	for i, s := range impl.PathSteps(path) {
		v := impl.Forward(p, s.AS, 50, 0, s.Ingress, pk)
		for _, failed := range []int{1, 1 << s.Egress, 1 << s.Ingress, fullSet, fullSet - 1<<s.Egress, 1<<s.Egress + 1<<15} {
			want := v
			if failed>>s.Egress&1 == 1 && i < 5 {
				want = rejected(impl.FwLinkDown, pk)
			}
			expectVerdict(t, "with the failed set "+impl.FormatInt(failed), p, s.AS, 50, failed, s.Ingress, pk, want)
		}
		// A set that is not valid contains nothing.
		for _, failed := range []int{-1, fullSet + 1, 65536 + 1<<s.Egress, 2*65536 - 1, math.MaxInt, math.MinInt} {
			expectVerdict(t, "with an invalid set", p, s.AS, 50, failed, s.Ingress, pk, v)
		}
		pk = v.Packet
	}
}

func TestForwardRejectsForbiddenSteps(t *testing.T) {
	p := world()
	p.Links = append(p.Links, impl.Link{A: 1, AInterface: 4, B: 7, BInterface: 4, Kind: 9})
	forward, deliver, transit := impl.FwForward, impl.FwDeliver, impl.FwTransit
	cases := []struct {
		what  string
		text  string
		codes []int
	}{
		{"up after down", "core 0:0>3 3:1>2 1:3>0", []int{forward, transit, deliver}},
		{"to a peer", "down 0:0>3 3:1>6 5:6>0", []int{forward, transit, deliver}},
		{"from itself to a peer, and from a peer", "down 4:0>3 6:3>1 5:2>0", []int{transit, transit, deliver}},
		{"over a link without a kind", "core 2:0>1 1:2>4 7:4>0", []int{forward, transit, deliver}},
	}
	for _, c := range cases {
		path := pathAlong(p, c.text)
		for i, code := range c.codes {
			s := impl.PathSteps(path)[i]
			pk := at(impl.NewPacket(impl.PkData, path, 0, 0, nil), 0, i, impl.BetaAfter(path.Parts[0], i))
			moved := at(pk, 0, min(i+1, 2), impl.BetaAfter(path.Parts[0], i+1))
			want := map[int]impl.Verdict{forward: {Egress: s.Egress, Packet: moved}, deliver: {Code: deliver, Packet: moved}, transit: rejected(transit, pk)}[code]
			// Whoever a packet is for receives it, wherever it comes from.
			expectVerdict(t, c.what, p, s.AS, 50, 0, s.Ingress, pk, want)
			if code == transit {
				expectVerdict(t, c.what, p, s.AS, 50, fullSet, s.Ingress, pk, want)
			}
		}
	}
}

// An AS forwards exactly what it has authenticated, in time, through the authenticated interfaces.
func TestForwardOfManyPackets(t *testing.T) {
	codes := map[int]int{}
	manyPaths(t, 40, func(r *rand.Rand, p impl.Topology, path impl.Path) {
		pk := impl.NewPacket(1+r.Intn(3), path, r.Intn(9), r.Intn(9), []byte{1})
		for _, s := range impl.PathSteps(path) {
			for range 4 {
				other, as, now, failed, in := copyOf(pk), s.AS, 10+r.Intn(101), 0, s.Ingress
				switch r.Intn(9) {
				case 0:
					changes := packetChanges(other)
					changes[r.Intn(len(changes))](&other)
				case 1:
					as = r.Intn(8)
				case 2:
					now = r.Intn(130)
				case 3:
					failed = r.Intn(256)
				case 4:
					in = r.Intn(8) - 1
				case 5:
					other.Dst = r.Intn(8)
				case 6:
					other.PartIndex, other.HopIndex = r.Intn(3), r.Intn(4)
				case 7:
					part := &other.Path.Parts[r.Intn(len(path.Parts))]
					part.Hops[r.Intn(len(part.Hops))].Expiry--
				}
				want := modelForward(p, as, now, failed, in, other)
				if got := impl.Forward(p, as, now, failed, in, other); !same(got, want) {
					t.Fatalf("Forward(%+v, %d, %d, %d, %d, %+v) = %+v; want %+v", p, as, now, failed, in, other, got, want)
				}
				codes[want.Code]++
			}
			v := impl.Forward(p, s.AS, 50, 0, s.Ingress, pk)
			if v.Code > impl.FwDeliver {
				break
			}
			pk = v.Packet
		}
	})
	for code := impl.FwForward; code <= impl.FwLinkDown; code++ {
		if codes[code] < 50 && code != impl.FwTransit {
			t.Errorf("too few verdicts with the code %d: %v", code, codes)
		}
	}
}

func TestVerdictName(t *testing.T) {
	names := []string{"forward", "deliver", "malformed", "ingress", "mac", "expired", "transit", "linkdown"}
	for n := -1; n <= 8; n++ {
		want := ""
		if n >= 0 && n < 8 {
			want = names[n]
		}
		expectText(t, "VerdictName of "+impl.FormatInt(n), impl.VerdictName(n), want)
	}
	for _, n := range strange() {
		expectText(t, "VerdictName", impl.VerdictName(n), "")
	}
	expectInts(t, "codes", []int{impl.FwForward, impl.FwDeliver, impl.FwMalformed, impl.FwIngress, impl.FwMAC, impl.FwExpired, impl.FwTransit, impl.FwLinkDown}, 0, 1, 2, 3, 4, 5, 6, 7)
}

func TestEqualVerdicts(t *testing.T) {
	v := impl.Verdict{Code: 1, Egress: 2, Packet: longPacket()}
	expectBool(t, "EqualVerdicts", impl.EqualVerdicts(v, copyOf(v)), true)
	changes := []func(x *impl.Verdict){func(x *impl.Verdict) { x.Code++ }, func(x *impl.Verdict) { x.Egress++ }}
	for _, change := range packetChanges(v.Packet) {
		changes = append(changes, func(x *impl.Verdict) { change(&x.Packet) })
	}
	for i, change := range changes {
		other := copyOf(v)
		change(&other)
		if impl.EqualVerdicts(v, other) || impl.EqualVerdicts(other, v) {
			t.Errorf("change %d is not seen", i)
		}
	}
	empty := impl.Verdict{Packet: impl.Packet{Payload: []byte{}, Path: impl.Path{Parts: []impl.PathPart{}}}}
	expectBool(t, "EqualVerdicts of nil and empty", impl.EqualVerdicts(empty, impl.Verdict{}), true)
}

func TestForwardingSharesNoMemory(t *testing.T) {
	p := world()
	large, _ := invalidPackets()
	packets := append(large, longPacket(), impl.Packet{}, impl.NewPacket(1, valley(), 0, 0, nil))
	for _, path := range worldPaths() {
		packets = append(packets, impl.NewPacket(1, path, 1, 2, []byte{3}))
	}
	for _, pk := range packets {
		expectPure(t, "AdvanceHop", impl.AdvanceHop, pk)
		expectPure(t, "VerifyCurrentHop", impl.VerifyCurrentHop, p, pk)
		expectPure(t, "CurrentHopValid", impl.CurrentHopValid, pk, 50)
		expectPure(t, "EqualVerdicts", impl.EqualVerdicts, rejected(2, pk), rejected(2, longPacket()))
		for r := range 8 {
			for _, failed := range []int{0, fullSet} {
				for in := range 3 {
					expectPure(t, "Forward", impl.Forward, p, r, 50, failed, in, pk)
				}
			}
		}
	}
}
