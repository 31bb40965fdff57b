package tests

import (
	"math"
	"math/rand"
	"slices"
	"testing"

	"loop.example/g00505/impl"
)

func TestFlowConstants(t *testing.T) {
	expectInts(t, "limits", []int{impl.MaxMessages, impl.Timeout}, 20, 4)
}

// mail returns a message for each text.
func mail(texts ...string) []impl.Message {
	l := []impl.Message{}
	for _, text := range texts {
		l = append(l, impl.Message{Data: []byte(text)})
	}
	return l
}

// pathsFrom4To6 returns n paths of the world from AS 4 to AS 6 that differ in their Beta only; the first one is the long path.
func pathsFrom4To6(n int) []impl.Path {
	l := []impl.Path{}
	for i := range n {
		p := longPath()
		p.Parts[0].Beta += i
		l = append(l, p)
	}
	return l
}

// flow returns a flow from AS 4 to AS 6 with three messages, one of which is acknowledged, and three paths, the second of which is in use.
func flow() impl.Flow {
	return impl.Flow{
		Src: 4, Dst: 6, ReservationID: 5, Acknowledged: 1, Messages: mail("one", "two", "three"), Paths: pathsFrom4To6(3), Current: 1, Wait: 2,
		Revocations: []impl.Revocation{{AS: 3, Interface: 1, Until: 60}, {AS: 7, Interface: 6, Until: 70}},
	}
}

// flowWith returns this flow with a change.
func flowWith(change func(f *impl.Flow)) impl.Flow {
	f := flow()
	change(&f)
	return f
}

// sent returns the packet of this flow with message i over path n.
func sentBy(f impl.Flow, i int, n int) impl.Packet {
	return impl.NewPacket(impl.PkData, f.Paths[n], f.ReservationID, i, f.Messages[i].Data)
}

// invalidFlows have one condition broken each.
func invalidFlows() []impl.Flow {
	l := []impl.Flow{{}}
	for _, change := range []func(f *impl.Flow){
		func(f *impl.Flow) { f.Src = -1 }, func(f *impl.Flow) { f.Src = 8 }, func(f *impl.Flow) { f.Dst = -1 }, func(f *impl.Flow) { f.Dst = 8 }, func(f *impl.Flow) { f.Dst = f.Src }, func(f *impl.Flow) { f.Src, f.Dst = 0, 0 },
		func(f *impl.Flow) { f.ReservationID = -1 }, func(f *impl.Flow) { f.ReservationID = impl.MaxSeq + 1 }, func(f *impl.Flow) { f.Acknowledged = -1 }, func(f *impl.Flow) { f.Acknowledged = 4 },
		func(f *impl.Flow) { f.Messages = make([]impl.Message, 21) }, func(f *impl.Flow) { f.Messages[0].Data = make([]byte, 41) }, func(f *impl.Flow) { f.Messages[2].Data = make([]byte, 41) },
		func(f *impl.Flow) { f.Paths = make([]impl.Path, 25) }, func(f *impl.Flow) { f.Current = -1 }, func(f *impl.Flow) { f.Current = 3 }, func(f *impl.Flow) { f.Paths, f.Current = nil, 1 }, func(f *impl.Flow) { f.Paths, f.Current = nil, -1 },
		func(f *impl.Flow) { f.Wait = -1 }, func(f *impl.Flow) { f.Wait = 5 }, func(f *impl.Flow) { f.Revocations = revocations(17) },
	} {
		l = append(l, flowWith(change))
	}
	large, negative := invalidRevocations()
	for _, x := range append(large, negative...) {
		l = append(l, flowWith(func(f *impl.Flow) { f.Revocations[1] = x }), flowWith(func(f *impl.Flow) { f.Revocations = []impl.Revocation{x, f.Revocations[0]} }))
	}
	return l
}

func TestNewFlow(t *testing.T) {
	expectSame(t, "NewFlow", impl.NewFlow(4, 3, 7), impl.Flow{Src: 4, Dst: 3, ReservationID: 7})
	expectSame(t, "NewFlow of anything", impl.NewFlow(-4, math.MaxInt, -1), impl.Flow{Src: -4, Dst: math.MaxInt, ReservationID: -1})
}

func TestValidFlow(t *testing.T) {
	expectBool(t, "ValidFlow", impl.ValidFlow(flow()), true)
	for i, f := range invalidFlows() {
		if impl.ValidFlow(f) {
			t.Errorf("flow %d is valid", i)
		}
	}
	for a := -1; a <= 8; a++ {
		for b := -1; b <= 8; b++ {
			expectBool(t, "ValidFlow of a new flow", impl.ValidFlow(impl.NewFlow(a, b, 0)), a >= 0 && a < 8 && b >= 0 && b < 8 && a != b)
		}
	}
	for i, change := range []func(f *impl.Flow){
		func(f *impl.Flow) { f.ReservationID = 0 }, func(f *impl.Flow) { f.ReservationID = impl.MaxSeq }, func(f *impl.Flow) { f.Acknowledged = 0 }, func(f *impl.Flow) { f.Acknowledged = 3 },
		func(f *impl.Flow) { f.Messages = make([]impl.Message, 20) }, func(f *impl.Flow) { f.Messages[1].Data = make([]byte, 40) }, func(f *impl.Flow) { f.Messages[1].Data = nil }, func(f *impl.Flow) { f.Messages, f.Acknowledged = nil, 0 },
		func(f *impl.Flow) { f.Paths = make([]impl.Path, 24) }, func(f *impl.Flow) { f.Current = 0 }, func(f *impl.Flow) { f.Current = 2 }, func(f *impl.Flow) { f.Paths, f.Current = nil, 0 }, func(f *impl.Flow) { f.Paths, f.Current = pathsFrom4To6(1), 0 },
		func(f *impl.Flow) { f.Wait = 0 }, func(f *impl.Flow) { f.Wait = 4 }, func(f *impl.Flow) { f.Revocations = revocations(16) }, func(f *impl.Flow) { f.Revocations = nil }, func(f *impl.Flow) { f.Revocations = append(f.Revocations, f.Revocations[0]) },
		// Neither the paths nor their ends are asked for.
		func(f *impl.Flow) { f.Paths = []impl.Path{{}, pathOfParts(onePart(-7, -3, 99))} },
	} {
		if !impl.ValidFlow(flowWith(change)) {
			t.Errorf("flow %d is not valid", i)
		}
	}
}

func TestEnqueue(t *testing.T) {
	expect := func(what string, f impl.Flow, b []byte, want bool) {
		t.Helper()
		after := copyOf(f)
		if want {
			after.Messages = append(after.Messages, impl.Message{Data: b})
		}
		if got, ok := impl.Enqueue(f, b); ok != want || !same(got, after) {
			t.Errorf("Enqueue %s = %+v, %v; want %+v, %v", what, got, ok, after, want)
		}
	}
	for n, want := range map[int]bool{0: true, 1: true, 39: true, 40: true, 41: false, 1000: false} {
		expect("of "+impl.FormatInt(n)+" bytes", flow(), make([]byte, n), want)
		expect("of "+impl.FormatInt(n)+" bytes", impl.NewFlow(1, 2, 0), make([]byte, n), want)
	}
	for n := range 23 {
		expect("behind "+impl.FormatInt(n)+" messages", impl.Flow{Src: 1, Dst: 2, Messages: make([]impl.Message, n)}, []byte("x"), n < 20)
	}
	for i, f := range invalidFlows() {
		// One more message to acknowledge makes this flow valid.
		expect("into the invalid flow "+impl.FormatInt(i), f, []byte("x"), f.Acknowledged == 4)
	}
	// Messages may be equal.
	expect("of the same message", flow(), []byte("two"), true)
}

func TestSetPaths(t *testing.T) {
	l := worldPaths()
	now := 60
	expect := func(what string, f impl.Flow, p []impl.Path, want []impl.Path) {
		t.Helper()
		after := copyOf(f)
		after.Paths, after.Current, after.Wait = want, 0, 0
		expectSame(t, "SetPaths "+what, impl.SetPaths(f, p, now), after)
	}
	expect("of none", flow(), nil, nil)
	clean := flowWith(func(f *impl.Flow) { f.Revocations = nil })
	expect("without revocations", clean, l, impl.SortPaths(l))
	first, last := []impl.Path{}, []impl.Path{}
	for _, p := range impl.SortPaths(l) {
		if slices.Contains(impl.InterfacesUsed(p), 25) {
			last = append(last, p)
		} else {
			first = append(first, p)
		}
	}
	if len(first) < 3 || len(last) < 3 {
		t.Fatal("too few paths")
	}
	expect("with revoked ones", flow(), l, slices.Concat(first, last))
	now = 61
	expect("with ones that were revoked", flow(), l, impl.SortPaths(l))
	expect("into an invalid flow", impl.Flow{Src: -1, Current: -3, Wait: 77, Acknowledged: 5}, l, impl.SortPaths(l))
	// What is cut off are the last ones, of all that are sorted and not revoked.
	many := slices.Concat(l, l, l)
	for n := 22; n <= 30; n++ {
		now = 61
		expect("of many", clean, many[:n], impl.SortPaths(many[:n])[:min(n, 24)])
		now = 60
		expect("of many with revoked ones", flow(), many[:n], impl.PreferUnrevoked(flow().Revocations, impl.SortPaths(many[:n]), 60)[:min(n, 24)])
	}
}

func TestNextTransmission(t *testing.T) {
	for i := range 3 {
		for n := range 3 {
			f := flowWith(func(f *impl.Flow) { f.Acknowledged, f.Current = i, n })
			pk, ok := impl.NextTransmission(f)
			expectBool(t, "NextTransmission", ok, true)
			want := impl.Packet{Kind: impl.PkData, Src: 4, Dst: 6, Path: f.Paths[n], Beta: f.Paths[n].Parts[0].Beta, ReservationID: 5, Seq: i, Payload: f.Messages[i].Data}
			expectSame(t, "NextTransmission", pk, want)
		}
	}
	for i, f := range idleFlows() {
		if pk, ok := impl.NextTransmission(f); ok || !same(pk, impl.Packet{}) {
			t.Errorf("NextTransmission of the flow %d = %+v, %v", i, pk, ok)
		}
	}
	// The packet follows the path, whatever the ends of the flow are.
	f := flowWith(func(f *impl.Flow) { f.Src, f.Dst, f.Paths[1] = 1, -9, impl.Path{} })
	pk, ok := impl.NextTransmission(f)
	expectBool(t, "NextTransmission over an empty path", ok, true)
	expectSame(t, "NextTransmission over an empty path", pk, impl.Packet{Kind: impl.PkData, Src: -1, Dst: -1, ReservationID: 5, Seq: 1, Payload: []byte("two")})
}

// idleFlows have no next transmission.
func idleFlows() []impl.Flow {
	l := []impl.Flow{{}, impl.NewFlow(4, 6, 0)}
	for _, change := range []func(f *impl.Flow){
		func(f *impl.Flow) { f.Messages = nil }, func(f *impl.Flow) { f.Messages, f.Acknowledged = nil, 0 }, func(f *impl.Flow) { f.Acknowledged = 3 }, func(f *impl.Flow) { f.Acknowledged = 4 }, func(f *impl.Flow) { f.Acknowledged = -1 },
		func(f *impl.Flow) { f.Acknowledged = math.MaxInt }, func(f *impl.Flow) { f.Acknowledged = math.MinInt },
		func(f *impl.Flow) { f.Paths = nil }, func(f *impl.Flow) { f.Paths, f.Current = nil, 0 }, func(f *impl.Flow) { f.Current = 3 }, func(f *impl.Flow) { f.Current = -1 }, func(f *impl.Flow) { f.Current = math.MaxInt }, func(f *impl.Flow) { f.Current = math.MinInt },
	} {
		l = append(l, flowWith(change))
	}
	return l
}

func expectTicked(t *testing.T, what string, f impl.Flow, want impl.Flow, wantPacket impl.Packet, wantSent bool) {
	t.Helper()
	if got, pk, ok := impl.TickFlow(f); ok != wantSent || !same(pk, wantPacket) || !same(got, want) {
		t.Errorf("TickFlow %s = %+v, %+v, %v; want %+v, %+v, %v", what, got, pk, ok, want, wantPacket, wantSent)
	}
}

func TestTickFlow(t *testing.T) {
	for wait := -1; wait <= 5; wait++ {
		for n := range 3 {
			f := flowWith(func(f *impl.Flow) { f.Wait, f.Current = wait, n })
			want := copyOf(f)
			switch wait {
			case 0:
				want.Wait = 1
				expectTicked(t, "that begins", f, want, sentBy(f, 1, n), true)
			case 4:
				// Behind the last path, the first one follows.
				want.Wait, want.Current = 1, (n+1)%3
				expectTicked(t, "at the timeout", f, want, sentBy(f, 1, want.Current), true)
			default:
				want.Wait = wait + 1
				expectTicked(t, "that waits", f, want, impl.Packet{}, false)
			}
		}
		single := flowWith(func(f *impl.Flow) { f.Wait, f.Current, f.Paths = wait, 0, f.Paths[:1] })
		if wait == 0 || wait == 4 {
			want := copyOf(single)
			want.Wait = 1
			expectTicked(t, "of a single path", single, want, sentBy(single, 1, 0), true)
		}
		for _, f := range idleFlows() {
			f.Wait = wait
			want := copyOf(f)
			want.Wait = 0
			expectTicked(t, "that has nothing to send", f, want, impl.Packet{}, false)
		}
	}
	for _, wait := range []int{math.MinInt, -5, 6, 100, math.MaxInt - 1} {
		f := flowWith(func(f *impl.Flow) { f.Wait = wait })
		want := copyOf(f)
		want.Wait = wait + 1
		expectTicked(t, "that waits", f, want, impl.Packet{}, false)
	}
}

// Messages are sent one after the other, over each path in turn.
func TestFlowsTryEachPathInTurn(t *testing.T) {
	f := flowWith(func(f *impl.Flow) { f.Acknowledged, f.Current, f.Wait = 0, 0, 0 })
	paths, seqs := []int{}, []int{}
	// Each message is sent five times, and acknowledged as soon as it was sent for the last time.
	for tick := range 3 * 17 {
		g, pk, ok := impl.TickFlow(f)
		f = g
		expectBool(t, "TickFlow at "+impl.FormatInt(tick), ok, tick%17%4 == 0)
		expectBool(t, "ValidFlow", impl.ValidFlow(f), true)
		if !ok {
			continue
		}
		expectSame(t, "the packet", pk, sentBy(f, f.Acknowledged, f.Current))
		paths, seqs = append(paths, f.Current), append(seqs, pk.Seq)
		if tick%17 == 16 {
			f = impl.HandleAck(f, impl.Packet{Kind: impl.PkAck, Src: 6, Dst: 4, Seq: pk.Seq})
		}
	}
	expectInts(t, "the paths", paths, 0, 1, 2, 0, 1, 1, 2, 0, 1, 2, 2, 0, 1, 2, 0)
	expectInts(t, "the messages", seqs, 0, 0, 0, 0, 0, 1, 1, 1, 1, 1, 2, 2, 2, 2, 2)
	_, _, ok := impl.TickFlow(f)
	expectBool(t, "TickFlow of what is acknowledged", ok, false)
}

func TestHandleAck(t *testing.T) {
	for acknowledged := range 3 {
		for wait := range 5 {
			f := flowWith(func(f *impl.Flow) { f.Acknowledged, f.Wait = acknowledged, wait })
			want := copyOf(f)
			want.Acknowledged, want.Wait = acknowledged+1, 0
			// Neither the path nor the payload of an acknowledgement counts.
			for _, ack := range []impl.Packet{{Kind: impl.PkAck, Src: 6, Dst: 4, Seq: acknowledged}, {Kind: impl.PkAck, Src: 6, Dst: 4, Seq: acknowledged, Path: longPath(), PartIndex: 7, ReservationID: -1, Payload: []byte("x")}} {
				expectSame(t, "HandleAck", impl.HandleAck(f, ack), want)
			}
			for _, other := range []impl.Packet{
				{Kind: impl.PkData, Src: 6, Dst: 4, Seq: acknowledged}, {Kind: impl.PkRevocation, Src: 6, Dst: 4, Seq: acknowledged}, {Src: 6, Dst: 4, Seq: acknowledged}, {Kind: impl.PkAck, Src: 5, Dst: 4, Seq: acknowledged}, {Kind: impl.PkAck, Src: 6, Dst: 5, Seq: acknowledged},
				{Kind: impl.PkAck, Src: 4, Dst: 6, Seq: acknowledged}, {Kind: impl.PkAck, Src: 6, Dst: 4, Seq: acknowledged - 1}, {Kind: impl.PkAck, Src: 6, Dst: 4, Seq: acknowledged + 1}, {Kind: impl.PkAck, Src: 6, Dst: 4, Seq: -1}, {},
			} {
				expectSame(t, "HandleAck of another packet", impl.HandleAck(f, other), f)
			}
		}
	}
	for _, n := range []int{3, 4, -1, math.MaxInt, math.MinInt} {
		f := flowWith(func(f *impl.Flow) { f.Acknowledged = n })
		expectSame(t, "HandleAck without such a message", impl.HandleAck(f, impl.Packet{Kind: impl.PkAck, Src: 6, Dst: 4, Seq: n}), f)
	}
	expectSame(t, "HandleAck without messages", impl.HandleAck(impl.NewFlow(4, 6, 0), impl.Packet{Kind: impl.PkAck, Src: 6, Dst: 4}), impl.NewFlow(4, 6, 0))
	// Without paths, too, and in a flow that is not valid.
	odd := impl.Flow{Src: -3, Dst: -3, Messages: mail("a"), Wait: 99, Current: -1}
	expectSame(t, "HandleAck of an invalid flow", impl.HandleAck(odd, impl.Packet{Kind: impl.PkAck, Src: -3, Dst: -3}), impl.Flow{Src: -3, Dst: -3, Messages: odd.Messages, Acknowledged: 1, Current: -1})
}

// report returns a packet with this revocation.
func report(x impl.Revocation) impl.Packet {
	return impl.Packet{Kind: impl.PkRevocation, Src: 99, Dst: -7, Payload: encodeAll(x.AS, x.Interface, x.Until)}
}

func TestHandleRevocation(t *testing.T) {
	on, off := impl.Revocation{AS: 0, Interface: 2, Until: 60}, impl.Revocation{AS: 0, Interface: 1, Until: 60}
	for n := range 3 {
		for wait := range 5 {
			f := flowWith(func(f *impl.Flow) { f.Current, f.Wait = n, wait })
			want := copyOf(f)
			want.Revocations = append(want.Revocations, off)
			expectSame(t, "HandleRevocation that does not affect the path", impl.HandleRevocation(f, report(off), 50), want)
			want.Revocations[2] = on
			want.Current, want.Wait = (n+1)%3, 0
			// The time plays no part, nor where the packet comes from.
			for _, now := range []int{50, 60, 61, impl.MaxTime, math.MinInt, math.MaxInt} {
				expectSame(t, "HandleRevocation", impl.HandleRevocation(f, report(on), now), want)
			}
			for _, kind := range []int{-1, 0, impl.PkData, impl.PkAck, 4} {
				other := report(on)
				other.Kind = kind
				expectSame(t, "HandleRevocation of another kind", impl.HandleRevocation(f, other, 50), f)
			}
			large, _ := invalidRevocations()
			for _, payload := range [][]byte{nil, {0, 2}, encodeAll(0, 2, 60, 0), []byte("hello"), encodeAll(large[0].AS, large[0].Interface, large[0].Until), encodeAll(0, 2, impl.MaxTime+1)} {
				other := report(on)
				other.Payload = payload
				expectSame(t, "HandleRevocation of no revocation", impl.HandleRevocation(f, other, 50), f)
			}
		}
	}
}

func TestHandleRevocationOfOtherFlows(t *testing.T) {
	on := impl.Revocation{AS: 0, Interface: 2, Until: 65}
	single := flowWith(func(f *impl.Flow) { f.Paths, f.Current = f.Paths[:1], 0 })
	want := copyOf(single)
	want.Wait, want.Revocations = 0, append(want.Revocations, on)
	expectSame(t, "HandleRevocation with a single path", impl.HandleRevocation(single, report(on), 50), want)
	for _, current := range []int{0, -1, 3, math.MaxInt, math.MinInt} {
		f := flowWith(func(f *impl.Flow) { f.Current = current })
		if current == 0 {
			f.Paths = nil
		}
		want := copyOf(f)
		want.Revocations = append(want.Revocations, on)
		expectSame(t, "HandleRevocation without a path", impl.HandleRevocation(f, report(on), 50), want)
	}
	// Only the path in use counts.
	mixed := flowWith(func(f *impl.Flow) { f.Paths[1] = worldPaths()[4] })
	want = copyOf(mixed)
	want.Revocations = append(want.Revocations, on)
	expectSame(t, "HandleRevocation that affects other paths", impl.HandleRevocation(mixed, report(on), 50), want)
	known := impl.Revocation{AS: 3, Interface: 1, Until: 99}
	want = flowWith(func(f *impl.Flow) { f.Current, f.Wait, f.Revocations[0].Until = 2, 0, 99 })
	expectSame(t, "HandleRevocation of one that is known", impl.HandleRevocation(flow(), report(known), 50), want)
	known.Until = 5
	want.Revocations[0].Until = 60
	expectSame(t, "HandleRevocation of one that is known for longer", impl.HandleRevocation(flow(), report(known), 50), want)
	full := flowWith(func(f *impl.Flow) { f.Revocations = revocations(16) })
	x := impl.Revocation{AS: 7, Interface: 6, Until: 1}
	want = copyOf(full)
	want.Revocations = append(want.Revocations[1:], x)
	expectSame(t, "HandleRevocation with MaxRevocations", impl.HandleRevocation(full, report(x), 50), want)
}

// A flow remains valid, whatever happens to it.
func TestFlowsRemainValid(t *testing.T) {
	r := rand.New(rand.NewSource(58))
	for range 200 {
		f := impl.NewFlow(4, 6, r.Intn(3))
		next := 0
		for range 60 {
			switch r.Intn(7) {
			case 0:
				f, _ = impl.Enqueue(f, make([]byte, r.Intn(43)))
			case 1:
				f = impl.SetPaths(f, pathsFrom4To6(r.Intn(30)), r.Intn(100))
			case 2:
				f = impl.HandleAck(f, impl.Packet{Kind: impl.PkAck, Src: 6, Dst: 4, Seq: r.Intn(20)})
			case 3:
				f = impl.HandleAck(f, impl.Packet{Kind: impl.PkAck, Src: 6, Dst: 4, Seq: f.Acknowledged})
			case 4:
				f = impl.HandleRevocation(f, report(impl.Revocation{AS: r.Intn(9), Interface: r.Intn(8), Until: r.Intn(100)}), 50)
			default:
				g, pk, ok := impl.TickFlow(f)
				if ok {
					expectInt(t, "the message", pk.Seq, f.Acknowledged)
				}
				f = g
			}
			expectBool(t, "ValidFlow", impl.ValidFlow(f), true)
			expectBool(t, "a message that is acknowledged no more", f.Acknowledged < next, false)
			next = f.Acknowledged
		}
	}
}

func TestFlowsShareNoMemory(t *testing.T) {
	for _, f := range append(invalidFlows(), flow(), impl.NewFlow(1, 2, 3), flowWith(func(f *impl.Flow) { f.Wait = 0 }), flowWith(func(f *impl.Flow) { f.Wait = 4 })) {
		expectPure(t, "ValidFlow", impl.ValidFlow, f)
		expectPure(t, "Enqueue", impl.Enqueue, f, []byte("more"))
		expectPure(t, "SetPaths", impl.SetPaths, f, worldPaths(), 50)
		expectPure(t, "NextTransmission", impl.NextTransmission, f)
		expectPure(t, "TickFlow", impl.TickFlow, f)
		expectPure(t, "HandleAck", impl.HandleAck, f, impl.Packet{Kind: impl.PkAck, Src: 6, Dst: 4, Seq: 1})
		expectPure(t, "HandleRevocation", impl.HandleRevocation, f, report(impl.Revocation{AS: 0, Interface: 2, Until: 60}), 50)
		expectPure(t, "HandleRevocation", impl.HandleRevocation, f, impl.Packet{}, 50)
	}
}
