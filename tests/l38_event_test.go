package tests

import (
	"math"
	"math/rand"
	"slices"
	"testing"

	"loop.example/g00505/impl"
)

func TestEventConstants(t *testing.T) {
	expectInts(t, "kinds", []int{impl.EvTick, impl.EvDeliver, impl.EvDrop, impl.EvDuplicate, impl.EvFail, impl.EvRepair, impl.EvInject, impl.EvEnqueue, impl.EvRefresh}, 1, 2, 3, 4, 5, 6, 7, 8, 9)
	expectInt(t, "MaxRun", impl.MaxRun, 400)
}

func event(kind int, n int) impl.Event {
	return impl.Event{Kind: kind, N: n}
}

func submitting(n int, data []byte) impl.Event {
	return impl.Event{Kind: impl.EvEnqueue, N: n, Data: data}
}

func injecting(to int, in int, pk impl.Packet) impl.Event {
	return impl.Event{Kind: impl.EvInject, Forged: impl.PacketInFlight{To: to, Ingress: in, Packet: pk}}
}

// modelTick lets a tick pass by the words of the document.
func modelTick(w impl.Network) impl.Network {
	w = branch(w)
	w.Now++
	w.Scheduler = impl.BeginTick(w.Scheduler, w.Now)
	for i := range w.Flows {
		f, pk, ok := impl.TickFlow(w.Flows[i])
		w.Flows[i] = f
		if ok {
			w = modelProcess(w, f.Src, 0, pk)
		}
	}
	return w
}

// modelApply applies an event by the words of the document, whether or not the network is valid.
func modelApply(w impl.Network, e impl.Event) (impl.Network, bool) {
	before := w
	w = branch(w)
	exists := func(n int) bool { return e.N >= 0 && e.N < n }
	failed := slices.Index(w.FailedLinks, e.N)
	full := len(w.InFlight) == 150
	ok := false
	switch e.Kind {
	case impl.EvTick:
		if ok = w.Now < impl.MaxTime; ok {
			w = modelTick(w)
		}
	case impl.EvDeliver:
		if ok = exists(len(w.InFlight)); ok {
			x := w.InFlight[e.N]
			w.InFlight = append(w.InFlight[:e.N], w.InFlight[e.N+1:]...)
			w = modelProcess(w, x.To, x.Ingress, x.Packet)
		}
	case impl.EvDrop:
		if ok = exists(len(w.InFlight)); ok {
			w.InFlight = append(w.InFlight[:e.N], w.InFlight[e.N+1:]...)
			w.Dropped++
		}
	case impl.EvDuplicate:
		if ok = exists(len(w.InFlight)) && !full; ok {
			w.InFlight = append(w.InFlight, w.InFlight[e.N])
		}
	case impl.EvFail:
		if ok = exists(len(w.Topology.Links)) && failed < 0; ok {
			w.FailedLinks = append(w.FailedLinks, e.N)
			slices.Sort(w.FailedLinks)
		}
	case impl.EvRepair:
		if ok = failed >= 0; ok {
			w.FailedLinks = append(w.FailedLinks[:failed], w.FailedLinks[failed+1:]...)
		}
	case impl.EvInject:
		if ok = e.Forged.To >= 0 && e.Forged.To < len(w.Topology.ASes) && !full; ok {
			w.InFlight = append(w.InFlight, e.Forged)
		}
	case impl.EvEnqueue:
		if ok = exists(len(w.Flows)); ok {
			w.Flows[e.N], ok = impl.Enqueue(w.Flows[e.N], e.Data)
		}
	case impl.EvRefresh:
		if ok = exists(len(w.Flows)); ok {
			f := w.Flows[e.N]
			w.Flows[e.N] = impl.SetPaths(f, modelFind(w.Topology, w.Database, f.Src, f.Dst, w.Now), w.Now)
		}
	}
	if !ok {
		return before, false
	}
	return w, true
}

func expectApplied(t *testing.T, what string, w impl.Network, e impl.Event, want impl.Network) {
	t.Helper()
	if got, ok := impl.ApplyEvent(w, e); !ok || !same(got, want) {
		t.Errorf("ApplyEvent %s = %+v, %v; want %+v, true", what, got, ok, want)
	}
	if model, ok := modelApply(w, e); !ok || !same(model, want) {
		t.Errorf("the model of ApplyEvent %s = %+v, %v; want %+v, true", what, model, ok, want)
	}
}

func expectNotApplied(t *testing.T, what string, w impl.Network, e impl.Event) {
	t.Helper()
	if got, ok := impl.ApplyEvent(w, e); ok || !same(got, w) {
		t.Errorf("ApplyEvent %s = %+v, %v; want %+v, false", what, got, ok, w)
	}
}

// anyEvents are events of all kinds that can be applied to the busy network.
func anyEvents() []impl.Event {
	return []impl.Event{event(impl.EvTick, 0), event(impl.EvDeliver, 1), event(impl.EvDrop, 0), event(impl.EvDuplicate, 1), event(impl.EvFail, 5), event(impl.EvRepair, 1), injecting(3, 9, longPacket()), submitting(0, []byte("x")), event(impl.EvRefresh, 0)}
}

func TestApplyEventToInvalidNetworks(t *testing.T) {
	for _, e := range anyEvents() {
		if _, ok := impl.ApplyEvent(busy(), e); !ok {
			t.Errorf("the event %d is not applied", e.Kind)
		}
		for _, w := range invalidNetworks() {
			expectNotApplied(t, "to an invalid network", w, e)
		}
	}
}

func TestApplyEventOfInvalidKinds(t *testing.T) {
	for _, kind := range append(strange(), 0, 10) {
		for _, n := range []int{0, 1} {
			e := injecting(3, 9, longPacket())
			e.Kind, e.N, e.Data = kind, n, []byte("x")
			expectNotApplied(t, "of no kind", busy(), e)
		}
	}
}

func TestTicks(t *testing.T) {
	w := quiet()
	first, _ := impl.NextTransmission(w.Flows[0])
	second, _ := impl.NextTransmission(w.Flows[1])
	third, _ := impl.NextTransmission(w.Flows[2])
	want := with(w, func(w *impl.Network) { w.Now = 51 })
	for i, pk := range []impl.Packet{first, second, third} {
		want.Flows[i].Wait = 1
		want = modelProcess(want, pk.Src, 0, pk)
	}
	expectInt(t, "the packets in flight", len(want.InFlight), 3)
	expectApplied(t, "of a tick", w, event(impl.EvTick, 0), want)
	// What the event has besides its kind plays no part.
	e := injecting(-1, -1, longPacket())
	e.Kind, e.N, e.Data = impl.EvTick, 99, make([]byte, 99)
	expectApplied(t, "of a tick", w, e, want)
	expectApplied(t, "of a tick in a busy network", busy(), event(impl.EvTick, 0), modelTick(busy()))
	for now := impl.MaxTime - 2; now <= impl.MaxTime; now++ {
		late := with(w, func(w *impl.Network) { w.Now = now })
		if now < impl.MaxTime {
			expectApplied(t, "of a late tick", late, event(impl.EvTick, 0), modelTick(late))
		} else {
			expectNotApplied(t, "of a tick at MaxTime", late, event(impl.EvTick, 0))
		}
	}
}

// A tick begins with new counts and without the reservations that have expired.
func TestTicksOfTheScheduler(t *testing.T) {
	w := with(busy(), func(w *impl.Network) { w.Now, w.Flows, w.Inboxes = 60, nil, nil })
	expectApplied(t, "of a tick", w, event(impl.EvTick, 0), with(w, func(w *impl.Network) {
		w.Now, w.Scheduler.Usages, w.Scheduler.Reservations = 61, nil, []impl.Reservation{leaseAt(2, 4, 1, 3, 70)}
	}))
	w.Now = 59
	expectApplied(t, "of a tick", w, event(impl.EvTick, 0), with(w, func(w *impl.Network) { w.Now, w.Scheduler.Usages = 60, nil }))
	narrow := with(quiet(), func(w *impl.Network) {
		w.Scheduler.Capacity = 1
		for i := range w.Flows {
			w.Flows[i].Paths = []impl.Path{longPath()}
		}
	})
	got, _ := impl.ApplyEvent(narrow, event(impl.EvTick, 0))
	// The second packet of AS 4 finds no room, and the one of AS 6 is at the wrong AS.
	expectInts(t, "Counters", impl.Counters(got)[:3], 51, 1, 2)
	got, _ = impl.ApplyEvent(got, event(impl.EvTick, 0))
	expectInts(t, "Counters", impl.Counters(got)[:3], 52, 1, 2)
}

// A flow learns of a failed link in the same tick, and a later one of it before its own turn.
func TestTicksWithAFailedLink(t *testing.T) {
	w := with(quiet(), func(w *impl.Network) {
		w.FailedLinks = []int{6}
		w.Flows[0].Paths = []impl.Path{longPath(), w.Flows[0].Paths[0]}
		w.Flows[1].Paths = []impl.Path{longPath(), w.Flows[1].Paths[0]}
	})
	got, ok := impl.ApplyEvent(w, event(impl.EvTick, 0))
	expectBool(t, "ApplyEvent", ok, true)
	expectSame(t, "ApplyEvent of a tick", got, modelTick(w))
	for i := range 2 {
		expectSame(t, "the revocations", got.Flows[i].Revocations, []impl.Revocation{{AS: 4, Interface: 1, Until: 61}})
	}
	expectInts(t, "the flows", []int{got.Flows[0].Current, got.Flows[0].Wait, got.Flows[1].Current, got.Flows[1].Wait}, 1, 0, 1, 1)
}

func TestEventsOfPacketsInFlight(t *testing.T) {
	w := busy()
	w.InFlight = append(w.InFlight, w.InFlight[0], impl.PacketInFlight{To: 7, Ingress: -3, Packet: impl.Packet{Kind: 9, Payload: []byte("odd")}})
	for n := range 4 {
		rest := with(w, func(w *impl.Network) { w.InFlight = slices.Delete(w.InFlight, n, n+1) })
		expectApplied(t, "of a loss", w, event(impl.EvDrop, n), dropped(rest, 1))
		x := w.InFlight[n]
		expectApplied(t, "of a delivery", w, event(impl.EvDeliver, n), modelProcess(rest, x.To, x.Ingress, x.Packet))
		expectApplied(t, "of a duplicate", w, event(impl.EvDuplicate, n), with(w, func(w *impl.Network) { w.InFlight = append(w.InFlight, x) }))
	}
	for _, kind := range []int{impl.EvDeliver, impl.EvDrop, impl.EvDuplicate} {
		for _, n := range append(strange(), 4, 5) {
			expectNotApplied(t, "of no packet", w, event(kind, n))
		}
		expectNotApplied(t, "of no packet", quiet(), event(kind, 0))
	}
	for n := 148; n <= 150; n++ {
		many := crowded(w, n)
		many.InFlight[n-1].Packet.Seq = 5
		for _, i := range []int{0, n - 1} {
			if n < 150 {
				expectApplied(t, "of a duplicate", many, event(impl.EvDuplicate, i), with(many, func(w *impl.Network) { w.InFlight = append(w.InFlight, w.InFlight[i]) }))
			} else {
				expectNotApplied(t, "of a duplicate of many", many, event(impl.EvDuplicate, i))
			}
		}
	}
	// The packet that is delivered makes room for the one that is forwarded.
	many := crowded(w, 150)
	many.InFlight[3] = w.InFlight[0]
	got, ok := impl.ApplyEvent(many, event(impl.EvDeliver, 3))
	expectBool(t, "ApplyEvent", ok, true)
	expectInts(t, "the counters", impl.Counters(got)[:3], 50, 150, 3)
}

func TestEventsOfLinks(t *testing.T) {
	w := quiet()
	links := []int{5, 12, 0, 7, 1, 6}
	for i, n := range links {
		want := slices.Clone(links[:i+1])
		slices.Sort(want)
		after := with(w, func(w *impl.Network) { w.FailedLinks = want })
		expectNotApplied(t, "of a repair of a link that works", w, event(impl.EvRepair, n))
		expectApplied(t, "of a failure", w, event(impl.EvFail, n), after)
		expectNotApplied(t, "of a second failure", after, event(impl.EvFail, n))
		w = after
	}
	for _, n := range append(strange(), 13, 14) {
		expectNotApplied(t, "of a failure of no link", w, event(impl.EvFail, n))
		expectNotApplied(t, "of a repair of no link", w, event(impl.EvRepair, n))
	}
	for i, n := range []int{6, 12, 0, 5, 1, 7} {
		rest := slices.Clone([]int{6, 12, 0, 5, 1, 7}[i+1:])
		slices.Sort(rest)
		after := with(w, func(w *impl.Network) { w.FailedLinks = rest })
		expectApplied(t, "of a repair", w, event(impl.EvRepair, n), after)
		expectNotApplied(t, "of a second repair", after, event(impl.EvRepair, n))
		w = after
	}
	expectSame(t, "the network in the end", w, quiet())
}

func TestInjections(t *testing.T) {
	w := busy()
	large, negative := invalidPackets()
	hostile := slices.Concat(large, negative, []impl.Packet{{}, longPacket(), w.InFlight[0].Packet})
	for _, pk := range hostile {
		for _, to := range []int{0, 7} {
			for _, in := range []int{0, -1, math.MaxInt} {
				want := with(w, func(w *impl.Network) {
					w.InFlight = append(w.InFlight, impl.PacketInFlight{To: to, Ingress: in, Packet: pk})
				})
				expectApplied(t, "of an injection", w, injecting(to, in, pk), want)
			}
		}
		for _, to := range append(strange(), 8) {
			expectNotApplied(t, "of an injection to no AS", w, injecting(to, 0, pk))
		}
	}
	smaller := impl.NewNetwork(family(), impl.SegmentDatabase{}, 8, 50)
	expectNotApplied(t, "of an injection to no AS", smaller, injecting(5, 0, longPacket()))
	expectApplied(t, "of an injection", smaller, injecting(4, 0, longPacket()), with(smaller, func(w *impl.Network) { w.InFlight = []impl.PacketInFlight{{To: 4, Packet: longPacket()}} }))
	full := crowded(w, 149)
	expectApplied(t, "of an injection", full, injecting(3, 0, longPacket()), with(full, func(w *impl.Network) {
		w.InFlight = append(w.InFlight, impl.PacketInFlight{To: 3, Packet: longPacket()})
	}))
	expectNotApplied(t, "of an injection among MaxInFlight packets", crowded(w, 150), injecting(3, 0, longPacket()))
}

func TestEventsOfFlows(t *testing.T) {
	w := busy()
	for n := range 3 {
		for size, want := range map[int]bool{0: true, 1: true, 40: true, 41: false} {
			data := make([]byte, size)
			if want {
				expectApplied(t, "of a message", w, submitting(n, data), with(w, func(w *impl.Network) { w.Flows[n].Messages = append(w.Flows[n].Messages, impl.Message{Data: data}) }))
			} else {
				expectNotApplied(t, "of a long message", w, submitting(n, data))
			}
		}
		full := with(w, func(w *impl.Network) {
			for len(w.Flows[n].Messages) < 19 {
				w.Flows[n].Messages = append(w.Flows[n].Messages, impl.Message{})
			}
		})
		full, ok := impl.ApplyEvent(full, submitting(n, []byte("last")))
		expectBool(t, "ApplyEvent of the last message", ok, true)
		expectNotApplied(t, "of one message more", full, submitting(n, nil))
		expectApplied(t, "of a refreshed flow", w, event(impl.EvRefresh, n), with(w, func(w *impl.Network) {
			f := &w.Flows[n]
			f.Paths = impl.PreferUnrevoked(f.Revocations, impl.SortPaths(modelFind(w.Topology, w.Database, f.Src, f.Dst, 50)), 50)
			f.Current, f.Wait = 0, 0
		}))
	}
	for _, n := range append(strange(), 3, 4) {
		expectNotApplied(t, "of a message to no flow", w, submitting(n, []byte("x")))
		expectNotApplied(t, "of no flow", w, event(impl.EvRefresh, n))
	}
}

// Refreshed paths are those that are usable at that time, with the revoked ones at the end.
func TestRefreshedPaths(t *testing.T) {
	w := with(quiet(), func(w *impl.Network) {
		w.Flows[0].Paths = nil
		w.Flows[0].Revocations = []impl.Revocation{{AS: 0, Interface: 2, Until: 50}, {AS: 2, Interface: 2, Until: 80}}
	})
	last := -1
	for now, count := range map[int]int{9: 0, 10: 20, 50: 20, 51: 20, 81: 20, 110: 20, 111: 0} {
		late := with(w, func(w *impl.Network) { w.Now = now })
		got, ok := impl.ApplyEvent(late, event(impl.EvRefresh, 0))
		want, _ := modelApply(late, event(impl.EvRefresh, 0))
		expectBool(t, "ApplyEvent", ok, true)
		expectSame(t, "ApplyEvent of a refreshed flow", got, want)
		expectInt(t, "the number of paths", len(got.Flows[0].Paths), count)
		if now > 80 && now < 111 {
			last = now
			expectSame(t, "the paths", got.Flows[0].Paths, quiet().Flows[0].Paths)
		} else if count > 0 && impl.EqualPathLists(got.Flows[0].Paths, quiet().Flows[0].Paths) {
			t.Errorf("no path is revoked at %d", now)
		}
	}
	if last < 0 {
		t.Error("no time without revocations")
	}
}

func TestRunEvents(t *testing.T) {
	w := with(quiet(), func(w *impl.Network) { w.Flows, w.Inboxes = nil, nil })
	ticks := slices.Repeat([]impl.Event{event(impl.EvTick, 0)}, 402)
	for _, n := range []int{0, 1, 399, 400, 401, 402} {
		expectSame(t, "RunEvents", impl.RunEvents(w, ticks[:n]), with(w, func(w *impl.Network) { w.Now = 50 + min(n, 400) }))
		expectInt(t, "CountApplied", impl.CountApplied(w, ticks[:n]), min(n, 400))
		// Rejected events count among the first ones.
		mixed := append([]impl.Event{event(impl.EvDrop, 0), event(0, 0), event(impl.EvRepair, 1)}, ticks[:n]...)
		expectSame(t, "RunEvents with rejected events", impl.RunEvents(w, mixed), with(w, func(w *impl.Network) { w.Now = 50 + min(n, 397) }))
		expectInt(t, "CountApplied with rejected events", impl.CountApplied(w, mixed), min(n, 397))
	}
	late := with(w, func(w *impl.Network) { w.Now = impl.MaxTime - 3 })
	expectInt(t, "CountApplied at MaxTime", impl.CountApplied(late, ticks[:10]), 3)
	expectInt(t, "the time", impl.RunEvents(late, ticks[:10]).Now, impl.MaxTime)
	for _, x := range append(invalidNetworks(), busy()) {
		expectSame(t, "RunEvents without events", impl.RunEvents(x, nil), x)
		expectInt(t, "CountApplied without events", impl.CountApplied(x, nil), 0)
	}
	for _, x := range invalidNetworks() {
		expectSame(t, "RunEvents in an invalid network", impl.RunEvents(x, anyEvents()), x)
		expectInt(t, "CountApplied in an invalid network", impl.CountApplied(x, anyEvents()), 0)
	}
	events := anyEvents()
	want, applied := busy(), 0
	for _, e := range events {
		after, ok := modelApply(want, e)
		if want = after; ok {
			applied++
		}
	}
	expectSame(t, "RunEvents of all kinds", impl.RunEvents(busy(), events), want)
	expectInt(t, "CountApplied of all kinds", impl.CountApplied(busy(), events), applied)
}

// modelHarmless decides by the words of the document.
func modelHarmless(w impl.Network, e impl.Event) bool {
	pk := e.Forged.Packet
	if e.Kind != 7 || !impl.ValidPacket(pk) || pk.Kind == impl.PkRevocation {
		return true
	}
	for _, x := range w.InFlight {
		if same(x.Packet, pk) {
			return true
		}
	}
	for _, f := range w.Flows {
		if f.Src == pk.Src && f.Dst == pk.Dst || f.Src == pk.Dst && f.Dst == pk.Src {
			return false
		}
	}
	return true
}

func TestHarmless(t *testing.T) {
	w := busy()
	for kind := -1; kind <= 10; kind++ {
		e := injecting(3, 0, longPacket())
		e.Kind = kind
		expectBool(t, "Harmless of the kind "+impl.FormatInt(kind), impl.Harmless(w, e), kind != 7)
		expectBool(t, "Harmless in the zero network", impl.Harmless(impl.Network{}, e), true)
	}
	expectBool(t, "Harmless of a packet", impl.Harmless(w, injecting(3, 0, longPacket())), false)
	large, negative := invalidPackets()
	for _, pk := range append(large, negative...) {
		expectBool(t, "Harmless of an invalid packet", impl.Harmless(w, injecting(3, 0, pk)), true)
	}
	for _, x := range w.InFlight {
		// Where the copy arrives plays no part.
		expectBool(t, "Harmless of a copy", impl.Harmless(w, injecting(7, 5, x.Packet)), true)
		for i, change := range packetChanges(x.Packet) {
			other := copyOf(x.Packet)
			change(&other)
			if got, want := impl.Harmless(w, injecting(x.To, x.Ingress, other)), modelHarmless(w, injecting(0, 0, other)); got != want {
				t.Errorf("Harmless of the change %d = %v", i, got)
			}
		}
	}
	ends := map[[2]int]bool{{4, 6}: true, {6, 4}: true, {4, 7}: true, {7, 4}: true}
	for a := range 8 {
		for b := range 8 {
			for kind, forgeable := range map[int]bool{impl.PkData: true, impl.PkAck: true, impl.PkRevocation: false} {
				pk := longPacket()
				pk.Kind, pk.Src, pk.Dst = kind, a, b
				expectBool(t, "Harmless", impl.Harmless(w, injecting(0, 0, pk)), !forgeable || !ends[[2]int{a, b}])
			}
		}
	}
	// Nor need the network be valid: a flow counts without an inbox.
	odd := impl.Network{Flows: []impl.Flow{impl.NewFlow(5, 5, 0)}, Inboxes: []impl.Inbox{impl.NewInbox(6, 4)}}
	pk := longPacket()
	expectBool(t, "Harmless in an invalid network", impl.Harmless(odd, injecting(0, 0, pk)), true)
	pk.Src, pk.Dst = 5, 5
	expectBool(t, "Harmless in an invalid network", impl.Harmless(odd, injecting(0, 0, pk)), false)
}

func TestCounters(t *testing.T) {
	expectInts(t, "Counters of the zero network", impl.Counters(impl.Network{}), 0, 0, 0, 0)
	expectInts(t, "Counters", impl.Counters(quiet()), 50, 0, 0, 0, 0, 0, 0)
	expectInts(t, "Counters", impl.Counters(busy()), 50, 2, 3, 2, 1, 0, 0)
	odd := impl.Network{Now: -1, Dropped: math.MinInt, FailedLinks: make([]int, 7), InFlight: make([]impl.PacketInFlight, 200), Flows: []impl.Flow{{Acknowledged: -3}, {}, {Acknowledged: 9}, {}, {Acknowledged: 4}}}
	expectInts(t, "Counters of an invalid network", impl.Counters(odd), -1, 200, math.MinInt, 7, -3, 0, 9, 0, 4)
}

func TestEventName(t *testing.T) {
	names := []string{"", "tick", "deliver", "drop", "duplicate", "fail", "repair", "inject", "send", "refresh", ""}
	for kind, name := range names {
		expectText(t, "EventName of "+impl.FormatInt(kind), impl.EventName(kind), name)
	}
	for _, kind := range strange() {
		expectText(t, "EventName", impl.EventName(kind), "")
	}
}

// randomEvent is often one that can be applied to w.
func randomEvent(r *rand.Rand, w impl.Network) impl.Event {
	e := impl.Event{Kind: []int{1, 2, 2, 2, 2, 2, 2, 3, 4, 4, 5, 6, 6, 7, 7, 8, 9}[r.Intn(17)]}
	switch e.Kind {
	case impl.EvDeliver, impl.EvDrop, impl.EvDuplicate:
		e.N = r.Intn(len(w.InFlight)+1) * r.Intn(2)
	case impl.EvFail:
		e.N = r.Intn(len(w.Topology.Links) + 1)
	case impl.EvRepair:
		if len(w.FailedLinks) > 0 {
			e.N = w.FailedLinks[r.Intn(len(w.FailedLinks))]
		}
	case impl.EvInject:
		e.Forged = randomForgery(r, w)
	default:
		e.N, e.Data = r.Intn(len(w.Flows)+1), make([]byte, r.Intn(42))
		r.Read(e.Data)
	}
	return e
}

// randomForgery is a packet like those in the network, changed or not.
func randomForgery(r *rand.Rand, w impl.Network) impl.PacketInFlight {
	x := impl.PacketInFlight{To: r.Intn(len(w.Topology.ASes)), Ingress: r.Intn(3), Packet: randomPacket(r)}
	if len(w.InFlight) > 0 && r.Intn(2) == 0 {
		x = copyOf(w.InFlight[r.Intn(len(w.InFlight))])
	} else if len(w.Flows) > 0 {
		f := w.Flows[r.Intn(len(w.Flows))]
		if len(f.Paths) > 0 {
			x = impl.PacketInFlight{To: f.Src, Packet: impl.NewPacket(1+r.Intn(2), f.Paths[r.Intn(len(f.Paths))], 0, r.Intn(3), []byte{9})}
			if r.Intn(2) == 0 {
				x.To, x.Packet = f.Dst, impl.Reply(x.Packet, 1+r.Intn(2), r.Intn(3), nil)
			}
		}
	}
	switch r.Intn(6) {
	case 0:
		x.Packet.Kind, x.Packet.Payload = impl.PkRevocation, encodeAll(r.Intn(8), 1+r.Intn(6), r.Intn(150))
	case 1:
		changes := packetChanges(x.Packet)
		changes[r.Intn(len(changes))](&x.Packet)
	case 2:
		x.Packet.Src = r.Intn(8)
	}
	return x
}

// Whatever harmless events occur, the received messages are the sent ones, in order, each once.
func TestHarmlessEventsDoNoHarm(t *testing.T) {
	r := rand.New(rand.NewSource(61))
	applied, received, forged, rejected := 0, 0, 0, 0
	for range 70 {
		w := randomNetwork(r)
		sent := [][]impl.Message{}
		for _, f := range w.Flows {
			sent = append(sent, f.Messages)
		}
		for range 120 {
			e := randomEvent(r, w)
			harmless := modelHarmless(w, e)
			expectBool(t, "Harmless", impl.Harmless(w, e), harmless)
			if !harmless {
				continue
			}
			want, ok := modelApply(w, e)
			got, is := impl.ApplyEvent(w, e)
			if is != ok || !same(got, want) {
				t.Fatalf("ApplyEvent of %+v: %+v, %v; want %+v, %v", e, got, is, want, ok)
			}
			if !ok {
				rejected++
				continue
			}
			applied++
			if e.Kind == impl.EvInject {
				forged++
			}
			if e.Kind == impl.EvEnqueue {
				sent[e.N] = append(slices.Clip(sent[e.N]), impl.Message{Data: e.Data})
			}
			w = got
			expectBool(t, "ValidNetwork", impl.ValidNetwork(w), true)
			for i, x := range w.Inboxes {
				expectSame(t, "the messages that are received", x.Received, sent[i][:x.Next])
				expectBool(t, "more messages that are acknowledged than received", w.Flows[i].Acknowledged > x.Next, false)
			}
		}
		for _, x := range w.Inboxes {
			received += x.Next
		}
		if t.Failed() {
			break
		}
	}
	if applied < 3000 || received < 100 || forged < 200 || rejected < 300 {
		t.Errorf("too few events: %d, %d, %d, %d", applied, received, forged, rejected)
	}
}

func TestEventsShareNoMemory(t *testing.T) {
	for _, w := range []impl.Network{quiet(), busy(), {}, crowded(busy(), 150)} {
		for _, e := range anyEvents() {
			for _, n := range []int{e.N, 0, 99} {
				e.N = n
				expectPure(t, "ApplyEvent", impl.ApplyEvent, w, e)
				expectPure(t, "Harmless", impl.Harmless, w, e)
			}
		}
		expectPure(t, "RunEvents", impl.RunEvents, w, anyEvents())
		expectPure(t, "CountApplied", impl.CountApplied, w, anyEvents())
		expectPure(t, "Counters", impl.Counters, w)
	}
	twice := impl.RunEvents(busy(), []impl.Event{event(impl.EvDuplicate, 0), event(impl.EvDuplicate, 0), event(impl.EvDuplicate, 2)})
	expectInt(t, "the packets in flight", len(twice.InFlight), 5)
	expectUnsharedParts(t, "RunEvents", twice)
}
