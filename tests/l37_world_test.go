package tests

import (
	"math"
	"math/rand"
	"slices"
	"testing"

	"loop.example/g00505/impl"
)

func TestNetworkConstants(t *testing.T) {
	expectInts(t, "limits", []int{impl.MaxInFlight, impl.MaxFlows, impl.RevocationLifetime}, 150, 4, 10)
}

func TestNewNetwork(t *testing.T) {
	p, k := world(), worldDatabase()
	for now, want := range map[int]bool{math.MinInt: false, -1: false, 0: true, 1: true, 50: true, impl.MaxTime: true, impl.MaxTime + 1: false, math.MaxInt: false} {
		for capacity, least := range map[int]int{0: 1, -1: 1, 1: 1, 20: 20, 21: 1, math.MaxInt: 1} {
			w := impl.Network{}
			if want {
				w = impl.Network{Topology: p, Database: k, Scheduler: impl.Scheduler{Capacity: least}, Now: now}
			}
			got := impl.NewNetwork(p, k, capacity, now)
			expectSame(t, "NewNetwork", got, w)
			expectBool(t, "ValidNetwork", impl.ValidNetwork(got), want)
		}
	}
	for _, q := range notTopologies() {
		expectSame(t, "NewNetwork with an invalid topology", impl.NewNetwork(q, k, 8, 50), impl.Network{})
	}
	// The database need not fit.
	odd := impl.SegmentDatabase{Down: []impl.Segment{{}, passing(3, 99)}, Core: []impl.Segment{{Timestamp: -1}}}
	expectSame(t, "NewNetwork with any database", impl.NewNetwork(p, odd, 8, 50), impl.Network{Topology: p, Database: odd, Scheduler: impl.Scheduler{Capacity: 8}, Now: 50})
}

func expectAdded(t *testing.T, what string, w impl.Network, f impl.Flow) impl.Network {
	t.Helper()
	added := copyOf(f)
	added.Paths = impl.PreferUnrevoked(f.Revocations, impl.SortPaths(modelFind(w.Topology, w.Database, f.Src, f.Dst, w.Now)), w.Now)
	added.Current, added.Wait = 0, 0
	want := with(w, func(w *impl.Network) {
		w.Flows = append(w.Flows, added)
		w.Inboxes = append(w.Inboxes, impl.Inbox{AS: f.Dst, Source: f.Src})
	})
	got, ok := impl.AddFlow(w, f)
	if !ok || !same(got, want) {
		t.Errorf("AddFlow %s = %+v, %v; want %+v, true", what, got, ok, want)
	}
	return got
}

func expectNotAdded(t *testing.T, what string, w impl.Network, f impl.Flow) {
	t.Helper()
	if got, ok := impl.AddFlow(w, f); ok || !same(got, w) {
		t.Errorf("AddFlow %s = %+v, %v; want %+v, false", what, got, ok, w)
	}
}

func TestAddFlow(t *testing.T) {
	empty := impl.NewNetwork(world(), beaconed(world()), 8, 50)
	w := empty
	for n, ends := range [][2]int{{4, 6}, {4, 7}, {6, 4}, {0, 4}} {
		w = expectAdded(t, "of flow "+impl.FormatInt(n), w, impl.NewFlow(ends[0], ends[1], n))
		expectBool(t, "ValidNetwork", impl.ValidNetwork(w), true)
		expectInt(t, "the paths of the first flow", len(w.Flows[0].Paths), 20)
		expectNotAdded(t, "with the same ends", w, impl.NewFlow(ends[0], ends[1], 9))
	}
	expectNotAdded(t, "of a fifth flow", w, impl.NewFlow(1, 2, 0))
	expectNotAdded(t, "to nothing", impl.Network{}, impl.NewFlow(1, 2, 0))
	// Its messages and revocations stay; its paths are found anew.
	f := flowWith(func(f *impl.Flow) { f.Acknowledged = 0 })
	expectAdded(t, "of a flow with messages", empty, f)
	f.Revocations = []impl.Revocation{{AS: 0, Interface: 2, Until: 50}, {AS: 2, Interface: 2, Until: 49}, {AS: 1, Interface: 1, Until: 60}}
	if l := expectAdded(t, "of a flow with revocations", empty, f).Flows[0].Paths; impl.EqualPathLists(l, impl.SortPaths(l)) {
		t.Error("the revocations play no part")
	}
	for _, now := range []int{9, 10, 110, 111, -5, impl.MaxTime + 7} {
		late := with(empty, func(w *impl.Network) { w.Now = now })
		expectInt(t, "the number of paths", len(expectAdded(t, "at another time", late, impl.NewFlow(4, 6, 0)).Flows[0].Paths), map[int]int{10: 20, 110: 20}[now])
	}
	expectAdded(t, "without segments", with(empty, func(w *impl.Network) { w.Database = impl.SegmentDatabase{} }), impl.NewFlow(4, 6, 0))
}

func TestAddFlowRejects(t *testing.T) {
	empty := impl.NewNetwork(world(), beaconed(world()), 8, 50)
	for _, f := range invalidFlows() {
		if f.Acknowledged == 1 {
			f.Acknowledged = 0
		}
		expectNotAdded(t, "of an invalid flow", empty, f)
	}
	expectNotAdded(t, "with an acknowledged message", empty, flow())
	smaller := impl.NewNetwork(family(), impl.SegmentDatabase{}, 8, 50)
	for _, f := range []impl.Flow{impl.NewFlow(4, 5, 0), impl.NewFlow(5, 4, 0), impl.NewFlow(7, 6, 0)} {
		expectNotAdded(t, "between ASes that do not exist", smaller, f)
	}
	expectAdded(t, "between ASes that exist", smaller, impl.NewFlow(4, 3, 0))
	// An inbox counts, even without a flow, but a flow without an inbox does not.
	taken := with(empty, func(w *impl.Network) {
		w.Inboxes = []impl.Inbox{{AS: 4, Source: 6}, {AS: 6, Source: 3}, {AS: 6, Source: 4, Next: 7}}
	})
	expectNotAdded(t, "where there is an inbox", taken, impl.NewFlow(4, 6, 0))
	expectAdded(t, "where there is no inbox", taken, impl.NewFlow(4, 7, 0))
	for n := range 7 {
		w := with(empty, func(w *impl.Network) { w.Flows = slices.Repeat([]impl.Flow{impl.NewFlow(4, 6, 0)}, n) })
		if n < 4 {
			expectAdded(t, "where there is a flow without an inbox", w, impl.NewFlow(4, 6, 0))
		} else {
			expectNotAdded(t, "where there are MaxFlows", w, impl.NewFlow(4, 6, 0))
		}
	}
	// Nor need the network be valid.
	expectAdded(t, "to an invalid network", with(empty, func(w *impl.Network) { w.Dropped, w.Scheduler.Capacity = -1, 99 }), impl.NewFlow(4, 6, 0))
}

// invalidNetworks have one condition broken each.
func invalidNetworks() []impl.Network {
	l := []impl.Network{{}}
	for _, q := range notTopologies() {
		l = append(l, with(impl.NewNetwork(world(), impl.SegmentDatabase{}, 8, 50), func(w *impl.Network) { w.Topology = q }))
	}
	add := func(change func(w *impl.Network)) { l = append(l, with(busy(), change)) }
	for _, change := range []func(w *impl.Network){
		func(w *impl.Network) { w.Now = -1; w.Scheduler = impl.NewScheduler(1) }, func(w *impl.Network) { w.Now = impl.MaxTime + 1; w.Scheduler = impl.NewScheduler(1) },
		func(w *impl.Network) { w.Scheduler.Capacity = 0 }, func(w *impl.Network) { w.Scheduler.Capacity = 4 }, func(w *impl.Network) { w.Scheduler.Usages[0].Count = 3 }, func(w *impl.Network) { w.Now = 61 }, func(w *impl.Network) { w.Scheduler.Reservations[0].Rate = 0 },
		func(w *impl.Network) { w.FailedLinks = []int{-1} }, func(w *impl.Network) { w.FailedLinks = []int{1, 13} }, func(w *impl.Network) { w.FailedLinks = []int{1, 1} }, func(w *impl.Network) { w.FailedLinks = []int{2, 1} }, func(w *impl.Network) { w.FailedLinks = []int{1, 3, 2} }, func(w *impl.Network) { w.FailedLinks = []int{-1, 3} },
		func(w *impl.Network) { *w = crowded(*w, 151) }, func(w *impl.Network) { w.InFlight[0].To = -1 }, func(w *impl.Network) { w.InFlight[1].To = 8 },
		func(w *impl.Network) { w.Flows[1].Wait = 5 }, func(w *impl.Network) { w.Flows[2].Src = 8 }, func(w *impl.Network) { w.Flows[0].Current = 99 },
		func(w *impl.Network) { w.Flows[1].Dst = 6; w.Inboxes[1].AS = 6 }, func(w *impl.Network) { w.Flows[2] = w.Flows[0]; w.Inboxes[2] = w.Inboxes[0] },
		func(w *impl.Network) { w.Flows = w.Flows[:2] }, func(w *impl.Network) { w.Inboxes = w.Inboxes[:2] }, func(w *impl.Network) { w.Flows = nil }, func(w *impl.Network) { w.Inboxes = nil }, func(w *impl.Network) { slices.Reverse(w.Inboxes) },
		func(w *impl.Network) { w.Inboxes[0].Next = 1 }, func(w *impl.Network) { w.Inboxes[2].AS = 5 }, func(w *impl.Network) { w.Inboxes[0].Received[0].Data[0] = 'O' }, func(w *impl.Network) { w.Flows[0].Acknowledged = 3 }, func(w *impl.Network) { w.Flows[1].Acknowledged = 1 }, func(w *impl.Network) { w.Flows[0].Messages = w.Flows[0].Messages[:1] },
		func(w *impl.Network) { w.Dropped = -1 }, func(w *impl.Network) { w.Dropped = math.MinInt },
	} {
		add(change)
	}
	five := quiet()
	for _, ends := range [][2]int{{0, 4}, {0, 5}} {
		five = withFlow(five, ends[0], ends[1], 0)
	}
	smaller := impl.NewNetwork(family(), impl.SegmentDatabase{}, 8, 50)
	return append(l, five, withFlow(smaller, 4, 5, 0), withFlow(smaller, 5, 4, 0), with(smaller, func(w *impl.Network) { w.FailedLinks = []int{4} }), with(smaller, func(w *impl.Network) { w.InFlight = []impl.PacketInFlight{{To: 5}} }))
}

func TestValidNetwork(t *testing.T) {
	expectBool(t, "ValidNetwork", impl.ValidNetwork(busy()) && impl.ValidNetwork(quiet()), true)
	for i, w := range invalidNetworks() {
		if impl.ValidNetwork(w) {
			t.Errorf("network %d is valid", i)
		}
	}
	for i, change := range []func(w *impl.Network){
		func(w *impl.Network) { w.Now = 0 }, func(w *impl.Network) { w.Now = 60 }, func(w *impl.Network) { w.Now, w.Scheduler.Usages = impl.MaxTime, nil }, func(w *impl.Network) { w.FailedLinks = nil }, func(w *impl.Network) { w.FailedLinks = []int{0, 1, 2, 3, 4, 5, 6, 7, 8, 9, 10, 11, 12} }, func(w *impl.Network) { w.FailedLinks = []int{12} },
		func(w *impl.Network) { *w = crowded(*w, 150) }, func(w *impl.Network) { w.InFlight[0].To = 7 }, func(w *impl.Network) { w.InFlight[0].To = 0 }, func(w *impl.Network) { w.Dropped = 0 }, func(w *impl.Network) { w.Dropped = math.MaxInt }, func(w *impl.Network) { w.Flows, w.Inboxes = nil, nil },
		func(w *impl.Network) { *w = withFlow(*w, 0, 4, 0) }, func(w *impl.Network) { w.Flows[0].Acknowledged = 2 }, func(w *impl.Network) { w.Flows[0].Acknowledged = 0 }, func(w *impl.Network) { slices.Reverse(w.Flows); slices.Reverse(w.Inboxes) },
		// Neither the database nor the packets in flight are asked for.
		func(w *impl.Network) { w.Database = impl.SegmentDatabase{Core: []impl.Segment{{}}} }, func(w *impl.Network) { w.InFlight[0].Ingress, w.InFlight[0].Packet = -7, impl.Packet{Kind: 9} },
	} {
		if !impl.ValidNetwork(with(busy(), change)) {
			t.Errorf("network %d is not valid", i)
		}
	}
}

func TestTruncatePath(t *testing.T) {
	path := longPath()
	pk := impl.NewPacket(impl.PkData, path, 0, 0, nil)
	for part := -2; part <= 4; part++ {
		for hop := -2; hop <= 4; hop++ {
			want := impl.Path{}
			if part >= 0 && part < 3 && hop >= 0 && hop < len(path.Parts[part].Hops) {
				want = copyOf(impl.Path{Parts: path.Parts[:part+1]})
				want.Parts[part].Hops = want.Parts[part].Hops[:hop+1]
			}
			got := impl.TruncatePath(at(pk, part, hop, 77))
			expectSame(t, "TruncatePath", got, want)
			if len(want.Parts) > 0 {
				// It leads back to where the packet came from.
				expectBool(t, "PathUsable", impl.PathUsable(world(), impl.ReversePath(got), 50), true)
				from, to := impl.Endpoints(got)
				expectInts(t, "Endpoints", []int{from, to}, 4, impl.CurrentAS(at(pk, part, hop, 77)))
			}
		}
	}
	for _, n := range strange() {
		expectSame(t, "TruncatePath beyond the path", impl.TruncatePath(at(pk, n, 0, 0)), impl.Path{})
		expectSame(t, "TruncatePath beyond the path", impl.TruncatePath(at(pk, 0, n, 0)), impl.Path{})
	}
	expectSame(t, "TruncatePath without parts", impl.TruncatePath(impl.Packet{}), impl.Path{})
	odd := impl.Packet{Path: pathOfParts(onePart(1, -1, 3), impl.PathPart{Kind: 9}, onePart(7, 99, -2))}
	expectSame(t, "TruncatePath at no AS", impl.TruncatePath(odd), impl.Path{})
	expectSame(t, "TruncatePath at no AS", impl.TruncatePath(at(odd, 2, 1, 0)), impl.Path{})
	expectSame(t, "TruncatePath of an odd path", impl.TruncatePath(at(odd, 2, 0, 0)), pathOfParts(onePart(1, -1, 3), impl.PathPart{Kind: 9}, onePart(7, 99)))
	expectSame(t, "TruncatePath in a part without hops", impl.TruncatePath(at(odd, 1, 0, 0)), impl.Path{})
}

func TestMakeRevocation(t *testing.T) {
	p := world()
	l := stops(impl.NewPacket(impl.PkData, longPath(), 5, 300, []byte("hello")))
	for now, until := range map[int]int{0: 10, 50: 60, impl.MaxTime - 11: impl.MaxTime - 1, impl.MaxTime - 10: impl.MaxTime, impl.MaxTime - 9: impl.MaxTime, impl.MaxTime: impl.MaxTime, impl.MaxTime + 50: impl.MaxTime, -10: 0} {
		back := impl.ReversePath(impl.TruncatePath(l[2]))
		want := impl.Packet{Kind: impl.PkRevocation, Src: 0, Dst: 4, Path: back, Beta: back.Parts[0].Beta, ReservationID: 5, Seq: 300, Payload: encodeAll(0, 2, until)}
		expectSame(t, "MakeRevocation at "+impl.FormatInt(now), impl.MakeRevocation(p, 0, now, 2, l[2]), want)
		expectSame(t, "MakeRevocation without ASes", impl.MakeRevocation(impl.Topology{}, 0, now, 2, l[2]), want)
	}
	for i, s := range impl.PathSteps(longPath()) {
		x := impl.MakeRevocation(p, s.AS, 50, 1+i%6, l[i])
		w := impl.Traverse(p, 50, nil, x)
		expectInt(t, "the code", w.Code, impl.FwDeliver)
		expectInts(t, "its ends", []int{x.Src, x.Dst, w.Steps[len(w.Steps)-1].AS}, s.AS, 4, 4)
	}
	// A revocation that is not valid has no encoding.
	for _, bad := range []struct{ r, now, iface int }{{-1, 50, 1}, {8, 50, 1}, {0, 50, 0}, {0, 50, 7}, {0, -11, 1}, {0, math.MinInt, 1}, {0, math.MaxInt, 1}, {0, math.MaxInt - 9, 1}} {
		back := impl.ReversePath(impl.TruncatePath(l[2]))
		want := impl.Packet{Kind: impl.PkRevocation, Src: 0, Dst: 4, Path: back, Beta: back.Parts[0].Beta, ReservationID: 5, Seq: 300}
		expectSame(t, "MakeRevocation that is not valid", impl.MakeRevocation(p, bad.r, bad.now, bad.iface, l[2]), want)
	}
	expectSame(t, "MakeRevocation of no path", impl.MakeRevocation(p, 3, 50, 1, impl.Packet{ReservationID: -4, Seq: -5}), impl.Packet{Kind: impl.PkRevocation, Src: -1, Dst: -1, ReservationID: -4, Seq: -5, Payload: encodeAll(3, 1, 60)})
}

func expectProcessed(t *testing.T, what string, w impl.Network, r int, in int, pk impl.Packet, want impl.Network) {
	t.Helper()
	if got := impl.ProcessPacket(w, r, in, pk); !same(got, want) {
		t.Errorf("ProcessPacket %s: %+v; want %+v", what, got, want)
	}
	if model := modelProcess(w, r, in, pk); !same(model, want) {
		t.Errorf("the model of ProcessPacket %s: %+v; want %+v", what, model, want)
	}
}

// dropped returns w with n more packets dropped.
func dropped(w impl.Network, n int) impl.Network {
	w.Dropped += n
	return w
}

func TestProcessPacketForwards(t *testing.T) {
	steps := impl.PathSteps(longPath())
	for _, w := range []impl.Network{quiet(), busy()} {
		for kind := impl.PkData; kind <= impl.PkRevocation; kind++ {
			l := stops(impl.NewPacket(kind, longPath(), 9, 4, []byte("x")))
			for i, s := range steps[1:5] {
				want := with(w, func(w *impl.Network) {
					w.InFlight = append(w.InFlight, impl.PacketInFlight{To: steps[i+2].AS, Ingress: steps[i+2].Ingress, Packet: l[i+2]})
					w.Scheduler.Usages = append(w.Scheduler.Usages, impl.Usage{AS: s.AS, Interface: s.Egress, Count: 1})
				})
				expectProcessed(t, "that is forwarded", w, s.AS, s.Ingress, l[i+1], want)
			}
		}
	}
}

func TestProcessPacketAtTheCapacity(t *testing.T) {
	w := busy()
	for id, counts := range map[int][]int{0: {2, 3}, 1: {1, 2}, 7: {2, 3}} {
		l := stops(impl.NewPacket(impl.PkData, longPath(), id, 0, nil))
		index := 1
		if id == 1 {
			index = 0
		}
		want := with(w, func(w *impl.Network) {
			w.InFlight = append(w.InFlight, impl.PacketInFlight{To: 3, Ingress: 3, Packet: l[1]})
			w.Scheduler.Usages[index].Count = counts[1]
		})
		expectInt(t, "the count before", w.Scheduler.Usages[index].Count, counts[0])
		expectProcessed(t, "of reservation "+impl.FormatInt(id), w, 4, 0, l[0], want)
		full := with(w, func(w *impl.Network) { w.Scheduler.Usages[0].Count, w.Scheduler.Usages[1].Count = 2, 3 })
		expectProcessed(t, "at the full capacity", full, 4, 0, l[0], dropped(full, 1))
	}
	// A reservation that is not used up makes room.
	l := stops(impl.NewPacket(impl.PkData, longPath(), 2, 0, nil))
	full := with(w, func(w *impl.Network) { w.Scheduler.Usages[0].Count, w.Scheduler.Usages[1].Count = 2, 3 })
	expectProcessed(t, "of another reservation", full, 4, 0, l[0], with(full, func(w *impl.Network) {
		w.InFlight = append(w.InFlight, impl.PacketInFlight{To: 3, Ingress: 3, Packet: l[1]})
		w.Scheduler.Usages = append(w.Scheduler.Usages, impl.Usage{ID: 2, AS: 4, Interface: 1, Count: 1})
	}))
	for n := 148; n <= 152; n++ {
		many := crowded(w, n)
		want := dropped(many, 1)
		if n < 150 {
			want = with(many, func(w *impl.Network) {
				w.InFlight = append(w.InFlight, impl.PacketInFlight{To: 3, Ingress: 3, Packet: l[1]})
				w.Scheduler.Usages = append(w.Scheduler.Usages, impl.Usage{ID: 2, AS: 4, Interface: 1, Count: 1})
			})
		}
		expectProcessed(t, "with "+impl.FormatInt(n)+" packets in flight", many, 4, 0, l[0], want)
	}
}

// acknowledged returns w with the acknowledgement of the long path with this sequence number, as AS 6 sends it.
func acknowledged(w impl.Network, seq int) impl.Network {
	return with(w, func(w *impl.Network) {
		ack := impl.NewPacket(impl.PkAck, impl.ReversePath(longPath()), 0, seq, nil)
		w.InFlight = append(w.InFlight, impl.PacketInFlight{To: 5, Ingress: 2, Packet: stops(ack)[1]})
		w.Scheduler.Usages = append(w.Scheduler.Usages, impl.Usage{AS: 6, Interface: 1, Count: 1})
	})
}

func TestProcessPacketDeliversData(t *testing.T) {
	arrives := func(seq int, text string) impl.Packet {
		return stops(impl.NewPacket(impl.PkData, longPath(), 0, seq, []byte(text)))[5]
	}
	w := busy()
	received := with(w, func(w *impl.Network) {
		w.Inboxes[0].Next, w.Inboxes[0].Received = 3, append(w.Inboxes[0].Received, mail("three")...)
	})
	expectProcessed(t, "of the next message", w, 6, 1, arrives(2, "three"), acknowledged(received, 2))
	for seq := range 2 {
		expectProcessed(t, "of a message that was received", w, 6, 1, arrives(seq, "x"), acknowledged(w, seq))
	}
	for seq := 3; seq < 6; seq++ {
		expectProcessed(t, "of a later message", w, 6, 1, arrives(seq, "x"), w)
	}
	// Without an inbox nothing happens, nor is it counted.
	none := with(w, func(w *impl.Network) {
		w.Inboxes = []impl.Inbox{{AS: 6, Source: 3}, {AS: 4, Source: 6}, {AS: 5, Source: 4}}
	})
	expectProcessed(t, "without an inbox", none, 6, 1, arrives(0, "x"), none)
	twice := with(w, func(w *impl.Network) { w.Inboxes = append(w.Inboxes, impl.Inbox{AS: 6, Source: 4}) })
	expectProcessed(t, "with two inboxes", twice, 6, 1, arrives(0, "x"), acknowledged(twice, 0))
	other := arrives(0, "x")
	other.Src = 3
	expectProcessed(t, "from another AS", w, 6, 1, other, w)
	full := with(w, func(w *impl.Network) {
		w.Inboxes[0] = impl.Inbox{AS: 6, Source: 4, Next: 20, Received: make([]impl.Message, 20)}
	})
	expectProcessed(t, "into a full inbox", full, 6, 1, arrives(20, "x"), full)
	expectProcessed(t, "into a full inbox", full, 6, 1, arrives(19, "x"), acknowledged(full, 19))
}

// A message is received even if its acknowledgement cannot be sent.
func TestProcessPacketWhoseAcknowledgementIsDropped(t *testing.T) {
	pk := stops(impl.NewPacket(impl.PkData, longPath(), 0, 2, []byte("three")))[5]
	for i, change := range []func(w *impl.Network){
		func(w *impl.Network) { w.FailedLinks = []int{1, 9} }, func(w *impl.Network) { *w = crowded(*w, 150) }, func(w *impl.Network) { w.Scheduler.Usages = []impl.Usage{{AS: 6, Interface: 1, Count: 8}} },
	} {
		w := with(busy(), change)
		want := with(w, func(w *impl.Network) {
			w.Inboxes[0].Next, w.Inboxes[0].Received, w.Dropped = 3, append(w.Inboxes[0].Received, mail("three")...), 4
		})
		expectProcessed(t, "whose acknowledgement is dropped, "+impl.FormatInt(i), w, 6, 1, pk, want)
	}
	// Its ReservationID goes with the acknowledgement.
	w := with(busy(), func(w *impl.Network) {
		w.Scheduler.Reservations = []impl.Reservation{leaseAt(3, 6, 1, 2, 60)}
		w.Scheduler.Usages = nil
	})
	pk.ReservationID = 3
	got := impl.ProcessPacket(w, 6, 1, pk)
	expectSame(t, "the usage of the acknowledgement", got.Scheduler.Usages, []impl.Usage{{ID: 3, AS: 6, Interface: 1, Count: 1}})
}

func TestProcessPacketDeliversAcknowledgements(t *testing.T) {
	arrives := func(seq int) impl.Packet {
		return stops(impl.NewPacket(impl.PkAck, impl.ReversePath(longPath()), 0, seq, nil))[5]
	}
	w := busy()
	expectProcessed(t, "of an acknowledgement", w, 4, 1, arrives(1), with(w, func(w *impl.Network) { w.Flows[0].Acknowledged, w.Flows[0].Wait = 2, 0 }))
	for _, seq := range []int{0, 2, 3} {
		expectProcessed(t, "of another acknowledgement", w, 4, 1, arrives(seq), w)
	}
	// The flow from AS 4 to AS 7 and the one from AS 6 are not meant.
	w.Flows[0].Acknowledged = 0
	expectProcessed(t, "of an acknowledgement", w, 4, 1, arrives(0), with(w, func(w *impl.Network) { w.Flows[0].Acknowledged, w.Flows[0].Wait = 1, 0 }))
	twice := with(w, func(w *impl.Network) { w.Flows = append(w.Flows, w.Flows[0]) })
	expectProcessed(t, "of an acknowledgement for two flows", twice, 4, 1, arrives(0), with(twice, func(w *impl.Network) {
		w.Flows[0].Acknowledged, w.Flows[0].Wait, w.Flows[3].Acknowledged, w.Flows[3].Wait = 1, 0, 1, 0
	}))
	none := with(w, func(w *impl.Network) { w.Flows = nil })
	expectProcessed(t, "of an acknowledgement without flows", none, 4, 1, arrives(0), none)
	elsewhere := with(w, func(w *impl.Network) { w.Flows = w.Flows[2:] })
	expectProcessed(t, "of an acknowledgement without flows of this AS", elsewhere, 4, 1, arrives(0), elsewhere)
}

func TestProcessPacketDeliversRevocations(t *testing.T) {
	w := busy()
	for _, x := range []impl.Revocation{{AS: 1, Interface: 2, Until: 90}, {AS: 5, Interface: 5, Until: 70}, {AS: 4, Interface: 1, Until: 55}, {AS: 4, Interface: 4, Until: 3}} {
		pk := stops(impl.NewPacket(impl.PkRevocation, impl.ReversePath(longPath()), 0, 0, encodeAll(x.AS, x.Interface, x.Until)))[5]
		want := with(w, func(w *impl.Network) {
			for i := range 2 {
				w.Flows[i] = impl.HandleRevocation(w.Flows[i], pk, 50)
			}
		})
		if same(want, w) {
			t.Error("the revocation changes nothing")
		}
		expectProcessed(t, "of a revocation", w, 4, 1, pk, want)
		none := with(w, func(w *impl.Network) { w.Flows = w.Flows[2:] })
		expectProcessed(t, "of a revocation without flows", none, 4, 1, pk, none)
	}
	pk := stops(impl.NewPacket(impl.PkRevocation, impl.ReversePath(longPath()), 0, 0, []byte("hello")))[5]
	expectProcessed(t, "of a revocation that is none", w, 4, 1, pk, w)
}

// The sender itself learns at once of a failed link.
func TestProcessPacketAtAFailedLinkOfTheSender(t *testing.T) {
	w := with(busy(), func(w *impl.Network) { w.FailedLinks = []int{6} })
	for id := range 3 {
		pk := impl.NewPacket(impl.PkData, longPath(), id, 7, []byte("x"))
		want := with(w, func(w *impl.Network) {
			for i := range 2 {
				w.Flows[i] = impl.HandleRevocation(w.Flows[i], report(impl.Revocation{AS: 4, Interface: 1, Until: 60}), 50)
			}
			w.Dropped = 4
		})
		expectInt(t, "the number of revocations", len(want.Flows[1].Revocations), 1)
		expectProcessed(t, "at a failed link of the sender", w, 4, 0, pk, want)
		none := with(w, func(w *impl.Network) { w.Flows = w.Flows[2:] })
		expectProcessed(t, "at a failed link without flows", none, 4, 0, pk, dropped(none, 1))
		for _, kind := range []int{impl.PkAck, impl.PkRevocation} {
			pk.Kind = kind
			expectProcessed(t, "of another kind at a failed link", w, 4, 0, pk, dropped(w, 1))
		}
	}
	// Even if the revocation could not be sent, because the part has another beta than the packet.
	odd := impl.NewPacket(impl.PkData, longPath(), 0, 7, nil)
	odd.Path.Parts[0].Beta ^= 1
	expectProcessed(t, "with another beta in its path", w, 4, 0, odd, with(w, func(w *impl.Network) {
		for i := range 2 {
			w.Flows[i] = impl.HandleRevocation(w.Flows[i], report(impl.Revocation{AS: 4, Interface: 1, Until: 60}), 50)
		}
		w.Dropped = 4
	}))
	late := with(w, func(w *impl.Network) { w.Now = 99 })
	got := impl.ProcessPacket(late, 4, 0, impl.NewPacket(impl.PkData, longPath(), 0, 0, nil))
	expectSame(t, "the revocation", got.Flows[1].Revocations, []impl.Revocation{{AS: 4, Interface: 1, Until: 109}})
}

// A path may begin with parts of a single hop: then the egress is that of a later part, and still nothing is sent back.
func TestProcessPacketWhoseFirstPartsAreSingleHops(t *testing.T) {
	w := with(withFlow(quiet(), 0, 4, 0, "x"), func(w *impl.Network) { w.FailedLinks = []int{12} })
	pk := impl.NewPacket(impl.PkData, pathAlong(world(), "up1 1:0>1 0:1>0", "back1 1:0>1 0:1>0", "down 0:0>4 4:4>0"), 0, 0, nil)
	want := with(w, func(w *impl.Network) {
		w.Flows[3].Revocations, w.Dropped = []impl.Revocation{{AS: 0, Interface: 4, Until: 60}}, 1
		if impl.Affects(w.Flows[3].Paths[0], w.Flows[3].Revocations[0]) {
			w.Flows[3].Current = 1
		}
	})
	expectProcessed(t, "whose first parts are single hops", w, 0, 0, pk, want)
}

func TestProcessPacketAtAFailedLinkFurtherOn(t *testing.T) {
	links, steps := []int{6, 4, 2, 8, 9}, impl.PathSteps(longPath())
	for i := 1; i < 5; i++ {
		w := with(busy(), func(w *impl.Network) { w.FailedLinks = []int{links[i]} })
		pk := stops(impl.NewPacket(impl.PkData, longPath(), 0, 7, []byte("x")))[i]
		s := steps[i]
		back := impl.MakeRevocation(w.Topology, s.AS, 50, s.Egress, pk)
		expectSame(t, "the payload", back.Payload, encodeAll(s.AS, s.Egress, 60))
		want := with(w, func(w *impl.Network) {
			w.Dropped = 4
			w.InFlight = append(w.InFlight, impl.PacketInFlight{To: steps[i-1].AS, Ingress: steps[i-1].Egress, Packet: stops(back)[1]})
			w.Scheduler.Usages = append(w.Scheduler.Usages, impl.Usage{AS: s.AS, Interface: s.Ingress, Count: 1})
		})
		expectProcessed(t, "at a failed link", w, s.AS, s.Ingress, pk, want)
		// Flows of this AS are not told.
		own := with(w, func(w *impl.Network) { w.Flows[1].Src, w.Flows[2].Src = s.AS, s.AS })
		expectSame(t, "the flows of this AS", impl.ProcessPacket(own, s.AS, s.Ingress, pk).Flows, own.Flows)
		// If there is no way back, both packets are dropped.
		behind := with(w, func(w *impl.Network) { w.FailedLinks = []int{min(links[i], links[i-1]), max(links[i], links[i-1])} })
		expectProcessed(t, "between failed links", behind, s.AS, s.Ingress, pk, dropped(behind, 2))
		// Nor is there one over a part that has another beta than the packet.
		odd := copyOf(pk)
		odd.Path.Parts[odd.PartIndex].Beta ^= 1
		expectProcessed(t, "with another beta in its path", w, s.AS, s.Ingress, odd, dropped(w, 2))
		many := crowded(w, 150)
		expectProcessed(t, "at a failed link with MaxInFlight packets", many, s.AS, s.Ingress, pk, dropped(many, 2))
		for _, kind := range []int{impl.PkAck, impl.PkRevocation} {
			other := pk
			other.Kind = kind
			expectProcessed(t, "of another kind at a failed link", w, s.AS, s.Ingress, other, dropped(w, 1))
		}
	}
}

// A packet may be at the first hop of a later part, which begins at this AS; its revocation goes back over all parts before.
func TestProcessPacketAtALaterPart(t *testing.T) {
	w := with(busy(), func(w *impl.Network) { w.FailedLinks = []int{2} })
	pk := impl.NewPacket(impl.PkData, longPath(), 0, 7, nil)
	pk = at(pk, 1, 0, pk.Path.Parts[1].Beta)
	got := impl.ProcessPacket(w, 0, 0, pk)
	expectSame(t, "ProcessPacket at a later part", got, modelProcess(w, 0, 0, pk))
	expectInts(t, "where the revocation goes", []int{got.Dropped, len(got.InFlight), got.InFlight[2].To, got.InFlight[2].Ingress}, 4, 3, 3, 1)
	expectInt(t, "its kind", got.InFlight[2].Packet.Kind, impl.PkRevocation)
}

func TestProcessPacketThatIsRejected(t *testing.T) {
	w := busy()
	l := stops(impl.NewPacket(impl.PkData, longPath(), 0, 0, nil))
	expectProcessed(t, "at another AS", w, 3, 0, l[0], dropped(w, 1))
	expectProcessed(t, "through another interface", w, 3, 2, l[1], dropped(w, 1))
	forged := copyOf(l[1])
	forged.Beta ^= 1
	expectProcessed(t, "with another MAC", w, 3, 3, forged, dropped(w, 1))
	late := with(w, func(w *impl.Network) { w.Now = 101 })
	expectProcessed(t, "that has expired", late, 3, 3, l[1], dropped(late, 1))
	down := stops(impl.NewPacket(impl.PkData, valley(), 0, 0, nil))
	expectProcessed(t, "through a valley", w, 3, 1, down[1], dropped(w, 1))
	large, negative := invalidPackets()
	for _, pk := range slices.Concat(large, negative, []impl.Packet{{}}) {
		for r := -1; r <= 8; r++ {
			expectProcessed(t, "that is invalid", w, r, 1, pk, dropped(w, 1))
		}
	}
	for _, r := range append(strange(), 8) {
		expectProcessed(t, "at no AS", w, r, 0, l[0], dropped(w, 1))
	}
	expectProcessed(t, "in the zero network", impl.Network{}, 4, 0, l[0], impl.Network{Dropped: 1})
	wrong := l[5]
	wrong.Dst = 5
	expectProcessed(t, "for another AS", w, 6, 1, wrong, dropped(w, 1))
}

// flowChanges change a flow with messages, paths and revocations in one place each.
func flowChanges(f impl.Flow) []func(x *impl.Flow) {
	l := []func(x *impl.Flow){
		func(x *impl.Flow) { x.Src++ }, func(x *impl.Flow) { x.Dst++ }, func(x *impl.Flow) { x.ReservationID++ }, func(x *impl.Flow) { x.Acknowledged++ }, func(x *impl.Flow) { x.Current++ }, func(x *impl.Flow) { x.Wait++ },
		func(x *impl.Flow) { x.Paths = nil }, func(x *impl.Flow) { x.Paths = x.Paths[1:] }, func(x *impl.Flow) { x.Paths = append(x.Paths, impl.Path{}) }, func(x *impl.Flow) { slices.Reverse(x.Paths) },
		func(x *impl.Flow) { x.Revocations = nil }, func(x *impl.Flow) { x.Revocations = x.Revocations[1:] }, func(x *impl.Flow) { x.Revocations = append(x.Revocations, impl.Revocation{}) }, func(x *impl.Flow) { slices.Reverse(x.Revocations) },
	}
	for i := range f.Revocations {
		l = append(l, func(x *impl.Flow) { x.Revocations[i].AS++ }, func(x *impl.Flow) { x.Revocations[i].Interface++ }, func(x *impl.Flow) { x.Revocations[i].Until++ })
	}
	for i, p := range f.Paths[:2] {
		for _, change := range pathChanges(p) {
			l = append(l, func(x *impl.Flow) { change(&x.Paths[i]) })
		}
	}
	for _, change := range messageChanges(f.Messages) {
		l = append(l, func(x *impl.Flow) { change(&x.Messages) })
	}
	return l
}

// segmentListChanges change a list of at least two different segments in one place each.
func segmentListChanges(l []impl.Segment) []func(m *[]impl.Segment) {
	changes := []func(m *[]impl.Segment){
		func(m *[]impl.Segment) { *m = nil }, func(m *[]impl.Segment) { *m = (*m)[1:] }, func(m *[]impl.Segment) { *m = append(*m, impl.Segment{}) }, func(m *[]impl.Segment) { slices.Reverse(*m) },
	}
	for i := range l[:2] {
		changes = append(changes, func(m *[]impl.Segment) { (*m)[i].Timestamp++ }, func(m *[]impl.Segment) { (*m)[i].Beta++ }, func(m *[]impl.Segment) { (*m)[i].Hops = nil })
		for _, change := range hopChanges() {
			changes = append(changes, func(m *[]impl.Segment) { change(&(*m)[i].Hops[0], 1) })
		}
	}
	return changes
}

// networkChanges change a network that is as full as busy in one place each.
func networkChanges(w impl.Network) []func(x *impl.Network) {
	l := []func(x *impl.Network){
		func(x *impl.Network) { x.Now++ }, func(x *impl.Network) { x.Dropped++ }, func(x *impl.Network) { x.FailedLinks = nil }, func(x *impl.Network) { x.FailedLinks[1]++ }, func(x *impl.Network) { x.FailedLinks = append(x.FailedLinks, 12) },
		func(x *impl.Network) { x.Topology.ASes[3].ISD++ }, func(x *impl.Network) { x.Topology.ASes[3].Core = true }, func(x *impl.Network) { x.Topology.ASes[3].Key++ }, func(x *impl.Network) { x.Topology.ASes = x.Topology.ASes[:7] },
		func(x *impl.Network) { x.Topology.Links[2].A++ }, func(x *impl.Network) { x.Topology.Links[2].AInterface++ }, func(x *impl.Network) { x.Topology.Links[2].B++ }, func(x *impl.Network) { x.Topology.Links[2].BInterface++ }, func(x *impl.Network) { x.Topology.Links[2].Kind++ }, func(x *impl.Network) { x.Topology.Links = nil },
		func(x *impl.Network) { x.InFlight = nil }, func(x *impl.Network) { x.InFlight = x.InFlight[1:] }, func(x *impl.Network) { x.InFlight = append(x.InFlight, impl.PacketInFlight{}) }, func(x *impl.Network) { slices.Reverse(x.InFlight) }, func(x *impl.Network) { x.InFlight[1].To++ }, func(x *impl.Network) { x.InFlight[1].Ingress++ },
		func(x *impl.Network) { x.Flows = x.Flows[:2] }, func(x *impl.Network) { slices.Reverse(x.Flows) }, func(x *impl.Network) { x.Inboxes = x.Inboxes[:2] }, func(x *impl.Network) { slices.Reverse(x.Inboxes) }, func(x *impl.Network) { x.Inboxes[2].AS++ },
	}
	for _, change := range schedulerChanges(w.Scheduler) {
		l = append(l, func(x *impl.Network) { change(&x.Scheduler) })
	}
	for _, change := range segmentListChanges(w.Database.Down) {
		l = append(l, func(x *impl.Network) { change(&x.Database.Down) })
	}
	for _, change := range segmentListChanges(w.Database.Core) {
		l = append(l, func(x *impl.Network) { change(&x.Database.Core) })
	}
	for _, change := range packetChanges(w.InFlight[0].Packet) {
		l = append(l, func(x *impl.Network) { change(&x.InFlight[0].Packet) })
	}
	for _, change := range flowChanges(w.Flows[0]) {
		l = append(l, func(x *impl.Network) { change(&x.Flows[0]) })
	}
	for _, change := range inboxChanges(w.Inboxes[0]) {
		l = append(l, func(x *impl.Network) { change(&x.Inboxes[0]) })
	}
	return l
}

func TestEqualNetworks(t *testing.T) {
	w := busy()
	w.Flows[0].Paths = w.Flows[0].Paths[:3]
	w.Flows[1].Paths, w.Flows[2].Paths = nil, nil
	expectBool(t, "EqualNetworks", impl.EqualNetworks(w, copyOf(w)), true)
	for i, change := range networkChanges(w) {
		x := copyOf(w)
		change(&x)
		if impl.EqualNetworks(w, x) || impl.EqualNetworks(x, w) {
			t.Errorf("change %d is not seen", i)
		}
	}
	empty := impl.Network{
		Topology: impl.Topology{ASes: []impl.AS{}, Links: []impl.Link{}}, Database: impl.SegmentDatabase{Down: []impl.Segment{}, Core: []impl.Segment{}}, Scheduler: impl.Scheduler{Usages: []impl.Usage{}},
		FailedLinks: []int{}, InFlight: []impl.PacketInFlight{}, Flows: []impl.Flow{}, Inboxes: []impl.Inbox{},
	}
	expectBool(t, "EqualNetworks of nil and empty", impl.EqualNetworks(empty, impl.Network{}) && impl.EqualNetworks(impl.Network{}, empty), true)
	hollow := []impl.Network{{Flows: []impl.Flow{{}}, InFlight: []impl.PacketInFlight{{}}}, {Flows: []impl.Flow{{Messages: []impl.Message{}, Paths: []impl.Path{}, Revocations: []impl.Revocation{}}}, InFlight: []impl.PacketInFlight{{Packet: impl.Packet{Payload: []byte{}}}}}}
	expectBool(t, "EqualNetworks of nil and empty within", impl.EqualNetworks(hollow[0], hollow[1]) && impl.EqualNetworks(hollow[1], hollow[0]), true)
}

// A packet that arrives is forwarded, delivered, or counted as dropped.
func TestManyPackets(t *testing.T) {
	r := rand.New(rand.NewSource(60))
	forwarded, droppedOnes, delivered, changed := 0, 0, 0, 0
	for range 60 {
		w := randomNetwork(r)
		for range 60 {
			arrival := impl.PacketInFlight{To: r.Intn(len(w.Topology.ASes)), Ingress: r.Intn(3)}
			if len(w.InFlight) > 0 && r.Intn(4) > 0 {
				arrival = w.InFlight[0]
				w.InFlight = w.InFlight[1:]
			} else if f := w.Flows[:min(1, len(w.Flows))]; len(f) > 0 {
				f = w.Flows[r.Intn(len(w.Flows)):]
				arrival = impl.PacketInFlight{To: f[0].Src}
				arrival.Packet, _ = impl.NextTransmission(f[0])
			}
			switch r.Intn(20) {
			case 0:
				arrival.To, arrival.Ingress = r.Intn(8), r.Intn(7)
			case 1:
				arrival.Packet.Kind = 1 + r.Intn(3)
			case 2:
				arrival.Packet.Seq = r.Intn(3)
			}
			if len(w.Topology.Links) > 0 && r.Intn(6) == 0 {
				w.FailedLinks = []int{r.Intn(len(w.Topology.Links))}
			} else if r.Intn(6) == 0 {
				w.FailedLinks = nil
				w.Scheduler = impl.BeginTick(w.Scheduler, w.Now)
			}
			want := modelProcess(w, arrival.To, arrival.Ingress, arrival.Packet)
			got := impl.ProcessPacket(w, arrival.To, arrival.Ingress, arrival.Packet)
			if !same(got, want) {
				t.Fatalf("ProcessPacket of %+v: %+v; want %+v", arrival, got, want)
			}
			code := impl.Forward(w.Topology, arrival.To, w.Now, modelFailed(w.Topology, w.FailedLinks, arrival.To), arrival.Ingress, arrival.Packet).Code
			switch {
			case code == impl.FwDeliver:
				delivered++
			case got.Dropped > w.Dropped:
				droppedOnes++
			default:
				forwarded++
				expectInt(t, "the code of a packet that is neither delivered nor dropped", code, impl.FwForward)
				expectInt(t, "the packets in flight", len(got.InFlight), len(w.InFlight)+1)
			}
			if !same(got.Flows, w.Flows) || !same(got.Inboxes, w.Inboxes) {
				changed++
			}
			w = got
		}
	}
	if forwarded < 300 || droppedOnes < 300 || delivered < 100 || changed < 100 {
		t.Errorf("too few packets: %d, %d, %d, %d", forwarded, droppedOnes, delivered, changed)
	}
}

func TestNetworksShareNoMemory(t *testing.T) {
	l := stops(impl.NewPacket(impl.PkData, longPath(), 0, 2, []byte("three")))
	back := stops(impl.NewPacket(impl.PkRevocation, impl.ReversePath(longPath()), 0, 1, encodeAll(0, 2, 60)))
	for _, w := range []impl.Network{quiet(), busy(), {}, crowded(busy(), 150), with(busy(), func(w *impl.Network) { w.FailedLinks = []int{2, 6, 9} })} {
		expectPure(t, "AddFlow", impl.AddFlow, w, impl.NewFlow(0, 4, 0))
		expectPure(t, "AddFlow", impl.AddFlow, w, flowWith(func(f *impl.Flow) { f.Acknowledged, f.Dst = 0, 5 }))
		expectPure(t, "ValidNetwork", impl.ValidNetwork, w)
		expectPure(t, "EqualNetworks", impl.EqualNetworks, w, busy())
		for i, s := range impl.PathSteps(longPath()) {
			expectPure(t, "ProcessPacket", impl.ProcessPacket, w, s.AS, s.Ingress, l[i])
		}
		expectPure(t, "ProcessPacket", impl.ProcessPacket, w, 4, 1, back[5])
		back[5].Kind = impl.PkAck
		expectPure(t, "ProcessPacket", impl.ProcessPacket, w, 4, 1, back[5])
	}
	for _, pk := range append(l, impl.Packet{}, longPacket()) {
		expectPure(t, "TruncatePath", impl.TruncatePath, pk)
		expectPure(t, "MakeRevocation", impl.MakeRevocation, world(), 3, 50, 1, pk)
	}
	expectPure(t, "NewNetwork", impl.NewNetwork, world(), worldDatabase(), 8, 50)
}
