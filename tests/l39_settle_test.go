package tests

import (
	"math"
	"math/rand"
	"slices"
	"testing"

	"loop.example/g00505/impl"
)

func TestConvergenceConstants(t *testing.T) {
	expectInts(t, "limits", []int{impl.MaxDeliveries, impl.MaxRounds}, 2000, 1000)
}

// modelDeliver delivers by the words of the document.
func modelDeliver(w impl.Network, n int) impl.Network {
	for range n {
		w, _ = modelApply(w, event(impl.EvDeliver, 0))
	}
	return w
}

// modelRounds runs rounds by the words of the document.
func modelRounds(w impl.Network, n int) impl.Network {
	for range n {
		w, _ = modelApply(w, event(impl.EvTick, 0))
		for len(w.InFlight) > 0 {
			w = modelDeliver(w, 1)
		}
	}
	return w
}

// modelSettling computes by the words of the document.
func modelSettling(w impl.Network) int {
	most := 0
	for _, f := range w.Flows {
		most = max(most, (len(f.Paths)+2)*21+2*len(f.Messages))
	}
	return 8 + most
}

// lasting returns the database of all segments that arise of beacons with the timestamp 10, which expire at 1010.
func lasting(p impl.Topology) impl.SegmentDatabase {
	policies := slices.Repeat([]impl.Policy{{MaxLength: 8, Lifetime: 1000}}, 8)
	return impl.BuildDatabase(p, policies, impl.RunBeaconing(p, policies, 10))
}

// lastingNetwork is the network of the world at the time 50 with the capacity 20, the paths of which last long.
func lastingNetwork() impl.Network {
	w := impl.NewNetwork(world(), lasting(world()), 20, 50)
	w = withFlow(w, 4, 6, 0, "one", "two", "three")
	w = withFlow(w, 4, 7, 0, "four")
	w = withFlow(w, 6, 4, 0, "five", "six")
	// The database plays no part in settling.
	w.Database = impl.SegmentDatabase{}
	return w
}

func TestConvergenceOfInvalidNetworks(t *testing.T) {
	for _, w := range invalidNetworks() {
		for _, n := range []int{-1, 0, 1, 5, 1000, 1001, 2001} {
			expectSame(t, "DeliverPackets in an invalid network", impl.DeliverPackets(w, n), w)
			expectSame(t, "RunRounds in an invalid network", impl.RunRounds(w, n), w)
		}
		expectSame(t, "RunRound in an invalid network", impl.RunRound(w), w)
		expectSame(t, "Settle in an invalid network", impl.Settle(w), w)
	}
}

func TestDeliverPackets(t *testing.T) {
	w, _ := impl.ApplyEvent(quiet(), event(impl.EvTick, 0))
	expectInt(t, "the packets in flight", len(w.InFlight), 3)
	for n := range 40 {
		want := modelDeliver(w, n)
		expectSame(t, "DeliverPackets of "+impl.FormatInt(n), impl.DeliverPackets(w, n), want)
		if n == 39 {
			expectInts(t, "the counters", impl.Counters(want), 51, 0, 0, 0, 1, 1, 1)
		}
	}
	all := modelDeliver(w, 39)
	for n, want := range map[int]impl.Network{-1: w, 0: w, 1999: all, 2000: all, 2001: w, math.MinInt: w, math.MaxInt: w} {
		expectSame(t, "DeliverPackets of "+impl.FormatInt(n), impl.DeliverPackets(w, n), want)
	}
	expectSame(t, "DeliverPackets of none", impl.DeliverPackets(quiet(), 5), quiet())
	// The first packet in flight comes first, also ahead of those that it causes.
	many := crowded(w, 150)
	for _, n := range []int{1, 10, 149, 150, 151} {
		expectSame(t, "DeliverPackets of many", impl.DeliverPackets(many, n), with(many, func(w *impl.Network) {
			w.InFlight, w.Dropped = w.InFlight[min(n, 150):], min(n, 150)
		}))
	}
	many.InFlight[0] = w.InFlight[0]
	got := impl.DeliverPackets(many, 1)
	expectInts(t, "the packet behind the others", []int{len(got.InFlight), got.InFlight[0].Packet.Seq, got.InFlight[149].Packet.Kind}, 150, 7, impl.PkData)
}

func TestRunRound(t *testing.T) {
	w := quiet()
	want := modelRounds(w, 1)
	expectInts(t, "the counters", impl.Counters(want), 51, 0, 0, 0, 1, 1, 1)
	expectSame(t, "RunRound", impl.RunRound(w), want)
	expectSame(t, "RunRound of a busy network", impl.RunRound(busy()), modelRounds(busy(), 1))
	// A tick comes ahead of the packets that are in flight already.
	first := with(w, func(w *impl.Network) { w.InFlight = busy().InFlight[:1] })
	expectSame(t, "RunRound with a packet in flight", impl.RunRound(first), modelRounds(first, 1))
	// At MaxTime there is no tick, but packets are delivered.
	late := with(crowded(w, 20), func(w *impl.Network) { w.Now = impl.MaxTime })
	expectSame(t, "RunRound at MaxTime", impl.RunRound(late), with(late, func(w *impl.Network) { w.InFlight, w.Dropped = nil, 20 }))
	late.Now--
	expectSame(t, "RunRound ahead of MaxTime", impl.RunRound(late), modelRounds(late, 1))
	expectInt(t, "the time", impl.RunRound(late).Now, impl.MaxTime)
	empty := impl.NewNetwork(world(), impl.SegmentDatabase{}, 8, 50)
	expectSame(t, "RunRound without flows", impl.RunRound(empty), with(empty, func(w *impl.Network) { w.Now = 51 }))
}

func TestRunRounds(t *testing.T) {
	for _, w := range []impl.Network{quiet(), busy()} {
		want := w
		for n := range 12 {
			expectSame(t, "RunRounds of "+impl.FormatInt(n), impl.RunRounds(w, n), want)
			want = modelRounds(want, 1)
		}
		for _, n := range append(strange(), -1, 1001) {
			if n < 0 || n > 1000 {
				expectSame(t, "RunRounds of "+impl.FormatInt(n), impl.RunRounds(w, n), w)
			}
		}
	}
	empty := impl.NewNetwork(world(), impl.SegmentDatabase{}, 8, 50)
	for _, n := range []int{0, 1, 999, 1000} {
		expectSame(t, "RunRounds of "+impl.FormatInt(n), impl.RunRounds(empty, n), with(empty, func(w *impl.Network) { w.Now = 50 + n }))
	}
	late := with(empty, func(w *impl.Network) { w.Now = impl.MaxTime - 3 })
	expectSame(t, "RunRounds up to MaxTime", impl.RunRounds(late, 10), with(late, func(w *impl.Network) { w.Now = impl.MaxTime }))
}

// The validity of the network is asked once, ahead of the first round: a forged acknowledgement in flight does not stop the rounds.
func TestRunRoundsAskForValidityOnce(t *testing.T) {
	w := quiet()
	forged := stops(impl.NewPacket(impl.PkAck, impl.ReversePath(longPath()), 0, 0, nil))[5]
	w.InFlight = []impl.PacketInFlight{{To: 4, Ingress: 1, Packet: forged}}
	w.Flows[0].Paths = nil
	expectBool(t, "ValidNetwork", impl.ValidNetwork(w), true)
	want := modelRounds(w, 5)
	expectBool(t, "ValidNetwork after the rounds", impl.ValidNetwork(want), false)
	expectInts(t, "the counters", impl.Counters(want), 55, 0, 0, 0, 1, 1, 2)
	expectSame(t, "RunRounds", impl.RunRounds(w, 5), want)
}

func TestSettlingRounds(t *testing.T) {
	of := func(sizes ...int) impl.Network {
		w := impl.Network{}
		for i := 0; i < len(sizes); i += 2 {
			w.Flows = append(w.Flows, impl.Flow{Paths: make([]impl.Path, sizes[i]), Messages: make([]impl.Message, sizes[i+1])})
		}
		return w
	}
	expectInts(t, "SettlingRounds", []int{impl.SettlingRounds(of()), impl.SettlingRounds(of(0, 0)), impl.SettlingRounds(of(1, 0)), impl.SettlingRounds(of(0, 1)), impl.SettlingRounds(of(1, 1)), impl.SettlingRounds(of(24, 20))}, 8, 50, 71, 52, 73, 594)
	expectInts(t, "SettlingRounds of several flows", []int{impl.SettlingRounds(of(1, 1, 2, 5)), impl.SettlingRounds(of(2, 5, 1, 1)), impl.SettlingRounds(of(0, 12, 1, 1)), impl.SettlingRounds(of(1, 1, 0, 12)), impl.SettlingRounds(of(0, 0, 3, 4, 1, 9, 0, 20))}, 102, 102, 74, 74, 121)
	for _, w := range append(invalidNetworks(), quiet(), busy()) {
		expectInt(t, "SettlingRounds", impl.SettlingRounds(w), modelSettling(w))
	}
}

// until returns the long path, the hops of which expire at this time.
func until(expiry int) impl.Path {
	return timed([3]int{10, 10, 10}, [8]int{expiry, expiry, expiry, expiry, expiry, expiry, expiry, expiry})
}

func TestWorkingPath(t *testing.T) {
	w := impl.NewNetwork(world(), impl.SegmentDatabase{}, 8, 50)
	expect := func(what string, w impl.Network, want int, paths ...impl.Path) {
		t.Helper()
		expectInt(t, "WorkingPath "+what, impl.WorkingPath(w, impl.Flow{Src: 4, Dst: 6, Paths: paths}), want)
	}
	expect("without paths", w, -1)
	expect("that lasts", w, 0, until(58))
	expect("that does not last", w, -1, until(57))
	expect("that has expired", w, -1, until(49))
	expect("behind others", w, 2, until(57), impl.Path{}, until(100), until(200))
	expect("over other links", w, 1, until(57), worldPaths()[4], until(100))
	// How long it must last depends on the flows of the network.
	w.Flows = []impl.Flow{{}, {Paths: make([]impl.Path, 1), Messages: make([]impl.Message, 1)}}
	expect("that lasts", w, 0, until(123))
	expect("that does not last", w, -1, until(122))
	w.Now = 10
	expect("that has begun", w, 0, until(200))
	w.Now = 9
	expect("that has not begun", w, -1, until(200))
	w.Now = 50
	links := []int{6, 4, 2, 8, 9}
	for i := range w.Topology.Links {
		w.FailedLinks = []int{i}
		want := 0
		if slices.Contains(links, i) {
			want = -1
		}
		expect("with a failed link", w, want, until(200))
	}
	w.FailedLinks = []int{2}
	around := impl.PathPart{}
	around = partAlong(w.Topology, "core 0:0>1 1:1>2 2:1>0")
	detour := longPath()
	detour.Parts[1] = around
	w.Flows = nil
	expect("with a detour", w, 1, longPath(), detour)
	// Its ends play no part, nor which path is in use.
	expectInt(t, "WorkingPath of another flow", impl.WorkingPath(w, impl.Flow{Src: -3, Dst: 99, Current: 7, Paths: []impl.Path{longPath(), detour}}), 1)
	w.Now = impl.MaxTime
	expect("at MaxTime", w, -1, until(impl.MaxTime))
	w.Now = impl.MaxTime - 8
	w.FailedLinks = nil
	expect("ahead of MaxTime", w, 0, until(impl.MaxTime))
	w.Now = math.MaxInt
	expect("beyond all times", w, -1, until(impl.MaxTime))
}

// In a topology that is not valid, a path may work in one direction only.
func TestWorkingPathInOneDirectionOnly(t *testing.T) {
	w := impl.NewNetwork(world(), impl.SegmentDatabase{}, 8, 50)
	down := pathAlong(world(), "down 0:0>3 3:1>3 4:1>0")
	up := impl.ReversePath(down)
	f := impl.Flow{Paths: []impl.Path{down, up}}
	expectInt(t, "WorkingPath", impl.WorkingPath(w, f), 0)
	w.Topology.Links = append([]impl.Link{{A: 1, AInterface: 5, B: 3, BInterface: 1, Kind: impl.LkChild}}, w.Topology.Links...)
	expectBool(t, "Reaches", impl.Reaches(w.Topology, 50, nil, down), true)
	expectBool(t, "Reaches", impl.Reaches(w.Topology, 50, nil, up), false)
	expectInt(t, "WorkingPath", impl.WorkingPath(w, f), -1)
	f.Paths = append(f.Paths, pathAlong(world(), "down 0:0>4 4:4>0"))
	expectInt(t, "WorkingPath", impl.WorkingPath(w, f), 2)
}

func TestAllDelivered(t *testing.T) {
	w := lastingNetwork()
	expectBool(t, "AllDelivered", impl.AllDelivered(w), false)
	expectBool(t, "AllDelivered without flows", impl.AllDelivered(impl.Network{}), true)
	for i := range 8 {
		// What is not done of the flows.
		x := with(w, func(w *impl.Network) {
			for n := range w.Flows {
				if i>>n&1 == 0 {
					w.Flows[n].Acknowledged = len(w.Flows[n].Messages)
				} else {
					w.Flows[n].Acknowledged = len(w.Flows[n].Messages) - 1
				}
			}
		})
		expectBool(t, "AllDelivered", impl.AllDelivered(x), i == 0)
		// Without a working path, nothing is expected.
		for _, change := range []func(w *impl.Network){
			func(w *impl.Network) { w.FailedLinks = []int{6, 7, 12} }, func(w *impl.Network) { w.Now = 1000 }, func(w *impl.Network) { w.Now = 9 },
			func(w *impl.Network) { w.Flows[0].Paths, w.Flows[1].Paths, w.Flows[2].Paths = nil, nil, nil },
		} {
			expectBool(t, "AllDelivered without a working path", impl.AllDelivered(with(x, change)), true)
		}
		single := with(x, func(w *impl.Network) { w.Flows[0].Paths, w.Flows[2].Paths = nil, nil })
		expectBool(t, "AllDelivered with one working path", impl.AllDelivered(single), i>>1&1 == 0)
	}
	// Whether a message is received plays no part, nor whether the network is valid.
	x := with(w, func(w *impl.Network) { w.Flows, w.Inboxes = w.Flows[:1], nil })
	expectBool(t, "AllDelivered without inboxes", impl.AllDelivered(x), false)
	x.Flows[0].Acknowledged = 3
	expectBool(t, "AllDelivered without inboxes", impl.AllDelivered(x), true)
}

func TestIsIdle(t *testing.T) {
	done := with(quiet(), func(w *impl.Network) {
		for n := range w.Flows {
			w.Flows[n].Acknowledged = len(w.Flows[n].Messages)
		}
	})
	expectBool(t, "IsIdle", impl.IsIdle(done), true)
	expectBool(t, "IsIdle of the zero network", impl.IsIdle(impl.Network{}), true)
	expectBool(t, "IsIdle with a packet in flight", impl.IsIdle(crowded(done, 1)), false)
	for n := range 3 {
		one := with(done, func(w *impl.Network) { w.Flows[n].Acknowledged-- })
		expectBool(t, "IsIdle with a message", impl.IsIdle(one), false)
		expectBool(t, "IsIdle with a message that waits", impl.IsIdle(with(one, func(w *impl.Network) { w.Flows[n].Wait = 3 })), false)
		expectBool(t, "IsIdle with a message without a path", impl.IsIdle(with(one, func(w *impl.Network) { w.Flows[n].Paths = nil })), true)
		// Whether the path works plays no part.
		expectBool(t, "IsIdle with a message over no path", impl.IsIdle(with(one, func(w *impl.Network) { w.Flows[n].Paths = []impl.Path{{}} })), false)
	}
}

func expectSettled(t *testing.T, what string, w impl.Network, counters ...int) impl.Network {
	t.Helper()
	got := impl.Settle(w)
	expectSame(t, "Settle "+what, got, modelRounds(w, modelSettling(w)))
	expectInts(t, "the counters "+what, impl.Counters(got), counters...)
	expectInt(t, "the packets in flight "+what, len(got.InFlight), 0)
	return got
}

func TestSettle(t *testing.T) {
	w := lastingNetwork()
	rounds := modelSettling(w)
	got := expectSettled(t, "where all links work", w, 50+rounds, 0, 0, 0, 3, 1, 2)
	expectBool(t, "IsIdle", impl.IsIdle(got), true)
	expectBool(t, "AllDelivered", impl.AllDelivered(got), true)
	for i, texts := range [][]string{{"one", "two", "three"}, {"four"}, {"five", "six"}} {
		expectSame(t, "the messages", got.Inboxes[i].Received, mail(texts...))
	}
	// The first path of each flow leads over a link that has failed; there is a detour.
	for _, failed := range [][]int{{0}, {1}, {2}, {6}, {7}, {12}, {2, 12}, {4, 12}} {
		x := with(w, func(w *impl.Network) { w.FailedLinks = failed })
		got := impl.Settle(x)
		expectSame(t, "Settle with a detour", got, modelRounds(x, rounds))
		expectInts(t, "what is acknowledged", impl.Counters(got)[4:], 3, 1, 2)
		expectBool(t, "IsIdle", impl.IsIdle(got), true)
	}
	// Without a detour the flow waits, and continues after the repair.
	x := with(w, func(w *impl.Network) { w.FailedLinks = []int{9} })
	got = impl.Settle(x)
	expectInts(t, "what is acknowledged", impl.Counters(got)[3:], 1, 0, 1, 0)
	expectBool(t, "AllDelivered", impl.AllDelivered(got), true)
	expectBool(t, "IsIdle", impl.IsIdle(got), false)
	got, _ = impl.ApplyEvent(got, event(impl.EvRepair, 9))
	got = impl.RunRounds(got, 60)
	expectInts(t, "what is acknowledged after the repair", impl.Counters(got)[3:], 0, 3, 1, 2)
	expectBool(t, "IsIdle", impl.IsIdle(got), true)
	empty := impl.NewNetwork(world(), impl.SegmentDatabase{}, 8, 50)
	expectSettled(t, "without flows", empty, 58, 0, 0, 0)
}

// Where all of the capacity is reserved, only the flows with a reservation send.
func TestSettleAtTheFullCapacity(t *testing.T) {
	w := lastingNetwork()
	for i := range w.Flows {
		w.Flows[i].ReservationID = 1 + i
		w.Flows[i].Paths = w.Flows[i].Paths[:1]
	}
	w.Scheduler = impl.NewScheduler(1)
	f := w.Flows[0]
	l, ok := impl.ReservePath(nil, 1, f.Paths[0], 1, 900, 1, 50)
	l, is := impl.ReservePath(l, 1, impl.ReversePath(f.Paths[0]), 1, 900, 1, 50)
	expectBool(t, "ReservePath", ok && is, true)
	w.Scheduler.Reservations = l
	expectBool(t, "ValidNetwork", impl.ValidNetwork(w), true)
	got := impl.Settle(w)
	expectSame(t, "Settle", got, modelRounds(w, modelSettling(w)))
	expectInts(t, "what is acknowledged", impl.Counters(got)[4:], 3, 0, 0)
}

// Without further faults, every flow that has a working path has all its messages acknowledged.
func TestManyNetworksSettle(t *testing.T) {
	r := rand.New(rand.NewSource(62))
	working, detours, waiting := 0, 0, 0
	for range 60 {
		w := randomNetwork(r)
		w.Database = lasting(w.Topology)
		w.Scheduler = impl.NewScheduler(20)
		for i := range w.Flows {
			w, _ = impl.ApplyEvent(w, event(impl.EvRefresh, i))
		}
		for range 80 {
			if e := randomEvent(r, w); modelHarmless(w, e) {
				w, _ = impl.ApplyEvent(w, e)
			}
		}
		expectBool(t, "ValidNetwork", impl.ValidNetwork(w), true)
		w.Database = impl.SegmentDatabase{}
		got := impl.Settle(w)
		expectSame(t, "Settle", got, modelRounds(w, modelSettling(w)))
		expectInt(t, "the packets in flight", len(got.InFlight), 0)
		expectBool(t, "ValidNetwork", impl.ValidNetwork(got), true)
		for i, f := range w.Flows {
			n := impl.WorkingPath(w, f)
			if n < 0 {
				waiting++
				continue
			}
			working++
			if n > 0 {
				detours++
			}
			if done := got.Flows[i].Acknowledged; done != len(f.Messages) {
				t.Errorf("%d of %d messages are acknowledged", done, len(f.Messages))
			}
			expectSame(t, "the messages", got.Inboxes[i].Received, f.Messages)
		}
		expectBool(t, "AllDelivered", impl.AllDelivered(with(got, func(x *impl.Network) { x.Now = w.Now })), true)
	}
	if working < 40 || detours < 5 || waiting < 10 {
		t.Errorf("too few flows: %d, %d, %d", working, detours, waiting)
	}
}

func TestConvergenceSharesNoMemory(t *testing.T) {
	for _, w := range []impl.Network{quiet(), busy(), {}, crowded(busy(), 150)} {
		for _, n := range []int{-1, 0, 1, 3, 30} {
			expectPure(t, "DeliverPackets", impl.DeliverPackets, w, n)
			expectPure(t, "RunRounds", impl.RunRounds, w, n)
		}
		expectPure(t, "RunRound", impl.RunRound, w)
		expectPure(t, "Settle", impl.Settle, w)
		expectPure(t, "SettlingRounds", impl.SettlingRounds, w)
		expectPure(t, "AllDelivered", impl.AllDelivered, w)
		expectPure(t, "IsIdle", impl.IsIdle, w)
		expectPure(t, "WorkingPath", impl.WorkingPath, w, flow())
	}
}
