package tests

import (
	"math"
	"math/rand"
	"slices"
	"testing"

	"loop.example/g00505/impl"
)

// gate returns a scheduler of the capacity 8, with two reservations at interface 1 of AS 0 and one at interface 2, and these usages.
func gate(usages ...impl.Usage) impl.Scheduler {
	return impl.Scheduler{Capacity: 8, Reservations: []impl.Reservation{lease(1, 3), leaseAt(2, 0, 1, 2, 70), leaseAt(1, 0, 2, 5, 60)}, Usages: usages}
}

// used returns a usage of interface 1 of AS 0.
func used(id int, count int) impl.Usage {
	return impl.Usage{ID: id, AS: 0, Interface: 1, Count: count}
}

func TestNewScheduler(t *testing.T) {
	for capacity, want := range map[int]int{math.MinInt: 1, -1: 1, 0: 1, 1: 1, 2: 2, 19: 19, 20: 20, 21: 1, math.MaxInt: 1} {
		expectSame(t, "NewScheduler of "+impl.FormatInt(capacity), impl.NewScheduler(capacity), impl.Scheduler{Capacity: want})
		expectBool(t, "ValidScheduler", impl.ValidScheduler(impl.NewScheduler(capacity), 50), true)
	}
}

func TestValidScheduler(t *testing.T) {
	expect := func(what string, g impl.Scheduler, now int, want bool) {
		t.Helper()
		expectBool(t, "ValidScheduler "+what, impl.ValidScheduler(g, now), want)
	}
	expect("without usages", gate(), 50, true)
	expect("with all usages", gate(used(0, 3), used(1, 3), used(2, 2), impl.Usage{ID: 1, Interface: 2, Count: 5}, impl.Usage{Interface: 2, Count: 3}, impl.Usage{AS: 7, Interface: 6, Count: 8}), 50, true)
	for capacity, want := range map[int]bool{0: false, 1: true, 20: true, 21: false, -1: false, math.MaxInt: false} {
		expect("with another capacity", impl.Scheduler{Capacity: capacity}, 50, want)
	}
	g := gate()
	g.Capacity = 4
	expect("with reservations beyond the capacity", g, 50, false)
	g.Capacity = 5
	expect("with reservations at the capacity", g, 50, true)
	for i := range 4 {
		for _, x := range invalidReservations() {
			g = gate()
			g.Reservations = slices.Insert(g.Reservations, i, x)
			expect("with an invalid reservation", g, 50, false)
		}
	}
	g = gate()
	g.Reservations = append(g.Reservations, lease(1, 1))
	expect("with a reservation twice", g, 50, false)
	for id, rate := range []int{3, 3, 2} {
		for count, want := range map[int]bool{math.MinInt: false, -1: false, 0: false, 1: true, rate: true, rate + 1: false, math.MaxInt: false} {
			expect("with a count", gate(used(id, count)), 50, want)
			expect("with a count behind others", gate(impl.Usage{ID: 1, Interface: 2, Count: 1}, used(id, count)), 50, want)
			expect("with a count ahead of others", gate(used(id, count), impl.Usage{ID: 1, Interface: 2, Count: 1}), 50, want)
		}
		expect("with a usage twice", gate(used(id, 1), used(id, 1)), 50, false)
		expect("with a usage twice", gate(used(id, 1), impl.Usage{AS: 7, Interface: 6, Count: 8}, used(id, 2)), 50, false)
	}
	for _, u := range []impl.Usage{used(3, 1), used(-1, 1), {ID: 2, Interface: 2, Count: 1}, {ID: 1, AS: 1, Interface: 1, Count: 1}, {ID: 1, Interface: 3, Count: 1}} {
		expect("with a usage of an unknown reservation", gate(u), 50, false)
	}
	// Where nothing is reserved, all is free, whether or not there is such an interface.
	expect("with a usage of an unknown interface", gate(impl.Usage{AS: -5, Interface: 99, Count: 8}), 50, true)
	expect("with a usage of an unknown interface", gate(impl.Usage{AS: -5, Interface: 99, Count: 9}), 50, false)
}

func TestValidSchedulerWithExpiredReservations(t *testing.T) {
	g := gate(used(0, 3), used(1, 1), used(2, 1))
	for now, want := range map[int]bool{0: true, 59: true, 60: true, 61: false, 70: false, 71: false} {
		expectBool(t, "ValidScheduler at "+impl.FormatInt(now), impl.ValidScheduler(g, now), want)
	}
	// What was reserved is free then.
	for now, free := range map[int]int{60: 3, 61: 6, 70: 6, 71: 8} {
		expectBool(t, "ValidScheduler", impl.ValidScheduler(gate(used(0, free)), now), true)
		expectBool(t, "ValidScheduler", impl.ValidScheduler(gate(used(0, free+1)), now), false)
	}
}

func TestUsedCount(t *testing.T) {
	g := gate(used(0, 3), used(1, 5), used(0, 9), impl.Usage{ID: 1, Interface: 2, Count: 7}, impl.Usage{ID: -4, AS: -1, Interface: 99, Count: -6}, used(1, 5))
	expectInts(t, "UsedCount", []int{impl.UsedCount(g, 0, 0, 1), impl.UsedCount(g, 1, 0, 1), impl.UsedCount(g, 1, 0, 2), impl.UsedCount(g, -4, -1, 99)}, 3, 5, 7, -6)
	expectInts(t, "UsedCount of none", []int{impl.UsedCount(g, 2, 0, 1), impl.UsedCount(g, 0, 0, 2), impl.UsedCount(g, 0, 1, 1), impl.UsedCount(g, -4, -1, 98), impl.UsedCount(impl.Scheduler{}, 0, 0, 0)}, 0, 0, 0, 0, 0)
}

func TestSentCount(t *testing.T) {
	g := gate(used(0, 3), used(1, 5), used(0, 9), impl.Usage{ID: 1, Interface: 2, Count: 7}, impl.Usage{ID: -4, AS: -1, Interface: 99, Count: -6}, used(-7, -2), impl.Usage{ID: 1, AS: 1, Interface: 1, Count: 4})
	expectInts(t, "SentCount", []int{impl.SentCount(g, 0, 1), impl.SentCount(g, 0, 2), impl.SentCount(g, -1, 99), impl.SentCount(g, 1, 1), impl.SentCount(g, 1, 2), impl.SentCount(impl.Scheduler{}, 0, 0)}, 15, 7, -6, 4, 0, 0)
	wild := gate(used(0, math.MaxInt), used(1, 2))
	expectInt(t, "SentCount beyond all numbers", impl.SentCount(wild, 0, 1), math.MinInt+1)
}

func expectTransmitted(t *testing.T, what string, g impl.Scheduler, id int, r int, iface int, now int, want ...impl.Usage) {
	t.Helper()
	h := copyOf(g)
	h.Usages = want
	if got, ok := impl.Transmit(g, id, r, iface, now); !ok || !same(got, h) {
		t.Errorf("Transmit %s = %+v, %v; want %+v, true", what, got, ok, h)
	}
}

func expectNotTransmitted(t *testing.T, what string, g impl.Scheduler, id int, r int, iface int, now int) {
	t.Helper()
	if got, ok := impl.Transmit(g, id, r, iface, now); ok || !same(got, g) {
		t.Errorf("Transmit %s = %+v, %v; want %+v, false", what, got, ok, g)
	}
}

func TestTransmitWithoutAReservation(t *testing.T) {
	expectTransmitted(t, "the first packet", gate(), 0, 0, 1, 50, used(0, 1))
	expectTransmitted(t, "the second packet", gate(used(0, 1)), 0, 0, 1, 50, used(0, 2))
	expectTransmitted(t, "the last packet", gate(used(0, 2)), 0, 0, 1, 50, used(0, 3))
	expectNotTransmitted(t, "one packet more", gate(used(0, 3)), 0, 0, 1, 50)
	expectNotTransmitted(t, "many packets more", gate(used(0, 30)), 0, 0, 1, 50)
	expectTransmitted(t, "at another interface", gate(used(0, 3)), 0, 0, 2, 50, used(0, 3), impl.Usage{Interface: 2, Count: 1})
	expectTransmitted(t, "at another AS", gate(used(0, 3)), 0, 1, 1, 50, used(0, 3), impl.Usage{AS: 1, Interface: 1, Count: 1})
	expectTransmitted(t, "at no interface", gate(), 0, -9, math.MaxInt, 50, impl.Usage{AS: -9, Interface: math.MaxInt, Count: 1})
	// What is reserved is free when it has expired.
	expectTransmitted(t, "when a reservation has expired", gate(used(0, 3)), 0, 0, 1, 61, used(0, 4))
	expectNotTransmitted(t, "when a reservation has expired", gate(used(0, 6)), 0, 0, 1, 61)
	expectTransmitted(t, "when all reservations have expired", gate(used(0, 7)), 0, 0, 1, 71, used(0, 8))
	expectNotTransmitted(t, "when all reservations have expired", gate(used(0, 8)), 0, 0, 1, 71)
	// The packets of reservations do not count.
	expectTransmitted(t, "behind reserved packets", gate(used(1, 3), used(2, 2)), 0, 0, 1, 50, used(1, 3), used(2, 2), used(0, 1))
	full := gate()
	full.Reservations[0].Rate = 6
	expectNotTransmitted(t, "where all is reserved", full, 0, 0, 1, 50)
	expectNotTransmitted(t, "without capacity", impl.Scheduler{}, 0, 0, 1, 50)
	expectNotTransmitted(t, "without capacity", impl.Scheduler{Capacity: -1}, 0, 0, 1, 50)
}

func TestTransmitWithAReservation(t *testing.T) {
	expectTransmitted(t, "the first packet", gate(), 1, 0, 1, 50, used(1, 1))
	expectTransmitted(t, "the second packet", gate(used(0, 1), used(1, 1)), 1, 0, 1, 50, used(0, 1), used(1, 2))
	expectTransmitted(t, "the last packet", gate(used(1, 2)), 1, 0, 1, 60, used(1, 3))
	// Beyond its rate, it uses what is free.
	expectTransmitted(t, "one packet more", gate(used(1, 3)), 1, 0, 1, 50, used(1, 3), used(0, 1))
	expectTransmitted(t, "many packets more", gate(used(1, 3), used(0, 2)), 1, 0, 1, 50, used(1, 3), used(0, 3))
	expectNotTransmitted(t, "too many packets", gate(used(1, 3), used(0, 3)), 1, 0, 1, 50)
	expectTransmitted(t, "of another reservation", gate(used(1, 3), used(0, 3)), 2, 0, 1, 50, used(1, 3), used(0, 3), used(2, 1))
	// One that has expired, or does not exist there, uses what is free.
	expectTransmitted(t, "of an expired reservation", gate(), 1, 0, 1, 61, used(0, 1))
	expectTransmitted(t, "of an expired reservation with packets", gate(used(1, 1)), 1, 0, 1, 61, used(1, 1), used(0, 1))
	expectNotTransmitted(t, "of an expired reservation where nothing is free", gate(used(0, 6)), 1, 0, 1, 61)
	for _, id := range []int{3, -1, math.MaxInt, math.MinInt} {
		expectTransmitted(t, "of no reservation", gate(), id, 0, 1, 50, used(0, 1))
		expectNotTransmitted(t, "of no reservation", gate(used(0, 3)), id, 0, 1, 50)
	}
	expectTransmitted(t, "of a reservation of another interface", gate(), 2, 0, 2, 50, impl.Usage{Interface: 2, Count: 1})
	expectTransmitted(t, "of the same reservation at another interface", gate(used(1, 3)), 1, 0, 2, 50, used(1, 3), impl.Usage{ID: 1, Interface: 2, Count: 1})
	full := gate()
	full.Reservations[0].Rate = 6
	expectTransmitted(t, "where all is reserved", full, 1, 0, 1, 50, used(1, 1))
	expectNotTransmitted(t, "where all is reserved", full, 3, 0, 1, 50)
}

// Of two usages or reservations of the same ID at an interface, the first one counts.
func TestTransmitInInvalidSchedulers(t *testing.T) {
	expectTransmitted(t, "with a usage twice", gate(used(0, 1), used(0, 9)), 0, 0, 1, 50, used(0, 2), used(0, 9))
	expectNotTransmitted(t, "with a usage twice", gate(used(0, 9), used(0, 1)), 0, 0, 1, 50)
	expectTransmitted(t, "with a usage twice", gate(used(1, 2), used(1, 9)), 1, 0, 1, 50, used(1, 3), used(1, 9))
	expectTransmitted(t, "with a negative count", gate(used(4, -5)), 4, 0, 1, 50, used(4, -4))
	expectTransmitted(t, "with a negative count", gate(used(0, -5)), 0, 0, 1, 50, used(0, -4))
	odd := impl.Scheduler{Capacity: 50, Reservations: []impl.Reservation{lease(0, 5), lease(-2, 6), lease(1, 2), lease(1, 9)}}
	expectTransmitted(t, "with a reservation of ID -2", odd, -2, 0, 1, 50, used(-2, 1))
	odd.Usages = []impl.Usage{used(1, 2), used(0, 27)}
	expectTransmitted(t, "with a reservation twice", odd, 1, 0, 1, 50, used(1, 2), used(0, 28))
	// A reservation of ID 0 reserves, but is not asked for.
	odd.Usages = []impl.Usage{used(0, 28)}
	expectNotTransmitted(t, "with a reservation of ID 0", odd, 0, 0, 1, 50)
}

func TestBeginTick(t *testing.T) {
	g := gate(used(0, 3), used(1, 3))
	expectSame(t, "BeginTick at 60", impl.BeginTick(g, 60), gate())
	expectSame(t, "BeginTick at 61", impl.BeginTick(g, 61), impl.Scheduler{Capacity: 8, Reservations: []impl.Reservation{leaseAt(2, 0, 1, 2, 70)}})
	expectSame(t, "BeginTick at 70", impl.BeginTick(g, 70), impl.Scheduler{Capacity: 8, Reservations: []impl.Reservation{leaseAt(2, 0, 1, 2, 70)}})
	expectSame(t, "BeginTick at 71", impl.BeginTick(g, 71), impl.Scheduler{Capacity: 8})
	expectSame(t, "BeginTick of another capacity", impl.BeginTick(impl.Scheduler{Capacity: -7, Reservations: []impl.Reservation{{}}, Usages: []impl.Usage{{}}}, 0), impl.Scheduler{Capacity: -7, Reservations: []impl.Reservation{{}}})
	for now := 58; now < 73; now++ {
		expectBool(t, "ValidScheduler", impl.ValidScheduler(impl.BeginTick(g, now), now), true)
	}
}

func TestEqualSchedulers(t *testing.T) {
	g := gate(used(0, 3), used(1, 2))
	expectBool(t, "EqualSchedulers", impl.EqualSchedulers(g, copyOf(g)), true)
	empty := impl.Scheduler{Reservations: []impl.Reservation{}, Usages: []impl.Usage{}}
	expectBool(t, "EqualSchedulers of nil and empty", impl.EqualSchedulers(empty, impl.Scheduler{}) && impl.EqualSchedulers(impl.Scheduler{}, empty), true)
	for i, change := range schedulerChanges(g) {
		h := copyOf(g)
		change(&h)
		if impl.EqualSchedulers(g, h) || impl.EqualSchedulers(h, g) {
			t.Errorf("change %d is not seen", i)
		}
	}
}

// schedulerChanges change a scheduler with reservations and usages in one place each.
func schedulerChanges(g impl.Scheduler) []func(x *impl.Scheduler) {
	l := []func(x *impl.Scheduler){
		func(x *impl.Scheduler) { x.Capacity++ },
		func(x *impl.Scheduler) { x.Reservations = nil }, func(x *impl.Scheduler) { x.Reservations = x.Reservations[1:] }, func(x *impl.Scheduler) { x.Reservations = append(x.Reservations, lease(9, 1)) }, func(x *impl.Scheduler) { slices.Reverse(x.Reservations) },
		func(x *impl.Scheduler) { x.Usages = nil }, func(x *impl.Scheduler) { x.Usages = x.Usages[1:] }, func(x *impl.Scheduler) { x.Usages = append(x.Usages, used(9, 1)) }, func(x *impl.Scheduler) { slices.Reverse(x.Usages) },
	}
	for i := range g.Reservations {
		for _, change := range reservationChanges() {
			l = append(l, func(x *impl.Scheduler) { change(&x.Reservations[i]) })
		}
	}
	for i := range g.Usages {
		l = append(l, func(x *impl.Scheduler) { x.Usages[i].ID += 9 }, func(x *impl.Scheduler) { x.Usages[i].AS++ }, func(x *impl.Scheduler) { x.Usages[i].Interface++ }, func(x *impl.Scheduler) { x.Usages[i].Count++ })
	}
	return l
}

// modelTransmit decides by the words of the document, and returns the ID of the usage that is incremented.
func modelTransmit(g impl.Scheduler, id int, r int, iface int, now int) (int, bool) {
	counts := map[[3]int]int{}
	for _, u := range g.Usages {
		counts[[3]int{u.ID, u.AS, u.Interface}] += u.Count
	}
	rate, free := 0, g.Capacity
	for _, x := range g.Reservations {
		if x.AS == r && x.Interface == iface && x.Until >= now {
			free -= x.Rate
			if x.ID == id {
				rate = x.Rate
			}
		}
	}
	if id != 0 && counts[[3]int{id, r, iface}] < rate {
		return id, true
	}
	return 0, counts[[3]int{0, r, iface}] < free
}

// No more packets leave through an interface per tick than its capacity, and every reservation gets its rate.
func TestManyTransmissions(t *testing.T) {
	r := rand.New(rand.NewSource(57))
	sent, rejected := 0, 0
	for range 150 {
		g, now := impl.NewScheduler(1+r.Intn(20)), 0
		for range 150 {
			id, as, iface := r.Intn(5), r.Intn(3), 1+r.Intn(2)
			switch r.Intn(14) {
			case 0:
				now++
				g = impl.BeginTick(g, now)
			case 1:
				// Only when a tick begins, because a renewal may be for a lesser rate.
				if len(g.Usages) == 0 {
					g.Reservations, _ = impl.Admit(g.Reservations, randomReservation(r), g.Capacity, now)
				}
			default:
				by, want := modelTransmit(g, id, as, iface, now)
				before, others := impl.UsedCount(g, by, as, iface), impl.SentCount(g, as, iface)
				h, ok := impl.Transmit(g, id, as, iface, now)
				if ok != want || !ok && !same(h, g) {
					t.Fatalf("Transmit(%+v, %d, %d, %d, %d) = %+v, %v", g, id, as, iface, now, h, ok)
				}
				if ok {
					sent++
					expectInt(t, "UsedCount", impl.UsedCount(h, by, as, iface), before+1)
					expectInt(t, "SentCount", impl.SentCount(h, as, iface), others+1)
				} else {
					rejected++
				}
				if id > 0 && before < impl.ReservationRate(g.Reservations, id, as, iface, now) {
					expectBool(t, "a packet within its reservation", ok, true)
				}
				g = h
			}
			expectBool(t, "ValidScheduler", impl.ValidScheduler(g, now), true)
			expectBool(t, "more than the capacity", impl.SentCount(g, as, iface) > g.Capacity, false)
		}
	}
	if sent < 1000 || rejected < 1000 {
		t.Errorf("too few packets: %d, %d", sent, rejected)
	}
}

func TestSchedulingSharesNoMemory(t *testing.T) {
	for _, g := range []impl.Scheduler{{}, gate(), gate(used(0, 3), used(1, 3)), gate(used(0, 1), used(2, 1), used(0, 5))} {
		for id := -1; id <= 3; id++ {
			for range 5 {
				expectPure(t, "Transmit", impl.Transmit, g, id, 0, 1, 50)
			}
			expectPure(t, "UsedCount", impl.UsedCount, g, id, 0, 1)
		}
		expectPure(t, "BeginTick", impl.BeginTick, g, 61)
		expectPure(t, "ValidScheduler", impl.ValidScheduler, g, 50)
		expectPure(t, "SentCount", impl.SentCount, g, 0, 1)
		expectPure(t, "EqualSchedulers", impl.EqualSchedulers, g, gate())
	}
	expectPure(t, "NewScheduler", impl.NewScheduler, 5)
}
