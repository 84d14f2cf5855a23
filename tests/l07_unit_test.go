package tests

import (
	"bytes"
	"fmt"
	"math"
	"slices"
	"sync"
	"testing"

	"loop.example/g00693/impl"
)

// operationBytes tells mixed bytes of which about one of so many is no
// operation; none is where that is 0.
func operationBytes(size int, seed uint32, oneOf int) []byte {
	b := mixedBytes(size, seed)
	kept := 0
	for i, code := range b {
		if chapterOperations[code] != noOperation {
			continue
		}
		kept++
		if oneOf == 0 || kept%oneOf != 0 {
			b[i] = 0xEA
		}
	}
	return b
}

// mixedEvents tells so many events, most of them for one of n units.
func mixedEvents(count int, seed uint32, n int) []impl.Event {
	var list []impl.Event
	for _, b := range mixedBytes(count, seed*977+5) {
		list = append(list, impl.Event{At: int(b/2)%(n+3) - 1, Nmi: b%2 == 1})
	}
	return list
}

// startRow is a Shot whose Starts no run would tell, and the unit at each of
// the places of eight cycles.
type startRow struct {
	starts []int
	units  []int
}

// checkUnits looks for the one unit of each cycle of a run.
func checkUnits(t *testing.T, what string, s impl.Shot) {
	t.Helper()
	if len(s.Starts) != len(s.Cpus) || len(s.Starts) == 0 && len(s.Trace) != 0 {
		t.Fatalf("%s: %d units, %d processors and %d cycles", what, len(s.Starts), len(s.Cpus), len(s.Trace))
	}
	place := 0
	for unit, start := range s.Starts {
		if start != place {
			t.Fatalf("%s: unit %d begins at %d, want %d", what, unit, start, place)
		}
		if s.Trace[start].Addr != s.Cpus[unit].PC || s.Trace[start].Write {
			t.Fatalf("%s: unit %d doesn't begin at PC", what, unit)
		}
		end := len(s.Trace)
		if unit+1 < len(s.Starts) {
			end = s.Starts[unit+1]
		}
		for ; place < end; place++ {
			if got := impl.UnitAt(s, place); got != unit {
				t.Fatalf("%s: cycle %d is of unit %d, want %d", what, place, got, unit)
			}
		}
	}
	checkNoUnits(t, what, s)
}

func checkNoUnits(t *testing.T, what string, s impl.Shot) {
	t.Helper()
	count := len(s.Trace)
	for _, place := range []int{-1, -2, math.MinInt, count, count + 1, count + 1000, math.MaxInt} {
		if got := impl.UnitAt(s, place); got != -1 {
			t.Fatalf("%s: place %d of %d is of unit %d", what, place, count, got)
		}
	}
}

func TestUnitsByHand(t *testing.T) {
	s := impl.Run(cpuOf(t, quietCpu), ramOf(t, 4096, vectors+"0300 EA 20 10 03, 0310 A9 01 02"), eventsOf("1 nmi, 2 nmi"), 4)
	if units := unitsText(s); units != "0300:EA 0301:nmi 0500:nmi 0500:E8" {
		t.Fatal(units)
	}
	want := []int{0, 0, 1, 1, 1, 1, 1, 1, 1, 2, 2, 2, 2, 2, 2, 2, 3, 3}
	if len(s.Trace) != len(want) {
		t.Fatalf("%d cycles, want %d", len(s.Trace), len(want))
	}
	for place, unit := range want {
		if got := impl.UnitAt(s, place); got != unit {
			t.Errorf("cycle %d is of unit %d, want %d", place, got, unit)
		}
	}
	checkNoUnits(t, "by hand", s)
}

func TestUnitsOfShotsOfNoRun(t *testing.T) {
	for _, row := range []startRow{
		{nil, []int{-1, -1, -1, -1, -1, -1, -1, -1}},
		{[]int{0}, []int{0, 0, 0, 0, 0, 0, 0, 0}},
		{[]int{7}, []int{-1, -1, -1, -1, -1, -1, -1, 0}},
		{[]int{2, 5}, []int{-1, -1, 0, 0, 0, 1, 1, 1}},
		// They don't rise,
		{[]int{5, 2}, []int{-1, -1, 0, 0, 0, 1, 1, 1}},
		{[]int{6, 0, 3}, []int{0, 0, 0, 1, 1, 1, 2, 2}},
		{[]int{7, 6, 5, 4, 3, 2, 1, 0}, []int{0, 1, 2, 3, 4, 5, 6, 7}},
		{[]int{0, 0, 4, 4, 4}, []int{1, 1, 1, 1, 4, 4, 4, 4}},
		{[]int{3, 3, 3}, []int{-1, -1, -1, 2, 2, 2, 2, 2}},
		{[]int{0, 9, 2, 9, 4}, []int{0, 0, 1, 1, 2, 2, 2, 2}},
		// or aren't places.
		{[]int{-1}, []int{0, 0, 0, 0, 0, 0, 0, 0}},
		{[]int{-1, 0}, []int{1, 1, 1, 1, 1, 1, 1, 1}},
		{[]int{8}, []int{-1, -1, -1, -1, -1, -1, -1, -1}},
		{[]int{0, 8, 9}, []int{0, 0, 0, 0, 0, 0, 0, 0}},
		{[]int{math.MaxInt, math.MinInt}, []int{0, 0, 0, 0, 0, 0, 0, 0}},
		{[]int{math.MinInt, 4, math.MaxInt, -5, 4}, []int{1, 1, 1, 1, 3, 3, 3, 3}},
	} {
		before := slices.Clone(row.starts)
		room := append(row.starts, 1, 2, 3)
		s := impl.Shot{Trace: make([]impl.Cyc, 8, 12), Starts: room[:len(before)]}
		for place, unit := range row.units {
			if got := impl.UnitAt(s, place); got != unit {
				t.Errorf("starts %v: cycle %d is of unit %d, want %d", before, place, got, unit)
			}
		}
		checkNoUnits(t, fmt.Sprintf("starts %v", before), s)
		if !slices.Equal(s.Starts, before) || !slices.Equal(room[len(before):], []int{1, 2, 3}) {
			t.Errorf("starts %v: UnitAt wrote into them", before)
		}
		// Nothing else of a Shot is asked for.
		s.Jam, s.Cpus, s.Ram = true, make([]impl.Cpu, 3), impl.NewRam(256)
		if got := impl.UnitAt(s, 4); got != row.units[4] {
			t.Errorf("starts %v: with more in the Shot, cycle 4 is of unit %d", before, got)
		}
		s.Trace = nil
		checkNoUnits(t, fmt.Sprintf("starts %v of no cycles", before), s)
		if got := impl.UnitAt(s, 0); got != -1 {
			t.Errorf("starts %v of no cycles: place 0 is of unit %d", before, got)
		}
	}
	checkNoUnits(t, "the zero Shot", impl.Shot{})
	if got := impl.UnitAt(impl.Shot{}, 0); got != -1 {
		t.Errorf("the zero Shot: place 0 is of unit %d", got)
	}
}

// TestRunsOfMixedPrograms plays programs that nobody wrote, with events of all kinds.
func TestRunsOfMixedPrograms(t *testing.T) {
	jams, whole := 0, 0
	for _, size := range ramSizes {
		for seed := range uint32(25) {
			for _, oneOf := range []int{0, 1, 20} {
				c := mixedCpu(seed)
				r := impl.Ram{Bytes: operationBytes(size, seed*31+uint32(size), oneOf)}
				n := int(seed*13) % (impl.MaxSteps + 1)
				got := checkRun(t, c, r, mixedEvents(int(seed)%(impl.MaxEvents+1), seed, n), n)
				if got.Jam {
					jams++
				} else if n > 20 {
					whole++
				}
			}
		}
	}
	if jams < 50 || whole < 50 {
		t.Errorf("%d runs jam and %d don't: too few of them", jams, whole)
	}
}

// joinedShot tells a run and another one that goes on where it ended.
func joinedShot(first impl.Shot, second impl.Shot) impl.Shot {
	joined := second
	joined.Trace = slices.Concat(first.Trace, second.Trace)
	joined.Cpus = slices.Concat(first.Cpus, second.Cpus)
	joined.Starts = slices.Clone(first.Starts)
	for _, start := range second.Starts {
		joined.Starts = append(joined.Starts, start+len(first.Trace))
	}
	joined.Jam = first.Jam || second.Jam
	return joined
}

// laterEvents tells events as they are k units later.
func laterEvents(events []impl.Event, k int) []impl.Event {
	var list []impl.Event
	for _, e := range events {
		list = append(list, impl.Event{At: e.At - k, Nmi: e.Nmi})
	}
	return list
}

func checkParts(t *testing.T, c impl.Cpu, r impl.Ram, events []impl.Event, n int) impl.Shot {
	t.Helper()
	whole := impl.Run(c, r, events, n)
	for k := 0; k <= n; k++ {
		first := impl.Run(c, r, events, k)
		// Where the first part jams, no later event is to lead out of there.
		later := laterEvents(events, k)
		if first.Jam {
			later = nil
		}
		second := impl.Run(first.Cpu, first.Ram, later, n-k)
		what := fmt.Sprintf("%s, %d bytes: %d of %d units, and the rest", wantedCpuText(c), len(r.Bytes), k, n)
		checkShot(t, what, joinedShot(first, second), whole)
		if first.Jam && (len(second.Starts) != 0 || second.Jam != (k < n)) {
			t.Errorf("%s: what jammed goes on", what)
		}
		if t.Failed() {
			t.FailNow()
		}
	}
	return whole
}

func TestRunsGoOnWhereRunsEnded(t *testing.T) {
	for _, n := range []int{0, 1, 5, 40, 120} {
		for jamsAt := 0; jamsAt <= 41; jamsAt += 1 + jamsAt/4 {
			program := append(bytes.Repeat([]byte{0xE8}, jamsAt), 0x02)
			whole := checkParts(t, cpuOf(t, quietCpu), ramWith(4096, 1, 0x0300, program...), nil, n)
			if whole.Jam != (jamsAt < n) || len(whole.Starts) != min(jamsAt, n) {
				t.Errorf("%d units, with a jam at %d: %d are told, Jam %v", n, jamsAt, len(whole.Starts), whole.Jam)
			}
		}
		for seed := range uint32(6) {
			for _, size := range ramSizes {
				for _, oneOf := range []int{0, 30} {
					r := impl.Ram{Bytes: operationBytes(size, seed+uint32(size), oneOf)}
					checkParts(t, mixedCpu(seed), r, nil, n)
					checkParts(t, mixedCpu(seed), r, mixedEvents(16, seed, n), n)
				}
			}
		}
	}
}

func TestRunsFromCold(t *testing.T) {
	const memory = vectors + "0300 A2 03 CA D0 FD 58 EA 02"
	for _, size := range []int{2048, 4096} {
		r := ramOf(t, size, memory)
		s := checkRun(t, impl.Cold(r), r, eventsOf("1 irq, 8 irq"), 20)
		const want = "0300:A2 0302:CA 0303:D0 0302:CA 0303:D0 0302:CA 0303:D0 0305:58 0306:irq 0600:C8 0601:C8 0602:40 0306:EA"
		if units := unitsText(s); units != want || !s.Jam || s.Cpu.PC != 0x0307 || s.Cpu.Y != 2 || s.Cpu.X != 0 {
			t.Errorf("%d bytes: %s, want %s; %s", size, units, want, wantedCpuText(s.Cpu))
		}
	}
}

// scribble writes into all of an answer, and into all the room behind its lists.
func scribble(s impl.Shot) {
	for i := range s.Ram.Bytes[:cap(s.Ram.Bytes)] {
		s.Ram.Bytes[:cap(s.Ram.Bytes)][i] ^= 0xFF
	}
	for i := range s.Trace[:cap(s.Trace)] {
		s.Trace[:cap(s.Trace)][i] = impl.Cyc{Addr: 0xBAD, Data: 0xBA, Write: true}
	}
	for i := range s.Starts[:cap(s.Starts)] {
		s.Starts[:cap(s.Starts)][i] = -77
	}
	for i := range s.Cpus[:cap(s.Cpus)] {
		s.Cpus[:cap(s.Cpus)][i] = impl.Cpu{A: 0xBA}
	}
}

func copiedShot(s impl.Shot) impl.Shot {
	s.Ram.Bytes = slices.Clone(s.Ram.Bytes)
	s.Trace = slices.Clone(s.Trace)
	s.Starts = slices.Clone(s.Starts)
	s.Cpus = slices.Clone(s.Cpus)
	return s
}

// TestRunsAnswerNewMemory writes into answers, and looks at the arguments and
// at other answers; also where nothing is played, and where all jams at once.
func TestRunsAnswerNewMemory(t *testing.T) {
	for _, size := range ramSizes {
		for _, first := range []byte{0xEA, 0x02, 0x48, 0xEE} {
			for _, n := range []int{0, 1, 2, 120} {
				for _, events := range []string{"", "0 nmi", "1 nmi, 0 irq, 5 nmi"} {
					c := cpuOf(t, quietCpu)
					start := wantedFill(operationBytes(size, 3, 9), 0x0300, []byte{first, 0x00, 0x03})
					r := impl.Ram{Bytes: withRoom(start)}
					list := eventsOf(events)
					what := fmt.Sprintf("%d bytes, %02X first, %d units, events %s", size, first, n, events)

					one := impl.Run(c, r, list, n)
					kept := copiedShot(one)
					two := impl.Run(c, r, list, n)
					checkShot(t, what+", again", two, kept)
					scribble(two)
					checkShot(t, what+", with another answer written into", one, kept)
					next := impl.Run(one.Cpu, one.Ram, list, n)
					keptNext := copiedShot(next)
					scribble(one)
					checkShot(t, what+", gone on from, with that answer written into", next, keptNext)
					checkUntouched(t, what, r.Bytes, start)
					checkEventsUntouched(t, what, list, slices.Clone(eventsOf(events)))

					three := impl.Run(c, r, list, n)
					for i := range r.Bytes {
						r.Bytes[i] ^= 0xFF
					}
					for i := range list {
						list[i] = impl.Event{At: 99}
					}
					checkShot(t, what+", with the arguments written into", three, kept)
				}
			}
		}
	}
}

// TestUnitAtWritesIntoNoShot asks for units of a run, and looks at all of it.
func TestUnitAtWritesIntoNoShot(t *testing.T) {
	s := impl.Run(cpuOf(t, quietCpu), ramOf(t, 4096, idle), eventsOf("1 nmi, 6 irq"), 8)
	kept, room := copiedShot(s), copiedShot(impl.Shot{Trace: s.Trace[:cap(s.Trace)], Starts: s.Starts[:cap(s.Starts)], Cpus: s.Cpus[:cap(s.Cpus)]})
	for place := -3; place < len(s.Trace)+3; place++ {
		impl.UnitAt(s, place)
	}
	checkShot(t, "behind UnitAt", s, kept)
	s.Trace, s.Starts, s.Cpus = s.Trace[:cap(s.Trace)], s.Starts[:cap(s.Starts)], s.Cpus[:cap(s.Cpus)]
	if !slices.Equal(s.Trace, room.Trace) || !slices.Equal(s.Starts, room.Starts) || !slices.Equal(s.Cpus, room.Cpus) {
		t.Error("UnitAt put something behind the lists")
	}
}

// TestRunsSideBySide plays runs at one time: what one of them counts is its own.
func TestRunsSideBySide(t *testing.T) {
	r := ramOf(t, 4096, vectors+"0300 EA E8 4C 00 03, 0380 02")
	c := cpuOf(t, quietCpu)
	jamming := c
	jamming.PC = 0x0380
	events := eventsOf("3 irq, 30 nmi, 60 irq, 119 nmi")
	want := wantedRun(t, c, r, events, 120)
	wantJam := wantedRun(t, jamming, r, nil, 120)
	var calls sync.WaitGroup
	var told, jammed [8]impl.Shot
	for i := range told {
		calls.Go(func() {
			for range 20 {
				told[i] = impl.Run(c, r, events, 120)
				jammed[i] = impl.Run(jamming, r, nil, 120)
			}
		})
	}
	calls.Wait()
	for i := range told {
		checkShot(t, "side by side", told[i], want)
		checkShot(t, "side by side, jamming", jammed[i], wantJam)
	}
}
