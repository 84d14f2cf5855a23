package tests

import (
	"bytes"
	"fmt"
	"math"
	"slices"
	"strings"
	"testing"

	"loop.example/g00693/impl"
)

const (
	// quietCpu has I not set, and maskedCpu has it set.
	quietCpu  = "A=11 X=22 Y=33 S=FD PC=0300 NVD-ZC"
	maskedCpu = "A=11 X=22 Y=33 S=FD PC=0300 NVDIZC"

	// vectors lead to 0500 (nmi), 0300 (cold) and 0600 (irq), where an
	// operation and another one stand ahead of RTI.
	vectors = "FFFA 00 05 00 03 00 06, 0500 E8 E8 40, 0600 C8 C8 40, "
	idle    = vectors + "0300 EA EA EA EA EA EA EA EA"
)

// runRow is a run told by hand: each unit is where it begins and its byte, or
// the interrupt that it is.
type runRow struct {
	cpu    string
	memory string
	events string
	n      int
	units  string
	jam    bool
}

// eventsOf reads events as in "0 nmi, 1 irq". The room behind them holds some
// more, which would show if they were looked at.
func eventsOf(text string) []impl.Event {
	list := make([]impl.Event, 0, 40)
	for part := range strings.SplitSeq(text, ",") {
		var e impl.Event
		var kind string
		if count, _ := fmt.Sscanf(part, "%d %s", &e.At, &kind); count == 2 {
			e.Nmi = kind == "nmi"
			list = append(list, e)
		}
	}
	return withEventsBehind(list)
}

func spareEvent(i int) impl.Event { return impl.Event{At: i / 2, Nmi: true} }

func withEventsBehind(list []impl.Event) []impl.Event {
	room := append(slices.Clone(list), make([]impl.Event, 20)...)
	for i := len(list); i < len(room); i++ {
		room[i] = spareEvent(i)
	}
	return room[:len(list)]
}

func checkEventsUntouched(t *testing.T, what string, list []impl.Event, want []impl.Event) {
	t.Helper()
	if !slices.Equal(list, want) {
		t.Errorf("%s: the events changed", what)
	}
	for i, e := range list[:cap(list)][len(list):] {
		if place := i + len(list); place < len(want)+20 && e != spareEvent(place) {
			t.Errorf("%s: something was put behind the events", what)
			return
		}
	}
}

// unitsText writes the units of a run, as the rows tell them.
func unitsText(s impl.Shot) string {
	var words []string
	for i, start := range s.Starts {
		end := len(s.Trace)
		if i+1 < len(s.Starts) {
			end = s.Starts[i+1]
		}
		cycles := s.Trace[start:end]
		kind := fmt.Sprintf("%02X", cycles[0].Data)
		if cycles[1].Addr == cycles[0].Addr {
			kind = map[uint16]string{0xFFFA: "nmi", 0xFFFE: "irq"}[cycles[5].Addr]
		}
		words = append(words, fmt.Sprintf("%04X:%s", cycles[0].Addr, kind))
	}
	return strings.Join(words, " ")
}

// wantedRun plays the chapter's sentences, unit by unit. Each unit is Step or
// Serve, which are held against their own chapter as they are asked.
func wantedRun(t *testing.T, c impl.Cpu, r impl.Ram, events []impl.Event, n int) impl.Shot {
	t.Helper()
	want := impl.Shot{Cpu: c, Ram: impl.Ram{Bytes: slices.Clone(r.Bytes)}}
	for k := range n {
		nmi, irq := false, false
		for _, e := range events {
			nmi = nmi || e.At == k && e.Nmi
			irq = irq || e.At == k && !e.Nmi
		}
		served := nmi || irq && !want.Cpu.F.I
		code := want.Ram.Bytes[int(want.Cpu.PC)%len(want.Ram.Bytes)]
		if !served && chapterOperations[code] == noOperation {
			want.Jam = true
			break
		}
		want.Starts = append(want.Starts, len(want.Trace))
		want.Cpus = append(want.Cpus, want.Cpu)
		var list []impl.Cyc
		if served {
			want.Cpu, want.Ram, list = checkServe(t, want.Cpu, want.Ram, nmi)
		} else {
			want.Cpu, want.Ram, list = checkStep(t, want.Cpu, want.Ram)
		}
		want.Trace = append(want.Trace, list...)
	}
	return want
}

func checkShot(t *testing.T, what string, got impl.Shot, want impl.Shot) {
	t.Helper()
	if got.Cpu != want.Cpu {
		t.Errorf("%s: processor\n\t%s, want\n\t%s", what, wantedCpuText(got.Cpu), wantedCpuText(want.Cpu))
	}
	if !bytes.Equal(got.Ram.Bytes, want.Ram.Bytes) {
		t.Errorf("%s: the memory is wrong", what)
	}
	if !slices.Equal(got.Trace, want.Trace) {
		t.Errorf("%s: cycles\n\t%s, want\n\t%s", what, cyclesText(got.Trace), cyclesText(want.Trace))
	}
	if !slices.Equal(got.Starts, want.Starts) {
		t.Errorf("%s: starts\n\t%v, want\n\t%v", what, got.Starts, want.Starts)
	}
	if !slices.Equal(got.Cpus, want.Cpus) {
		t.Errorf("%s: the processors ahead of the units are wrong", what)
	}
	if got.Jam != want.Jam {
		t.Errorf("%s: Jam is %v", what, got.Jam)
	}
}

func checkZeroShot(t *testing.T, what string, got impl.Shot) {
	t.Helper()
	checkShot(t, what, got, impl.Shot{})
}

// checkRun holds a run against the units one by one, and tells what it was.
func checkRun(t *testing.T, c impl.Cpu, r impl.Ram, events []impl.Event, n int) impl.Shot {
	t.Helper()
	want := wantedRun(t, c, r, events, n)
	given := impl.Ram{Bytes: withRoom(r.Bytes)}
	list := withEventsBehind(events)
	got := impl.Run(c, given, list, n)
	what := fmt.Sprintf("%d units from %s, %d bytes, events %v", n, wantedCpuText(c), len(r.Bytes), events)
	checkShot(t, what, got, want)
	checkUntouched(t, what, given.Bytes, r.Bytes)
	checkEventsUntouched(t, what, list, events)
	checkCycles(t, r.Bytes, got.Trace, got.Ram.Bytes)
	checkUnits(t, what, got)
	if t.Failed() {
		t.FailNow()
	}
	return got
}

func checkRunRows(t *testing.T, rows []runRow) {
	t.Helper()
	for _, row := range rows {
		got := checkRun(t, cpuOf(t, row.cpu), ramOf(t, 4096, row.memory), eventsOf(row.events), row.n)
		if units := unitsText(got); units != row.units || got.Jam != row.jam {
			t.Errorf("%s; %s; %d units, events %s:\n\t%s, Jam %v, want\n\t%s, %v", row.cpu, row.memory, row.n, row.events, units, got.Jam, row.units, row.jam)
		}
	}
}

func TestColdOfEachSize(t *testing.T) {
	for _, size := range ramSizes {
		for _, low := range []byte{0x00, 0x01, 0x34, 0x7F, 0x80, 0xFE, 0xFF} {
			for high := range 256 {
				start := wantedFill(mixedBytes(size, uint32(size+high)), 65532, []byte{low, byte(high)})
				r := impl.Ram{Bytes: withRoom(start)}
				want := impl.Cpu{S: 253, PC: uint16(high)*256 + uint16(low), F: impl.Flags{I: true}}
				if got := impl.Cold(r); got != want {
					t.Errorf("Cold of %d bytes: %s, want %s", size, wantedCpuText(got), wantedCpuText(want))
				}
				checkUntouched(t, fmt.Sprintf("Cold of %d bytes", size), r.Bytes, start)
			}
		}
	}
}

func TestColdWhereAddressesGoRound(t *testing.T) {
	const want = "A=00 X=00 Y=00 S=FD PC=1234 ---I--"
	for _, size := range ramSizes {
		b := make([]byte, size)
		b[size-4], b[size-3] = 0x34, 0x12
		if got := wantedCpuText(impl.Cold(impl.Ram{Bytes: b})); got != want {
			t.Errorf("Cold of %d bytes: %s, want %s", size, got, want)
		}
		// All the other bytes aren't looked at.
		other := bytes.Repeat([]byte{0xFF}, size)
		other[size-4], other[size-3] = 0x34, 0x12
		if got := wantedCpuText(impl.Cold(impl.Ram{Bytes: other})); got != want {
			t.Errorf("Cold of %d bytes of FF: %s, want %s", size, got, want)
		}
	}
}

func TestRunsOfMemoriesThatAreNotRight(t *testing.T) {
	memories := []impl.Ram{{}, {Bytes: []byte{}}, {Bytes: make([]byte, 0, 256)}}
	for _, size := range wrongSizes() {
		for _, one := range []byte{0x02, 0xEA} {
			memories = append(memories, impl.Ram{Bytes: withRoom(bytes.Repeat([]byte{one}, size))})
		}
	}
	for _, r := range memories {
		before := bytes.Clone(r.Bytes)
		what := fmt.Sprintf("%d bytes", len(before))
		if got := impl.Cold(r); got != (impl.Cpu{}) {
			t.Errorf("%s: Cold tells %s", what, wantedCpuText(got))
		}
		for seed, events := range [][]impl.Event{nil, eventsOf("0 nmi"), eventsOf("0 irq"), make([]impl.Event, 17)} {
			for _, n := range []int{-1, 0, 1, 5, 120, 121} {
				checkZeroShot(t, what, impl.Run(mixedCpu(uint32(seed)), r, events, n))
			}
		}
		if len(before) > 0 {
			checkUntouched(t, what, r.Bytes, before)
		}
	}
}

func TestRunsOfTooManyOrTooFew(t *testing.T) {
	if impl.MaxSteps != 120 || impl.MaxEvents != 16 {
		t.Errorf("MaxSteps is %d, MaxEvents is %d", impl.MaxSteps, impl.MaxEvents)
	}
	c := cpuOf(t, quietCpu)
	for _, size := range ramSizes {
		// NOP and then a JMP back to it: it never ends.
		r := ramOf(t, size, "0300 EA 4C 00 03")
		before := bytes.Clone(r.Bytes)
		for _, n := range []int{0, 1, 2, 119, 120} {
			if got := checkRun(t, c, r, nil, n); len(got.Starts) != n || len(got.Cpus) != n || len(got.Trace) != n*2+n/2 {
				t.Errorf("%d units: %d are told, with %d cycles", n, len(got.Starts), len(got.Trace))
			}
		}
		for _, n := range []int{-1, -2, -120, -121, 121, 122, 1000, 1 << 32, 1<<32 + 1, math.MinInt, math.MaxInt} {
			for _, events := range [][]impl.Event{nil, eventsOf("0 nmi"), make([]impl.Event, 17)} {
				checkZeroShot(t, fmt.Sprintf("%d units", n), impl.Run(c, r, events, n))
			}
		}
		checkUntouched(t, "all of these", r.Bytes, before)
	}
}

func TestRunsOfManyEvents(t *testing.T) {
	r := ramOf(t, 4096, vectors+"0300 EA 4C 00 03")
	for _, cpu := range []string{quietCpu, maskedCpu} {
		c := cpuOf(t, cpu)
		for _, kinds := range []string{"nmi", "irq", "nmi irq", "irq irq nmi"} {
			for _, apart := range []int{0, 1, 4, 8, -1, 1000} {
				var list []impl.Event
				for i := range 17 {
					words := strings.Fields(kinds)
					list = append(list, impl.Event{At: i * apart, Nmi: words[i%len(words)] == "nmi"})
				}
				for _, n := range []int{0, 1, 2, 17, 119, 120} {
					for _, count := range []int{0, 1, 2, 15, 16} {
						checkRun(t, c, r, list[:count], n)
					}
					checkZeroShot(t, "17 events", impl.Run(c, r, list, n))
					checkZeroShot(t, "18 events", impl.Run(c, r, append(list, impl.Event{At: -1}), n))
				}
			}
		}
	}
	got := impl.Run(cpuOf(t, quietCpu), r, eventsOf(strings.Repeat("-1 irq, ", 15)+"119 nmi"), 120)
	if units := unitsText(got); !strings.HasSuffix(units, " 0300:EA 0301:4C 0300:EA 0301:nmi") || len(got.Starts) != 120 || got.Cpu.PC != 0x0500 {
		t.Errorf("the sixteenth event, for the last unit, isn't taken: %s", units)
	}
}

func TestEventsByHand(t *testing.T) {
	checkRunRows(t, []runRow{
		{quietCpu, idle, "", 3, "0300:EA 0301:EA 0302:EA", false},
		{quietCpu, idle, "0 nmi", 3, "0300:nmi 0500:E8 0501:E8", false},
		{maskedCpu, idle, "0 nmi", 3, "0300:nmi 0500:E8 0501:E8", false},
		{quietCpu, idle, "0 irq", 3, "0300:irq 0600:C8 0601:C8", false},
		{maskedCpu, idle, "0 irq", 3, "0300:EA 0301:EA 0302:EA", false},
		{quietCpu, idle, "1 nmi", 3, "0300:EA 0301:nmi 0500:E8", false},
		{maskedCpu, idle, "1 nmi", 3, "0300:EA 0301:nmi 0500:E8", false},
		{quietCpu, idle, "1 irq", 3, "0300:EA 0301:irq 0600:C8", false},
		{maskedCpu, idle, "1 irq", 3, "0300:EA 0301:EA 0302:EA", false},
		{quietCpu, idle, "2 irq", 3, "0300:EA 0301:EA 0302:irq", false},
		{maskedCpu, idle, "2 nmi", 3, "0300:EA 0301:EA 0302:nmi", false},
		{quietCpu, idle, "0 irq", 1, "0300:irq", false},
		{maskedCpu, idle, "0 nmi", 1, "0300:nmi", false},
		// One alike another is no second interrupt.
		{quietCpu, idle, "1 irq, 1 irq", 4, "0300:EA 0301:irq 0600:C8 0601:C8", false},
		{maskedCpu, idle, "1 nmi, 1 nmi", 4, "0300:EA 0301:nmi 0500:E8 0501:E8", false},
		// One that isn't taken isn't taken later either.
		{maskedCpu, vectors + "0300 58 EA EA", "0 irq", 3, "0300:58 0301:EA 0302:EA", false},
		{quietCpu, idle, "0 nmi, 0 irq", 6, "0300:nmi 0500:E8 0501:E8 0502:40 0300:EA 0301:EA", false},
	})
}

func TestTwoEventsForOneUnitByHand(t *testing.T) {
	for _, cpu := range []string{quietCpu, maskedCpu} {
		for _, events := range []string{"%d nmi, %[1]d irq", "%d irq, %[1]d nmi", "%d irq, 7 irq, %[1]d nmi, %[1]d irq"} {
			checkRunRows(t, []runRow{
				{cpu, idle, fmt.Sprintf(events, 0), 3, "0300:nmi 0500:E8 0501:E8", false},
				{cpu, idle, fmt.Sprintf(events, 1), 3, "0300:EA 0301:nmi 0500:E8", false},
				{cpu, idle, fmt.Sprintf(events, 2), 3, "0300:EA 0301:EA 0302:nmi", false},
			})
		}
	}
}

func TestEventsBehindOneAnotherByHand(t *testing.T) {
	for _, cpu := range []string{quietCpu, maskedCpu} {
		checkRunRows(t, []runRow{
			{cpu, idle, "0 nmi, 1 nmi, 2 nmi", 4, "0300:nmi 0500:nmi 0500:nmi 0500:E8", false},
			{cpu, idle, "2 nmi, 1 nmi, 0 nmi", 4, "0300:nmi 0500:nmi 0500:nmi 0500:E8", false},
			{cpu, idle, "0 nmi, 2 nmi", 4, "0300:nmi 0500:E8 0501:nmi 0500:E8", false},
			// An interrupt sets I.
			{cpu, idle, "0 nmi, 1 irq, 2 irq", 4, "0300:nmi 0500:E8 0501:E8 0502:40", false},
		})
	}
	checkRunRows(t, []runRow{
		{quietCpu, idle, "0 irq, 1 irq, 2 irq, 3 irq", 5, "0300:irq 0600:C8 0601:C8 0602:40 0300:EA", false},
		{quietCpu, idle, "0 irq, 1 nmi, 2 irq", 4, "0300:irq 0600:nmi 0500:E8 0501:E8", false},
		{quietCpu, idle, "1 nmi, 0 irq", 3, "0300:irq 0600:nmi 0500:E8", false},
		{maskedCpu, idle, "0 irq, 1 nmi, 2 irq", 4, "0300:EA 0301:nmi 0500:E8 0501:E8", false},
		// RTI clears it again, where it wasn't set ahead of the interrupt.
		{quietCpu, idle, "0 irq, 3 irq, 4 irq", 6, "0300:irq 0600:C8 0601:C8 0602:40 0300:irq 0600:C8", false},
		{quietCpu, idle, "0 nmi, 3 irq, 4 irq", 6, "0300:nmi 0500:E8 0501:E8 0502:40 0300:irq 0600:C8", false},
		{maskedCpu, idle, "0 nmi, 3 irq, 4 irq", 6, "0300:nmi 0500:E8 0501:E8 0502:40 0300:EA 0301:EA", false},
	})
}

func TestOperationsThatTurnIByHand(t *testing.T) {
	const pulled = vectors + "0310 EA EA, 0300 "
	checkRunRows(t, []runRow{
		{maskedCpu, pulled + "58 EA", "0 irq, 1 irq", 3, "0300:58 0301:irq 0600:C8", false},
		{quietCpu, pulled + "58 EA", "1 irq", 3, "0300:58 0301:irq 0600:C8", false},
		{quietCpu, pulled + "78 EA EA", "1 irq", 3, "0300:78 0301:EA 0302:EA", false},
		{quietCpu, pulled + "78 EA EA", "0 irq", 2, "0300:irq 0600:C8", false},
		{quietCpu, pulled + "78 EA EA", "1 nmi", 3, "0300:78 0301:nmi 0500:E8", false},
		{maskedCpu, pulled + "28 EA, 01FE 30", "0 irq, 1 irq", 2, "0300:28 0301:irq", false},
		{quietCpu, pulled + "28 EA, 01FE 34", "1 irq", 2, "0300:28 0301:EA", false},
		{maskedCpu, pulled + "40, 01FE 00 10, 0100 03", "0 irq, 1 irq", 3, "0300:40 0310:irq 0600:C8", false},
		{quietCpu, pulled + "40, 01FE 04 10, 0100 03", "1 irq", 3, "0300:40 0310:EA 0311:EA", false},
		{quietCpu, pulled + "00", "1 irq", 3, "0300:00 0600:C8 0601:C8", false},
	})
}

func TestEventsForNoUnitByHand(t *testing.T) {
	for _, cpu := range []string{quietCpu, maskedCpu} {
		for _, kind := range []string{"nmi", "irq"} {
			for _, at := range []int{-1, -2, -3, -120, 3, 4, 120, 121, 1 << 32, 1<<32 + 1, math.MinInt, math.MaxInt} {
				checkRunRows(t, []runRow{{cpu, idle, fmt.Sprintf("%d %s", at, kind), 3, "0300:EA 0301:EA 0302:EA", false}})
			}
			checkRunRows(t, []runRow{
				{cpu, idle, "0 " + kind, 0, "", false},
				{cpu, idle, "-1 " + kind + ", 0 " + kind, 0, "", false},
			})
		}
	}
}

func TestJamsByHand(t *testing.T) {
	for _, cpu := range []string{quietCpu, maskedCpu} {
		checkRunRows(t, []runRow{
			// The first one, one in the midst, and the last one;
			{cpu, vectors + "0300 02", "", 5, "", true},
			{cpu, vectors + "0300 02", "", 1, "", true},
			{cpu, vectors + "0300 EA EA 02", "", 120, "0300:EA 0301:EA", true},
			{cpu, vectors + "0300 EA EA 02", "", 5, "0300:EA 0301:EA", true},
			{cpu, vectors + "0300 EA EA 02", "", 3, "0300:EA 0301:EA", true},
			// and one that would be the next one.
			{cpu, vectors + "0300 EA EA 02", "", 2, "0300:EA 0301:EA", false},
			{cpu, vectors + "0300 02", "", 0, "", false},
			// What is asked for behind a jam is never seen.
			{cpu, vectors + "0300 EA 02", "0 irq, 2 nmi, 3 irq", 5, map[string]string{quietCpu: "0300:irq 0600:C8 0601:nmi 0500:E8 0501:E8", maskedCpu: "0300:EA"}[cpu], cpu == maskedCpu},
			{cpu, vectors + "0300 EA 02", "2 nmi, 2 irq", 5, "0300:EA", true},
			// An interrupt is taken where no operation is; what is behind it jams.
			{cpu, vectors + "0300 02", "0 nmi", 2, "0300:nmi 0500:E8", false},
			{cpu, vectors + "0300 EA 02", "1 nmi", 3, "0300:EA 0301:nmi 0500:E8", false},
			{cpu, vectors + "0300 02", "0 nmi", 4, "0300:nmi 0500:E8 0501:E8 0502:40", false},
			{cpu, vectors + "0300 02", "0 nmi", 5, "0300:nmi 0500:E8 0501:E8 0502:40", true},
			{cpu, vectors + "0300 02", "0 nmi, 4 nmi", 6, "0300:nmi 0500:E8 0501:E8 0502:40 0300:nmi 0500:E8", false},
			{cpu, "FFFA 00 07, 0300 EA, 0700 FF", "0 nmi", 1, "0300:nmi", false},
			{cpu, "FFFA 00 07, 0300 EA, 0700 FF", "0 nmi", 2, "0300:nmi", true},
			{cpu, "FFFA 00 07, 0300 EA, 0700 FF", "0 nmi, 1 nmi", 2, "0300:nmi 0700:nmi", false},
		})
	}
	checkRunRows(t, []runRow{
		{quietCpu, vectors + "0300 02", "0 irq", 2, "0300:irq 0600:C8", false},
		{maskedCpu, vectors + "0300 02", "0 irq", 2, "", true},
		{quietCpu, vectors + "0300 EA 02", "1 irq", 3, "0300:EA 0301:irq 0600:C8", false},
		{maskedCpu, vectors + "0300 EA 02", "1 irq", 3, "0300:EA", true},
		{quietCpu, vectors + "0300 02", "0 irq", 5, "0300:irq 0600:C8 0601:C8 0602:40", true},
		{quietCpu, vectors + "0300 02", "0 irq, 4 irq", 6, "0300:irq 0600:C8 0601:C8 0602:40 0300:irq 0600:C8", false},
		// What a step wrote over the next one jams: STA with A of 02.
		{"A=02 X=22 Y=33 S=FD PC=0300 ------", "0300 8D 03 03 EA", "", 9, "0300:8D", true},
		{"A=EA X=22 Y=33 S=FD PC=0300 ------", "0300 8D 03 03 02 02", "", 9, "0300:8D 0303:EA", true},
	})
}

func TestJamsOfEachByteThatIsNone(t *testing.T) {
	for code, op := range chapterOperations {
		for _, size := range ramSizes {
			got := checkRun(t, cpuOf(t, maskedCpu), ramWith(size, 5, 0x0300, 0xEA, byte(code)), nil, 2)
			if none := op == noOperation; got.Jam != none || (len(got.Starts) == 1) != none {
				t.Errorf("%02X, %d bytes: %d units, Jam %v", code, size, len(got.Starts), got.Jam)
			}
		}
	}
}

// TestRunsByHand tells all of a run, with a stroke between units.
func TestRunsByHand(t *testing.T) {
	for _, c := range []struct {
		cpu, memory, events string
		n                   int
		cycles              string
		cpus                []string
		behind              string
		jam                 bool
	}{
		{"A=11 X=22 Y=33 S=FD PC=0300 ------", "0300 E8 C8", "", 0, "", nil, "A=11 X=22 Y=33 S=FD PC=0300 ------", false},
		{"A=11 X=22 Y=33 S=FD PC=0300 ------", "0300 02 C8", "", 1, "", nil, "A=11 X=22 Y=33 S=FD PC=0300 ------", true},
		{
			"A=11 X=22 Y=33 S=FD PC=0300 ------", "0300 E8 8D 34 02 02", "", 5,
			"0300=E8 0301=8D / 0301=8D 0302=34 0303=02 0234=11!",
			[]string{"A=11 X=22 Y=33 S=FD PC=0300 ------", "A=11 X=23 Y=33 S=FD PC=0301 ------"},
			"A=11 X=23 Y=33 S=FD PC=0304 ------", true,
		},
		{
			"A=11 X=22 Y=33 S=FD PC=0300 N----C", "0300 EA EA, 0500 02, FFFA 00 05 00 03 80 05, 0580 88 40", "2 nmi, 1 nmi, 0 irq", 4,
			"0300=EA 0300=EA 01FD=03! 01FC=00! 01FB=A1! FFFE=80 FFFF=05 / 0580=88 0580=88 01FA=05! 01F9=80! 01F8=A5! FFFA=00 FFFB=05 / 0500=02 0500=02 01F7=05! 01F6=00! 01F5=A5! FFFA=00 FFFB=05",
			[]string{"A=11 X=22 Y=33 S=FD PC=0300 N----C", "A=11 X=22 Y=33 S=FA PC=0580 N--I-C", "A=11 X=22 Y=33 S=F7 PC=0500 N--I-C"},
			"A=11 X=22 Y=33 S=F4 PC=0500 N--I-C", true,
		},
		{
			"A=11 X=22 Y=01 S=FD PC=0300 ------", "0300 88", "0 nmi, 1 irq", 3,
			"0300=88 0300=88 01FD=03! 01FC=00! 01FB=20! FFFA=00 FFFB=00 / 0000=00 0001=00 01FA=00! 01F9=02! 01F8=34! FFFE=00 FFFF=00 / 0000=00 0001=00 01F7=00! 01F6=02! 01F5=34! FFFE=00 FFFF=00",
			[]string{"A=11 X=22 Y=01 S=FD PC=0300 ------", "A=11 X=22 Y=01 S=FA PC=0000 ---I--", "A=11 X=22 Y=01 S=F7 PC=0000 ---I--"},
			"A=11 X=22 Y=01 S=F4 PC=0000 ---I--", false,
		},
	} {
		r := ramOf(t, 4096, c.memory)
		want := impl.Shot{Cpu: cpuOf(t, c.behind), Jam: c.jam}
		for unit := range strings.SplitSeq(c.cycles, "/") {
			if c.cycles != "" {
				want.Starts = append(want.Starts, len(want.Trace))
			}
			want.Trace = append(want.Trace, cyclesOf(unit)...)
		}
		for _, cpu := range c.cpus {
			want.Cpus = append(want.Cpus, cpuOf(t, cpu))
		}
		want.Ram.Bytes = withWrites(r.Bytes, want.Trace)
		checkShot(t, c.memory, impl.Run(cpuOf(t, c.cpu), r, eventsOf(c.events), c.n), want)
	}
}
