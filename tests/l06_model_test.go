package tests

import (
	"slices"

	"loop.example/g00693/impl"
)

// chapterOperations is made once: each step asks for it.
var chapterOperations = allOperations()

// model plays the chapter's sentences word for word. It reckons in whole
// numbers, and PC stays where it was till a sentence says what it is.
type model struct {
	a, x, y, s, pc int
	f              impl.Flags
	bytes          []byte
	cycles         []impl.Cyc
}

func modelOf(c impl.Cpu, r impl.Ram) *model {
	return &model{
		a: int(c.A), x: int(c.X), y: int(c.Y), s: int(c.S), pc: int(c.PC), f: c.F,
		bytes: slices.Clone(r.Bytes),
	}
}

func (m *model) cpu() impl.Cpu {
	return impl.Cpu{A: byte(m.a % 256), X: byte(m.x % 256), Y: byte(m.y % 256), S: byte((m.s + 256) % 256), PC: uint16(m.pc % 65536), F: m.f}
}

// at plays a cycle at an address, and put one that writes there.
func (m *model) at(addr int) int {
	addr %= 65536
	b := m.bytes[addr%len(m.bytes)]
	m.cycles = append(m.cycles, impl.Cyc{Addr: uint16(addr), Data: b})
	return int(b)
}

func (m *model) put(addr int, b int) {
	addr %= 65536
	m.bytes[addr%len(m.bytes)] = byte(b)
	m.cycles = append(m.cycles, impl.Cyc{Addr: uint16(addr), Data: byte(b), Write: true})
}

func stack(s int) int { return 256 + (s+256)%256 }

func (m *model) nz(b int) int {
	b = (b + 256) % 256
	m.f.N, m.f.Z = b >= 128, b == 0
	return b
}

// wantedStep tells what the chapter makes of an operation at PC.
func wantedStep(c impl.Cpu, r impl.Ram) (impl.Cpu, []byte, []impl.Cyc) {
	m := modelOf(c, r)
	op := chapterOperations[r.Bytes[int(c.PC)%len(r.Bytes)]]
	if op == noOperation {
		return c, m.bytes, nil
	}
	m.at(m.pc)
	switch op.kind {
	case impl.KRead, impl.KWrite, impl.KModify:
		m.playPlace(op)
	case impl.KImp:
		m.at(m.pc + 1)
		m.playRegisters(op)
		m.pc += op.size
	case impl.KBranch:
		m.playBranch(op)
	default:
		m.playFlow(op)
	}
	return m.cpu(), m.bytes, m.cycles
}

func wantedServe(c impl.Cpu, r impl.Ram, nmi bool) (impl.Cpu, []byte, []impl.Cyc) {
	m := modelOf(c, r)
	vector := 65534
	if nmi {
		vector = 65530
	}
	m.at(m.pc)
	m.at(m.pc)
	m.put(stack(m.s), m.pc/256)
	m.put(stack(m.s-1), m.pc%256)
	m.put(stack(m.s-2), int(impl.PackP(m.f, false)))
	low := m.at(vector)
	m.pc = low + 256*m.at(vector+1)
	m.f.I = true
	m.s -= 3
	return m.cpu(), m.bytes, m.cycles
}

func (m *model) playPlace(op operation) {
	var e int
	switch op.mode {
	case impl.MImm:
		e = m.pc + 1
	case impl.MZp:
		e = m.at(m.pc + 1)
	case impl.MZpX, impl.MZpY:
		z := m.at(m.pc + 1)
		m.at(z)
		e = (z + map[int]int{impl.MZpX: m.x, impl.MZpY: m.y}[op.mode]) % 256
	case impl.MIndX:
		z := m.at(m.pc + 1)
		m.at(z)
		low := m.at((z + m.x) % 256)
		e = low + 256*m.at((z+m.x+1)%256)
	default:
		e = m.indexed(op)
	}
	switch op.kind {
	case impl.KRead:
		m.use(op.name, m.at(e))
	case impl.KWrite:
		m.put(e, map[string]int{"STA": m.a, "STX": m.x, "STY": m.y}[op.name])
	case impl.KModify:
		b := m.at(e)
		m.put(e, b)
		m.put(e, m.made(op.name, b))
	}
	m.pc += op.size
}

// indexed tells the place of MAbs, MAbsX, MAbsY and MIndY.
func (m *model) indexed(op operation) int {
	z := m.at(m.pc + 1)
	var addr int
	if op.mode == impl.MIndY {
		low := m.at(z)
		addr = low + 256*m.at((z+1)%256)
	} else {
		addr = z + 256*m.at(m.pc+2)
	}
	if op.mode == impl.MAbs {
		return addr
	}
	e := (addr + map[int]int{impl.MAbsX: m.x, impl.MAbsY: m.y, impl.MIndY: m.y}[op.mode]) % 65536
	w := addr/256*256 + e%256
	if op.kind != impl.KRead || w != e {
		m.at(w)
	}
	return e
}

func (m *model) use(name string, b int) {
	switch name {
	case "LDA":
		m.a = m.nz(b)
	case "LDX":
		m.x = m.nz(b)
	case "LDY":
		m.y = m.nz(b)
	case "ORA":
		m.a = m.nz(m.a | b)
	case "AND":
		m.a = m.nz(m.a & b)
	case "EOR":
		m.a = m.nz(m.a ^ b)
	case "ADC", "SBC":
		sum := map[string]func(byte, byte, impl.Flags) (byte, impl.Flags){"ADC": impl.Adc, "SBC": impl.Sbc}[name]
		a, f := sum(byte(m.a), byte(b), m.f)
		m.a, m.f = int(a), f
	case "CMP", "CPX", "CPY":
		register := map[string]int{"CMP": m.a, "CPX": m.x, "CPY": m.y}[name]
		m.nz(register - b)
		m.f.C = register >= b
	case "BIT":
		m.f.N, m.f.V, m.f.Z = b/128 == 1, b/64%2 == 1, m.a&b == 0
	}
}

// made tells what a KModify makes of a byte, or of A.
func (m *model) made(name string, b int) int {
	in := numberOf(m.f.C)
	switch name {
	case "INC":
		return m.nz(b + 1)
	case "DEC":
		return m.nz(b - 1)
	case "ASL", "ROL":
		m.f.C = b >= 128
		b = b * 2 % 256
		if name == "ROL" {
			b += in
		}
	default:
		m.f.C = b%2 == 1
		b /= 2
		if name == "ROR" {
			b += 128 * in
		}
	}
	return m.nz(b)
}

func (m *model) playRegisters(op operation) {
	if op.mode == impl.MAcc {
		m.a = m.made(op.name, m.a)
		return
	}
	switch op.name {
	case "INX":
		m.x = m.nz(m.x + 1)
	case "INY":
		m.y = m.nz(m.y + 1)
	case "DEX":
		m.x = m.nz(m.x - 1)
	case "DEY":
		m.y = m.nz(m.y - 1)
	case "TAX":
		m.x = m.nz(m.a)
	case "TAY":
		m.y = m.nz(m.a)
	case "TXA":
		m.a = m.nz(m.x)
	case "TYA":
		m.a = m.nz(m.y)
	case "TSX":
		m.x = m.nz(m.s)
	case "TXS":
		m.s = m.x
	case "CLC", "SEC":
		m.f.C = op.name == "SEC"
	case "CLI", "SEI":
		m.f.I = op.name == "SEI"
	case "CLD", "SED":
		m.f.D = op.name == "SED"
	case "CLV":
		m.f.V = false
	}
}

func wantedBranch(name string, f impl.Flags) bool {
	return map[string]bool{
		"BPL": !f.N, "BMI": f.N, "BVC": !f.V, "BVS": f.V, "BCC": !f.C, "BCS": f.C, "BNE": !f.Z, "BEQ": f.Z,
	}[name]
}

func (m *model) playBranch(op operation) {
	b := m.at(m.pc + 1)
	m.pc = (m.pc + 2) % 65536
	if !wantedBranch(op.name, m.f) {
		return
	}
	m.at(m.pc)
	if b >= 128 {
		b -= 256
	}
	t := (m.pc + b + 65536) % 65536
	if w := m.pc/256*256 + t%256; w != t {
		m.at(w)
	}
	m.pc = t
}

// playFlow plays the kinds that lead elsewhere, or have to do with the stack.
func (m *model) playFlow(op operation) {
	behind := (m.pc + 2) % 65536
	first := m.at(m.pc + 1)
	switch op.kind {
	case impl.KJump:
		addr := first + 256*m.at(m.pc+2)
		m.pc = addr
		if op.mode == impl.MInd {
			low := m.at(addr)
			m.pc = low + 256*m.at(addr/256*256+(addr+1)%256)
		}
	case impl.KSub:
		m.at(stack(m.s))
		m.put(stack(m.s), behind/256)
		m.put(stack(m.s-1), behind%256)
		m.pc = first + 256*m.at(m.pc+2)
		m.s -= 2
	case impl.KBack:
		m.at(stack(m.s))
		low := m.at(stack(m.s + 1))
		m.pc = low + 256*m.at(stack(m.s+2))
		m.at(m.pc)
		m.pc++
		m.s += 2
	case impl.KRti:
		m.at(stack(m.s))
		m.f = impl.UnpackP(byte(m.at(stack(m.s + 1))))
		low := m.at(stack(m.s + 2))
		m.pc = low + 256*m.at(stack(m.s+3))
		m.s += 3
	case impl.KBrk:
		m.put(stack(m.s), behind/256)
		m.put(stack(m.s-1), behind%256)
		m.put(stack(m.s-2), int(impl.PackP(m.f, true)))
		low := m.at(65534)
		m.pc = low + 256*m.at(65535)
		m.f.I = true
		m.s -= 3
	case impl.KPush:
		m.put(stack(m.s), map[string]int{"PHA": m.a, "PHP": int(impl.PackP(m.f, true))}[op.name])
		m.pc++
		m.s--
	case impl.KPull:
		m.at(stack(m.s))
		b := m.at(stack(m.s + 1))
		if op.name == "PLA" {
			m.a = m.nz(b)
		} else {
			m.f = impl.UnpackP(byte(b))
		}
		m.pc++
		m.s++
	}
	m.s = (m.s + 256) % 256
}
