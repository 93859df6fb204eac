package circ

import (
	"bauta/api"
	"bauta/flow"
	"bauta/gate"
)

// sel is the function that has no expression.
const sel = "sel"

// Build is a program as a circuit; or the place of what is wrong first, and the error.
func Build(n api.Node) (api.Circuit, int, api.Errno) {
	if _, at, err := flow.Check(n); err != api.OK {
		return api.Circuit{}, at, err
	}
	return built(n)
}

// Text is the same of a program that stands as a text.
func Text(s string) (api.Circuit, int, api.Errno) {
	n, _, at, err := flow.Program(s)
	if err != api.OK {
		return api.Circuit{}, at, err
	}
	return built(n)
}

// built goes through a program of which flow tells no error.
func built(n api.Node) (c api.Circuit, at int, err api.Errno) {
	b := &builder{Circuit: &api.Circuit{}, known: scope{}, functions: map[string]api.Node{}}
	defer func() {
		if given := recover(); given != nil {
			c, at, err = api.Circuit{}, given.(full).at, api.ErrResource
		}
	}()
	b.learn(n.L)
	b.statements(n.L)
	return *b.Circuit, 0, api.OK
}

// full is what is given up with: where the statement is within which there are too many gates.
type full struct {
	at int
}

// meaning is what a name is: a gate; or a loop's variable, and its number in this round.
type meaning struct {
	gate   int
	loop   bool
	number uint32
}

// scope is all names that there are; in a function's expression its parameters.
type scope map[string]meaning

// builder is a circuit as far as it is built, and where: what names are, the loops around, the innermost last, the place of the statement.
type builder struct {
	*api.Circuit
	known     scope
	functions map[string]api.Node
	loops     []api.Out
	place     int
}

// learn finds all functions. It goes ahead of the rest, since one in a loop is there behind it even if that has no round (no text is read so).
func (b *builder) learn(l []api.Node) {
	for _, n := range l {
		switch n.K {
		case api.SFn:
			b.functions[n.S] = n
		case api.SFor:
			b.learn(n.L[min(2, len(n.L)):])
		}
	}
}

func (b *builder) statements(l []api.Node) {
	for _, n := range l {
		b.statement(n)
	}
}

func (b *builder) statement(n api.Node) {
	b.place = n.At
	switch n.K {
	case api.SSecret:
		b.Secrets = b.inputs(api.GSec, b.Secrets, n.P)
	case api.SPublic:
		b.Publics = b.inputs(api.GPub, b.Publics, n.P)
	case api.SLet:
		b.known[n.S] = meaning{gate: b.value(n)}
	case api.SOut, api.SShow:
		b.Outs = append(b.Outs, api.Out{Name: n.S, At: b.value(n)})
	case api.SFor:
		b.loop(n)
	}
}

// inputs makes gates of that kind, behind so many; it tells how many there are then.
func (b *builder) inputs(kind, ahead int, names []string) int {
	for k, s := range names {
		b.known[s] = meaning{gate: b.add(api.Gate{K: kind, N: uint32(ahead + k)})}
	}
	return ahead + len(names)
}

// value is the gate that a statement's expression comes to.
func (b *builder) value(n api.Node) int {
	return b.expr(at(n.L, 0), b.known)
}

func (b *builder) loop(n api.Node) {
	first, end := b.constant(at(n.L, 0)), b.constant(at(n.L, 1))
	for i := first; i < end; i++ {
		b.known[n.S] = meaning{loop: true, number: i}
		b.loops = append(b.loops, api.Out{Name: n.S, At: int(i)})
		b.statements(n.L[2:])
		b.loops = b.loops[:len(b.loops)-1]
	}
}

// constant is the number of n, which is a constant, as flow saw. In a function's expression no name is part of one, so that the loops around are of no matter there.
func (b *builder) constant(n api.Node) uint32 {
	number, _ := flow.Const(n, b.loops)
	return number
}

// add makes a gate; it tells which one it is.
func (b *builder) add(g api.Gate) int {
	if len(b.Gates) == api.MaxBuilt {
		panic(full{b.place})
	}
	g.Secret = gate.Secret(b.Gates, g)
	b.Gates = append(b.Gates, g)
	return len(b.Gates) - 1
}

func (b *builder) number(n uint32) int {
	return b.add(api.Gate{K: api.GConst, N: n})
}

// expr is the gate that n comes to. Nodes and signs that there are none of come to 0, as their words do.
func (b *builder) expr(n api.Node, known scope) int {
	switch n.K {
	case api.ENum:
		return b.number(n.N)
	case api.EName:
		return b.named(known[n.S])
	case api.EUn:
		return b.alone(n.S, b.expr(at(n.L, 0), known))
	case api.EBin:
		l := b.exprs(known, at(n.L, 0), at(n.L, 1))
		return b.both(n.S, l[0], l[1])
	case api.EShift:
		return b.shift(n.S, b.expr(at(n.L, 0), known), b.constant(at(n.L, 1)))
	case api.ECall:
		return b.call(n.S, b.exprs(known, n.L...))
	}
	return b.number(0)
}

// exprs is the gates that expressions come to, one by one.
func (b *builder) exprs(known scope, parts ...api.Node) []int {
	l := make([]int, len(parts))
	for k, part := range parts {
		l[k] = b.expr(part, known)
	}
	return l
}

func (b *builder) named(m meaning) int {
	if m.loop {
		return b.number(m.number)
	}
	return m.gate
}

func (b *builder) alone(s string, a int) int {
	switch s {
	case "~":
		return b.add(api.Gate{K: api.GNot, A: a})
	case "-":
		return b.add(api.Gate{K: api.GSub, A: b.number(0), B: a})
	}
	return b.number(0)
}

func (b *builder) both(s string, a, c int) int {
	kind := 0
	switch s {
	case "+":
		kind = api.GAdd
	case "-":
		kind = api.GSub
	case "&":
		kind = api.GAnd
	case "|":
		kind = api.GOr
	case "^":
		kind = api.GXor
	default:
		return b.number(0)
	}
	return b.add(api.Gate{K: kind, A: a, B: c})
}

func (b *builder) shift(s string, a int, by uint32) int {
	switch {
	case s == "<<<":
		return b.add(api.Gate{K: api.GRot, A: a, N: by % shifts})
	case s == "<<" && by < shifts:
		return b.add(api.Gate{K: api.GShl, A: a, N: by})
	case s == ">>" && by < shifts:
		return b.add(api.Gate{K: api.GShr, A: a, N: by})
	}
	// All bits went out.
	return b.number(0)
}

func (b *builder) call(s string, parts []int) int {
	if s == sel {
		return b.choice(parts[0], parts[1], parts[2])
	}
	f := b.functions[s]
	params := scope{}
	for k, param := range f.P {
		params[param] = meaning{gate: parts[k]}
	}
	return b.expr(at(f.L, 0), params)
}

// choice has the bits of a where m has ones, of c elsewhere.
func (b *builder) choice(m, a, c int) int {
	differs := b.add(api.Gate{K: api.GXor, A: a, B: c})
	chosen := b.add(api.Gate{K: api.GAnd, A: m, B: differs})
	return b.add(api.Gate{K: api.GXor, A: c, B: chosen})
}
