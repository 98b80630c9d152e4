package tests

import (
	"math/rand"
	"slices"
	"testing"

	"loop.example/g00222/impl"
)

func cmdOf(kind, expect, name, addr, number, proto int64) impl.Cmd {
	return impl.Cmd{Kind: kind, Expect: expect, Name: name, Addr: addr, Number: number, Proto: proto}
}

// plainCmds has a command of each kind, without a fault.
func plainCmds() []impl.Cmd {
	return []impl.Cmd{
		cmdOf(impl.CmdBackend, -1, 3, 500, 2, 0), cmdOf(impl.CmdWeight, -1, 3, 0, 2, 0), cmdOf(impl.CmdStage, -1, 3, 0, 2, 0),
		cmdOf(impl.CmdForget, -1, 3, 0, 0, 0), cmdOf(impl.CmdVip, -1, 0, 9, 80, 6), cmdOf(impl.CmdNoVip, -1, 0, 9, 80, 6),
		cmdOf(impl.CmdAttach, -1, 3, 9, 80, 6), cmdOf(impl.CmdDetach, -1, 3, 9, 80, 6), cmdOf(impl.CmdUp, -1, 3, 0, 1, 0),
	}
}

// fieldsOf gives the fields that hang on the kind so that they can be turned: Name, Addr, Number, Proto.
func fieldsOf(x *impl.Cmd) [4]*int64 {
	return [4]*int64{&x.Name, &x.Addr, &x.Number, &x.Proto}
}

// rightNumbers are the bounds of what each kind needs, written out as in a table; what is not needed may be 0 alone.
// Of the protocols the two bounds are all that there is.
func rightNumbers(kind int64) (bounds [4][2]int64, needed [4]bool) {
	name, address, port, proto := [2]int64{1, 999}, [2]int64{0, 4294967295}, [2]int64{0, 65535}, [2]int64{6, 17}
	switch kind {
	case 1:
		return [4][2]int64{name, address, {0, 9}}, [4]bool{true, true, true, false}
	case 2:
		return [4][2]int64{name, {}, {0, 9}}, [4]bool{true, false, true, false}
	case 3:
		return [4][2]int64{name, {}, {1, 3}}, [4]bool{true, false, true, false}
	case 4:
		return [4][2]int64{name}, [4]bool{true, false, false, false}
	case 5, 6:
		return [4][2]int64{{}, address, port, proto}, [4]bool{false, true, true, true}
	case 7, 8:
		return [4][2]int64{name, address, port, proto}, [4]bool{true, true, true, true}
	}
	return [4][2]int64{name, {}, {0, 1}}, [4]bool{true, false, true, false}
}

// wantCmdFault asks each field by the bounds.
func wantCmdFault(x impl.Cmd) int64 {
	if !slices.Contains([]int64{1, 2, 3, 4, 5, 6, 7, 8, 9}, x.Kind) {
		return impl.ErrForm
	}
	bounds, needed := rightNumbers(x.Kind)
	off, extra := x.Expect < -1 || x.Expect > 1000000, false
	for i, field := range fieldsOf(&x) {
		outside := *field < bounds[i][0] || *field > bounds[i][1] || i == 3 && needed[3] && *field != 6 && *field != 17
		if needed[i] {
			off = off || outside
		} else {
			extra = extra || *field != 0
		}
	}
	switch {
	case off:
		return impl.ErrRange
	case extra:
		return impl.ErrForm
	}
	return impl.OK
}

// someCmd gives a command, often one that speaks of what a configuration has; now and then it has a fault.
func someCmd(random *rand.Rand, c impl.Config) impl.Cmd {
	kind := 1 + random.Int63n(9)
	at := someServed(random, c)
	x := cmdOf(kind, []int64{-1, -1, -1, c.Version, 0, 7, 1000000}[random.Intn(7)], someName(random, c), at.address, at.port, at.proto)
	bounds, needed := rightNumbers(kind)
	for i, field := range fieldsOf(&x) {
		if !needed[i] {
			*field = 0
		}
	}
	if kind != 4 && (kind < 5 || kind > 8) {
		x.Number = bounds[2][0] + random.Int63n(bounds[2][1]-bounds[2][0]+1)
	}
	if random.Intn(12) == 0 {
		*fieldsOf(&x)[random.Intn(4)] = []int64{-1, 0, 1, 2, 10, 1000, 65536, farthest + 1}[random.Intn(8)]
	}
	return x
}

func TestCmdFaultOfWhatHasNone(t *testing.T) {
	for _, plain := range plainCmds() {
		for _, expect := range []int64{-1, 0, 1, 500, 999999, 1000000} {
			x := plain
			x.Expect = expect
			if code := impl.CmdFault(x); code != impl.OK {
				t.Errorf("the fault of %v is %d", x, code)
			}
		}
		bounds, _ := rightNumbers(plain.Kind)
		for i := range 4 {
			for _, right := range bounds[i] {
				x := plain
				*fieldsOf(&x)[i] = right
				if code := impl.CmdFault(x); code != impl.OK {
					t.Errorf("the fault of %v is %d", x, code)
				}
			}
		}
	}
}

func TestCmdFaultOfAKindThatIsNone(t *testing.T) {
	for _, kind := range append([]int64{0, 10, 11, 255, 256}, farNumbers...) {
		for _, plain := range plainCmds() {
			plain.Kind = kind
			if code := impl.CmdFault(plain); code != impl.ErrForm {
				t.Errorf("the fault of %v is %d", plain, code)
			}
		}
		// The kind is asked ahead of what is expected, and of all fields.
		if code := impl.CmdFault(cmdOf(kind, -2, -1, -1, -1, -1)); code != impl.ErrForm {
			t.Errorf("the fault of kind %d and all else is %d", kind, code)
		}
	}
	if code := impl.CmdFault(impl.Cmd{}); code != impl.ErrForm {
		t.Errorf("the fault of the empty command is %d", code)
	}
}

func TestCmdFaultOfNumbersThatAreNotSo(t *testing.T) {
	for _, plain := range plainCmds() {
		for _, expect := range []int64{-2, 1000001, -1 << 63, 1<<63 - 1, 1 << 32} {
			x := plain
			x.Expect = expect
			if code := impl.CmdFault(x); code != impl.ErrRange {
				t.Errorf("the fault of %v is %d", x, code)
			}
		}
		bounds, needed := rightNumbers(plain.Kind)
		for i := range 4 {
			wrong := append([]int64{bounds[i][0] - 1, bounds[i][1] + 1}, farNumbers...)
			if i == 3 {
				wrong = append(wrong, 1, 7, 16, 47)
			}
			for _, n := range wrong {
				x := plain
				*fieldsOf(&x)[i] = n
				want := int64(impl.ErrForm)
				if needed[i] {
					want = impl.ErrRange
				}
				if code := impl.CmdFault(x); code != want {
					t.Errorf("the fault of %v is %d, not %d", x, code, want)
				}
			}
		}
	}
}

func TestCmdFaultIsTheFirstOne(t *testing.T) {
	for want, list := range map[int64][]impl.Cmd{
		impl.ErrRange: {
			// What is expected, then what is needed, both ahead of what is not needed.
			cmdOf(impl.CmdForget, -2, 3, 1, 0, 0), cmdOf(impl.CmdForget, -1, 0, 1, 1, 1), cmdOf(impl.CmdForget, -1, 1000, 1, 1, 1),
			cmdOf(impl.CmdWeight, -1, 3, 500, 10, 0), cmdOf(impl.CmdStage, -1, 3, 500, 0, 6), cmdOf(impl.CmdUp, -1, 3, 500, 2, 6),
			cmdOf(impl.CmdBackend, -1, 3, 500, 10, 6), cmdOf(impl.CmdVip, -1, 3, 9, 80, 7), cmdOf(impl.CmdNoVip, -1, -1, 9, 65536, 6),
			cmdOf(impl.CmdBackend, 1000001, 3, 500, 2, 6), cmdOf(impl.CmdVip, -1, 1000, -1, 80, 6),
		},
		impl.ErrForm: {
			cmdOf(impl.CmdForget, -1, 3, 0, 1, 0), cmdOf(impl.CmdForget, -1, 3, 1, 0, 0), cmdOf(impl.CmdForget, -1, 3, 0, 0, 6),
			cmdOf(impl.CmdBackend, -1, 3, 500, 2, 6), cmdOf(impl.CmdWeight, -1, 3, 500, 2, 0), cmdOf(impl.CmdWeight, -1, 3, 0, 2, 17),
			cmdOf(impl.CmdStage, -1, 3, -1, 2, 0), cmdOf(impl.CmdStage, -1, 3, 0, 2, -1), cmdOf(impl.CmdUp, -1, 3, 1, 1, 0),
			cmdOf(impl.CmdUp, -1, 3, 0, 1, 6), cmdOf(impl.CmdVip, -1, 3, 9, 80, 6), cmdOf(impl.CmdNoVip, -1, -3, 9, 80, 6),
			cmdOf(10, -2, 0, -1, -1, 5), cmdOf(0, -2, 0, 0, 0, 0),
		},
	} {
		for _, x := range list {
			if code := impl.CmdFault(x); code != want {
				t.Errorf("the fault of %v is %d, not %d", x, code, want)
			}
		}
	}
}

func TestCmdFaultOfManyCommands(t *testing.T) {
	random := rand.New(rand.NewSource(51))
	numbers := []int64{-2, -1, 0, 1, 2, 3, 4, 6, 9, 10, 17, 80, 999, 1000, 65535, 65536, 1000000, 1000001, farthest, farthest + 1}
	one := func() int64 { return numbers[random.Intn(len(numbers))] }
	codes := map[int64]int{}
	for i := range 60000 {
		x := cmdOf(random.Int63n(12)-1, one(), one(), one(), one(), one())
		if i%2 == 0 {
			x = someCmd(random, plainConfig())
			*fieldsOf(&x)[random.Intn(4)] = one()
		}
		if code, want := impl.CmdFault(x), wantCmdFault(x); code != want {
			t.Fatalf("the fault of %v is %d, not %d", x, code, want)
		}
		codes[wantCmdFault(x)]++
	}
	if codes[impl.OK] < 1000 || codes[impl.ErrForm] < 1000 || codes[impl.ErrRange] < 1000 {
		t.Errorf("the faults are %v", codes)
	}
}
