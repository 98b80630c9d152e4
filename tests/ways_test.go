package tests

import (
	"bytes"
	"go/ast"
	"go/format"
	"go/importer"
	"go/parser"
	"go/token"
	"go/types"
	"os"
	"path/filepath"
	"slices"
	"strings"
	"testing"

	"loop.example/g00222/impl"
)

// source is the program as text, read once a test.
type source struct {
	set   *token.FileSet
	files map[string]*ast.File
	texts map[string][]byte
	info  *types.Info
}

func readSource(t *testing.T) source {
	t.Helper()
	s := source{token.NewFileSet(), map[string]*ast.File{}, map[string][]byte{}, &types.Info{
		Types: map[ast.Expr]types.TypeAndValue{}, Selections: map[*ast.SelectorExpr]*types.Selection{},
	}}
	names, err := filepath.Glob("../impl/*.go")
	if err != nil || len(names) == 0 {
		t.Fatal("the program is not beside its tests", err)
	}
	var list []*ast.File
	for _, name := range names {
		text, err := os.ReadFile(name)
		if err != nil {
			t.Fatal(err)
		}
		file, err := parser.ParseFile(s.set, name, text, parser.ParseComments)
		if err != nil {
			t.Fatal(err)
		}
		s.files[filepath.Base(name)], s.texts[filepath.Base(name)] = file, text
		list = append(list, file)
	}
	check := types.Config{Importer: importer.ForCompiler(s.set, "source", nil)}
	if _, err := check.Check("impl", s.set, list, s.info); err != nil {
		t.Fatal(err)
	}
	return s
}

func TestProgramKeepsToTheLanguage(t *testing.T) {
	const allowed = " bytes cmp container/heap errors iter maps math math/bits slices sort strconv strings sync sync/atomic unicode unicode/utf8 "
	s := readSource(t)
	for name, file := range s.files {
		if laid, err := format.Source(s.texts[name]); err != nil || !bytes.Equal(laid, s.texts[name]) {
			t.Errorf("%s has not gofmt's layout", name)
		}
		for _, one := range file.Imports {
			if !strings.Contains(allowed, " "+strings.Trim(one.Path.Value, `"`)+" ") {
				t.Errorf("%s imports %s", name, one.Path.Value)
			}
		}
		for _, d := range file.Decls {
			f, ok := d.(*ast.FuncDecl)
			if ok && s.set.Position(f.End()).Line-s.set.Position(f.Pos()).Line >= 60 {
				t.Errorf("%s of %s has more than 60 lines", f.Name.Name, name)
			}
		}
	}
}

func TestNumbersAreUnsignedWhereTheyAreShifted(t *testing.T) {
	s := readSource(t)
	shifts := []token.Token{token.SHL, token.SHR, token.SHL_ASSIGN, token.SHR_ASSIGN}
	seen := 0
	check := func(at token.Pos, what ast.Expr) {
		kind, ok := s.info.Types[what].Type.Underlying().(*types.Basic)
		if !ok || kind.Info()&types.IsUnsigned == 0 {
			t.Errorf("%v: a number that is not unsigned is shifted", s.set.Position(at))
		}
		seen++
	}
	ast.Inspect(s.files["l01_wire.go"], func(n ast.Node) bool {
		switch x := n.(type) {
		case *ast.BinaryExpr:
			if slices.Contains(shifts, x.Op) {
				check(x.Pos(), x.X)
			}
		case *ast.AssignStmt:
			if slices.Contains(shifts, x.Tok) {
				check(x.Pos(), x.Lhs[0])
			}
		}
		return true
	})
	if seen == 0 {
		t.Error("nothing is shifted")
	}
}

func TestPiecesAreToldToVariadicFunctions(t *testing.T) {
	calls := 0
	s := readSource(t)
	ast.Inspect(s.files["l01_wire.go"], func(n ast.Node) bool {
		call, ok := n.(*ast.CallExpr)
		if !ok || call.Ellipsis.IsValid() || len(call.Args) < 2 {
			return true
		}
		if told, ok := s.info.Types[call.Fun].Type.(*types.Signature); ok && told.Variadic() && !s.info.Types[call.Fun].IsBuiltin() {
			calls++
		}
		return true
	})
	if calls == 0 {
		t.Error("no pieces are told to a variadic function")
	}
}

// declared gives the functions of a file by their names.
func declared(file *ast.File) map[string]*ast.FuncDecl {
	found := map[string]*ast.FuncDecl{}
	for _, d := range file.Decls {
		if f, ok := d.(*ast.FuncDecl); ok {
			found[f.Name.Name] = f
		}
	}
	return found
}

// callsOf counts the calls of a function by its plain name.
func callsOf(n ast.Node, name string) int {
	calls := 0
	ast.Inspect(n, func(n ast.Node) bool {
		if call, ok := n.(*ast.CallExpr); ok {
			if f, ok := call.Fun.(*ast.Ident); ok && f.Name == name {
				calls++
			}
		}
		return true
	})
	return calls
}

// recoversDeferred counts the deferred function literals that recover.
func recoversDeferred(n ast.Node) int {
	count := 0
	ast.Inspect(n, func(n ast.Node) bool {
		if d, ok := n.(*ast.DeferStmt); ok {
			if f, ok := d.Call.Fun.(*ast.FuncLit); ok {
				count += callsOf(f, "recover")
			}
		}
		return true
	})
	return count
}

func TestWhatCannotBeReadIsAPanicRecoveredAtTheFace(t *testing.T) {
	functions := declared(readSource(t).files["l02_packet.go"])
	panics := 0
	for name, f := range functions {
		if ast.IsExported(name) && callsOf(f, "panic") > 0 {
			t.Errorf("%s panics itself", name)
		}
		if callsOf(f, "recover") != recoversDeferred(f) || !ast.IsExported(name) && callsOf(f, "recover") > 0 {
			t.Errorf("%s recovers elsewhere than in a deferred literal at the face", name)
		}
		panics += callsOf(f, "panic")
	}
	if panics == 0 {
		t.Error("nothing is a panic")
	}
	for _, name := range []string{"ParsePacket", "UnwrapGre"} {
		if recoversDeferred(functions[name]) != 1 {
			t.Errorf("%s recovers nothing", name)
		}
	}
}

func TestHeadsAreArraysThatAreCopiedWhole(t *testing.T) {
	s := readSource(t)
	taken, given := 0, 0
	isHead := func(field *ast.Field) int {
		list, ok := s.info.Types[field.Type].Type.Underlying().(*types.Array)
		if ok && list.Len() == 20 {
			return 1
		}
		return 0
	}
	for _, f := range declared(s.files["l02_packet.go"]) {
		for _, field := range f.Type.Params.List {
			taken += isHead(field)
		}
		if f.Type.Results != nil {
			for _, field := range f.Type.Results.List {
				given += isHead(field)
			}
		}
	}
	if taken == 0 || given == 0 {
		t.Errorf("heads are taken as arrays by %d functions and given by %d", taken, given)
	}
}

func TestOrdersAreIteratorsThatAreRangedOver(t *testing.T) {
	s := readSource(t)
	functions := declared(s.files["l03_hash.go"])
	isIterator := func(what ast.Expr) bool {
		_, ok := s.info.Types[what].Type.Underlying().(*types.Signature)
		return ok
	}
	given := 0
	for _, f := range functions {
		if f.Type.Results != nil && isIterator(f.Type.Results.List[0].Type) {
			given++
		}
	}
	ranged := 0
	ast.Inspect(functions["Permutation"], func(n ast.Node) bool {
		if loop, ok := n.(*ast.RangeStmt); ok && isIterator(loop.X) {
			ranged++
		}
		return true
	})
	if given == 0 || ranged == 0 {
		t.Errorf("%d functions give an order as an iterator, and Permutation ranges over %d", given, ranged)
	}
}

func TestSharesTakeTurnsByClosures(t *testing.T) {
	s := readSource(t)
	functions := declared(s.files["l04_table.go"])
	given := 0
	for _, f := range functions {
		ast.Inspect(f, func(n ast.Node) bool {
			back, ok := n.(*ast.ReturnStmt)
			if !ok || len(back.Results) != 1 {
				return true
			}
			if _, ok := back.Results[0].(*ast.FuncLit); ok {
				given++
			}
			return true
		})
	}
	called := 0
	ast.Inspect(functions["FillTable"], func(n ast.Node) bool {
		loop, ok := n.(*ast.RangeStmt)
		if !ok {
			return true
		}
		if list, ok := s.info.Types[loop.X].Type.Underlying().(*types.Slice); ok {
			if _, ok := list.Elem().Underlying().(*types.Signature); ok {
				called += callsOf(loop.Body, loop.Value.(*ast.Ident).Name)
			}
		}
		return true
	})
	if given == 0 || called == 0 {
		t.Errorf("%d closures are given, and FillTable calls %d that it ranges over", given, called)
	}
}

func TestALabelLeavesTheRounds(t *testing.T) {
	left := 0
	ast.Inspect(declared(readSource(t).files["l04_table.go"])["FillTable"], func(n ast.Node) bool {
		rounds, ok := n.(*ast.LabeledStmt)
		if !ok {
			return true
		}
		ast.Inspect(rounds, func(n ast.Node) bool {
			leave, ok := n.(*ast.BranchStmt)
			if ok && leave.Tok == token.BREAK && leave.Label != nil && leave.Label.Name == rounds.Label.Name {
				left++
			}
			return true
		})
		return true
	})
	if left == 0 {
		t.Error("no label leaves the rounds")
	}
}

// holdsFunctions tells whether a type is a function, or a struct with fields that are.
func holdsFunctions(what types.Type) bool {
	switch kind := what.Underlying().(type) {
	case *types.Signature:
		return true
	case *types.Struct:
		for field := range kind.Fields() {
			if _, ok := field.Type().Underlying().(*types.Signature); ok {
				return true
			}
		}
	}
	return false
}

// isFunctionTable tells whether a literal is a table of function values with a key for each row.
func isFunctionTable(s source, table *ast.CompositeLit) bool {
	var row types.Type
	switch kind := s.info.Types[table].Type.Underlying().(type) {
	case *types.Array:
		row = kind.Elem()
	case *types.Slice:
		row = kind.Elem()
	case *types.Map:
		row = kind.Elem()
	default:
		return false
	}
	if !holdsFunctions(row) {
		return false
	}
	for _, one := range table.Elts {
		if _, ok := one.(*ast.KeyValueExpr); !ok {
			return false
		}
	}
	return true
}

func TestCommandsAreFunctionValuesInATableInAFunction(t *testing.T) {
	s := readSource(t)
	file := s.files["l05_config.go"]
	tables := 0
	for _, f := range declared(file) {
		ast.Inspect(f, func(n ast.Node) bool {
			if table, ok := n.(*ast.CompositeLit); ok && isFunctionTable(s, table) && len(table.Elts) == 9 {
				tables++
			}
			return true
		})
	}
	if tables != 1 {
		t.Errorf("%d tables have a row for each kind of commands", tables)
	}
	for _, d := range file.Decls {
		if one, ok := d.(*ast.GenDecl); ok && one.Tok == token.VAR {
			t.Error("a variable stands outside of the functions")
		}
	}
}

func TestStagesAreConstantsWithIota(t *testing.T) {
	counted := map[string]bool{}
	for _, d := range readSource(t).files["l05_config.go"].Decls {
		list, ok := d.(*ast.GenDecl)
		if !ok || list.Tok != token.CONST {
			continue
		}
		iotas := 0
		ast.Inspect(list, func(n ast.Node) bool {
			if name, ok := n.(*ast.Ident); ok && name.Name == "iota" {
				iotas++
			}
			return true
		})
		for _, one := range list.Specs {
			counted[one.(*ast.ValueSpec).Names[0].Name] = iotas > 0
		}
	}
	if !counted["StageOn"] || !counted["StageDrain"] || !counted["StageOff"] {
		t.Error("the stages are not counted by iota")
	}
	if impl.StageOn != 1 || impl.StageDrain != 2 || impl.StageOff != 3 {
		t.Error("the stages have other numbers")
	}
}

// embeddingBytes tells whether a type is a struct that embeds bytes, or what keeps bytes.
func embeddingBytes(what types.Type) bool {
	whole, ok := what.Underlying().(*types.Struct)
	if !ok {
		return false
	}
	for field := range whole.Fields() {
		if field.Embedded() && keepsBytes(field.Type()) {
			return true
		}
	}
	return false
}

func keepsBytes(what types.Type) bool {
	switch kind := what.Underlying().(type) {
	case *types.Slice:
		return types.Identical(kind.Elem(), types.Typ[types.Byte])
	case *types.Struct:
		for field := range kind.Fields() {
			if keepsBytes(field.Type()) {
				return true
			}
		}
	}
	return false
}

func TestAReaderEmbedsItsBytesAndTheirMethodsArePromoted(t *testing.T) {
	s := readSource(t)
	promoted := 0
	ast.Inspect(s.files["l06_codec.go"], func(n ast.Node) bool {
		call, ok := n.(*ast.CallExpr)
		if !ok {
			return true
		}
		chosen, ok := call.Fun.(*ast.SelectorExpr)
		if !ok || s.info.Selections[chosen] == nil {
			return true
		}
		one := s.info.Selections[chosen]
		owner := one.Recv()
		if pointer, ok := owner.(*types.Pointer); ok {
			owner = pointer.Elem()
		}
		if one.Kind() == types.MethodVal && len(one.Index()) > 1 && embeddingBytes(owner) {
			promoted++
		}
		return true
	})
	if promoted == 0 {
		t.Error("no reader embeds its bytes and has their methods promoted")
	}
}

// isStruct tells whether a type is the struct of a name.
func isStruct(what types.Type, name string) bool {
	named, ok := types.Unalias(what).(*types.Named)
	if !ok || named.Obj().Name() != name {
		return false
	}
	_, ok = named.Underlying().(*types.Struct)
	return ok
}

func TestALogIsAGenericList(t *testing.T) {
	s := readSource(t)
	file := s.files["l07_log.go"]
	generic := map[string]bool{}
	for _, d := range file.Decls {
		if list, ok := d.(*ast.GenDecl); ok && list.Tok == token.TYPE {
			for _, one := range list.Specs {
				spec := one.(*ast.TypeSpec)
				_, isList := spec.Type.(*ast.ArrayType)
				generic[spec.Name.Name] = spec.TypeParams != nil && isList
			}
		}
	}
	ofEntries := 0
	for _, f := range declared(file) {
		ast.Inspect(f, func(n ast.Node) bool {
			one, ok := n.(*ast.IndexExpr)
			if !ok || !s.info.Types[one].IsType() {
				return true
			}
			if name, ok := one.X.(*ast.Ident); ok && generic[name.Name] && isStruct(s.info.Types[one.Index].Type, "Entry") {
				ofEntries++
			}
			return true
		})
	}
	if ofEntries == 0 {
		t.Error("no generic list is one of entries")
	}
}

func TestEntriesAreComparedAsStructs(t *testing.T) {
	s := readSource(t)
	compared := 0
	ast.Inspect(s.files["l07_log.go"], func(n ast.Node) bool {
		one, ok := n.(*ast.BinaryExpr)
		if ok && (one.Op == token.EQL || one.Op == token.NEQ) && isStruct(s.info.Types[one.X].Type, "Entry") {
			compared++
		}
		return true
	})
	if compared == 0 {
		t.Error("no entries are compared as structs")
	}
}

func TestMailsAreATypeSwitchOverAnInterface(t *testing.T) {
	s := readSource(t)
	switched := 0
	ast.Inspect(s.files["l08_node.go"], func(n ast.Node) bool {
		if one, ok := n.(*ast.TypeSwitchStmt); ok && len(one.Body.List) == 4 {
			switched++
		}
		return true
	})
	if switched != 1 {
		t.Errorf("%d type switches have a case for each kind of mails", switched)
	}
}

func TestOnceThereIsASingleAssertionOfTwoValues(t *testing.T) {
	s := readSource(t)
	asserted, whereItHolds := 0, 0
	ast.Inspect(s.files["l08_node.go"], func(n ast.Node) bool {
		switch one := n.(type) {
		case *ast.TypeAssertExpr:
			if one.Type != nil {
				asserted++
			}
		case *ast.IfStmt:
			// What it gives is there only where the second value, which is all that is asked, is true.
			given, ok := one.Init.(*ast.AssignStmt)
			if !ok || len(given.Lhs) != 2 || one.Else != nil {
				return true
			}
			asked, isName := one.Cond.(*ast.Ident)
			second, isSecond := given.Lhs[1].(*ast.Ident)
			if _, ok := given.Rhs[0].(*ast.TypeAssertExpr); ok && isName && isSecond && asked.Name == second.Name {
				whereItHolds++
			}
		}
		return true
	})
	if asserted != 1 || whereItHolds != 1 {
		t.Errorf("there are %d assertions, and %d of them are of two values, used where they hold", asserted, whereItHolds)
	}
}

func TestWhatNodesDoAreMethodValues(t *testing.T) {
	s := readSource(t)
	functions := declared(s.files["l09_cluster.go"])
	for _, name := range []string{"DeliverMail", "TimeoutAt", "SpreadAt", "AskAt", "CrashAt"} {
		handed := 0
		ast.Inspect(functions[name], func(n ast.Node) bool {
			call, ok := n.(*ast.CallExpr)
			if !ok {
				return true
			}
			for _, argument := range call.Args {
				chosen, ok := argument.(*ast.SelectorExpr)
				if ok && s.info.Selections[chosen] != nil && s.info.Selections[chosen].Kind() == types.MethodVal {
					handed++
				}
			}
			return true
		})
		if handed != 1 {
			t.Errorf("%s hands %d method values on", name, handed)
		}
	}
}

func TestMailsAreCopied(t *testing.T) {
	if callsOf(readSource(t).files["l09_cluster.go"], "copy") == 0 {
		t.Error("nothing is copied")
	}
}

// rangesOverIntegers counts the loops over numbers.
func rangesOverIntegers(s source, n ast.Node) int {
	count := 0
	ast.Inspect(n, func(n ast.Node) bool {
		if loop, ok := n.(*ast.RangeStmt); ok {
			if kind, ok := s.info.Types[loop.X].Type.Underlying().(*types.Basic); ok && kind.Info()&types.IsInteger != 0 {
				count++
			}
		}
		return true
	})
	return count
}

func TestPairsOfLogsAreGoneThroughByRangesOverIntegersAndAGenericFunction(t *testing.T) {
	s := readSource(t)
	functions := declared(s.files["l10_audit.go"])
	called := 0
	for name, f := range functions {
		// Each element is met with each one ahead of it.
		if f.Type.TypeParams != nil && rangesOverIntegers(s, f) == 2 {
			called += callsOf(functions["LogsMatch"], name)
		}
	}
	if called != 1 {
		t.Errorf("LogsMatch calls %d generic functions that range over integers", called)
	}
	plain := 0
	for _, f := range functions {
		if f.Type.TypeParams == nil {
			plain += rangesOverIntegers(s, f)
		}
	}
	if plain == 0 {
		t.Error("no log is gone through by a range over an integer")
	}
}

// isMapOf tells whether a type is a map whose values are the structs of a name.
func isMapOf(what types.Type, name string) bool {
	kind, ok := what.Underlying().(*types.Map)
	return ok && isStruct(kind.Elem(), name)
}

func TestSessionsAreAMapToldInOrder(t *testing.T) {
	s := readSource(t)
	looked, kept, sorted := 0, 0, 0
	ast.Inspect(s.files["l11_machine.go"], func(n ast.Node) bool {
		switch one := n.(type) {
		case *ast.IndexExpr:
			if isMapOf(s.info.Types[one.X].Type, "Session") {
				looked++
			}
		case *ast.AssignStmt:
			if place, ok := one.Lhs[0].(*ast.IndexExpr); ok && isMapOf(s.info.Types[place.X].Type, "Session") {
				kept++
			}
		case *ast.RangeStmt:
			if _, ok := s.info.Types[one.X].Type.Underlying().(*types.Map); ok {
				t.Errorf("%v: a map is gone through in an order that is none", s.set.Position(one.Pos()))
			}
		case *ast.CallExpr:
			if name := types.ExprString(one.Fun); strings.HasPrefix(name, "slices.Sorted") && len(one.Args) > 0 {
				if keys, ok := one.Args[0].(*ast.CallExpr); ok && types.ExprString(keys.Fun) == "maps.Keys" && isMapOf(s.info.Types[keys.Args[0]].Type, "Session") {
					sorted++
				}
			}
		}
		return true
	})
	if looked == kept || kept == 0 || sorted == 0 {
		t.Errorf("of %d sessions in a map %d are kept there, and %d times they are told in order", looked, kept, sorted)
	}
}

func TestVerdictsAreStructKeysOfAMapAndThoseOfThePastDeleted(t *testing.T) {
	s := readSource(t)
	kept, deleted := 0, 0
	hasVerdicts := func(what ast.Expr) bool {
		kind, ok := s.info.Types[what].Type.Underlying().(*types.Map)
		return ok && isStruct(kind.Key(), "Verdict")
	}
	ast.Inspect(s.files["l12_health.go"], func(n ast.Node) bool {
		switch one := n.(type) {
		case *ast.AssignStmt:
			if place, ok := one.Lhs[0].(*ast.IndexExpr); ok && hasVerdicts(place.X) {
				kept++
			}
		case *ast.CallExpr:
			if types.ExprString(one.Fun) == "delete" && hasVerdicts(one.Args[0]) {
				deleted++
			}
		}
		return true
	})
	if kept == 0 || deleted == 0 {
		t.Errorf("verdicts are kept as keys in %d places, and deleted in %d", kept, deleted)
	}
}

func TestAnUpdateThatCannotBeTakenIsAnErrorAskedByErrorsAs(t *testing.T) {
	s := readSource(t)
	functions := declared(s.files["l13_watch.go"])
	isError := func(what ast.Expr) bool { return types.TypeString(s.info.Types[what].Type, nil) == "error" }
	given := map[string]bool{}
	for name, f := range functions {
		if results := f.Type.Results; results != nil && isError(results.List[len(results.List)-1].Type) {
			given[name] = true
		}
	}
	asked := ""
	for name, f := range functions {
		ast.Inspect(f, func(n ast.Node) bool {
			if call, ok := n.(*ast.CallExpr); ok && types.ExprString(call.Fun) == "errors.As" && isError(call.Args[0]) {
				asked = name
			}
			return true
		})
	}
	if asked == "" {
		t.Fatal("no error is asked by errors.As")
	}
	// The faces ask so of what the inner functions give.
	for _, face := range []string{"StepUpdate", "TakeUpdate", "TakeMany"} {
		errs := 0
		for name := range given {
			errs += callsOf(functions[face], name)
		}
		if errs == 0 || callsOf(functions[face], asked) == 0 {
			t.Errorf("%s meets %d errors, and asks for %d", face, errs, callsOf(functions[face], asked))
		}
	}
}

func TestWhatBecomesOfAPacketIsAMachineWithGoto(t *testing.T) {
	states, jumps := map[string]int{}, 0
	ast.Inspect(declared(readSource(t).files["l14_mux.go"])["ForwardMux"], func(n ast.Node) bool {
		switch one := n.(type) {
		case *ast.LabeledStmt:
			states[one.Label.Name]++
		case *ast.BranchStmt:
			if one.Tok == token.GOTO {
				jumps++
			}
		}
		return true
	})
	// A packet is sent or dropped, and there is more than one way to one of these.
	if len(states) < 2 || jumps <= len(states) {
		t.Errorf("there are %d jumps to the states %v", jumps, states)
	}
}

func TestTheCacheIsCleared(t *testing.T) {
	s := readSource(t)
	cleared := 0
	ast.Inspect(s.files["l14_mux.go"], func(n ast.Node) bool {
		call, ok := n.(*ast.CallExpr)
		if !ok || types.ExprString(call.Fun) != "clear" {
			return true
		}
		if list, ok := s.info.Types[call.Args[0]].Type.Underlying().(*types.Slice); ok && isStruct(list.Elem(), "Held") {
			cleared++
		}
		return true
	})
	if cleared == 0 {
		t.Error("no list of what is held is cleared")
	}
}
