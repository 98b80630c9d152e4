package tests

import (
	"bytes"
	"go/ast"
	"go/format"
	"go/importer"
	"go/parser"
	"go/token"
	"go/types"
	"os"
	"path/filepath"
	"slices"
	"strings"
	"testing"
)

// source is the program as text, read once a test.
type source struct {
	set   *token.FileSet
	files map[string]*ast.File
	texts map[string][]byte
	info  *types.Info
}

func readSource(t *testing.T) source {
	t.Helper()
	s := source{token.NewFileSet(), map[string]*ast.File{}, map[string][]byte{}, &types.Info{Types: map[ast.Expr]types.TypeAndValue{}}}
	names, err := filepath.Glob("../impl/*.go")
	if err != nil || len(names) == 0 {
		t.Fatal("the program is not beside its tests", err)
	}
	var list []*ast.File
	for _, name := range names {
		text, err := os.ReadFile(name)
		if err != nil {
			t.Fatal(err)
		}
		file, err := parser.ParseFile(s.set, name, text, parser.ParseComments)
		if err != nil {
			t.Fatal(err)
		}
		s.files[filepath.Base(name)], s.texts[filepath.Base(name)] = file, text
		list = append(list, file)
	}
	check := types.Config{Importer: importer.ForCompiler(s.set, "source", nil)}
	if _, err := check.Check("impl", s.set, list, s.info); err != nil {
		t.Fatal(err)
	}
	return s
}

func TestProgramKeepsToTheLanguage(t *testing.T) {
	const allowed = " bytes cmp container/heap errors iter maps math math/bits slices sort strconv strings sync sync/atomic unicode unicode/utf8 "
	s := readSource(t)
	for name, file := range s.files {
		if laid, err := format.Source(s.texts[name]); err != nil || !bytes.Equal(laid, s.texts[name]) {
			t.Errorf("%s has not gofmt's layout", name)
		}
		for _, one := range file.Imports {
			if !strings.Contains(allowed, " "+strings.Trim(one.Path.Value, `"`)+" ") {
				t.Errorf("%s imports %s", name, one.Path.Value)
			}
		}
		for _, d := range file.Decls {
			f, ok := d.(*ast.FuncDecl)
			if ok && s.set.Position(f.End()).Line-s.set.Position(f.Pos()).Line >= 60 {
				t.Errorf("%s of %s has more than 60 lines", f.Name.Name, name)
			}
		}
	}
}

func TestNumbersAreUnsignedWhereTheyAreShifted(t *testing.T) {
	s := readSource(t)
	shifts := []token.Token{token.SHL, token.SHR, token.SHL_ASSIGN, token.SHR_ASSIGN}
	seen := 0
	check := func(at token.Pos, what ast.Expr) {
		kind, ok := s.info.Types[what].Type.Underlying().(*types.Basic)
		if !ok || kind.Info()&types.IsUnsigned == 0 {
			t.Errorf("%v: a number that is not unsigned is shifted", s.set.Position(at))
		}
		seen++
	}
	ast.Inspect(s.files["l01_wire.go"], func(n ast.Node) bool {
		switch x := n.(type) {
		case *ast.BinaryExpr:
			if slices.Contains(shifts, x.Op) {
				check(x.Pos(), x.X)
			}
		case *ast.AssignStmt:
			if slices.Contains(shifts, x.Tok) {
				check(x.Pos(), x.Lhs[0])
			}
		}
		return true
	})
	if seen == 0 {
		t.Error("nothing is shifted")
	}
}

func TestPiecesAreToldToVariadicFunctions(t *testing.T) {
	calls := 0
	s := readSource(t)
	ast.Inspect(s.files["l01_wire.go"], func(n ast.Node) bool {
		call, ok := n.(*ast.CallExpr)
		if !ok || call.Ellipsis.IsValid() || len(call.Args) < 2 {
			return true
		}
		if told, ok := s.info.Types[call.Fun].Type.(*types.Signature); ok && told.Variadic() && !s.info.Types[call.Fun].IsBuiltin() {
			calls++
		}
		return true
	})
	if calls == 0 {
		t.Error("no pieces are told to a variadic function")
	}
}
