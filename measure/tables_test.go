// Package measure_test holds the project's source against a bound that no answer shows: how many package-level tables one call reaches.
package measure_test

import (
	"go/ast"
	"go/importer"
	"go/parser"
	"go/token"
	"go/types"
	"math"
	"os"
	"path/filepath"
	"strings"
	"testing"
)

// module: how the paths of the project's packages begin.
const module = "atlas/"

// How much of what one table may hold it is: so many numbers of up to 16 bits, or of any that are small; words; long words; texts; rows.
const (
	mostSmall = 250.0
	mostWords = 200.0
	mostLong  = 150.0
	mostTexts = 140.0
	mostRows  = 50.0
)

// most: of what one table may hold, all that one call may reach, which is 2, less what the library's own tables take.
const most = 2 - 0.6

// source: packages as they are written, each one with what it imports.
type source struct {
	root    string
	given   map[string]string // the text of a package, by its path, where it is not read
	fset    *token.FileSet
	info    types.Info
	checked map[string]*types.Package
	bodies  map[types.Object]ast.Node // of functions, and of package-level variables
	library types.Importer
}

func newSource(root string, given map[string]string) *source {
	fset := token.NewFileSet()
	return &source{
		root: root, given: given, fset: fset,
		info:    types.Info{Defs: map[*ast.Ident]types.Object{}, Uses: map[*ast.Ident]types.Object{}},
		checked: map[string]*types.Package{},
		bodies:  map[types.Object]ast.Node{},
		library: importer.ForCompiler(fset, "source", nil),
	}
}

// Import: a package, checked.
func (s *source) Import(path string) (*types.Package, error) {
	if !strings.HasPrefix(path, module) {
		return s.library.Import(path)
	}
	if p := s.checked[path]; p != nil {
		return p, nil
	}
	files, err := s.parse(path)
	if err != nil {
		return nil, err
	}
	p, err := (&types.Config{Importer: s}).Check(path, s.fset, files, &s.info)
	s.checked[path] = p
	for _, f := range files {
		s.keep(f)
	}
	return p, err
}

// parse: its files, but for tests.
func (s *source) parse(path string) (files []*ast.File, err error) {
	if text, ok := s.given[path]; ok {
		f, err := parser.ParseFile(s.fset, path, text, 0)
		return []*ast.File{f}, err
	}
	names, _ := filepath.Glob(filepath.Join(s.root, strings.TrimPrefix(path, module), "*.go"))
	for _, name := range names {
		if strings.HasSuffix(name, "_test.go") {
			continue
		}
		f, err := parser.ParseFile(s.fset, name, nil, 0)
		if err != nil {
			return nil, err
		}
		files = append(files, f)
	}
	return files, nil
}

// keep: the bodies of a file.
func (s *source) keep(f *ast.File) {
	for _, d := range f.Decls {
		switch d := d.(type) {
		case *ast.FuncDecl:
			s.bodies[s.info.Defs[d.Name]] = d
		case *ast.GenDecl:
			for _, spec := range d.Specs {
				if v, ok := spec.(*ast.ValueSpec); ok && d.Tok == token.VAR {
					for _, name := range v.Names {
						s.bodies[s.info.Defs[name]] = v
					}
				}
			}
		}
	}
}

// reach: all functions and variables that one leads to, itself among them.
func (s *source) reach(from types.Object) map[types.Object]bool {
	met := map[types.Object]bool{from: true}
	for left := []types.Object{from}; len(left) > 0; left = left[1:] {
		ast.Inspect(s.bodies[left[0]], func(n ast.Node) bool {
			name, ok := n.(*ast.Ident)
			if !ok {
				return true
			}
			for _, o := range s.meant(s.info.Uses[name]) {
				if s.bodies[o] != nil && !met[o] {
					met[o] = true
					left = append(left, o)
				}
			}
			return true
		})
	}
	return met
}

// meant: what a name that is used may stand for: of a method of an interface, that of every type that has it.
func (s *source) meant(o types.Object) []types.Object {
	f, ok := o.(*types.Func)
	if !ok {
		return []types.Object{o}
	}
	receiver := f.Signature().Recv()
	if receiver == nil || !types.IsInterface(receiver.Type()) {
		return []types.Object{f.Origin()}
	}
	var all []types.Object
	for _, p := range s.checked {
		for _, name := range p.Scope().Names() {
			if t, ok := p.Scope().Lookup(name).(*types.TypeName); ok && !types.IsInterface(t.Type()) {
				if m := method(types.NewPointer(t.Type()), receiver.Type(), f.Name()); m != nil {
					all = append(all, m)
				}
			}
		}
	}
	return all
}

// method: of a type that has all of the interface's; nil, if it has not.
func method(t, face types.Type, name string) types.Object {
	i, ok := face.Underlying().(*types.Interface)
	if !ok || !types.Implements(t, i) {
		return nil
	}
	m, _, _ := types.LookupFieldOrMethod(t, false, nil, name)
	if m == nil {
		return nil
	}
	return m
}

// size: of a table, in parts of what one may hold.
func (s *source) size(v types.Object) float64 {
	switch t := v.Type().Underlying().(type) {
	case *types.Array:
		return elements(t.Elem(), float64(t.Len()))
	case *types.Slice, *types.Map:
		return 1 // it would have to be looked into; the project has none
	case *types.Struct:
		return 1 / mostRows
	}
	return 0
}

func elements(t types.Type, n float64) float64 {
	switch t := t.Underlying().(type) {
	case *types.Array:
		return elements(t.Elem(), n*float64(t.Len()))
	case *types.Basic:
		switch {
		case t.Info()&types.IsString != 0:
			return n / mostTexts
		case t.Kind() == types.Int32, t.Kind() == types.Uint32:
			return n / mostWords
		case t.Kind() == types.Int64, t.Kind() == types.Uint64:
			return n / mostLong
		}
		return n / mostSmall
	}
	return n / mostRows
}

// reached: how much a call reaches.
func (s *source) reached(call types.Object) (sum float64) {
	for o := range s.reach(call) {
		if _, ok := o.(*types.Var); ok {
			sum += s.size(o)
		}
	}
	return sum
}

// calls: the exported functions and methods.
func (s *source) calls() (l []types.Object) {
	for o := range s.bodies {
		if _, ok := o.(*types.Func); ok && o.Exported() {
			l = append(l, o)
		}
	}
	return l
}

// TestTables: no call of a package reaches more than the bound, and no table is beyond what one may hold.
func TestTables(t *testing.T) {
	s := newSource("..", nil)
	folders, err := os.ReadDir("..")
	if err != nil {
		t.Fatal(err)
	}
	for _, folder := range folders {
		if names, _ := filepath.Glob(filepath.Join("..", folder.Name(), "*.go")); len(names) == 0 {
			continue
		}
		if _, err := s.Import(module + folder.Name()); err != nil {
			t.Fatal(err)
		}
	}
	if len(s.checked) < 30 || len(s.calls()) < 100 {
		t.Fatalf("%d packages with %d calls", len(s.checked), len(s.calls()))
	}
	for _, call := range s.calls() {
		if n := s.reached(call); n > most {
			t.Errorf("%v reaches %.3f of what a table may hold, more than %.3f", call, n, most)
		}
	}
	for o := range s.bodies {
		if v, ok := o.(*types.Var); ok && s.size(v) > 1 {
			t.Errorf("%v holds too much", v)
		}
	}
}

// TestMeasure: the measure itself, on a small source.
func TestMeasure(t *testing.T) {
	s := newSource("..", map[string]string{
		"atlas/a": `package a
type Asked interface{ Ask() int }
var numbers = [250]uint8{}
var words = [2][100]uint32{}
var texts = [...]string{"a", "b"}
type row struct{ a, b int }
var rows = [25]row{}
var one = row{1, 2}
func Numbers(n int) uint8 { return inner(n) }
func inner(n int) uint8 { return numbers[n] + inner(n - 1) }
func Rest() int { return int(words[0][0]) + len(texts[0]) + rows[0].a + one.b }
func Made() [3]string { return [...]string{"a", "b", "c"} }
func Asks(x Asked) int { return x.Ask() }
func Later() func(int) uint8 { return func(n int) uint8 { return inner(n) } }
`,
		"atlas/b": `package b
import "atlas/a"
var long = [75]int64{}
type Answers struct{ n int }
func (x *Answers) Ask() int { return int(long[x.n]) + a.Rest() }
type Other struct{}
func (x Other) Ask(n int) int { return 1 }
`,
	})
	if _, err := s.Import("atlas/b"); err != nil {
		t.Fatal(err)
	}
	rest := 1 + 2/mostTexts + 0.5 + 0.02
	want := map[string]float64{
		"atlas/a.Numbers": 1, "atlas/a.Rest": rest, "atlas/a.Made": 0, "atlas/a.Asks": rest + 0.5, "atlas/a.Later": 1,
		"(*atlas/b.Answers).Ask": rest + 0.5, "(atlas/b.Other).Ask": 0,
	}
	for _, call := range s.calls() {
		name := call.(*types.Func).FullName()
		if n, ok := want[name]; !ok || math.Abs(s.reached(call)-n) > 1e-9 {
			t.Errorf("%s reaches %v, want %v", name, s.reached(call), n)
		}
	}
	if len(s.calls()) != len(want) {
		t.Errorf("the calls are %v", s.calls())
	}
}
