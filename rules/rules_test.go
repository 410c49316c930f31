// Package rules: tests that the program keeps to its part of the language.
package rules

import (
	"bytes"
	"crypto/sha256"
	"encoding/hex"
	"go/ast"
	"go/format"
	"go/parser"
	"go/token"
	"io/fs"
	"os"
	"path/filepath"
	"strings"
	"testing"
)

const root = ".."

// longest is what a function may have in lines.
const longest = 45

// given is the digest of api.go as it was given.
const given = "16575fc05cf7bb4f24b5f63390863466573fccf125ab2ebcaf2040b987e21652"

// programFiles are the Go files of the program, without tests.
func programFiles(t *testing.T) []string {
	var files []string
	err := filepath.WalkDir(root, func(path string, d fs.DirEntry, err error) error {
		if err != nil {
			return err
		}
		if d.IsDir() && (d.Name() == ".git" || d.Name() == "sharedtests") {
			return filepath.SkipDir
		}
		if strings.HasSuffix(path, ".go") && !strings.HasSuffix(path, "_test.go") {
			files = append(files, path)
		}
		return nil
	})
	if err != nil || len(files) == 0 {
		t.Fatalf("no files: %v", err)
	}
	return files
}

func TestApiIsAsGiven(t *testing.T) {
	text, err := os.ReadFile(filepath.Join(root, "api", "api.go"))
	if err != nil {
		t.Fatal(err)
	}
	if sum := sha256.Sum256(text); hex.EncodeToString(sum[:]) != given {
		t.Error("api.go is not as it was given")
	}
	files, err := os.ReadDir(filepath.Join(root, "api"))
	if err != nil || len(files) != 1 {
		t.Errorf("beside api.go there are %d files", len(files)-1)
	}
}

func TestLanguage(t *testing.T) {
	for _, path := range programFiles(t) {
		text, err := os.ReadFile(path)
		if err != nil {
			t.Fatal(err)
		}
		laid, err := format.Source(text)
		if err != nil || !bytes.Equal(laid, text) {
			t.Errorf("%s: not gofmt's layout", path)
		}
		for _, fault := range faults(t, path, text) {
			t.Error(fault)
		}
	}
}

func TestLanguageFaultsAreSeen(t *testing.T) {
	for _, s := range []string{
		`import "fmt"`, `import "unsafe"`, "var n int", "var l = []int{1}", "var n = 1", "type m map[int]int", "type e interface{}", "type c chan int",
		"func f() { go g() }", "func f() { defer g() }", "func f() { panic(1) }", "func f() { recover() }", "func f(l []int) int { return cap(l) }",
		"func f() { g := func() {}; g() }", "type g func(int)", "func f[T int](a T) {}", "const c = 1.5", "var a = [1]float64{}", "func f(a any) {}", "func f() error { return g() }",
		"func f(a []int, i int) { a[i], a[0] = 1, 2 }", "func f() {\n" + strings.Repeat("g()\n", 60) + "}", "//go:noinline\nfunc f() {}",
	} {
		if len(faults(t, "a.go", []byte("package a\n\n"+s+"\n"))) == 0 {
			t.Errorf("no fault is seen in %q", s)
		}
	}
	fine := "package a\n\nimport \"kernels/api\"\n\nvar a = [2]int{1, 2}\n\nfunc f(l []int) (int, bool) {\n\tn, ok := 1, api.OK\n\treturn n, ok == 0\n}\n"
	if list := faults(t, "a.go", []byte(fine)); len(list) != 0 {
		t.Errorf("faults are seen where none are: %v", list)
	}
}

// finder gathers what is outside the language.
type finder struct {
	set  *token.FileSet
	list []string
}

func (f *finder) tell(n ast.Node, what string) {
	f.list = append(f.list, f.set.Position(n.Pos()).String()+": "+what)
}

func faults(t *testing.T, path string, text []byte) []string {
	f := &finder{set: token.NewFileSet()}
	file, err := parser.ParseFile(f.set, path, text, parser.ParseComments)
	if err != nil {
		t.Fatal(err)
	}
	for _, group := range file.Comments {
		for _, c := range group.List {
			if strings.HasPrefix(c.Text, "//go:") {
				f.tell(c, "a //go: line")
			}
		}
	}
	for _, d := range file.Decls {
		f.declaration(d)
	}
	ast.Inspect(file, func(n ast.Node) bool {
		f.node(n)
		return true
	})
	return f.list
}

// declaration looks at what stands at a file's top.
func (f *finder) declaration(d ast.Decl) {
	switch d := d.(type) {
	case *ast.FuncDecl:
		lines := f.set.Position(d.End()).Line - f.set.Position(d.Pos()).Line + 1
		if lines > longest {
			f.tell(d, "a function too long")
		}
		if d.Type.TypeParams != nil {
			f.tell(d, "a generic function")
		}
	case *ast.GenDecl:
		for _, s := range d.Specs {
			if v, ok := s.(*ast.ValueSpec); ok && d.Tok == token.VAR && !isTable(v) {
				f.tell(v, "a package-level variable that is no table")
			}
		}
	}
}

func isTable(v *ast.ValueSpec) bool {
	for _, e := range v.Values {
		lit, ok := e.(*ast.CompositeLit)
		if !ok {
			return false
		}
		array, ok := lit.Type.(*ast.ArrayType)
		if !ok || array.Len == nil {
			return false
		}
	}
	return len(v.Values) > 0
}

// node looks at one place of a file.
func (f *finder) node(n ast.Node) {
	switch n := n.(type) {
	case *ast.ImportSpec:
		if n.Path.Value != `"strconv"` && !strings.HasPrefix(n.Path.Value, `"kernels/`) {
			f.tell(n, "an import from outside")
		}
	case *ast.GoStmt, *ast.DeferStmt, *ast.SelectStmt, *ast.SendStmt, *ast.ChanType, *ast.MapType, *ast.InterfaceType, *ast.FuncLit, *ast.TypeAssertExpr, *ast.LabeledStmt:
		f.tell(n, "a means outside the language")
	case *ast.TypeSpec:
		if _, ok := n.Type.(*ast.FuncType); ok || n.TypeParams != nil {
			f.tell(n, "a type of functions, or a generic one")
		}
	case *ast.BasicLit:
		if n.Kind == token.FLOAT || n.Kind == token.IMAG {
			f.tell(n, "a float")
		}
	case *ast.Ident:
		switch n.Name {
		case "panic", "recover", "cap", "any", "error", "float32", "float64", "complex64", "complex128":
			f.tell(n, n.Name)
		}
	case *ast.AssignStmt:
		f.targets(n)
	}
}

// targets: several targets of an assignment are plain names.
func (f *finder) targets(n *ast.AssignStmt) {
	if len(n.Lhs) < 2 {
		return
	}
	for _, e := range n.Lhs {
		if _, ok := e.(*ast.Ident); !ok {
			f.tell(n, "an assignment to several targets that are no plain names")
		}
	}
}
