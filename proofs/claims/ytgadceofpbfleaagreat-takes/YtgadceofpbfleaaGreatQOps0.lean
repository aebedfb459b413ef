import Derived.Test.YtgadceofpbfleaaGreatQRef2

/- A step of a script. -/
namespace Go.Proofs.YtgadceofpbfleaaGreat
set_option linter.unusedVariables false

/-- a step of a script. -/
structure Ops where
  kd : Int
  on : Int
  a : Int
  b : Int
  c : Int
  v : Int
  te : Int
  tn : Int
  fs : Int
  fle : Int
  fla : Int
  fwi : Int
  fke : Int
  fqu : Int
  fa : Option Addr
  fn : Nat
  fcap : Nat
abbrev Ops.cells (o : Ops) : Array Value := #[.int .i64 o.kd, .int .i64 o.on, .int .i64 o.a, .int .i64 o.b, .int .i64 o.c, .int .i32 o.v, .int .i64 o.te, .int .i64 o.tn, .int .i64 o.fs, .int .i64 o.fle, .int .i64 o.fla, .int .i64 o.fwi, .int .i64 o.fke, .int .i64 o.fqu, .slice o.fa o.fn o.fcap]
end Go.Proofs.YtgadceofpbfleaaGreat
