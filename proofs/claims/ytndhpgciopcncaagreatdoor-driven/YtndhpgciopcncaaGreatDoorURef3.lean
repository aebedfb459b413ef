import Derived.Test.YtndhpgciopcncaaGreatDoorURef2
open Go.Value (int)
open Go.IntKind (i64)
open Go.IntKind (i32)
set_option linter.unusedVariables false
namespace Go.Proofs.YtndhpgciopcncaaGreatDoor
open Go.RowKit
def Cf.end(c:Cf)(s:Sg):Int:=(s.wa+1)*c.wt s.t
def Cf.keep(c:Cf)(t:Int):Int:=if t= -1 then c.ke else c.K t.toNat
theorem Cf.ok.keeps{c:Cf}(h:c.ok){t:Int}(a: -1<=t)(b:t<c.n):0<=c.keep t/\c.keep t<=1000:=by
 unfold Cf.keep
 split
 ·exact h.ke
 ·exact h.K _ (by omega)
theorem kQ{n:Nat}{a w:World}{g i:Nat}{v:Value}(h:Below n a w)(b:n<=g):Below n a (w.setCell ⟨g,i,none⟩ v):=h.setCell (p:=⟨g,i,none⟩) b v
theorem set4{w:World}{g:Nat}{a b c d:Value}{t:TypeId}{e:Nat×Nat}(h:w.1[g]?=some (.cells #[a,b,c,d] t e))(x y z u:Value):((((w.setCell ⟨g,0,none⟩ x).setCell ⟨g,1,none⟩ y).setCell ⟨g,2,none⟩ z).setCell ⟨g,3,none⟩ u).1[g]?=some (.cells #[x,y,z,u] t e):=
 xy (i:=3) (xy (i:=2) (xy (i:=1) (xy (i:=0) h x) y) z) u
def Xp(A:Cl):Obj:=.cells #[int i64 A.cnt,int i64 A.sum,int i32 A.mn,int i32 A.mx] 115 (0,0)
theorem ziN{w:World}{g:Nat}{A:Cl}(h:w.1[g]?=some (Xp A))(c s a b:Int):((((w.setCell ⟨g,2,none⟩ (int i32 a)).setCell ⟨g,3,none⟩ (int i32 b)).setCell ⟨g,0,none⟩ (int i64 c)).setCell ⟨g,1,none⟩ (int i64 s)).1[g]?=some (Xp ⟨c,s,a,b⟩):=
 xy (i:=1) (xy (i:=0) (xy (i:=3) (xy (i:=2) h (int i32 a)) (int i32 b)) (int i64 c)) (int i64 s)
theorem cl_2{w:World}{g:Nat}{A:Cl}(h:w.1[g]?=some (Xp A))(c s a:Int):(((w.setCell ⟨g,2,none⟩ (int i32 a)).setCell ⟨g,0,none⟩ (int i64 c)).setCell ⟨g,1,none⟩ (int i64 s)).1[g]?=some (Xp ⟨c,s,a,A.mx⟩):=
 xy (i:=1) (xy (i:=0) (xy (i:=2) h (int i32 a)) (int i64 c)) (int i64 s)
theorem cl_3{w:World}{g:Nat}{A:Cl}(h:w.1[g]?=some (Xp A))(c s b:Int):(((w.setCell ⟨g,3,none⟩ (int i32 b)).setCell ⟨g,0,none⟩ (int i64 c)).setCell ⟨g,1,none⟩ (int i64 s)).1[g]?=some (Xp ⟨c,s,A.mn,b⟩):=
 xy (i:=1) (xy (i:=0) (xy (i:=3) h (int i32 b)) (int i64 c)) (int i64 s)
theorem cl_0{w:World}{g:Nat}{A:Cl}(h:w.1[g]?=some (Xp A))(c s:Int):((w.setCell ⟨g,0,none⟩ (int i64 c)).setCell ⟨g,1,none⟩ (int i64 s)).1[g]?=some (Xp ⟨c,s,A.mn,A.mx⟩):=
 xy (i:=1) (xy (i:=0) h (int i64 c)) (int i64 s)
end Go.Proofs.YtndhpgciopcncaaGreatDoor
