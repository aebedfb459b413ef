import Derived.Test.YtndhpgciopcncaaGreatDoorUConf2
set_option linter.unusedVariables false
namespace Go.Proofs.YtndhpgciopcncaaGreatDoor
open Go.RowKit
section
variable {B:Nat} {w:World} {p:Nat} {m:RM} {tv nv pv gv kv:Value}
end
theorem TS.of_owns{w:World}{B:Nat}{e:TypeId}{a:Option Addr}{n cap:Nat}{F W K:Nat->Int}(h:w.ownsRow B e 3 (.slice a n cap) n (jn n F W K)):TS w a n F W K:=fun k=>by
 obtain⟨g,d,hv,l,c⟩:=h.form k
 cases hv
 refine⟨g,0,rfl,c,fun i m=>?_⟩
 have e:∀j,j<n*3->w.cell? ⟨g,j,none⟩=some (vI F W K j):=fun j f=>by
  rw[h.cellAt _ f,YH n F W K j f]
 refine⟨?_,?_,?_⟩
 ·rw[e _ (by omega)];simp[vI]
 ·have b:(i*3+1)/3=i:=by omega
  rw[e _ (by omega)];simp[vI,Nat.add_mod,b]
 ·have b:(i*3+2)/3=i:=by omega
  rw[e _ (by omega)];simp[vI,Nat.add_mod,b]
theorem box2(w:World)(a b:Obj):((w.alloc a).alloc b).1[w.1.size]?=some a/\((w.alloc a).alloc b).1[w.1.size+1]?=some b/\Below w.1.size w ((w.alloc a).alloc b)/\((w.alloc a).alloc b).1.size=w.1.size+2:=by
 refine⟨(Below.heap_alloc _ _ _ (by simp)).trans (zm _ _),by have:=zm (w.alloc a) b;rw[zL]at this;exact this,((Below.refl _ _).alloc (Nat.le_refl _) _).alloc (by simp) _,by simp⟩
theorem xy{w:World}{g i:Nat}{cs:Array Value}{t:TypeId}{a:Nat×Nat}(h:w.1[g]?=some (.cells cs t a))(v:Value):(w.setCell ⟨g,i,none⟩ v).1[g]?=some (.cells (cs.setIfInBounds i v) t a):=by
 rw[setCell_eq_setRow w g i cs t a v h]
 exact setRow_heap w g _ _ t _ h
theorem set3{w:World}{g:Nat}{a b c:Value}{t:TypeId}{d:Nat×Nat}(h:w.1[g]?=some (.cells #[a,b,c] t d))(x y z:Value):((((w.setCell ⟨g,0,none⟩ x).setCell ⟨g,1,none⟩ y).setCell ⟨g,2,none⟩ z).drew).1[g]?=some (.cells #[x,y,z] t d):=by
 have:=xy (i:=2) (xy (i:=1) (xy (i:=0) h x) y) z
 exact this
end Go.Proofs.YtndhpgciopcncaaGreatDoor
