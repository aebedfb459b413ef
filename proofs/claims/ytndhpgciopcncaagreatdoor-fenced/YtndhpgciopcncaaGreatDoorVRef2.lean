import Derived.Test.YtndhpgciopcncaaGreatDoorVConf2
open Nat renaming le_refl → I
open Go.RowKit.Below renaming refl → J
open Go.Value (int)
open Go.IntKind (i64)
set_option linter.unusedVariables false
set_option maxHeartbeats 1000000
open Go.Proofs.Tryz
namespace Go.Proofs.YtndhpgciopcncaaGreatDoor
open Go.RowKit
section
variable {B:Nat} {w:World} {p:Nat} {m:RM} {tv nv pv gv kv:Value}
end
theorem TS.of_owns{w:World}{B:Nat}{e:TypeId}{a:Option Addr}{n cap:Nat}{F W K:Nat->Int}(h:w.ownsRow B e 3 (.slice a n cap) n (jv n F W K)):TS w a n F W K:=fun k=>by
 obtain⟨g,d,hv,l,c⟩:=h.form k
 cases hv
 refine⟨g,0,rfl,c,fun i m=>?_⟩
 have e:∀j,j<n*3->w.cell? ⟨g,j,none⟩=some (vI F W K j):=fun j f=>by
  rw[h.cellAt _ f,YU n F W K j f]
 refine⟨?_,?_,?_⟩
 ·rw[e _ (by omega)];simp[vI]
 ·have b:(i*3+1)/3=i:=by omega
  rw[e _ (by omega)];simp[vI,Nat.add_mod,b]
 ·have b:(i*3+2)/3=i:=by omega
  rw[e _ (by omega)];simp[vI,Nat.add_mod,b]
theorem box2(w:World)(a b:Obj):((w.alloc a).alloc b).1[w.1.size]?=some a/\((w.alloc a).alloc b).1[w.1.size+1]?=some b/\Below w.1.size w ((w.alloc a).alloc b)/\((w.alloc a).alloc b).1.size=w.1.size+2:=by
 refine⟨(Below.heap_alloc _ _ _ (by simp)).trans (zk _ _),by have:=zk (w.alloc a) b;rw[zI]at this;exact this,((J _ _).alloc (I _) _).alloc (by simp) _,by simp⟩
theorem xy{w:World}{g i:Nat}{cs:Array Value}{t:TypeId}{a:Nat×Nat}(h:w.1[g]?=some (.cells cs t a))(v:Value):(w.setCell ⟨g,i,none⟩ v).1[g]?=some (.cells (cs.setIfInBounds i v) t a):=by
 rw[setCell_eq_setRow w g i cs t a v h]
 exact setRow_heap w g _ _ t _ h
theorem set3{w:World}{g:Nat}{a b c:Value}{t:TypeId}{d:Nat×Nat}(h:w.1[g]?=some (.cells #[a,b,c] t d))(x y z:Value):((((w.setCell ⟨g,0,none⟩ x).setCell ⟨g,1,none⟩ y).setCell ⟨g,2,none⟩ z).drew).1[g]?=some (.cells #[x,y,z] t d):=by
 have:=xy (i:=2) (xy (i:=1) (xy (i:=0) h x) y) z
 exact this
theorem XV(s le la wi ke qu:Int)(a:Option Addr)(n cap:Nat)(F W K:Nat->Int)(w:World)(h:TS w a n F W K):
  Calls prog 125 #[.agg #[int i64 s,int i64 le,int i64 la,int i64 wi,int i64 ke,int i64 qu,.slice a n cap]] w fun e w'=>e=.returned (.bool (xV s le la wi ke qu n F W K))/\Below w.1.size w w':=by
 cases o:inB s 1 4
 ·have b:Hid (xV s le la wi ke qu n F W K=false):=by show _=_;simp[xV,o]
  go_enter func125,ntmps125
  go_wp2_with(go_at_call 92;refine(xE _ _ _ _).mono ?_;rintro e w' ⟨rfl,rfl⟩)
  go_ret
  exact⟨xJ b.out.symm,(J _ _).alloc (I _) _⟩
 cases p:inB le 1 100
 ·have b:Hid (xV s le la wi ke qu n F W K=false):=by show _=_;simp[xV,p]
  go_enter func125,ntmps125
  go_wp2_with(go_at_call 92;refine(xE _ _ _ _).mono ?_;rintro e w' ⟨rfl,rfl⟩)
  go_ret
  exact⟨xJ b.out.symm,(J _ _).alloc (I _) _⟩
 cases q:inB la 0 100
 ·have b:Hid (xV s le la wi ke qu n F W K=false):=by show _=_;simp[xV,q]
  go_enter func125,ntmps125
  go_wp2_with(go_at_call 92;refine(xE _ _ _ _).mono ?_;rintro e w' ⟨rfl,rfl⟩)
  go_ret
  exact⟨xJ b.out.symm,(J _ _).alloc (I _) _⟩
 cases f:inB wi 1 50
 ·have b:Hid (xV s le la wi ke qu n F W K=false):=by show _=_;simp[xV,f]
  go_enter func125,ntmps125
  go_wp2_with(go_at_call 92;refine(xE _ _ _ _).mono ?_;rintro e w' ⟨rfl,rfl⟩)
  go_ret
  exact⟨xJ b.out.symm,(J _ _).alloc (I _) _⟩
 cases r:inB ke 0 1000
 ·have b:Hid (xV s le la wi ke qu n F W K=false):=by show _=_;simp[xV,r]
  go_enter func125,ntmps125
  go_wp2_with(go_at_call 92;refine(xE _ _ _ _).mono ?_;rintro e w' ⟨rfl,rfl⟩)
  go_ret
  exact⟨xJ b.out.symm,(J _ _).alloc (I _) _⟩
 cases t:inB qu 1 400
 ·have b:Hid (xV s le la wi ke qu n F W K=false):=by show _=_;simp[xV,t]
  go_enter func125,ntmps125
  go_wp2_with(go_at_call 92;refine(xE _ _ _ _).mono ?_;rintro e w' ⟨rfl,rfl⟩)
  go_ret
  exact⟨xJ b.out.symm,(J _ _).alloc (I _) _⟩
 cases g:inB (n:Int) 1 4
 ·have b:Hid (xV s le la wi ke qu n F W K=false):=by show _=_;simp[xV,g]
  go_enter func125,ntmps125
  go_wp2_with(go_at_call 92;refine(xE _ _ _ _).mono ?_;rintro e w' ⟨rfl,rfl⟩)
  go_ret
  exact⟨xJ b.out.symm,(J _ _).alloc (I _) _⟩
 have hn:n<=4:=by rw[kI]at g;omega
 have m:1<=wi/\wi<=1000:=by rw[kI]at f;omega
 have j:TS (w.alloc (.cells #[int i64 s,int i64 le,int i64 la,int i64 wi,int i64 ke,int i64 qu,.slice a n cap] 27)) a n F W K:=h.below ((J _ _).alloc (I _) _)
 cases d:Xi n (vV n F W K)
 ·have b:Hid (xV s le la wi ke qu n F W K=false):=by show _=_;simp[xV,d]
  go_enter func125,ntmps125
  go_wp2_with(first|(go_at_call 92;refine(xE _ _ _ _).mono ?_;rintro e w' ⟨rfl,rfl⟩)|(go_at_call 195;refine(QH _ n cap F W K hn _ j).mono ?_;rintro e w' ⟨rfl,c⟩))
  go_ret
  exact⟨xJ b.out.symm,((J _ _).alloc (I _) _).trans (c.mono (by simp))⟩
 ·have u:∀i,i<n-> -1<=F i/\F i<n:=fun i l=>by
   have:=(j4 _ _).1 d i l;simp only[vV,Bool.and_eq_true,kI]at this;omega
  have v:∀i,i<n->1<=W i/\W i<=1000:=fun i l=>by
   have:=(j4 _ _).1 d i l;simp only[vV,Bool.and_eq_true,kI]at this;omega
  have HR:Hid (xV s le la wi ke qu n F W K=Xi n (zbU n wi F W)):=by show _=_;simp[xV,o,p,q,f,r,t,g,d]
  go_enter func125,ntmps125
  go_wp2_with(first|(go_at_call 92;refine(xE _ _ _ _).mono ?_;rintro e w' ⟨rfl,rfl⟩)|(go_at_call 195;refine(QH _ n cap F W K hn _ j).mono ?_;rintro e w' ⟨rfl,c⟩;obtain⟨_,x,y,z,A,B,C,D⟩:=(CF.made w 27 (0,0) s le la wi ke qu a n cap).below c (by simp))|(go_at_call 196;refine(zhH s le la wi ke qu _ n cap F W K hn u m v _ (j.below c)).mono ?_;rintro e E ⟨rfl,k⟩))
  go_ret
  exact⟨xJ HR.out.symm,(((J _ _).alloc (I _) _).trans (c.mono (by simp))).trans (k.mono (by have:=c.size;simp at this;omega))⟩
theorem YG(s le la wi ke qu:Int)(a:Option Addr)(n cap:Nat)(F W K:Nat->Int)(w:World)(h:TS w a n F W K):
  Calls prog 65 #[.agg #[int i64 s,int i64 le,int i64 la,int i64 wi,int i64 ke,int i64 qu,.slice a n cap]] w fun e w'=>e=.returned (int i64 (zgN (xV s le la wi ke qu n F W K)))/\Below w.1.size w w':=by
 have b:TS (w.alloc (.cells #[int i64 s,int i64 le,int i64 la,int i64 wi,int i64 ke,int i64 qu,.slice a n cap] 27)) a n F W K:=h.below ((J _ _).alloc (I _) _)
 cases e:xV s le la wi ke qu n F W K
 all_goals
  go_enter func65,ntmps65
  go_wp2_with(go_at_call 125;refine(XV s le la wi ke qu _ n cap F W K _ b).mono ?_;rintro e w' ⟨rfl,c⟩)
  go_ret
  exact⟨rfl,((J _ _).alloc (I _) _).trans (c.mono (by simp))⟩
end Go.Proofs.YtndhpgciopcncaaGreatDoor
