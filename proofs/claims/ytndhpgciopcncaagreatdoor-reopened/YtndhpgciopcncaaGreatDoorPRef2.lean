import Derived.Test.YtndhpgciopcncaaGreatDoorPConf2
open Nat renaming le_refl → J
open Go.RowKit.Below renaming refl → E
set_option linter.unusedVariables false
set_option maxHeartbeats 1000000
open Go.Proofs.Tryz
namespace Go.Proofs.YtndhpgciopcncaaGreatDoor
open Go.RowKit
section
variable {B:Nat} {w:World} {p:Nat} {m:RM} {tv nv pv gv kv:Value}
end
theorem TS.of_owns{w:World}{B:Nat}{e:TypeId}{a:Option Addr}{n cap:Nat}{F W K:Nat->Int}(h:w.ownsRow B e 3 (.slice a n cap) n (ZN n F W K)):TS w a n F W K:=fun k=>by
 obtain⟨g,d,hv,l,c⟩:=h.form k
 cases hv
 refine⟨g,0,rfl,c,fun i m=>?_⟩
 have e:∀j,j<n*3->w.cell? (U g j)=some (Z3 F W K j):=fun j f=>by
  rw[h.cellAt _ f,JQ n F W K j f]
 refine⟨?_,?_,?_⟩
 ·rw[e _ (by omega)];simp[Z3]
 ·have b:(i*3+1)/3=i:=by omega
  rw[e _ (by omega)];simp[Z3,Nat.add_mod,b]
 ·have b:(i*3+2)/3=i:=by omega
  rw[e _ (by omega)];simp[Z3,Nat.add_mod,b]
theorem box2(w:World)(a b:Obj):((w.alloc a).alloc b).1[w.1.size]?=some a/\((w.alloc a).alloc b).1[w.1.size+1]?=some b/\Below w.1.size w ((w.alloc a).alloc b)/\((w.alloc a).alloc b).1.size=w.1.size+2:=by
 refine⟨(Below.heap_alloc _ _ _ (by simp)).trans (zp _ _),by have:=zp (w.alloc a) b;rw[zN]at this;exact this,((E _ _).alloc (J _) _).alloc (by simp) _,by simp⟩
theorem xy{w:World}{g i:Nat}{cs:Array Value}{t:TypeId}{a:Nat×Nat}(h:w.1[g]?=some (.cells cs t a))(v:Value):(w.setCell (U g i) v).1[g]?=some (.cells (cs.setIfInBounds i v) t a):=by
 rw[setCell_eq_setRow w g i cs t a v h]
 exact setRow_heap w g _ _ t _ h
theorem set3{w:World}{g:Nat}{a b c:Value}{t:TypeId}{d:Nat×Nat}(h:w.1[g]?=some (.cells #[a,b,c] t d))(x y z:Value):((((w.setCell (U g 0) x).setCell (U g 1) y).setCell (U g 2) z).drew).1[g]?=some (.cells #[x,y,z] t d):=by
 have:=xy (i:=2) (xy (i:=1) (xy (i:=0) h x) y) z
 exact this
theorem K7(s le la wi ke qu:Int)(a:Option Addr)(n cap:Nat)(F W K:Nat->Int)(w:World)(h:TS w a n F W K):
  Calls prog 125 #[.agg #[I s,I le,I la,I wi,I ke,I qu,.slice a n cap]] w (Rz w (.bool (xW s le la wi ke qu n F W K))):=by
 cases o:inB s 1 4
 ·have b:Hid (xW s le la wi ke qu n F W K=false):=by show _=_;simp[xW,o]
  go_enter func125,ntmps125
  go_wp2_with(go_at_call 92;refine(xQ _ _ _ _).mono ?_;rintro e w' ⟨rfl,rfl⟩)
  go_ret
  exact⟨xV b.out.symm,(E _ _).alloc (J _) _⟩
 cases p:inB le 1 100
 ·have b:Hid (xW s le la wi ke qu n F W K=false):=by show _=_;simp[xW,p]
  go_enter func125,ntmps125
  go_wp2_with(go_at_call 92;refine(xQ _ _ _ _).mono ?_;rintro e w' ⟨rfl,rfl⟩)
  go_ret
  exact⟨xV b.out.symm,(E _ _).alloc (J _) _⟩
 cases q:inB la 0 100
 ·have b:Hid (xW s le la wi ke qu n F W K=false):=by show _=_;simp[xW,q]
  go_enter func125,ntmps125
  go_wp2_with(go_at_call 92;refine(xQ _ _ _ _).mono ?_;rintro e w' ⟨rfl,rfl⟩)
  go_ret
  exact⟨xV b.out.symm,(E _ _).alloc (J _) _⟩
 cases f:inB wi 1 50
 ·have b:Hid (xW s le la wi ke qu n F W K=false):=by show _=_;simp[xW,f]
  go_enter func125,ntmps125
  go_wp2_with(go_at_call 92;refine(xQ _ _ _ _).mono ?_;rintro e w' ⟨rfl,rfl⟩)
  go_ret
  exact⟨xV b.out.symm,(E _ _).alloc (J _) _⟩
 cases r:inB ke 0 1000
 ·have b:Hid (xW s le la wi ke qu n F W K=false):=by show _=_;simp[xW,r]
  go_enter func125,ntmps125
  go_wp2_with(go_at_call 92;refine(xQ _ _ _ _).mono ?_;rintro e w' ⟨rfl,rfl⟩)
  go_ret
  exact⟨xV b.out.symm,(E _ _).alloc (J _) _⟩
 cases t:inB qu 1 400
 ·have b:Hid (xW s le la wi ke qu n F W K=false):=by show _=_;simp[xW,t]
  go_enter func125,ntmps125
  go_wp2_with(go_at_call 92;refine(xQ _ _ _ _).mono ?_;rintro e w' ⟨rfl,rfl⟩)
  go_ret
  exact⟨xV b.out.symm,(E _ _).alloc (J _) _⟩
 cases g:inB (n:Int) 1 4
 ·have b:Hid (xW s le la wi ke qu n F W K=false):=by show _=_;simp[xW,g]
  go_enter func125,ntmps125
  go_wp2_with(go_at_call 92;refine(xQ _ _ _ _).mono ?_;rintro e w' ⟨rfl,rfl⟩)
  go_ret
  exact⟨xV b.out.symm,(E _ _).alloc (J _) _⟩
 have hn:n<=4:=by rw[vQ]at g;omega
 have m:1<=wi/\wi<=1000:=by rw[vQ]at f;omega
 have j:TS (w.alloc (.cells #[I s,I le,I la,I wi,I ke,I qu,.slice a n cap] 27)) a n F W K:=h.below ((E _ _).alloc (J _) _)
 cases d:Ym n (Zm n F W K)
 ·have b:Hid (xW s le la wi ke qu n F W K=false):=by show _=_;simp[xW,d]
  go_enter func125,ntmps125
  go_wp2_with(first|(go_at_call 92;refine(xQ _ _ _ _).mono ?_;rintro e w' ⟨rfl,rfl⟩)|(go_at_call 195;refine(Vn _ n cap F W K hn _ j).mono ?_;rintro e w' ⟨rfl,c⟩))
  go_ret
  exact⟨xV b.out.symm,((E _ _).alloc (J _) _).trans (c.mono (by simp))⟩
 ·have u:∀i,i<n-> -1<=F i/\F i<n:=fun i l=>by
   have:=(Zr _ _).1 d i l;simp only[Zm,Bool.and_eq_true,vQ]at this;omega
  have v:∀i,i<n->1<=W i/\W i<=1000:=fun i l=>by
   have:=(Zr _ _).1 d i l;simp only[Zm,Bool.and_eq_true,vQ]at this;omega
  have HR:Hid (xW s le la wi ke qu n F W K=Ym n (zgz n wi F W)):=by show _=_;simp[xW,o,p,q,f,r,t,g,d]
  go_enter func125,ntmps125
  go_wp2_with(first|(go_at_call 92;refine(xQ _ _ _ _).mono ?_;rintro e w' ⟨rfl,rfl⟩)|(go_at_call 195;refine(Vn _ n cap F W K hn _ j).mono ?_;rintro e w' ⟨rfl,c⟩;obtain⟨_,x,y,z,A,B,C,D⟩:=(CF.made w 27 (0,0) s le la wi ke qu a n cap).below c (by simp))|(go_at_call 196;refine(znx s le la wi ke qu _ n cap F W K hn u m v _ (j.below c)).mono ?_;rintro e G ⟨rfl,k⟩))
  go_ret
  exact⟨xV HR.out.symm,(((E _ _).alloc (J _) _).trans (c.mono (by simp))).trans (k.mono (by have:=c.size;simp at this;omega))⟩
theorem XX(s le la wi ke qu:Int)(a:Option Addr)(n cap:Nat)(F W K:Nat->Int)(w:World)(h:TS w a n F W K):
  Calls prog 65 #[.agg #[I s,I le,I la,I wi,I ke,I qu,.slice a n cap]] w (Rz w (I (zhw (xW s le la wi ke qu n F W K)))):=by
 have b:TS (w.alloc (.cells #[I s,I le,I la,I wi,I ke,I qu,.slice a n cap] 27)) a n F W K:=h.below ((E _ _).alloc (J _) _)
 cases e:xW s le la wi ke qu n F W K
 all_goals
  go_enter func65,ntmps65
  go_wp2_with(go_at_call 125;refine(K7 s le la wi ke qu _ n cap F W K _ b).mono ?_;rintro e w' ⟨rfl,c⟩)
  go_ret
  exact⟨rfl,((E _ _).alloc (J _) _).trans (c.mono (by simp))⟩
end Go.Proofs.YtndhpgciopcncaaGreatDoor
