import Derived.Test.YtndhpgciopcncaaGreatDoorHConf2
open Nat renaming le_refl → J
open Go.RowKit.Below renaming refl → E
set_option linter.unusedVariables false
set_option maxHeartbeats 1000000
open Go.Proofs.Tryz
namespace Go.Proofs.YtndhpgciopcncaaGreatDoor
open Go.RowKit
variable {g:Nat} {fr:Nat×Nat} {w:World}
section
variable {B:Nat} {w:World} {p:Nat} {m:RM} {tv nv pv gv kv:Value}
end
theorem TS.of_owns{B:Nat}{e:TypeId}{a:Option Addr}{n cap:Nat}{F W K:Nat->Int}(h:w.ownsRow B e 3 (.slice a n cap) n (ZC n F W K)):TS w a n F W K:=fun k=>by
 obtain⟨g,d,hv,l,c⟩:=h.form k;cases hv;refine⟨g,0,rfl,c,fun i m=>?_⟩;have e:∀j,j<n*3->w.cell? (U g j)=some (Zl F W K j):=fun j f=>by
  rw[h.cellAt _ f,zaq n F W K j f]
 refine⟨?_,?_,?_⟩
 ·rw[e _ (by omega)];simp[Zl]
 ·have b:(i*3+1)/3=i:=by omega
  rw[e _ (by omega)];simp[Zl,Nat.add_mod,b]
 ·have b:(i*3+2)/3=i:=by omega
  rw[e _ (by omega)];simp[Zl,Nat.add_mod,b]
theorem box2(w:World)(a b:Obj):((w.alloc a).alloc b).1[w.1.size]?=some a/\((w.alloc a).alloc b).1[w.1.size+1]?=some b/\Below w.1.size w ((w.alloc a).alloc b)/\((w.alloc a).alloc b).1.size=w.1.size+2:=by
 refine⟨(Below.heap_alloc _ _ _ (by simp)).trans (zq _ _),by have:=zq (w.alloc a) b;rw[zM]at this;exact this,((E _ _).alloc (J _) _).alloc (by simp) _,by simp⟩
theorem xD{i:Nat}{cs:Array Value}{t:TypeId}(h:w.1[g]?=some (.cells cs t fr))(v:Value):(w.setCell (U g i) v).1[g]?=some (.cells (cs.setIfInBounds i v) t fr):=by
 rw[setCell_eq_setRow w g i cs t fr v h];exact setRow_heap w g _ _ t _ h
theorem set3{a b c:Value}{t:TypeId}(h:w.1[g]?=some (.cells #[a,b,c] t fr))(x y z:Value):((((w.setCell (U g 0) x).setCell (U g 1) y).setCell (U g 2) z).drew).1[g]?=some (.cells #[x,y,z] t fr):=by
 have:=xD (i:=2) (xD (i:=1) (xD (i:=0) h x) y) z;exact this
theorem Kr(s le la wi ke qu:Int)(a:Option Addr)(n cap:Nat)(F W K:Nat->Int)(w:World)(h:TS w a n F W K):
  Calls prog 125 #[.agg #[I s,I le,I la,I wi,I ke,I qu,.slice a n cap]] w (Rz w (.bool (qd s le la wi ke qu n F W K))):=by
 cases o:inB s 1 4
 ·have b:Hid (qd s le la wi ke qu n F W K=false):=by show _=_;simp[qd,o]
  go_enter func125,ntmps125;go_wp2_with(go_at_call 92;refine(xV _ _ _ _).mono ?_;rintro e w' ⟨rfl,rfl⟩);go_ret;exact⟨qc b.out.symm,(E _ _).alloc (J _) _⟩
 cases p:inB le 1 100
 ·have b:Hid (qd s le la wi ke qu n F W K=false):=by show _=_;simp[qd,p]
  go_enter func125,ntmps125;go_wp2_with(go_at_call 92;refine(xV _ _ _ _).mono ?_;rintro e w' ⟨rfl,rfl⟩);go_ret;exact⟨qc b.out.symm,(E _ _).alloc (J _) _⟩
 cases q:inB la 0 100
 ·have b:Hid (qd s le la wi ke qu n F W K=false):=by show _=_;simp[qd,q]
  go_enter func125,ntmps125;go_wp2_with(go_at_call 92;refine(xV _ _ _ _).mono ?_;rintro e w' ⟨rfl,rfl⟩);go_ret;exact⟨qc b.out.symm,(E _ _).alloc (J _) _⟩
 cases f:inB wi 1 50
 ·have b:Hid (qd s le la wi ke qu n F W K=false):=by show _=_;simp[qd,f]
  go_enter func125,ntmps125;go_wp2_with(go_at_call 92;refine(xV _ _ _ _).mono ?_;rintro e w' ⟨rfl,rfl⟩);go_ret;exact⟨qc b.out.symm,(E _ _).alloc (J _) _⟩
 cases r:inB ke 0 1000
 ·have b:Hid (qd s le la wi ke qu n F W K=false):=by show _=_;simp[qd,r]
  go_enter func125,ntmps125;go_wp2_with(go_at_call 92;refine(xV _ _ _ _).mono ?_;rintro e w' ⟨rfl,rfl⟩);go_ret;exact⟨qc b.out.symm,(E _ _).alloc (J _) _⟩
 cases t:inB qu 1 400
 ·have b:Hid (qd s le la wi ke qu n F W K=false):=by show _=_;simp[qd,t]
  go_enter func125,ntmps125;go_wp2_with(go_at_call 92;refine(xV _ _ _ _).mono ?_;rintro e w' ⟨rfl,rfl⟩);go_ret;exact⟨qc b.out.symm,(E _ _).alloc (J _) _⟩
 cases g:inB (n:Int) 1 4
 ·have b:Hid (qd s le la wi ke qu n F W K=false):=by show _=_;simp[qd,g]
  go_enter func125,ntmps125;go_wp2_with(go_at_call 92;refine(xV _ _ _ _).mono ?_;rintro e w' ⟨rfl,rfl⟩);go_ret;exact⟨qc b.out.symm,(E _ _).alloc (J _) _⟩
 have hn:n<=4:=by rw[jk]at g;omega
 have m:1<=wi/\wi<=1000:=by rw[jk]at f;omega
 have j:TS (w.alloc (.cells #[I s,I le,I la,I wi,I ke,I qu,.slice a n cap] 27)) a n F W K:=h.below ((E _ _).alloc (J _) _);cases d:Yu n (ZH n F W K)
 ·have b:Hid (qd s le la wi ke qu n F W K=false):=by show _=_;simp[qd,d]
  go_enter func125,ntmps125;go_wp2_with(first|(go_at_call 92;refine(xV _ _ _ _).mono ?_;rintro e w' ⟨rfl,rfl⟩)|(go_at_call 195;refine(VG _ n cap F W K hn _ j).mono ?_;rintro e w' ⟨rfl,c⟩));go_ret;exact⟨qc b.out.symm,((E _ _).alloc (J _) _).trans (c.mono (by simp))⟩
 ·have u:∀i,i<n-> -1<=F i/\F i<n:=fun i l=>by
   have:=(ZM _ _).1 d i l;simp only[ZH,Bool.and_eq_true,jk]at this;omega
  have v:∀i,i<n->1<=W i/\W i<=1000:=fun i l=>by
   have:=(ZM _ _).1 d i l;simp only[ZH,Bool.and_eq_true,jk]at this;omega
  have HR:Hid (qd s le la wi ke qu n F W K=Yu n (zgP n wi F W)):=by show _=_;simp[qd,o,p,q,f,r,t,g,d]
  go_enter func125,ntmps125;go_wp2_with(first|(go_at_call 92;refine(xV _ _ _ _).mono ?_;rintro e w' ⟨rfl,rfl⟩)|(go_at_call 195;refine(VG _ n cap F W K hn _ j).mono ?_;rintro e w' ⟨rfl,c⟩;obtain⟨_,x,y,z,A,B,C,D⟩:=(CF.made w 27 (0,0) s le la wi ke qu a n cap).below c (by simp))|(go_at_call 196;refine(znY s le la wi ke qu _ n cap F W K hn u m v _ (j.below c)).mono ?_;rintro e w2 ⟨rfl,k⟩));go_ret;exact⟨qc HR.out.symm,(((E _ _).alloc (J _) _).trans (c.mono (by simp))).trans (k.mono (by have:=c.size;simp at this;omega))⟩
theorem JY(s le la wi ke qu:Int)(a:Option Addr)(n cap:Nat)(F W K:Nat->Int)(w:World)(h:TS w a n F W K):
  Calls prog 65 #[.agg #[I s,I le,I la,I wi,I ke,I qu,.slice a n cap]] w (Rz w (I (zmK (qd s le la wi ke qu n F W K)))):=by
 have b:TS (w.alloc (.cells #[I s,I le,I la,I wi,I ke,I qu,.slice a n cap] 27)) a n F W K:=h.below ((E _ _).alloc (J _) _);cases e:qd s le la wi ke qu n F W K;all_goals
  go_enter func65,ntmps65
  go_wp2_with(go_at_call 125;refine(Kr s le la wi ke qu _ n cap F W K _ b).mono ?_;rintro e w' ⟨rfl,c⟩)
  go_ret
  exact⟨rfl,((E _ _).alloc (J _) _).trans (c.mono (by simp))⟩
end Go.Proofs.YtndhpgciopcncaaGreatDoor
