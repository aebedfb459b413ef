import Derived.Test.YtndhpgciopcncaaGreatDoorHConf1
import Derived.Test.YtndhpgciopcncaaGreatDoorHLater
import Derived.ProofKit
import Derived.OpenShut
import Derived.Deep.Slices
import Derived.Deep.Strs
import Derived.SizedLaws
import Derived.Test.YtndhpgciopcncaaGreatDoorHRef0
import Derived.Deep.WholeRow
open Nat renaming le_refl → J
open Go.RowKit.Below renaming refl → E
open Go.Value (int)
open Go.IntKind (i32)
set_option linter.unusedVariables false
set_option maxHeartbeats 1000000
open Go.Proofs.Tryz
namespace Go.Proofs.YtndhpgciopcncaaGreatDoor
open Go.RowKit
theorem znY(s le la wi ke qu:Int)(a:Option Addr)(n cap:Nat)(F W K:Nat->Int)(hn:n<=4)(v:∀i,i<n-> -1<=F i/\F i<n)(S:1<=wi/\wi<=1000)(G:∀i,i<n->1<=W i/\W i<=1000)(w:World)(h:TS w a n F W K):
  Calls prog 196 #[.agg #[I s,I le,I la,I wi,I ke,I qu,.slice a n cap]] w (Rz w (.bool (Yu n (zgP n wi F W)))):=by
 go_enter func196,ntmps196;go_wp2;go_loopw [2,3,4,8] (fun _ _ _ y wr=>∃(k:Nat),k<=n/\y=I k/\Yu k (zgP n wi F W)=true/\Below (w.1.size+1) (w.alloc (.cells #[I s,I le,I la,I wi,I ke,I qu,.slice a n cap] 27)) wr) (fun _ _ _ y _=>n-(intOf y).toNat);case atStart=>exact⟨0,Nat.zero_le _,rfl,zaP _,E _ _⟩
 case round=>
  obtain⟨k,hk,rfl,H,x⟩:=hrel;have C:Hid (Yu k (zgP n wi F W)=true):=H;clear H;have p:Below w.1.size w wr:=((E _ _).alloc (J _) _).trans (x.mono (by omega));have R:w.1.size<wr.1.size:=by have:=x.size;simp at this;omega
  by_cases c:k<n
  ·have z:=h.below p;have A:=(CF.made w 27 (0,0) s le la wi ke qu a n cap).below x (by omega);obtain⟨_,V,X,Y,Z,c4,c5,c6⟩:=A;have d:=z;obtain⟨b,U,rfl,O,L⟩:=z (by omega);obtain⟨h1,h2,h3⟩:=L k c;have P:(k:Int)<n:=(by omega);have r:=v k c;clear L h z;have B:1<=zQ wi W (F k)/\zQ wi W (F k)<=1000:=by
    unfold zQ;by_cases e:F k= -1
    ·rw[if_pos e];omega
    ·rw[if_neg e];exact G _ (by omega)
   obtain⟨M,N⟩:=B;have T:=G k c;by_cases q:W k%zQ wi W (F k)=0
   ·have Q:(W k%zQ wi W (F k) !=0)=false:=(by simp[q]);cases D:down F n k
    ·have t:Hid (Yu n (zgP n wi F W)=false):=yV _ _ k c (by simp[zgP,D]);clear q;have m:Nonempty (xg (wr.1.size+1) (wr.alloc (Obj.cells #[Value.int IntKind.i64 (F k),Value.int IntKind.i64 (W k),Value.int IntKind.i64 (K k)] 80))):=xg.some _ _;have l:=fun(u:xg (wr.1.size+1) (wr.alloc (Obj.cells #[Value.int IntKind.i64 (F k),Value.int IntKind.i64 (W k),Value.int IntKind.i64 (K k)] 80))) b o h=>u.cell b o h;go_wp2;refine zy (wr.1.size+1) (by kernel_rfl) (by kernel_rfl) ?_;repeat(go_big_quiet_step (first
      |(go_at_call 237;exact Calls.later (by simp) (kL s le la wi ke qu _ n cap F W K _ r.1 r.2 hn _ (d.below (((E _ _).alloc (J _) _).trans (Below.mono (Subtype.property _) (by omega))))))
      |(go_at_call 240;exact Calls.later_same (jh _ n cap F W K k c hn v _ (d.below (((E _ _).alloc (J _) _).trans (Below.mono (Subtype.property _) (by omega))))))))
     refine wpQuiet_nil ?_;rintro⟨w1,f⟩;have g:Below (wr.1.size) wr w1:=((E _ _).alloc (J _) _).trans (f.mono (by omega));have j:Below (w.1.size+1) wr w1:=g.mono (by omega);clear l m;dsimp only;go_wp2;go_ret;exact⟨qc t.out.symm,p.trans (j.mono (by omega))⟩
    ·have t:Hid (Yu (k+1) (zgP n wi F W)=true):=by
      show _=_;rw[zaO,C.out];simp[zgP,q,D]
     clear q;have m:Nonempty (xg (wr.1.size+1) (wr.alloc (Obj.cells #[Value.int IntKind.i64 (F k),Value.int IntKind.i64 (W k),Value.int IntKind.i64 (K k)] 80))):=xg.some _ _;have l:=fun(u:xg (wr.1.size+1) (wr.alloc (Obj.cells #[Value.int IntKind.i64 (F k),Value.int IntKind.i64 (W k),Value.int IntKind.i64 (K k)] 80))) b o h=>u.cell b o h;go_wp2;refine zy (wr.1.size+1) (by kernel_rfl) (by kernel_rfl) ?_;repeat(go_big_quiet_step (first
      |(go_at_call 237;exact Calls.later (by simp) (kL s le la wi ke qu _ n cap F W K _ r.1 r.2 hn _ (d.below (((E _ _).alloc (J _) _).trans (Below.mono (Subtype.property _) (by omega))))))
      |(go_at_call 240;exact Calls.later_same (jh _ n cap F W K k c hn v _ (d.below (((E _ _).alloc (J _) _).trans (Below.mono (Subtype.property _) (by omega))))))))
     refine wpQuiet_nil ?_;rintro⟨w1,f⟩;have g:Below (wr.1.size) wr w1:=((E _ _).alloc (J _) _).trans (f.mono (by omega));have j:Below (w.1.size+1) wr w1:=g.mono (by omega);clear l m;dsimp only;go_wp2;go_roundw;case rel=>exact⟨k+1,by omega,by go_num,t.out,x.trans j⟩
     case measure=>simp[intOf];omega
   ·have Q:(W k%zQ wi W (F k) !=0)=true:=(by simp[q]);have t:Hid (Yu n (zgP n wi F W)=false):=yV _ _ k c (by simp[zgP,q]);clear q;have m:Nonempty (xg (wr.1.size+1) (wr.alloc (Obj.cells #[Value.int IntKind.i64 (F k),Value.int IntKind.i64 (W k),Value.int IntKind.i64 (K k)] 80))):=xg.some _ _;have l:=fun(u:xg (wr.1.size+1) (wr.alloc (Obj.cells #[Value.int IntKind.i64 (F k),Value.int IntKind.i64 (W k),Value.int IntKind.i64 (K k)] 80))) b o h=>u.cell b o h;go_wp2;refine zy (wr.1.size+1) (by kernel_rfl) (by kernel_rfl) ?_;repeat(go_big_quiet_step (first
     |(go_at_call 237;exact Calls.later (by simp) (kL s le la wi ke qu _ n cap F W K _ r.1 r.2 hn _ (d.below (((E _ _).alloc (J _) _).trans (Below.mono (Subtype.property _) (by omega))))))
     |(go_at_call 240;exact Calls.later_same (jh _ n cap F W K k c hn v _ (d.below (((E _ _).alloc (J _) _).trans (Below.mono (Subtype.property _) (by omega))))))))
    refine wpQuiet_nil ?_;rintro⟨w1,f⟩;have g:Below (wr.1.size) wr w1:=((E _ _).alloc (J _) _).trans (f.mono (by omega));have j:Below (w.1.size+1) wr w1:=g.mono (by omega);clear l m;dsimp only;go_wp2;go_ret;exact⟨qc t.out.symm,p.trans (j.mono (by omega))⟩
  ·have e:k=n:=(by omega);subst e;go_wp2;go_ret;exact⟨qc C.out.symm,p⟩
end Go.Proofs.YtndhpgciopcncaaGreatDoor
namespace Go.Proofs.YtndhpgciopcncaaGreatDoor
open Go.RowKit Go.ChangeShapes Go.WideShapes
theorem Tryz.cellsConfig:prog.cellsOf 27=7:=by kernel_rfl
theorem Tryz.cellsTier:prog.cellsOf 80=3:=by kernel_rfl
theorem Tryz.cellsInt:prog.cellsOf 3=1:=by kernel_rfl
theorem Tryz.cellsTiers:prog.cellsOf 25=1:=by kernel_rfl
theorem Tryz.bytesTier:prog.bytesOf 80=24:=by kernel_rfl
section
variable {H:Type} {enc:TypeId×Value->H} {w:World} {held:Bool}
theorem yE(b a j:Nat):((U b a):Addr).add j=(U b (a+j)):=by unfold Addr.add;split<;>simp_all
end
end Go.Proofs.YtndhpgciopcncaaGreatDoor
namespace Go.Proofs.YtndhpgciopcncaaGreatDoor
open Go.RowKit
variable {cs:Array Value} {xs:List Value} {B g i n size:Nat} {fr:Nat×Nat} {v:Value} {w:World}
theorem xR{t:TypeId}(h:w.1[g]?=some (.cells cs t fr))(i:Nat):w.cell? (U g i)=cs[i]?:=by simp[World.cell?,h]
def cF(w:World)(g:Nat):List Nat->List Value->Prop
 |i::l,v::r=>w.cell? (U g i)=some v/\cF w g l r
 |_,_=>True
theorem zpF{w:World}{g:Nat}{cs:Array Value}{t:TypeId}{fr:Nat×Nat}(h:w.1[g]?=some (.cells cs t fr)):∀(m n:Nat) (l:List Value),(∀i,l[i]?=cs[n+i]?)->cF w g (List.range' n m) l
 |0,_,_,_=>by simp[List.range',cF]
 |m+1,n,[],_=>by simp[List.range',cF]
 |m+1,n,v::r,a=>by
  rw[List.range'_succ];refine⟨?_,zpF h m (n+1) r (fun i=>?_)⟩
  ·rw[xR h];have:=a 0;simpa using this.symm
  ·have:=a (i+1);rw[show n+1+i=n+(i+1) by omega,<-this];simp
theorem zc{t:TypeId}(h:w.1[g]?=some (.cells cs t fr)):cF w g [0,1,2,3,4,5,6,7,8,9,10,11,12,13,14] cs.toList:=zpF h 15 0 cs.toList (fun i=>by simp)
theorem zw{t:TypeId}(h:w.1[g]?=some (.cells cs t (0,0)))(i:Nat):w.frozen? (U g i)=false:=by simp[World.frozen?,h]
theorem zq(w:World)(o:Obj):(w.alloc o).1[w.1.size]?=some o:=heap_alloc_last w o
theorem zM(w:World)(o:Obj):(w.alloc o).1.size=w.1.size+1:=by simp
theorem vr{α:Type}{l:List α}(h:i<l.length):∃a,l[i]?=some a:=⟨_,List.getElem?_eq_getElem h⟩
theorem zqN{e:TypeId}{l:List Nm}(h:w.ownsRow B e 3 v l.length (l.flatMap nmV)){x:Nm}(a:l[i]?=some x):
  ∃g cap,v=.slice (some (U g 0)) l.length cap/\B<=g/\g<w.1.size/\w.cell? (U g (i*3))=some (I x.sr)/\w.cell? (U g (i*3+1))=some (I x.tm)/\w.cell? (U g (i*3+2))=some (int i32 x.val):=by
 have d:i<l.length:=(List.getElem?_eq_some_iff.1 a).1;obtain⟨g,cap,hv,c,b⟩:=h.form (by omega);rw[hv]at h;refine⟨g,cap,hv,c,b,?_,?_,?_⟩
 ·rw[h.cellAt _ (by omega)];exact kZ (f:=nmV) zdo l i x 0 a (by omega)
 ·rw[h.cellAt _ (by omega)];exact kZ (f:=nmV) zdo l i x 1 a (by omega)
 ·rw[h.cellAt _ (by omega)];exact kZ (f:=nmV) zdo l i x 2 a (by omega)
theorem zR{e:TypeId}(h:w.ownsRow B e size v n xs):∃a cap,v=.slice a n cap:=by
 rcases h.2 with⟨b,c⟩|⟨g,cap,_,b,_⟩
 ·exact⟨none,0,by rw[b,c]⟩
 ·exact⟨_,cap,b⟩
theorem xp{w':World}{e:TypeId}(h:w.ownsRow B e size v n xs)(a:Below w.1.size w w'):w'.ownsRow B e size v n xs:=
 zh h (zi.of_below (f:=fun _=>False) a) (fun _ _ b=>b)
def kR(s:Sg):Value:=.agg #[I s.t,I s.sr,I s.wn]
def QC(s:Sg)(l:List Sg):Bool:=decide (s∈l)
theorem zbF{s:Sg}{l:List Sg}(h:s∈l):QC s l=true:=by simp[QC,h]
end Go.Proofs.YtndhpgciopcncaaGreatDoor
