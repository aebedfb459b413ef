import Derived.Test.YtndhpgciopcncaaGreatDoorXFrt0
import Derived.Test.YtndhpgciopcncaaGreatDoorXApp0
open Nat renaming le_refl → J
open Go.RowKit.Below renaming refl → E
open Option renaming some → Q
open Nat renaming lt_of_lt_of_le → S
open Go.RowKit renaming Below → D
open Go renaming World → T
open Nat renaming zero_le → M
set_option linter.unusedVariables false
set_option maxRecDepth 8000
set_option maxHeartbeats 8000000
open Go.Proofs.Tryz
namespace Go.Proofs.YtndhpgciopcncaaGreatDoor
open Go.RowKit
variable {cs:Array Value} {Q1 Q2 Q3 Q4:Int} {N g n off:Nat} {F K W:Nat->Int} {f:Nat->Prop} {fr:Nat×Nat} {op:Obj} {a:Option Addr} {V X w w':T}
theorem zaw(s c b f ke d:Int)(a:Option Addr)(n cap:Nat)(w:T)(h:zdj s c b f ke d n=false):
  Calls prog 75 #[.agg #[I s,I c,I b,I f,I ke,I d,.slice a n cap]] w (Rz w (I 1)):=by
 cases g:inB s 1 4
 ·clear h;go_in;go_wp2_with(go_at_call 136;refine(Zb _ _ _ _).mono ?_;rintro e w' ⟨rfl,rfl⟩);go_ret;exact⟨rfl,(E _ _).alloc (J _) _⟩
 cases i:inB c 1 100
 ·clear h;go_in;go_wp2_with(go_at_call 136;refine(Zb _ _ _ _).mono ?_;rintro e w' ⟨rfl,rfl⟩);go_ret;exact⟨rfl,(E _ _).alloc (J _) _⟩
 cases j:inB b 0 100
 ·clear h;go_in;go_wp2_with(go_at_call 136;refine(Zb _ _ _ _).mono ?_;rintro e w' ⟨rfl,rfl⟩);go_ret;exact⟨rfl,(E _ _).alloc (J _) _⟩
 cases k:inB f 1 50
 ·clear h;go_in;go_wp2_with(go_at_call 136;refine(Zb _ _ _ _).mono ?_;rintro e w' ⟨rfl,rfl⟩);go_ret;exact⟨rfl,(E _ _).alloc (J _) _⟩
 cases l:inB ke 0 1000
 ·clear h;go_in;go_wp2_with(go_at_call 136;refine(Zb _ _ _ _).mono ?_;rintro e w' ⟨rfl,rfl⟩);go_ret;exact⟨rfl,(E _ _).alloc (J _) _⟩
 cases m:inB d 1 400
 ·clear h;go_in;go_wp2_with(go_at_call 136;refine(Zb _ _ _ _).mono ?_;rintro e w' ⟨rfl,rfl⟩);go_ret;exact⟨rfl,(E _ _).alloc (J _) _⟩
 cases o:inB (n:Int) 1 4
 ·clear h;go_in;go_wp2_with(go_at_call 136;refine(Zb _ _ _ _).mono ?_;rintro e w' ⟨rfl,rfl⟩);go_ret;exact⟨rfl,(E _ _).alloc (J _) _⟩
 simp[zdj,g,i,j,k,l,m,o]at h
theorem zax(s v t d ke x:Int)(a:Option Addr)(n cap:Nat)(F W K:Nat->Int)(w:T)(h:TS w a n F W K)(hh:zdj s v t d ke x n=true):
  Calls prog 75 #[.agg #[I s,I v,I t,I d,I ke,I x,.slice a n cap]] w (Rz w (I (Q6 (vK n (jg n F W K)&&vK n (zet d F W))))):=by
 simp only[zdj,Bool.and_eq_true]at hh;obtain⟨⟨⟨⟨⟨⟨e0,e1⟩,e2⟩,e3⟩,e4⟩,e5⟩,e6⟩:=hh;have hn:n<=4:=by rw[qZ]at e6;omega
 have a5:1<=d/\d<=1000:=by rw[qZ]at e3;omega
 have R:B_ w (w.alloc (.cells #[I s,I v,I t,I d,I ke,I x,.slice a n cap] 27)):=(E _ _).alloc (J _) _;go_in;go_wp2_with(go_at_call 136;refine(Zb _ _ _ _).mono ?_;rintro e w' ⟨rfl,rfl⟩);go_loopw [2,10,11,12,13,14] (fun _ y _ _ _ _ wr=>∃(k:Nat),k<=n/\y=I k/\vK k (jg n F W K)=true/\D (w.1.size+1) (w.alloc (.cells #[I s,I v,I t,I d,I ke,I x,.slice a n cap] 27)) wr) (fun _ y _ _ _ _ _=>n-(intOf y).toNat);case atStart=>exact⟨0,M _,rfl,XT _,E _ _⟩
 case round=>
  obtain⟨k,hk,rfl,V,A⟩:=hrel;have C:Hid (vK k (jg n F W K)=true):=V;clear V;have l:B_ w wr:=R.trans (A.mono (by omega));have B:w.1.size<wr.1.size:=by have:=A.size;simp at this;omega
  obtain⟨_,c0,c1,c2,c3,c4,c5,Y⟩:=(CF.made w 27 (0,0) s v t d ke x a n cap).below A (by omega);by_cases g:k<n
  ·have q:=h.below l;obtain⟨b,off,rfl,H,X⟩:=h.below l (by omega);obtain⟨h1,h2,h3⟩:=X k g;have a1:(k:Int)<n:=(by omega);clear X;cases f0:xi n F (n+1) k
   ·have z:Hid ((vK n (jg n F W K)&&vK n (zet d F W))=false):=(by show _=_;rw[qi _ _ k g (by simp[jg,f0])];rfl);go_wp2_with(first|(go_at_call 136;refine(Zb _ _ _ _).mono ?_;rintro e w' ⟨rfl,rfl⟩)|(go_at_call 137;refine(Q7 s v t d ke x _ n cap F W K k g hn _ (q.below ((E _ _).alloc (J _) _))).mono ?_;rintro e w1 ⟨rfl,c⟩;have f:B_ wr w1:=((E _ _).alloc (J _) _).trans (c.mono (by simp));have r:∀o,w1.cell? (U wr.1.size o)=_:=(fun o=>(c.cell (p:=(U wr.1.size o)) (by simp)).trans (K8 _ _ _ _ _ _ rfl));have x1:=r 1;have x2:=r 2;clear r c));go_ret;exact⟨ZB (kN z.out).symm,l.trans (f.mono (by omega))⟩
   ·cases f1:inB (W k) 1 1000
    ·have z:Hid ((vK n (jg n F W K)&&vK n (zet d F W))=false):=(by show _=_;rw[qi _ _ k g (by simp[jg,f1])];rfl);go_wp2_with(first|(go_at_call 136;refine(Zb _ _ _ _).mono ?_;rintro e w' ⟨rfl,rfl⟩)|(go_at_call 137;refine(Q7 s v t d ke x _ n cap F W K k g hn _ (q.below ((E _ _).alloc (J _) _))).mono ?_;rintro e w1 ⟨rfl,c⟩;have f:B_ wr w1:=((E _ _).alloc (J _) _).trans (c.mono (by simp));have r:∀o,w1.cell? (U wr.1.size o)=_:=(fun o=>(c.cell (p:=(U wr.1.size o)) (by simp)).trans (K8 _ _ _ _ _ _ rfl));have x1:=r 1;have x2:=r 2;clear r c));go_ret;exact⟨ZB (kN z.out).symm,l.trans (f.mono (by omega))⟩
    ·cases f2:inB (K k) 0 1000
     ·have z:Hid ((vK n (jg n F W K)&&vK n (zet d F W))=false):=(by show _=_;rw[qi _ _ k g (by simp[jg,f2])];rfl);go_wp2_with(first|(go_at_call 136;refine(Zb _ _ _ _).mono ?_;rintro e w' ⟨rfl,rfl⟩)|(go_at_call 137;refine(Q7 s v t d ke x _ n cap F W K k g hn _ (q.below ((E _ _).alloc (J _) _))).mono ?_;rintro e w1 ⟨rfl,c⟩;have f:B_ wr w1:=((E _ _).alloc (J _) _).trans (c.mono (by simp));have r:∀o,w1.cell? (U wr.1.size o)=_:=(fun o=>(c.cell (p:=(U wr.1.size o)) (by simp)).trans (K8 _ _ _ _ _ _ rfl));have x1:=r 1;have x2:=r 2;clear r c));go_ret;exact⟨ZB (kN z.out).symm,l.trans (f.mono (by omega))⟩
     ·have z:Hid (vK (k+1) (jg n F W K)=true):=by
       show _=_;rw[XS,C.out];simp[jg,f0,f1,f2]
      go_wp2_with(first|(go_at_call 136;refine(Zb _ _ _ _).mono ?_;rintro e w' ⟨rfl,rfl⟩)|(go_at_call 137;refine(Q7 s v t d ke x _ n cap F W K k g hn _ (q.below ((E _ _).alloc (J _) _))).mono ?_;rintro e w1 ⟨rfl,c⟩;have f:B_ wr w1:=((E _ _).alloc (J _) _).trans (c.mono (by simp));have r:∀o,w1.cell? (U wr.1.size o)=_:=(fun o=>(c.cell (p:=(U wr.1.size o)) (by simp)).trans (K8 _ _ _ _ _ _ rfl));have x1:=r 1;have x2:=r 2;clear r c));go_roundw;case rel=>exact⟨k+1,by omega,by go_num,z.out,A.trans (f.mono (by omega))⟩
      case measure=>simp[intOf];omega
  ·have e:k=n:=(by omega);subst e;have hW:∀i,i<k->1<=W i/\W i<=1000:=fun i hi=>by
    have:=(vq _ _).1 C.out i hi;simp only[jg,Bool.and_eq_true,qZ]at this;omega
   have hF:∀i,i<k-> -1<=F i/\F i<k:=fun i hi=>by
    have:=(vq _ _).1 C.out i hi;simp only[jg,Bool.and_eq_true]at this;exact Xl k F i hi this.1.1
   have a0:Hid (vK k (jg k F W K)=true):=C;clear C;go_wp2;go_loopw [2,15,16] (fun _ y _ wr=>∃(j:Nat),j<=k/\y=I j/\vK j (zet d F W)=true/\D (w.1.size+1) (w.alloc (.cells #[I s,I v,I t,I d,I ke,I x,.slice a k cap] 27)) wr) (fun _ y _ _=>k-(intOf y).toNat);case atStart=>exact⟨0,M _,rfl,XT _,A⟩
   case round=>
    clear A l B c0 c1 c2 c3 c4 c5 Y;obtain⟨j,hj,rfl,V,A⟩:=hrel;have C:Hid (vK j (zet d F W)=true):=V;clear V;have l:B_ w wr:=R.trans (A.mono (by omega));have B:w.1.size<wr.1.size:=(by have:=A.size;simp at this;omega);obtain⟨_,c0,c1,c2,c3,c4,c5,Y⟩:=(CF.made w 27 (0,0) s v t d ke x a k cap).below A (by omega);by_cases g:j<k
    ·have q:=h.below l;obtain⟨b,off,rfl,H,X⟩:=h.below l (by omega);obtain⟨h1,h2,h3⟩:=X j g;have a1:(j:Int)<k:=(by omega);have Z:=hF j g;clear X;have a2:1<=xp d W (F j)/\xp d W (F j)<=1000:=by
      unfold xp;by_cases e:F j= -1
      ·rw[if_pos e];omega
      ·rw[if_neg e];exact hW _ (by omega)
     obtain⟨a3,a4⟩:=a2;have a6:=hW j g;by_cases P:W j%xp d W (F j)=0
     ·have hq:(W j%xp d W (F j) !=0)=false:=(by simp[P]);have z:Hid (vK (j+1) (zet d F W)=true):=by
       show _=_;rw[XS,C.out];simp[zet,P]
      clear P;have O:Nonempty (zm wr.1.size wr):=zm.some _ _;have N:=fun(u:zm wr.1.size wr) b o h=>u.cell b o h;go_wp2;refine zh wr.1.size (by kernel_rfl) (by kernel_rfl) ?_;repeat(go_big_quiet_step ((go_at_call 138;exact Calls.later (J _) (jB s v t d ke x _ k cap F W K _ Z.1 Z.2 hn _ (q.below (Subtype.property _))))))
      refine wpQuiet_nil ?_;rintro⟨w1,f⟩;clear N O;obtain⟨m,_⟩:=zpf f;have d6:w1.cell? (U w.1.size 6)=_:=(m _ _ B).trans Y;have d2:w1.cell? (U b (off+j*3+1))=_:=(m _ _ H).trans h2;clear m;dsimp only;go_wp2;go_roundw;case rel=>exact⟨j+1,by omega,by go_num,z.out,A.trans (f.mono (by omega))⟩
      case measure=>simp[intOf];omega
     ·have hq:(W j%xp d W (F j) !=0)=true:=(by simp[P]);have z:Hid ((vK k (jg k F W K)&&vK k (zet d F W))=false):=(by show _=_;rw[qi k (zet d F W) j g (by simp[zet,P])];simp);clear P;have O:Nonempty (zm wr.1.size wr):=zm.some _ _;have N:=fun(u:zm wr.1.size wr) b o h=>u.cell b o h;go_wp2;refine zh wr.1.size (by kernel_rfl) (by kernel_rfl) ?_;repeat(go_big_quiet_step ((go_at_call 138;exact Calls.later (J _) (jB s v t d ke x _ k cap F W K _ Z.1 Z.2 hn _ (q.below (Subtype.property _))))))
      refine wpQuiet_nil ?_;rintro⟨w1,f⟩;clear N O;obtain⟨m,_⟩:=zpf f;have d6:w1.cell? (U w.1.size 6)=_:=(m _ _ B).trans Y;have d2:w1.cell? (U b (off+j*3+1))=_:=(m _ _ H).trans h2;clear m;dsimp only;go_wp2;go_ret;exact⟨ZB (kN z.out).symm,l.trans (f.mono (by omega))⟩
    ·have e:j=k:=(by omega);subst e;have HT:Hid ((vK j (jg j F W K)&&vK j (zet d F W))=true):=(by show _=_;rw[C.out,a0.out];rfl);go_wp2;go_ret;exact⟨ZB (zcW HT.out).symm,l⟩
theorem Yl(s d c b ke f:Int)(a:Option Addr)(n cap:Nat)(F W K:Nat->Int)(w:T)(h:TS w a n F W K):
  Calls prog 75 #[.agg #[I s,I d,I c,I b,I ke,I f,.slice a n cap]] w (Rz w (I (Q6 (xR s d c b ke f n F W K)))):=by
 rw[zgN];cases g:zdj s d c b ke f n
 ·rw[kN (by simp[zcd,g])];exact zaw s d c b ke f a n cap w g
 ·have e:zcd s d c b ke f n F W K=(vK n (jg n F W K)&&vK n (zet b F W)):=by simp[zcd,g]
  rw[e];exact zax s d c b ke f a n cap F W K w h g
theorem Tryz.infoTier:(prog.info? 80).map (fun i=>(i.zero,i.size,i.bytes))=Q (Q (.agg #[I 0,I 0,I 0]),3,24):=by kernel_rfl
def kI(n:Nat):Array Value:=madeCells #[I 0,I 0,I 0] ((n+1)*3)
theorem Z5(n:Nat):(kI n).size=(n+1)*3:=size_madeCells _ _
theorem zfX(n:Nat)(j:24*(n+1)<=281474976710656)(a:T):
  (Instr.makeSlice 25 (I ((n:Int)+1)) (I ((n:Int)+1))).run prog a=.ok (.slice (Q (U a.1.size 0)) (n+1) (n+1)) (a.alloc (.cells (kI n) 80)):=by
 have c:=Tryz.infoTier;cases d:prog.info? 80 with
 |none=>simp[d]at c
 |some i=>
  simp only[d,Option.map_some,Option.some.injEq,Prod.mk.injEq]at c;obtain⟨h,g,b⟩:=c;have f:=run_make (P:=prog) a 25 80 i _ underlying25 d h .i64 .i64 ((n:Int)+1) ((n:Int)+1) (by omega) (by omega) (by rw[b];omega) (by omega);rw[f,g];have e:((n:Int)+1).toNat=n+1:=by omega
  rw[e];rfl
theorem XZ{t:TypeId}(h:w.1[g]?=Q (.cells cs t fr))(i:Nat):w.cell? (U g i)=cs[i]?:=by simp[World.cell?,h]
theorem jN{t:TypeId}(h:w.1[g]?=Q (.cells cs t (0,0)))(i:Nat):w.frozen? (U g i)=false:=by simp[World.frozen?,h]
theorem TS.cells(h:TS w a n F W K):0<(Qp n F W K).length->∃ad,a=Q ad/\∀j v,(Qp n F W K)[j]?=Q v->w.cell? (ad.add j)=Q v:=by
 intro k;rw[xv]at k;obtain⟨b,off,rfl,_,l⟩:=h (by omega);refine⟨_,rfl,fun j v hv=>?_⟩;have m:j<n*3:=by
  have:=(List.getElem?_eq_some_iff.1 hv).1;rwa[xv]at this
 rw[YR n F W K j m]at hv;cases hv;have d:((U b off):Addr).add j=(U b (off+j)):=by unfold Addr.add;split<;>simp_all
 rw[d];obtain⟨f,g,i⟩:=l (j/3) (by omega);rcases(show j%3=0\/j%3=1\/j%3=2 by omega)with e|e|e
 ·have c:j=j/3*3:=by omega
  rw[c,zcS];exact f
 ·have c:j=j/3*3+1:=by omega
  rw[c,zcT];exact g
 ·have c:j=j/3*3+2:=by omega
  rw[c,zcU];exact i
theorem TS.of_row{r:List Value}{t:TypeId}(b:w.1[g]?=Q (.cells (Qp n F W K++r).toArray t fr)):TS w (Q (U g 0)) n F W K:=fun _=>by
 have a:g<w.1.size:=(Array.getElem?_eq_some_iff.1 b).1;refine⟨g,0,rfl,a,fun i d=>?_⟩;have e:∀j,j<n*3->w.cell? (U g j)=Q (XX F W K j):=fun j c=>by
  simp only[World.cell?,b];simp[List.getElem?_append_left (show j<(Qp n F W K).length by rw[xv];exact c),YR n F W K j c]
 simp only[Nat.zero_add];refine⟨?_,?_,?_⟩
 ·rw[e _ (by omega),zcS]
 ·rw[e _ (by omega),zcT]
 ·rw[e _ (by omega),zcU]
theorem TS.setCell(h:TS w (Q (U g off)) n F W K)(o:Nat)(v:Value)(m:off+n*3<=o):TS (w.setCell (U g o) v) (Q (U g off)) n F W K:=fun j=>by
 obtain⟨b,d,e,c,k⟩:=h j;cases e;refine⟨g,off,rfl,by simpa[World.setCell]using c,fun i l=>?_⟩;have a:∀o',o'<o->(w.setCell (U g o) v).cell? (U g o')=w.cell? (U g o'):=fun o' f=>World.cell?_setCell_other _ _ _ _ (by intro e;cases e;exact absurd f (Nat.lt_irrefl _));rw[a _ (by omega),a _ (by omega),a _ (by omega)];exact k i l
theorem yP{z a i:Nat}(hn:¬a=z)(b:a<V.1.size)(c d e g:Value):((((V.setCell (U z 0) c).setCell (U z 1) d).setCell (U z 2) e).setCell (U z 3) g).cell? (U a i)=V.cell? (U a i):=
 zD (f:=fun k=>k=z) (zk (zk (zk (zk (zj.refl _ _) rfl) rfl) rfl) rfl) hn b
structure AQq(w Y:T)(z:Nat)(op:Obj)(Q1 Q2 Q3 Q4:Int):Prop where
 below:B_ w Y
 low:w.1.size+3<=z
 cell:Y.1[z]?=Q (.cells #[I Q1,I Q2,i_ Q3,i_ Q4] 115)
 op:Y.1[w.1.size]?=Q op
 res:Y.1[w.1.size+1]?=Q kq
theorem znk{a b c d:Value}{t:TypeId}(h:w.1[g]?=Q (.cells #[a,b,c,d] t))(e f j k:Value):((((w.setCell (U g 0) e).setCell (U g 1) f).setCell (U g 2) j).setCell (U g 3) k).1[g]?=Q (.cells #[e,f,j,k] t):=by
 have l:(w.setCell (U g 0) e).1[g]?=Q (.cells #[e,b,c,d] t):=xq (i:=0) h e;have m:((w.setCell (U g 0) e).setCell (U g 1) f).1[g]?=Q (.cells #[e,f,c,d] t):=xq (i:=1) l f;have n:(((w.setCell (U g 0) e).setCell (U g 1) f).setCell (U g 2) j).1[g]?=Q (.cells #[e,f,j,d] t):=xq (i:=2) m j;exact xq (i:=3) n k
theorem zis(a b c d:Value):zj (fun k=>k=g) w ((((w.setCell (U g 0) a).setCell (U g 1) b).setCell (U g 2) c).setCell (U g 3) d):=
 zk (zk (zk (zk (zj.refl _ _) rfl) rfl) rfl) rfl
theorem AQq.ahead(e:B_ w X)(i:X.1.size=w.1.size+3)(c:X.1[w.1.size]?=Q op)(d:X.1[w.1.size+1]?=Q kq)(hv:B_ X V)(f:V.1[X.1.size]?=Q kq):
  AQq w ((((V.setCell (U X.1.size 0) (I Q1)).setCell (U X.1.size 1) (I Q2)).setCell (U X.1.size 2) (i_ Q3)).setCell (U X.1.size 3) (i_ Q4)) X.1.size op Q1 Q2 Q3 Q4:=by
 have b:=zis (w:=V) (g:=X.1.size) (I Q1) (I Q2) (i_ Q3) (i_ Q4);have h:=hv.size;have a:B_ X _:=hv.trans (b.below h (fun k b=>by omega));exact⟨e.trans (a.mono (by omega)),by omega,znk f _ _ _ _,(a.block w.1.size (by omega)).trans c,(a.block (w.1.size+1) (by omega)).trans d⟩
theorem AQq.behind(d:B_ w X)(f:X.1.size=w.1.size+3)(b:X.1[w.1.size]?=Q op)(c:X.1[w.1.size+1]?=Q kq)(hv:B_ X V):
  AQq w (V.alloc (.cells #[I Q1,I Q2,i_ Q3,i_ Q4] 115)) V.1.size op Q1 Q2 Q3 Q4:=by
 have e:=hv.size;have a:=hv.alloc e (.cells #[I Q1,I Q2,i_ Q3,i_ Q4] 115);exact⟨d.trans (a.mono (by omega)),by omega,zo V _,(a.block w.1.size (by omega)).trans b,(a.block (w.1.size+1) (by omega)).trans c⟩
structure ARq(w Y:T)(z:Nat)(Q1 Q2 Q3 Q4:Int):Prop where
 below:B_ w Y
 cell:Y.1[z]?=Q (.cells #[I Q1,I Q2,i_ Q3,i_ Q4] 115)
theorem ARq.ahead(hv:B_ X V)(b:V.1[X.1.size]?=Q kq):
  ARq X ((((V.setCell (U X.1.size 0) (I Q1)).setCell (U X.1.size 1) (I Q2)).setCell (U X.1.size 2) (i_ Q3)).setCell (U X.1.size 3) (i_ Q4)) X.1.size Q1 Q2 Q3 Q4:=by
 have a:=zis (w:=V) (g:=X.1.size) (I Q1) (I Q2) (i_ Q3) (i_ Q4);exact⟨hv.trans (a.below hv.size (fun k a=>by omega)),znk b _ _ _ _⟩
theorem ARq.behind(hv:B_ X V):
  ARq X (V.alloc (.cells #[I Q1,I Q2,i_ Q3,i_ Q4] 115)) V.1.size Q1 Q2 Q3 Q4:=⟨hv.alloc hv.size _,zo V _⟩
theorem zcN{wb po x d r:Nat}{c:Cf}{ct mv td:Value}{ep:Int}(aJ:w.1[po]?=Q (zL x d c ct mv td ep))(af:w.ownsRow 0 138 1 mv 1 [(O r)])(o:Ops){QE:Int}(aC:∀V,B_ w V->Calls prog 57 #[(O x),I o.a,I o.b,I o.c] V fun e V'=>e=.returned (.tuple #[.agg #[I Q1,I Q2,i_ Q3,i_ Q4],I QE])/\B_ V V')(aD:∀V,B_ w V->Calls prog 144 #[(O r),I o.a,I o.b,I o.c] V fun e V'=>e=.returned (.tuple #[.agg #[I Q1,I Q2,i_ Q3,i_ Q4],I QE])/\B_ V V'):
  Calls prog 81 #[(O wb),(O po),.agg (oZz 4 o)] w fun e w'=>e=.returned (.bool true)/\∃(Z:T) (g cap:Nat),w'=Z.setCell (U po 9) (.slice (Q (U g 0)) 1 cap)/\B_ w Z/\Z.ownsRow 0 138 1 (.slice (Q (U g 0)) 1 cap) 1 [(O r)]/\w.1.size<=g:=by
 have av:=zd aJ;obtain⟨y0,y1,y2,F,yz⟩:=K5 w (.cells (oZz 4 o) 82) kq ye;have al:=fun(V:T) (f:B_ w V)=>ze (aC V f);have am:=fun(V:T) (f:B_ w V)=>ze (aD V f);obtain⟨mb,be,aK,_,ag⟩:=af.form (by omega);have aT:Hid (w.cell? (U mb 0)=Q (O r)):=by
  have:=af;rw[aK]at this;show _=_;rw[this.cellAt 0 (by omega)];rfl
 have aj:=ze aJ;go_in;clear aC aD;go_wp2_with fail;generalize(((w.alloc (.cells (oZz 4 o) 82)).alloc kq).alloc ye)=X at*;have a9:=zo X kq;have v:B_ X (X.alloc kq):=(E _ _).alloc (J _) _;have ax:(X.alloc kq).1.size=X.1.size+1:=zE X _;have aa:X.1.size<(X.alloc kq).drew.1.size:=by show X.1.size<(X.alloc kq).1.size;omega
 have t:=ze v.drew;have P:=al _ (F.trans (v.drew.mono F.size));have N:=al _ F.drew;clear al;have aw:=(F.block po av).trans aj;have z0:X.cell? (U po 0)=Q (O x):=by unfold zL at aw;rw[xd aw];rfl
 obtain⟨-,-,z2,z3,z4,-⟩:=zc y0;have a5:po<X.1.size:=by omega
 have q:w.1.size<X.1.size:=by omega
 have Y0:=ze y0;have Y1:=ze y1;have Y3:=ze a9;have ai:=ze F;have YZ:=ze yz;have b7:¬po=X.1.size:=by omega
 have aA:¬w.1.size=X.1.size:=by omega
 clear y0 y1 y2 F yz aw a9 ax v;go_region_held3 (fun w'=>w'.cell? (U po 0)=Q (O x)/\w'.cell? (U w.1.size 2)=Q (I o.a)/\w'.cell? (U w.1.size 3)=Q (I o.b)/\w'.cell? (U w.1.size 4)=Q (I o.c)) (first|go_keep|exact⟨(yP (by assumption) (by assumption) _ _ _ _).trans (by assumption),(yP (by assumption) (by assumption) _ _ _ _).trans (by assumption),(yP (by assumption) (by assumption) _ _ _ _).trans (by assumption),(yP (by assumption) (by assumption) _ _ _ _).trans (by assumption)⟩) (first
  |(go_at_call 57;refine P.mono ?_;rintro e V ⟨rfl,i⟩;have hz:=(i.block X.1.size aa).trans Y3;have f:B_ X V:=t.trans (i.mono t.size);clear i;have aO:po<V.1.size:=S a5 f.size;have a6:w.1.size<V.1.size:=S q f.size;have v0:=(f.cell (p:=(U po 0)) a5).trans z0;have v2:=(f.cell (p:=(U w.1.size 2)) q).trans z2;have v3:=(f.cell (p:=(U w.1.size 3)) q).trans z3;have v4:=(f.cell (p:=(U w.1.size 4)) q).trans z4;obtain⟨n0,n1,n2,n3,-⟩:=zc hz;have nf:=fun j=>zI hz j;have HZ:=ze hz;have n:=ze f;clear f hz)
  |(go_at_call 57;refine N.mono ?_;rintro e V ⟨rfl,i⟩;have f:B_ X V:=⟨i.os,i.tape,i.output,i.size,i.block⟩;clear i;have aO:po<V.1.size:=S a5 f.size;have a6:w.1.size<V.1.size:=S q f.size;have v0:=(f.cell (p:=(U po 0)) a5).trans z0;have v2:=(f.cell (p:=(U w.1.size 2)) q).trans z2;have v3:=(f.cell (p:=(U w.1.size 3)) q).trans z3;have v4:=(f.cell (p:=(U w.1.size 4)) q).trans z4;have b6:¬po=V.1.size:=(by have:=f.size;omega);have az:¬w.1.size=V.1.size:=(by have:=f.size;omega);have n:=ze f;clear f))
 all_goals(first
  |(have m:=AQq.ahead (Q1:=Q1) (Q2:=Q2) (Q3:=Q3) (Q4:=Q4) ai YZ Y0 Y1 n HZ;clear n0 n1 n2 n3 nf HZ;generalize((((V.setCell (U X.1.size 0) (I Q1)).setCell (U X.1.size 1) (I Q2)).setCell (U X.1.size 2) (i_ Q3)).setCell (U X.1.size 3) (i_ Q4))=Y at m ⊢;generalize X.1.size=z at m ⊢)
  |(have m:=AQq.behind (Q1:=Q1) (Q2:=Q2) (Q3:=Q3) (Q4:=Q4) ai YZ Y0 Y1 n;clear b6 az;generalize(V.alloc (.cells #[I Q1,I Q2,i_ Q3,i_ Q4] 115))=Y at m ⊢;generalize V.1.size=z at m ⊢))
 all_goals
  clear v0 v2 v3 v4 aO a6 n z0 z2 z3 z4 a5 q Y0 Y1 Y3 ai YZ t P N aa b7 aA
  have ba:=zd m.cell
  have b8:=zd m.res
  have aL:¬w.1.size+1=z:=by have:=m.low;omega
  obtain⟨a0,a1,a2,a3,-⟩:=zc m.cell
  obtain⟨b0,b1,b2,b3,-⟩:=zc m.res
  have bf:=fun j=>zI m.res j
  have HP:=ze m
  clear m
  go_wp2_with(go_at_call 135;refine(zaj _ _).mono ?_;rintro e V1 ⟨rfl,aH⟩;rw[aH];clear aH)
 all_goals
  have m:=ud HP
  have ar:=zis (w:=Y) (g:=w.1.size+1) (I Q1) (I Q2) (i_ Q3) (i_ Q4)
  have aQ:=znk m.res (I Q1) (I Q2) (i_ Q3) (i_ Q4)
  have aN:=ar.heap m.op (by omega)
  have a8:B_ w ((((Y.setCell (U (w.1.size+1) 0) (I Q1)).setCell (U (w.1.size+1) 1) (I Q2)).setCell (U (w.1.size+1) 2) (i_ Q3)).setCell (U (w.1.size+1) 3) (i_ Q4)):=m.below.trans (ar.below m.below.size (fun k hk=>by omega))
  have aF:=ze (Vn (w:=((((Y.setCell (U (w.1.size+1) 0) (I Q1)).setCell (U (w.1.size+1) 1) (I Q2)).setCell (U (w.1.size+1) 2) (i_ Q3)).setCell (U (w.1.size+1) 3) (i_ Q4))) (by rw[<-aK];exact(a8.block po av).trans aj) ((a8.cell (p:=(U mb 0)) ag).trans aT) (S ag a8.size))
  have an:=ze aQ
  have ap:=ze a8
  have ak:=ze aN
  clear m HP ar aQ aN a8 a0 a1 a2 a3 b0 b1 b2 b3 bf ba b8 aL
  generalize((((Y.setCell (U (w.1.size+1) 0) (I Q1)).setCell (U (w.1.size+1) 1) (I Q2)).setCell (U (w.1.size+1) 2) (i_ Q3)).setCell (U (w.1.size+1) 3) (i_ Q4))=X8 at*
  refine aF.mono ?_
  rintro e l ⟨B,bb,rfl,y,ab⟩
  have ac:=(ab.block w.1.size (zd ak)).trans ak
  have a7:=ap.trans (ab.mono ap.size)
  obtain⟨q0,-,q2,q3,q4,-⟩:=zc ac
  have g0:l.cell? (U B 0)=Q (O r):=by rw[y.cellAt 0 (by omega)];rfl
  have H:B<l.1.size:=Zz y B rfl
  have s:=zd ac
  have a9:=zo l kq
  have v:B_ l (l.alloc kq):=(E _ _).alloc (J _) _
  have ax:(l.alloc kq).1.size=l.1.size+1:=zE l _
  have aa:l.1.size<(l.alloc kq).drew.1.size:=by show l.1.size<(l.alloc kq).1.size;omega
  have P:=am _ (a7.trans (v.drew.mono a7.size))
  have N:=am _ a7.drew
  have aY:¬B=l.1.size:=by omega
  have aA:¬w.1.size=l.1.size:=by omega
  have t:=ze v.drew
  have Y3:=ze a9
  have aE:=ze ((ab.block (w.1.size+1) (zd an)).trans an)
  have aB:=ze ac
  have ao:=ze a7
  clear ac a7 y ab aF am ax v a9 an ap ak
  go_wp2_with fail
  refine wp_loop_rounds 2 ?_
  rw[rounds_succ]
  go_wp2_with fail
  go_region_held3 (fun w'=>w'.cell? (U B 0)=Q (O r)/\w'.cell? (U w.1.size 2)=Q (I o.a)/\w'.cell? (U w.1.size 3)=Q (I o.b)/\w'.cell? (U w.1.size 4)=Q (I o.c)) (first|go_keep|exact⟨(yP (by assumption) (by assumption) _ _ _ _).trans (by assumption),(yP (by assumption) (by assumption) _ _ _ _).trans (by assumption),(yP (by assumption) (by assumption) _ _ _ _).trans (by assumption),(yP (by assumption) (by assumption) _ _ _ _).trans (by assumption)⟩) (first
   |(go_at_call 144;refine P.mono ?_;rintro e V ⟨rfl,i⟩;have hz:=(i.block l.1.size aa).trans Y3;have f:B_ l V:=t.trans (i.mono t.size);clear i;have aI:B<V.1.size:=S H f.size;have a6:w.1.size<V.1.size:=S s f.size;have v0:=(f.cell (p:=(U B 0)) H).trans g0;have v2:=(f.cell (p:=(U w.1.size 2)) s).trans q2;have v3:=(f.cell (p:=(U w.1.size 3)) s).trans q3;have v4:=(f.cell (p:=(U w.1.size 4)) s).trans q4;obtain⟨n0,n1,n2,n3,-⟩:=zc hz;have nf:=fun j=>zI hz j;have HZ:=ze hz;have n:=ze f;clear f hz)
   |(go_at_call 144;refine N.mono ?_;rintro e V ⟨rfl,i⟩;have f:B_ l V:=⟨i.os,i.tape,i.output,i.size,i.block⟩;clear i;have aI:B<V.1.size:=S H f.size;have a6:w.1.size<V.1.size:=S s f.size;have v0:=(f.cell (p:=(U B 0)) H).trans g0;have v2:=(f.cell (p:=(U w.1.size 2)) s).trans q2;have v3:=(f.cell (p:=(U w.1.size 3)) s).trans q3;have v4:=(f.cell (p:=(U w.1.size 4)) s).trans q4;have aX:¬B=V.1.size:=(by have:=f.size;omega);have az:¬w.1.size=V.1.size:=(by have:=f.size;omega);have n:=ze f;clear f))
 all_goals(first
  |(have m:=ARq.ahead (Q1:=Q1) (Q2:=Q2) (Q3:=Q3) (Q4:=Q4) n HZ;clear n0 n1 n2 n3 nf HZ;generalize((((V.setCell (U l.1.size 0) (I Q1)).setCell (U l.1.size 1) (I Q2)).setCell (U l.1.size 2) (i_ Q3)).setCell (U l.1.size 3) (i_ Q4))=U1 at m ⊢;obtain⟨C,W⟩:=m;generalize b9:l.1.size=z2 at W ⊢;clear b9)
  |(have m:=ARq.behind (Q1:=Q1) (Q2:=Q2) (Q3:=Q3) (Q4:=Q4) n;clear aX az;generalize(V.alloc (.cells #[I Q1,I Q2,i_ Q3,i_ Q4] 115))=U1 at m ⊢;obtain⟨C,W⟩:=m;generalize V.1.size=z2 at W ⊢))
 all_goals
  clear v0 v2 v3 v4 aI a6 n q2 q3 q4 t P N aa aY aA Y3
  have g2:Cz U1 B 0 (O r):=(C.cell (p:=(U B 0)) H).trans g0
  have aP:=(C.block (w.1.size+1) (zd aE)).trans aE
  obtain⟨s0,s1,s2,s3,-⟩:=zc aP
  obtain⟨a0,a1,a2,a3,-⟩:=zc W
  have aZ:0<1:=by decide
  have b4:0+1<=maxLen:=by simp[maxLen]
  have b5:(0+1)*8<=140737488355328:=by omega
  have bh:B<U1.1.size:=S H C.size
  have ah:=ze C
  clear aP C W
  go_wp2_with(first|(at_builtin;refine zO rfl _ _ 135 rfl 0 138 _ 1 8 underlying135 Tryz.infoRefP rfl (by decide) (.slice none 0 0) 0 [] rfl (World.ownsRow_nil _ _ _ _) (U U1.1.size 0) 1 1 [(O r)] rfl rfl (World.news_of_block (cs:=#[(O r)]) (zo U1 _)) (by intro u hu;simp at hu;subst hu;rfl) aZ b4 b5 (M _) ?_;intro g aG W4 a4 au A ad bc;have aU:=ze a4;have aS:=ze A;have aR:=ze ad;clear a4 au A ad)|go_in)
  have aq:B_ U1 (U1.alloc (.cells #[(O r)] 138)):=(E _ _).alloc (J _) _
  have ae:B_ U1 W4:=aq.grown (show(U1.alloc (.cells #[(O r)] 138)).grownBy W4 none from ud aS) aq.size (fun k e=>by cases e)
  have R:B_ l W4:=ah.trans (ae.mono ah.size)
  have ay:B_ w W4:=ao.trans (R.mono ao.size)
  have K:=(ay.block po av).trans aj
  have aM:=(R.block w.1.size (zd aB)).trans aB
  have k9:W4.cell? (U po 9)=Q mv:=by have hq:=K;unfold zL at hq;rw[xd hq];rfl
  have bi:W4.cell? (U po 13)=Q (.bool false):=by have hq:=K;unfold zL at hq;rw[xd hq];rfl
  have bj:∀j,W4.frozen? (U po j)=false:=fun j=>by have hq:=K;unfold zL at hq;exact zI hq j
  obtain⟨k0,-⟩:=zc aM
  have bd:=zd K
  have bg:=ze K
  have aV:=ze ay
  clear aq ae R ay K aM s0 s1 s2 s3 a0 a1 a2 a3 g0 g2 q0
  rw[rounds_succ]
  go_wp2_with fail
  go_ret
  have aW:w.1.size<=g:=by
   rcases ud aR with h|h
   ·cases h
   ·rw[h];have z1:=ah.size;have z2:=ao.size;rw[zE];omega
  exact⟨rfl,_,g,aG,rfl,aV,aU,aW⟩
theorem TS.keptb(h:TS w (Q (U g off)) n F W K)(c:zj f w w')(hn:¬f g):TS w' (Q (U g off)) n F W K:=fun j=>by
 obtain⟨b,d,e,a,k⟩:=h j;cases e;refine⟨g,off,rfl,S a c.size,fun i l=>?_⟩;rw[zD c hn a,zD c hn a,zD c hn a];exact k i l
def zcJ(w:T)(g N:Nat):Prop:=∃cs t,w.1[g]?=Q (.cells cs t (0,0))/\cs.size=N
theorem zcJ.set(h:zcJ w g N)(i:Nat)(v:Value):zcJ (w.setCell (U g i) v) g N:=by
 obtain⟨cs,t,a,b⟩:=h;exact⟨_,t,xq a v,by simpa using b⟩
theorem zcJ.kept(h:zcJ w g N)(b:zj f w w')(hn:¬f g):zcJ w' g N:=by
 obtain⟨cs,t,a,c⟩:=h;exact⟨cs,t,(b.block g (zd a) hn).trans a,c⟩
theorem zcJ.cell(h:zcJ w g N)(i:Nat)(b:i<N):∃v,w.cell? (U g i)=Q v:=by
 obtain⟨cs,t,a,c⟩:=h;rw[XZ a];exact⟨_,Array.getElem?_eq_getElem (by omega)⟩
theorem zcJ.free(h:zcJ w g N)(i:Nat):w.frozen? (U g i)=false:=by
 obtain⟨cs,t,a,b⟩:=h;exact jN a i
theorem zcJ.lt(h:zcJ w g N):g<w.1.size:=by
 obtain⟨cs,t,a,b⟩:=h;exact zd a
theorem CF.kept{s e d j ke i:Int}{cap:Nat}(h:CF w g s e d j ke i a n cap)(b:zj f w w')(hn:¬f g):CF w' g s e d j ke i a n cap:=by
 obtain⟨c,k,l,m,o,p,q,r⟩:=h;exact⟨S c b.size,(zD b hn c).trans k,(zD b hn c).trans l,(zD b hn c).trans m,(zD b hn c).trans o,(zD b hn c).trans p,(zD b hn c).trans q,(zD b hn c).trans r⟩
theorem zbJ(s le la wi ke qu:Int)(a:Option Addr)(n cap:Nat)(F W K:Nat->Int)(aV:24*(n+1)<=281474976710656)(w:T)(p:Nat)(f:Nat->Prop)(hf:∀k,f k->k<w.1.size)(Z:∀w',zj f w w'->TS w' a n F W K)(R:Option Addr->Int->T->Prop)(hR:∀xo m A B,zj (fun k=>k=w.1.size+1) A B->R xo m A->R xo m B)(HO:∀w4,B_ w w4->w.1.size+3=w4.1.size->(∀w',zj f w4 w'->TS w' (Q (U (w.1.size+1) 0)) n F W K)->Calls prog 29 #[.agg #[I s,I le,I la,I wi,I ke,I qu,.slice (Q (U (w.1.size+1) 0)) n (n+1)],(O p)] w4 fun e w5=>∃xo m,e=.returned (.tuple #[.pointer xo,I m])/\zj f w4 w5/\R xo m w5):
  Calls prog 74 #[.agg #[I s,I le,I la,I wi,I ke,I qu,.slice a n cap],(O p)] w fun e w'=>∃xo m,e=.returned (.tuple #[.pointer xo,I m,.bool true])/\zj f w w'/\R xo m w':=by
 have h:=Z w (zj.refl _ _);have aS:=zfX n aV;have b7:(n:Int)<(n:Int)+1:=by omega
 have aa:TS ((w.alloc (.cells #[I s,I le,I la,I wi,I ke,I qu,.slice a n cap] 27)).alloc (.cells (kI n) 80)) a n F W K:=
  h.below (((E _ _).alloc (J _) _).alloc (by simp) _)
 obtain⟨c,aM,HR,a8,HZ⟩:∃c,(Builtin.copy_ #[25,25] 3 #[.slice (Q (U (w.1.size+1) 0)) (n+1) (n+1),.slice a n cap]).run prog ((w.alloc (.cells #[I s,I le,I la,I wi,I ke,I qu,.slice a n cap] 27)).alloc (.cells (kI n) 80))=.ok (I n) c/\
   Hid (c.1[w.1.size+1]?=Q (.cells (Qp n F W K++(kI n).toList.drop (n*3)).toArray 80 (0,0)))/\D (w.1.size+1) ((w.alloc (.cells #[I s,I le,I la,I wi,I ke,I qu,.slice a n cap] 27)).alloc (.cells (kI n) 80)) c/\c.1.size=w.1.size+2:=by
  generalize hW:(w.alloc (.cells #[I s,I le,I la,I wi,I ke,I qu,.slice a n cap] 27))=X at aa;have al:X.1.size=w.1.size+1:=by rw[<-hW];simp
  have hg:(X.alloc (.cells (kI n) 80)).1[w.1.size+1]?=Q (.cells (kI n) 80 (0,0)):=by rw[<-al];exact heap_alloc_last _ _
  have hr:=Qq (P:=prog) (X.alloc (.cells (kI n) 80)) 25 25 3 80 3 (w.1.size+1) (n+1) (n+1) a n cap (kI n) 80 (Qp n F W K) underlying25 (by kernel_rfl) hg
   (by rw[xv];simp) aa.cells (by rw[xv,Z5];omega) (zaC n F W K)
  have hm:Nat.min n (n+1)=n:=by simp
  rw[hm,xv]at hr;refine⟨_,hr,setRow_heap _ _ _ _ _ _ hg,below_setRow (E _ _) (J _) _,?_⟩;simp[World.setRow,al]
 have HS:Hid (c.1.size=w.1.size+2):=HZ;clear HZ;have hx:∀j,j<3->∃v,c.cell? (U (w.1.size+1) (n*3+j))=Q v:=fun j hj=>by
  rw[XZ HR.out];exact⟨_,Array.getElem?_eq_getElem (by simp[xv,Z5];omega)⟩
 obtain⟨v0,x0⟩:=hx 0 (by omega);obtain⟨v1,x1⟩:=hx 1 (by omega);obtain⟨v2,x2⟩:=hx 2 (by omega);have x0:Cz c (w.1.size+1) (n*3) v0:=x0;clear hx;have an:∀o,c.frozen? (U (w.1.size+1) o)=false:=fun o=>jN HR.out o;obtain⟨_,c0,c1,c2,c3,c4,c5,c6⟩:=((CF.made w 27 (0,0) s le la wi ke qu a n cap).below (((E (w.1.size+1) _).alloc (by simp) _)) (by omega)).below a8 (by omega);have ar:TS c (Q (U (w.1.size+1) 0)) n F W K:=TS.of_row HR.out;have aX:w.1.size+1<c.1.size:=by have:=HS.out;omega
 have a4:B_ w c:=(((E _ _).alloc (J _) _).alloc (by simp) _).trans (a8.mono (by omega));have hm:∀(C:Array Value) (t:TypeId),TS ((((c.setCell (U (w.1.size+1) (n*3)) (I (-77))).setCell (U (w.1.size+1) (n*3+1)) (I 0)).setCell (U (w.1.size+1) (n*3+2)) (I 0)).alloc (.cells C t)) (Q (U (w.1.size+1) 0)) n F W K/\
   ((((c.setCell (U (w.1.size+1) (n*3)) (I (-77))).setCell (U (w.1.size+1) (n*3+1)) (I 0)).setCell (U (w.1.size+1) (n*3+2)) (I 0)).alloc (.cells C t)).cell? (U (w.1.size+1) (n*3))=Q (I (-77))/\
   D (w.1.size+1) c ((((c.setCell (U (w.1.size+1) (n*3)) (I (-77))).setCell (U (w.1.size+1) (n*3+1)) (I 0)).setCell (U (w.1.size+1) (n*3+2)) (I 0)).alloc (.cells C t))/\
   ((((c.setCell (U (w.1.size+1) (n*3)) (I (-77))).setCell (U (w.1.size+1) (n*3+1)) (I 0)).setCell (U (w.1.size+1) (n*3+2)) (I 0)).alloc (.cells C t)).1.size=c.1.size+1:=by
  intro C t;have hs:(((c.setCell (U (w.1.size+1) (n*3)) (I (-77))).setCell (U (w.1.size+1) (n*3+1)) (I 0)).setCell (U (w.1.size+1) (n*3+2)) (I 0)).1.size=c.1.size:=by simp[World.setCell]
  have hB:D (w.1.size+1) c (((c.setCell (U (w.1.size+1) (n*3)) (I (-77))).setCell (U (w.1.size+1) (n*3+1)) (I 0)).setCell (U (w.1.size+1) (n*3+2)) (I 0)):=
   (((E (w.1.size+1) c).setCell (p:=(U (w.1.size+1) (n*3))) (J (w.1.size+1)) (I (-77))).setCell (p:=(U (w.1.size+1) (n*3+1))) (J (w.1.size+1)) (I 0)).setCell (p:=(U (w.1.size+1) (n*3+2))) (J (w.1.size+1)) (I 0)
  have hx:(((c.setCell (U (w.1.size+1) (n*3)) (I (-77))).setCell (U (w.1.size+1) (n*3+1)) (I 0)).setCell (U (w.1.size+1) (n*3+2)) (I 0)).cell? (U (w.1.size+1) (n*3))=Q (I (-77)):=by
   rw[World.cell?_setCell_other _ _ _ _ (by simp),World.cell?_setCell_other _ _ _ _ (by simp)];exact World.cell?_setCell_same _ _ _ x0
  have ht:=((ar.setCell (n*3) (I (-77)) (by omega)).setCell (n*3+1) (I 0) (by omega)).setCell (n*3+2) (I 0) (by omega);generalize(((c.setCell (U (w.1.size+1) (n*3)) (I (-77))).setCell (U (w.1.size+1) (n*3+1)) (I 0)).setCell (U (w.1.size+1) (n*3+2)) (I 0))=Y at hs hB hx ht ⊢;have hA:B_ Y (Y.alloc (.cells C t)):=(E _ _).alloc (J _) _;exact⟨ht.below hA,(hA.cell (p:=(U (w.1.size+1) (n*3))) (show w.1.size+1<_ by rw[hs];omega)).trans hx,hB.trans (hA.mono (by omega)),by simp[hs]⟩
 have a1:¬f (w.1.size+1):=fun e=>by have:=hf _ e;omega
 have aN:¬f w.1.size:=fun e=>by have:=hf _ e;omega
 obtain⟨a9,aw,a0,V⟩:=hm #[I s,I le,I la,I wi,I ke,I qu,.slice (Q (U (w.1.size+1) 0)) n (n+1)] 27;have q:=a4.trans (a0.mono (by omega));have ae:=ze (HO _ q (by rw[V,HS.out]) (fun w' hk=>a9.keptb hk a1));have a5:zcJ c (w.1.size+1) ((n+1)*3):=⟨_,_,HR.out,by simp[xv,Z5];omega⟩;have a6:zcJ ((((c.setCell (U (w.1.size+1) (n*3)) (I (-77))).setCell (U (w.1.size+1) (n*3+1)) (I 0)).setCell (U (w.1.size+1) (n*3+2)) (I 0)).alloc (.cells #[I s,I le,I la,I wi,I ke,I qu,.slice (Q (U (w.1.size+1) 0)) n (n+1)] 27)) (w.1.size+1) ((n+1)*3):=(((a5.set (n*3) (I (-77))).set (n*3+1) (I 0)).set (n*3+2) (I 0)).kept (f:=fun _=>False) (zj.of_below ((E _ _).alloc (J _) _)) (fun h=>h);have af:=ze a6;have ac:=ze ((show CF c w.1.size s le la wi ke qu a n cap from⟨by omega,c0,c1,c2,c3,c4,c5,c6⟩).below a0 (by omega));clear a5 a6;have ai:=ze a9;have aj:=ze aw;have ax:=ze a0;have a2:=ze q;have ah:=ze V;clear hm a9 aw a0 V q HO;have HH:=ze h;go_in;go_wp2_with fail;generalize((((c.setCell (U (w.1.size+1) (n*3)) (I (-77))).setCell (U (w.1.size+1) (n*3+1)) (I 0)).setCell (U (w.1.size+1) (n*3+2)) (I 0)).alloc (.cells #[I s,I le,I la,I wi,I ke,I qu,.slice (Q (U (w.1.size+1) 0)) n (n+1)] 27))=W4 at*;refine ae.mono ?_;rintro e w5 ⟨xo,m,rfl,g,aq⟩;have V:W4.1.size=c.1.size+1:=ud ah;have aU:c.1.size=w.1.size+2:=HS.out;have aY:=(zD g a1 (show w.1.size+1<W4.1.size by omega)).trans aj;have au:=ai.keptb g a1;have H:zj f w w5:=(zj.of_below (f:=f) a2).trans g (fun _ _ h=>h);have av:=Z w5 H;have N:=af.kept g a1;have r:=ac.kept g aN;obtain⟨ab,aC,aD,aE,aF,aG,aH,aI⟩:=id r;have az:=ze H;have a3:=ze N;have l:=ze r;have aA:=ze aq;have b3:w.1.size+1<w5.1.size:=N.lt;clear af ac ai aj ax a2 ah H N r aq aM aS x0 x1 x2 an ar a4 aa HR HS a8 aX ae aU V g Z c0 c1 c2 c3 c4 c5 c6;go_wp2_with fail;go_loopw [12,13] (fun x y wr=>∃(k:Nat),k<=n/\x=.bool true/\y=I k/\B_ w5 wr) (fun _ y _=>n-(intOf y).toNat);case atStart=>exact⟨0,M _,rfl,rfl,E _ _⟩
 case round=>
  obtain⟨k,hk,rfl,rfl,hb⟩:=hrel;obtain⟨_,c0,c1,c2,c3,c4,c5,c6⟩:=l.below hb ab;have b9:w.1.size<wr.1.size:=S ab hb.size;by_cases ap:k<n
  ·have aW:=au.below hb;have aK:=av.below hb;obtain⟨b0,b2,e0,ba,am⟩:=aW (by omega);cases e0;obtain⟨b,off,rfl,b5,hc⟩:=aK (by omega);obtain⟨g1,g2,g3⟩:=am k ap;simp only[Nat.zero_add]at g1 g2 g3;obtain⟨h1,h2,h3⟩:=hc k ap;have aQ:(k:Int)<n:=(by omega);have b1:(k:Int)<(n:Int)+1:=(by omega);clear hc am;have aT:Nonempty (zm wr.1.size wr):=zm.some _ _;have aR:=fun(u:zm wr.1.size wr) b o h=>u.cell b o h;go_wp2_with fail;refine zh wr.1.size (by kernel_rfl) (by kernel_rfl) ?_;repeat(go_big_quiet_step (fail))
   refine wpQuiet_nil ?_;rintro⟨w1,aL⟩;clear aR aT;dsimp only;go_wp2_with fail;go_roundw;case rel=>exact⟨k+1,by omega,rfl,by go_num,hb.trans (aL.mono hb.size)⟩
   case measure=>simp[intOf];omega
  ·have ay:=ze hb;have ag:=ze (a3.kept (zj.of_below (f:=fun _=>False) hb) (fun h=>h));have ad:=ze (l.below hb ab);have aQ:¬(k:Int)<n:=(by omega);clear hb c0 c1 c2 c3 c4 c5 c6 aC aD aE aF aG aH aI a3 l aY au av;go_wp2_with fail;go_loopw [14] (fun y wq=>∃(k:Nat),k<=n+1/\y=I k/\zj (fun j=>j=w.1.size+1) wr wq/\zcJ wq (w.1.size+1) ((n+1)*3)) (fun y _=>n+1-(intOf y).toNat);case atStart=>exact⟨0,M _,rfl,zj.refl _ _,ag⟩
   case round=>
    obtain⟨j,hj,rfl,z,d⟩:=hrel;obtain⟨b8,c0,c1,c2,c3,c4,c5,c6⟩:=ad.kept z (by omega);by_cases b6:j<=n
    ·obtain⟨v0,x0⟩:=d.cell (j*3) (by omega);obtain⟨v1,x1⟩:=d.cell (j*3+1) (by omega);obtain⟨v2,x2⟩:=d.cell (j*3+2) (by omega);have an:=fun o=>d.free o;have aO:(j:Int)<=n:=(by omega);have aZ:(j:Int)<(n:Int)+1:=(by omega);have b4:=d.lt;have a7:=ze z;have aB:=ze d;clear z d;go_wp2_with fail;go_roundw;case rel=>exact⟨j+1,by omega,by go_num,zk (zk (zk a7 rfl) rfl) rfl,((aB.set _ _).set _ _).set _ _⟩
     case measure=>simp[intOf];omega
    ·have aO:¬(j:Int)<=n:=(by omega);have a7:=ze z;clear z d c0 c1 c2 c3 c4 c5 c6;go_wp2_with(go_at_call 135;refine(zaj _ _).mono ?_;rintro e V1 ⟨rfl,ak⟩;rw[ak];clear ak);have ao:zj (fun j=>j=w.1.size+1) w5 wr:=(zj.of_below (f:=fun j=>j=w.1.size+1) ay).trans a7 (fun _ _ h=>h);have aP:zj f w wr:=az.trans ao (fun i hi e=>by omega);have aJ:=hR xo m w5 wr ao aA
     (try simp only[Exit.inBlock,Exit.then])
     refine bodyPost_ret (results_tmp3 rfl _ _ _) rfl ?_;exact⟨xo,m,rfl,aP,aJ⟩
