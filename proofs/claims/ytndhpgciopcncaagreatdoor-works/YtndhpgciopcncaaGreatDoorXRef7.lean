import Derived.Test.YtndhpgciopcncaaGreatDoorXConf0
open Option renaming some → J
open Nat renaming le_refl → K
open Nat renaming lt_of_lt_of_le → E
set_option linter.unusedVariables false
set_option maxHeartbeats 4000000
namespace Go.Proofs.YtndhpgciopcncaaGreatDoor
open Go.RowKit
variable {ep now ti used:Int} {g:Nat} {s:Sg} {w:World}
structure Sc where
 held:Int
 wait:Int
 pub:Int
 gone:Int
def vV(m:RM)(a:Sc)(s:Sg):Sc:=
 if s∈m.gone then⟨a.held,a.wait,a.pub,a.gone+1⟩else if s.t= -1 then⟨a.held+1,a.wait,a.pub,a.gone⟩else if s∈m.pub then⟨a.held,a.wait,a.pub+1,a.gone⟩else⟨a.held,a.wait+1,a.pub,a.gone⟩
def zeU(m:RM)(l:List Sg):Sc:=l.foldl (vV m) ⟨0,0,0,0⟩
theorem zjL(m:RM)(l:List Sg)(i:Nat)(s:Sg)(h:l[i]?=J s):zeU m (l.take (i+1))=vV m (zeU m (l.take i)) s:=by
 obtain⟨a,b⟩:=List.getElem?_eq_some_iff.1 h;rw[List.take_succ_eq_append_getElem a,b];simp[zeU]
variable {m:RM} {a:Sc}
theorem zdO(h:s∈m.gone):vV m a s=⟨a.held,a.wait,a.pub,a.gone+1⟩:=by simp[vV,h]
theorem zdP(h:¬s∈m.gone)(b:s.t= -1):vV m a s=⟨a.held+1,a.wait,a.pub,a.gone⟩:=by simp[vV,h,b]
theorem zgY(h:¬s∈m.gone)(b:¬s.t= -1)(c:s∈m.pub):vV m a s=⟨a.held,a.wait,a.pub+1,a.gone⟩:=by simp[vV,h,b,c]
theorem zdQ(h:¬s∈m.gone)(b:¬s.t= -1)(c:¬s∈m.pub):vV m a s=⟨a.held,a.wait+1,a.pub,a.gone⟩:=by simp[vV,h,b,c]
def Sc.ok(a:Sc)(n:Int):Prop:=0<=a.held/\a.held<=n/\0<=a.wait/\a.wait<=n/\0<=a.pub/\a.pub<=n/\0<=a.gone/\a.gone<=n
theorem Vc(m:RM):∀(l:List Sg) (a:Sc) (n:Nat),a.ok n->(l.foldl (vV m) a).ok (n+l.length)
 |[],a,n,h=>by simpa using h
 |s::r,a,n,h=>by
  have:=Vc m r (vV m a s) (n+1) (by
   unfold Sc.ok at h ⊢;unfold vV;split
   ·dsimp only;omega
   ·split
    ·dsimp only;omega
    ·split
     ·dsimp only;omega
     ·dsimp only;omega)
  rw[List.foldl_cons,List.length_cons];unfold Sc.ok at this ⊢;omega
theorem zgV(m:RM)(l:List Sg):(zeU m l).ok l.length:=by
 have:=Vc m l ⟨0,0,0,0⟩ 0 (by simp[Sc.ok]);simpa[zeU]using this
def RM.tightI(m:RM):Int:=if m.tight then 1 else 0
theorem zdV(h:m.tight=true):m.tightI=1:=by simp[RM.tightI,h]
theorem zcr(h:m.tight=false):m.tightI=0:=by simp[RM.tightI,h]
def je(now used ti ep:Int)(A:Sc):Obj:=.cells #[I now,I used,I ti,I ep,I A.held,I A.wait,I A.pub,I A.gone] 37 (0,0)
variable {A:Sc}
theorem zfc(h:w.1[g]?=J (je now used ti ep A)):
  w.cell? (U g 0)=J (I now)/\w.cell? (U g 1)=J (I used)/\w.cell? (U g 2)=J (I ti)/\w.cell? (U g 3)=J (I ep)/\w.cell? (U g 4)=J (I A.held)/\w.cell? (U g 5)=J (I A.wait)/\w.cell? (U g 6)=J (I A.pub)/\w.cell? (U g 7)=J (I A.gone)/\∀j,w.frozen? (U g j)=false:=by
 refine⟨?_,?_,?_,?_,?_,?_,?_,?_,fun j=>zI h j⟩<;>rw[xd h]<;>rfl
theorem st_4(h:w.1[g]?=J (je now used ti ep A))(v:Int):(w.setCell (U g 4) (I v)).1[g]?=J (je now used ti ep ⟨v,A.wait,A.pub,A.gone⟩):=xq (i:=4) h (I v)
theorem st_5(h:w.1[g]?=J (je now used ti ep A))(v:Int):(w.setCell (U g 5) (I v)).1[g]?=J (je now used ti ep ⟨A.held,v,A.pub,A.gone⟩):=xq (i:=5) h (I v)
theorem st_6(h:w.1[g]?=J (je now used ti ep A))(v:Int):(w.setCell (U g 6) (I v)).1[g]?=J (je now used ti ep ⟨A.held,A.wait,v,A.gone⟩):=xq (i:=6) h (I v)
theorem st_7(h:w.1[g]?=J (je now used ti ep A))(v:Int):(w.setCell (U g 7) (I v)).1[g]?=J (je now used ti ep ⟨A.held,A.wait,A.pub,v⟩):=xq (i:=7) h (I v)
theorem set8{a b c d e f i j:Value}{t:TypeId}{fr:Nat×Nat}(h:w.1[g]?=J (.cells #[a,b,c,d,e,f,i,j] t fr))(k l m n o p q r:Value):((((((((w.setCell (U g 0) k).setCell (U g 1) l).setCell (U g 2) m).setCell (U g 3) n).setCell (U g 4) o).setCell (U g 5) p).setCell (U g 6) q).setCell (U g 7) r).1[g]?=J (.cells #[k,l,m,n,o,p,q,r] t fr):=by
 have s:(w.setCell (U g 0) k).1[g]?=J (.cells #[k,b,c,d,e,f,i,j] t fr):=xq (i:=0) h k;have u:((w.setCell (U g 0) k).setCell (U g 1) l).1[g]?=J (.cells #[k,l,c,d,e,f,i,j] t fr):=xq (i:=1) s l;have v:(((w.setCell (U g 0) k).setCell (U g 1) l).setCell (U g 2) m).1[g]?=J (.cells #[k,l,m,d,e,f,i,j] t fr):=xq (i:=2) u m;have x:((((w.setCell (U g 0) k).setCell (U g 1) l).setCell (U g 2) m).setCell (U g 3) n).1[g]?=J (.cells #[k,l,m,n,e,f,i,j] t fr):=xq (i:=3) v n;have y:(((((w.setCell (U g 0) k).setCell (U g 1) l).setCell (U g 2) m).setCell (U g 3) n).setCell (U g 4) o).1[g]?=J (.cells #[k,l,m,n,o,f,i,j] t fr):=xq (i:=4) x o;have z:((((((w.setCell (U g 0) k).setCell (U g 1) l).setCell (U g 2) m).setCell (U g 3) n).setCell (U g 4) o).setCell (U g 5) p).1[g]?=J (.cells #[k,l,m,n,o,p,i,j] t fr):=xq (i:=5) y p;have A:(((((((w.setCell (U g 0) k).setCell (U g 1) l).setCell (U g 2) m).setCell (U g 3) n).setCell (U g 4) o).setCell (U g 5) p).setCell (U g 6) q).1[g]?=J (.cells #[k,l,m,n,o,p,q,j] t fr):=xq (i:=6) z q;have B:((((((((w.setCell (U g 0) k).setCell (U g 1) l).setCell (U g 2) m).setCell (U g 3) n).setCell (U g 4) o).setCell (U g 5) p).setCell (U g 6) q).setCell (U g 7) r).1[g]?=J (.cells #[k,l,m,n,o,p,q,r] t fr):=xq (i:=7) A r;exact B
def zqt(w b:World)(m:RM)(L:List Sg)(a:Nat)(u ti:Int)(i:Nat)(wr:World):Prop:=
 wr.1[a]?=J (je m.now u ti m.epoch (zeU m (L.take i)))/\zj (fun k=>k=a) b wr
theorem zjY{B:Nat}{p:Nat}{tv nv pv gv kv:Value}(h:zR B w p m tv nv pv gv kv)(hc:m.c.ok)(aO:m.nu.length<=100000000)(ay:m.gone.length<=1000000000000)(bc:m.pub.length<=1000000000000)(ah:∀x∈m.nu,x.ok)(hu:m.used<=1000000000000000000):
  Calls Tryz.prog 145 #[(O p)] w (Rz w (.agg #[I m.now,I m.used,I m.tightI,I m.epoch,I (zeU m (zV m.c m.nu)).held,I (zeU m (zV m.c m.nu)).wait,I (zeU m (zV m.c m.nu)).pub,I (zeU m (zV m.c m.nu)).gone])):=by
 have H:=ze h;have b1:=zo w ye;have q:B_ w (w.alloc ye):=(Below.refl _ _).alloc (K _) _;have bd:=jK (nu:=m.nu) hc.n4 (by omega);obtain⟨ag,cg,aK⟩:=zq h.grow;subst aK;obtain⟨ap,cp,aP⟩:=zq h.prow;subst aP;have hp:=h.lt;generalize hW:(w.alloc ye)=W at*;have ar:W.1.size=w.1.size+1:=by rw[<-hW,zE]
 have HU:=ze (zaR (h.later q) hc (by omega) ay ah);have HW:=ze hW;have B1:=ze b1;have Q:=ze ar;clear h b1 hW ar;have b6:Hid (∀(v:Value),True):=fun _=>trivial;go_enter Tryz.func145,Tryz.ntmps145;go_wp2_with fail;rw[ud HW];refine HU.mono ?_;rintro e w1 ⟨rfl,C⟩;have HT:=ze (zcs (H.later (q.trans (C.mono q.size))) hc aO ay ah hu);have z:=ze C;clear C;cases ai:m.tight;all_goals
  rw[ai]at HT
  first|have aa:=ze (zcr ai)|have aa:=ze (zdV ai)
  go_wp2_with fail
  refine HT.mono ?_
  rintro e w2 ⟨rfl,G⟩
  have r:B_ w w2:=(q.trans (z.mono q.size)).trans (G.mono (q.trans (z.mono q.size)).size)
  have V:=H.later r
  obtain⟨r7,r8,r9,aY,aZ,b0,b2⟩:=V.rest
  clear r8 r9 aY aZ b2
  have aG:=ze V
  have D:=V.lt
  clear V
  go_wp2_with fail
  go_region
  go_wp2_with fail
  first
   |(have ab:(w2.alloc (je m.now m.used 0 m.epoch ⟨0,0,0,0⟩)).drew.1[w2.1.size]?=J (je m.now m.used m.tightI m.epoch ⟨0,0,0,0⟩):=by rw[ud aa];exact zo w2 _
     have R:B_ w2 (w2.alloc (je m.now m.used 0 m.epoch ⟨0,0,0,0⟩)).drew:=((Below.refl _ _).alloc (K _) _).drew
     have au:w2.1.size<(w2.alloc (je m.now m.used 0 m.epoch ⟨0,0,0,0⟩)).drew.1.size:=by show _<(w2.alloc _).1.size;rw[zE];omega
     change Calls Tryz.prog _ _ (w2.alloc (je m.now m.used 0 m.epoch ⟨0,0,0,0⟩)).drew _
     generalize(w2.alloc (je m.now m.used 0 m.epoch ⟨0,0,0,0⟩)).drew=X at*)
   |(have ab:(w2.alloc (je m.now m.used 1 m.epoch ⟨0,0,0,0⟩)).drew.1[w2.1.size]?=J (je m.now m.used m.tightI m.epoch ⟨0,0,0,0⟩):=by rw[ud aa];exact zo w2 _
     have R:B_ w2 (w2.alloc (je m.now m.used 1 m.epoch ⟨0,0,0,0⟩)).drew:=((Below.refl _ _).alloc (K _) _).drew
     have au:w2.1.size<(w2.alloc (je m.now m.used 1 m.epoch ⟨0,0,0,0⟩)).drew.1.size:=by show _<(w2.alloc _).1.size;rw[zE];omega
     change Calls Tryz.prog _ _ (w2.alloc (je m.now m.used 1 m.epoch ⟨0,0,0,0⟩)).drew _
     generalize(w2.alloc (je m.now m.used 1 m.epoch ⟨0,0,0,0⟩)).drew=X at*)
  generalize hL:zV m.c m.nu=L at*
  have ao:=ze (jr (aG.later R) hc (by omega) ah)
  rw[hL]at ao
  have aD:=(R.block w.1.size (by have:=r.size;have:=G.size;have:=z.size;have:=ud Q;omega)).trans ((G.block w.1.size (by have:=z.size;have:=ud Q;omega)).trans ((z.block w.1.size (by have:=ud Q;omega)).trans B1))
  have b5:w.1.size<w2.1.size:=by have:=G.size;have:=z.size;have:=ud Q;omega
  have aJ:=ze aD
  have HL:=ze hL
  have aH:=ze ab
  clear aD ab hL G HU HT r7 b0
  refine ao.mono ?_
  rintro e w3 ⟨v,rfl,aj,M⟩
  obtain⟨al,cl,aR⟩:=zq aj
  subst aR
  have aq:=ze aj
  have aE:=ze M
  have aw:B_ w X:=r.trans (R.mono r.size)
  have Z:B_ w w3:=aw.trans (M.mono aw.size)
  have b7:=M.size
  have aI:=ze ((M.block w.1.size (by omega)).trans aJ)
  clear aj M
  go_wp2_with fail
  go_loopw [7,8,9] (fun y _ _ wr=>∃(i:Nat),i<=L.length/\y=I i/\zqt w w3 m L w2.1.size m.used m.tightI i wr) (fun y _ _ _=>L.length-(intOf y).toNat)
  case atStart=>exact⟨0,Nat.zero_le _,rfl,(aE.block _ au).trans aH,zj.refl _ _⟩
  case round=>
   obtain⟨i,hi,rfl,f,hk⟩:=hrel;have ad:B_ w wr:=Z.trans (hk.below Z.size (fun k e=>by rw[e];omega));have V:=H.later ad;have az:=V.lt;obtain⟨q7,q8,q9,aU,aV,aW,aX⟩:=V.rest;clear q7 q8 aV aW aX;have aT:w2.1.size<wr.1.size:=zd f;have hv:=zi aq hk (fun k aN e=>by
    have:=(aq.lt k aN).1;omega)
   have Y:=ze V;have HV:=ze hv;have HK:=ze hk;have aF:=ze ad;clear V hv hk ad;by_cases aM:i<L.length
   ·obtain⟨s,hs⟩:=xC aM;obtain⟨g,b4,aS,b9,S,x0,x1,x2⟩:=zdN HV hs;injection aS with aA aB aC;subst aA;have N:=zjL m L i s hs;have ba:(i:Int)<L.length:=(by omega);have av:=zgV m (L.take i);rw[List.length_take,Nat.min_eq_left hi]at av;generalize zeU m (L.take i)=A at*;obtain⟨a1,a2,a3,a4,a5,a6,a7,a8⟩:=av;have a9:=ze N;have an:=ze f;clear hs N aB aC f;have af:Nonempty (zm wr.1.size wr):=zm.some _ _;have ae:=fun(u:zm wr.1.size wr) b o h=>u.cell b o h;have am:=ze (fun(u:zm wr.1.size wr)=>qq B m.pub _ s u.1 (by omega) (Y.later u.2).prow);have ak:=ze (fun(w1:World) (C:B_ wr w1) (u:zm w1.1.size w1)=>qq B m.gone _ s u.1 (by omega) (Y.later (C.trans (u.2.mono C.size))).grow);rcases vC s m.gone with⟨hm,n⟩|⟨hm,n⟩;all_goals rw[hm]at ak
    have P:=ze (zdO (m:=m) (a:=A) n);clear hm n
    rotate_left
    by_cases d:s.t= -1;have P:=ze (zdP (m:=m) (a:=A) n d);have aQ:(s.t== -1)=true:=(by simp[d]);clear hm n d
    rotate_left
    have aQ:(s.t== -1)=false:=(by simp[d]);rcases vC s m.pub with⟨T,D⟩|⟨T,D⟩;all_goals try rw[T]at am
    have P:=ze (zgY (m:=m) (a:=A) n d D);clear hm n d T D
    rotate_left
    have P:=ze (zdQ (m:=m) (a:=A) n d D);clear hm n d T D;all_goals
     go_wp2_with fail
     refine zh wr.1.size (by kernel_rfl) (by kernel_rfl) ?_
     repeat(go_big_quiet_step (first|(go_at_call 218;exact Calls.later (K _) (ud am _))))
     refine wpQuiet_nil ?_
     rintro⟨w4,l⟩
     clear ae af
     have b3:=(l.cell (p:=(U p 10)) az).trans aU
     have y0:=(l.cell (p:=(U g (i*3))) S).trans x0
     have y1:=(l.cell (p:=(U g (i*3+1))) S).trans x1
     have y2:=(l.cell (p:=(U g (i*3+2))) S).trans x2
     have ax:g<w4.1.size:=E S l.size
     have bb:p<w4.1.size:=E az l.size
     have af:Nonempty (zm w4.1.size w4):=zm.some _ _
     have ae:=fun(u:zm w4.1.size w4) b o h=>u.cell b o h
     dsimp only
     go_wp2_with fail
     refine zh w4.1.size (by kernel_rfl) (by kernel_rfl) ?_
     repeat(go_big_quiet_step (first|(go_at_call 218;exact Calls.later (K _) (ud ak w4 l _))))
     refine wpQuiet_nil ?_
     rintro⟨w5,ac⟩
     clear ae af
     have a0:B_ wr w5:=l.trans (ac.mono l.size)
     have z0:=(ac.cell (p:=(U g (i*3))) ax).trans y0
     have b8:g<w5.1.size:=E ax ac.size
     have F:=ze ((a0.block _ aT).trans an)
     have FK:=ze (kC HK a0)
     obtain⟨e0,e1,e2,e3,e4,e5,e6,e7,e8⟩:=zfc F
     clear y0 y1 y2 x0 x1 x2 b3
     dsimp only
     go_wp2_with fail
     go_roundw
     case rel=>exact⟨i+1,by omega,by go_num,by rw[ud a9,ud P];first|exact st_7 F _|exact st_4 F _|exact st_6 F _|exact st_5 F _,zk FK rfl⟩
     case measure=>simp[intOf];omega
   ·have aL:i=L.length:=(by omega);rw[aL,List.take_length]at f;obtain⟨e0,e1,e2,e3,e4,e5,e6,e7,-⟩:=zfc f;have qz:=((HK.block w.1.size (by omega) (by omega)).trans aI);obtain⟨f0,f1,f2,f3,f4,f5,f6,f7,-⟩:=zc qz;have ff:∀j,wr.frozen? (U w.1.size j)=false:=fun j=>zI qz j;have QZ:=ze qz;clear qz f;generalize hA:zeU m L=A at*;have HA:=ze hA;clear hA;go_wp2_with fail;have hf:=set8 QZ (I m.now) (I m.used) (I m.tightI) (I m.epoch) (I A.held) (I A.wait) (I A.pub) (I A.gone);refine bodyPost_ret (v:=.agg #[I m.now,I m.used,I m.tightI,I m.epoch,I A.held,I A.wait,I A.pub,I A.gone]) (results_cell_row Tryz.results145 _ _ w.1.size _ _ _ _ rfl hf Tryz.underlying37 rfl (by kernel_rfl)) rfl ⟨rfl,?_⟩;refine aF.trans ?_;repeat(refine qC ?_ (K _))
    exact Below.refl _ _
