import Derived.Test.YtndhpgciopcncaaGreatDoorHOrd6
open Option renaming some → J
open Nat renaming lt_of_lt_of_le → K
set_option linter.unusedVariables false
set_option maxRecDepth 20000
set_option maxHeartbeats 8000000
namespace Go.Proofs.YtndhpgciopcncaaGreatDoor
open Go.RowKit Go.Maps Go.Shelf
open Go.ChangeMaps (setBlock)
theorem zix{w:World}{b:Nat}{c:Cf}{a:Option Addr}{cap:Nat}{ep num:Int}{tb qb:Nat}{TL:List (Jk×Tsk)}{QL:List (Tok×Lse)}(h:zC w b c (.slice a c.n cap) ep num tb qb TL QL)(hc:c.ok)(x:Tsk)(hx:zE TL x.key=J x)(ai:x.key.wf)(slot now:Int)(C:0<=now/\now<=100000)(az:QL.length<=100000)(af:0<=num/\num<=1000000000000000)(ac:xz ep)(ae:∀q∈QL,q.2.job≠x.key):
  Calls Tryz.prog 49 #[(O b),(jZz x),I slot,I now] w fun e w'=>e=.returned (.agg #[I x.kd,I x.s.t,I x.s.sr,I x.s.wn,I x.se,I x.ti,I x.rest,I ep,I (num+1),I slot,I (now+c.le)])/\zC w' b c (.slice a c.n cap) ep (num+1) tb qb TL (qj QL ⟨ep,num+1⟩ ⟨x.kd,x.s,slot,now+c.le⟩)/\zi (fun k=>k=b\/k=qb) w w':=by
 have aM:=h.lt;obtain⟨-,-,-,-,-,-,-,-,w8,-⟩:=zc h.head;have wf:=zw h.head 8;have aN:IntKind.i64.wrap (num+1)=num+1:=by rw[IntKind.wrap_i64];omega
 obtain⟨N,B⟩:∃N,((w.setCell (U b 8) (I (num+1))).alloc zkj)=N:=⟨_,rfl⟩;have ah:(w.setCell (U b 8) (I (num+1))).1.size=w.1.size:=by simp
 have aa:=h.setNum (num+1);have ab:Below (w.setCell (U b 8) (I (num+1))).1.size (w.setCell (U b 8) (I (num+1))) N:=by rw[<-B];exact(Below.refl _ _).alloc (Nat.le_refl _) _
 have F:=aa.later ab;have X:N.1[w.1.size]?=J (.cells #[I 0,I 0,I 0,I 0,I 0,I 0,I 0,I 0,I 0,I 0,I 0] 51 (0,0)):=by rw[<-B,<-ah];exact zq _ _
 have E:=F.lt;have lR:=zd X;obtain⟨s0,s1,s2,s3,s4,s5,s6,s7,s8,-,aF,-⟩:=zc F.head;have al:Hid (zi (fun k=>k=b) w N):=by rw[<-B];exact(zg (zi.refl (fun k=>k=b) w) rfl).alloc _
 have aw:Hid ((⟨ep,num+1⟩:Tok).wf):=⟨ac,by unfold xz;dsimp only;omega⟩;have a4:=fun W=>ze (keyOf_any x W);have a5:=fun W=>ze (keyOf_any x W);have a6:=fun W=>ze (zfT c a cap W);have l:¬b=qb:=fun e=>h.qb_ne e.symm;have aP:¬b=w.1.size:=by omega
 have aK:¬w.1.size=b:=by omega
 have aC:¬w.1.size=qb:=fun e=>by have:=h.foot_lt qb (.inr (.inr rfl));omega
 have a1:QL.length<maxLen:=by simp only[maxLen];omega
 obtain⟨aG,aH⟩:=hc.le;have aI:=C.1;have aJ:=C.2;have aO:IntKind.i64.wrap (now+c.le)=now+c.le:=by rw[IntKind.wrap_i64];omega
 have P:=h.leases.nodup;have an:=ze ae;have HX:=ze hx;have a9:=ze ai;have ao:=ze P;have a2:=ze F;have ap:=ze X;have ax:=ze B;have H:=ze h;have ak:=ze h.foot_lt;clear h aa ab F X B ah ae hx ai P af C ac az;go_enter Tryz.func49,Tryz.ntmps49;go_wp2_with fail;rw[ud ax];clear w8 wf;go_region_held3 (fun w'=>w'.cell? (U b 0)=J (I c.s)/\w'.cell? (U b 1)=J (I c.le)/\w'.cell? (U b 2)=J (I c.la)/\w'.cell? (U b 3)=J (I c.wi)/\w'.cell? (U b 4)=J (I c.ke)/\w'.cell? (U b 5)=J (I c.qu)/\w'.cell? (U b 6)=J (.slice a c.n cap)/\w'.cell? (U b 7)=J (I ep)/\w'.cell? (U b 8)=J (I (num+1))/\w'.cell? (U b 10)=J (.map (J qb))) (go_keep) (first
  |(go_at_call 102;(with_reducible refine(ud (a4 _)).mono ?_);rintro e u ⟨rfl,d⟩;have hv:Below N.1.size N u:=⟨d.os,d.tape,d.output,d.size,d.block⟩;clear d;have p0:Cz u b 0 (I c.s):=(hv.cell (p:=(U b 0)) E).trans s0;have p1:Cz u b 1 (I c.le):=(hv.cell (p:=(U b 1)) E).trans s1;have p2:Cz u b 2 (I c.la):=(hv.cell (p:=(U b 2)) E).trans s2;have p3:Cz u b 3 (I c.wi):=(hv.cell (p:=(U b 3)) E).trans s3;have p4:Cz u b 4 (I c.ke):=(hv.cell (p:=(U b 4)) E).trans s4;have p5:Cz u b 5 (I c.qu):=(hv.cell (p:=(U b 5)) E).trans s5;have p6:Cz u b 6 (.slice a c.n cap):=(hv.cell (p:=(U b 6)) E).trans s6;have p7:Cz u b 7 (I ep):=(hv.cell (p:=(U b 7)) E).trans s7;have p8:Cz u b 8 (I (num+1)):=(hv.cell (p:=(U b 8)) E).trans s8;have aD:Cz u b 10 (.map (J qb)):=(hv.cell (p:=(U b 10)) E).trans aF;have l1:=K E hv.size;have a8:=ze hv;clear hv a4)
  |(go_at_call 103;(with_reducible refine(ud (a6 _)).mono ?_);rintro e z ⟨rfl,d⟩;have hv:Below u.1.size u z:=⟨d.os,d.tape,d.output,d.size,d.block⟩;clear d;have r0:Cz z b 0 (I c.s):=(hv.cell (p:=(U b 0)) l1).trans p0;have r1:Cz z b 1 (I c.le):=(hv.cell (p:=(U b 1)) l1).trans p1;have r2:Cz z b 2 (I c.la):=(hv.cell (p:=(U b 2)) l1).trans p2;have r3:Cz z b 3 (I c.wi):=(hv.cell (p:=(U b 3)) l1).trans p3;have r4:Cz z b 4 (I c.ke):=(hv.cell (p:=(U b 4)) l1).trans p4;have r5:Cz z b 5 (I c.qu):=(hv.cell (p:=(U b 5)) l1).trans p5;have r6:Cz z b 6 (.slice a c.n cap):=(hv.cell (p:=(U b 6)) l1).trans p6;have r7:Cz z b 7 (I ep):=(hv.cell (p:=(U b 7)) l1).trans p7;have r8:Cz z b 8 (I (num+1)):=(hv.cell (p:=(U b 8)) l1).trans p8;have aE:Cz z b 10 (.map (J qb)):=(hv.cell (p:=(U b 10)) l1).trans aD;have l2:=K l1 hv.size;have Z:=(ud a8).trans (hv.mono (ud a8).size);obtain⟨o,Q,hm,m⟩:=zjC ((ud a2).later Z).leases a1 (ud aw) ⟨x.kd,x.s,slot,now+c.le⟩;dsimp only at Q;obtain⟨r,hU⟩:∃r,setBlock z qb o=r:=⟨_,rfl⟩;rw[hU]at Q hm m;have u0:Cz r b 0 (I c.s):=(zL (i:=0) m l l2).trans r0;have u1:Cz r b 1 (I c.le):=(zL (i:=1) m l l2).trans r1;have u2:Cz r b 2 (I c.la):=(zL (i:=2) m l l2).trans r2;have u3:Cz r b 3 (I c.wi):=(zL (i:=3) m l l2).trans r3;have u4:Cz r b 4 (I c.ke):=(zL (i:=4) m l l2).trans r4;have u5:Cz r b 5 (I c.qu):=(zL (i:=5) m l l2).trans r5;have u6:Cz r b 6 (.slice a c.n cap):=(zL (i:=6) m l l2).trans r6;have u7:Cz r b 7 (I ep):=(zL (i:=7) m l l2).trans r7;have u8:Cz r b 8 (I (num+1)):=(zL (i:=8) m l l2).trans r8;have aQ:Cz r b 10 (.map (J qb)):=(zL (i:=10) m l l2).trans aE;have S:=ze Z;have am:=ze hm;have R:=ze m;clear hv Z hm m hU a6))
 all_goals(
  have G:=((ud a2).later (ud S)).putLeases (ud am) (ud R)
  have ag:=((ud S).block _ lR).trans (ud ap)
  have a0:=(ud R).heap ag aC
  have ar:=ze a0
  have a3:=ze G
  have lU:b<r.1.size:=G.lt
  have aj:=zd a0
  obtain⟨-,-,-,-,-,-,-,-,-,u9,-⟩:=zc G.head
  clear G ag a0
  go_wp2_with fail
  go_region_held3 (fun w'=>w'.cell? (U b 9)=J (.map (J tb))) (go_keep) (first
   |(go_at_call 102;(with_reducible refine(ud (a5 _)).mono ?_);rintro e M ⟨rfl,d⟩;have hv:Below r.1.size r M:=⟨d.os,d.tape,d.output,d.size,d.block⟩;clear d;have q9:Cz M b 9 (.map (J tb)):=(hv.cell (p:=(U b 9)) lU).trans u9;have A:=(ud a3).later hv;have ay:=JW A.td (ud a9) (ud HX);have ad:=JW (A.later (Below.refl _ _).drew).td (ud a9) (ud HX);dsimp only[Tsk.key]at ay ad;have Y:=fun W (hW:Below M.1.size M W)=>ze (zfa (A.later hW) x ⟨ep,num+1⟩ ⟨x.kd,x.s,slot,now+c.le⟩ (zA (by rw[vd (ud ao),if_pos rfl])) rfl (fun q hq e=>by
    rcases ym hq with rfl|⟨hq,_⟩
    ·rfl
    ·exact absurd e (ud an q hq)));have au:=Y M (Below.refl _ _);have av:=Y M.drew (Below.refl _ _).drew;have V:=ze hv;have aB:=K aj hv.size;have aA:=A.lt;clear hv A Y)
   |(go_at_call 104;(first|(with_reducible refine(ud au).mono ?_)|(with_reducible refine(ud av).mono ?_));rintro e T ⟨rfl,y⟩;have L:Below M.1.size M T:=⟨y.os,y.tape,y.output,y.size,y.block⟩;clear y;have D:=(L.block _ aB).trans (((ud V).block _ aj).trans (ud ar));have g9:Cz T b 9 (.map (J tb)):=(L.cell (p:=(U b 9)) aA).trans q9;obtain⟨e0,e1,e2,e3,e4,e5,e6,e7,e8,e9,aL,-⟩:=zc D;have ef:=fun j=>zw D j;have lT:w.1.size<T.1.size:=zd D;have aq:=ze D;have a7:=ze L;clear D L))
  all_goals(
   go_wp2_with fail
   have hf:=zdG (ud aq) (I x.kd) (I x.s.t) (I x.s.sr) (I x.s.wn) (I x.se) (I x.ti) (I x.rest) (I ep) (I (num+1)) (I slot) (I (now+c.le))
   refine bodyPost_ret (v:=.agg #[I x.kd,I x.s.t,I x.s.sr,I x.s.wn,I x.se,I x.ti,I x.rest,I ep,I (num+1),I slot,I (now+c.le)]) (results_cell_row Tryz.results49 _ _ w.1.size _ _ _ _ rfl hf Tryz.underlying51 rfl (by kernel_rfl)) rfl ?_
   have kT:=zbv (w:=T) (g:=w.1.size) (I x.kd) (I x.s.t) (I x.s.sr) (I x.s.wn) (I x.se) (I x.ti) (I x.rest) (I ep) (I (num+1)) (I slot) (I (now+c.le))
   have k1:zi (fun k=>k=b\/k=qb) w N:=(ud al).mono (fun k _ e=> .inl e)
   have k2:=k1.trans (zi.of_below (f:=fun k=>k=b\/k=qb) (ud S)) (fun _ _ e=>e)
   have k3:=k2.trans ((ud R).mono (fun k _ e=> .inr e)) (fun _ _ e=>e)
   have k4:=k3.trans (zi.of_below (f:=fun k=>k=b\/k=qb) (ud V)) (fun _ _ e=>e)
   have k5:=k4.trans (zi.of_below (f:=fun k=>k=b\/k=qb) (ud a7)) (fun _ _ e=>e)
   exact⟨rfl,(((ud a3).later (ud V)).later (ud a7)).kept kT (fun k m e=>by have:=ud ak k m;omega),k5.trans kT (fun k m e=>by omega)⟩))
end Go.Proofs.YtndhpgciopcncaaGreatDoor
