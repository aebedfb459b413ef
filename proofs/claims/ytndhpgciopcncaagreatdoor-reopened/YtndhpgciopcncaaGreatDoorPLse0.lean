import Derived.Test.YtndhpgciopcncaaGreatDoorPOrd6
open Option renaming some → J
open Nat renaming lt_of_lt_of_le → K
set_option linter.unusedVariables false
set_option maxRecDepth 20000
set_option maxHeartbeats 8000000
namespace Go.Proofs.YtndhpgciopcncaaGreatDoor
open Go.RowKit Go.Maps Go.Shelf
open Go.ChangeMaps (setBlock)
theorem zin{w:World}{b:Nat}{c:Cf}{a:Option Addr}{cap:Nat}{ep num:Int}{tb qb:Nat}{TL:List (Jk×Tsk)}{QL:List (Tok×Lse)}(h:zC w b c (.slice a c.n cap) ep num tb qb TL QL)(hc:c.ok)(x:Tsk)(hx:zD TL x.key=J x)(ak:x.key.wf)(slot now:Int)(C:0<=now/\now<=100000)(aB:QL.length<=100000)(ah:0<=num/\num<=1000000000000000)(ae:xg ep)(ag:∀q∈QL,q.2.job≠x.key):
  Calls Tryz.prog 49 #[(O b),(jZz x),I slot,I now] w fun e w'=>e=.returned (.agg #[I x.kd,I x.s.t,I x.s.sr,I x.s.wn,I x.se,I x.ti,I x.rest,I ep,I (num+1),I slot,I (now+c.le)])/\zC w' b c (.slice a c.n cap) ep (num+1) tb qb TL (xZ QL ⟨ep,num+1⟩ ⟨x.kd,x.s,slot,now+c.le⟩)/\zh (fun k=>k=b\/k=qb) w w':=by
 have aO:=h.lt
 obtain⟨-,-,-,-,-,-,-,-,w8,-⟩:=zc h.head
 have wf:=zv h.head 8
 have aP:IntKind.i64.wrap (num+1)=num+1:=by rw[IntKind.wrap_i64];omega
 obtain⟨Q,B⟩:∃Q,((w.setCell (U b 8) (I (num+1))).alloc zjY)=Q:=⟨_,rfl⟩
 have aj:(w.setCell (U b 8) (I (num+1))).1.size=w.1.size:=by simp
 have ac:=h.setNum (num+1)
 have ad:Below (w.setCell (U b 8) (I (num+1))).1.size (w.setCell (U b 8) (I (num+1))) Q:=by rw[<-B];exact(Below.refl _ _).alloc (Nat.le_refl _) _
 have L:=ac.later ad
 have Z:Q.1[w.1.size]?=J (.cells #[I 0,I 0,I 0,I 0,I 0,I 0,I 0,I 0,I 0,I 0,I 0] 51 (0,0)):=by rw[<-B,<-aj];exact zp _ _
 have F:=L.lt
 have lR:=zd Z
 obtain⟨s0,s1,s2,s3,s4,s5,s6,s7,s8,-,aH,-⟩:=zc L.head
 have an:Hid (zh (fun k=>k=b) w Q):=by rw[<-B];exact(zg (zh.refl (fun k=>k=b) w) rfl).alloc _
 have ay:Hid ((⟨ep,num+1⟩:Tok).wf):=⟨ae,by unfold xg;dsimp only;omega⟩
 have a6:=fun W=>ze (keyOf_any x W)
 have a7:=fun W=>ze (keyOf_any x W)
 have a8:=fun W=>ze (zft c a cap W)
 have l:¬b=qb:=fun e=>h.qb_ne e.symm
 have aR:¬b=w.1.size:=by omega
 have aM:¬w.1.size=b:=by omega
 have aE:¬w.1.size=qb:=fun e=>by have:=h.foot_lt qb (.inr (.inr rfl));omega
 have a3:QL.length<maxLen:=by simp only[maxLen];omega
 obtain⟨aI,aJ⟩:=hc.le
 have aK:=C.1
 have aL:=C.2
 have aQ:IntKind.i64.wrap (now+c.le)=now+c.le:=by rw[IntKind.wrap_i64];omega
 have R:=h.leases.nodup
 have ap:=ze ag
 have HX:=ze hx
 have ab:=ze ak
 have aq:=ze R
 have a4:=ze L
 have ar:=ze Z
 have az:=ze B
 have H:=ze h
 have am:=ze h.foot_lt
 clear h ac ad L Z B aj ag hx ak R ah C ae aB
 go_enter Tryz.func49,Tryz.ntmps49
 go_wp2_with fail
 rw[ud az]
 clear w8 wf
 go_region_held3 (fun w'=>w'.cell? (U b 0)=J (I c.s)/\w'.cell? (U b 1)=J (I c.le)/\w'.cell? (U b 2)=J (I c.la)/\w'.cell? (U b 3)=J (I c.wi)/\w'.cell? (U b 4)=J (I c.ke)/\w'.cell? (U b 5)=J (I c.qu)/\w'.cell? (U b 6)=J (.slice a c.n cap)/\w'.cell? (U b 7)=J (I ep)/\w'.cell? (U b 8)=J (I (num+1))/\w'.cell? (U b 10)=J (.map (J qb))) (go_keep) (first
  |(go_at_call 102;(with_reducible refine(ud (a6 _)).mono ?_);rintro e u ⟨rfl,d⟩;have hv:Below Q.1.size Q u:=⟨d.os,d.tape,d.output,d.size,d.block⟩;clear d;have p0:Cz u b 0 (I c.s):=(hv.cell (p:=(U b 0)) F).trans s0;have p1:Cz u b 1 (I c.le):=(hv.cell (p:=(U b 1)) F).trans s1;have p2:Cz u b 2 (I c.la):=(hv.cell (p:=(U b 2)) F).trans s2;have p3:Cz u b 3 (I c.wi):=(hv.cell (p:=(U b 3)) F).trans s3;have p4:Cz u b 4 (I c.ke):=(hv.cell (p:=(U b 4)) F).trans s4;have p5:Cz u b 5 (I c.qu):=(hv.cell (p:=(U b 5)) F).trans s5;have p6:Cz u b 6 (.slice a c.n cap):=(hv.cell (p:=(U b 6)) F).trans s6;have p7:Cz u b 7 (I ep):=(hv.cell (p:=(U b 7)) F).trans s7;have p8:Cz u b 8 (I (num+1)):=(hv.cell (p:=(U b 8)) F).trans s8;have aF:Cz u b 10 (.map (J qb)):=(hv.cell (p:=(U b 10)) F).trans aH;have E:=K F hv.size;have aa:=ze hv;clear hv a6)
  |(go_at_call 103;(with_reducible refine(ud (a8 _)).mono ?_);rintro e z ⟨rfl,d⟩;have hv:Below u.1.size u z:=⟨d.os,d.tape,d.output,d.size,d.block⟩;clear d;have r0:Cz z b 0 (I c.s):=(hv.cell (p:=(U b 0)) E).trans p0;have r1:Cz z b 1 (I c.le):=(hv.cell (p:=(U b 1)) E).trans p1;have r2:Cz z b 2 (I c.la):=(hv.cell (p:=(U b 2)) E).trans p2;have r3:Cz z b 3 (I c.wi):=(hv.cell (p:=(U b 3)) E).trans p3;have r4:Cz z b 4 (I c.ke):=(hv.cell (p:=(U b 4)) E).trans p4;have r5:Cz z b 5 (I c.qu):=(hv.cell (p:=(U b 5)) E).trans p5;have r6:Cz z b 6 (.slice a c.n cap):=(hv.cell (p:=(U b 6)) E).trans p6;have r7:Cz z b 7 (I ep):=(hv.cell (p:=(U b 7)) E).trans p7;have r8:Cz z b 8 (I (num+1)):=(hv.cell (p:=(U b 8)) E).trans p8;have aG:Cz z b 10 (.map (J qb)):=(hv.cell (p:=(U b 10)) E).trans aF;have G:=K E hv.size;have a1:=(ud aa).trans (hv.mono (ud aa).size);obtain⟨o,S,hm,m⟩:=zjt ((ud a4).later a1).leases a3 (ud ay) ⟨x.kd,x.s,slot,now+c.le⟩;dsimp only at S;obtain⟨r,hU⟩:∃r,setBlock z qb o=r:=⟨_,rfl⟩;rw[hU]at S hm m;have u0:Cz r b 0 (I c.s):=(zM (i:=0) m l G).trans r0;have u1:Cz r b 1 (I c.le):=(zM (i:=1) m l G).trans r1;have u2:Cz r b 2 (I c.la):=(zM (i:=2) m l G).trans r2;have u3:Cz r b 3 (I c.wi):=(zM (i:=3) m l G).trans r3;have u4:Cz r b 4 (I c.ke):=(zM (i:=4) m l G).trans r4;have u5:Cz r b 5 (I c.qu):=(zM (i:=5) m l G).trans r5;have u6:Cz r b 6 (.slice a c.n cap):=(zM (i:=6) m l G).trans r6;have u7:Cz r b 7 (I ep):=(zM (i:=7) m l G).trans r7;have u8:Cz r b 8 (I (num+1)):=(zM (i:=8) m l G).trans r8;have aS:Cz r b 10 (.map (J qb)):=(zM (i:=10) m l G).trans aG;have X:=ze a1;have ao:=ze hm;have V:=ze m;clear hv a1 hm m hU a8))
 all_goals(
  have M:=((ud a4).later (ud X)).putLeases (ud ao) (ud V)
  have ai:=((ud X).block _ lR).trans (ud ar)
  have a2:=(ud V).heap ai aE
  have av:=ze a2
  have a5:=ze M
  have lU:b<r.1.size:=M.lt
  have al:=zd a2
  obtain⟨-,-,-,-,-,-,-,-,-,u9,-⟩:=zc M.head
  clear M ai a2
  go_wp2_with fail
  go_region_held3 (fun w'=>w'.cell? (U b 9)=J (.map (J tb))) (go_keep) (first
   |(go_at_call 102;(with_reducible refine(ud (a7 _)).mono ?_);rintro e P ⟨rfl,d⟩;have hv:Below r.1.size r P:=⟨d.os,d.tape,d.output,d.size,d.block⟩;clear d;have q9:Cz P b 9 (.map (J tb)):=(hv.cell (p:=(U b 9)) lU).trans u9;have A:=(ud a5).later hv;have aA:=Jv A.td (ud ab) (ud HX);have af:=Jv (A.later (Below.refl _ _).drew).td (ud ab) (ud HX);dsimp only[Tsk.key]at aA af;have a0:=fun W (hW:Below P.1.size P W)=>ze (zez (A.later hW) x ⟨ep,num+1⟩ ⟨x.kd,x.s,slot,now+c.le⟩ (zB (by rw[kJ (ud aq),if_pos rfl])) rfl (fun q hq e=>by
    rcases qF hq with rfl|⟨hq,_⟩
    ·rfl
    ·exact absurd e (ud ap q hq)));have aw:=a0 P (Below.refl _ _);have ax:=a0 P.drew (Below.refl _ _).drew;have Y:=ze hv;have aD:=K al hv.size;have aC:=A.lt;clear hv A a0)
   |(go_at_call 104;(first|(with_reducible refine(ud aw).mono ?_)|(with_reducible refine(ud ax).mono ?_));rintro e T ⟨rfl,y⟩;have N:Below P.1.size P T:=⟨y.os,y.tape,y.output,y.size,y.block⟩;clear y;have D:=(N.block _ aD).trans (((ud Y).block _ al).trans (ud av));have g9:Cz T b 9 (.map (J tb)):=(N.cell (p:=(U b 9)) aC).trans q9;obtain⟨e0,e1,e2,e3,e4,e5,e6,e7,e8,e9,aN,-⟩:=zc D;have ef:=fun j=>zv D j;have lT:w.1.size<T.1.size:=zd D;have au:=ze D;have a9:=ze N;clear D N))
  all_goals(
   go_wp2_with fail
   have hf:=zdc (ud au) (I x.kd) (I x.s.t) (I x.s.sr) (I x.s.wn) (I x.se) (I x.ti) (I x.rest) (I ep) (I (num+1)) (I slot) (I (now+c.le))
   refine bodyPost_ret (v:=.agg #[I x.kd,I x.s.t,I x.s.sr,I x.s.wn,I x.se,I x.ti,I x.rest,I ep,I (num+1),I slot,I (now+c.le)]) (results_cell_row Tryz.results49 _ _ w.1.size _ _ _ _ rfl hf Tryz.underlying51 rfl (by kernel_rfl)) rfl ?_
   have kT:=zaP (w:=T) (g:=w.1.size) (I x.kd) (I x.s.t) (I x.s.sr) (I x.s.wn) (I x.se) (I x.ti) (I x.rest) (I ep) (I (num+1)) (I slot) (I (now+c.le))
   have k1:zh (fun k=>k=b\/k=qb) w Q:=(ud an).mono (fun k _ e=> .inl e)
   have k2:=k1.trans (zh.of_below (f:=fun k=>k=b\/k=qb) (ud X)) (fun _ _ e=>e)
   have k3:=k2.trans ((ud V).mono (fun k _ e=> .inr e)) (fun _ _ e=>e)
   have k4:=k3.trans (zh.of_below (f:=fun k=>k=b\/k=qb) (ud Y)) (fun _ _ e=>e)
   have k5:=k4.trans (zh.of_below (f:=fun k=>k=b\/k=qb) (ud a9)) (fun _ _ e=>e)
   exact⟨rfl,(((ud a5).later (ud Y)).later (ud a9)).kept kT (fun k m e=>by have:=ud am k m;omega),k5.trans kT (fun k m e=>by omega)⟩))
end Go.Proofs.YtndhpgciopcncaaGreatDoor
