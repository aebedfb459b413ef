import Derived.Test.YtndhpgciopcncaaGreatDoorXMlz0
import Derived.Test.YtndhpgciopcncaaGreatDoorXPck2
open Nat renaming lt_of_lt_of_le → J
open Go.RowKit renaming Below → K
set_option linter.unusedVariables false
set_option maxRecDepth 20000
set_option maxHeartbeats 8000000
open Go.Proofs.Tryz
namespace Go.Proofs.YtndhpgciopcncaaGreatDoor
open Go.RowKit Go.Maps Go.Shelf
open Go.ChangeMaps (setBlock)
def zho(dn:Bool)(w:World)(i:Ids)(c:Cf)(ep:Int)(m:MS)(slot:Int)(e:Ending)(w':World):Prop:=(e=.returned (.tuple #[zgg,I 6])/\B_ w w'/\m.QL.any (fun p=>p.2.slot==slot)=true)\/(e=.returned (.tuple #[zgg,I 7])/\B_ w w'/\(∀p∈m.TL,kO m.QL m.now p.2=false)/\m.QL.any (fun p=>p.2.slot==slot)=false)\/(dn=true/\e=.returned (.tuple #[zgg,I 13])/\B_ w w')\/∃p,m.QL.any (fun p=>p.2.slot==slot)=false/\p∈m.TL/\kO m.QL m.now p.2=true/\YW c m.now (ka (xh m.L) c.qu) m.QL m.TL p.2/\dn=false/\e=.returned (.tuple #[.agg #[I p.2.kd,I p.2.s.t,I p.2.s.se,I p.2.s.we,I p.2.si,I p.2.tc,I p.2.rest,I ep,I (m.num+1),I slot,I (m.now+c.le)],I 0])/\qk dn w' i c ep {m with num:=m.num+1,QL:=qM m.QL ⟨ep,m.num+1⟩ ⟨p.2.kd,p.2.s,slot,m.now+c.le⟩}/\zj (X7 i) w w'
theorem zpC{dn:Bool}{w:World}{i:Ids}{c:Cf}{ep:Int}{m:MS}(h:qk dn w i c ep m)(hc:c.ok)(slot:Int)(aQ:0<=slot/\slot<c.s)(ad:0<=m.now/\m.now<=100000)(hT:∀p∈m.TL,Vs c m.now p.2)(a3:∀p∈m.TL,p.1=p.2.key)(ak:m.QL.length<=100000)(au:0<=m.num/\m.num<=1000000000000000)(aM:xX ep)(hu:0<=xh m.L/\xh m.L<=1000):
  Calls prog 18 #[(O i.x),I slot] w fun e w'=>zho dn w i c ep m slot e w':=by
 have ai:B_ w (w.alloc Zj):=(Below.refl _ _).alloc (Nat.le_refl _) _;have q0:=zo w Zj;have qz:=zE w Zj;have hX:=h.later ai;obtain⟨a,cap,a4,ax⟩:=h.ts;obtain⟨c0,c1,c2,c3,c4,c5,c6,-,c8,-,ag⟩:=hX.cells;rw[a4]at c6;have D:=hX.lt;have a8:=fun W=>ze (zbD c hc a cap slot W);rw[show inB slot 0 (c.s-1)=true from by rw[qZ];omega]at a8
 have P:=fun W N=>ze (zkU ((h.later (w':=W) N).board) slot ak);have af:=fun W N=>ze (JC (h.later (w':=W) N) hc hu);have a7:=fun W N=>ze (zfu (a:=a) (cap:=cap) (a4▸(h.later (w':=W) N).board) hc (ax.below N) m.now (ka (xh m.L) c.qu) ad hT ak);have a6:=fun W (N:B_ w W) (p:Jk×Tsk) (hp:p∈m.TL) (hf:kO m.QL m.now p.2=true)=>ze (ziz (a:=a) (cap:=cap) (a4▸(h.later (w':=W) N).board) hc p.2 (by have:=xF h.board.tg.nodup hp;rw[a3 p hp]at this;exact this) (by have:=h.board.tg.wf p hp;rw[a3 p hp]at this;exact this) slot m.now ad ak au aM (fun q hq e=>by
  unfold kO vg at hf;simp only[Bool.and_eq_true,Bool.not_eq_true',List.any_eq_false]at hf;exact hf.2 q hq (by simpa[Lse.job]using e)))
 have H:=ze h;have a5:=ze ai;have Q0:=ze q0;have QZ:=ze qz;have aI:=ze a4;clear h hX ai q0 qz ax a4;go_in;have av:w.1.size<(w.alloc Zj).1.size:=by rw[ud QZ];omega
 by_cases hbs:m.QL.any (fun p=>p.2.slot==slot)=true
 ·rw[hbs]at P;go_wp2_with(first
   |(go_at_call 46;refine(a8 _).mono ?_;rintro e w1 ⟨rfl,l⟩;have am:=(l.cell (p:=(U i.x 10)) D).trans ag;have m8:=(l.cell (p:=(U i.x 8)) D).trans c8;have z:=J D l.size;have A:=ze (a5.trans (l.mono a5.size));have Z:=ze ((l.block _ av).trans Q0);clear l)
   |(go_at_call 47;refine(P _ A).mono ?_;rintro e T ⟨rfl,u⟩;have d:=ze (A.trans (u.mono A.size));have r:=(u.block _ (zd Z)).trans Z;obtain⟨z0,z1,z2,z3,z4,z5,z6,z7,z8,z9,aB⟩:=z11 r;have zf:=fun j=>zI r j;have zl:=zd r;have F:=ze r;clear u r))
  refine bodyPost_ret (zn results18 _ _ w.1.size _ _ _ _ _ rfl rfl (XG F (I 0) (I 0) (I 0) (I 0) (I 0) (I 0) (I 0) (I 0) (I 0) (I 0) (I 0)) underlying51 rfl (by kernel_rfl)) rfl ?_;have kT:=jk (w:=T) (g:=w.1.size) (I 0) (I 0) (I 0) (I 0) (I 0) (I 0) (I 0) (I 0) (I 0) (I 0) (I 0);unfold zho;exact .inl ⟨rfl,d.trans (kT.below d.size (fun k e=>by omega)),hbs⟩
 ·have aj:m.QL.any (fun p=>p.2.slot==slot)=false:=by simpa using hbs
  rw[aj]at P;have ao:=ze aj;clear hbs aj;go_wp2_with(first
   |(go_at_call 46;refine(a8 _).mono ?_;rintro e w1 ⟨rfl,l⟩;have am:=(l.cell (p:=(U i.x 10)) D).trans ag;have m8:=(l.cell (p:=(U i.x 8)) D).trans c8;have z:=J D l.size;have A:=ze (a5.trans (l.mono a5.size));have Z:=ze ((l.block _ av).trans Q0);clear l)
   |(go_at_call 47;refine(P _ A).mono ?_;rintro e w2 ⟨rfl,u⟩;have az:=(u.cell (p:=(U i.x 10)) z).trans am;have n8:=(u.cell (p:=(U i.x 8)) z).trans m8;have v:=J z u.size;have E:=ze (A.trans (u.mono A.size));have ae:=ze ((u.block _ (zd Z)).trans Z);clear u))
  have a9:=af w2 E;have aa:=af w2.drew E.drew;have aw:w.1.size<w2.1.size:=zd ae;clear af P a8 c0 c1 c2 c3 c4 c5 c6 c8 ag m8 am D z hT a3;by_cases a1:∀p∈m.TL,kO m.QL m.now p.2=false
  ·have B:=fun W (N:B_ w W)=>ze ((ud (a7 W N)).mono (fun e W' hh=>(⟨hh.2.elim (fun h=>h.1) (fun⟨p,hp,hf,_⟩=>absurd (a1 p hp) (by rw[hf];simp)),hh.1⟩:e=.returned (.tuple #[.nilIface,.bool false])/\B_ W W')));have aD:=ze a1;clear a7 a6 a1;go_region_held3 (fun w'=>w'.cell? (U i.x 8)=some (I m.now)/\w'.cell? (U i.x 10)=some (O i.b)) (go_keep) (first
    |(go_at_call 45;(first|(with_reducible refine(ud a9).mono ?_)|(with_reducible refine(ud aa).mono ?_));rintro e V ⟨rfl,o⟩;have hv:B_ w2 V:=⟨o.os,o.tape,o.output,o.size,o.block⟩;clear o;have an:=(hv.cell (p:=(U i.x 10)) v).trans az;have v8:=(hv.cell (p:=(U i.x 8)) v).trans n8;have C:=J v hv.size;have y:=E.trans (hv.mono E.size);have S:=B V y;have X:=B V.drew y.drew;have Q:=ze y;have a0:=ze ((hv.block _ aw).trans ae);clear hv y a9 aa B)
    |(go_at_call 48;(first|(with_reducible refine(ud S).mono ?_)|(with_reducible refine(ud X).mono ?_));rintro e T ⟨rfl,n⟩;have M:B_ V T:=⟨n.os,n.tape,n.output,n.size,n.block⟩;clear n;have aA:=(M.cell (p:=(U i.x 10)) C).trans an;have t8:=(M.cell (p:=(U i.x 8)) C).trans v8;have al:=J C M.size;have d:=ze (Q.trans (M.mono Q.size));have r:=(M.block _ (zd a0)).trans a0;obtain⟨z0,z1,z2,z3,z4,z5,z6,z7,z8,z9,aB⟩:=z11 r;have zf:=fun j=>zI r j;have zl:=zd r;have F:=ze r;clear M r S X))
   all_goals(
    go_wp2_with fail
    refine bodyPost_ret (zn results18 _ _ w.1.size _ _ _ _ _ rfl rfl (XG F (I 0) (I 0) (I 0) (I 0) (I 0) (I 0) (I 0) (I 0) (I 0) (I 0) (I 0)) underlying51 rfl (by kernel_rfl)) rfl ?_
    have kT:=jk (w:=T) (g:=w.1.size) (I 0) (I 0) (I 0) (I 0) (I 0) (I 0) (I 0) (I 0) (I 0) (I 0) (I 0)
    unfold zho;exact .inr (.inl ⟨rfl,d.trans (kT.below d.size (fun k e=>by omega)),aD,ao⟩))
  ·have B:=fun W (N:B_ w W)=>ze ((a7 W N).mono (fun e W' hh=>(⟨hh.2.elim (fun h=>absurd h.2 a1) (fun h=>h),hh.1⟩:(∃p,p∈m.TL/\kO m.QL m.now p.2=true/\YW c m.now (ka (xh m.L) c.qu) m.QL m.TL p.2/\e=.returned (.tuple #[(jZz p.2),.bool true]))/\B_ W W')));clear a7 a1;go_region_held3 (fun w'=>w'.cell? (U i.x 8)=some (I m.now)/\w'.cell? (U i.x 10)=some (O i.b)) (go_keep) (first
    |(go_at_call 45;(first|(with_reducible refine(ud a9).mono ?_)|(with_reducible refine(ud aa).mono ?_));rintro e V ⟨rfl,o⟩;have hv:B_ w2 V:=⟨o.os,o.tape,o.output,o.size,o.block⟩;clear o;have an:=(hv.cell (p:=(U i.x 10)) v).trans az;have v8:=(hv.cell (p:=(U i.x 8)) v).trans n8;have C:=J v hv.size;have y:=E.trans (hv.mono E.size);have S:=B V y;have X:=B V.drew y.drew;have Q:=ze y;have a0:=ze ((hv.block _ aw).trans ae);clear hv y a9 aa B)
    |(go_at_call 48;(first|(with_reducible refine(ud S).mono ?_)|(with_reducible refine(ud X).mono ?_));rintro e T ⟨⟨p,hp,ab,ac,rfl⟩,n⟩;have M:B_ V T:=⟨n.os,n.tape,n.output,n.size,n.block⟩;clear n;have aA:=(M.cell (p:=(U i.x 10)) C).trans an;have t8:=(M.cell (p:=(U i.x 8)) C).trans v8;have al:=J C M.size;have d:=ze (Q.trans (M.mono Q.size));have r:=(M.block _ (zd a0)).trans a0;obtain⟨z0,z1,z2,z3,z4,z5,z6,z7,z8,z9,aB⟩:=z11 r;have zf:=fun j=>zI r j;have zl:=zd r;have F:=ze r;clear M r S X;have Y:=ze (And.intro hp (And.intro ab ac));clear hp ab ac))
   all_goals(
    obtain⟨-,aS⟩:=(H.later d).cells2
    have aF:=a6 T d p Y.1 Y.2.1
    have aG:=a6 T.drew d.drew p Y.1 Y.2.1
    have ah:=H.later d
    have ay:¬(i.x=i.b\/i.x=i.qb):=fun e=>by
     rcases e with e|e
     ·exact ah.x_board i.b (.inl rfl) e.symm
     ·exact ah.x_board i.qb (.inr (.inr rfl)) e.symm
    have aN:¬(w.1.size=i.b\/w.1.size=i.qb):=fun e=>by
     rcases e with e|e
     ·have:=H.foot_lt i.b (.inr (.inr (.inl rfl)));omega
     ·have:=H.foot_lt i.qb (.inr (.inr (.inr (.inr rfl))));omega
    have aP:¬i.x=w.1.size:=by have:=H.lt;omega
    have aO:¬w.1.size=i.x:=by have:=H.lt;omega
    clear a6 ah
    cases dn
    ·go_wp2_with fail
     go_region_held3 (fun w'=>w'.cell? (U i.x 8)=some (I m.now)/\w'.cell? (U i.x 10)=some (O i.b)) (go_keep) (first
      |(go_at_call 49;(first|(with_reducible refine(ud aF).mono ?_)|(with_reducible refine(ud aG).mono ?_));rintro e R ⟨rfl,ap,G⟩;have a2:zj (fun k=>k=i.b\/k=i.qb) T R:=⟨G.os,G.tape,G.output,G.size,G.block⟩;clear G;have aR:=(zD (i:=10) a2 ay al).trans aA;have r8:=(zD (i:=8) a2 ay al).trans t8;have r:=a2.heap F aN;obtain⟨y0,y1,y2,y3,y4,y5,y6,y7,y8,y9,aT⟩:=z11 r;have yf:=fun j=>zI r j;have yl:=zd r;have aH:=ze r;have aC:=ze ap;have aE:=ze a2;clear r ap a2))
     all_goals(
      go_wp2_with fail
      refine bodyPost_ret (zn results18 _ _ w.1.size _ _ _ _ _ rfl rfl (XG aH (I p.2.kd) (I p.2.s.t) (I p.2.s.se) (I p.2.s.we) (I p.2.si) (I p.2.tc) (I p.2.rest) (I ep) (I (m.num+1)) (I slot) (I (m.now+c.le))) underlying51 rfl (by kernel_rfl)) rfl ?_
      have kT:=jk (w:=R) (g:=w.1.size) (I p.2.kd) (I p.2.s.t) (I p.2.s.se) (I p.2.s.we) (I p.2.si) (I p.2.tc) (I p.2.rest) (I ep) (I (m.num+1)) (I slot) (I (m.now+c.le))
      have ar:zj (Ze i.b i.tb i.qb) T R:=aE.mono (fun k _ e=>e.elim (fun e=> .inl e) (fun e=> .inr (.inr e)))
      have aK:=((ud H).later (ud d)).putBoard (by rw[ud aI];exact ud aC) ar
      have aL:=aK.kept kT (fun k hk e=>by have:=H.foot_lt k hk;omega)
      have aJ:=((zj.of_below (f:=X7 i) d).trans (ar.mono (fun k _ e=> .inr (.inr e))) (fun _ _ e=>e)).trans kT (fun k hk e=>by omega)
      obtain⟨hp,ab,ac⟩:=ud Y
      unfold zho
      exact .inr (.inr (.inr ⟨p,ao,hp,ab,ac,rfl,rfl,aL,aJ⟩)))
    ·go_wp2_with fail
     refine bodyPost_ret (zn results18 _ _ w.1.size _ _ _ _ _ rfl rfl (XG F (I 0) (I 0) (I 0) (I 0) (I 0) (I 0) (I 0) (I 0) (I 0) (I 0) (I 0)) underlying51 rfl (by kernel_rfl)) rfl ?_
     have kT:=jk (w:=T) (g:=w.1.size) (I 0) (I 0) (I 0) (I 0) (I 0) (I 0) (I 0) (I 0) (I 0) (I 0) (I 0)
     have aq:=d.trans (kT.below d.size (fun k e=>by omega))
     unfold zho
     exact .inr (.inr (.inl ⟨rfl,rfl,aq⟩)))
