import Derived.Test.YtndhpgciopcncaaGreatDoorPLse0
import Derived.Test.YtndhpgciopcncaaGreatDoorPSml0
import Derived.Shelf.SlSortCmp.NoneTotal
import Derived.Deep.RegionHeld3
import Derived.StillTactics
import Derived.Test.YtndhpgciopcncaaGreatDoorPLay4
import Derived.Lib.IndexLaws
open Option renaming some → E
open Go renaming World → G
open Go.RowKit renaming Below → C
open Nat renaming lt_of_lt_of_le → za
open Nat renaming le_refl → zb
open Go.RowKit.Below renaming refl → zz
open Go renaming Value → x7
open Option renaming none → x8
open Nat renaming le_trans → x9
open Go.Value (int)
open Go.IntKind (i32)
set_option linter.unusedVariables false
set_option maxRecDepth 100000
set_option maxHeartbeats 8000000
open Go.Proofs.Tryz
namespace Go.Proofs.YtndhpgciopcncaaGreatDoor
open Go.ChangeMaps (setBlock)
open Go.RowKit Go.Maps Go.Shelf
def zgG(dn:Bool)(w:G)(i:Ids)(c:Cf)(ep:Int)(m:MS)(slot:Int)(e:Ending)(w':G):Prop:=(e=.returned (.tuple #[zcI,I 6])/\C w.1.size w w'/\m.QL.any (fun p=>p.2.slot==slot)=true)\/(e=.returned (.tuple #[zcI,I 7])/\C w.1.size w w'/\(∀p∈m.TL,yO m.QL m.now p.2=false)/\m.QL.any (fun p=>p.2.slot==slot)=false)\/(dn=true/\e=.returned (.tuple #[zcI,I 13])/\C w.1.size w w')\/∃p,m.QL.any (fun p=>p.2.slot==slot)=false/\p∈m.TL/\yO m.QL m.now p.2=true/\YC c m.now (yn (zJ m.L) c.qu) m.QL m.TL p.2/\dn=false/\e=.returned (.tuple #[.agg #[I p.2.kd,I p.2.s.t,I p.2.s.sr,I p.2.s.wn,I p.2.se,I p.2.ti,I p.2.rest,I ep,I (m.num+1),I slot,I (m.now+c.le)],I 0])/\xG dn w' i c ep {m with num:=m.num+1,QL:=xZ m.QL ⟨ep,m.num+1⟩ ⟨p.2.kd,p.2.s,slot,m.now+c.le⟩}/\zh (ZM i) w w'
theorem zmI{dn:Bool}{w:G}{i:Ids}{c:Cf}{ep:Int}{m:MS}(h:xG dn w i c ep m)(hc:c.ok)(slot:Int)(aR:0<=slot/\slot<c.s)(ae:0<=m.now/\m.now<=100000)(hT:∀p∈m.TL,Yc c m.now p.2)(a4:∀p∈m.TL,p.1=p.2.key)(al:m.QL.length<=100000)(av:0<=m.num/\m.num<=1000000000000000)(aN:xg ep)(hu:0<=zJ m.L/\zJ m.L<=1000):
  Calls prog 18 #[(O i.x),I slot] w fun e w'=>zgG dn w i c ep m slot e w':=by
 have aj:C w.1.size w (w.alloc zjY):=(zz _ _).alloc (zb _) _
 have q0:=zp w zjY
 have qz:=zN w zjY
 have hX:=h.later aj
 obtain⟨a,cap,a5,ay⟩:=h.ts
 obtain⟨c0,c1,c2,c3,c4,c5,c6,-,c8,-,ah⟩:=hX.cells
 rw[a5]at c6
 have F:=hX.lt
 have a9:=fun W=>ze (zit c hc a cap slot W)
 rw[show inB slot 0 (c.s-1)=true from by rw[vQ];omega]at a9
 have Q:=fun W P=>ze (zkv ((h.later (w':=W) P).board) slot al)
 have ag:=fun W P=>ze (VZ (h.later (w':=W) P) hc hu)
 have a8:=fun W P=>ze (zeO (a:=a) (cap:=cap) (a5▸(h.later (w':=W) P).board) hc (ay.below P) m.now (yn (zJ m.L) c.qu) ae hT al)
 have a7:=fun W (P:C w.1.size w W) (p:Jk×Tsk) (hp:p∈m.TL) (hf:yO m.QL m.now p.2=true)=>ze (zin (a:=a) (cap:=cap) (a5▸(h.later (w':=W) P).board) hc p.2 (by have:=xp h.board.td.nodup hp;rw[a4 p hp]at this;exact this) (by have:=h.board.td.wf p hp;rw[a4 p hp]at this;exact this) slot m.now ae al av aN (fun q hq e=>by
  unfold yO k7 at hf
  simp only[Bool.and_eq_true,Bool.not_eq_true',List.any_eq_false]at hf
  exact hf.2 q hq (by simpa[Lse.job]using e)))
 have H:=ze h
 have a6:=ze aj
 have Q0:=ze q0
 have QZ:=ze qz
 have aJ:=ze a5
 clear h hX aj q0 qz ay a5
 go_enter func18,ntmps18
 have aw:w.1.size<(w.alloc zjY).1.size:=by rw[ud QZ];omega
 by_cases hbs:m.QL.any (fun p=>p.2.slot==slot)=true
 ·rw[hbs]at Q
  go_wp2_with(first
   |(go_at_call 46;refine(ud (a9 _)).mono ?_;rintro e w1 ⟨rfl,l⟩;have an:=(l.cell (p:=(U i.x 10)) F).trans ah;have m8:=(l.cell (p:=(U i.x 8)) F).trans c8;have z:=za F l.size;have A:=ze ((ud a6).trans (l.mono (ud a6).size));have a0:=ze ((l.block _ aw).trans (ud Q0));clear l)
   |(go_at_call 47;refine(ud (Q _ (ud A))).mono ?_;rintro e T ⟨rfl,u⟩;have d:=ze ((ud A).trans (u.mono (ud A).size));have r:=(u.block _ (zd (ud a0))).trans (ud a0);obtain⟨z0,z1,z2,z3,z4,z5,z6,z7,z8,z9,aC⟩:=z11 r;have zf:=fun j=>zv r j;have zl:=zd r;have K:=ze r;clear u r))
  refine bodyPost_ret (zZ results18 _ _ w.1.size _ _ _ _ _ rfl rfl (zdc (ud K) (I 0) (I 0) (I 0) (I 0) (I 0) (I 0) (I 0) (I 0) (I 0) (I 0) (I 0)) underlying51 rfl (by kernel_rfl)) rfl ?_
  have kT:=zaP (w:=T) (g:=w.1.size) (I 0) (I 0) (I 0) (I 0) (I 0) (I 0) (I 0) (I 0) (I 0) (I 0) (I 0)
  unfold zgG;exact .inl ⟨rfl,(ud d).trans (kT.below (ud d).size (fun k e=>by omega)),hbs⟩
 ·have ak:m.QL.any (fun p=>p.2.slot==slot)=false:=by simpa using hbs
  rw[ak]at Q
  have ap:=ze ak
  clear hbs ak
  go_wp2_with(first
   |(go_at_call 46;refine(ud (a9 _)).mono ?_;rintro e w1 ⟨rfl,l⟩;have an:=(l.cell (p:=(U i.x 10)) F).trans ah;have m8:=(l.cell (p:=(U i.x 8)) F).trans c8;have z:=za F l.size;have A:=ze ((ud a6).trans (l.mono (ud a6).size));have a0:=ze ((l.block _ aw).trans (ud Q0));clear l)
   |(go_at_call 47;refine(ud (Q _ (ud A))).mono ?_;rintro e w2 ⟨rfl,u⟩;have aA:=(u.cell (p:=(U i.x 10)) z).trans an;have n8:=(u.cell (p:=(U i.x 8)) z).trans m8;have v:=za z u.size;have J:=ze ((ud A).trans (u.mono (ud A).size));have af:=ze ((u.block _ (zd (ud a0))).trans (ud a0));clear u))
  have aa:=ag w2 (ud J)
  have ab:=ag w2.drew (ud J).drew
  have ax:w.1.size<w2.1.size:=zd (ud af)
  clear ag Q a9 c0 c1 c2 c3 c4 c5 c6 c8 ah m8 an F z hT a4
  by_cases a2:∀p∈m.TL,yO m.QL m.now p.2=false
  ·have B:=fun W (P:C w.1.size w W)=>ze ((ud (a8 W P)).mono (fun e W' hh=>(⟨hh.2.elim (fun h=>h.1) (fun⟨p,hp,hf,_⟩=>absurd (a2 p hp) (by rw[hf];simp)),hh.1⟩:e=.returned (.tuple #[.nilIface,.bool false])/\C W.1.size W W')))
   have aE:=ze a2
   clear a8 a7 a2
   go_region_held3 (fun w'=>w'.cell? (U i.x 8)=E (I m.now)/\w'.cell? (U i.x 10)=E (O i.b)) (go_keep) (first
    |(go_at_call 45;(first|(with_reducible refine(ud aa).mono ?_)|(with_reducible refine(ud ab).mono ?_));rintro e V ⟨rfl,o⟩;have hv:C w2.1.size w2 V:=⟨o.os,o.tape,o.output,o.size,o.block⟩;clear o;have ao:=(hv.cell (p:=(U i.x 10)) v).trans aA;have v8:=(hv.cell (p:=(U i.x 8)) v).trans n8;have D:=za v hv.size;have y:=(ud J).trans (hv.mono (ud J).size);have X:=B V y;have Y:=B V.drew y.drew;have S:=ze y;have a1:=ze ((hv.block _ ax).trans (ud af));clear hv y aa ab B)
    |(go_at_call 48;(first|(with_reducible refine(ud X).mono ?_)|(with_reducible refine(ud Y).mono ?_));rintro e T ⟨rfl,n⟩;have N:C V.1.size V T:=⟨n.os,n.tape,n.output,n.size,n.block⟩;clear n;have aB:=(N.cell (p:=(U i.x 10)) D).trans ao;have t8:=(N.cell (p:=(U i.x 8)) D).trans v8;have am:=za D N.size;have d:=ze ((ud S).trans (N.mono (ud S).size));have r:=(N.block _ (zd (ud a1))).trans (ud a1);obtain⟨z0,z1,z2,z3,z4,z5,z6,z7,z8,z9,aC⟩:=z11 r;have zf:=fun j=>zv r j;have zl:=zd r;have K:=ze r;clear N r X Y))
   all_goals(
    go_wp2_with fail
    refine bodyPost_ret (zZ results18 _ _ w.1.size _ _ _ _ _ rfl rfl (zdc (ud K) (I 0) (I 0) (I 0) (I 0) (I 0) (I 0) (I 0) (I 0) (I 0) (I 0) (I 0)) underlying51 rfl (by kernel_rfl)) rfl ?_
    have kT:=zaP (w:=T) (g:=w.1.size) (I 0) (I 0) (I 0) (I 0) (I 0) (I 0) (I 0) (I 0) (I 0) (I 0) (I 0)
    unfold zgG;exact .inr (.inl ⟨rfl,(ud d).trans (kT.below (ud d).size (fun k e=>by omega)),ud aE,ud ap⟩))
  ·have B:=fun W (P:C w.1.size w W)=>ze ((ud (a8 W P)).mono (fun e W' hh=>(⟨hh.2.elim (fun h=>absurd h.2 a2) (fun h=>h),hh.1⟩:(∃p,p∈m.TL/\yO m.QL m.now p.2=true/\YC c m.now (yn (zJ m.L) c.qu) m.QL m.TL p.2/\e=.returned (.tuple #[(jZz p.2),.bool true]))/\C W.1.size W W')))
   clear a8 a2
   go_region_held3 (fun w'=>w'.cell? (U i.x 8)=E (I m.now)/\w'.cell? (U i.x 10)=E (O i.b)) (go_keep) (first
    |(go_at_call 45;(first|(with_reducible refine(ud aa).mono ?_)|(with_reducible refine(ud ab).mono ?_));rintro e V ⟨rfl,o⟩;have hv:C w2.1.size w2 V:=⟨o.os,o.tape,o.output,o.size,o.block⟩;clear o;have ao:=(hv.cell (p:=(U i.x 10)) v).trans aA;have v8:=(hv.cell (p:=(U i.x 8)) v).trans n8;have D:=za v hv.size;have y:=(ud J).trans (hv.mono (ud J).size);have X:=B V y;have Y:=B V.drew y.drew;have S:=ze y;have a1:=ze ((hv.block _ ax).trans (ud af));clear hv y aa ab B)
    |(go_at_call 48;(first|(with_reducible refine(ud X).mono ?_)|(with_reducible refine(ud Y).mono ?_));rintro e T ⟨⟨p,hp,ac,ad,rfl⟩,n⟩;have N:C V.1.size V T:=⟨n.os,n.tape,n.output,n.size,n.block⟩;clear n;have aB:=(N.cell (p:=(U i.x 10)) D).trans ao;have t8:=(N.cell (p:=(U i.x 8)) D).trans v8;have am:=za D N.size;have d:=ze ((ud S).trans (N.mono (ud S).size));have r:=(N.block _ (zd (ud a1))).trans (ud a1);obtain⟨z0,z1,z2,z3,z4,z5,z6,z7,z8,z9,aC⟩:=z11 r;have zf:=fun j=>zv r j;have zl:=zd r;have K:=ze r;clear N r X Y;have Z:=ze (And.intro hp (And.intro ac ad));clear hp ac ad))
   all_goals(
    obtain⟨-,aT⟩:=((ud H).later (ud d)).cells2
    have aG:=a7 T (ud d) p (ud Z).1 (ud Z).2.1
    have aH:=a7 T.drew (ud d).drew p (ud Z).1 (ud Z).2.1
    have ai:=(ud H).later (ud d)
    have az:¬(i.x=i.b\/i.x=i.qb):=fun e=>by
     rcases e with e|e
     ·exact ai.x_board i.b (.inl rfl) e.symm
     ·exact ai.x_board i.qb (.inr (.inr rfl)) e.symm
    have aO:¬(w.1.size=i.b\/w.1.size=i.qb):=fun e=>by
     rcases e with e|e
     ·have:=(ud H).foot_lt i.b (.inr (.inr (.inl rfl)));omega
     ·have:=(ud H).foot_lt i.qb (.inr (.inr (.inr (.inr rfl))));omega
    have aQ:¬i.x=w.1.size:=by have:=(ud H).lt;omega
    have aP:¬w.1.size=i.x:=by have:=(ud H).lt;omega
    clear a7 ai
    cases dn
    ·go_wp2_with fail
     go_region_held3 (fun w'=>w'.cell? (U i.x 8)=E (I m.now)/\w'.cell? (U i.x 10)=E (O i.b)) (go_keep) (first
      |(go_at_call 49;(first|(with_reducible refine(ud aG).mono ?_)|(with_reducible refine(ud aH).mono ?_));rintro e R ⟨rfl,aq,M⟩;have a3:zh (fun k=>k=i.b\/k=i.qb) T R:=⟨M.os,M.tape,M.output,M.size,M.block⟩;clear M;have aS:=(zM (i:=10) a3 az am).trans aB;have r8:=(zM (i:=8) a3 az am).trans t8;have r:=a3.heap (ud K) aO;obtain⟨y0,y1,y2,y3,y4,y5,y6,y7,y8,y9,aU⟩:=z11 r;have yf:=fun j=>zv r j;have yl:=zd r;have aI:=ze r;have aD:=ze aq;have aF:=ze a3;clear r aq a3))
     all_goals(
      go_wp2_with fail
      refine bodyPost_ret (zZ results18 _ _ w.1.size _ _ _ _ _ rfl rfl (zdc (ud aI) (I p.2.kd) (I p.2.s.t) (I p.2.s.sr) (I p.2.s.wn) (I p.2.se) (I p.2.ti) (I p.2.rest) (I ep) (I (m.num+1)) (I slot) (I (m.now+c.le))) underlying51 rfl (by kernel_rfl)) rfl ?_
      have kT:=zaP (w:=R) (g:=w.1.size) (I p.2.kd) (I p.2.s.t) (I p.2.s.sr) (I p.2.s.wn) (I p.2.se) (I p.2.ti) (I p.2.rest) (I ep) (I (m.num+1)) (I slot) (I (m.now+c.le))
      have au:zh (jT i.b i.tb i.qb) T R:=(ud aF).mono (fun k _ e=>e.elim (fun e=> .inl e) (fun e=> .inr (.inr e)))
      have aL:=((ud H).later (ud d)).putBoard (by rw[ud aJ];exact ud aD) au
      have aM:=aL.kept kT (fun k hk e=>by have:=(ud H).foot_lt k hk;omega)
      have aK:=((zh.of_below (f:=ZM i) (ud d)).trans (au.mono (fun k _ e=> .inr (.inr e))) (fun _ _ e=>e)).trans kT (fun k hk e=>by omega)
      obtain⟨hp,ac,ad⟩:=ud Z
      unfold zgG
      exact .inr (.inr (.inr ⟨p,ud ap,hp,ac,ad,rfl,rfl,aM,aK⟩)))
    ·go_wp2_with fail
     refine bodyPost_ret (zZ results18 _ _ w.1.size _ _ _ _ _ rfl rfl (zdc (ud K) (I 0) (I 0) (I 0) (I 0) (I 0) (I 0) (I 0) (I 0) (I 0) (I 0) (I 0)) underlying51 rfl (by kernel_rfl)) rfl ?_
     have kT:=zaP (w:=T) (g:=w.1.size) (I 0) (I 0) (I 0) (I 0) (I 0) (I 0) (I 0) (I 0) (I 0) (I 0) (I 0)
     have ar:=(ud d).trans (kT.below (ud d).size (fun k e=>by omega))
     unfold zgG
     exact .inr (.inr (.inl ⟨rfl,rfl,ar⟩)))
theorem XH{w:G}{i:Ids}{c:Cf}{ep:Int}{m:MS}(h:zy w i c ep m)(t:Tok)(b:t.wf)(a:zD m.QL t=x8):
  Calls prog 20 #[(O i.x),.agg #[I t.ep,I t.num]] w (Rz w (I 8)):=
 zeT h.own t b a
theorem Je{w:G}{i:Ids}{c:Cf}{ep:Int}{m:MS}(h:zy w i c ep m)(t:Tok)(b:t.wf)(a:zD m.QL t=x8):
  Calls prog 21 #[(O i.x),.agg #[I t.ep,I t.num]] w (Rz w (I 8)):=
 zkM h.own t b a
theorem zbb{w:G}{i:Ids}{c:Cf}{ep:Int}{m:MS}(h:zy w i c ep m)(n:Int)(hn:n<1\/1000<n\/100000<m.now+n)(a:0<=m.now/\m.now<=100000):
  Calls prog 26 #[(O i.x),I n] w (Rz w (I 5)):=
 zfx h.own n hn a
theorem Kd{w:G}{i:Ids}{c:Cf}{ep:Int}{m:MS}(h:zy w i c ep m)(o:c.ok)(sr tm val:Int)(b:0<=sr/\sr<4)(l:0<=tm/\tm<=m.now)(f:m.now-c.la<=tm)(a:m.now<=100000)(d: -2147483648<=val/\val<=2147483647)(p:0<=zJ m.L/\zJ m.L<=1000)(j:zos m.L)(g:∀k:Nat,k<c.n->zD m.Gl (qm c sr tm k)=x8)(e:c.qu<zJ m.L+(1+2*qO c m.L ⟨sr,tm,val⟩ c.n)):
  Calls prog 27 #[(O i.x),I sr,I tm,int i32 val] w (Rz w (I 4)):=
 zfv h.own o sr tm val b l f a d p j g e
theorem qo{w:G}{i:Ids}{c:Cf}{ep:Int}{m:MS}(h:zy w i c ep m)(b:c.ok)(d:0<=zJ m.L/\zJ m.L<=1000)(a:m.L.length<=100000):
  Calls prog 15 #[(O i.x)] w (Rz w (.agg (mZz c m ep))):=
 Jz h.own b d a
theorem VH{w:G}{i:Ids}{c:Cf}{ep:Int}{m:MS}(h:zy w i c ep m)(e:c.ok)(a:0<=m.now/\m.now<=100000)(t sr wn:Int)(f: -1<=t/\t<c.n)(b:0<=sr/\sr<4)(d:0<=wn/\wn<=100000):
  Calls prog 57 #[(O i.x),I t,I sr,I wn] w (Rz w (.tuple #[.agg #[I (qS c m.now m.Gl m.L t sr wn).1.cnt,I (qS c m.now m.Gl m.L t sr wn).1.sum,int i32 (qS c m.now m.Gl m.L t sr wn).1.mn,int i32 (qS c m.now m.Gl m.L t sr wn).1.mx],I (qS c m.now m.Gl m.L t sr wn).2])):=
 Kf h.own e a t sr wn f b d
theorem Qv{w:G}{i:Ids}{c:Cf}{ep:Int}{m:MS}(h:zy w i c ep m)(k:c.ok)(n:Int)(hn:1<=n/\n<=1000)(g:0<=m.now/\m.now+n<=100000)(v:zmw 1000000 100000 m.TL m.QL)(z:∀p∈m.L,inR c p.1)(j:m.L.length<=2000)(l:∀a QL',zag (m.now+n) m.TL m.QL a QL'->a.length<=50000):
  Calls prog 26 #[(O i.x),I n] w fun e w'=>e=.returned (I 0)/\∃d b a,zy w' i c ep {m with now:=m.now+n,TL:=a,QL:=b}/\Kx i w w'/\zag (m.now+n) m.TL m.QL d b/\(∀p∈b,m.now+n<p.2.til)/\xA c {m with now:=m.now+n,TL:=d,QL:=b} a:=by
 obtain⟨q,txt,ns,f⟩:=h
 obtain⟨F,H⟩:=f.lens k
 refine(zpr f.at_ k n hn g v z j l f.hist.okA (by omega) _ (by omega) f.dok ⟨f.st.1,by have:=f.st.2;omega⟩).mono ?_
 rintro e w' ⟨B,y⟩
 rcases B with⟨o,_⟩|⟨_,D,J,d,b,a,u,A,r,t,s⟩
 ·rw[f.lay]at o;cases o
 ·exact⟨D,d,b,a,f.after k (.ticked m ns n d a b hn.1 g.2 r t s) (by simp) (by simp) (by simp) (by simp) rfl rfl rfl u A,y,r,t,s⟩
theorem zdQ(l:List Int):xg (vy l):=by rw[zjW];unfold xg wrap64;omega
theorem zdL(b:Cl->Cl->Int):∀(l:List Cl) (o:Option Cl) (z:Cl),l.foldl (vS b) o=E z->o=E z\/z∈l
 |[],o,z,h=> .inl h
 |x::l,o,z,h=>by
  rcases zdL b l _ z h with a|a
  ·unfold vS at a
   split at a
   ·injection a with a;exact .inr (by simp[a])
   ·split at a
    ·injection a with a;exact .inr (by simp[a])
    ·injection a with a;exact .inl (by rw[a])
  ·exact .inr (by simp[a])
theorem zdS{zs:List Cl}(h:∀z∈zs,(-2147483648<=z.mn/\z.mn<=2147483647)/\(-2147483648<=z.mx/\z.mx<=2147483647))(a:Cl->Cl->Int):(-2147483648<=((qQ a zs).getD qt).mn/\((qQ a zs).getD qt).mn<=2147483647)/\(-2147483648<=((qQ a zs).getD qt).mx/\((qQ a zs).getD qt).mx<=2147483647):=by
 cases c:qQ a zs with
 |none=>show((-2147483648:Int)<=0/\(0:Int)<=2147483647)/\((-2147483648:Int)<=0/\(0:Int)<=2147483647);omega
 |some z=>
  rcases zdL a zs x8 z c with b|b
  ·cases b
  ·exact h z b
theorem zjs{c:Cf}{L:LV}{sr wn:Int}{k:Nat}{z:Cl}(h:z∈xo c L sr wn k):∃p∈L,p.2.cl=z:=by
 unfold xo qK at h
 obtain⟨j,_,a⟩:=List.mem_filterMap.1 h
 cases b:yY L ⟨c.F k,sr,wn*qa c k+(j:Int)⟩with
 |none=>rw[b]at a;cases a
 |some v=>rw[b]at a;injection a with a;exact⟨_,vF b,a⟩
theorem znZ{c:Cf}{L:LV}{Gl:List (Sg×Unit)}(h:∀x∈vA L Gl,okX x)(s:Sg)(d:s.wf)(sr wn:Int)(k:Nat):okX (s,⟨3,xv (xo c L sr wn k)⟩):=by
 have a:∀z∈xo c L sr wn k,(-2147483648<=z.mn/\z.mn<=2147483647)/\(-2147483648<=z.mx/\z.mx<=2147483647):=fun z e=>by
  obtain⟨p,b,rfl⟩:=zjs e
  have:=h p (List.mem_append_left _ b)
  exact⟨this.mn,this.mx⟩
 exact⟨d,by show xg 3;unfold xg;omega,zdQ _,zdQ _,(zdS a Kg).1,(zdS a Kh).2⟩
theorem zbc(s:Sg)(a:s.wf)(st:Int)(b:0<=st/\st<=9):okX (s,⟨st,qt⟩):=
 ⟨a,by show xg st;unfold xg;omega,by show xg 0;unfold xg;omega,by show xg 0;unfold xg;omega,by show(-2147483648:Int)<=0/\(0:Int)<=2147483647;omega,by show(-2147483648:Int)<=0/\(0:Int)<=2147483647;omega⟩
theorem ziD{c:Cf}{ep:Int}{m:MS}(e:c.ok)(r:MOk c ep m)(h:∀x∈vA m.L m.Gl,okX x){sr tm val:Int}(d:0<=sr/\sr<4)(i:0<=tm/\tm<=100000)(a: -2147483648<=val/\val<=2147483647):(∀x∈yB c m.Gl m.L ⟨sr,tm,val⟩,okX x)/\(yB c m.Gl m.L ⟨sr,tm,val⟩).length<=1000:=by
 have w:=e.n1
 have y:=e.n4
 have b:=fun(t:Int) (k: -1<=t) (q:t<c.n)=>zjj e (x:=⟨sr,tm,val⟩) d i k q
 refine⟨fun x g=>?_,?_⟩
 ·rcases List.mem_cons.1 g with rfl|g
  ·have o:=(b (-1) (by omega) (by omega)).1
   unfold zmK
   cases l:yY m.L (xm c ⟨sr,tm,val⟩)with
   |none=>exact⟨o,by show xg 1;unfold xg;omega,by show xg 1;unfold xg;omega,by show xg val;unfold xg;omega,a,a⟩
   |some v=>
    obtain⟨_,B,D,F,H⟩:=MOk.rawAt r.seg e l
    have p:=h _ (List.mem_append_left _ (vF l))
    have z:=p.mn;have A:=p.mx
    dsimp only at z A
    refine⟨o,by show xg 1;unfold xg;omega,by show xg (1+v.cl.cnt);unfold xg;omega,by show xg (val+v.cl.sum);unfold xg;omega,?_,?_⟩
    ·show-2147483648<=(if v.cl.mn<val then v.cl.mn else val)/\(if v.cl.mn<val then v.cl.mn else val)<=2147483647
     split<;>omega
    ·show-2147483648<=(if val<v.cl.mx then v.cl.mx else val)/\(if val<v.cl.mx then v.cl.mx else val)<=2147483647
     split<;>omega
  ·unfold Qu at g
   obtain⟨s,f,rfl⟩:=List.mem_map.1 g
   have f:=(List.mem_filter.1 f).1
   unfold xX at f
   obtain⟨j,u,rfl⟩:=List.mem_map.1 f
   exact zbc _ (b (j:Int) (by omega) (by have:=List.mem_range.1 u;omega)).1 2 (by omega)
 ·have k:(Qu c m.Gl m.L ⟨sr,tm,val⟩ c.n).length<=c.n:=by
   unfold Qu
   rw[List.length_map]
   refine x9 (List.length_filter_le _ _) ?_
   unfold xX;simp
  show(zmK c m.L ⟨sr,tm,val⟩::Qu c m.Gl m.L ⟨sr,tm,val⟩ c.n).length<=1000
  rw[List.length_cons];omega
theorem ziC(c:Cf)(Gl:List (Sg×Unit))(L:LV)(y:Nm):∀x∈yB c Gl L y,okN x:=fun x a=>by
 unfold yB at a
 rcases List.mem_cons.1 a with rfl|a
 ·intro e
  have b:(1:Int)=2\/(1:Int)=4:=e
  omega
 ·unfold Qu at a
  obtain⟨s,_,rfl⟩:=List.mem_map.1 a
  exact fun _=>rfl
theorem zlp(c:Cf)(Gl:List (Sg×Unit))(L:LV)(y:Nm):((yB c Gl L y).map (·.1)).Nodup:=by
 have e:(yB c Gl L y).map (·.1)=xm c y::(xX c y.sr y.tm c.n).filter (fun s=>(stG Gl L s).st==0):=by
  unfold yB Qu
  rw[List.map_cons,List.map_map]
  congr 1
  exact List.map_id _
 have i:∀s∈xX c y.sr y.tm c.n,0<=s.t:=fun s d=>by
  unfold xX at d
  obtain⟨j,_,rfl⟩:=List.mem_map.1 d
  show(0:Int)<=(j:Int);omega
 rw[e,List.nodup_cons]
 refine⟨fun g=>?_,?_⟩
 ·have k:=i _ (List.mem_filter.1 g).1
  have l:(xm c y).t= -1:=rfl
  omega
 ·have h:(xX c y.sr y.tm c.n).Nodup:=by
   unfold xX
   rw[List.nodup_iff_pairwise_ne,List.pairwise_map]
   refine List.Pairwise.imp ?_ (List.nodup_iff_pairwise_ne.1 List.nodup_range)
   intro a b f d
   have:(a:Int)=(b:Int):=congrArg Sg.t d
   omega
  exact h.filter _
theorem znY{s:Sg}{v:SV}(h:¬(v.st=2\/v.st=4)):∀y∈([(s,v)]:List SX),okN y:=fun y a e=>by
 rw[List.mem_singleton]at a;subst a;exact absurd e h
theorem Jy{w:G}{i:Ids}{c:Cf}{ep:Int}{m:MS}(h:zy w i c ep m)(j:c.ok)(sr tm val:Int)(a:0<=sr/\sr<4)(f:0<=tm/\tm<=m.now)(o:m.now-c.la<=tm)(s:m.now<=100000)(b: -2147483648<=val/\val<=2147483647)(T:0<=zJ m.L/\zJ m.L<=1000)(u:zos m.L)(r:∀k:Nat,k<c.n->zD m.Gl (qm c sr tm k)=x8)(l:zJ m.L+(1+2*qO c m.L ⟨sr,tm,val⟩ c.n)<=c.qu)(D:m.L.length<=1000000)(F:∀p∈m.L,p.1.t= -1->p.2.cl.small):
  Calls prog 27 #[(O i.x),I sr,I tm,int i32 val] w fun e w'=>e=.returned (I 0)/\zy w' i c ep {m with L:=yu c m.L ⟨sr,tm,val⟩}/\Kx i w w':=by
 obtain⟨q,txt,ns,d⟩:=h
 obtain⟨R,S⟩:=d.lens j
 have N:=d.hist.sok j
 obtain⟨g,v⟩:=ziD j N.ok d.hist.okA a ⟨f.1,by omega⟩ b
 have B:=zfK (c:=c) (Gl:=m.Gl) (L:=m.L) (x:=⟨sr,tm,val⟩) u r
 refine(zqd d.at_ j sr tm val a f o s b T u r l F g (XZ _ _ _ d.hist.okA g) v (by omega) (by omega) _ (by omega) d.dok ⟨d.st.1,by have:=d.st.2;omega⟩).mono ?_
 rintro e w' ⟨P,J⟩
 obtain⟨Q,U,H,M⟩:=vr P (d.lay _)
 have A:m.took m.now (yB c m.Gl m.L ⟨sr,tm,val⟩)={m with L:=yu c m.L ⟨sr,tm,val⟩}:=by unfold MS.took;rw[B]
 have K:({m with L:=yu c m.L ⟨sr,tm,val⟩}:MS).L=(m.took m.now (yB c m.Gl m.L ⟨sr,tm,val⟩)).L:=by rw[A]
 have y:({m with L:=yu c m.L ⟨sr,tm,val⟩}:MS).Gl=(m.took m.now (yB c m.Gl m.L ⟨sr,tm,val⟩)).Gl:=by rw[A]
 have z:zQ w' i c ep {m with L:=yu c m.L ⟨sr,tm,val⟩} U:=by rw[<-A];exact M
 exact⟨Q,d.after j (.added m ns ⟨sr,tm,val⟩ a f o b l) g (ziC c m.Gl m.L _) (zlp c m.Gl m.L _) v rfl K y H z,J⟩
theorem zkN{w:G}{i:Ids}{c:Cf}{ep:Int}{m:MS}(h:zy w i c ep m)(t:Tok)(s:t.wf){g:Lse}(j:zD m.QL t=E g)(p:g.job.wf){x:Tsk}(k:zD m.TL g.job=E x)(a:0<=m.now/\m.now<=100000)(f:0<=x.ti/\x.ti<=1000000)(d:m.TL.length<=50000):
  Calls prog 21 #[(O i.x),.agg #[I t.ep,I t.num]] w fun e w'=>e=.returned (I 0)/\zy w' i c ep {m with TL:=xZ m.TL g.job (x.failed m.now),QL:=xa m.QL t}/\Kx i w w':=by
 obtain⟨q,txt,ns,b⟩:=h
 have r:xG false w i c ep m:=by have:=b.at_.own;rw[b.up]at this;exact this
 refine(zhL r t s j p k a f d).mono ?_
 rintro e w' ⟨o,n,l⟩
 exact⟨o,b.quiet (.failed m ns t g x j k) rfl rfl rfl n l⟩
theorem zix{w:G}{i:Ids}{c:Cf}{ep:Int}{m:MS}(h:zy w i c ep m)(o:c.ok)(slot:Int)(n:0<=slot/\slot<c.s)(f:0<=m.now/\m.now<=100000)(A:∀p∈m.TL,Yc c m.now p.2)(l:m.QL.length<=100000)(g:0<=m.num/\m.num<=1000000000000000)(k:xg ep)(F:∀q∈m.QL,q.1.num<=m.num)(H:0<=zJ m.L/\zJ m.L<=1000):
  Calls prog 18 #[(O i.x),I slot] w fun e w'=>(e=.returned (.tuple #[zcI,I 6])/\C w.1.size w w'/\m.QL.any (fun p=>p.2.slot==slot)=true)\/(e=.returned (.tuple #[zcI,I 7])/\C w.1.size w w'/\∀p∈m.TL,yO m.QL m.now p.2=false)\/∃p,p∈m.TL/\yO m.QL m.now p.2=true/\e=.returned (.tuple #[.agg #[I p.2.kd,I p.2.s.t,I p.2.s.sr,I p.2.s.wn,I p.2.se,I p.2.ti,I p.2.rest,I ep,I (m.num+1),I slot,I (m.now+c.le)],I 0])/\zy w' i c ep {m with num:=m.num+1,QL:=xZ m.QL ⟨ep,m.num+1⟩ ⟨p.2.kd,p.2.s,slot,m.now+c.le⟩}/\Kx i w w':=by
 obtain⟨q,txt,ns,j⟩:=h
 have z:=j.hist.sok o
 have B:xG false w i c ep m:=by have:=j.at_.own;rw[j.up]at this;exact this
 refine(zmI B o slot n f A (fun p D=>(z.ok.td p D).key) l g k H).mono ?_
 rintro e w' (⟨a,b,d⟩|⟨a,b,d,r⟩|⟨a,_⟩|⟨p,a,b,d,r,_,u,v,y⟩)
 ·exact .inl ⟨a,b,d⟩
 ·exact .inr (.inl ⟨a,b,d⟩)
 ·cases a
 ·exact .inr (.inr ⟨p,b,d,u,j.quiet (.taken m ns p slot b d) rfl rfl rfl v y⟩)
theorem zfw{w:G}{i:Ids}{c:Cf}{ep:Int}{m:MS}(h:zy w i c ep m)(r:c.ok)(slot:Int)(o:0<=slot/\slot<c.s)(f:0<=m.now/\m.now<=100000)(A:∀p∈m.TL,Yc c m.now p.2)(n:m.QL.length<=100000)(g:0<=m.num/\m.num<=1000000000000000)(l:xg ep)(F:∀q∈m.QL,q.1.num<=m.num)(H:0<=zJ m.L/\zJ m.L<=1000):
  Calls prog 18 #[(O i.x),I slot] w fun e w'=>(e=.returned (.tuple #[zcI,I 6])/\C w.1.size w w'/\m.QL.any (fun p=>p.2.slot==slot)=true)\/(e=.returned (.tuple #[zcI,I 7])/\C w.1.size w w'/\(∀p∈m.TL,yO m.QL m.now p.2=false)/\m.QL.any (fun p=>p.2.slot==slot)=false)\/∃p,m.QL.any (fun p=>p.2.slot==slot)=false/\p∈m.TL/\yO m.QL m.now p.2=true/\YC c m.now (yn (zJ m.L) c.qu) m.QL m.TL p.2/\e=.returned (.tuple #[.agg #[I p.2.kd,I p.2.s.t,I p.2.s.sr,I p.2.s.wn,I p.2.se,I p.2.ti,I p.2.rest,I ep,I (m.num+1),I slot,I (m.now+c.le)],I 0])/\zy w' i c ep {m with num:=m.num+1,QL:=xZ m.QL ⟨ep,m.num+1⟩ ⟨p.2.kd,p.2.s,slot,m.now+c.le⟩}/\Kx i w w':=by
 obtain⟨q,txt,ns,j⟩:=h
 have z:=j.hist.sok r
 have B:xG false w i c ep m:=by have:=j.at_.own;rw[j.up]at this;exact this
 refine(zmI B r slot o f A (fun p D=>(z.ok.td p D).key) n g l H).mono ?_
 rintro e w' (⟨a,b,d⟩|⟨a,b,d,k⟩|⟨a,_⟩|⟨p,a,b,d,k,_,u,v,y⟩)
 ·exact .inl ⟨a,b,d⟩
 ·exact .inr (.inl ⟨a,b,d,k⟩)
 ·cases a
 ·exact .inr (.inr ⟨p,a,b,d,k,u,j.quiet (.taken m ns p slot b d) rfl rfl rfl v y⟩)
theorem YL{w:G}{i:Ids}{c:Cf}{ep:Int}{m:MS}(h:zy w i c ep m)(n:c.ok)(t:Tok)(Y:t.wf){g:Lse}(D:zD m.QL t=E g)(U:g.job.wf)(s:Sg)(se ti rest:Int)(K:zD m.TL g.job=E ⟨true,s,se,ti,rest⟩)(J:inR c s)(k:Nat)(F:s.t=k)(H:m.L.length<=1000)(T:m.Gl.length<=1000000000)
  (o:∀p∈qT m.L s ⟨3,xv (xo c m.L s.sr s.wn k)⟩,inR c p.1) (d:(qT m.L s ⟨3,xv (xo c m.L s.sr s.wn k)⟩).length<=2000) (l:0<=m.now/\m.now<=100000) (z:m.TL.length<=50000):
  Calls prog 20 #[(O i.x),.agg #[I t.ep,I t.num]] w fun e w'=>e=.returned (I 0)/\∃a,zy w' i c ep {m with L:=qT m.L s ⟨3,xv (xo c m.L s.sr s.wn k)⟩,Gl:=m.Gl,TL:=a,QL:=xa m.QL t}/\Kx i w w'/\xA c {m with L:=qT m.L s ⟨3,xv (xo c m.L s.sr s.wn k)⟩,Gl:=m.Gl,TL:=xa m.TL g.job,QL:=xa m.QL t} a:=by
 obtain⟨q,txt,ns,b⟩:=h
 obtain⟨V,X⟩:=b.lens n
 have j:∀y∈([(s,⟨3,xv (xo c m.L s.sr s.wn k)⟩)]:List SX),okX y:=fun y M=>by
  rw[List.mem_singleton]at M;subst M;exact znZ b.hist.okA s J.1 _ _ _
 have u:m.took m.now [(s,⟨3,xv (xo c m.L s.sr s.wn k)⟩)]={m with L:=qT m.L s ⟨3,xv (xo c m.L s.sr s.wn k)⟩,Gl:=m.Gl}:=by unfold MS.took qh;simp only[List.foldl_cons,List.foldl_nil];unfold jm;rfl
 have f:(m.took m.now [(s,⟨3,xv (xo c m.L s.sr s.wn k)⟩)]).L=qT m.L s ⟨3,xv (xo c m.L s.sr s.wn k)⟩:=by rw[u]
 have v:(m.took m.now [(s,⟨3,xv (xo c m.L s.sr s.wn k)⟩)]).Gl=m.Gl:=by rw[u]
 refine(zhx b.at_ n t Y D U _ K [(s,⟨3,xv (xo c m.L s.sr s.wn k)⟩)] (fun W R=>ze (zhG (b.at_.later R).own n s J k F)) l z j (XZ _ _ _ b.hist.okA j) (by simp) (by omega) (by omega) _ (by omega) b.dok ⟨b.st.1,by have:=b.st.2;omega⟩ (by rw[f];exact o) (by rw[f];exact d)).mono ?_
 rintro e w' ⟨Q,P⟩
 rcases Q with⟨A,_⟩|⟨_,S,Z,a,N,B,r⟩
 ·rw[b.lay]at A;cases A
 ·rw[u]at B r
  exact⟨S,a,b.after n (.rolled m ns t g s se ti rest k a D K F r) j (znY (by show¬((3:Int)=2\/(3:Int)=4);omega)) (by simp) (by simp) rfl f.symm v.symm N B,P,r⟩
theorem ZR{w:G}{i:Ids}{c:Cf}{ep:Int}{m:MS}(h:zy w i c ep m)(r:c.ok)(t:Tok)(V:t.wf){g:Lse}(D:zD m.QL t=E g)(R:g.job.wf)(s:Sg)(se ti rest:Int)(H:zD m.TL g.job=E ⟨false,s,se,ti,rest⟩)(U:inR c s)(F:m.L.length<=1000)(Q:m.Gl.length<=1000000000)
  (n:∀p∈xa m.L s,inR c p.1) (d:(xa m.L s).length<=2000) (k:0<=m.now/\m.now<=100000) (z:m.TL.length<=50000):
  Calls prog 20 #[(O i.x),.agg #[I t.ep,I t.num]] w fun e w'=>e=.returned (I 0)/\∃a,zy w' i c ep {m with L:=xa m.L s,Gl:=xZ m.Gl s (),TL:=a,QL:=xa m.QL t}/\Kx i w w'/\xA c {m with L:=xa m.L s,Gl:=xZ m.Gl s (),TL:=xa m.TL g.job,QL:=xa m.QL t} a:=by
 obtain⟨q,txt,ns,b⟩:=h
 obtain⟨S,T⟩:=b.lens r
 have j:∀y∈([(s,⟨4,qt⟩)]:List SX),okX y:=fun y l=>by
  rw[List.mem_singleton]at l;subst l;exact zbc s U.1 4 (by omega)
 have u:m.took m.now [(s,⟨4,qt⟩)]={m with L:=xa m.L s,Gl:=xZ m.Gl s ()}:=by unfold MS.took qh;simp only[List.foldl_cons,List.foldl_nil];unfold jm;rfl
 have f:(m.took m.now [(s,⟨4,qt⟩)]).L=xa m.L s:=by rw[u]
 have v:(m.took m.now [(s,⟨4,qt⟩)]).Gl=xZ m.Gl s ():=by rw[u]
 refine(zhx b.at_ r t V D R _ H [(s,⟨4,qt⟩)] (fun W N=>ze (zhF (b.at_.later N).own s)) k z j (XZ _ _ _ b.hist.okA j) (by simp) (by omega) (by omega) _ (by omega) b.dok ⟨b.st.1,by have:=b.st.2;omega⟩ (by rw[f];exact n) (by rw[f];exact d)).mono ?_
 rintro e w' ⟨M,K⟩
 rcases M with⟨A,_⟩|⟨_,P,X,a,J,B,o⟩
 ·rw[b.lay]at A;cases A
 ·rw[u]at B o
  exact⟨P,a,b.after r (.reclaimed m ns t g s se ti rest a D H o) j (fun y l _=>by rw[List.mem_singleton]at l;subst l;rfl) (by simp) (by simp) rfl f.symm v.symm J B,K,o⟩
theorem VT{w:G}{base size n:Nat}{e:TypeId}{v:x7}{xs:List x7}(h:w.ownsRow base e size v n xs):w.ownsRow 0 e size v n xs:=kq h (Nat.zero_le _)
theorem zll{a:G}{c:Cf}{ep:Int}{m g b l i h j p:Nat}{tv fs:x7}{S:DS}(v:xE a m c tv g b [] [])(t:zC a l c tv ep 0 i h [] [])(n:JAt a j p 0 S fs)(q:Qe a)(r:g≠i)(a2:g≠h)(a3:b≠i)(a4:b≠h)(hn:∀k,(jJ m tv g b k\/jT l i h k\/Zb j p fs k)->k≠Y4):
  zQ (a.alloc (.cells #[I c.s,I c.le,I c.la,I c.wi,I c.ke,I c.qu,tv,I ep,I 0,(O m),(O l),(O j),.bool false] 94)) ⟨a.1.size,m,g,b,l,i,h,tv,j,p⟩ c ep ms0 ⟨0,S,false⟩:=by
 have d:∀o,C a.1.size a (a.alloc o):=fun o=>(zz _ _).alloc (zb _) _
 have hj':=fun o=>(⟨(((d o).block _ (zd n.head)).trans n.head),n.disk.later (d o)⟩:JAt (a.alloc o) j p 0 S fs)
 refine⟨zp _ _,v.kept (zh.of_below (f:=fun _=>False) (d _)) (fun _ _ e=>e),t.later (d _),⟨fs,hj' _⟩,jv q (d _),r,a2,a3,a4,fun k u=>?_⟩
 rcases u with(e|e|e|e|e)|e
 ·have x:=q.lt
  have w:k=a.1.size:=e
  omega
 ·exact hn k (.inl e)
 ·exact hn k (.inr (.inl e))
 ·exact hn k (.inr (.inr (.inl e)))
 ·exact hn k (.inr (.inr (.inr (.inl e))))
 ·exact hn k (.inr (.inr (.inr (.inr ((hj' _).fsB.symm.trans e)))))
structure Kb(i:Ids)(b:Nat)(w w':G):Prop where
 kept:zh (fun k=>zG w i k\/k=b) w w'
 fs:∀k,fsB w' i.d=E k->fsB w i.d=E k\/w.1.size<=k
theorem Kx.kb{i:Ids}{w w':G}(h:Kx i w w')(b:Nat):Kb i b w w':=⟨h.kept.mono (fun _ _ e=> .inl e),h.fs⟩
theorem Kx.behind{i:Ids}{b:Nat}{w d f:G}(h:Kx i w d)(k:Kb i b d f)(g:w.1.size<=b):Kx i w f:=
 ⟨h.kept.trans k.kept (fun j c e=>by
  rcases e with(e|e)|e
  ·exact .inl e
  ·rcases h.fs j e with a|a
   ·exact .inr a
   ·omega
  ·omega),fun j c=>by
  rcases k.fs j c with a|a
  ·exact h.fs j a
  ·exact .inr (x9 h.size a)⟩
def Xz(c:Cf)(T:ByteArray)(m':MS)(A:Ids->G->Prop):Prop:=∀(W:G) (i:Ids) (ep:Int) (q:JM) (b:Nat),zQ W i c ep ms0 q->W.1[b]?=E (.cells #[.string T] 9 (0,0))->¬zG W i b->A i W->Calls prog 71 #[(O i.x),.func (.func 202) #[] #[(O b)]] W fun e w'=>e=.returned (.tuple #[])/\zQ w' i c ep m' q/\Kb i b W w'
theorem zmQ{S:DS}{N:Nat}(h:DOk S N):DOk (ZK S) (N+5):=by
 have b:KR.size=1:=rfl
 have a:=vX h yg KR
 rw[b]at a
 unfold ZK
 split
 ·exact kG a (by omega)
 ·exact kG (Yl a _) (by omega)
def zpN(c:Cf)(p:Nat)(S:DS)(fs:x7)(m':MS)(w:G)(e:Ending)(w':G):Prop:=
 ∃(i:Ids) (b:List SX) (a:List (Jk×Tsk)),i.d=p/\e=.returned (.tuple #[(O i.x),I 0])/\b.Perm (vA m'.L m'.Gl)/\zQ w' i c (zdy S) {m' with TL:=a} ⟨JO (ZK S) (xS m'.now b) 0,zei (ZK S) (xS m'.now b),false⟩/\xA c m' a/\zh (foot p fs) w w'/\(∀k,zG w' i k->foot p fs k\/w.1.size<=k)
theorem zmJ(c:Cf)(hc:c.ok)(hr:xW c.s c.le c.la c.wi c.ke c.qu c.n c.F c.W c.K=true)(a:Option Addr)(cap p:Nat)(S:DS)(fs:x7)(w:G)(hd:zbW w p S fs)(N:Nat)(hN:N<=900000000000)(bl:DOk S N)(bb:Yf S=true)(aA:∀w',zh (foot p fs) w w'->TS w' a c.n c.F c.W c.K)(ao:Qe w)(bp:∀k,foot p fs k->k≠Y4)
  (m':MS) (A:Ids->G->Prop) (aC:∀i W,zh (foot p fs) w W->(∀k,zG W i k->foot p fs k\/w.1.size<=k)->A i W) (aS:Xz c ((yJ (ZK S) yk).extract 0 (zeW (yJ (ZK S) yk))) m' A) (bk:0<=m'.now/\m'.now<=100000) (am:∀x∈vA m'.L m'.Gl,okX x) (bN:m'.L.length<=2000) (bW:m'.Gl.length<=49000000) (hL:∀p∈m'.L,inR c p.1) (bP:m'.TL.length<=50000) (bm:∀ys,ys.Perm (vA m'.L m'.Gl)->Vb (ZK S) (xS m'.now ys)=true):
  Calls prog 29 #[(cZz c a cap),(O p)] w (zpN c p S fs m' w):=by
 have al:=zmQ bl
 have ay:C w.1.size w (w.alloc (.cells (aZz c a cap) 27)):=(zz _ _).alloc (zb _) _
 have bt:=ze (zp w (.cells (aZz c a cap) 27))
 have HR:=ze (XX c.s c.le c.la c.wi c.ke c.qu a c.n cap c.F c.W c.K _ (aA _ (zh.of_below ay)))
 rw[hr,show zhw true=0 from rfl]at HR
 have aD:=ze ay
 have HD:=ze hd
 have bz:=ze aA
 have ah:=ze ao
 have aV:=ze bp
 have ag:=ze aS
 have ae:=ze aC
 have aR:=ze am
 have bu:=ze hL
 have aU:=ze bm
 have af:=ze al
 have bX:=hd.lt
 clear hd aA ay ao bp aS aC am hL bm al
 go_enter func29,ntmps29
 go_wp2_with fail
 refine(ud HR).mono ?_
 rintro e w1 ⟨rfl,az⟩
 have a4:=(ud aD).trans (az.mono (ud aD).size)
 have aO:=ze ((az.block w.1.size (by rw[zN];omega)).trans (ud bt))
 have aq:=ze (zat ((ud HD).later a4) N (by omega) bl)
 rw[bb]at aq
 have aX:=ze a4
 clear az a4 HR
 go_wp2_with fail
 refine(ud aq).mono ?_
 rintro e w2 ⟨rfl,aw,bc,ad,bd⟩
 have bZ:=(ud aX).size
 have bI:¬foot p fs w.1.size:=by
  rintro(h|h)
  ·omega
  ·have:=zpx (ud HD).row _ h;omega
 have ak:=ad.heap (ud aO) bI
 have a6:zh (foot p fs) w w2:=(zh.of_below (ud aX)).trans ad (fun _ _ h=>h)
 obtain⟨z0,z1,z2,z3,z4,z5,z6,-⟩:=zc ak
 have aP:=ze (zlj c hc a cap w2 (ud bz _ a6))
 have c1:=ad.size
 have Z:=ze a6
 have aJ:=ze bc
 have aK:=ze bd
 clear bc ad bd a6 ak aO aq
 go_wp2_with fail
 refine(ud aP).mono ?_
 rintro e d ⟨g,b,rfl,a7,b9⟩
 have aQ:=ze a7
 have ap:=ze b9
 clear a7 b9 z0 z1 z2 z3 z4 z5 z6 aP
 go_wp2_with fail
 have ba:=(ud ap).alloc (ud ap).size (.cells (aZz c (E (U g 0)) b) 89)
 have bi:=zp d (.cells (aZz c (E (U g 0)) b) 89)
 have bq:=zN d (.cells (aZz c (E (U g 0)) b) 89)
 have ar:=ze ((ud aQ).alloc (.cells (aZz c (E (U g 0)) b) 89))
 generalize(d.alloc (.cells (aZz c (E (U g 0)) b) 89))=X at*
 obtain⟨x0,x1,x2,x3,x4,x5,x6,-⟩:=zc bi
 have v:d.1.size<X.1.size:=by omega
 have HS:=fun W=>ze (zlQ c (E (U g 0)) b W)
 have HJ:=fun W=>ze (zku c (E (U g 0)) b (zdy S) W)
 have aM:=fun W=>ze (zfj p W)
 have a8:=ze ba
 have bA:=ze bq
 clear ba bi bq
 go_region_held3 (fun w'=>w'.cell? (U d.1.size 0)=E (I c.s)/\w'.cell? (U d.1.size 1)=E (I c.le)/\w'.cell? (U d.1.size 2)=E (I c.la)/\w'.cell? (U d.1.size 3)=E (I c.wi)/\w'.cell? (U d.1.size 4)=E (I c.ke)/\w'.cell? (U d.1.size 5)=E (I c.qu)/\w'.cell? (U d.1.size 6)=E (.slice (E (U g 0)) c.n b)) (go_keep) (first
  |(go_at_call 68;(with_reducible refine(ud (HS _)).mono ?_);rintro e V ⟨Y,q,r,rfl,D,b2,b3,b4,v1,v2,v3,v4⟩;have m:C X.1.size X V:=⟨v4.os,v4.tape,v4.output,v4.size,v4.block⟩;have aF:Hid (X.1.size<=Y/\X.1.size<=q/\X.1.size<=r):=⟨D,b2,b3⟩;have B4:=ze b4;have V1:=ze v1;have V2:=ze v2;have V3:=ze v3;clear v1 v2 v3 v4 D b2 b3 b4;have y0:Cz V d.1.size 0 (I c.s):=(m.cell (p:=(U d.1.size 0)) v).trans x0;have y1:Cz V d.1.size 1 (I c.le):=(m.cell (p:=(U d.1.size 1)) v).trans x1;have y2:Cz V d.1.size 2 (I c.la):=(m.cell (p:=(U d.1.size 2)) v).trans x2;have y3:Cz V d.1.size 3 (I c.wi):=(m.cell (p:=(U d.1.size 3)) v).trans x3;have y4:Cz V d.1.size 4 (I c.ke):=(m.cell (p:=(U d.1.size 4)) v).trans x4;have y5:Cz V d.1.size 5 (I c.qu):=(m.cell (p:=(U d.1.size 5)) v).trans x5;have y6:Cz V d.1.size 6 (.slice (E (U g 0)) c.n b):=(m.cell (p:=(U d.1.size 6)) v).trans x6;have u:d.1.size<V.1.size:=za v m.size;have aI:=ze m;clear m HS)
  |(go_at_call 69;(with_reducible refine(ud (HJ _)).mono ?_);rintro e J ⟨D,z,y,rfl,d1,d2,d3,u1,u4⟩;have l:C V.1.size V J:=⟨u4.os,u4.tape,u4.output,u4.size,u4.block⟩;have aE:Hid (V.1.size<=D/\V.1.size<=z/\V.1.size<=y):=⟨d1,d2,d3⟩;have U1:=ze u1;clear u1 u4 d1 d2 d3;have z0:Cz J d.1.size 0 (I c.s):=(l.cell (p:=(U d.1.size 0)) u).trans y0;have z1:Cz J d.1.size 1 (I c.le):=(l.cell (p:=(U d.1.size 1)) u).trans y1;have z2:Cz J d.1.size 2 (I c.la):=(l.cell (p:=(U d.1.size 2)) u).trans y2;have z3:Cz J d.1.size 3 (I c.wi):=(l.cell (p:=(U d.1.size 3)) u).trans y3;have z4:Cz J d.1.size 4 (I c.ke):=(l.cell (p:=(U d.1.size 4)) u).trans y4;have z5:Cz J d.1.size 5 (I c.qu):=(l.cell (p:=(U d.1.size 5)) u).trans y5;have z6:Cz J d.1.size 6 (.slice (E (U g 0)) c.n b):=(l.cell (p:=(U d.1.size 6)) u).trans y6;have t:d.1.size<J.1.size:=za u l.size;have aH:=ze l;clear l HJ)
  |(go_at_call 70;(with_reducible refine(ud (aM _)).mono ?_);rintro e T ⟨Q,rfl,d1,t1,t4⟩;have j:C J.1.size J T:=⟨t4.os,t4.tape,t4.output,t4.size,t4.block⟩;have aL:Hid (J.1.size<=Q):=d1;have T1:=ze t1;clear t1 t4 d1;have t0:Cz T d.1.size 0 (I c.s):=(j.cell (p:=(U d.1.size 0)) t).trans z0;have t1:Cz T d.1.size 1 (I c.le):=(j.cell (p:=(U d.1.size 1)) t).trans z1;have t2:Cz T d.1.size 2 (I c.la):=(j.cell (p:=(U d.1.size 2)) t).trans z2;have t3:Cz T d.1.size 3 (I c.wi):=(j.cell (p:=(U d.1.size 3)) t).trans z3;have t4:Cz T d.1.size 4 (I c.ke):=(j.cell (p:=(U d.1.size 4)) t).trans z4;have t5:Cz T d.1.size 5 (I c.qu):=(j.cell (p:=(U d.1.size 5)) t).trans z5;have t6:Cz T d.1.size 6 (.slice (E (U g 0)) c.n b):=(j.cell (p:=(U d.1.size 6)) t).trans z6;have bO:d.1.size<T.1.size:=za t j.size;have aG:=ze j;clear j aM))
 go_wp2_with fail
 have m:=ud aI
 have l:=ud aH
 have j:=ud aG
 have a3:=(ud a8).trans (m.mono (ud a8).size)
 have a2:=a3.trans (l.mono a3.size)
 have B:=a2.trans (j.mono a2.size)
 have a1:=l.trans (j.mono l.size)
 have bG:=m.size
 have bF:=l.size
 have bE:=j.size
 have bC:=(ud a8).size
 obtain⟨s0,s9,s8⟩:=ud aF
 obtain⟨j0,j9,j8⟩:=ud aE
 have bS:=ud aL
 have bn:=zd (ud V1)
 have bh:q<V.1.size:=(ud V2).lt
 have bJ:=(ud V3).lt
 have bH:=(ud U1).foot_lt
 obtain⟨P,bT,bf,bK,bM⟩:=(ud ar).form (by have:=hc.n1;omega)
 have bL:P=g:=by injection bf with h1 _ _;injection h1 with h1;injection h1 with h1;exact h1.symm
 subst bL
 have an:xE T Y c (.slice (E (U P 0)) c.n b) q r [] []:=⟨((a1.block _ bn).trans (ud V1)),zR (zR (VT (ud ar)) m) a1,(ud V2).later a1,(ud V3).later a1,ud B4⟩
 have a5:JAt T Q p 0 (ZK S) aw:=⟨ud T1,(ud aJ).later B⟩
 have bo:Qe T:=jv ((ud ah).kept (ud Z) (fun e=>ud aV _ e rfl)) B
 have bU:=(ud ah).lt
 have o:∀k,(jJ Y (.slice (E (U P 0)) c.n b) q r k\/jT D z y k\/Zb Q p aw k)->foot p fs k\/w.1.size<=k:=fun k hk=>by
  rcases hk with(e|e|e|e)|(e|e|e)|e|e|e
  ·right;have:k=Y:=e;omega
  ·right
   have e':(Value.slice (E (U P 0)) c.n b).ownBlock=E k:=e
   simp[Value.ownBlock]at e';subst e';omega
  ·right;have:k=q:=e;omega
  ·right;have:k=r:=e;omega
  ·right;have:k=D:=e;omega
  ·right;have:k=z:=e;omega
  ·right;have:k=y:=e;omega
  ·right;have:k=Q:=e;omega
  ·exact .inl (.inl e)
  ·rcases ud aK k e with h|h
   ·exact .inl (.inr h)
   ·right;omega
 have ac:=zll an ((ud U1).later j) a5 bo (show q≠z by omega) (show q≠y by omega) (show r≠z by omega) (show r≠y by omega) (fun k hk=>by
  rcases o k hk with h|h
  ·exact ud aV k h
  ·omega)
 have aj:=B.alloc B.size (.cells #[I c.s,I c.le,I c.la,I c.wi,I c.ke,I c.qu,.slice (E (U P 0)) c.n b,I (zdy S),I 0,(O Y),(O D),(O Q),.bool false] 94)
 have ai:C T.1.size T (T.alloc (.cells #[I c.s,I c.le,I c.la,I c.wi,I c.ke,I c.qu,.slice (E (U P 0)) c.n b,I (zdy S),I 0,(O Y),(O D),(O Q),.bool false] 94)):=(zz _ _).alloc (zb _) _
 have bD:=zN T (.cells #[I c.s,I c.le,I c.la,I c.wi,I c.ke,I c.qu,.slice (E (U P 0)) c.n b,I (zdy S),I 0,(O Y),(O D),(O Q),.bool false] 94)
 generalize T.alloc (.cells #[I c.s,I c.le,I c.la,I c.wi,I c.ke,I c.qu,.slice (E (U P 0)) c.n b,I (zdy S),I 0,(O Y),(O D),(O Q),.bool false] 94)=M at*
 obtain⟨bV,bg⟩:=ac.jrn
 have aT:=ze (zcV bg.disk (N+5) (by omega) (ud af))
 have be:∀k,zG M ⟨T.1.size,Y,q,r,D,z,y,.slice (E (U P 0)) c.n b,Q,p⟩ k->foot p fs k\/w.1.size<=k:=fun k hk=>by
  rcases hk with(e|e|e|e|e)|e
  ·right;have:k=T.1.size:=e;omega
  ·exact o k (.inl e)
  ·exact o k (.inr (.inl e))
  ·exact o k (.inr (.inr (.inl e)))
  ·exact o k (.inr (.inr (.inr (.inl e))))
  ·have e2:fsB M p=aw.ownBlock:=by
    have hx:=(a5.disk.later ai).c0
    unfold fsB;rw[hx];rfl
   exact o k (.inr (.inr (.inr (.inr (e2.symm.trans e)))))
 have aB:zh (foot p fs) w M:=(ud Z).trans (zh.of_below (f:=foot p fs) aj) (fun _ _ h=>h)
 have aY:=ze aB
 have a9:=ze be
 have aa:=ze ac
 have bY:=ac.lt
 have c2:w.1.size<=M.1.size:=aB.size
 clear ac aB be bg o an a5 bo ai bD aj B a2 a3 a1 m l j bH bf bK bM bn bh bJ s0 s9 s8 j0 j9 j8 bS bG bF bE bC v u t bO aI aH aG a8 bA ar aQ ap aJ aK Z V1 V2 V3 U1 T1 aF aE aL B4 x0 x1 x2 x3 x4 x5 x6 y0 y1 y2 y3 y4 y5 y6 z0 z1 z2 z3 z4 z5 z6 t0 t1 t2 t3 t4 t5 t6
 refine(ud aT).mono ?_
 rintro e R ⟨rfl,hR⟩
 have H:C M.1.size M R:=by rw[hR];exact(zz _ _).alloc (zb _) _
 have bj:R.1[M.1.size]?=E (.cells #[.string ((yJ (ZK S) yk).extract 0 (zeW (yJ (ZK S) yk)))] 9 (0,0)):=by rw[hR];exact zp _ _
 have a0:=ze (ud ag R ⟨T.1.size,Y,q,r,D,z,y,.slice (E (U P 0)) c.n b,Q,p⟩ (zdy S) ⟨0,ZK S,false⟩ M.1.size ((ud aa).later H) bj (XM (ud aa) H) (ud ae _ R ((ud aY).trans (zh.of_below (f:=foot p fs) H) (fun _ _ h=>h)) (fun k hk=>ud a9 k (zaG (ud aa) H k hk))))
 dsimp only at a0
 have aN:=ze (Kx.below (i:=⟨T.1.size,Y,q,r,D,z,y,.slice (E (U P 0)) c.n b,Q,p⟩) H (ud aa).dlt)
 clear hR H bj aT ag ae
 go_wp2_with fail
 refine(ud a0).mono ?_
 rintro e R2 ⟨rfl,ax,hK2⟩
 have av:=ze (VI ax (by unfold xg;omega) (ud aR) (by omega) (by omega) (N+5) (by omega) (ud af))
 dsimp only at av
 have br:=ze ((ud aN).behind hK2 (zb _))
 have bQ:=ax.lt
 dsimp only at bQ
 clear ax hK2 aN a0
 go_wp2_with fail
 refine(ud av).mono ?_
 rintro e R3 ⟨ys,hp,rfl,ab,aZ⟩
 rw[ud aU ys hp]
 have au:=ze (JF ab.own hc (ud bu) bN bk bP)
 dsimp only at au
 have bx:=ze hp
 have bv:=ze ab
 have bs:=ze ((ud br).trans aZ)
 have bR:=ab.lt
 dsimp only at bR
 clear hp ab aZ av
 go_wp2_with fail
 refine(ud au).mono ?_
 rintro e R4 ⟨rfl,bB,b6,b0,b7⟩
 have b8:=(ud bv).put b6 b0 (fun k e=> .inr (.inr (.inr (.inl e))))
 have aW:=ze b8
 have bw:=ze b7
 clear b8 b6 b0 b7 au
 go_wp2_with fail
 refine bodyPost_ret (results_tmp2 rfl _ _ _) rfl ?_
 have b5:=(ud bs).trans (ud aW).2
 refine⟨⟨T.1.size,Y,q,r,D,z,y,.slice (E (U P 0)) c.n b,Q,p⟩,ys,bB,rfl,rfl,ud bx,(ud aW).1,ud bw,(ud aY).trans b5.kept (fun k hk e=>?_),fun k hk=>?_⟩
 ·rcases ud a9 k e with h|h
  ·exact h
  ·omega
 ·rcases hk with e|e
  ·exact ud a9 k (.inl e)
  ·rcases b5.fs k e with h|h
   ·exact ud a9 k (.inr h)
   ·right;omega
def zgB(t:Tok):List x7:=[I t.ep,I t.num]
structure Shp where
 p:Nat
 i:Ids
 d:Nat
 ct:x7
 nv:x7
 kv:x7
 uv:x7
def ju(s:Shp)(k:Nat):Prop:=k=s.p\/s.ct.ownBlock=E k\/s.nv.ownBlock=E k\/s.kv.ownBlock=E k\/s.uv.ownBlock=E k
structure zV(w:G)(B:Nat)(s:Shp)(c:Cf)(ep:Int)(m:MS)(sn:Int)(ns:List Nm)(ks:List Tok)(us:List Int):Prop where
 head:w.1[s.p]?=E (.cells #[(O s.i.x),(O s.d),I c.s,I c.le,I c.la,I c.wi,I c.ke,I c.qu,s.ct,I sn,s.nv,s.kv,s.uv] 44 (0,0))
 mill:zy w s.i c ep m
 crow:w.ownsRow B 80 3 s.ct c.n (ZN c.n c.F c.W c.K)
 nrow:w.ownsRow B 87 3 s.nv ns.length (ns.flatMap nmV)
 krow:w.ownsRow B 49 2 s.kv ks.length (ks.flatMap zgB)
 urow:w.ownsRow B 3 1 s.uv us.length (us.map (I))
 lo:B<=s.p
 mlo:∀j,zG w s.i j->B<=j
 sep:∀j,ju s j->¬zG w s.i j
 dd:s.d=s.i.d
 tb:Y4<B
theorem qL{f:Nat->Prop}{w w':G}{i:Ids}(g:zh f w w')(c:¬f i.d)(h:i.d<w.1.size):∀j,zG w' i j->zG w i j:=by
 rintro j (e|e)
 ·exact .inl e
 ·right
  have a:=g.block _ h c
  have b:fsB w' i.d=fsB w i.d:=by unfold fsB World.cell?;simp only[a]
  rw[<-b];exact e
section
variable {w:G} {B:Nat} {s:Shp} {c:Cf} {ep:Int} {m:MS} {sn:Int} {ns:List Nm} {ks:List Tok} {us:List Int}
theorem zV.lt(h:zV w B s c ep m sn ns ks us):s.p<w.1.size:=zd h.head
theorem zV.foot_lt(h:zV w B s c ep m sn ns ks us):∀j,ju s j->j<w.1.size:=fun j d=>by
 rcases d with rfl|e|e|e|e
 ·exact h.lt
 ·obtain⟨a,b⟩:=zH h.crow e;exact zd b
 ·obtain⟨a,b⟩:=zH h.nrow e;exact zd b
 ·obtain⟨a,b⟩:=zH h.krow e;exact zd b
 ·obtain⟨a,b⟩:=zH h.urow e;exact zd b
theorem zV.foot_lo(h:zV w B s c ep m sn ns ks us):∀j,ju s j->B<=j:=fun j a=>by
 rcases a with rfl|e|e|e|e
 ·exact h.lo
 ·exact(h.crow.lt j e).1
 ·exact(h.nrow.lt j e).1
 ·exact(h.krow.lt j e).1
 ·exact(h.urow.lt j e).1
theorem zV.kept{f:Nat->Prop}{w':G}(h:zV w B s c ep m sn ns ks us)(a:zh f w w')(b:∀j,ju s j->¬f j)(g:∀j,zG w s.i j->¬f j)(l:¬f Y4):zV w' B s c ep m sn ns ks us:=
 have k:=qL (i:=s.i) a (g _ (.inl (.inr (.inr (.inr (.inr rfl)))))) h.mill.dlt
 ⟨a.heap h.head (b _ (.inl rfl)),h.mill.kept a g l,zi h.crow a (fun j e=>b j (.inr (.inl e))),zi h.nrow a (fun j e=>b j (.inr (.inr (.inl e)))),zi h.krow a (fun j e=>b j (.inr (.inr (.inr (.inl e))))),zi h.urow a (fun j e=>b j (.inr (.inr (.inr (.inr e))))),h.lo,fun j d=>h.mlo j (k j d),fun j d n=>h.sep j d (k j n),h.dd,h.tb⟩
theorem zV.later{w':G}(h:zV w B s c ep m sn ns ks us)(a:C w.1.size w w'):zV w' B s c ep m sn ns ks us:=h.kept (f:=fun _=>False) (zh.of_below a) (fun _ _ e=>e) (fun _ _ e=>e) (fun e=>e)
theorem zV.putMill{w':G}{m':MS}(h:zV w B s c ep m sn ns ks us)(d:zy w' s.i c ep m')(g:Kx s.i w w'):zV w' B s c ep m' sn ns ks us:=
 have b:=g.kept
 have f:∀j,zG w' s.i j->zG w s.i j\/w.1.size<=j:=fun j a=>by
  rcases a with e|e
  ·exact .inl (.inl e)
  ·rcases g.fs j e with e|e
   ·exact .inl (.inr e)
   ·exact .inr e
 ⟨b.heap h.head (h.sep _ (.inl rfl)),d,zi h.crow b (fun j e=>h.sep j (.inr (.inl e))),zi h.nrow b (fun j e=>h.sep j (.inr (.inr (.inl e)))),zi h.krow b (fun j e=>h.sep j (.inr (.inr (.inr (.inl e))))),zi h.urow b (fun j e=>h.sep j (.inr (.inr (.inr (.inr e))))),h.lo,fun j a=>by
  rcases f j a with e|e
  ·exact h.mlo j e
  ·have k:=h.lo;have l:=h.lt;omega,fun j a d=>by
  rcases f j d with e|e
  ·exact h.sep j a e
  ·have:=h.foot_lt j a;omega,h.dd,h.tb⟩
theorem zV.cells(h:zV w B s c ep m sn ns ks us):w.cell? (U s.p 0)=E (O s.i.x)/\w.cell? (U s.p 2)=E (I c.s)/\w.cell? (U s.p 3)=E (I c.le)/\w.cell? (U s.p 4)=E (I c.la)/\w.cell? (U s.p 7)=E (I c.qu)/\w.cell? (U s.p 8)=E s.ct/\w.cell? (U s.p 9)=E (I sn)/\w.cell? (U s.p 10)=E s.nv/\w.cell? (U s.p 11)=E s.kv/\w.cell? (U s.p 12)=E s.uv:=by
 refine⟨?_,?_,?_,?_,?_,?_,?_,?_,?_,?_⟩<;>rw[xH h.head]<;>rfl
theorem zV.dne(h:zV w B s c ep m sn ns ks us):¬s.i.d=s.p:=fun e=>h.sep s.p (.inl rfl) (.inl (.inr (.inr (.inr (.inr e.symm)))))
theorem zV.dnr(h:zV w B s c ep m sn ns ks us){v:x7}(hv:∀j,v.ownBlock=E j->ju s j):¬v.ownBlock=E s.i.d:=fun e=>h.sep _ (hv _ e) (.inl (.inr (.inr (.inr (.inr rfl)))))
theorem zV.tnr(h:zV w B s c ep m sn ns ks us){v:x7}(hv:∀j,v.ownBlock=E j->ju s j):¬v.ownBlock=E Y4:=fun e=>by have a:=h.foot_lo _ (hv _ e);have b:=h.tb;omega
theorem zV.tnp(h:zV w B s c ep m sn ns ks us):¬Y4=s.p:=fun e=>by have a:=h.tb;have b:=h.lo;omega
theorem zV.keptP{w':G}(h:zV w B s c ep m sn ns ks us)(a:zh (fun k=>k=s.p) w w'):zy w' s.i c ep m/\w'.ownsRow B 80 3 s.ct c.n (ZN c.n c.F c.W c.K)/\w'.ownsRow B 87 3 s.nv ns.length (ns.flatMap nmV)/\w'.ownsRow B 49 2 s.kv ks.length (ks.flatMap zgB)/\w'.ownsRow B 3 1 s.uv us.length (us.map (I)):=
 ⟨h.mill.kept a (fun j b e=>h.sep s.p (.inl rfl) (e▸b)) (fun e=>by have f:=h.tb;have g:=h.lo;have d:Y4=s.p:=e;omega),zi h.crow a (zr h.head h.crow (by decide)),zi h.nrow a (zr h.head h.nrow (by decide)),zi h.krow a (zr h.head h.krow (by decide)),zi h.urow a (zr h.head h.urow (by decide))⟩
theorem zV.setNow(h:zV w B s c ep m sn ns ks us)(n:Int):zV (w.setCell (U s.p 9) (I n)) B s c ep m n ns ks us:=by
 have b:=qL (i:=s.i) (zg (i:=9) (v:=I n) (zh.refl (fun k=>k=s.p) w) rfl) h.dne h.mill.dlt
 obtain⟨d,a2,a3,a4,a5⟩:=h.keptP (zg (i:=9) (v:=I n) (zh.refl (fun k=>k=s.p) w) rfl)
 exact⟨xy (i:=9) h.head (I n),d,a2,a3,a4,a5,h.lo,fun j a=>h.mlo j (b j a),fun j a e=>h.sep j a (b j e),h.dd,h.tb⟩
theorem zV.sepNew(h:zV w B s c ep m sn ns ks us){z v:x7}(hv:∀j,v.ownBlock=E j->ju s j)(d:∀j,z.ownBlock=E j->v.ownBlock=E j\/w.1.size<=j):∀j,z.ownBlock=E j->¬zG w s.i j:=fun j b a=>by
 rcases d j b with e|e
 ·exact h.sep j (hv j e) a
 ·have:=h.mill.foot_lt j a;omega
theorem zV.setNums{o:G}{z:x7}{x:Nm}(h:zV w B s c ep m sn ns ks us)(g:zh (fun k=>s.nv.ownBlock=E k) w o)(b:o.ownsRow B 87 3 z (ns++[x]).length ((ns++[x]).flatMap nmV))(t:∀j,z.ownBlock=E j->s.nv.ownBlock=E j\/w.1.size<=j):
  zV (o.setCell (U s.p 10) z) B {s with nv:=z} c ep m sn (ns++[x]) ks us:=by
 have a:=g.heap h.head (fun e=>zr h.head h.nrow (by decide) s.p e rfl)
 have l:zh (fun k=>k=s.p) o (o.setCell (U s.p 10) z):=zg (zh.refl _ _) rfl
 have q:=zi h.crow g (xx h.crow h.nrow (by decide))
 have a2:=zi h.krow g (xx h.krow h.nrow (by decide))
 have a3:=zi h.urow g (xx h.urow h.nrow (by decide))
 have hv:∀j,s.nv.ownBlock=E j->ju s j:=fun j e=> .inr (.inr (.inl e))
 have a4:=h.mill.kept g (fun j f e=>h.sep j (.inr (.inr (.inl e))) f) (h.tnr hv)
 have d:=qL (i:=s.i) g (h.dnr hv) h.mill.dlt
 have n:=qL (i:=s.i) l h.dne a4.dlt
 refine⟨xy (i:=10) a z,a4.kept l (fun j f e=>h.sep s.p (.inl rfl) (e▸(d j f))) h.tnp,zi q l (zr a q (by decide)),zi b l (zr a b (by decide)),zi a2 l (zr a a2 (by decide)),zi a3 l (zr a a3 (by decide)),h.lo,fun j f=>h.mlo j (d j (n j f)),fun j f r=>(?_:¬zG w s.i j) (d j (n j r)),h.dd,h.tb⟩
 rcases f with e|e|e|e|e
 ·exact h.sep j (.inl e)
 ·exact h.sep j (.inr (.inl e))
 ·exact h.sepNew (v:=s.nv) (fun j e=> .inr (.inr (.inl e))) t j e
 ·exact h.sep j (.inr (.inr (.inr (.inl e))))
 ·exact h.sep j (.inr (.inr (.inr (.inr e))))
theorem zV.setToks{o:G}{z:x7}{x:Tok}(h:zV w B s c ep m sn ns ks us)(g:zh (fun k=>s.kv.ownBlock=E k) w o)(b:o.ownsRow B 49 2 z (ks++[x]).length ((ks++[x]).flatMap zgB))(t:∀j,z.ownBlock=E j->s.kv.ownBlock=E j\/w.1.size<=j):
  zV (o.setCell (U s.p 11) z) B {s with kv:=z} c ep m sn ns (ks++[x]) us:=by
 have a:=g.heap h.head (fun e=>zr h.head h.krow (by decide) s.p e rfl)
 have l:zh (fun k=>k=s.p) o (o.setCell (U s.p 11) z):=zg (zh.refl _ _) rfl
 have q:=zi h.crow g (xx h.crow h.krow (by decide))
 have a2:=zi h.nrow g (xx h.nrow h.krow (by decide))
 have a3:=zi h.urow g (xx h.urow h.krow (by decide))
 have hv:∀j,s.kv.ownBlock=E j->ju s j:=fun j e=> .inr (.inr (.inr (.inl e)))
 have a4:=h.mill.kept g (fun j f e=>h.sep j (.inr (.inr (.inr (.inl e)))) f) (h.tnr hv)
 have d:=qL (i:=s.i) g (h.dnr hv) h.mill.dlt
 have n:=qL (i:=s.i) l h.dne a4.dlt
 refine⟨xy (i:=11) a z,a4.kept l (fun j f e=>h.sep s.p (.inl rfl) (e▸(d j f))) h.tnp,zi q l (zr a q (by decide)),zi a2 l (zr a a2 (by decide)),zi b l (zr a b (by decide)),zi a3 l (zr a a3 (by decide)),h.lo,fun j f=>h.mlo j (d j (n j f)),fun j f r=>(?_:¬zG w s.i j) (d j (n j r)),h.dd,h.tb⟩
 rcases f with e|e|e|e|e
 ·exact h.sep j (.inl e)
 ·exact h.sep j (.inr (.inl e))
 ·exact h.sep j (.inr (.inr (.inl e)))
 ·exact h.sepNew (v:=s.kv) (fun j e=> .inr (.inr (.inr (.inl e)))) t j e
 ·exact h.sep j (.inr (.inr (.inr (.inr e))))
theorem zV.setUnts{o:G}{z:x7}{x:Int}(h:zV w B s c ep m sn ns ks us)(g:zh (fun k=>s.uv.ownBlock=E k) w o)(b:o.ownsRow B 3 1 z (us++[x]).length ((us++[x]).map (I)))(t:∀j,z.ownBlock=E j->s.uv.ownBlock=E j\/w.1.size<=j):
  zV (o.setCell (U s.p 12) z) B {s with uv:=z} c ep m sn ns ks (us++[x]):=by
 have a:=g.heap h.head (fun e=>zr h.head h.urow (by decide) s.p e rfl)
 have l:zh (fun k=>k=s.p) o (o.setCell (U s.p 12) z):=zg (zh.refl _ _) rfl
 have q:=zi h.crow g (xx h.crow h.urow (by decide))
 have a2:=zi h.nrow g (xx h.nrow h.urow (by decide))
 have a3:=zi h.krow g (xx h.krow h.urow (by decide))
 have hv:∀j,s.uv.ownBlock=E j->ju s j:=fun j e=> .inr (.inr (.inr (.inr e)))
 have a4:=h.mill.kept g (fun j f e=>h.sep j (.inr (.inr (.inr (.inr e)))) f) (h.tnr hv)
 have d:=qL (i:=s.i) g (h.dnr hv) h.mill.dlt
 have n:=qL (i:=s.i) l h.dne a4.dlt
 refine⟨xy (i:=12) a z,a4.kept l (fun j f e=>h.sep s.p (.inl rfl) (e▸(d j f))) h.tnp,zi q l (zr a q (by decide)),zi a2 l (zr a a2 (by decide)),zi a3 l (zr a a3 (by decide)),zi b l (zr a b (by decide)),h.lo,fun j f=>h.mlo j (d j (n j f)),fun j f r=>(?_:¬zG w s.i j) (d j (n j r)),h.dd,h.tb⟩
 rcases f with e|e|e|e|e
 ·exact h.sep j (.inl e)
 ·exact h.sep j (.inr (.inl e))
 ·exact h.sep j (.inr (.inr (.inl e)))
 ·exact h.sep j (.inr (.inr (.inr (.inl e))))
 ·exact h.sepNew (v:=s.uv) (fun j e=> .inr (.inr (.inr (.inr e)))) t j e
theorem zV.setUnt{g cap:Nat}(h:zV w B s c ep m sn ns ks us)(d:s.uv=.slice (E (U g 0)) us.length cap)(j:Nat)(x:Int):zV (w.setCell (U g j) (I x)) B s c ep m sn ns ks (us.set j x):=by
 have q:=h.urow
 rw[d]at q
 have o:=(q.stored j (I x)).1
 rw[<-d]at o
 have f:s.uv.ownBlock=E g:=by rw[d];rfl
 have a:zh (fun k=>s.uv.ownBlock=E k) w (w.setCell (U g j) (I x)):=zg (zh.refl _ _) f
 have l:=a.heap h.head (fun e=>zr h.head h.urow (by decide) s.p e rfl)
 have hv:∀j,s.uv.ownBlock=E j->ju s j:=fun j e=> .inr (.inr (.inr (.inr e)))
 have n:=qL (i:=s.i) a (h.dnr hv) h.mill.dlt
 exact⟨l,h.mill.kept a (fun j b e=>h.sep j (.inr (.inr (.inr (.inr e)))) b) (h.tnr hv),zi h.crow a (xx h.crow h.urow (by decide)),zi h.nrow a (xx h.nrow h.urow (by decide)),zi h.krow a (xx h.krow h.urow (by decide)),by simpa[List.map_set]using o,h.lo,fun j b=>h.mlo j (n j b),fun j b r=>h.sep j b (n j r),h.dd,h.tb⟩
theorem ZH{v:x7}(a:w.ownsRow B 3 1 v us.length (us.map (I))){j:Nat}(b:j<us.length):∃g cap,v=.slice (E (U g 0)) us.length cap/\g<w.1.size/\w.cell? (U g j)=E (I us[j])/\w.frozen? (U g j)=false:=by
 obtain⟨g,cap,hv,_,c⟩:=a.form (by omega)
 subst hv
 refine⟨g,cap,rfl,c,?_,a.frozenAt j⟩
 rw[a.cellAt j (by omega)]
 simp[b]
theorem yt{v:x7}(c:w.ownsRow B 49 2 v ks.length (ks.flatMap zgB)){j:Nat}(b:j<ks.length):∃g cap,v=.slice (E (U g 0)) ks.length cap/\g<w.1.size/\w.cell? (U g (j*2))=E (I ks[j].ep)/\w.cell? (U g (j*2+1))=E (I ks[j].num):=by
 obtain⟨g,cap,hv,_,e⟩:=c.form (by omega)
 subst hv
 have d:∀(l:List Tok) (j:Nat) (b:j<l.length),(l.flatMap zgB)[j*2]?=E (I l[j].ep)/\(l.flatMap zgB)[j*2+1]?=E (I l[j].num):=fun l=>by
  induction l with
  |nil=>intro j b;simp at b
  |cons a l f=>
   intro j b
   cases j with
   |zero=>simp[zgB]
   |succ j=>
    have:=f j (by simpa using b)
    rw[show(j+1)*2=j*2+1+1 by omega]
    simpa[zgB]using this
 refine⟨g,cap,rfl,e,?_,?_⟩
 ·rw[c.cellAt _ (by omega)];exact(d ks j b).1
 ·rw[c.cellAt _ (by omega)];exact(d ks j b).2
end
def ZJ(w:G)(B p:Nat)(c:Cf)(ep:Int)(m:MS)(ns:List Nm)(j:Nat):Prop:=
 ∃(s:Shp) (k:Nat),s.p=p/\zV w B s c ep m m.now ns (Zn ep k) (yK ep m.QL k)/\m.num=k/\SOk c ep m ns.length/\k<=j/\ns.length<=j
theorem ZJ.later{w w':G}{B p:Nat}{c:Cf}{ep:Int}{m:MS}{ns:List Nm}{j:Nat}(h:ZJ w B p c ep m ns j)(e:C w.1.size w w'):ZJ w' B p c ep m ns j:=by
 obtain⟨s,k,a,b,d⟩:=h
 exact⟨s,k,a,b.later e,d⟩
theorem ZJ.mono{w:G}{B p:Nat}{c:Cf}{ep:Int}{m:MS}{ns:List Nm}{j j':Nat}(h:ZJ w B p c ep m ns j)(i:j<=j'):ZJ w B p c ep m ns j':=by
 obtain⟨s,k,a,b,d,e,f,g⟩:=h
 exact⟨s,k,a,b,d,e,by omega,by omega⟩
theorem SOk.tsk{c:Cf}{ep:Int}{m:MS}{nn:Nat}(h:SOk c ep m nn):∀p∈m.TL,Yc c m.now p.2:=fun p d=>by
 have b:=h.ok.td p d
 have a:=h.ok.mem_inR b.mem
 exact⟨a.2.1,a.2.2.1,a.2.2.2,b.se⟩
theorem SOk.qn{c:Cf}{ep:Int}{m:MS}{nn:Nat}(h:SOk c ep m nn):∀q∈m.QL,q.1.num<=m.num:=fun q a=>(h.ok.leas q a).num.2
theorem SOk.epoch{c:Cf}{ep:Int}{m:MS}{nn:Nat}(h:SOk c ep m nn){t:Tok}(i:t∉Zn ep m.num.toNat):zD m.QL t=x8:=by
 rw[xr]
 intro f
 obtain⟨q,b,rfl⟩:=List.mem_map.1 (show t∈m.QL.map (·.1)from f)
 have a:=(h.ok.leas q b).ep
 have d:=(h.ok.leas q b).num
 refine i (List.mem_map.2 ⟨(q.1.num-1).toNat,by simp;omega,?_⟩)
 obtain⟨⟨e,n⟩,g⟩:=q
 dsimp only at a d ⊢
 rw[a]
 congr 1
 omega
theorem zgX{w:G}{B d:Nat}{s:Shp}{c:Cf}{ep:Int}{m:MS}{sn:Int}{ns:List Nm}{ks:List Tok}{us:List Int}(h:zV w B s c ep m sn ns ks us)(L:c.ok)(f:Nat->Prop)(M:∀k,f k->k<w.1.size)(R:Addr->G->G->Prop)
  (H:∀b g,C w.1.size w b->(∀w',zh f b w'->TS w' (E (U g 0)) c.n c.F c.W c.K)->Calls prog 29 #[(cZz c (E (U g 0)) c.n),(O d)] b fun e N=>∃x,e=.returned (.tuple #[.pointer (E x),I 0])/\R x b N):
  Calls prog 22 #[(O s.p),(O d)] w fun e w'=>∃x b,e=.returned (.pointer (E x))/\C w.1.size w b/\R x b w':=by
 obtain⟨ca,Q,z⟩:=zS h.crow
 have i:=h.crow
 have j:=h.head
 rw[z]at i j
 obtain⟨-,-,Z,c3,c4,c5,c6,c7,c8,-⟩:=zc j
 have pl:=zd j
 obtain⟨S,V,A,_⟩:=i.form L.n1
 cases A
 have l:=fun W (Y:C w.1.size w W)=>ze (Qi c L (E (U S 0)) Q W (TS.of_owns (zR i Y)))
 have r:=l w (zz _ _)
 have t:=l w.drew (zz _ _).drew
 have v:=ze H
 have P:=ze M
 clear h i j l H M
 go_enter func22,ntmps22
 go_wp2_with(first
  |(go_at_call 30;(first|(with_reducible refine(ud r).mono ?_)|(with_reducible refine(ud t).mono ?_));rintro e b ⟨T,rfl,q,a⟩;have o:C w.1.size w b:=⟨a.os,a.tape,a.output,a.size,a.block⟩;have y:=ze (ud v b T o (fun w' D=>TS.of_owns (zi q D (fun k D e=>by have X:=(q.lt k D).1;have h2:=ud P k e;have h3:w.1.size<=k:=X;omega))));have u:=ze o;clear o a q)
  |(go_at_call 29;refine(ud y).mono ?_;rintro e N ⟨x,rfl,J⟩;have HR:=ze J;clear J))
 go_ret
 exact⟨x,b,rfl,ud u,ud HR⟩
def Wt(L:LV)(s:Sg):Prop:=∃v,(s,v)∈L/\v.st=2
def Pub(L:LV)(s:Sg):Prop:=∃v,(s,v)∈L/\v.st=3
structure zmU(c:Cf)(now:Int)(L:LV)(ns:List Nm)(rl:Bool)(s:Sg):Prop where
 roll:rl=true->∀k:Nat,s.t=k->∀x∈ns,zF c s.t x=s->¬Wt L (zF c (c.F k) x)
 recl:rl=false->(s.wn+1)*c.wh s.t+c.keep s.t<=now/\∀x∈ns,zF c s.t x=s->∀k:Nat,k<c.n->c.F k=s.t->¬Wt L (zF c k x)
structure ZI(c:Cf)(m:MS)(ns:List Nm):Prop where
 tm:∀x∈ns,0<=x.tm/\x.tm<=m.now/\0<=x.sr/\x.sr<4/\ -2147483648<=x.val/\x.val<=2147483647
 keys:∀x∈ns,∀t:Int,-1<=t->t<c.n->zF c t x∈zn m.L\/zF c t x∈zj m.Gl
 has:∀s∈zn m.L,∃x∈ns,zF c s.t x=s
 gone:∀x∈ns,∀k:Nat,k<c.n->zF c (c.F k) x∈zj m.Gl->zF c k x∈zj m.Gl\/Pub m.L (zF c k x)
 over:∀s∈zj m.Gl,(s.wn+1)*c.wh s.t+c.keep s.t<=m.now
 cell:∀p∈m.L,p.2.st≠2->IsC (fun x=>zF c p.1.t x=p.1) ns p.2.cl
 td:∀p∈m.TL,zmU c m.now m.L ns p.2.rl p.2.s
section
variable {c:Cf} {ep:Int} {m:MS} {ns:List Nm}
theorem jD{L:LV}(hn:(zn L).Nodup){s:Sg}{u v:SV}(h:(s,u)∈L)(k:(s,v)∈L):u=v:=by
 have b:zD L s=E u:=xp hn h
 have a:zD L s=E v:=xp hn k
 rw[b]at a;injection a
theorem Ze{L:LV}{p:Sg×SV}(h:p∈L):p.1∈zn L:=List.mem_map.2 ⟨p,h,rfl⟩
theorem J1{L:LV}(hn:(zn L).Nodup){s:Sg}(h:Wt L s):s∈zn L/\(stL L s).st=2:=by
 obtain⟨v,hv,b⟩:=h
 have a:=Ze hv
 have:=zU a
 rw[jD hn this hv]
 exact⟨a,b⟩
theorem vx(c:Cf)(k:Nat):c.wh (k:Int)=c.W k:=by
 unfold Cf.wh zP
 rw[if_neg (by omega)];simp
theorem zmL(e:c.ok)(a:c.fits){x:Nm}(i:0<=x.tm){k:Nat}(b:k<c.n):x.tm/c.wh (c.F k)*c.wh (c.F k)/c.W k=x.tm/c.W k:=by
 obtain⟨q,g,f⟩:=a.quot k b
 have d:=a.down k b
 have h:=(e.wh d.1 (by omega)).1
 rw[f,Int.mul_comm (x.tm/c.wh (c.F k)),Int.mul_ediv_mul_of_pos _ _ (by omega),Int.ediv_ediv_of_nonneg (by omega)]
theorem zdO(b:c.ok)(d:c.fits){x:Nm}(e:0<=x.tm){k:Nat}(a:k<c.n):zF c k x∈yI c (zF c (c.F k) x):=by
 unfold yI Vk
 rw[List.map_map]
 refine List.mem_map.2 ⟨k,List.mem_filter.2 ⟨by simpa using a,by simp[zF]⟩,?_⟩
 show(⟨(k:Int),x.sr,x.tm/c.wh (c.F k)*c.wh (c.F k)/c.W k⟩:Sg)=zF c k x
 rw[zmL b d e a]
 unfold zF;rw[vx]
theorem jF(d:c.ok)(f:MOk c ep m){x:Nm}(e:m.now-c.la<=x.tm){t:Int}(a: -1<=t)(b:t<c.n):zF c t x∉zj m.Gl:=fun h=>jH d a b e (f.seg.goc _ h)
theorem zbd(e:c.ok)(g:MOk c ep m){x:Nm}(f:m.now-c.la<=x.tm){t:Int}(a: -1<=t)(b:t<c.n):¬Pub m.L (zF c t x):=fun⟨v,hv,d⟩=>jH e a b f (g.seg.pubc _ hv d)
theorem zbo{now:Int}:∀(a:List Sg) {T:List (Jk×Tsk)} {p:Jk×Tsk},p∈a.foldl (qJ now) T->p∈T\/∃s∈a,p.2.rl=true/\p.2.s=s
 |[],T,p,h=> .inl h
 |y::a,T,p,h=>by
  rcases zbo a h with h|⟨s,b,h⟩
  ·unfold qJ at h
   split at h
   ·exact .inl h
   ·rcases qF h with rfl|⟨h,_⟩
    ·exact .inr ⟨y,by simp,rfl,rfl⟩
    ·exact .inl h
  ·exact .inr ⟨s,by simp[b],h⟩
theorem zbm{now:Int}:∀(a:List Sg) {T:List (Jk×Tsk)} {p:Jk×Tsk},p∈a.foldl (ya now) T->p∈T\/∃s∈a,p.2.rl=false/\p.2.s=s
 |[],T,p,h=> .inl h
 |y::a,T,p,h=>by
  rcases zbm a h with h|⟨s,b,h⟩
  ·unfold ya at h
   split at h
   ·exact .inl h
   ·rcases qF h with rfl|⟨h,_⟩
    ·exact .inr ⟨y,by simp,rfl,rfl⟩
    ·exact .inl h
  ·exact .inr ⟨s,by simp[b],h⟩
theorem ZI.post(r:c.ok)(F:c.fits)(a:yd c m.now m.L m.Gl)(h:ZI c m ns){j:List (Jk×Tsk)}(d:xA c m j):ZI c {m with TL:=j} ns:=by
 obtain⟨J,B,D,Q,M,N,rfl⟩:=d.to
 refine⟨h.tm,h.keys,h.has,h.gone,h.over,h.cell,fun p d=>?_⟩
 rcases zbm D d with d|⟨s,v,l,o⟩
 ·rcases zbo B d with d|⟨s,v,l,o⟩
  ·exact h.td p d
  ·rw[l,o]
   refine⟨fun _ k t x z i w=>?_,fun e=>by cases e⟩
   obtain⟨g,f⟩:=(M s).1 v
   obtain⟨H,A⟩:=J1 a.nl w
   have u:k<c.n:=by
    have:=(a.inr _ (zU g)).2.2.1
    simp only at this
    omega
   have b:s∈zj J:=(Q s).2 ⟨_,H,A,by
    have:=zdO r F (h.tm x z).1 u
    rw[<-t,i]at this
    exact this⟩
   unfold yR at f
   simp only[Bool.and_eq_true,Option.isNone_iff_eq_none]at f
   exact xr.1 f.1.1 b
 ·rw[l,o]
  refine⟨fun e=>(by cases e),fun _=>?_⟩
  obtain⟨g,f⟩:=(N s).1 v
  have b:=a.inr _ (zU g)
  unfold yQ at f
  simp only[Bool.and_eq_true,Bool.not_eq_true',beq_eq_false_iff_ne,ne_eq,decide_eq_true_eq]at f
  obtain⟨⟨U,T⟩,I⟩:=f
  refine⟨T,fun x z i k t q w=>?_⟩
  obtain⟨H,A⟩:=J1 a.nl w
  have P:zF c k x∈yI c s:=by
   have:=zdO r F (h.tm x z).1 t
   rw[q,i]at this
   exact this
  unfold Za at I
  have O:((kB c s).filter (fun x=>(stL m.L x.1).st==2)).length=0:=by
   have:=of_decide_eq_true (show decide ((((kB c s).filter (fun x=>(stL m.L x.1).st==2)).length:Int)=0)=true from by simpa using I)
   omega
  have R:=(jg r b (zF c k x)).2 P
  obtain⟨y,S,K⟩:=List.mem_map.1 R
  have:y∈(kB c s).filter (fun x=>(stL m.L x.1).st==2):=List.mem_filter.2 ⟨S,by rw[K];simpa using A⟩
  rw[List.eq_nil_of_length_eq_zero O]at this;simp at this
theorem Vo{T:List (Jk×Tsk)}{k:Jk}{x:Tsk}{now:Int}(b:zD T k=E x){p:Jk×Tsk}(a:p∈xZ T k (x.failed now)):∃q∈T,q.2.rl=p.2.rl/\q.2.s=p.2.s:=by
 rcases qF a with rfl|⟨a,_⟩
 ·exact⟨_,zB b,rfl,rfl⟩
 ·exact⟨p,a,rfl,rfl⟩
theorem zdG{now:Int}{TL:List (Jk×Tsk)}{QL:List (Tok×Lse)}{b:List (Jk×Tsk)}{Q1:List (Tok×Lse)}(h:zag now TL QL b Q1):∀p∈b,∃q∈TL,q.2.rl=p.2.rl/\q.2.s=p.2.s:=by
 induction h with
 |nil=>exact fun p a=>⟨p,a,rfl,rfl⟩
 |step l m n g k=>
  intro p a
  obtain⟨q,i,c,d⟩:=Vo g a
  obtain⟨r,j,e,f⟩:=k q i
  exact⟨r,j,e.trans c,f.trans d⟩
theorem zmU.mono{now a:Int}{L:LV}{b:Bool}{s:Sg}(h:zmU c now L ns b s)(hn:now<=a):zmU c a L ns b s:=
 ⟨h.roll,fun e=>⟨by have:=(h.recl e).1;omega,(h.recl e).2⟩⟩
theorem zmU.live{now:Int}{L g:LV}{j:Bool}{s:Sg}(h:zmU c now L ns j s)(i:∀y,Wt g y->Wt L y):zmU c now g ns j s:=
 ⟨fun e k b x f d a=>h.roll e k b x f d (i _ a),fun e=>⟨(h.recl e).1,fun x f d k b l a=>(h.recl e).2 x f d k b l (i _ a)⟩⟩
theorem ZI.ticked(h:ZI c m ns){a:Int}(hn:m.now<=a){b:List (Jk×Tsk)}{Q1:List (Tok×Lse)}(j:∀p∈b,∃q∈m.TL,q.2.rl=p.2.rl/\q.2.s=p.2.s)(num:Int):ZI c {m with now:=a,num:=num,TL:=b,QL:=Q1} ns:=
 ⟨fun x k=>by have:=h.tm x k;exact⟨this.1,by show x.tm<=a;omega,this.2.2⟩,h.keys,h.has,h.gone,fun s i=>by have:=h.over s i;show _<=a;omega,h.cell,fun p f=>by
  obtain⟨q,g,d,e⟩:=j p f
  have:=(h.td q g).mono hn
  rw[d,e]at this;exact this⟩
end
def StK(w w':G):Prop:=∀(q:Nat) (cs:Array x7) (a:Nat×Nat),w.1[q]?=E (.cells cs 37 a)->w'.1[q]?=E (.cells cs 37 a)
theorem StK.refl(w:G):StK w w:=fun _ _ _ h=>h
theorem StK.trans{a b d:G}(h:StK a b)(f:StK b d):StK a d:=fun q cs c e=>f q cs c (h q cs c e)
theorem StK.below{w w':G}(h:C w.1.size w w'):StK w w':=fun q cs a e=>(h.block q (zd e)).trans e
theorem StK.kept{f:Nat->Prop}{w w':G}(h:zh f w w')(b:∀q cs a,w.1[q]?=E (.cells cs 37 a)->¬f q):StK w w':=fun q cs a e=>h.heap e (b q cs a e)
theorem StK.drew{w w':G}(h:StK w w'):StK w w'.drew:=h
theorem StK.alloc{w w':G}(h:StK w w')(o:Obj):StK w (w'.alloc o):=h.trans (StK.below ((zz _ _).alloc (zb _) o))
theorem StK.row{w w':G}{B:Nat}{e:TypeId}{size n:Nat}{v:x7}{xs:List x7}(h:w.ownsRow B e size v n xs)(c:e≠37)(d:zh (fun k=>v.ownBlock=E k) w w'):StK w w':=
 StK.kept d (fun q cs g f hv=>by
  obtain⟨b,a⟩:=zH h hv
  rw[f]at a
  injection a with a;injection a with _ a;exact c a.symm)
theorem StK.set{w:G}{g i:Nat}{cs:Array x7}{t:TypeId}{d:Nat×Nat}(j:w.1[g]?=E (.cells cs t d))(l:t≠37)(v:x7):StK w (w.setCell (U g i) v):=
 StK.kept (f:=fun k=>k=g) (zh.setCell (f:=fun k=>k=g) (zh.refl _ _) (p:=(U g i)) (fun _=>rfl) v) (fun q b h a e=>by
  have c:q=g:=e
  rw[c,j]at a
  injection a with a;injection a with _ a;exact l a)
theorem StK.mill{w w':G}{i:Ids}{c:Cf}{ep:Int}{m:MS}(h:zy w i c ep m)(a:Kx i w w'):StK w w':=
 StK.kept a.kept (fun q cs d b=>h.tag b (by decide))
structure Bel(B:Nat)(w w':G):Prop where
 bel:C B w w'
 stk:StK w w'
section
variable {B:Nat} {w a b:G}
theorem Bel.size(h:Bel B w a):w.1.size<=a.1.size:=h.bel.size
theorem Bel.trans(h:Bel B w a)(c:Bel B a b):Bel B w b:=⟨h.bel.trans c.bel,h.stk.trans c.stk⟩
theorem Bel.drew(h:Bel B w a):Bel B w a.drew:=⟨h.bel.drew,h.stk⟩
theorem Bel.alloc(h:Bel B w a)(b:B<=a.1.size)(o:Obj):Bel B w (a.alloc o):=⟨h.bel.alloc b o,h.stk.alloc o⟩
theorem Bel.of(h:C w.1.size w a)(b:B<=w.1.size):Bel B w a:=⟨h.mono b,StK.below h⟩
theorem Bel.mill{i:Ids}{c:Cf}{ep:Int}{m:MS}(h:zy w i c ep m)(d:Kx i w a)(e:B<=w.1.size)(b:∀j,zG w i j->B<=j):Bel B w a:=⟨d.kept.below e b,StK.mill h d⟩
theorem Bel.row{e:TypeId}{size n:Nat}{v:x7}{xs:List x7}(h:w.ownsRow B e size v n xs)(d:e≠37)(b:zh (fun k=>v.ownBlock=E k) w a)(c:B<=w.1.size):Bel B w a:=⟨b.below c (fun q f=>(h.lt q f).1),StK.row h d b⟩
theorem Bel.set{g i:Nat}{cs:Array x7}{t:TypeId}{b:Nat×Nat}(a:w.1[g]?=E (.cells cs t b))(d:t≠37)(c:B<=g)(v:x7):Bel B w (w.setCell (U g i) v):=
 ⟨(zh.setCell (f:=fun k=>k=g) (zh.refl _ _) (p:=(U g i)) (fun _=>rfl) v).below (Nat.le_of_lt (Nat.lt_of_le_of_lt c (zd a))) (fun q e=>by have h:q=g:=e;omega),StK.set a d v⟩
theorem Bel.unt{g k cap i:Nat}{us:List Int}(h:w.ownsRow B 3 1 (.slice (E (U g 0)) k cap) us.length (us.map (I)))(v:x7):Bel B w (w.setCell (U g i) v):=by
 obtain⟨a,b⟩:=zH h (k:=g) rfl
 exact Bel.set b (by decide) (h.lt g rfl).1 v
end
section
variable {c:Cf} {ep:Int} {m:MS} {ns:List Nm}
theorem JI{L:LV}{s:Sg}{v:SV}:(s,v)∈qT L s v:=by
 unfold qT
 by_cases h:s∈zn L
 ·rw[if_pos h]
  obtain⟨p,a,e⟩:=List.mem_map.1 (show s∈L.map (·.1)from h)
  exact List.mem_map.2 ⟨p,a,by rw[if_pos e]⟩
 ·rw[if_neg h];simp
theorem JJ{L:LV}{s:Sg}{v:SV}{p:Sg×SV}(b:p∈L)(a:p.1≠s):p∈qT L s v:=by
 unfold qT
 by_cases h:s∈zn L
 ·rw[if_pos h]
  exact List.mem_map.2 ⟨p,b,by rw[if_neg a]⟩
 ·rw[if_neg h];simp[b]
theorem XC{L:LV}{x:Nm}{p:Sg×SV}(a:p∈yu c L x):p=(xm c x,⟨1,qM x.val ((yY L (xm c x)).map (·.cl))⟩)\/(p∈L/\p.1≠xm c x)\/∃j:Nat,j<c.n/\p=(zF c (j:Int) x,⟨2,qt⟩)/\zF c (j:Int) x∉zn L:=by
 rcases jZ x c.n _ a with a|⟨j,b,e,hn⟩
 ·rcases qr a with a|a
  ·exact .inl a
  ·exact .inr (.inl a)
 ·exact .inr (.inr ⟨j,b,e,fun d=>hn (xJ.2 (.inl d))⟩)
theorem J3{L:LV}{x:Nm}{p:Sg×SV}(b:p∈L)(a:p.1≠xm c x):p∈yu c L x:=ja x c.n _ (JJ b a)
theorem zgU{L:LV}{x:Nm}{s:Sg}(h:s∈zn L):s∈zn (yu c L x):=by
 have a:s∈zn (qN c L x):=by unfold qN;exact xJ.2 (.inl h)
 obtain⟨p,b,e⟩:=List.mem_map.1 (show s∈(qN c L x).map (·.1)from a)
 subst e
 exact Ze (ja x c.n _ b)
theorem zmV{L:LV}{x:Nm}{y:Sg}(h:Wt (yu c L x) y):Wt L y\/∃j:Nat,j<c.n/\y=zF c (j:Int) x/\y∉zn L:=by
 obtain⟨v,hv,d⟩:=h
 rcases XC hv with e|⟨hv,_⟩|⟨j,f,e,hn⟩
 ·injection e with a b;subst b;simp at d
 ·exact .inl ⟨v,hv,d⟩
 ·injection e with a b;exact .inr ⟨j,f,a,by rw[a];exact hn⟩
theorem zcx{L:LV}{x:Nm}(f:yd c m.now m.L m.Gl)(j:c.ok)(hv: -2147483648<=x.val/\x.val<=2147483647){P:Nm->Prop}[DecidablePred P](g:P x)
  (h:∀o,yY m.L (xm c x)=E o->IsC P ns o.cl) (i:yY m.L (xm c x)=x8->∀y∈ns,¬P y):IsC P (ns++[x]) (qM x.val ((yY m.L (xm c x)).map (·.cl))):=by
 cases b:yY m.L (xm c x)with
 |none=>
  have:=(IsC.zero (i b)).add g
  have e:zmW qt x.val=qM x.val x8:=by
   simp only[zmW,qt,qM,Int.zero_add,true_or,if_true]
   rw[show wrap64 x.val=x.val by unfold wrap64;omega]
  rw[e]at this
  exact this
 |some o=>
  obtain⟨a,k,l,n,p⟩:=MOk.rawAt f j b
  have:=(h o b).add g
  have e:zmW o.cl x.val=qM x.val (E o.cl):=by
   have d:¬o.cl.cnt=0:=by omega
   simp only[zmW,qM,d,false_or]
   rw[show wrap64 (o.cl.sum+x.val)=x.val+o.cl.sum by unfold wrap64;omega,Int.add_comm o.cl.cnt]
   congr 1
   ·by_cases a:o.cl.mn<x.val
    ·rw[if_pos a,if_neg (by omega)]
    ·rw[if_neg a];split<;>omega
   ·by_cases a:x.val<o.cl.mx
    ·rw[if_pos a,if_neg (by omega)]
    ·rw[if_neg a];split<;>omega
  rw[e]at this
  exact this
theorem ZI.added(D:c.ok)(W:c.fits)(q:MOk c ep m)(h:ZI c m ns){x:Nm}(Z:0<=x.sr/\x.sr<4)(hx:0<=x.tm/\x.tm<=m.now)(R:m.now-c.la<=x.tm)(hv: -2147483648<=x.val/\x.val<=2147483647):
  ZI c {m with L:=yu c m.L x} (ns++[x]):=by
 have f:∀{y:Nm},y∈ns++[x]->y∈ns\/y=x:=fun a=>by
  rcases List.mem_append.1 a with a|a
  ·exact .inl a
  ·exact .inr (List.mem_singleton.1 a)
 have z:∀t:Int,-1<=t->t<c.n->zF c t x∉zj m.Gl:=fun t r w=>jF D q R r w
 have a0:=D.n1
 have H:∀y,Pub m.L y->Pub (yu c m.L x) y:=fun y ⟨v,I,K⟩=>⟨v,J3 I (fun e=>by
  have h4:=(q.seg.raw _ I (by rw[show y=xm c x from e];rfl)).1
  simp only at h4;omega),K⟩
 --no waiting segment of an elder number is new
 have J:∀y∈ns,∀t:Int,-1<=t->t<c.n->Wt (yu c m.L x) (zF c t y)->Wt m.L (zF c t y):=fun y a t r w B=>by
  rcases zmV B with B|⟨j,Y,e,hn⟩
  ·exact B
  ·exfalso
   rcases h.keys y a t r w with d|d
   ·exact hn d
   ·rw[e]at d;exact z j (by omega) (by omega) d
 have i:∀s:Sg,s∈zn m.L->c.clo m.now s->zF c s.t x≠s:=fun s d P e=>by
  have b:=q.seg.inr _ (zU d)
  exact jH D b.2.1 b.2.2.1 R (by rw[e];exact P)
 refine⟨fun y a=>?_,fun y a t r w=>?_,fun s T=>?_,fun y a k d X=>?_,h.over,fun p g A=>?_,fun p g=>?_⟩
 ·rcases f a with a|rfl
  ·exact h.tm y a
  ·exact⟨hx.1,hx.2,Z.1,Z.2,hv⟩
 ·rcases f a with a|rfl
  ·exact(h.keys y a t r w).imp zgU id
  ·left
   by_cases U:t= -1
   ·subst U
    have r:xm c y∈zn (qN c m.L y):=by unfold qN;exact xJ.2 (.inr rfl)
    obtain⟨p,g,e⟩:=List.mem_map.1 (show xm c y∈(qN c m.L y).map (·.1)from r)
    show xm c y∈_
    rw[<-e]
    exact Ze (ja y c.n _ g)
   ·have:=XD (c:=c) y c.n (qN c m.L y) t.toNat (by omega)
    rw[show((t.toNat:Nat):Int)=t by omega]at this
    exact this
 ·obtain⟨p,g,rfl⟩:=List.mem_map.1 (show s∈(yu c m.L x).map (·.1)from T)
  rcases XC g with rfl|⟨g,_⟩|⟨j,Y,rfl,_⟩
  ·exact⟨x,by simp,rfl⟩
  ·obtain⟨y,a,e⟩:=h.has _ (Ze g)
   exact⟨y,by simp[a],e⟩
  ·exact⟨x,by simp,rfl⟩
 ·have M:=W.down k d
  rcases f a with a|rfl
  ·exact(h.gone y a k d X).imp id (H _)
  ·exact absurd X (z _ M.1 (by omega))
 ·rcases XC g with rfl|⟨g,S⟩|⟨j,Y,rfl,_⟩
  ·refine zcx (L:=m.L) q.seg D hv rfl (fun o u=>?_) (fun u y a e=>?_)
   ·have F:=vF u
    have r:=(q.seg.raw _ F rfl).1
    exact h.cell _ F (by simp only at r ⊢;omega)
   ·have V:zF c (-1) y=xm c x:=e
    rcases h.keys y a (-1) (by omega) (by omega)with d|d
    ·exact qR.1 u (V▸d)
    ·exact z (-1) (by omega) (by omega) (show xm c x∈_ from V▸d)
  ·refine(h.cell p g A).skip (fun e=>?_)
   have b:=q.seg.inr p g
   by_cases U:p.1.t= -1
   ·exact S (by rw[<-e,U];rfl)
   ·rcases q.seg.tier p g (by have:=b.2.1;omega)with w|K
    ·exact A w
    ·exact zbd D q R b.2.1 b.2.2.1 ⟨p.2,by rw[e];exact g,K⟩
  ·exact absurd rfl A
 ·have u:=q.td p g
  have b:=q.seg.inr _ (zU u.mem)
  have O:=h.td p g
  refine⟨fun e k d y a l B=>?_,fun e=>⟨(O.recl e).1,fun y a l k d M B=>?_⟩⟩
  ·have Q:k<c.n:=by have:=b.2.2.1;simp only at this;omega
   have N:=W.down k Q
   rcases f a with a|rfl
   ·exact O.roll e k d y a l (J y a _ N.1 (by omega) B)
   ·exact i _ u.mem u.clo l
  ·rcases f a with a|rfl
   ·exact(O.recl e).2 y a l k d M (J y a _ (by omega) (by omega) B)
   ·exact i _ u.mem u.clo l
theorem zoK{q y v:Int}(e:1<=q):y/q=v↔v*q<=y/\y<v*q+q:=by
 constructor
 ·intro h
  subst h
  have a:=Int.emod_add_mul_ediv y q
  have b:=Int.emod_nonneg y (show q≠0 by omega)
  have c:=Int.emod_lt_of_pos y (show 0<q by omega)
  rw[Int.mul_comm]at a
  omega
 ·rintro⟨a,b⟩
  have c:v<=y/q:=(Int.le_ediv_iff_mul_le (by omega)).2 a
  have d:y/q<v+1:=(Int.ediv_lt_iff_lt_mul (by omega)).2 (by rw[Int.add_mul,Int.one_mul];exact b)
  omega
theorem ZI.rolled(hc:c.ok)(hf:c.fits)(Q:MOk c ep m)(h:ZI c m ns)(K:(ns.length:Int)<9223372036854775808){j:Jk}{s:Sg}{se ti rest:Int}{k:Nat}(hx:zD m.TL j=E ⟨true,s,se,ti,rest⟩)(J:s.t=k)(Q1:List (Tok×Lse)):
  ZI c {m with L:=qT m.L s ⟨3,xv (xo c m.L s.sr s.wn k)⟩,TL:=xa m.TL j,QL:=Q1} ns:=by
 have ho:=Q.td _ (zB hx)
 have hR:=(h.td _ (zB hx)).roll rfl
 have g:s∈zn m.L:=ho.mem
 have S:=Q.seg.inr _ (zU g)
 have W:(stL m.L s).st=2:=ho.roll rfl
 have A:k<c.n:=by have:=S.2.2.1;simp only at this;omega
 have hF:=hf.down k A
 have a1:=(hc.wh hF.1 (show c.F k<c.n by omega)).1
 obtain⟨q,V,hq⟩:=hf.quot k A
 have B:qa c k=q:=by
  unfold qa
  rw[vx,hq,Int.mul_ediv_cancel_left _ (by omega)]
 have o:∀x∈ns,(x.sr=s.sr/\s.wn*q<=x.tm/c.wh (c.F k)/\x.tm/c.wh (c.F k)<s.wn*q+q)↔zF c s.t x=s:=fun x b=>by
  have Z:=(h.tm x b).1
  rw[<-zoK V,Int.ediv_ediv_of_nonneg (by omega),<-hq,J]
  obtain⟨st,ss,sw⟩:=s
  simp only at J ⊢
  unfold zF
  rw[vx]
  subst J
  simp only[Sg.mk.injEq,true_and]
 have l:¬Pub m.L s:=fun⟨v,hv,h3⟩=>by rw[jD Q.seg.nl (zU g) hv]at W;omega
 have u:IsC (fun x=>zF c s.t x=s) ns (xv (xo c m.L s.sr s.wn k)):=by
  unfold xo
  rw[B]
  have r:((q.toNat:Nat):Int)=q:=by omega
  have:=(zbH (L:=m.L) (wd:=c.wh (c.F k)) (f:=c.F k) (sr:=s.sr) (a:=s.wn*q) K q.toNat (fun i hi=>?_)).1
  ·rw[r]at this
   exact this.congr o
  ·have a0:(i:Int)<q:=by omega
   have d:∀x:Nm,(x.sr=s.sr/\x.tm/c.wh (c.F k)=s.wn*q+i)↔zF c (c.F k) x=⟨c.F k,s.sr,s.wn*q+i⟩:=fun x=>by
    unfold zF;simp only[Sg.mk.injEq,true_and]
   have P:∀x∈ns,(x.sr=s.sr/\x.tm/c.wh (c.F k)=s.wn*q+i)->zF c s.t x=s:=fun x b e=>(o x b).1 ⟨e.1,by omega,by omega⟩
   refine⟨fun v hv=>?_,fun hn x b e=>?_⟩
   ·have D:=vF hv
    obtain⟨y,H,e⟩:=h.has _ (Ze D)
    have R:=(d y).2 e
    have U:v.st≠2:=fun I=>hR k J y H (P y H R) ⟨v,by rw[(d y).1 R];exact D,I⟩
    have hC:=h.cell _ D U
    refine⟨hC.congr (fun x _=>(d x).symm),fun Z=>qq.1 Z y H R⟩
   ·have Y:=(d x).1 e
    rcases h.keys x b (c.F k) hF.1 (by omega)with z|z
    ·exact qR.1 hn (Y▸z)
    ·have hs:=P x b e
     have O:zF c (k:Int) x=s:=by rw[<-J];exact hs
     rcases h.gone x b k A z with w|w
     ·rw[O]at w;exact Q.seg.disj _ (zU g) w
     ·rw[O]at w;exact l w
 have X:∀y,Wt (qT m.L s ⟨3,xv (xo c m.L s.sr s.wn k)⟩) y->Wt m.L y:=fun y ⟨v,hv,I⟩=>by
  rcases qr hv with e|⟨hv,_⟩
  ·injection e with Y e2;subst e2;simp at I
  ·exact⟨v,hv,I⟩
 refine⟨h.tm,fun x b t h1 I=>(h.keys x b t h1 I).imp (fun z=>xJ.2 (.inl z)) id,fun y H=>?_,fun x b k' T w=>?_,h.over,fun p M N=>?_,fun p M=>((h.td p (zT.1 M).1).live X)⟩
 ·rcases xJ.1 H with H|rfl
  ·exact h.has y H
  ·exact h.has _ g
 ·rcases h.gone x b k' T w with z|⟨v,hv,h3⟩
  ·exact .inl z
  ·right
   by_cases e:zF c (k':Int) x=s
   ·rw[e];exact⟨_,JI,rfl⟩
   ·exact⟨v,JJ hv e,h3⟩
 ·rcases qr M with rfl|⟨M,_⟩
  ·exact u
  ·exact h.cell p M N
theorem ZI.reclaimed(M:c.ok)(N:c.fits)(D:MOk c ep m)(h:ZI c m ns){j:Jk}{s:Sg}{se ti rest:Int}(I:zD m.TL j=E ⟨false,s,se,ti,rest⟩)(Q1:List (Tok×Lse)):
  ZI c {m with L:=xa m.L s,Gl:=xZ m.Gl s (),TL:=xa m.TL j,QL:=Q1} ns:=by
 have K:=D.td _ (zB I)
 have A:=(h.td _ (zB I)).recl rfl
 have H:s∈zn m.L:=K.mem
 have n:∀y,y∈zn m.L->y≠s->y∈zn (xa m.L s):=fun y f u=>by
  obtain⟨p,d,rfl⟩:=List.mem_map.1 (show y∈m.L.map (·.1)from f)
  exact Ze (zT.2 ⟨d,u⟩)
 have z:∀y,Wt (xa m.L s) y->Wt m.L y:=fun y ⟨v,hv,i⟩=>⟨v,(zT.1 hv).1,i⟩
 refine⟨h.tm,fun x b t J i=>?_,fun y f=>?_,fun x b k B g=>?_,fun y f=>?_,fun p d q=>h.cell p (zT.1 d).1 q,fun p d=>((h.td p (zT.1 d).1).live z)⟩
 ·by_cases e:zF c t x=s
  ·exact .inr (zY.2 (.inr e))
  ·exact(h.keys x b t J i).imp (fun a=>n _ a e) (fun a=>zY.2 (.inl a))
 ·obtain⟨p,d,rfl⟩:=List.mem_map.1 (show y∈(xa m.L s).map (·.1)from f)
  exact h.has _ (Ze (zT.1 d).1)
 ·by_cases e:zF c (k:Int) x=s
  ·exact .inl (zY.2 (.inr e))
  ·have o:Pub m.L (zF c (k:Int) x)->Pub (xa m.L s) (zF c (k:Int) x):=fun⟨v,hv,r⟩=>⟨v,zT.2 ⟨hv,e⟩,r⟩
   rcases zY.1 g with g|g
   ·exact(h.gone x b k B g).imp (fun a=>zY.2 (.inl a)) o
   ·have l:c.F k=s.t:=by rw[<-g];rfl
    have w:=A.2 x b (by rw[<-l];exact g) k B l
    rcases h.keys x b k (by omega) (by omega)with a|a
    ·right
     refine o ⟨_,zU a,?_⟩
     rcases D.seg.tier _ (zU a) (by show(0:Int)<=k;omega)with i|r
     ·exact absurd ⟨_,zU a,i⟩ w
     ·exact r
    ·exact .inl (zY.2 (.inl a))
 ·rcases zY.1 f with f|rfl
  ·exact h.over y f
  ·exact A.1
theorem ZI.act(e:c.ok)(f:c.fits){m':MS}{r:List Nm}(j:SOk c ep m ns.length)(h:ZI c m ns)(o:(ns.length:Int)<9223372036854775808)(D:yL c ep m ns m' r):ZI c m' r:=by
 cases D with
 |same=>exact h
 |added x d z A B J=>exact h.added e f j.ok d z A B
 |ticked n w l v hn q y I a=>
  have d:ZI c {m with now:=m.now+n,TL:=w,QL:=v} ns:=h.ticked (by omega) (zdG y) m.num
  have b:yd c (m.now+n) m.L m.Gl:=(j.tick e f hn q y I a).1.ok.seg
  exact d.post e f b a
 |taken p slot a F=>exact h.ticked (Int.le_refl _) (fun p a=>⟨p,a,rfl,rfl⟩) _
 |failed t g x u i=>exact h.ticked (Int.le_refl _) (fun p a=>Vo i a) m.num
 |rolled t g s se ti rest k l u i H a=>
  have d:=h.rolled e f j.ok o i H (xa m.QL t)
  have b:=(j.ok.rolled u i rfl (xv (xo c m.L s.sr s.wn k))).1.seg
  exact d.post e f b a
 |reclaimed t g s se ti rest l u i a=>
  have d:=h.reclaimed e f j.ok i (xa m.QL t)
  have b:=(j.ok.reclaimed u i rfl).1.seg
  exact d.post e f b a
theorem ZI.start(c:Cf)(now:Int):ZI c ⟨now,[],[],0,[],[]⟩ []:=
 ⟨fun x a=>(by cases a),fun x a=>(by cases a),fun s d=>(by cases d),fun x a=>(by cases a),fun s d=>(by cases d),fun p b=>(by cases b),fun p b=>(by cases b)⟩
theorem zmb{Gl:List (Sg×Unit)}{L:LV}{s:Sg}(h:s∈zj Gl):(stG Gl L s).st=4:=by
 unfold stG
 cases a:zD Gl s with
 |none=>exact absurd h (xr.1 a)
 |some u=>rfl
theorem Yz{Gl:List (Sg×Unit)}{L:LV}{s:Sg}(h:s∉zj Gl):stG Gl L s=stL L s:=by
 unfold stG
 rw[xr.2 h]
end
section
variable {w:G} {B:Nat} {s:Shp} {c:Cf} {ep:Int} {m:MS} {sn:Int} {ns:List Nm} {ks:List Tok} {us:List Int}
theorem zV.more(h:zV w B s c ep m sn ns ks us):w.cell? (U s.p 5)=E (I c.wi)/\w.cell? (U s.p 6)=E (I c.ke):=by
 constructor<;>rw[xH h.head]<;>rfl
theorem zV.tiers(h:zV w B s c ep m sn ns ks us)(k:c.ok):∃b d cap,s.ct=.slice (E (U b d)) c.n cap/\b<w.1.size/\∀i,i<c.n->w.cell? (U b (d+i*3))=E (I (c.F i))/\w.cell? (U b (d+i*3+1))=E (I (c.W i))/\w.cell? (U b (d+i*3+2))=E (I (c.K i)):=by
 obtain⟨a,cap,e⟩:=zS h.crow
 have j:=h.crow
 rw[e]at j
 obtain⟨b,d,rfl,f,g⟩:=TS.of_owns j (by have:=k.n1;omega)
 exact⟨b,d,cap,e,f,g⟩
theorem ZG(h:zV w B s c ep m sn ns ks us)(f:c.ok)(t:Int)(r: -1<=t)(u:t<c.n):
  Calls prog 58 #[(O s.p),I t] w fun e w'=>e=.returned (I (c.wh t))/\w'=w:=by
 have v:=h.lt
 obtain⟨x,y⟩:=h.more
 have l:=f.n4
 by_cases g:t= -1
 ·subst g
  have e:c.wh (-1)=c.wi:=by unfold Cf.wh zP;rw[if_pos rfl]
  rw[e]
  clear h f e
  go_enter func58,ntmps58
  go_wp2_with fail
  go_ret
  exact⟨rfl,rfl⟩
 ·obtain⟨k,rfl⟩:∃k:Nat,t=k:=⟨t.toNat,by omega⟩
  rw[vx]
  obtain⟨b,o,cap,d,j,a⟩:=h.tiers f
  obtain⟨-,-,-,-,-,i,-⟩:=h.cells
  rw[d]at i
  obtain⟨-,q,-⟩:=a k (by omega)
  clear h f d a g
  go_enter func58,ntmps58
  go_wp2_with fail
  go_ret
  exact⟨rfl,rfl⟩
end
def J9(n:Int)(t:Nat)(us:List Int):List Int:=(us.take t).map (zgy n)++us.drop t
theorem zdC(n:Int)(t:Nat)(us:List Int):(J9 n t us).length=us.length:=by unfold J9;simp;omega
theorem zhB(n:Int)(us:List Int):J9 n 0 us=us:=by simp[J9]
theorem zkz(n:Int)(us:List Int):J9 n us.length us=us.map (zgy n):=by simp[J9]
theorem znr(n:Int)(t:Nat)(us:List Int)(a:t<us.length):(J9 n t us)[t]?=us[t]?:=by
 unfold J9
 rw[List.getElem?_append_right (by simp;omega)]
 simp[Nat.min_eq_left (Nat.le_of_lt a)]
theorem zhA(n:Int)(t:Nat)(us:List Int)(e:t<us.length):J9 n (t+1) us=(J9 n t us).set t (zgy n us[t]):=by
 apply List.ext_getElem?
 intro i
 rw[List.getElem?_set,zdC]
 have c:∀b i,b<=us.length->(J9 n b us)[i]?=if i<b then us[i]?.map (zgy n)else us[i]?:=fun b i f=>by
  unfold J9
  by_cases a:i<b
  ·rw[List.getElem?_append_left (by simp;omega),if_pos a,List.getElem?_map,List.getElem?_take_of_lt a]
  ·rw[List.getElem?_append_right (by simp;omega),if_neg a]
   simp[Nat.min_eq_left f]
   congr 1
   omega
 rw[c _ _ (by omega),c _ _ (by omega)]
 by_cases a:t=i
 ·subst a
  rw[if_pos (by omega),if_pos rfl,if_pos e]
  simp[e]
 ·rw[if_neg a]
  by_cases d:i<t
  ·rw[if_pos (by omega),if_pos d]
  ·rw[if_neg (by omega),if_neg d]
theorem zkA{n u:Int}(h:u<=n):zgy n u=0:=by unfold zgy;rw[if_pos h]
theorem zhC{n u:Int}(h:¬u<=n):zgy n u=u:=by unfold zgy;rw[if_neg h]
theorem zlP{l:List Int}{t:Nat}{u:Int}(h:l[t]?=E u):l.set t u=l:=by
 apply List.ext_getElem?
 intro i
 rw[List.getElem?_set]
 split
 ·rename_i e;subst e
  obtain⟨a,b⟩:=List.getElem?_eq_some_iff.1 h
  rw[if_pos a,h]
 ·rfl
theorem Qp(w:G)(g i:Nat)(v:x7):zh (fun k=>k=g) w (w.setCell (U g i) v):=zh.setCell (f:=fun k=>k=g) (zh.refl _ _) (p:=(U g i)) (fun _=>rfl) v
section
variable {w:G} {B p:Nat} {c:Cf} {ep:Int} {m:MS} {ns:List Nm} {j:Nat}
theorem ZJ.size(h:ZJ w B p c ep m ns j):B<=w.1.size:=by
 obtain⟨s,k,rfl,a,_⟩:=h
 have:=a.lo;have:=a.lt;omega
end
theorem zgp{w:G}{B p:Nat}{c:Cf}{ep:Int}{m:MS}{ns:List Nm}{j:Nat}(v:ZJ w B p c ep m ns j)(n:Int)(hn:1<=n/\n<=1000)(r:100000<m.now+n):
  Calls prog 17 #[(O p),I n] w (Rz w (.bool true)):=by
 obtain⟨s,k,rfl,h,D,g,_⟩:=v
 obtain⟨z,_,_,_,_,_,o,_⟩:=h.cells
 have d:=h.lt
 have b:=g.ok.now
 have l:=fun W (q:C w.1.size w W)=>ze (zbb (h.later q).mill n (.inr (.inr r)) b)
 obtain⟨t,u⟩:=hn
 obtain⟨x,y⟩:=b
 clear h g
 go_enter func17,ntmps17
 go_wp2_with(first|(go_at_call 26;refine(ud (l _ (zz _ _))).mono ?_;rintro e F ⟨rfl,a⟩;have A:=(a.cell (p:=(U s.p 9)) d).trans o;have i:=za d a.size;have f:=ze a;clear a))
 go_ret
 exact⟨rfl,ud f⟩
structure zdv(c:Cf)(m:MS)(r:RM):Prop where
 hc:r.c=c
 now:r.now=m.now
 gone:∀s,Qt s r.gone=true↔s∈zj m.Gl
 pub:∀s,Qt s r.pub=true↔Pub m.L s\/(0<=s.t/\s∈zj m.Gl)
 inv:ZI c m r.nu
section
variable {c:Cf} {ep:Int} {m:MS} {r:RM}
theorem zdv.there(h:zdv c m r){s:Sg}(d:s∈xb r.c r.nu): -1<=s.t/\s.t<c.n/\(s∈zn m.L\/s∈zj m.Gl):=by
 rw[h.hc]at d
 obtain⟨a,b,x,f,e⟩:=jj.1 d
 refine⟨a,b,?_⟩
 have:=h.inv.keys x f s.t a b
 rwa[<-e]at this
theorem zdv.seg(h:zdv c m r){s:Sg}(a: -1<=s.t/\s.t<c.n)(b:s∈zn m.L):s∈xb r.c r.nu:=by
 rw[h.hc,jj]
 obtain⟨x,d,e⟩:=h.inv.has s b
 exact⟨a.1,a.2,x,d,e.symm⟩
theorem zdv.wt(h:zdv c m r)(b:MOk c ep m){s:Sg}(l:s∈xb r.c r.nu)(j:0<=s.t):Wt m.L s↔(Qt s r.pub=false/\Qt s r.gone=false):=by
 obtain⟨p,q,k⟩:=h.there l
 constructor
 ·intro d
  obtain⟨f,n⟩:=J1 b.seg.nl d
  have a:s∉zj m.Gl:=by
   obtain⟨v,hv,-⟩:=d
   exact b.seg.disj _ hv
  refine⟨?_,?_⟩
  ·rw[Bool.eq_false_iff,ne_eq,h.pub]
   rintro(⟨v,hv,e⟩|⟨-,e⟩)
   ·obtain⟨u,o,i⟩:=d
    have:=jD b.seg.nl o hv
    rw[this]at i;omega
   ·exact a e
  ·rw[Bool.eq_false_iff,ne_eq,h.gone];exact a
 ·rintro⟨g,a⟩
  rw[Bool.eq_false_iff,ne_eq,h.pub]at g
  rw[Bool.eq_false_iff,ne_eq,h.gone]at a
  have f:=k.resolve_right a
  have hv:=zU f
  rcases b.seg.tier _ hv j with e|e
  ·exact⟨_,hv,e⟩
  ·exact absurd (.inl ⟨_,hv,e⟩) g
end
section
variable {c:Cf} {ep:Int} {m:MS} {r:RM}
theorem JD{s x:Sg}(o:0<=x.t)(p:x.t<c.n):onB c x s=true↔x∈yI c s:=by
 obtain⟨k,d⟩:∃k:Nat,x.t=k:=⟨x.t.toNat,by omega⟩
 have g:k<c.n:=by omega
 have j:c.wh x.t=c.W k:=by rw[d,vx]
 unfold onB yI Vk
 rw[List.map_map,List.mem_map]
 constructor
 ·intro h
  split at h
  ·cases h
  ·rename_i hno
   simp only[not_or,ne_eq,Classical.not_not]at hno
   obtain⟨-,b,a⟩:=hno
   have e:s.wn*c.wh s.t/c.wh x.t=x.wn:=by simpa using h
   refine⟨k,List.mem_filter.2 ⟨by simpa using g,?_⟩,?_⟩
   ·rw[d,Int.toNat_natCast]at b
    simpa using b
   ·obtain⟨t,sr,wn⟩:=x
    simp only at d a e j ⊢
    show(⟨(k:Int),s.sr,s.wn*c.wh s.t/c.W k⟩:Sg)=⟨t,sr,wn⟩
    rw[<-j,e,d,a]
 ·rintro⟨i,l,rfl⟩
  obtain⟨m,f⟩:=List.mem_filter.1 l
  have b:c.F i=s.t:=by simpa using f
  simp only[Function.comp]at*
  rw[if_neg]
  ·rw[vx];simp
  ·rintro(h|h|h)
   ·omega
   ·exact h (by rw[Int.toNat_natCast];exact b)
   ·exact h rfl
theorem XP(g:c.ok){L:LV}{k:Sg}(a:inR c k):Za c L k=true↔∀x∈yI c k,(stL L x).st≠2:=by
 unfold Za
 constructor
 ·intro h x l b
  obtain⟨y,d,rfl⟩:=List.mem_map.1 ((jg g a x).2 l)
  have i:((kB c k).filter (fun x=>(stL L x.1).st==2)).length=0:=by
   have:(((kB c k).filter (fun x=>(stL L x.1).st==2)).length:Int)=0:=by simpa using h
   omega
  have f:y∈(kB c k).filter (fun x=>(stL L x.1).st==2):=List.mem_filter.2 ⟨d,by simpa using b⟩
  rw[List.length_eq_zero_iff.1 i]at f
  cases f
 ·intro h
  have j:((kB c k).filter (fun y=>(stL L y.1).st==2))=[]:=by
   rw[List.filter_eq_nil_iff]
   intro y d e
   exact h y.1 ((jg g a y.1).1 (List.mem_map.2 ⟨y,d,rfl⟩)) (by simpa using e)
  rw[j];rfl
end
attribute [local go_sem] Oper.semAt_some
theorem zfq(T:ByteArray)(g:T.size=0)(b:Nat)(w:G)(d:w.cell? (U b 0)=E (.string T))(c:b<w.1.size)(Kp:G->G->Prop)(encs:ByteArray->Array x7)(m:Nat):
  Yb Fence.wide 6 prog 202 #[(O b)] encs Kp (fun xs=>xs=[]) (fun _=>False) 0 m w:=by
 intro l J k W a q o f h e
 have n:=(a.cell (p:=(U b 0)) c).trans d
 have i:=za c a.size
 have j:decide ((0:Int)<(T.size:Int))=false:=by rw[g];rfl
 clear a d c h
 show CallsIn Fence.wide 6 prog 202 #[.func (.yield l) #[] #[],(O b)] W _
 refine callsIn_of_wp func202 rfl trivial ?_ rfl
 simp only[ntmps202,sZz,Nat.reduceAdd,Nat.reduceSub]
 gi_wp2
 gi_loopw [] (fun wr=>wr=W) (fun _=>0)
 case atStart=>rfl
 case round=>
  subst hrel
  gi_wp2
  go_end0
  exact⟨⟨_,rfl⟩,.inl ⟨[],rfl,e⟩⟩
theorem zbT:∀args w,(callFunc 202 args).run prog w=.ok (.enter 202 args) w:=enters_of func202 (by kernel_rfl) rfl
theorem zoi{w:G}{x b:Nat}(T:ByteArray)(M:T.size=0)(r:w.1[b]?=E (.cells #[.string T] 9 (0,0))):
  Calls prog 71 #[(O x),.func (.func 202) #[] #[(O b)]] w (Rz w (.tuple #[])):=by
 have a:C w.1.size w (w.alloc (.cells #[(O x)] 38)):=(zz _ _).alloc (zb _) _
 have m:=(a.block _ (zd r)).trans r
 have h:=ze a
 have i:=ze m
 clear r a m
 refine(callsIn_wide (n:=7)).1 ?_
 refine callsIn_of_wp_marks func71 rfl trivial ?_ rfl
 simp only[ntmps71,sZz,Nat.reduceAdd,Nat.reduceSub]
 refine wpIn_wide.2 ?_
 go_wp2_with fail
 generalize(w.alloc (.cells #[(O x)] 38))=X at*
 obtain⟨t,-⟩:=zc (ud i)
 refine(wpIn_wide (n:=7)).1 ?_
 refine qU (F:=Fence.wide) (n:=7) rfl (by omega) (gf:=202) (lb:=#[(O b)]) rfl trivial zbT (zfq T M b X t (zd (ud i)) (fun _ _=>True) (fun x:ByteArray=>#[.string x]) 0) (Nat.zero_le _) (fun _ _=>trivial) (fun _ _ _ _ _ _=>trivial) (zz _ _) (fun _=>rfl)
  (fun f W=>C X.1.size X W) (fun _ _ _=>False)
  (fun s A B R g o I=>g.trans ⟨o.os,o.tape,o.output,o.size,fun k P=>o.block k (za P g.size) (fun e=>absurd (I k e.symm).1 (by omega))⟩)
  (fun _ _ _ _ _ g _ _=>g)
  (zz _ _)
  (fun _ _ _=>True) (fun _ _ _ _ _ _ g _ _=>g) ?assign ?body ?done ?stop
 case assign=>
  rintro l f y W K d H
  have J:=ze H
  clear H
  gi_wp2
  exact ud J _ _ (zk (zz _ _)) trivial d trivial
 case body=>
  rintro l f y S W V I d _ u
  exact absurd u (Nat.not_lt_zero _)
 case done=>
  rintro D xs W L _ d j
  have q:=ze j
  have p:=ze d
  clear d j
  gi_wp2
  have d:=ud p
  have v:=(ud h).size
  refine⟨by simp,.inl ⟨_,_,rfl,run_takeDeferred (ud q),?_⟩⟩
  have Q:zh (fun k=>k=D) W (W.putObj D (.deferred x8)):=(zh.refl (fun k=>k=D) W).grown (grownBy_putObj' W D (.deferred x8)) (fun k e _=>by cases e;rfl)
  have z:C w.1.size w W:=(ud h).trans (d.mono v)
  exact⟨_,results_none rfl _ _ _,rfl,z.trans (Q.below z.size (fun k e=>by have U:k=D:=e;omega))⟩
 case stop=>
  rintro D c f W L N
  exact N.elim
theorem zjb(c:Cf)(T:ByteArray)(d:T.size=0)(A:Ids->G->Prop):Xz c T ms0 A:=fun W i ep q b h f hn _=>
 (zoi T d f).mono fun e w' ⟨g,a⟩=>⟨g,h.later a,(Kx.below a h.dlt).kb b⟩
theorem zcQ{c:Cf}{m:MS}{a:List (Jk×Tsk)}(h:xA c m a)(f:m.L=[])(l:m.TL=[]):a=[]:=by
 obtain⟨n,d,e,o,j,k,rfl⟩:=h.to
 have g:d=[]:=List.eq_nil_iff_forall_not_mem.2 (fun s b=>by have:=((j s).1 b).1;rw[f]at this;simp[zn]at this)
 have i:e=[]:=List.eq_nil_iff_forall_not_mem.2 (fun s b=>by have:=((k s).1 b).1;rw[f]at this;simp[zn]at this)
 rw[g,i,l];rfl
theorem zw.zero{T e:TypeId}{B:Nat}{w:G}{p:Nat}{S:DS}{fs:x7}(h:zw T e B w p S fs):zw T e 0 w p S fs:=⟨h.head,Nat.zero_le _,VT h.row⟩
theorem ziZ:(xS 0 []).size<=100:=by rw[Zh];have:=jG (now:=0) (xs:=[]) (by unfold xg;omega) (by simp);simp at this;omega
theorem zbl(c:Cf)(r:c.ok)(P:c.fits)(R:xW c.s c.le c.la c.wi c.ke c.qu c.n c.F c.W c.K=true)(a:Option Addr)(cap B p:Nat)(fs:x7)(w:G)(V:B<=w.1.size)(M:zw 111 113 B w p Yi fs)(o:∀w',zh (foot p fs) w w'->TS w' a c.n c.F c.W c.K)(f:Qe w)(m:∀k,foot p fs k->k≠Y4):
  Calls prog 29 #[(cZz c a cap),(O p)] w fun e w'=>∃i:Ids,i.d=p/\e=.returned (.tuple #[(O i.x),I 0])/\zy w' i c 1 ⟨0,[],[],0,[],[]⟩/\zh (foot p fs) w w'/\∀k,zG w' i k->foot p fs k\/w.1.size<=k:=by
 obtain⟨h,v,y⟩:=znf
 have L:((yJ (ZK Yi) yk).extract 0 (zeW (yJ (ZK Yi) yk))).size=0:=by rw[h,zlH];simp[ByteArray.size]
 have l:DOk Yi 10:=⟨by simp[Yi],by simp[Yi],by simp[Yi],by simp[Yi]⟩
 refine(zmJ c r R a cap p Yi fs w M.zero 10 (by omega) l v o f m ms0 (fun _ _=>True) (fun _ _ _ _=>trivial) (zjb c _ L _) ⟨by decide,by decide⟩ (by intro x g;cases g) (by decide) (by decide) (by intro p j;cases j) (by decide) (fun t j=>by rw[h];exact(zjh _ _).2.1)).mono ?_
 rintro e w' ⟨i,t,u,Q,N,j,q,J,H,D⟩
 have z:t=[]:=j.eq_nil
 have A:=zcQ J rfl rfl
 subst z
 subst A
 obtain⟨T,X,U⟩:=zjh 1 (xS 0 [])
 rw[y]at q
 have b:JO (ZK Yi) (xS 0 []) 0=(xS 0 []).size+1:=by unfold JO;rw[h,U];rfl
 have S:=ziZ
 refine⟨i,Q,N,⟨_,xS 0 []++nl,[],q,rfl,?_,by omega,?_,?_,.start _ _ _ P (SOk.new r) (by intro x g;cases g) (by intro x g;cases g) (fun _=>⟨rfl,rfl,rfl⟩)⟩,H,D⟩
 ·show zei (ZK Yi) (xS 0 [])=_;rw[h,T];rfl
 ·show 0<=JO (ZK Yi) (xS 0 []) 0/\JO (ZK Yi) (xS 0 []) 0<=100000000000;rw[b];omega
 ·show((xS 0 []++nl).size:Int)<=2*JO (ZK Yi) (xS 0 []) 0+4096;rw[b,Qw];omega
theorem zfH(c:Cf)(y:xW c.s c.le c.la c.wi c.ke c.qu c.n c.F c.W c.K=true)(a:Option Addr)(cap p:Nat)(S:DS)(fs:x7)(w:G)(u:zbW w p S fs)(N:Nat)(z:N<=900000000000)(t:DOk S N)(j:Yf S=false)(l:∀w',zh (foot p fs) w w'->TS w' a c.n c.F c.W c.K):
  Calls prog 29 #[(cZz c a cap),(O p)] w fun e w'=>e=.returned (.tuple #[.pointer x8,I 13])/\zh (foot p fs) w w':=by
 have f:C w.1.size w (w.alloc (.cells (aZz c a cap) 27)):=(zz _ _).alloc (zb _) _
 have HR:=ze (XX c.s c.le c.la c.wi c.ke c.qu a c.n cap c.F c.W c.K _ (l _ (zh.of_below f)))
 rw[y,show zhw true=0 from rfl]at HR
 have g:=ze f
 have v:=ze u
 clear u l f
 go_enter func29,ntmps29
 go_wp2_with fail
 refine(ud HR).mono ?_
 rintro e A ⟨rfl,i⟩
 have b:=(ud g).trans (i.mono (ud g).size)
 have d:=ze (zat ((ud v).later b) N (by omega) t)
 rw[j]at d
 have o:=ze b
 clear i b HR
 go_wp2_with fail
 refine(ud d).mono ?_
 rintro e B ⟨rfl,x,q,k,r⟩
 have m:=ze k
 clear q k r d
 go_wp2_with fail
 refine bodyPost_ret (results_tmp2 rfl _ _ _) rfl ?_
 exact⟨rfl,(zh.of_below (ud o)).trans (ud m) (fun _ _ h=>h)⟩
section
variable {c:Cf} {ep:Int} {m:MS} {r:RM}
theorem JW{L:LV}{x:Sg}(h:(stL L x).st=2):x∈zn L:=by
 apply Classical.byContradiction
 intro hn
 have:stL L x=⟨0,qt⟩:=by unfold stL;rw[qR.2 hn];rfl
 rw[this]at h;simp at h
theorem zph{s x:Sg}(h:x∈yI c s):0<=x.t/\x.t<c.n:=by
 unfold yI Vk at h
 rw[List.map_map]at h
 obtain⟨j,a,rfl⟩:=List.mem_map.1 h
 have:=(List.mem_filter.1 a).1
 simp at this
 show 0<=(j:Int)/\(j:Int)<c.n
 omega
theorem zfQ(F:c.ok)(g:MOk c ep m)(h:zdv c m r){s:Sg}(H:s∈xb r.c r.nu):Ks r s (xb r.c r.nu)=true↔s∈zn m.L/\yQ c m.L m.now s=true:=by
 obtain⟨J,K,D⟩:=h.there H
 unfold Ks Xg yQ
 rw[h.hc,h.now]at*
 simp only[Bool.and_eq_true,Bool.not_eq_true',decide_eq_false_iff_not,Bool.and_eq_false_iff,List.all_eq_true,beq_eq_false_iff_ne,decide_eq_true_eq,Bool.not_eq_false',ne_eq]
 have d:s∈zn m.L->((∀x∈xb c r.nu,zhj r s x=false)↔Za c m.L s=true):=fun f=>by
  have w:=g.seg.inr _ (zU f)
  rw[XP F w]
  constructor
  ·intro u x n a
   have b:=zph n
   have o:x∈xb c r.nu:=by have:=h.seg ⟨by omega,b.2⟩ (JW a);rwa[h.hc]at this
   have I:Wt m.L x:=⟨_,zU (JW a),a⟩
   have k:=(h.wt g (by rw[h.hc];exact o) b.1).1 I
   have:=u x o
   unfold zhj at this
   rw[h.hc,(JD b.1 b.2).2 n,k.1,k.2]at this
   cases this
  ·intro u x n
   cases i:zhj r s x with
   |false=>rfl
   |true=>
    unfold zhj at i
    simp only[Bool.and_eq_true,Bool.not_eq_true']at i
    obtain⟨⟨j,A⟩,q⟩:=i
    rw[h.hc]at j
    obtain⟨M,t2,-⟩:=h.there (s:=x) (by rw[h.hc];exact n)
    have l:0<=x.t:=by
     apply Classical.byContradiction
     intro hn
     rw[on_1 (by omega)]at j;cases j
    obtain⟨-,a⟩:=J1 g.seg.nl ((h.wt g (by rw[h.hc];exact n) l).2 ⟨A,q⟩)
    exact absurd a (u x ((JD l t2).1 j))
 constructor
 ·rintro⟨⟨⟨z,a2⟩,a3⟩,a4⟩
  have p:s∉zj m.Gl:=fun e=>by rw[(h.gone s).2 e]at z;cases z
  have f:=D.resolve_right p
  refine⟨f,⟨fun a=>?_,?_⟩,(d f).1 a4⟩
  ·have hv:=zU f
   rcases a2 with a2|a2
   ·have:=(g.seg.raw _ hv (by show s.t= -1;omega)).1
    simp only at this
    omega
   ·rcases(h.pub s).1 a2 with⟨v,y,e⟩|⟨-,e⟩
    ·have:=jD g.seg.nl hv y
     rw[<-this]at e;omega
    ·exact p e
  ·unfold Cf.end at a3;omega
 ·rintro⟨f,⟨j,A⟩,q⟩
  have hv:=zU f
  have p:s∉zj m.Gl:=g.seg.disj _ hv
  refine⟨⟨⟨?_,?_⟩,?_⟩,(d f).2 q⟩
  ·rw[Bool.eq_false_iff,ne_eq,h.gone];exact p
  ·by_cases B:0<=s.t
   ·refine .inr ((h.pub s).2 (.inl ⟨_,hv,?_⟩))
    exact(g.seg.tier _ hv B).resolve_left j
   ·exact .inl B
  ·unfold Cf.end;omega
end
theorem zoX{w:G}{i:Ids}(h:zy w i awC 1 ⟨0,[],[],0,[],[]⟩):
  Calls prog 27 #[(O i.x),I 1,I 0,int i32 7] w fun e w'=>e=.returned (I 0)/\zy w' i awC 1 zpQ/\Kx i w w':=
 (Jy h ZQ 1 0 7 (by omega) (by dsimp only;omega) (by decide) (by decide) (by omega) (by decide) (by intro p c;cases c) (fun k f=>rfl) (by decide) (by decide) (by intro p c;cases c)).mono fun e w' ⟨a,b,d⟩=>⟨a,b,d⟩
theorem znd{w:G}{i:Ids}(h:zy w i awC 1 zpQ):
  Calls prog 26 #[(O i.x),I 6] w fun e w'=>e=.returned (I 0)/\zy w' i awC 1 zpR/\Kx i w w':=by
 refine(Qv h ZQ 6 (by omega) (by decide) ⟨(fun p a=>by cases a),(fun p a=>by cases a),(fun p a=>by cases a),by decide,by decide,by decide⟩ ?_ (by decide) ?_).mono ?_
 ·intro p a
  simp[zpQ,zhe]at a
  rcases a with rfl|rfl
  ·exact Vl
  ·exact zas
 ·intro T Q q
  rw[(zdH q).1];simp
 ·rintro e w' ⟨k,d,b,c,l,m,n,r,o⟩
  obtain⟨f,g⟩:=zdH n
  subst f
  subst g
  have j:=zkr o
  subst j
  exact⟨k,l,m⟩
theorem zhg{w:G}{i:Ids}{m:MS}(h:zy w i awC 1 m){k:Jk}{x:Tsk}(d:m.TL=[(k,x)])(c:m.QL=[])(hn:m.now=6)(v:Yc awC 6 x)(r:x.rest<=6)(j:m.num=0\/m.num=1)(u:0<=zJ m.L/\zJ m.L<=1000):
  Calls prog 18 #[(O i.x),I 0] w fun e w'=>e=.returned (.tuple #[.agg #[I x.kd,I x.s.t,I x.s.sr,I x.s.wn,I x.se,I x.ti,I x.rest,I 1,I (m.num+1),I 0,I 15],I 0])/\zy w' i awC 1 {m with num:=m.num+1,QL:=xZ m.QL ⟨1,m.num+1⟩ ⟨x.kd,x.s,0,15⟩}/\Kx i w w':=by
 refine(zix h ZQ 0 (by decide) (by omega) ?_ (by rw[c];simp) (by omega) (by unfold xg;omega) (by rw[c];intro q o;cases o) u).mono ?_
 ·intro p a
  rw[d]at a
  simp at a
  subst a
  rw[hn];exact v
 ·rintro e w' (⟨_,_,b⟩|⟨_,_,b⟩|⟨p,a,_,f,g,n⟩)
  ·rw[c]at b;simp at b
  ·have:=b (k,x) (by rw[d];simp)
   unfold yO at this
   rw[c,hn]at this
   simp[k7,r]at this
  ·rw[d]at a
   simp at a
   subst a
   have l:m.now+awC.le=15:=by rw[hn];rfl
   rw[l]at f g
   exact⟨f,g,n⟩
theorem zkp{w:G}{i:Ids}(h:zy w i awC 1 zpR):
  Calls prog 18 #[(O i.x),I 0] w fun e w'=>e=.returned (.tuple #[.agg #[I 1,I 0,I 1,I 0,I 6,I 0,I 0,I 1,I 1,I 0,I 15],I 0])/\zy w' i awC 1 zoQ/\Kx i w w':=
 zhg (m:=zpR) h rfl rfl rfl ⟨by decide,by decide,by decide,by decide⟩ (by decide) (.inl rfl) (by decide)
theorem zkq{w:G}{i:Ids}(h:zy w i awC 1 zpS):
  Calls prog 18 #[(O i.x),I 0] w fun e w'=>e=.returned (.tuple #[.agg #[I 2,I (-1),I 1,I 0,I 6,I 0,I 0,I 1,I 2,I 0,I 15],I 0])/\zy w' i awC 1 zpT/\Kx i w w':=
 zhg (m:=zpS) h rfl rfl rfl ⟨by decide,by decide,by decide,by decide⟩ (by decide) (.inr rfl) (by decide)
theorem zna{w:G}{i:Ids}(h:zy w i awC 1 zoQ):
  Calls prog 20 #[(O i.x),.agg #[I 1,I 1]] w fun e w'=>e=.returned (I 0)/\zy w' i awC 1 zpS/\Kx i w w':=by
 refine(YL h ZQ ⟨1,1⟩ (by unfold Tok.wf xg;dsimp only;omega) (g:=⟨1,awT,0,15⟩) rfl (by unfold Jk.wf Lse.job xg;exact⟨by dsimp only;omega,zas.1⟩) awT 6 0 0 rfl zas 0 rfl (by decide) (by decide) ?_ (by decide) (by decide) (by decide)).mono ?_
 ·rw[show qT zoQ.L awT ⟨3,xv (xo awC zoQ.L awT.sr awT.wn 0)⟩=zka from zhh]
  intro p a
  simp[zka]at a
  rcases a with rfl|rfl
  ·exact Vl
  ·exact zas
 ·rw[show qT zoQ.L awT ⟨3,xv (xo awC zoQ.L awT.sr awT.wn 0)⟩=zka from zhh]
  rintro e w' ⟨d,b,f,j,k⟩
  have c:=zks (num:=1) k
  subst c
  exact⟨d,f,j⟩
theorem znb{w:G}{i:Ids}(h:zy w i awC 1 zpT):
  Calls prog 20 #[(O i.x),.agg #[I 1,I 2]] w fun e w'=>e=.returned (I 0)/\(∃a,zy w' i awC 1 ⟨6,zoV,[(awR,())],2,a,[]⟩)/\Kx i w w':=by
 refine(ZR h ZQ ⟨1,2⟩ (by unfold Tok.wf xg;dsimp only;omega) (g:=⟨2,awR,0,15⟩) rfl (by unfold Jk.wf Lse.job xg;exact⟨by dsimp only;omega,Vl.1⟩) awR 6 0 0 rfl Vl (by decide) (by decide) ?_ (by decide) (by decide) (by decide)).mono ?_
 ·intro p b
  rw[show xa zpT.L awR=zoV from rfl]at b
  simp[zoV]at b
  rcases b with rfl
  exact zas
 ·rintro e w' ⟨c,a,d,f,j⟩
  exact⟨c,⟨a,d⟩,f⟩
theorem zpW{w:G}{i:Ids}{a:List (Jk×Tsk)}(h:zy w i awC 1 ⟨6,zoV,[(awR,())],2,a,[]⟩):
  Calls prog 57 #[(O i.x),I 0,I 1,I 0] w (Rz w (.tuple #[.agg #[I 1,I 7,int i32 7,int i32 7],I 0])):=VH h ZQ (by dsimp only;omega) 0 1 0 (by decide) (by decide) (by decide)
theorem zpX{w:G}{i:Ids}{a:List (Jk×Tsk)}(h:zy w i awC 1 ⟨6,zoV,[(awR,())],2,a,[]⟩):
  Calls prog 57 #[(O i.x),I (-1),I 1,I 0] w (Rz w (.tuple #[.agg #[I 0,I 0,int i32 0,int i32 0],I 12])):=VH h ZQ (by dsimp only;omega) (-1) 1 0 (by decide) (by decide) (by decide)
attribute [local go_sem] Oper.semAt_some
theorem jI{w:G}{b k:Nat}{v:x7}(h:k≠b):(w.setCell (U b 0) v).1[k]?=w.1[k]?:=Below.heap_setCell _ _ _ _ (show k≠((U b 0):Addr).block from h)
def SeqB{α:Type}(b:Nat)(F:Fence)(n:Nat)(P:Program)(g:Nat)(lb:Array x7)(encs:α->Array x7)(Kp:G->G->Prop)(S f:List α->Prop)(N m:Nat)(w:G):Prop:=
 ∀(l:Nat) (J c:List α->G->Prop) (W:G),C w.1.size w W->m<=W.1.size->OwnFrom W.1.size J->OwnFrom W.1.size c->
  (∀s V v,J s V->J s (V.setCell (U b 0) v))->(∀s V v,c s V->c s (V.setCell (U b 0) v))->
  (∀a x V,J a V->a.length<N->YieldAt F (n-1) P l (encs x) V fun e d=>(e=.returned (.bool true)/\J (a++[x]) d/\Kp V d)\/(e=.returned (.bool false)/\c (a++[x]) d/\Kp V d))->
  J [] W->CallsIn F n P g (#[.func (.yield l) #[] #[]]++lb) W fun e V=>(∃v,e=.returned v)/\((∃xs,S xs/\J xs V)\/∃a,f a/\c a V)
section
variable {α:Type} {F:Fence} {n:Nat} {P:Program} {g:Operand} {ps:Array Tmp} {assign body:Code} {Q:Exit->Act->G->Prop} {a:Act} {w:G}
theorem zog(ad:F.round=x8)(h1:1<=n){gf:Nat}{lb:Array x7}(hg:a.eval g=.func (.func gf) #[] lb)(a6:F.fn gf)(eg:∀args w,(callFunc gf args).run P w=.ok (.enter gf args) w)
  {encs:α->Array x7} {Kp:G->G->Prop} {S Sp:List α->Prop} {N m:Nat} {w0:G} {b:Nat} (ae:b<w.1.size) (a4:SeqB b F (n-1) P gf lb encs Kp S Sp N m w0) (hm:m<=w.1.size+2)
  (aa:∀{X Y Z:G},Kp X Y->Kp Y Z->Kp X Z) (a9:∀(W:G) (o o':Obj),W.1[w.1.size+1]?=E o->o.isCells=false->o.isWalk=false->Kp W (W.putObj (w.1.size+1) o')) (a1:C w0.1.size w0 w) (ac:∀x,(encs x).size=ps.size)
  (i:List α->G->Prop) (A:Code->List α->G->Prop) (T:OwnFrom w.1.size i) (B:∀c,OwnFrom w.1.size (A c)) (a8:∀s V v,i s V->i s (V.setCell (U b 0) v)) (a0:∀c s V v,A c s V->A c s (V.setCell (U b 0) v)) (h0:i [] w) (Ax:α->Act->G->Prop) (a5:∀x y,OwnFrom w.1.size (fun(_:Unit) W=>Ax x y W))
  (j:∀(l:Nat) (d:List α) (x:α) (W:G) (K:Act->G->Prop),i d W->(∀y R,KeepsFrom w.1.size W R->Kp W R->i d R->Ax x y R->K y R)->
   assign.wpIn (F.inRound l) (n-1-1) P (Exit.then K (fun _ _ _=>False)) {tmps:=(ps.zip (encs x)).foldl (fun t (p,v)=>t.setIfInBounds p v) a.tmps,defers:=[]} W)
  (H:∀(l:Nat) (d:List α) (x:α) (y:Act) (W:G),w.1.size<=l->(∃r,W.1[l]?=E (.loop r))->i d W->Ax x y W->d.length<N->body.wpIn (F.inRound l) (n-1-1) P (Ys w.1.size Kp i A (d++[x]) W) y W)
  (I:∀(D:Nat) (xs:List α) (W:G),w.1.size<=D->S xs->i xs W->W.1[D]?=E (.deferred (E []))->Q .normal {a with defers:={target:=.collected D,args:=#[]}::a.defers} W)
  (J:∀(D:Nat) (c:Code) (d:List α) (W:G),w.1.size<=D->Sp d->A c d W->W.1[D]?=E (.deferred (E []))->c.wpIn F n P Q {a with defers:={target:=.collected D,args:=#[]}::a.defers} W):
  (Code.rangeFunc g ps assign body).wpIn F n P Q a w:=by
 refine wpIn_rangeFunc fun fn ab=>?_
 rw[ad]
 have hz:((w.alloc (.deferred (E []))).alloc (.loop {state:=.ready,pending:=x8,fn,tmps:=a.tmps,params:=ps,assign,body,defers:=w.1.size})).1.size=w.1.size+2:=by simp
 refine⟨w.1.size+1,[{target:=.collected w.1.size,args:=#[]}],((w.alloc (.deferred (E []))).alloc (.loop {state:=.ready,pending:=x8,fn,tmps:=a.tmps,params:=ps,assign,body,defers:=w.1.size})),{target:=.fn (.func gf) lb,args:=#[.func (.yield (w.1.size+1)) #[] #[]]},((w.alloc (.deferred (E []))).alloc (.loop {state:=.ready,pending:=x8,fn,tmps:=a.tmps,params:=ps,assign,body,defers:=w.1.size})),gf,#[.func (.yield (w.1.size+1)) #[] #[]]++lb,((w.alloc (.deferred (E []))).alloc (.loop {state:=.ready,pending:=x8,fn,tmps:=a.tmps,params:=ps,assign,body,defers:=w.1.size})),run_enterLoop_outer fn a.tmps ps assign body,by simp only[resolve,hg];simp[go_sem],fun f' a2=>by simp[Target.leads]at a2;subst a2;exact a6,by simp[invoke,go_sem,eg],fun _=>h1,?_⟩
 have hD:((w.alloc (.deferred (E []))).alloc (.loop {state:=.ready,pending:=x8,fn,tmps:=a.tmps,params:=ps,assign,body,defers:=w.1.size})).1[w.1.size]?=E (.deferred (E [])):=(Below.heap_alloc _ _ _ (by simp)).trans (World.alloc_heap_new w _)
 have hL:((w.alloc (.deferred (E []))).alloc (.loop {state:=.ready,pending:=x8,fn,tmps:=a.tmps,params:=ps,assign,body,defers:=w.1.size})).1[w.1.size+1]?=E (.loop {state:=.ready,pending:=x8,fn,tmps:=a.tmps,params:=ps,assign,body,defers:=w.1.size}):=by
  have:=World.alloc_heap_new (w.alloc (.deferred (E []))) (.loop {state:=.ready,pending:=x8,fn,tmps:=a.tmps,params:=ps,assign,body,defers:=w.1.size});rwa[World.size_alloc]at this
 have hB:C w0.1.size w0 ((w.alloc (.deferred (E []))).alloc (.loop {state:=.ready,pending:=x8,fn,tmps:=a.tmps,params:=ps,assign,body,defers:=w.1.size})):=a1.trans ((((zz _ w).alloc (zb _) _).alloc (by simp) _).mono a1.size)
 have a7:=T.alloc (.loop {state:=.ready,pending:=x8,fn,tmps:=a.tmps,params:=ps,assign,body,defers:=w.1.size}) (T.alloc (.deferred (E [])) h0)
 generalize((w.alloc (.deferred (E []))).alloc (.loop {state:=.ready,pending:=x8,fn,tmps:=a.tmps,params:=ps,assign,body,defers:=w.1.size}))=W1 at*
 refine(a4 (w.1.size+1)
  (fun d W=>i d W/\W.1[w.1.size+1]?=E (.loop {state:=.ready,pending:=x8,fn,tmps:=a.tmps,params:=ps,assign,body,defers:=w.1.size})/\W.1[w.1.size]?=E (.deferred (E [])))
  (fun d W=>∃c,A c d W/\W.1[w.1.size+1]?=E (.loop {state:=.done,pending:=E c,fn,tmps:=a.tmps,params:=ps,assign,body,defers:=w.1.size})/\W.1[w.1.size]?=E (.deferred (E [])))
  W1 hB (by omega) (fun s X Y O u f q=>⟨T s X Y O u.1 f (fun r e=>⟨by have:=(q r e).1;omega,(q r e).2⟩),km f (fun r e=>(q r e).1) (by omega) u.2.1,km f (fun r e=>(q r e).1) (by omega) u.2.2⟩)
  (fun s X Y O u f q=>by
   obtain⟨c,L,z,M⟩:=u
   exact⟨c,B c s X Y O L f (fun r e=>⟨by have:=(q r e).1;omega,(q r e).2⟩),km f (fun r e=>(q r e).1) (by omega) z,km f (fun r e=>(q r e).1) (by omega) M⟩)
  (fun s V v u=>⟨a8 s V v u.1,(jI (by omega)).trans u.2.1,(jI (by omega)).trans u.2.2⟩)
  (fun s V v u=>by
   obtain⟨c,L,z,M⟩:=u
   exact⟨c,a0 c s V v L,(jI (by omega)).trans z,(jI (by omega)).trans M⟩)
  (fun d x V hv a3=>?_) ⟨a7,hL,hD⟩).mono ?_
 ·obtain⟨v1,v2,v3⟩:=hv
  exact zdb (P:=P) (Kp:=Kp) (n:=n-1-1) w.1.size (w.1.size+1) fn w.1.size a.tmps ab (by omega) ac (fun W=>W.1[w.1.size]?=E (.deferred (E []))) (fun W R he hk=>hk.same _ _ (zb _) he rfl) (fun W o he=>(World.putObj_heap_other (by omega)).trans he)
   (fun h k=>aa h k) (fun W o o'=>a9 W o o') i A T B Ax a5 (fun d x W K=>j _ d x W K) (fun d x y W ⟨r,q,_⟩=>H _ d x y W (by omega) ⟨r,q⟩) d x V v1 v2 v3 a3
 ·rintro e V ⟨⟨v,rfl⟩,(⟨xs,hS,L,z,M⟩|⟨d,hS,c,L,z,M⟩)⟩
  ·exact⟨x8,_,run_endLoop (P:=P) z (by simp),I _ xs _ (zb _) hS (T.putObj _ L (by omega) z rfl) ((World.putObj_heap_other (by omega)).trans M)⟩
  ·exact⟨E c,_,run_endLoop (P:=P) z (by simp),J _ c d _ (zb _) hS ((B c).putObj _ L (by omega) z rfl) ((World.putObj_heap_other (by omega)).trans M)⟩
end
abbrev Rw:=Int×List SX
def Vc(r:Rw):List UInt8:=Xn r.1 r.2++[10]
def xz(a:List Rw):ByteArray:=⟨(a.flatMap Vc).toArray⟩
def zgA(r:Rw):ByteArray:=⟨(Vc r).toArray⟩
theorem zdW(l:List Int):(10:UInt8)∉vB l:=fun h=>by
 unfold vB at h
 obtain⟨n,_,a⟩:=List.mem_flatMap.1 h
 rcases List.mem_cons.1 a with a|a
 ·exact absurd a (by decide)
 ·have:=jh n 10 a
  have e:(10:UInt8).toNat=10:=rfl
  omega
theorem zoh(now:Int)(xs:List SX):(10:UInt8)∉Xn now xs:=fun h=>by
 unfold Xn at h
 rcases List.mem_append.1 h with h|h
 ·have:=jh now 10 h
  have e:(10:UInt8).toNat=10:=rfl
  omega
 ·obtain⟨x,_,a⟩:=List.mem_flatMap.1 h
  unfold zkd at a
  rcases List.mem_append.1 a with a|a
  ·exact zdW _ a
  ·split at a
   ·exact zdW _ a
   ·cases a
theorem zmE:∀(l r:List UInt8),(10:UInt8)∉l->Lib.indexByte (l++10::r) 10=l.length
 |[],r,_=>by simp[Lib.indexByte]
 |b::l,r,h=>by
  have a:¬b=10:=fun e=>h (by simp[e])
  have d:=zmE l r (fun c=>h (by simp[c]))
  rw[List.cons_append,Lib.indexByte,if_neg (by simpa using a),d,if_neg (by rw[beq_iff_eq];omega),List.length_cons]
  omega
theorem zge(r:Rw)(a:List Rw):(xz (r::a)).data.toList=Xn r.1 r.2++10::(xz a).data.toList:=by
 simp[xz,Vc]
theorem VU(r:Rw)(a:List Rw):(xz (r::a)).size=(Xn r.1 r.2).length+1+(xz a).size:=by
 simp[xz,Vc,ByteArray.size];omega
theorem zpi(s:ByteArray)(w:G):Calls prog 203 #[.string s,.int .u8 10] w fun e w'=>e=.returned (I (Lib.indexByte s.data.toList 10))/\w'=w:=
 Any.strings_IndexByte Tryz.layIB s 10 w
theorem zkB(r:Rw)(a:List Rw):(xz (r::a)).extract 0 ((Xn r.1 r.2).length+1)=zgA r:=by
 apply ByteArray.ext
 rw[ByteArray.data_extract]
 apply Array.ext'
 simp[xz,Vc,zgA]
 rw[show Xn r.1 r.2++10::List.flatMap Vc a=(Xn r.1 r.2++[10])++List.flatMap Vc a by simp,List.take_left' (by simp)]
theorem zkD(r:Rw)(a:List Rw):(xz (r::a)).extract ((Xn r.1 r.2).length+1) (xz (r::a)).size=xz a:=by
 apply ByteArray.ext
 rw[ByteArray.data_extract]
 apply Array.ext'
 have e:(xz (r::a)).data.toList=(Xn r.1 r.2++[10])++List.flatMap Vc a:=by simp[xz,Vc]
 rw[Array.toList_extract,List.extract_eq_take_drop,e,List.drop_left' (by simp)]
 refine(List.take_of_length_le ?_).trans ?_
 ·have h:=congrArg List.length e
  simp only[Array.length_toList,List.length_append,List.length_cons,List.length_nil]at h
  show(List.flatMap Vc a).length<=(xz (r::a)).data.size-_
  omega
 ·simp[xz]
section
variable {c:Cf} {ep:Int} {m:MS} {r:RM}
theorem zmN(b:MOk c ep m){s:Sg}(d:s∈zn m.L)(f:(stL m.L s).st=2):0<=s.t/\s.t<c.n:=by
 have hv:=zU d
 have a:=b.seg.inr _ hv
 refine⟨?_,a.2.2.1⟩
 by_cases e:s.t= -1
 ·have:=(b.seg.raw _ hv e).1
  simp only at this
  omega
 ·have:=a.2.1
  simp only at this
  omega
theorem zfP(f:MOk c ep m)(h:zdv c m r){v:List (Sg×Unit)}(F:∀x,x∈zj v↔∃k,k∈zn m.L/\(stL m.L k).st=2/\x∈yI c k){s:Sg}(o:s∈xb r.c r.nu):Kr r s (xb r.c r.nu)=true↔s∈zn m.L/\yR c v m.L m.now s=true:=by
 obtain⟨O,D,P⟩:=h.there o
 have I:=o
 unfold Kr Ji yR
 rw[h.hc,h.now]at*
 simp only[Bool.and_eq_true,Bool.not_eq_true',decide_eq_false_iff_not,List.all_eq_true,beq_eq_false_iff_ne,beq_iff_eq,decide_eq_true_eq,ne_eq,Option.isNone_iff_eq_none]
 constructor
 ·rintro⟨⟨⟨⟨M,a2⟩,a3⟩,a4⟩,a5⟩
  have B:0<=s.t:=by omega
  obtain⟨n,d⟩:=J1 f.seg.nl ((h.wt f (by rw[h.hc];exact o) B).2 ⟨a2,a3⟩)
  refine⟨n,⟨?_,d⟩,by unfold Cf.end at a4;omega⟩
  rw[xr,F]
  rintro⟨k,i,l,H⟩
  have j:=zmN f i l
  have a:k∈xb c r.nu:=by have:=h.seg ⟨by omega,j.2⟩ i;rwa[h.hc]at this
  have b:=(h.wt f (by rw[h.hc];exact a) j.1).1 ⟨_,zU i,l⟩
  have:=a5 k a
  unfold zkt at this
  rw[h.hc,(JD B D).2 H,b.1,decide_eq_true j.1]at this
  cases this
 ·rintro⟨n,⟨w,y⟩,N⟩
  have d:=zmN f n y
  have b:=(h.wt f (by rw[h.hc];exact o) d.1).1 ⟨_,zU n,y⟩
  refine⟨⟨⟨⟨by omega,b.1⟩,b.2⟩,by unfold Cf.end;omega⟩,fun x J=>?_⟩
  cases g:zkt r s x with
  |false=>rfl
  |true=>
   unfold zkt at g
   simp only[Bool.and_eq_true,Bool.not_eq_true',decide_eq_true_eq]at g
   obtain⟨⟨z,A⟩,p⟩:=g
   rw[h.hc]at z
   have q:Qt x r.gone=false:=by
    rw[Bool.eq_false_iff,ne_eq,h.gone]
    intro e
    rw[(h.pub x).2 (.inr ⟨A,e⟩)]at p;cases p
   obtain⟨K,u⟩:=J1 f.seg.nl ((h.wt f (by rw[h.hc];exact J) A).2 ⟨p,q⟩)
   rw[xr,F]at w
   exact absurd ⟨x,K,u,(JD d.1 D).1 z⟩ w
end
theorem zpY{W:G}{ta:Nat}(h:W.1[ta]?=E (.cells #[I (-1),I 2,I 100] 80 (0,0))):TS W (E (U ta 0)) awC.n awC.F awC.W awC.K:=fun _=>by
 refine⟨ta,0,rfl,zd h,fun i a=>?_⟩
 obtain rfl:i=0:=by have:awC.n=1:=rfl;omega
 exact⟨by rw[xH h];rfl,by rw[xH h];rfl,by rw[xH h];rfl⟩
theorem Kx.foot{i:Ids}{w w':G}(h:Kx i w w'){k:Nat}(a:zG w' i k):zG w i k\/w.1.size<=k:=by
 rcases a with e|e
 ·exact .inl (.inl e)
 ·rcases h.fs k e with e|e
  ·exact .inl (.inr e)
  ·exact .inr e
theorem Kx.not{i:Ids}{w w':G}(h:Kx i w w'){k:Nat}(hn:¬zG w i k)(a:k<w.1.size):¬zG w' i k:=fun e=>by
 rcases h.foot e with e|e
 ·exact hn e
 ·omega
theorem zeL{w M b:G}{i:Ids}(c:C w.1.size w M)(d:Kx i M b)(a:∀k,zG M i k->w.1.size<=k):C w.1.size w b:=c.trans (d.kept.below c.size a)
theorem zhf{w M b:G}{i:Ids}(c:C w.1.size w M)(d:Kx i M b)(a:∀k,zG M i k->w.1.size<=k):∀k,zG b i k->w.1.size<=k:=fun k e=>by
 rcases d.foot e with e|e
 ·exact a k e
 ·exact x9 c.size e
theorem zoY{M:G}{i:Ids}{c:Cf}{ep:Int}{m:MS}{B:Nat}(h:zy M i c ep m)(a:∀k,zG M i k->B<=k)(b:B<=M.1.size)(o:Obj):∀k,zG (M.alloc o) i k->B<=k:=fun k e=>by
 rcases(h.below ((zz _ _).alloc (zb _) o)).foot e with e|e
 ·exact a k e
 ·omega
theorem zoZ{M:G}{i:Ids}{c:Cf}{ep:Int}{m:MS}(h:zy M i c ep m)(o:Obj):¬zG (M.alloc o) i M.1.size:=by
 obtain⟨q,txt,ns,a⟩:=h
 exact XM a.at_ ((zz _ _).alloc (zb _) o)
theorem zpV{M a:G}{i:Ids}{c:Cf}{ep:Int}{m:MS}{k:Nat}(h:zy M i c ep m)(b:C M.1.size M a)(hn:¬zG M i k)(d:k<M.1.size):¬zG a i k:=(h.below b).not hn d
theorem znc{D:G}{p B ta:Nat}(g:zw 111 113 B D p Yi (.slice x8 0 0))(n:B<=D.1.size)(h:D.1[ta]?=E (.cells #[I (-1),I 2,I 100] 80 (0,0)))(a:Qe D)(f:p≠Y4):
  Hid (Calls prog 29 #[.agg #[I 1,I 9,I 0,I 2,I 4,I 9,.slice (E (U ta 0)) 1 1],(O p)] D fun e M=>∃i:Ids,e=.returned (.tuple #[(O i.x),I 0])/\zy M i awC 1 ⟨0,[],[],0,[],[]⟩/\zh (fun k=>k=p) D M/\∀k,zG M i k->k=p\/D.1.size<=k):=by
 have d:p≠ta:=fun e=>by
  have b:=g.head
  rw[e,h]at b
  cases b
 refine ze ((zbl awC ZQ zko zar (E (U ta 0)) 1 B p (.slice x8 0 0) D n g (fun w' c=>zpY (c.heap h (fun e=>?_))) a (fun k e=>?_)).mono ?_)
 ·rcases e with e|e
  ·exact d e.symm
  ·cases e
 ·rcases e with e|e
  ·rw[e];exact f
  ·cases e
 ·rintro e M ⟨i,_,b,j,l,m⟩
  exact⟨i,b,j,l.mono (fun k _ e=>by rcases e with e|e;exact e;cases e),fun k c=>by
   rcases m k c with(e|e)|e
   ·exact .inl e
   ·cases e
   ·exact .inr e⟩
theorem zcd{X D M:G}{b:Nat}(a:zh (fun k=>k=X.1.size) D M)(d:D.1.size=X.1.size+1)(c:b<X.1.size)(j:Nat):M.cell? (U b j)=D.cell? (U b j):=zM a (show¬b=X.1.size by omega) (by omega)
theorem zhi(w:G)(t:Qe w):Calls prog 36 #[] w (Rz w (.bool true)):=by
 obtain⟨y0,y1,ab,yz⟩:=box2 w (.cells #[I (-1),I 2,I 100] 80) (.cells #[I 1,I 9,I 0,I 2,I 4,I 9,.slice (E (U w.1.size 0)) 1 1] 27)
 obtain⟨c0,c1,c2,c3,c4,c5,c6,-⟩:=zc y1
 have Y0:=ze y0
 have h:=ze ab
 have YZ:=ze yz
 have am:=zd y1
 have al:=zd y0
 clear y0 y1 ab yz
 go_enter func36,ntmps36
 go_wp2_with fail
 generalize((w.alloc (.cells #[I (-1),I 2,I 100] 80)).alloc (.cells #[I 1,I 9,I 0,I 2,I 4,I 9,.slice (E (U w.1.size 0)) 1 1] 27))=X at*
 have c:w.1.size+1<X.1.size:=am
 have HN:=fun W (hB:X.1.size<=W.1.size)=>ze (zcG X.1.size W hB)
 have HO:=fun D (h1:zw 111 113 X.1.size D X.1.size Yi (.slice x8 0 0)) (h2:C X.1.size X D)=>znc (ta:=w.1.size) h1 h2.size ((h2.block _ al).trans (ud Y0)) (jv (jv t (ud h)) h2) (by have h3:=t.lt;have h4:=(ud h).size;omega)
 go_region_held3 (fun w'=>w'.cell? (U (w.1.size+1) 0)=E (I 1)/\w'.cell? (U (w.1.size+1) 1)=E (I 9)/\w'.cell? (U (w.1.size+1) 2)=E (I 0)/\w'.cell? (U (w.1.size+1) 3)=E (I 2)/\w'.cell? (U (w.1.size+1) 4)=E (I 4)/\w'.cell? (U (w.1.size+1) 5)=E (I 9)/\w'.cell? (U (w.1.size+1) 6)=E (.slice (E (U w.1.size 0)) 1 1)) (go_keep) (first
  |(go_at_call 38;(with_reducible refine(ud (HN _ ?hb)).mono ?_);(case hb=>exact zb _);rintro e D ⟨rfl,hD,l,ac⟩;have g:C X.1.size X D:=⟨l.os,l.tape,l.output,l.size,l.block⟩;have ad:D.1.size=X.1.size+1:=ac;have d0:Cz D (w.1.size+1) 0 (I 1):=(g.cell (p:=(U (w.1.size+1) 0)) c).trans c0;have d1:Cz D (w.1.size+1) 1 (I 9):=(g.cell (p:=(U (w.1.size+1) 1)) c).trans c1;have d2:Cz D (w.1.size+1) 2 (I 0):=(g.cell (p:=(U (w.1.size+1) 2)) c).trans c2;have d3:Cz D (w.1.size+1) 3 (I 2):=(g.cell (p:=(U (w.1.size+1) 3)) c).trans c3;have d4:Cz D (w.1.size+1) 4 (I 4):=(g.cell (p:=(U (w.1.size+1) 4)) c).trans c4;have d5:Cz D (w.1.size+1) 5 (I 9):=(g.cell (p:=(U (w.1.size+1) 5)) c).trans c5;have d6:Cz D (w.1.size+1) 6 (.slice (E (U w.1.size 0)) 1 1):=(g.cell (p:=(U (w.1.size+1) 6)) c).trans c6;have HD:Hid (zw 111 113 X.1.size D X.1.size Yi (.slice x8 0 0)):=hD;have u:=ze g;have j:=ze ad;clear hD l g ac ad HN)
  |(go_at_call 29;(first|(with_reducible refine(ud (HO _ (ud HD) (ud u))).mono ?_)|refine(ud (HO _ (ud HD) (ud u))).mono ?_);rintro e M ⟨i,rfl,hM,o,q⟩;have m0:Cz M (w.1.size+1) 0 (I 1):=(zcd o (ud j) c 0).trans d0;have m1:Cz M (w.1.size+1) 1 (I 9):=(zcd o (ud j) c 1).trans d1;have m2:Cz M (w.1.size+1) 2 (I 0):=(zcd o (ud j) c 2).trans d2;have m3:Cz M (w.1.size+1) 3 (I 2):=(zcd o (ud j) c 3).trans d3;have m4:Cz M (w.1.size+1) 4 (I 4):=(zcd o (ud j) c 4).trans d4;have m5:Cz M (w.1.size+1) 5 (I 9):=(zcd o (ud j) c 5).trans d5;have m6:Cz M (w.1.size+1) 6 (.slice (E (U w.1.size 0)) 1 1):=(zcd o (ud j) c 6).trans d6;have HM:=ze hM;have HK:=ze o;have ai:=ze q;clear hM o q))
 have m:=ud u
 have q:∀k,zG M i k->w.1.size<=k:=fun k o=>by
  rcases ud ai k o with e|e
  ·rw[e];exact(ud h).size
  ·exact x9 (ud h).size (x9 m.size e)
 have n:=(ud h).trans (m.mono (ud h).size)
 have P:=ze (n.trans ((ud HK).below n.size (fun k e=>by have:=(ud h).size;have e':k=X.1.size:=e;omega)))
 have a3:=ze q
 clear m q n c0 d0 m0 c1 d1 m1 c2 d2 m2 c3 d3 m3 c4 d4 m4 c5 d5 m5 c6 d6 m6
 go_wp2_with(first
  |(go_at_call 27;refine(zoX (ud HM)).mono ?_;rintro e M1 ⟨rfl,b,a⟩;have aj:=ze b;have F:=ze (zeL (ud P) a (ud a3));have Z:=ze (zhf (ud P) a (ud a3));clear b a)
  |(go_at_call 26;refine(znd (ud aj)).mono ?_;rintro e M2 ⟨rfl,b,a⟩;have a4:=ze b;have H:=ze (zeL (ud F) a (ud Z));have a0:=ze (zhf (ud F) a (ud Z));clear b a)
  |(go_at_call 18;refine(zkp (ud a4)).mono ?_;rintro e M3 ⟨rfl,b,a⟩;have f:=zeL (ud H) a (ud a0);have a1:=ze (zoY b (zhf (ud H) a (ud a0)) f.size zpH);have x:=(zz M3.1.size M3).alloc (zb _) zpH;have a5:=ze (b.later x);have J:=ze (f.alloc f.size zpH);have R:=ze (zp M3 zpH);have aa:Hid (¬zG (M3.alloc zpH) i M3.1.size):=zoZ b _;clear b a f x a4)
  |(go_at_call 20;refine(zna (ud a5)).mono ?_;rintro e M4 ⟨rfl,b,a⟩;have a7:=ze b;have K:=ze (zeL (ud J) a (ud a1));have a2:=ze (zhf (ud J) a (ud a1));have r:=ze (a.kept.heap (ud R) (ud aa));have s:=ze (a.not (ud aa) (zd (ud R)));clear b a a5)
  |(go_at_call 18;refine(zkq (ud a7)).mono ?_;rintro e M5 ⟨rfl,b,a⟩;have f:=zeL (ud K) a (ud a2);have ah:=ze (zoY b (zhf (ud K) a (ud a2)) f.size zoO);have a6:=ze (zpV b ((zz _ _).alloc (zb _) zoO) (a.not (ud s) (zd (ud r))) (zd (a.kept.heap (ud r) (ud s))));have x:=(zz M5.1.size M5).alloc (zb _) zoO;have a8:=ze (b.later x);have ae:=ze (f.alloc f.size zoO);have af:=ze ((Below.heap_alloc _ zoO _ (zd (a.kept.heap (ud r) (ud s)))).trans (a.kept.heap (ud r) (ud s)));have ag:=ze (zp M5 zoO);have ak:Hid (¬zG (M5.alloc zoO) i M5.1.size):=zoZ b _;clear b a f x a7)
  |(go_at_call 20;refine(znb (ud a8)).mono ?_;rintro e M6 ⟨rfl,⟨an,b⟩,a⟩;have v:=ze b;have L:=ze (zeL (ud ae) a (ud ah));have S:=ze (a.kept.heap (ud af) (ud a6));have V:=ze (a.kept.heap (ud ag) (ud ak));clear b a a8)
  |(go_at_call 57;refine(zpW (ud v)).mono ?_;rintro e M7 ⟨rfl,y⟩;have x:=(zz M7.1.size M7).alloc (zb _) zoN;have d:=y.alloc y.size zoN;have a9:=ze ((ud v).later d);have N:=ze ((ud L).trans (d.mono (ud L).size));have T:=ze ((d.block _ (zd (ud S))).trans (ud S));have Y:=ze ((d.block _ (zd (ud V))).trans (ud V));have Q:=ze (zp M7 zoN);clear y d x v)
  |(go_at_call 57;refine(zpX (ud a9)).mono ?_;rintro e M8 ⟨rfl,d⟩;have O:=ze ((ud N).trans (d.mono (ud N).size));have A:=(d.block _ (zd (ud T))).trans (ud T);have B:=(d.block _ (zd (ud Y))).trans (ud Y);have z:=(d.block _ (zd (ud Q))).trans (ud Q);obtain⟨i0,-⟩:=zc A;obtain⟨j0,-⟩:=zc B;obtain⟨d0,d1,-⟩:=zc z;have li:=zd A;have lj:=zd B;have ld:=zd z;clear d A B z a9))
 go_ret
 exact⟨rfl,(ud O).alloc (ud O).size _⟩
attribute [local go_sem] Oper.semAt_some
theorem zbB:∀(rs:List Rw) (k:Nat),(xz (rs.drop k)).size<=(xz rs).size
 |rs,0=>by simp
 |[],k+1=>by simp
 |r::rs,k+1=>by rw[List.drop_succ_cons,VU];have:=zbB rs k;omega
def zbI(w:G)(b:Nat):Nat:=match w.cell? (U b 0)with|some (.string s)=>s.size|_=>0
theorem zfr{α:Type}(f:α->Rw)(a:List α)(a2:(xz (a.map f)).size<=1000000000000)(b:Nat)(w:G)(X:w.1[b]?=E (.cells #[.string (xz (a.map f))] 9 (0,0)))(m:Nat):
  SeqB b Fence.wide 6 prog 202 #[(O b)] (fun x:α=>#[.string (zgA (f x))]) (fun V V'=>V'.1[b]?=V.1[b]?) (fun xs=>xs=a) (fun _=>True) a.length m w:=by
 intro l J Jx W hW hm hJ R s u S h0
 have y:=(hW.block _ (zd X)).trans X
 have I:=ze y
 clear hW X y
 show CallsIn Fence.wide 6 prog 202 #[.func (.yield l) #[] #[],(O b)] W _
 refine callsIn_of_wp func202 rfl trivial ?_ rfl
 simp only[ntmps202,sZz,Nat.reduceAdd,Nat.reduceSub]
 gi_wp2
 gi_loopw [] (fun wr=>∃k,k<=a.length/\wr.1[b]?=E (.cells #[.string (xz ((a.drop k).map f))] 9 (0,0))/\J (a.take k) wr) (fun wr=>zbI wr b)
 case atStart=>exact⟨0,Nat.zero_le _,ud I,h0⟩
 case round=>
  obtain⟨k,hk,d,g⟩:=hrel
  obtain⟨P,-⟩:=zc d
  have cf:=zv d 0
  have lb:=zd d
  rcases Nat.lt_or_ge k a.length with h|z
  ·obtain⟨Z,Y⟩:∃r,a[k]=r:=⟨_,rfl⟩
   obtain⟨r,j⟩:∃r,f Z=r:=⟨_,rfl⟩
   have e:(a.drop k).map f=r::(a.drop (k+1)).map f:=by rw[<-j,<-Y,List.drop_eq_getElem_cons h,List.map_cons]
   have hd:(xz ((a.drop k).map f)).size<=(xz (a.map f)).size:=by rw[List.map_drop];exact zbB (a.map f) k
   obtain⟨rest,c⟩:∃rest,(a.drop (k+1)).map f=rest:=⟨_,rfl⟩
   rw[e,c]at P d hd
   have D:=VU r rest
   have p:Lib.indexByte (xz (r::rest)).data.toList 10=((Xn r.1 r.2).length:Int):=by rw[zge];exact zmE _ _ (zoh _ _)
   have o:=ze (zpi (xz (r::rest)) wr)
   rw[p]at o
   have c1:=zkB r rest
   have c2:=zkD r rest
   generalize hn:(Xn r.1 r.2).length=n at*
   generalize a0:xz (r::rest)=T at*
   have hT:decide ((0:Int)<(T.size:Int))=true:=by simp;omega
   have a1:decide ((0:Int)<=(n:Int))=true:=by simp
   rw[D]at c2
   have H:(wr.setCell (U b 0) (.string (xz rest))).1[b]?=E (.cells #[.string (xz rest)] 9 (0,0)):=xy (i:=0) d (.string (xz rest))
   have q:J (a.take k) (wr.setCell (U b 0) (.string (xz rest))).drew:=zO hJ (s _ _ (.string (xz rest)) g) (zz _ _).drew
   obtain⟨fn,tmps,assign,body,hy,hR⟩:=S (a.take k) Z _ q (by rw[List.length_take];omega)
   have F:a.take (k+1)=a.take k++[Z]:=by rw[<-Y];exact List.take_succ_eq_append_getElem h
   have B:zbI wr b=n+1+(xz rest).size:=by unfold zbI;rw[P];exact D
   have N:=ze H
   have M:=ze F
   have L:=ze c
   have K:=ze B
   rw[j]at hy
   clear S p e c Y j H q s u F B g h0 hJ R
   gi_wp2_with (first|(refine⟨trivial,?_⟩;gi_at_call 203;refine(callsIn_wide.2 (ud o)).mono ?_;rintro e V ⟨rfl,hV⟩;subst hV)|gi_in)
   gi_region
   gi_wp2
   refine hR.mono ?_
   rintro e3 W3 (⟨rfl,Q,A⟩|⟨rfl,t,A⟩)
   ·gi_wp2
    have v:W3.1[b]?=E (.cells #[.string (xz rest)] 9 (0,0)):=A.trans (ud N)
    go_roundw
    case rel=>exact⟨k+1,h,by rw[ud L];exact v,by rw[ud M];exact Q⟩
    case measure=>
     have h3:zbI W3 b=(xz rest).size:=by unfold zbI;rw[xH v];rfl
     rw[h3,ud K];omega
   ·gi_wp2
    refine bodyPost_ret (results_none rfl _ _ _) rfl ?_
    exact⟨⟨_,rfl⟩,.inr ⟨_,trivial,t⟩⟩
  ·have e:a.drop k=[]:=List.drop_eq_nil_of_le z
   have e2:a.take k=a:=List.take_of_length_le z
   rw[e,List.map_nil]at P
   rw[e2]at g
   have hT:decide ((0:Int)<((xz []).size:Int))=false:=by simp[xz,ByteArray.size]
   clear S
   gi_wp2
   go_end0
   exact⟨⟨_,rfl⟩,.inl ⟨a,rfl,g⟩⟩
section
variable {c:Cf} {ep:Int} {m:MS} {r:RM} {ns:List Nm}
theorem zdN(m:c.ok)(o:c.fits){k s:Sg}{x:Nm}(q:0<=x.tm)(e:zF c k.t x=k)(f:s∈yI c k):∃j:Nat,j<c.n/\s.t=j/\c.F j=k.t/\zF c j x=s:=by
 unfold yI Vk at f
 rw[List.map_map]at f
 obtain⟨j,p,rfl⟩:=List.mem_map.1 f
 obtain⟨b,d⟩:=List.mem_filter.1 p
 have a:j<c.n:=by simpa using b
 have h:c.F j=k.t:=by simpa using d
 refine⟨j,a,rfl,h,?_⟩
 have g:=zmL m o q a
 rw[h]at g
 have i:x.sr=k.sr:=congrArg Sg.sr e
 have l:x.tm/c.wh k.t=k.wn:=congrArg Sg.wn e
 show(⟨(j:Int),x.sr,x.tm/c.wh j⟩:Sg)=⟨(j:Int),k.sr,k.wn*c.wh k.t/c.W j⟩
 rw[<-l,g,i,vx]
theorem zdY(w:c.ok)(y:c.fits)(A:MOk c ep m)(f:ZI c m ns){d:List (Sg×Unit)}(u:∀x,x∈zj d↔∃k,k∈zn m.L/\(stL m.L k).st=2/\x∈yI c k){p:Jk×Tsk}(o:p∈m.TL)(q:p.2.rl=true):yR c d m.L m.now p.2.s=true:=by
 have n:=A.td p o
 have i:=n.roll q
 have a:=n.clo
 unfold yR
 have h:zD d p.2.s=x8:=by
  rw[xr,u]
  rintro⟨k,l,g,z⟩
  obtain⟨x,r,e⟩:=f.has k l
  obtain⟨j,B,b,v,t⟩:=zdN w y (f.tm x r).1 e z
  refine(f.td p o).roll q j b x r (by rw[b];exact t) ?_
  rw[v,e]
  exact⟨_,zU l,g⟩
 rw[h,i]
 unfold Cf.clo at a
 simpa using a
theorem zdX(k:c.ok)(u:c.fits)(l:MOk c ep m)(b:ZI c m ns){p:Jk×Tsk}(n:p∈m.TL)(o:p.2.rl=false):yQ c m.L m.now p.2.s=true:=by
 have g:=l.td p n
 have i:=g.recl o
 obtain⟨h,f⟩:=(b.td p n).recl o
 obtain⟨x,q,e⟩:=b.has p.2.s g.mem
 have d:=l.seg.inr _ (zU g.mem)
 unfold yQ
 have v:Za c m.L p.2.s=true:=(XP k d).2 (fun y A a=>by
  obtain⟨j,w,z,t,r⟩:=zdN k u (b.tm x q).1 e A
  refine f x q e j w t ?_
  rw[r]
  exact⟨_,zU (JW a),a⟩)
 rw[v]
 simp only[Bool.and_true,Bool.and_eq_true,Bool.not_eq_true',beq_eq_false_iff_ne,ne_eq,decide_eq_true_eq]
 exact⟨i,h⟩
end
theorem ZC{c:Cf}{ep:Int}{m:MS}{r:RM}(y:c.ok)(A:c.fits)(i:MOk c ep m)(h:zdv c m r)(P:xB m.TL m.QL r.td){g:List (Jk×Tsk)}(n:xA c m g):xB g m.QL r.settled.td:=by
 obtain⟨O,M,F,l⟩:=n.get i.nt
 have f:∀(k:Jk) (x:Tsk),zD m.TL k=E x->k=x.key/\x.s∈zn m.L/\(x.rl=true->yR c O m.L m.now x.s=true)/\(x.rl=false->yQ c m.L m.now x.s=true):=fun k x d=>by
  have n:=zB d
  exact⟨(i.td _ n).key,(i.td _ n).mem,fun e=>zdY y A i h.inv M n e,fun e=>zdX y A i h.inv n e⟩
 have j:∀k,k∈zj g↔∃x,zD g k=E x:=fun k=>by
  constructor
  ·intro B
   obtain⟨p,H,rfl⟩:=List.mem_map.1 B
   exact⟨p.2,xp F H⟩
  ·rintro⟨x,d⟩
   exact List.mem_map.2 ⟨_,zB d,rfl⟩
 refine zdk y A i P h.now n (fun kind s D u=>?_) (fun k B=>?_)
 ·rw[j]
  rcases D with rfl|rfl
  ·have e:vk r 1 s (xb r.c r.nu)=Kr r s (xb r.c r.nu):=by unfold vk;rw[if_pos rfl]
   rw[e,zfP i h M u]
   constructor
   ·rintro⟨a,b⟩
    cases d:zD m.TL ⟨1,s⟩with
    |some x=>exact⟨x,(l _ _).2 (.inl d)⟩
    |none=>exact⟨_,(l _ _).2 (.inr ⟨d,s,a,.inl ⟨b,rfl,rfl⟩⟩)⟩
   ·rintro⟨x,d⟩
    rcases(l _ _).1 d with d|⟨-,N,a,⟨b,e,-⟩|⟨b,e,-⟩⟩
    ·obtain⟨o,v,J,-⟩:=f _ _ d
     unfold Tsk.key Tsk.kd at o
     injection o with w K
     rw[K]
     refine⟨v,J ?_⟩
     cases I:x.rl with
     |true=>rfl
     |false=>rw[I]at w;simp at w
    ·injection e with z q
     rw[q];exact⟨a,b⟩
    ·injection e with z q
     omega
  ·have e:vk r 2 s (xb r.c r.nu)=Ks r s (xb r.c r.nu):=by unfold vk;rw[if_neg (by decide)]
   rw[e,zfQ y i h u]
   constructor
   ·rintro⟨a,b⟩
    cases d:zD m.TL ⟨2,s⟩with
    |some x=>exact⟨x,(l _ _).2 (.inl d)⟩
    |none=>exact⟨_,(l _ _).2 (.inr ⟨d,s,a,.inr ⟨b,rfl,rfl⟩⟩)⟩
   ·rintro⟨x,d⟩
    rcases(l _ _).1 d with d|⟨-,N,a,⟨b,e,-⟩|⟨b,e,-⟩⟩
    ·obtain⟨o,v,-,J⟩:=f _ _ d
     unfold Tsk.key Tsk.kd at o
     injection o with w K
     rw[K]
     refine⟨v,J ?_⟩
     cases I:x.rl with
     |false=>rfl
     |true=>rw[I]at w;simp at w
    ·injection e with z q
     omega
    ·injection e with z q
     rw[q];exact⟨a,b⟩
 ·obtain⟨x,d⟩:=(j k).1 B
  have u:k.s∈zn m.L:=by
   rcases(l _ _).1 d with d|⟨-,N,a,⟨b,e,-⟩|⟨b,e,-⟩⟩
   ·obtain⟨o,v,-⟩:=f _ _ d
    rw[o];exact v
   ·rw[e];exact a
   ·rw[e];exact a
  have t:=i.seg.inr _ (zU u)
  exact h.seg ⟨t.2.1,t.2.2.1⟩ u
end Go.Proofs.YtndhpgciopcncaaGreatDoor
