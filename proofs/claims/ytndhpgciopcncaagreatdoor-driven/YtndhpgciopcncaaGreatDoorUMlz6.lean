import Derived.Test.YtndhpgciopcncaaGreatDoorUJbn0
import Derived.Test.YtndhpgciopcncaaGreatDoorUSrt0
open Go.Value renaming int → I
open Go.IntKind renaming i64 → J
open Nat renaming lt_of_lt_of_le → K
open Option renaming none → O
open Go.RowKit renaming Below → E
set_option linter.unusedVariables false
set_option maxRecDepth 20000
set_option maxHeartbeats 8000000
open Go.Proofs.Tryz
namespace Go.Proofs.YtndhpgciopcncaaGreatDoor
open Go.RowKit Go.Maps Go.Shelf
open Go.ChangeMaps (setBlock)
def zbM(dn:Bool)(w:World)(i:Ids)(c:Cf)(ep:Int)(m:MS)(slot:Int)(e:Ending)(w':World):Prop:=(e=.returned (.tuple #[zdc,I J 6])/\E w.1.size w w'/\m.QL.any (fun p=>p.2.slot==slot)=true)\/(e=.returned (.tuple #[zdc,I J 7])/\E w.1.size w w'/\(∀p∈m.TL,yJ m.QL m.now p.2=false)/\m.QL.any (fun p=>p.2.slot==slot)=false)\/(dn=true/\e=.returned (.tuple #[zdc,I J 13])/\E w.1.size w w')\/∃p,m.QL.any (fun p=>p.2.slot==slot)=false/\p∈m.TL/\yJ m.QL m.now p.2=true/\Jt c m.now (xa (zp m.L) c.qu) m.QL m.TL p.2/\dn=false/\e=.returned (.tuple #[.agg #[I J p.2.kd,I J p.2.s.t,I J p.2.s.sr,I J p.2.s.wa,I J p.2.se,I J p.2.ti,I J p.2.rest,I J ep,I J (m.num+1),I J slot,I J (m.now+c.le)],I J 0])/\xz dn w' i c ep {m with num:=m.num+1,QL:=qq m.QL ⟨ep,m.num+1⟩ ⟨p.2.kd,p.2.s,slot,m.now+c.le⟩}/\zo (jm i) w w'
theorem ziZ{dn:Bool}{w:World}{i:Ids}{c:Cf}{ep:Int}{m:MS}(h:xz dn w i c ep m)(hc:c.ok)(slot:Int)(aQ:0<=slot/\slot<c.s)(ad:0<=m.now/\m.now<=100000)(hT:∀p∈m.TL,Xi c m.now p.2)(a3:∀p∈m.TL,p.1=p.2.key)(ak:m.QL.length<=100000)(au:0<=m.num/\m.num<=1000000000000000)(aM:xh ep)(hu:0<=zp m.L/\zp m.L<=1000):
  Calls prog 18 #[.pointer (some ⟨i.x,0,O⟩),I J slot] w fun e w'=>zbM dn w i c ep m slot e w':=by
 have ai:E w.1.size w (w.alloc (.cells #[I J 0,I J 0,I J 0,I J 0,I J 0,I J 0,I J 0,I J 0,I J 0,I J 0,I J 0] 51)):=(Below.refl _ _).alloc (Nat.le_refl _) _
 have q0:=zm w (.cells #[I J 0,I J 0,I J 0,I J 0,I J 0,I J 0,I J 0,I J 0,I J 0,I J 0,I J 0] 51)
 have qz:=zL w (.cells #[I J 0,I J 0,I J 0,I J 0,I J 0,I J 0,I J 0,I J 0,I J 0,I J 0,I J 0] 51)
 have hX:=h.later ai
 obtain⟨a,cap,a4,ax⟩:=h.ts
 obtain⟨c0,c1,c2,c3,c4,c5,c6,-,c8,-,ag⟩:=hX.cells
 rw[a4]at c6
 have D:=hX.lt
 have a8:=fun W=>zd (zcX c hc a cap slot W)
 rw[show inB slot 0 (c.s-1)=true from by rw[kH];omega]at a8
 have Q:=fun W P=>zd (zeB ((h.later (w':=W) P).board) slot ak)
 have af:=fun W P=>zd (QX (h.later (w':=W) P) hc hu)
 have a7:=fun W P=>zd (zao (a:=a) (cap:=cap) (a4▸(h.later (w':=W) P).board) hc (ax.below P) m.now (xa (zp m.L) c.qu) ad hT ak)
 have a6:=fun W (P:E w.1.size w W) (p:Jk×Tsk) (hp:p∈m.TL) (hf:yJ m.QL m.now p.2=true)=>zd (zcS (a:=a) (cap:=cap) (a4▸(h.later (w':=W) P).board) hc p.2 (by have:=qB h.board.td.nodup hp;rw[a3 p hp]at this;exact this) (by have:=h.board.td.wf p hp;rw[a3 p hp]at this;exact this) slot m.now ad ak au aM (fun q hq e=>by
  unfold yJ kh at hf
  simp only[Bool.and_eq_true,Bool.not_eq_true',List.any_eq_false]at hf
  exact hf.2 q hq (by simpa[Lse.job]using e)))
 have H:=zd h
 have a5:=zd ai
 have Q0:=zd q0
 have QZ:=zd qz
 have aI:=zd a4
 clear h hX ai q0 qz ax a4
 go_enter func18,ntmps18
 have av:w.1.size<(w.alloc (.cells #[I J 0,I J 0,I J 0,I J 0,I J 0,I J 0,I J 0,I J 0,I J 0,I J 0,I J 0] 51)).1.size:=by rw[ud QZ];omega
 by_cases hbs:m.QL.any (fun p=>p.2.slot==slot)=true
 ·rw[hbs]at Q
  go_wp2_with(first
   |(go_at_call 46;refine(ud (a8 _)).mono ?_;rintro e w1 ⟨rfl,l⟩;have am:=(l.cell (p:=⟨i.x,10,O⟩) D).trans ag;have m8:=(l.cell (p:=⟨i.x,8,O⟩) D).trans c8;have z:=K D l.size;have A:=zd ((ud a5).trans (l.mono (ud a5).size));have Z:=zd ((l.block _ av).trans (ud Q0));clear l)
   |(go_at_call 47;refine(ud (Q _ (ud A))).mono ?_;rintro e T ⟨rfl,u⟩;have d:=zd ((ud A).trans (u.mono (ud A).size));have r:=(u.block _ (za (ud Z))).trans (ud Z);obtain⟨z0,z1,z2,z3,z4,z5,z6,z7,z8,z9,aB⟩:=z11 r;have zf:=fun j=>zE r j;have zl:=za r;have G:=zd r;clear u r))
  refine bodyPost_ret (zR results18 _ _ w.1.size _ _ _ _ _ rfl rfl (zbq (ud G) (I J 0) (I J 0) (I J 0) (I J 0) (I J 0) (I J 0) (I J 0) (I J 0) (I J 0) (I J 0) (I J 0)) underlying51 rfl (by kernel_rfl)) rfl ?_
  have kT:=KC (w:=T) (g:=w.1.size) (I J 0) (I J 0) (I J 0) (I J 0) (I J 0) (I J 0) (I J 0) (I J 0) (I J 0) (I J 0) (I J 0)
  unfold zbM;exact .inl ⟨rfl,(ud d).trans (kT.below (ud d).size (fun k e=>by omega)),hbs⟩
 ·have aj:m.QL.any (fun p=>p.2.slot==slot)=false:=by simpa using hbs
  rw[aj]at Q
  have ao:=zd aj
  clear hbs aj
  go_wp2_with(first
   |(go_at_call 46;refine(ud (a8 _)).mono ?_;rintro e w1 ⟨rfl,l⟩;have am:=(l.cell (p:=⟨i.x,10,O⟩) D).trans ag;have m8:=(l.cell (p:=⟨i.x,8,O⟩) D).trans c8;have z:=K D l.size;have A:=zd ((ud a5).trans (l.mono (ud a5).size));have Z:=zd ((l.block _ av).trans (ud Q0));clear l)
   |(go_at_call 47;refine(ud (Q _ (ud A))).mono ?_;rintro e w2 ⟨rfl,u⟩;have az:=(u.cell (p:=⟨i.x,10,O⟩) z).trans am;have n8:=(u.cell (p:=⟨i.x,8,O⟩) z).trans m8;have v:=K z u.size;have F:=zd ((ud A).trans (u.mono (ud A).size));have ae:=zd ((u.block _ (za (ud Z))).trans (ud Z));clear u))
  have a9:=af w2 (ud F)
  have aa:=af w2.drew (ud F).drew
  have aw:w.1.size<w2.1.size:=za (ud ae)
  clear af Q a8 c0 c1 c2 c3 c4 c5 c6 c8 ag m8 am D z hT a3
  by_cases a1:∀p∈m.TL,yJ m.QL m.now p.2=false
  ·have B:=fun W (P:E w.1.size w W)=>zd ((ud (a7 W P)).mono (fun e W' hh=>(⟨hh.2.elim (fun h=>h.1) (fun⟨p,hp,hf,_⟩=>absurd (a1 p hp) (by rw[hf];simp)),hh.1⟩:e=.returned (.tuple #[.nilIface,.bool false])/\E W.1.size W W')))
   have aD:=zd a1
   clear a7 a6 a1
   go_region_held3 (fun w'=>w'.cell? ⟨i.x,8,O⟩=some (I J m.now)/\w'.cell? ⟨i.x,10,O⟩=some (.pointer (some ⟨i.b,0,O⟩))) (go_keep) (first
    |(go_at_call 45;(first|(with_reducible refine(ud a9).mono ?_)|(with_reducible refine(ud aa).mono ?_));rintro e V ⟨rfl,o⟩;have hv:E w2.1.size w2 V:=⟨o.os,o.tape,o.output,o.size,o.block⟩;clear o;have an:=(hv.cell (p:=⟨i.x,10,O⟩) v).trans az;have v8:=(hv.cell (p:=⟨i.x,8,O⟩) v).trans n8;have C:=K v hv.size;have y:=(ud F).trans (hv.mono (ud F).size);have U:=B V y;have X:=B V.drew y.drew;have S:=zd y;have a0:=zd ((hv.block _ aw).trans (ud ae));clear hv y a9 aa B)
    |(go_at_call 48;(first|(with_reducible refine(ud U).mono ?_)|(with_reducible refine(ud X).mono ?_));rintro e T ⟨rfl,n⟩;have N:E V.1.size V T:=⟨n.os,n.tape,n.output,n.size,n.block⟩;clear n;have aA:=(N.cell (p:=⟨i.x,10,O⟩) C).trans an;have t8:=(N.cell (p:=⟨i.x,8,O⟩) C).trans v8;have al:=K C N.size;have d:=zd ((ud S).trans (N.mono (ud S).size));have r:=(N.block _ (za (ud a0))).trans (ud a0);obtain⟨z0,z1,z2,z3,z4,z5,z6,z7,z8,z9,aB⟩:=z11 r;have zf:=fun j=>zE r j;have zl:=za r;have G:=zd r;clear N r U X))
   all_goals(
    go_wp2_with fail
    refine bodyPost_ret (zR results18 _ _ w.1.size _ _ _ _ _ rfl rfl (zbq (ud G) (I J 0) (I J 0) (I J 0) (I J 0) (I J 0) (I J 0) (I J 0) (I J 0) (I J 0) (I J 0) (I J 0)) underlying51 rfl (by kernel_rfl)) rfl ?_
    have kT:=KC (w:=T) (g:=w.1.size) (I J 0) (I J 0) (I J 0) (I J 0) (I J 0) (I J 0) (I J 0) (I J 0) (I J 0) (I J 0) (I J 0)
    unfold zbM;exact .inr (.inl ⟨rfl,(ud d).trans (kT.below (ud d).size (fun k e=>by omega)),ud aD,ud ao⟩))
  ·have B:=fun W (P:E w.1.size w W)=>zd ((ud (a7 W P)).mono (fun e W' hh=>(⟨hh.2.elim (fun h=>absurd h.2 a1) (fun h=>h),hh.1⟩:(∃p,p∈m.TL/\yJ m.QL m.now p.2=true/\Jt c m.now (xa (zp m.L) c.qu) m.QL m.TL p.2/\e=.returned (.tuple #[.iface p.2.jt (.agg #[I J p.2.s.t,I J p.2.s.sr,I J p.2.s.wa]),.bool true]))/\E W.1.size W W')))
   clear a7 a1
   go_region_held3 (fun w'=>w'.cell? ⟨i.x,8,O⟩=some (I J m.now)/\w'.cell? ⟨i.x,10,O⟩=some (.pointer (some ⟨i.b,0,O⟩))) (go_keep) (first
    |(go_at_call 45;(first|(with_reducible refine(ud a9).mono ?_)|(with_reducible refine(ud aa).mono ?_));rintro e V ⟨rfl,o⟩;have hv:E w2.1.size w2 V:=⟨o.os,o.tape,o.output,o.size,o.block⟩;clear o;have an:=(hv.cell (p:=⟨i.x,10,O⟩) v).trans az;have v8:=(hv.cell (p:=⟨i.x,8,O⟩) v).trans n8;have C:=K v hv.size;have y:=(ud F).trans (hv.mono (ud F).size);have U:=B V y;have X:=B V.drew y.drew;have S:=zd y;have a0:=zd ((hv.block _ aw).trans (ud ae));clear hv y a9 aa B)
    |(go_at_call 48;(first|(with_reducible refine(ud U).mono ?_)|(with_reducible refine(ud X).mono ?_));rintro e T ⟨⟨p,hp,ab,ac,rfl⟩,n⟩;have N:E V.1.size V T:=⟨n.os,n.tape,n.output,n.size,n.block⟩;clear n;have aA:=(N.cell (p:=⟨i.x,10,O⟩) C).trans an;have t8:=(N.cell (p:=⟨i.x,8,O⟩) C).trans v8;have al:=K C N.size;have d:=zd ((ud S).trans (N.mono (ud S).size));have r:=(N.block _ (za (ud a0))).trans (ud a0);obtain⟨z0,z1,z2,z3,z4,z5,z6,z7,z8,z9,aB⟩:=z11 r;have zf:=fun j=>zE r j;have zl:=za r;have G:=zd r;clear N r U X;have Y:=zd (And.intro hp (And.intro ab ac));clear hp ab ac))
   all_goals(
    obtain⟨-,aS⟩:=((ud H).later (ud d)).cells2
    have aF:=a6 T (ud d) p (ud Y).1 (ud Y).2.1
    have aG:=a6 T.drew (ud d).drew p (ud Y).1 (ud Y).2.1
    have ah:=(ud H).later (ud d)
    have ay:¬(i.x=i.b\/i.x=i.qb):=fun e=>by
     rcases e with e|e
     ·exact ah.x_board i.b (.inl rfl) e.symm
     ·exact ah.x_board i.qb (.inr (.inr rfl)) e.symm
    have aN:¬(w.1.size=i.b\/w.1.size=i.qb):=fun e=>by
     rcases e with e|e
     ·have:=(ud H).foot_lt i.b (.inr (.inr (.inl rfl)));omega
     ·have:=(ud H).foot_lt i.qb (.inr (.inr (.inr (.inr rfl))));omega
    have aP:¬i.x=w.1.size:=by have:=(ud H).lt;omega
    have aO:¬w.1.size=i.x:=by have:=(ud H).lt;omega
    clear a6 ah
    cases dn
    ·go_wp2_with fail
     go_region_held3 (fun w'=>w'.cell? ⟨i.x,8,O⟩=some (I J m.now)/\w'.cell? ⟨i.x,10,O⟩=some (.pointer (some ⟨i.b,0,O⟩))) (go_keep) (first
      |(go_at_call 49;(first|(with_reducible refine(ud aF).mono ?_)|(with_reducible refine(ud aG).mono ?_));rintro e R ⟨rfl,ap,M⟩;have a2:zo (fun k=>k=i.b\/k=i.qb) T R:=⟨M.os,M.tape,M.output,M.size,M.block⟩;clear M;have aR:=(zM (i:=10) a2 ay al).trans aA;have r8:=(zM (i:=8) a2 ay al).trans t8;have r:=a2.heap (ud G) aN;obtain⟨y0,y1,y2,y3,y4,y5,y6,y7,y8,y9,aT⟩:=z11 r;have yf:=fun j=>zE r j;have yl:=za r;have aH:=zd r;have aC:=zd ap;have aE:=zd a2;clear r ap a2))
     all_goals(
      go_wp2_with fail
      refine bodyPost_ret (zR results18 _ _ w.1.size _ _ _ _ _ rfl rfl (zbq (ud aH) (I J p.2.kd) (I J p.2.s.t) (I J p.2.s.sr) (I J p.2.s.wa) (I J p.2.se) (I J p.2.ti) (I J p.2.rest) (I J ep) (I J (m.num+1)) (I J slot) (I J (m.now+c.le))) underlying51 rfl (by kernel_rfl)) rfl ?_
      have kT:=KC (w:=R) (g:=w.1.size) (I J p.2.kd) (I J p.2.s.t) (I J p.2.s.sr) (I J p.2.s.wa) (I J p.2.se) (I J p.2.ti) (I J p.2.rest) (I J ep) (I J (m.num+1)) (I J slot) (I J (m.now+c.le))
      have ar:zo (vv i.b i.tb i.qb) T R:=(ud aE).mono (fun k _ e=>e.elim (fun e=> .inl e) (fun e=> .inr (.inr e)))
      have aK:=((ud H).later (ud d)).putBoard (by rw[ud aI];exact ud aC) ar
      have aL:=aK.kept kT (fun k hk e=>by have:=(ud H).foot_lt k hk;omega)
      have aJ:=((zo.of_below (f:=jm i) (ud d)).trans (ar.mono (fun k _ e=> .inr (.inr e))) (fun _ _ e=>e)).trans kT (fun k hk e=>by omega)
      obtain⟨hp,ab,ac⟩:=ud Y
      unfold zbM
      exact .inr (.inr (.inr ⟨p,ud ao,hp,ab,ac,rfl,rfl,aL,aJ⟩)))
    ·go_wp2_with fail
     refine bodyPost_ret (zR results18 _ _ w.1.size _ _ _ _ _ rfl rfl (zbq (ud G) (I J 0) (I J 0) (I J 0) (I J 0) (I J 0) (I J 0) (I J 0) (I J 0) (I J 0) (I J 0) (I J 0)) underlying51 rfl (by kernel_rfl)) rfl ?_
     have kT:=KC (w:=T) (g:=w.1.size) (I J 0) (I J 0) (I J 0) (I J 0) (I J 0) (I J 0) (I J 0) (I J 0) (I J 0) (I J 0) (I J 0)
     have aq:=(ud d).trans (kT.below (ud d).size (fun k e=>by omega))
     unfold zbM
     exact .inr (.inr (.inl ⟨rfl,rfl,aq⟩)))
end Go.Proofs.YtndhpgciopcncaaGreatDoor
