import Derived.Test.YtndhpgciopcncaaGreatDoorHLse0
import Derived.Test.YtndhpgciopcncaaGreatDoorHSml0
import Derived.Shelf.SlSortCmp.NoneTotal
import Derived.Deep.RegionHeld3
import Derived.StillTactics
import Derived.Lib.IndexLaws
open Option renaming some → E
open Go renaming World → G
open Nat renaming lt_of_lt_of_le → C
open Nat renaming le_refl → za
open Go.RowKit renaming Below → zb
open Go.RowKit.Below renaming refl → zz
open Option renaming none → x7
open Go renaming Value → x8
open Nat renaming le_trans → x9
open Go.Value (int)
open Go.IntKind (i32)
set_option linter.unusedVariables false
set_option maxRecDepth 100000
set_option maxHeartbeats 8000000
open Go.Proofs.Tryz
namespace Go.Proofs.YtndhpgciopcncaaGreatDoor
open Go.ChangeMaps (setBlock)
open Go.RowKit Go.Maps Go.Shelf
variable {rl:Bool} {c:Cf} {S:DS} {i:Ids} {ep n now now' rest se sr t ti u:Int} {L:LV} {T1 TL':List (Jk×Tsk)} {Bs Gl:List (Sg×Unit)} {Q1:List (Tok×Lse)} {ns:List Nm} {g:Lse} {m m':MS} {B N b j k nn p ta:Nat} {f:Nat->Prop} {x:Nm} {s:Sg} {fs v z:x8} {D M M1 w w' w5:G}
def zgX(dn:Bool)(w:G)(i:Ids)(c:Cf)(ep:Int)(m:MS)(slot:Int)(e:Ending)(w':G):Prop:=(e=.returned (.tuple #[zdp,I 6])/\zb w.1.size w w'/\m.QL.any (fun p=>p.2.slot==slot)=true)\/(e=.returned (.tuple #[zdp,I 7])/\zb w.1.size w w'/\(∀p∈m.TL,kn m.QL m.now p.2=false)/\m.QL.any (fun p=>p.2.slot==slot)=false)\/(dn=true/\e=.returned (.tuple #[zdp,I 13])/\zb w.1.size w w')\/∃p,m.QL.any (fun p=>p.2.slot==slot)=false/\p∈m.TL/\kn m.QL m.now p.2=true/\VA c m.now (kW (zV m.L) c.qu) m.QL m.TL p.2/\dn=false/\e=.returned (.tuple #[.agg #[I p.2.kd,I p.2.s.t,I p.2.s.sr,I p.2.s.wn,I p.2.se,I p.2.ti,I p.2.rest,I ep,I (m.num+1),I slot,I (m.now+c.le)],I 0])/\xK dn w' i c ep {m with num:=m.num+1,QL:=qj m.QL ⟨ep,m.num+1⟩ ⟨p.2.kd,p.2.s,slot,m.now+c.le⟩}/\zi (Zz i) w w'
theorem zmX{dn:Bool}(h:xK dn w i c ep m)(hc:c.ok)(slot:Int)(aR:0<=slot/\slot<c.s)(ae:0<=m.now/\m.now<=100000)(hT:∀p∈m.TL,YS c m.now p.2)(a4:∀p∈m.TL,p.1=p.2.key)(al:m.QL.length<=100000)(av:0<=m.num/\m.num<=1000000000000000)(aN:xz ep)(hu:0<=zV m.L/\zV m.L<=1000):
  Calls prog 18 #[(O i.x),I slot] w fun e w'=>zgX dn w i c ep m slot e w':=by
 have aj:zb w.1.size w (w.alloc zkj):=(zz _ _).alloc (za _) _;have q0:=zq w zkj;have qz:=zM w zkj;have hX:=h.later aj;obtain⟨a,cap,a5,ay⟩:=h.ts;obtain⟨c0,c1,c2,c3,c4,c5,c6,-,c8,-,ah⟩:=hX.cells;rw[a5]at c6;have F:=hX.lt;have a9:=fun W=>ze (ziC c hc a cap slot W);rw[show inB slot 0 (c.s-1)=true from by rw[jk];omega]at a9
 have Q:=fun W P=>ze (zkE ((h.later (w':=W) P).board) slot al);have ag:=fun W P=>ze (Jp (h.later (w':=W) P) hc hu);have a8:=fun W P=>ze (zfp (a:=a) (cap:=cap) (a5▸(h.later (w':=W) P).board) hc (ay.below P) m.now (kW (zV m.L) c.qu) ae hT al);have a7:=fun W (P:zb w.1.size w W) (p:Jk×Tsk) (hp:p∈m.TL) (hf:kn m.QL m.now p.2=true)=>ze (zix (a:=a) (cap:=cap) (a5▸(h.later (w':=W) P).board) hc p.2 (by have:=xt h.board.td.nodup hp;rw[a4 p hp]at this;exact this) (by have:=h.board.td.wf p hp;rw[a4 p hp]at this;exact this) slot m.now ae al av aN (fun q hq e=>by
  unfold kn kr at hf;simp only[Bool.and_eq_true,Bool.not_eq_true',List.any_eq_false]at hf;exact hf.2 q hq (by simpa[Lse.job]using e)))
 have H:=ze h;have a6:=ze aj;have Q0:=ze q0;have QZ:=ze qz;have aJ:=ze a5;clear h hX aj q0 qz ay a5;go_enter func18,ntmps18;have aw:w.1.size<(w.alloc zkj).1.size:=by rw[ud QZ];omega
 by_cases hbs:m.QL.any (fun p=>p.2.slot==slot)=true
 ·rw[hbs]at Q;go_wp2_with(first
   |(go_at_call 46;refine(ud (a9 _)).mono ?_;rintro e w1 ⟨rfl,l⟩;have an:=(l.cell (p:=(U i.x 10)) F).trans ah;have m8:=(l.cell (p:=(U i.x 8)) F).trans c8;have z:=C F l.size;have A:=ze ((ud a6).trans (l.mono (ud a6).size));have a0:=ze ((l.block _ aw).trans (ud Q0));clear l)
   |(go_at_call 47;refine(ud (Q _ (ud A))).mono ?_;rintro e T ⟨rfl,u⟩;have d:=ze ((ud A).trans (u.mono (ud A).size));have r:=(u.block _ (zd (ud a0))).trans (ud a0);obtain⟨z0,z1,z2,z3,z4,z5,z6,z7,z8,z9,aC⟩:=z11 r;have zf:=fun j=>zw r j;have zl:=zd r;have K:=ze r;clear u r))
  refine bodyPost_ret (xa results18 _ _ w.1.size _ _ _ _ _ rfl rfl (zdG (ud K) (I 0) (I 0) (I 0) (I 0) (I 0) (I 0) (I 0) (I 0) (I 0) (I 0) (I 0)) underlying51 rfl (by kernel_rfl)) rfl ?_;have kT:=zbv (w:=T) (g:=w.1.size) (I 0) (I 0) (I 0) (I 0) (I 0) (I 0) (I 0) (I 0) (I 0) (I 0) (I 0);unfold zgX;exact .inl ⟨rfl,(ud d).trans (kT.below (ud d).size (fun k e=>by omega)),hbs⟩
 ·have ak:m.QL.any (fun p=>p.2.slot==slot)=false:=by simpa using hbs
  rw[ak]at Q;have ap:=ze ak;clear hbs ak;go_wp2_with(first
   |(go_at_call 46;refine(ud (a9 _)).mono ?_;rintro e w1 ⟨rfl,l⟩;have an:=(l.cell (p:=(U i.x 10)) F).trans ah;have m8:=(l.cell (p:=(U i.x 8)) F).trans c8;have z:=C F l.size;have A:=ze ((ud a6).trans (l.mono (ud a6).size));have a0:=ze ((l.block _ aw).trans (ud Q0));clear l)
   |(go_at_call 47;refine(ud (Q _ (ud A))).mono ?_;rintro e w2 ⟨rfl,u⟩;have aA:=(u.cell (p:=(U i.x 10)) z).trans an;have n8:=(u.cell (p:=(U i.x 8)) z).trans m8;have v:=C z u.size;have J:=ze ((ud A).trans (u.mono (ud A).size));have af:=ze ((u.block _ (zd (ud a0))).trans (ud a0));clear u))
  have aa:=ag w2 (ud J);have ab:=ag w2.drew (ud J).drew;have ax:w.1.size<w2.1.size:=zd (ud af);clear ag Q a9 c0 c1 c2 c3 c4 c5 c6 c8 ah m8 an F z hT a4;by_cases a2:∀p∈m.TL,kn m.QL m.now p.2=false
  ·have B:=fun W (P:zb w.1.size w W)=>ze ((ud (a8 W P)).mono (fun e W' hh=>(⟨hh.2.elim (fun h=>h.1) (fun⟨p,hp,hf,_⟩=>absurd (a2 p hp) (by rw[hf];simp)),hh.1⟩:e=.returned (.tuple #[.nilIface,.bool false])/\zb W.1.size W W')));have aE:=ze a2;clear a8 a7 a2;go_region_held3 (fun w'=>w'.cell? (U i.x 8)=E (I m.now)/\w'.cell? (U i.x 10)=E (O i.b)) (go_keep) (first
    |(go_at_call 45;(first|(with_reducible refine(ud aa).mono ?_)|(with_reducible refine(ud ab).mono ?_));rintro e V ⟨rfl,o⟩;have hv:zb w2.1.size w2 V:=⟨o.os,o.tape,o.output,o.size,o.block⟩;clear o;have ao:=(hv.cell (p:=(U i.x 10)) v).trans aA;have v8:=(hv.cell (p:=(U i.x 8)) v).trans n8;have D:=C v hv.size;have y:=(ud J).trans (hv.mono (ud J).size);have X:=B V y;have Y:=B V.drew y.drew;have S:=ze y;have a1:=ze ((hv.block _ ax).trans (ud af));clear hv y aa ab B)
    |(go_at_call 48;(first|(with_reducible refine(ud X).mono ?_)|(with_reducible refine(ud Y).mono ?_));rintro e T ⟨rfl,n⟩;have N:zb V.1.size V T:=⟨n.os,n.tape,n.output,n.size,n.block⟩;clear n;have aB:=(N.cell (p:=(U i.x 10)) D).trans ao;have t8:=(N.cell (p:=(U i.x 8)) D).trans v8;have am:=C D N.size;have d:=ze ((ud S).trans (N.mono (ud S).size));have r:=(N.block _ (zd (ud a1))).trans (ud a1);obtain⟨z0,z1,z2,z3,z4,z5,z6,z7,z8,z9,aC⟩:=z11 r;have zf:=fun j=>zw r j;have zl:=zd r;have K:=ze r;clear N r X Y))
   all_goals(
    go_wp2_with fail
    refine bodyPost_ret (xa results18 _ _ w.1.size _ _ _ _ _ rfl rfl (zdG (ud K) (I 0) (I 0) (I 0) (I 0) (I 0) (I 0) (I 0) (I 0) (I 0) (I 0) (I 0)) underlying51 rfl (by kernel_rfl)) rfl ?_
    have kT:=zbv (w:=T) (g:=w.1.size) (I 0) (I 0) (I 0) (I 0) (I 0) (I 0) (I 0) (I 0) (I 0) (I 0) (I 0)
    unfold zgX;exact .inr (.inl ⟨rfl,(ud d).trans (kT.below (ud d).size (fun k e=>by omega)),ud aE,ud ap⟩))
  ·have B:=fun W (P:zb w.1.size w W)=>ze ((ud (a8 W P)).mono (fun e W' hh=>(⟨hh.2.elim (fun h=>absurd h.2 a2) (fun h=>h),hh.1⟩:(∃p,p∈m.TL/\kn m.QL m.now p.2=true/\VA c m.now (kW (zV m.L) c.qu) m.QL m.TL p.2/\e=.returned (.tuple #[(jZz p.2),.bool true]))/\zb W.1.size W W')));clear a8 a2;go_region_held3 (fun w'=>w'.cell? (U i.x 8)=E (I m.now)/\w'.cell? (U i.x 10)=E (O i.b)) (go_keep) (first
    |(go_at_call 45;(first|(with_reducible refine(ud aa).mono ?_)|(with_reducible refine(ud ab).mono ?_));rintro e V ⟨rfl,o⟩;have hv:zb w2.1.size w2 V:=⟨o.os,o.tape,o.output,o.size,o.block⟩;clear o;have ao:=(hv.cell (p:=(U i.x 10)) v).trans aA;have v8:=(hv.cell (p:=(U i.x 8)) v).trans n8;have D:=C v hv.size;have y:=(ud J).trans (hv.mono (ud J).size);have X:=B V y;have Y:=B V.drew y.drew;have S:=ze y;have a1:=ze ((hv.block _ ax).trans (ud af));clear hv y aa ab B)
    |(go_at_call 48;(first|(with_reducible refine(ud X).mono ?_)|(with_reducible refine(ud Y).mono ?_));rintro e T ⟨⟨p,hp,ac,ad,rfl⟩,n⟩;have N:zb V.1.size V T:=⟨n.os,n.tape,n.output,n.size,n.block⟩;clear n;have aB:=(N.cell (p:=(U i.x 10)) D).trans ao;have t8:=(N.cell (p:=(U i.x 8)) D).trans v8;have am:=C D N.size;have d:=ze ((ud S).trans (N.mono (ud S).size));have r:=(N.block _ (zd (ud a1))).trans (ud a1);obtain⟨z0,z1,z2,z3,z4,z5,z6,z7,z8,z9,aC⟩:=z11 r;have zf:=fun j=>zw r j;have zl:=zd r;have K:=ze r;clear N r X Y;have Z:=ze (And.intro hp (And.intro ac ad));clear hp ac ad))
   all_goals(
    obtain⟨-,aT⟩:=((ud H).later (ud d)).cells2
    have aG:=a7 T (ud d) p (ud Z).1 (ud Z).2.1
    have aH:=a7 T.drew (ud d).drew p (ud Z).1 (ud Z).2.1
    have ai:=(ud H).later (ud d)
    have az:¬(i.x=i.b\/i.x=i.qb):=fun e=>by
     rcases e with e|e
     ·exact ai.x_board i.b (.inl rfl) e.symm
     ·exact ai.x_board i.qb (.inr (.inr rfl)) e.symm
    have aO:¬(w.1.size=i.b\/w.1.size=i.qb):=fun e=>by
     rcases e with e|e
     ·have:=(ud H).foot_lt i.b (.inr (.inr (.inl rfl)));omega
     ·have:=(ud H).foot_lt i.qb (.inr (.inr (.inr (.inr rfl))));omega
    have aQ:¬i.x=w.1.size:=by have:=(ud H).lt;omega
    have aP:¬w.1.size=i.x:=by have:=(ud H).lt;omega
    clear a7 ai
    cases dn
    ·go_wp2_with fail
     go_region_held3 (fun w'=>w'.cell? (U i.x 8)=E (I m.now)/\w'.cell? (U i.x 10)=E (O i.b)) (go_keep) (first
      |(go_at_call 49;(first|(with_reducible refine(ud aG).mono ?_)|(with_reducible refine(ud aH).mono ?_));rintro e R ⟨rfl,aq,M⟩;have a3:zi (fun k=>k=i.b\/k=i.qb) T R:=⟨M.os,M.tape,M.output,M.size,M.block⟩;clear M;have aS:=(zL (i:=10) a3 az am).trans aB;have r8:=(zL (i:=8) a3 az am).trans t8;have r:=a3.heap (ud K) aO;obtain⟨y0,y1,y2,y3,y4,y5,y6,y7,y8,y9,aU⟩:=z11 r;have yf:=fun j=>zw r j;have yl:=zd r;have aI:=ze r;have aD:=ze aq;have aF:=ze a3;clear r aq a3))
     all_goals(
      go_wp2_with fail
      refine bodyPost_ret (xa results18 _ _ w.1.size _ _ _ _ _ rfl rfl (zdG (ud aI) (I p.2.kd) (I p.2.s.t) (I p.2.s.sr) (I p.2.s.wn) (I p.2.se) (I p.2.ti) (I p.2.rest) (I ep) (I (m.num+1)) (I slot) (I (m.now+c.le))) underlying51 rfl (by kernel_rfl)) rfl ?_
      have kT:=zbv (w:=R) (g:=w.1.size) (I p.2.kd) (I p.2.s.t) (I p.2.s.sr) (I p.2.s.wn) (I p.2.se) (I p.2.ti) (I p.2.rest) (I ep) (I (m.num+1)) (I slot) (I (m.now+c.le))
      have au:zi (Zc i.b i.tb i.qb) T R:=(ud aF).mono (fun k _ e=>e.elim (fun e=> .inl e) (fun e=> .inr (.inr e)))
      have aL:=((ud H).later (ud d)).putBoard (by rw[ud aJ];exact ud aD) au
      have aM:=aL.kept kT (fun k hk e=>by have:=(ud H).foot_lt k hk;omega)
      have aK:=((zi.of_below (f:=Zz i) (ud d)).trans (au.mono (fun k _ e=> .inr (.inr e))) (fun _ _ e=>e)).trans kT (fun k hk e=>by omega)
      obtain⟨hp,ac,ad⟩:=ud Z
      unfold zgX
      exact .inr (.inr (.inr ⟨p,ud ap,hp,ac,ad,rfl,rfl,aM,aK⟩)))
    ·go_wp2_with fail
     refine bodyPost_ret (xa results18 _ _ w.1.size _ _ _ _ _ rfl rfl (zdG (ud K) (I 0) (I 0) (I 0) (I 0) (I 0) (I 0) (I 0) (I 0) (I 0) (I 0) (I 0)) underlying51 rfl (by kernel_rfl)) rfl ?_
     have kT:=zbv (w:=T) (g:=w.1.size) (I 0) (I 0) (I 0) (I 0) (I 0) (I 0) (I 0) (I 0) (I 0) (I 0) (I 0)
     have ar:=(ud d).trans (kT.below (ud d).size (fun k e=>by omega))
     unfold zgX
     exact .inr (.inr (.inl ⟨rfl,rfl,ar⟩)))
theorem zbb(h:zF w i c ep m)(t:Tok)(b:t.wf)(a:zE m.QL t=x7):
  Calls prog 20 #[(O i.x),.agg #[I t.ep,I t.num]] w (Rz w (I 8)):=
 VH h.own t b a
theorem zhU(h:zF w i c ep m)(t:Tok)(b:t.wf)(a:zE m.QL t=x7):
  Calls prog 21 #[(O i.x),.agg #[I t.ep,I t.num]] w (Rz w (I 8)):=
 zej h.own t b a
theorem J2(h:zF w i c ep m)(e:c.ok)(a:0<=m.now/\m.now<=100000)(t sr wn:Int)(f: -1<=t/\t<c.n)(b:0<=sr/\sr<4)(d:0<=wn/\wn<=100000):
  Calls prog 57 #[(O i.x),I t,I sr,I wn] w (Rz w (.tuple #[.agg #[I (qY c m.now m.Gl m.L t sr wn).1.cnt,I (qY c m.now m.Gl m.L t sr wn).1.sum,int i32 (qY c m.now m.Gl m.L t sr wn).1.mn,int i32 (qY c m.now m.Gl m.L t sr wn).1.mx],I (qY c m.now m.Gl m.L t sr wn).2])):=
 Kw h.own e a t sr wn f b d
theorem zfW(h:zF w i c ep m)(j:c.ok)(n:Int)(hn:1<=n/\n<=1000)(f:0<=m.now/\m.now+n<=100000)(u:zmF 1000000 100000 m.TL m.QL)(y:∀p∈m.L,inR c p.1)(g:m.L.length<=2000)(k:∀TL' QL',YQ (m.now+n) m.TL m.QL TL' QL'->TL'.length<=50000):
  Calls prog 26 #[(O i.x),I n] w fun e w'=>e=.returned (I 0)/\∃b a TL',zF w' i c ep {m with now:=m.now+n,TL:=TL',QL:=a}/\Kx i w w'/\YQ (m.now+n) m.TL m.QL b a/\(∀p∈a,m.now+n<p.2.til)/\xB c {m with now:=m.now+n,TL:=b,QL:=a} TL':=by
 obtain⟨q,txt,ns,d⟩:=h;obtain⟨D,F⟩:=d.lens j;refine(ziG d.at_ j n hn f u y g k d.hist.okA (by omega) _ (by omega) d.dok ⟨d.st.1,by have:=d.st.2;omega⟩).mono ?_;rintro e w' ⟨A,v⟩;rcases A with⟨l,_⟩|⟨_,B,q',b,a,TL',t,z,o,s,r⟩
 ·rw[d.lay]at l;cases l
 ·exact⟨B,b,a,TL',d.after j (.ticked m ns n b TL' a hn.1 f.2 o s r) (by simp) (by simp) (by simp) (by simp) rfl rfl rfl t z,v,o,s,r⟩
theorem zer(l:List Int):xz (vN l):=by rw[zkh];unfold xz wrap64;omega
theorem zem(b:Cl->Cl->Int):∀(l:List Cl) (o:Option Cl) (z:Cl),l.foldl (jp b) o=E z->o=E z\/z∈l
 |[],o,z,h=> .inl h
 |x::l,o,z,h=>by
  rcases zem b l _ z h with a|a
  ·unfold jp at a;split at a
   ·injection a with a;exact .inr (by simp[a])
   ·split at a
    ·injection a with a;exact .inr (by simp[a])
    ·injection a with a;exact .inl (by rw[a])
  ·exact .inr (by simp[a])
theorem zet{zs:List Cl}(h:∀z∈zs,(-2147483648<=z.mn/\z.mn<=2147483647)/\(-2147483648<=z.mx/\z.mx<=2147483647))(a:Cl->Cl->Int):(-2147483648<=((yd a zs).getD qA).mn/\((yd a zs).getD qA).mn<=2147483647)/\(-2147483648<=((yd a zs).getD qA).mx/\((yd a zs).getD qA).mx<=2147483647):=by
 cases c:yd a zs with
 |none=>show((-2147483648:Int)<=0/\(0:Int)<=2147483647)/\((-2147483648:Int)<=0/\(0:Int)<=2147483647);omega
 |some z=>
  rcases zem a zs x7 z c with b|b
  ·cases b
  ·exact h z b
theorem zjB{wn:Int}{z:Cl}(h:z∈xe c L sr wn k):∃p∈L,p.2.cl=z:=by
 unfold xe qT at h;obtain⟨j,_,a⟩:=List.mem_filterMap.1 h;cases b:ko L ⟨c.F k,sr,wn*qm c k+(j:Int)⟩with
 |none=>rw[b]at a;cases a
 |some v=>rw[b]at a;injection a with a;exact⟨_,vU b,a⟩
theorem ziK(h:∀x∈yJ L Gl,okX x)(s:Sg)(d:s.wf)(sr wn:Int)(k:Nat):okX (s,⟨3,xx (xe c L sr wn k)⟩):=by
 have a:∀z∈xe c L sr wn k,(-2147483648<=z.mn/\z.mn<=2147483647)/\(-2147483648<=z.mx/\z.mx<=2147483647):=fun z e=>by
  obtain⟨p,b,rfl⟩:=zjB e;have:=h p (List.mem_append_left _ b);exact⟨this.mn,this.mx⟩
 exact⟨d,by show xz 3;unfold xz;omega,zer _,zer _,(zet a KB).1,(zet a KC).2⟩
theorem Kz(s:Sg)(a:s.wf)(st:Int)(b:0<=st/\st<=9):okX (s,⟨st,qA⟩):=
 ⟨a,by show xz st;unfold xz;omega,by show xz 0;unfold xz;omega,by show xz 0;unfold xz;omega,by show(-2147483648:Int)<=0/\(0:Int)<=2147483647;omega,by show(-2147483648:Int)<=0/\(0:Int)<=2147483647;omega⟩
theorem zbH(e:c.ok)(r:MOk c ep m)(h:∀x∈yJ m.L m.Gl,okX x){tm val:Int}(d:0<=sr/\sr<4)(i:0<=tm/\tm<=100000)(a: -2147483648<=val/\val<=2147483647):(∀x∈qX c m.Gl m.L ⟨sr,tm,val⟩,okX x)/\(qX c m.Gl m.L ⟨sr,tm,val⟩).length<=1000:=by
 have w:=e.n1;have y:=e.n4;have b:=fun(t:Int) (k: -1<=t) (q:t<c.n)=>zjr e (x:=⟨sr,tm,val⟩) d i k q;refine⟨fun x g=>?_,?_⟩
 ·rcases List.mem_cons.1 g with rfl|g
  ·have o:=(b (-1) (by omega) (by omega)).1;unfold zmZ;cases l:ko m.L (xr c ⟨sr,tm,val⟩)with
   |none=>exact⟨o,by show xz 1;unfold xz;omega,by show xz 1;unfold xz;omega,by show xz val;unfold xz;omega,a,a⟩
   |some v=>
    obtain⟨_,B,D,F,H⟩:=MOk.rawAt r.seg e l
    have p:=h _ (List.mem_append_left _ (vU l))
    have z:=p.mn;have A:=p.mx
    dsimp only at z A
    refine⟨o,by show xz 1;unfold xz;omega,by show xz (1+v.cl.cnt);unfold xz;omega,by show xz (val+v.cl.sum);unfold xz;omega,?_,?_⟩
    ·show-2147483648<=(if v.cl.mn<val then v.cl.mn else val)/\(if v.cl.mn<val then v.cl.mn else val)<=2147483647
     split<;>omega
    ·show-2147483648<=(if val<v.cl.mx then v.cl.mx else val)/\(if val<v.cl.mx then v.cl.mx else val)<=2147483647
     split<;>omega
  ·unfold QD at g;obtain⟨s,f,rfl⟩:=List.mem_map.1 g;have f:=(List.mem_filter.1 f).1;unfold qe at f;obtain⟨j,u,rfl⟩:=List.mem_map.1 f;exact Kz _ (b (j:Int) (by omega) (by have:=List.mem_range.1 u;omega)).1 2 (by omega)
 ·have k:(QD c m.Gl m.L ⟨sr,tm,val⟩ c.n).length<=c.n:=by
   unfold QD;rw[List.length_map];refine x9 (List.length_filter_le _ _) ?_;unfold qe;simp
  show(zmZ c m.L ⟨sr,tm,val⟩::QD c m.Gl m.L ⟨sr,tm,val⟩ c.n).length<=1000;rw[List.length_cons];omega
theorem Ky(c:Cf)(Gl:List (Sg×Unit))(L:LV)(y:Nm):∀x∈qX c Gl L y,okN x:=fun x a=>by
 unfold qX at a;rcases List.mem_cons.1 a with rfl|a
 ·intro e;have b:(1:Int)=2\/(1:Int)=4:=e;omega
 ·unfold QD at a;obtain⟨s,_,rfl⟩:=List.mem_map.1 a;exact fun _=>rfl
theorem zaa(c:Cf)(Gl:List (Sg×Unit))(L:LV)(y:Nm):((qX c Gl L y).map (·.1)).Nodup:=by
 have e:(qX c Gl L y).map (·.1)=xr c y::(qe c y.sr y.tm c.n).filter (fun s=>(stG Gl L s).st==0):=by
  unfold qX QD;rw[List.map_cons,List.map_map];congr 1;exact List.map_id _
 have i:∀s∈qe c y.sr y.tm c.n,0<=s.t:=fun s d=>by
  unfold qe at d;obtain⟨j,_,rfl⟩:=List.mem_map.1 d;show(0:Int)<=(j:Int);omega
 rw[e,List.nodup_cons];refine⟨fun g=>?_,?_⟩
 ·have k:=i _ (List.mem_filter.1 g).1;have l:(xr c y).t= -1:=rfl;omega
 ·have h:(qe c y.sr y.tm c.n).Nodup:=by
   unfold qe;rw[List.nodup_iff_pairwise_ne,List.pairwise_map];refine List.Pairwise.imp ?_ (List.nodup_iff_pairwise_ne.1 List.nodup_range);intro a b f d;have:(a:Int)=(b:Int):=congrArg Sg.t d;omega
  exact h.filter _
theorem zdq{v:SV}(h:¬(v.st=2\/v.st=4)):∀y∈([(s,v)]:List SX),okN y:=fun y a e=>by
 rw[List.mem_singleton]at a;subst a;exact absurd e h
theorem zow(h:zF w i c ep m)(j:c.ok)(sr tm val:Int)(a:0<=sr/\sr<4)(f:0<=tm/\tm<=m.now)(o:m.now-c.la<=tm)(s:m.now<=100000)(b: -2147483648<=val/\val<=2147483647)(T:0<=zV m.L/\zV m.L<=1000)(u:zpv m.L)(r:∀k:Nat,k<c.n->zE m.Gl (qO c sr tm k)=x7)(l:zV m.L+(1+2*yn c m.L ⟨sr,tm,val⟩ c.n)<=c.qu)(D:m.L.length<=1000000)(F:∀p∈m.L,p.1.t= -1->p.2.cl.small):
  Calls prog 27 #[(O i.x),I sr,I tm,int i32 val] w fun e w'=>e=.returned (I 0)/\zF w' i c ep {m with L:=yv c m.L ⟨sr,tm,val⟩}/\Kx i w w':=by
 obtain⟨q,txt,ns,d⟩:=h;obtain⟨R,S⟩:=d.lens j;have N:=d.hist.sok j;obtain⟨g,v⟩:=zbH j N.ok d.hist.okA a ⟨f.1,by omega⟩ b;have B:=Jf (c:=c) (Gl:=m.Gl) (L:=m.L) (x:=⟨sr,tm,val⟩) u r;refine(zpS d.at_ j sr tm val a f o s b T u r l F g (vY _ _ _ d.hist.okA g) v (by omega) (by omega) _ (by omega) d.dok ⟨d.st.1,by have:=d.st.2;omega⟩).mono ?_;rintro e w' ⟨P,J⟩;obtain⟨Q,q',H,M⟩:=kA P (d.lay _);have A:m.took m.now (qX c m.Gl m.L ⟨sr,tm,val⟩)={m with L:=yv c m.L ⟨sr,tm,val⟩}:=by unfold MS.took;rw[B]
 have K:({m with L:=yv c m.L ⟨sr,tm,val⟩}:MS).L=(m.took m.now (qX c m.Gl m.L ⟨sr,tm,val⟩)).L:=by rw[A]
 have y:({m with L:=yv c m.L ⟨sr,tm,val⟩}:MS).Gl=(m.took m.now (qX c m.Gl m.L ⟨sr,tm,val⟩)).Gl:=by rw[A]
 have z:zO w' i c ep {m with L:=yv c m.L ⟨sr,tm,val⟩} q':=by rw[<-A];exact M
 exact⟨Q,d.after j (.added m ns ⟨sr,tm,val⟩ a f o b l) g (Ky c m.Gl m.L _) (zaa c m.Gl m.L _) v rfl K y H z,J⟩
theorem ziF(h:zF w i c ep m)(o:c.ok)(slot:Int)(n:0<=slot/\slot<c.s)(f:0<=m.now/\m.now<=100000)(A:∀p∈m.TL,YS c m.now p.2)(l:m.QL.length<=100000)(g:0<=m.num/\m.num<=1000000000000000)(k:xz ep)(F:∀q∈m.QL,q.1.num<=m.num)(H:0<=zV m.L/\zV m.L<=1000):
  Calls prog 18 #[(O i.x),I slot] w fun e w'=>(e=.returned (.tuple #[zdp,I 6])/\zb w.1.size w w'/\m.QL.any (fun p=>p.2.slot==slot)=true)\/(e=.returned (.tuple #[zdp,I 7])/\zb w.1.size w w'/\∀p∈m.TL,kn m.QL m.now p.2=false)\/∃p,p∈m.TL/\kn m.QL m.now p.2=true/\e=.returned (.tuple #[.agg #[I p.2.kd,I p.2.s.t,I p.2.s.sr,I p.2.s.wn,I p.2.se,I p.2.ti,I p.2.rest,I ep,I (m.num+1),I slot,I (m.now+c.le)],I 0])/\zF w' i c ep {m with num:=m.num+1,QL:=qj m.QL ⟨ep,m.num+1⟩ ⟨p.2.kd,p.2.s,slot,m.now+c.le⟩}/\Kx i w w':=by
 obtain⟨q,txt,ns,j⟩:=h;have z:=j.hist.sok o;have B:xK false w i c ep m:=by have:=j.at_.own;rw[j.up]at this;exact this
 refine(zmX B o slot n f A (fun p D=>(z.ok.td p D).key) l g k H).mono ?_;rintro e w' (⟨a,b,d⟩|⟨a,b,d,r⟩|⟨a,_⟩|⟨p,a,b,d,r,_,u,v,y⟩)
 ·exact .inl ⟨a,b,d⟩
 ·exact .inr (.inl ⟨a,b,d⟩)
 ·cases a
 ·exact .inr (.inr ⟨p,b,d,u,j.quiet (.taken m ns p slot b d) rfl rfl rfl v y⟩)
theorem zcQ(h:zF w i c ep m)(l:c.ok)(t:Tok)(X:t.wf)(B:zE m.QL t=E g)(T:g.job.wf)(s:Sg)(se ti rest:Int)(J:zE m.TL g.job=E ⟨true,s,se,ti,rest⟩)(H:inR c s)(k:Nat)(D:s.t=k)(F:m.L.length<=1000)(S:m.Gl.length<=1000000000)(n:∀p∈qS m.L s ⟨3,xx (xe c m.L s.sr s.wn k)⟩,inR c p.1)(b:(qS m.L s ⟨3,xx (xe c m.L s.sr s.wn k)⟩).length<=2000)(j:0<=m.now/\m.now<=100000)(v:m.TL.length<=50000):
  Calls prog 20 #[(O i.x),.agg #[I t.ep,I t.num]] w fun e w'=>e=.returned (I 0)/\∃TL',zF w' i c ep {m with L:=qS m.L s ⟨3,xx (xe c m.L s.sr s.wn k)⟩,Gl:=m.Gl,TL:=TL',QL:=zT m.QL t}/\Kx i w w'/\xB c {m with L:=qS m.L s ⟨3,xx (xe c m.L s.sr s.wn k)⟩,Gl:=m.Gl,TL:=zT m.TL g.job,QL:=zT m.QL t} TL':=by
 obtain⟨q,txt,ns,a⟩:=h;obtain⟨U,V⟩:=a.lens l;have f:∀y∈([(s,⟨3,xx (xe c m.L s.sr s.wn k)⟩)]:List SX),okX y:=fun y K=>by
  rw[List.mem_singleton]at K;subst K;exact ziK a.hist.okA s H.1 _ _ _
 have r:m.took m.now [(s,⟨3,xx (xe c m.L s.sr s.wn k)⟩)]={m with L:=qS m.L s ⟨3,xx (xe c m.L s.sr s.wn k)⟩,Gl:=m.Gl}:=by unfold MS.took qr;simp only[List.foldl_cons,List.foldl_nil];unfold jn;rfl
 have d:(m.took m.now [(s,⟨3,xx (xe c m.L s.sr s.wn k)⟩)]).L=qS m.L s ⟨3,xx (xe c m.L s.sr s.wn k)⟩:=by rw[r]
 have u:(m.took m.now [(s,⟨3,xx (xe c m.L s.sr s.wn k)⟩)]).Gl=m.Gl:=by rw[r]
 refine(JA a.at_ l t X B T _ J [(s,⟨3,xx (xe c m.L s.sr s.wn k)⟩)] (fun W Q=>ze (zbf (a.at_.later Q).own l s H k D)) j v f (vY _ _ _ a.hist.okA f) (by simp) (by omega) (by omega) _ (by omega) a.dok ⟨a.st.1,by have:=a.st.2;omega⟩ (by rw[d];exact n) (by rw[d];exact b)).mono ?_;rintro e w' ⟨P,N⟩;rcases P with⟨z,_⟩|⟨_,R,q',TL',M,A,o⟩
 ·rw[a.lay]at z;cases z
 ·rw[r]at A o;exact⟨R,TL',a.after l (.rolled m ns t g s se ti rest k TL' B J D o) f (zdq (by show¬((3:Int)=2\/(3:Int)=4);omega)) (by simp) (by simp) rfl d.symm u.symm M A,N,o⟩
theorem Vk(h:zF w i c ep m)(o:c.ok)(t:Tok)(U:t.wf)(B:zE m.QL t=E g)(Q:g.job.wf)(s:Sg)(se ti rest:Int)(F:zE m.TL g.job=E ⟨false,s,se,ti,rest⟩)(T:inR c s)(D:m.L.length<=1000)(P:m.Gl.length<=1000000000)(l:∀p∈zT m.L s,inR c p.1)(b:(zT m.L s).length<=2000)(j:0<=m.now/\m.now<=100000)(v:m.TL.length<=50000):
  Calls prog 20 #[(O i.x),.agg #[I t.ep,I t.num]] w fun e w'=>e=.returned (I 0)/\∃TL',zF w' i c ep {m with L:=zT m.L s,Gl:=qj m.Gl s (),TL:=TL',QL:=zT m.QL t}/\Kx i w w'/\xB c {m with L:=zT m.L s,Gl:=qj m.Gl s (),TL:=zT m.TL g.job,QL:=zT m.QL t} TL':=by
 obtain⟨q,txt,ns,a⟩:=h;obtain⟨R,S⟩:=a.lens o;have f:∀y∈([(s,⟨4,qA⟩)]:List SX),okX y:=fun y k=>by
  rw[List.mem_singleton]at k;subst k;exact Kz s T.1 4 (by omega)
 have r:m.took m.now [(s,⟨4,qA⟩)]={m with L:=zT m.L s,Gl:=qj m.Gl s ()}:=by unfold MS.took qr;simp only[List.foldl_cons,List.foldl_nil];unfold jn;rfl
 have d:(m.took m.now [(s,⟨4,qA⟩)]).L=zT m.L s:=by rw[r]
 have u:(m.took m.now [(s,⟨4,qA⟩)]).Gl=qj m.Gl s ():=by rw[r]
 refine(JA a.at_ o t U B Q _ F [(s,⟨4,qA⟩)] (fun W M=>ze (zbe (a.at_.later M).own s)) j v f (vY _ _ _ a.hist.okA f) (by simp) (by omega) (by omega) _ (by omega) a.dok ⟨a.st.1,by have:=a.st.2;omega⟩ (by rw[d];exact l) (by rw[d];exact b)).mono ?_;rintro e w' ⟨K,J⟩;rcases K with⟨z,_⟩|⟨_,N,q',TL',H,A,n⟩
 ·rw[a.lay]at z;cases z
 ·rw[r]at A n;exact⟨N,TL',a.after o (.reclaimed m ns t g s se ti rest TL' B F n) f (fun y k _=>by rw[List.mem_singleton]at k;subst k;rfl) (by simp) (by simp) rfl d.symm u.symm H A,J,n⟩
theorem Jh{base size n:Nat}{e:TypeId}{xs:List x8}(h:w.ownsRow base e size v n xs):w.ownsRow 0 e size v n xs:=kI h (Nat.zero_le _)
theorem zlw{a:G}{m g b l i h j:Nat}{tv:x8}(u:xI a m c tv g b [] [])(r:zC a l c tv ep 0 i h [] [])(n:JAt a j p 0 S fs)(q:Qo a)(a1:g≠i)(a2:g≠h)(a3:b≠i)(a4:b≠h)(hn:∀k,(Z0 m tv g b k\/Zc l i h k\/Zt j p fs k)->k≠vR):
  zO (a.alloc (.cells #[I c.s,I c.le,I c.la,I c.wi,I c.ke,I c.qu,tv,I ep,I 0,(O m),(O l),(O j),.bool false] 94)) ⟨a.1.size,m,g,b,l,i,h,tv,j,p⟩ c ep ms0 ⟨0,S,false⟩:=by
 have d:∀o,zb a.1.size a (a.alloc o):=fun o=>(zz _ _).alloc (za _) _;have hj':=fun o=>(⟨(((d o).block _ (zd n.head)).trans n.head),n.disk.later (d o)⟩:JAt (a.alloc o) j p 0 S fs);refine⟨zq _ _,u.kept (zi.of_below (f:=fun _=>False) (d _)) (fun _ _ e=>e),r.later (d _),⟨fs,hj' _⟩,Za q (d _),a1,a2,a3,a4,fun k t=>?_⟩;rcases t with(e|e|e|e|e)|e
 ·have w:=q.lt;have v:k=a.1.size:=e;omega
 ·exact hn k (.inl e)
 ·exact hn k (.inr (.inl e))
 ·exact hn k (.inr (.inr (.inl e)))
 ·exact hn k (.inr (.inr (.inr (.inl e))))
 ·exact hn k (.inr (.inr (.inr (.inr ((hj' _).fsB.symm.trans e)))))
structure Kb(i:Ids)(b:Nat)(w w':G):Prop where
 kept:zi (fun k=>zt w i k\/k=b) w w'
 fs:∀k,fsB w' i.d=E k->fsB w i.d=E k\/w.1.size<=k
theorem Kx.kb(h:Kx i w w')(b:Nat):Kb i b w w':=⟨h.kept.mono (fun _ _ e=> .inl e),h.fs⟩
theorem Kx.behind{w1 w2:G}(h:Kx i w w1)(k:Kb i b w1 w2)(d:w.1.size<=b):Kx i w w2:=
 ⟨h.kept.trans k.kept (fun j c e=>by
  rcases e with(e|e)|e
  ·exact .inl e
  ·rcases h.fs j e with a|a
   ·exact .inr a
   ·omega
  ·omega),fun j c=>by
  rcases k.fs j c with a|a
  ·exact h.fs j a
  ·exact .inr (x9 h.size a)⟩
def XO(c:Cf)(T:ByteArray)(m':MS)(A:Ids->G->Prop):Prop:=∀(W:G) (i:Ids) (ep:Int) (q:JM) (b:Nat),zO W i c ep ms0 q->W.1[b]?=E (.cells #[.string T] 9 (0,0))->¬zt W i b->A i W->Calls prog 71 #[(O i.x),.func (.func 202) #[] #[(O b)]] W fun e w'=>e=.returned (.tuple #[])/\zO w' i c ep m' q/\Kb i b W w'
theorem zni(h:DOk S N):DOk (Zb S) (N+5):=by
 have b:Vq.size=1:=rfl;have a:=jv h qh Vq;rw[b]at a;unfold Zb;split
 ·exact kX a (by omega)
 ·exact kX (Ys a _) (by omega)
def zqw(c:Cf)(p:Nat)(S:DS)(fs:x8)(m':MS)(w:G)(e:Ending)(w':G):Prop:=
 ∃(i:Ids) (ys:List SX) (TL':List (Jk×Tsk)),i.d=p/\e=.returned (.tuple #[(O i.x),I 0])/\ys.Perm (yJ m'.L m'.Gl)/\zO w' i c (zdY S) {m' with TL:=TL'} ⟨Vu (Zb S) (xm m'.now ys) 0,Xj (Zb S) (xm m'.now ys),false⟩/\xB c m' TL'/\zi (foot p fs) w w'/\(∀k,zt w' i k->foot p fs k\/w.1.size<=k)
theorem zmY(c:Cf)(hc:c.ok)(hr:qd c.s c.le c.la c.wi c.ke c.qu c.n c.F c.W c.K=true)(a:Option Addr)(cap p:Nat)(S:DS)(fs:x8)(w:G)(hd:Yt w p S fs)(N:Nat)(hN:N<=900000000000)(bl:DOk S N)(bb:YT S=true)(aA:∀w',zi (foot p fs) w w'->TS w' a c.n c.F c.W c.K)(ao:Qo w)(bp:∀k,foot p fs k->k≠vR)(m':MS)(A:Ids->G->Prop)(aC:∀i W,zi (foot p fs) w W->(∀k,zt W i k->foot p fs k\/w.1.size<=k)->A i W)(aS:XO c ((yh (Zb S) xY).extract 0 (JC (yh (Zb S) xY))) m' A)(bk:0<=m'.now/\m'.now<=100000)(am:∀x∈yJ m'.L m'.Gl,okX x)(bM:m'.L.length<=2000)(bV:m'.Gl.length<=49000000)(hL:∀p∈m'.L,inR c p.1)(bO:m'.TL.length<=50000)(bm:∀ys,ys.Perm (yJ m'.L m'.Gl)->QJ (Zb S) (xm m'.now ys)=true):
  Calls prog 29 #[(cZz c a cap),(O p)] w (zqw c p S fs m' w):=by
 have al:=zni bl;have ay:zb w.1.size w (w.alloc (.cells (aZz c a cap) 27)):=(zz _ _).alloc (za _) _;have bt:=ze (zq w (.cells (aZz c a cap) 27));have HR:=ze (JY c.s c.le c.la c.wi c.ke c.qu a c.n cap c.F c.W c.K _ (aA _ (zi.of_below ay)));rw[hr,show zmK true=0 from rfl]at HR;have aD:=ze ay;have HD:=ze hd;have bz:=ze aA;have ah:=ze ao;have aV:=ze bp;have ag:=ze aS;have ae:=ze aC;have aR:=ze am;have bu:=ze hL;have aU:=ze bm;have af:=ze al;have bW:=hd.lt;clear hd aA ay ao bp aS aC am hL bm al;go_enter func29,ntmps29;go_wp2_with fail;refine(ud HR).mono ?_;rintro e w1 ⟨rfl,az⟩;have a4:=(ud aD).trans (az.mono (ud aD).size);have aO:=ze ((az.block w.1.size (by rw[zM];omega)).trans (ud bt));have aq:=ze (zhw ((ud HD).later a4) N (by omega) bl);rw[bb]at aq;have aX:=ze a4;clear az a4 HR;go_wp2_with fail;refine(ud aq).mono ?_;rintro e w2 ⟨rfl,aw,bc,ad,bd⟩;have bY:=(ud aX).size;have bH:¬foot p fs w.1.size:=by
  rintro(h|h)
  ·omega
  ·have:=zqc (ud HD).row _ h;omega
 have ak:=ad.heap (ud aO) bH;have a6:zi (foot p fs) w w2:=(zi.of_below (ud aX)).trans ad (fun _ _ h=>h);obtain⟨z0,z1,z2,z3,z4,z5,z6,-⟩:=zc ak;have aP:=ze (zlt c hc a cap w2 (ud bz _ a6));have bZ:=ad.size;have Z:=ze a6;have aJ:=ze bc;have aK:=ze bd;clear bc ad bd a6 ak aO aq;go_wp2_with fail;refine(ud aP).mono ?_;rintro e d ⟨g,b,rfl,a7,b9⟩;have aQ:=ze a7;have ap:=ze b9;clear a7 b9 z0 z1 z2 z3 z4 z5 z6 aP;go_wp2_with fail;have ba:=(ud ap).alloc (ud ap).size (.cells (aZz c (E (U g 0)) b) 89);have bi:=zq d (.cells (aZz c (E (U g 0)) b) 89);have bq:=zM d (.cells (aZz c (E (U g 0)) b) 89);have ar:=ze ((ud aQ).alloc (.cells (aZz c (E (U g 0)) b) 89));generalize(d.alloc (.cells (aZz c (E (U g 0)) b) 89))=X at*;obtain⟨x0,x1,x2,x3,x4,x5,x6,-⟩:=zc bi;have v:d.1.size<X.1.size:=by omega
 have HS:=fun W=>ze (zlY c (E (U g 0)) b W);have HJ:=fun W=>ze (zkD c (E (U g 0)) b (zdY S) W);have aM:=fun W=>ze (zfI p W);have a8:=ze ba;have bA:=ze bq;clear ba bi bq;go_region_held3 (fun w'=>w'.cell? (U d.1.size 0)=E (I c.s)/\w'.cell? (U d.1.size 1)=E (I c.le)/\w'.cell? (U d.1.size 2)=E (I c.la)/\w'.cell? (U d.1.size 3)=E (I c.wi)/\w'.cell? (U d.1.size 4)=E (I c.ke)/\w'.cell? (U d.1.size 5)=E (I c.qu)/\w'.cell? (U d.1.size 6)=E (.slice (E (U g 0)) c.n b)) (go_keep) (first
  |(go_at_call 68;(with_reducible refine(ud (HS _)).mono ?_);rintro e V ⟨Y,q,r,rfl,D,b2,b3,b4,v1,v2,v3,v4⟩;have m:zb X.1.size X V:=⟨v4.os,v4.tape,v4.output,v4.size,v4.block⟩;have aF:Hid (X.1.size<=Y/\X.1.size<=q/\X.1.size<=r):=⟨D,b2,b3⟩;have B4:=ze b4;have V1:=ze v1;have V2:=ze v2;have V3:=ze v3;clear v1 v2 v3 v4 D b2 b3 b4;have y0:Cz V d.1.size 0 (I c.s):=(m.cell (p:=(U d.1.size 0)) v).trans x0;have y1:Cz V d.1.size 1 (I c.le):=(m.cell (p:=(U d.1.size 1)) v).trans x1;have y2:Cz V d.1.size 2 (I c.la):=(m.cell (p:=(U d.1.size 2)) v).trans x2;have y3:Cz V d.1.size 3 (I c.wi):=(m.cell (p:=(U d.1.size 3)) v).trans x3;have y4:Cz V d.1.size 4 (I c.ke):=(m.cell (p:=(U d.1.size 4)) v).trans x4;have y5:Cz V d.1.size 5 (I c.qu):=(m.cell (p:=(U d.1.size 5)) v).trans x5;have y6:Cz V d.1.size 6 (.slice (E (U g 0)) c.n b):=(m.cell (p:=(U d.1.size 6)) v).trans x6;have u:d.1.size<V.1.size:=C v m.size;have aI:=ze m;clear m HS)
  |(go_at_call 69;(with_reducible refine(ud (HJ _)).mono ?_);rintro e J ⟨D,z,y,rfl,d1,d2,d3,u1,u4⟩;have l:zb V.1.size V J:=⟨u4.os,u4.tape,u4.output,u4.size,u4.block⟩;have aE:Hid (V.1.size<=D/\V.1.size<=z/\V.1.size<=y):=⟨d1,d2,d3⟩;have U1:=ze u1;clear u1 u4 d1 d2 d3;have z0:Cz J d.1.size 0 (I c.s):=(l.cell (p:=(U d.1.size 0)) u).trans y0;have z1:Cz J d.1.size 1 (I c.le):=(l.cell (p:=(U d.1.size 1)) u).trans y1;have z2:Cz J d.1.size 2 (I c.la):=(l.cell (p:=(U d.1.size 2)) u).trans y2;have z3:Cz J d.1.size 3 (I c.wi):=(l.cell (p:=(U d.1.size 3)) u).trans y3;have z4:Cz J d.1.size 4 (I c.ke):=(l.cell (p:=(U d.1.size 4)) u).trans y4;have z5:Cz J d.1.size 5 (I c.qu):=(l.cell (p:=(U d.1.size 5)) u).trans y5;have z6:Cz J d.1.size 6 (.slice (E (U g 0)) c.n b):=(l.cell (p:=(U d.1.size 6)) u).trans y6;have t:d.1.size<J.1.size:=C u l.size;have aH:=ze l;clear l HJ)
  |(go_at_call 70;(with_reducible refine(ud (aM _)).mono ?_);rintro e T ⟨Q,rfl,d1,t1,t4⟩;have j:zb J.1.size J T:=⟨t4.os,t4.tape,t4.output,t4.size,t4.block⟩;have aL:Hid (J.1.size<=Q):=d1;have T1:=ze t1;clear t1 t4 d1;have t0:Cz T d.1.size 0 (I c.s):=(j.cell (p:=(U d.1.size 0)) t).trans z0;have t1:Cz T d.1.size 1 (I c.le):=(j.cell (p:=(U d.1.size 1)) t).trans z1;have t2:Cz T d.1.size 2 (I c.la):=(j.cell (p:=(U d.1.size 2)) t).trans z2;have t3:Cz T d.1.size 3 (I c.wi):=(j.cell (p:=(U d.1.size 3)) t).trans z3;have t4:Cz T d.1.size 4 (I c.ke):=(j.cell (p:=(U d.1.size 4)) t).trans z4;have t5:Cz T d.1.size 5 (I c.qu):=(j.cell (p:=(U d.1.size 5)) t).trans z5;have t6:Cz T d.1.size 6 (.slice (E (U g 0)) c.n b):=(j.cell (p:=(U d.1.size 6)) t).trans z6;have bN:d.1.size<T.1.size:=C t j.size;have aG:=ze j;clear j aM))
 go_wp2_with fail;have m:=ud aI;have l:=ud aH;have j:=ud aG;have a3:=(ud a8).trans (m.mono (ud a8).size);have a2:=a3.trans (l.mono a3.size);have B:=a2.trans (j.mono a2.size);have a1:=l.trans (j.mono l.size);have bF:=m.size;have bE:=l.size;have bD:=j.size;have bB:=(ud a8).size;obtain⟨s0,s9,s8⟩:=ud aF;obtain⟨j0,j9,j8⟩:=ud aE;have bR:=ud aL;have bn:=zd (ud V1);have bh:q<V.1.size:=(ud V2).lt;have bI:=(ud V3).lt;have bG:=(ud U1).foot_lt;obtain⟨P,bS,bf,bJ,bL⟩:=(ud ar).form (by have:=hc.n1;omega);have bK:P=g:=by injection bf with h1 _ _;injection h1 with h1;injection h1 with h1;exact h1.symm
 subst bK;have an:xI T Y c (.slice (E (U P 0)) c.n b) q r [] []:=⟨((a1.block _ bn).trans (ud V1)),xp (xp (Jh (ud ar)) m) a1,(ud V2).later a1,(ud V3).later a1,ud B4⟩;have a5:JAt T Q p 0 (Zb S) aw:=⟨ud T1,(ud aJ).later B⟩;have bo:Qo T:=Za ((ud ah).kept (ud Z) (fun e=>ud aV _ e rfl)) B;have bT:=(ud ah).lt;have o:∀k,(Z0 Y (.slice (E (U P 0)) c.n b) q r k\/Zc D z y k\/Zt Q p aw k)->foot p fs k\/w.1.size<=k:=fun k hk=>by
  rcases hk with(e|e|e|e)|(e|e|e)|e|e|e
  ·right;have:k=Y:=e;omega
  ·right;have e':(Value.slice (E (U P 0)) c.n b).ownBlock=E k:=e;simp[Value.ownBlock]at e';subst e';omega
  ·right;have:k=q:=e;omega
  ·right;have:k=r:=e;omega
  ·right;have:k=D:=e;omega
  ·right;have:k=z:=e;omega
  ·right;have:k=y:=e;omega
  ·right;have:k=Q:=e;omega
  ·exact .inl (.inl e)
  ·rcases ud aK k e with h|h
   ·exact .inl (.inr h)
   ·right;omega
 have ac:=zlw an ((ud U1).later j) a5 bo (show q≠z by omega) (show q≠y by omega) (show r≠z by omega) (show r≠y by omega) (fun k hk=>by
  rcases o k hk with h|h
  ·exact ud aV k h
  ·omega)
 have aj:=B.alloc B.size (.cells #[I c.s,I c.le,I c.la,I c.wi,I c.ke,I c.qu,.slice (E (U P 0)) c.n b,I (zdY S),I 0,(O Y),(O D),(O Q),.bool false] 94);have ai:zb T.1.size T (T.alloc (.cells #[I c.s,I c.le,I c.la,I c.wi,I c.ke,I c.qu,.slice (E (U P 0)) c.n b,I (zdY S),I 0,(O Y),(O D),(O Q),.bool false] 94)):=(zz _ _).alloc (za _) _;have bC:=zM T (.cells #[I c.s,I c.le,I c.la,I c.wi,I c.ke,I c.qu,.slice (E (U P 0)) c.n b,I (zdY S),I 0,(O Y),(O D),(O Q),.bool false] 94);generalize T.alloc (.cells #[I c.s,I c.le,I c.la,I c.wi,I c.ke,I c.qu,.slice (E (U P 0)) c.n b,I (zdY S),I 0,(O Y),(O D),(O Q),.bool false] 94)=M at*;obtain⟨bU,bg⟩:=ac.jrn;have aT:=ze (zdB bg.disk (N+5) (by omega) (ud af));have be:∀k,zt M ⟨T.1.size,Y,q,r,D,z,y,.slice (E (U P 0)) c.n b,Q,p⟩ k->foot p fs k\/w.1.size<=k:=fun k hk=>by
  rcases hk with(e|e|e|e|e)|e
  ·right;have:k=T.1.size:=e;omega
  ·exact o k (.inl e)
  ·exact o k (.inr (.inl e))
  ·exact o k (.inr (.inr (.inl e)))
  ·exact o k (.inr (.inr (.inr (.inl e))))
  ·have e2:fsB M p=aw.ownBlock:=by
    have hx:=(a5.disk.later ai).c0;unfold fsB;rw[hx];rfl
   exact o k (.inr (.inr (.inr (.inr (e2.symm.trans e)))))
 have aB:zi (foot p fs) w M:=(ud Z).trans (zi.of_below (f:=foot p fs) aj) (fun _ _ h=>h);have aY:=ze aB;have a9:=ze be;have aa:=ze ac;have bX:=ac.lt;have c1:w.1.size<=M.1.size:=aB.size;clear ac aB be bg o an a5 bo ai bC aj B a2 a3 a1 m l j bG bf bJ bL bn bh bI s0 s9 s8 j0 j9 j8 bR bF bE bD bB v u t bN aI aH aG a8 bA ar aQ ap aJ aK Z V1 V2 V3 U1 T1 aF aE aL B4 x0 x1 x2 x3 x4 x5 x6 y0 y1 y2 y3 y4 y5 y6 z0 z1 z2 z3 z4 z5 z6 t0 t1 t2 t3 t4 t5 t6;refine(ud aT).mono ?_;rintro e R ⟨rfl,hR⟩;have H:zb M.1.size M R:=by rw[hR];exact(zz _ _).alloc (za _) _
 have bj:R.1[M.1.size]?=E (.cells #[.string ((yh (Zb S) xY).extract 0 (JC (yh (Zb S) xY)))] 9 (0,0)):=by rw[hR];exact zq _ _
 have a0:=ze (ud ag R ⟨T.1.size,Y,q,r,D,z,y,.slice (E (U P 0)) c.n b,Q,p⟩ (zdY S) ⟨0,Zb S,false⟩ M.1.size ((ud aa).later H) bj (XW (ud aa) H) (ud ae _ R ((ud aY).trans (zi.of_below (f:=foot p fs) H) (fun _ _ h=>h)) (fun k hk=>ud a9 k (zbl (ud aa) H k hk))));dsimp only at a0;have aN:=ze (Kx.below (i:=⟨T.1.size,Y,q,r,D,z,y,.slice (E (U P 0)) c.n b,Q,p⟩) H (ud aa).dlt);clear hR H bj aT ag ae;go_wp2_with fail;refine(ud a0).mono ?_;rintro e R2 ⟨rfl,ax,hK2⟩;have av:=ze (J3 ax (by unfold xz;omega) (ud aR) (by omega) (by omega) (N+5) (by omega) (ud af));dsimp only at av;have br:=ze ((ud aN).behind hK2 (za _));have bP:=ax.lt;dsimp only at bP;clear ax hK2 aN a0;go_wp2_with fail;refine(ud av).mono ?_;rintro e R3 ⟨ys,hp,rfl,ab,aZ⟩;rw[ud aU ys hp];have au:=ze (zaf ab.own hc (ud bu) bM bk bO);dsimp only at au;have bx:=ze hp;have bv:=ze ab;have bs:=ze ((ud br).trans aZ);have bQ:=ab.lt;dsimp only at bQ;clear hp ab aZ av;go_wp2_with fail;refine(ud au).mono ?_;rintro e R4 ⟨rfl,TL',b6,b0,b7⟩;have b8:=(ud bv).put b6 b0 (fun k e=> .inr (.inr (.inr (.inl e))));have aW:=ze b8;have bw:=ze b7;clear b8 b6 b0 b7 au;go_wp2_with fail;refine bodyPost_ret (results_tmp2 rfl _ _ _) rfl ?_;have b5:=(ud bs).trans (ud aW).2;refine⟨⟨T.1.size,Y,q,r,D,z,y,.slice (E (U P 0)) c.n b,Q,p⟩,ys,TL',rfl,rfl,ud bx,(ud aW).1,ud bw,(ud aY).trans b5.kept (fun k hk e=>?_),fun k hk=>?_⟩
 ·rcases ud a9 k e with h|h
  ·exact h
  ·omega
 ·rcases hk with e|e
  ·exact ud a9 k (.inl e)
  ·rcases b5.fs k e with h|h
   ·exact ud a9 k (.inr h)
   ·right;omega
def zdP(t:Tok):List x8:=[I t.ep,I t.num]
structure Shp where
 p:Nat
 i:Ids
 d:Nat
 ct:x8
 nv:x8
 kv:x8
 uv:x8
def qo(s:Shp)(k:Nat):Prop:=k=s.p\/s.ct.ownBlock=E k\/s.nv.ownBlock=E k\/s.kv.ownBlock=E k\/s.uv.ownBlock=E k
structure xu(w:G)(B:Nat)(s:Shp)(c:Cf)(ep:Int)(m:MS)(sn:Int)(ns:List Nm)(ks:List Tok)(us:List Int):Prop where
 head:w.1[s.p]?=E (.cells #[(O s.i.x),(O s.d),I c.s,I c.le,I c.la,I c.wi,I c.ke,I c.qu,s.ct,I sn,s.nv,s.kv,s.uv] 44 (0,0))
 mill:zF w s.i c ep m
 crow:w.ownsRow B 80 3 s.ct c.n (ZC c.n c.F c.W c.K)
 nrow:w.ownsRow B 87 3 s.nv ns.length (ns.flatMap nmV)
 krow:w.ownsRow B 49 2 s.kv ks.length (ks.flatMap zdP)
 urow:w.ownsRow B 3 1 s.uv us.length (us.map (I))
 lo:B<=s.p
 mlo:∀j,zt w s.i j->B<=j
 sep:∀j,qo s j->¬zt w s.i j
 dd:s.d=s.i.d
 tb:vR<B
theorem zP(g:zi f w w')(c:¬f i.d)(h:i.d<w.1.size):∀j,zt w' i j->zt w i j:=by
 rintro j (e|e)
 ·exact .inl e
 ·right;have a:=g.block _ h c;have b:fsB w' i.d=fsB w i.d:=by unfold fsB World.cell?;simp only[a]
  rw[<-b];exact e
section
variable {w:G} {B:Nat} {s:Shp} {c:Cf} {ep:Int} {m:MS} {sn:Int} {ns:List Nm} {ks:List Tok} {us:List Int}
theorem xu.lt(h:xu w B s c ep m sn ns ks us):s.p<w.1.size:=zd h.head
theorem xu.foot_lt(h:xu w B s c ep m sn ns ks us):∀j,qo s j->j<w.1.size:=fun j d=>by
 rcases d with rfl|e|e|e|e
 ·exact h.lt
 ·obtain⟨a,b⟩:=zH h.crow e;exact zd b
 ·obtain⟨a,b⟩:=zH h.nrow e;exact zd b
 ·obtain⟨a,b⟩:=zH h.krow e;exact zd b
 ·obtain⟨a,b⟩:=zH h.urow e;exact zd b
theorem xu.foot_lo(h:xu w B s c ep m sn ns ks us):∀j,qo s j->B<=j:=fun j a=>by
 rcases a with rfl|e|e|e|e
 ·exact h.lo
 ·exact(h.crow.lt j e).1
 ·exact(h.nrow.lt j e).1
 ·exact(h.krow.lt j e).1
 ·exact(h.urow.lt j e).1
theorem xu.kept(h:xu w B s c ep m sn ns ks us)(a:zi f w w')(b:∀j,qo s j->¬f j)(g:∀j,zt w s.i j->¬f j)(l:¬f vR):xu w' B s c ep m sn ns ks us:=
 have k:=zP (i:=s.i) a (g _ (.inl (.inr (.inr (.inr (.inr rfl)))))) h.mill.dlt
 ⟨a.heap h.head (b _ (.inl rfl)),h.mill.kept a g l,zh h.crow a (fun j e=>b j (.inr (.inl e))),zh h.nrow a (fun j e=>b j (.inr (.inr (.inl e)))),zh h.krow a (fun j e=>b j (.inr (.inr (.inr (.inl e))))),zh h.urow a (fun j e=>b j (.inr (.inr (.inr (.inr e))))),h.lo,fun j d=>h.mlo j (k j d),fun j d n=>h.sep j d (k j n),h.dd,h.tb⟩
theorem xu.later(h:xu w B s c ep m sn ns ks us)(a:zb w.1.size w w'):xu w' B s c ep m sn ns ks us:=h.kept (f:=fun _=>False) (zi.of_below a) (fun _ _ e=>e) (fun _ _ e=>e) (fun e=>e)
theorem xu.putMill(h:xu w B s c ep m sn ns ks us)(d:zF w' s.i c ep m')(g:Kx s.i w w'):xu w' B s c ep m' sn ns ks us:=
 have b:=g.kept
 have f:∀j,zt w' s.i j->zt w s.i j\/w.1.size<=j:=fun j a=>by
  rcases a with e|e
  ·exact .inl (.inl e)
  ·rcases g.fs j e with e|e
   ·exact .inl (.inr e)
   ·exact .inr e
 ⟨b.heap h.head (h.sep _ (.inl rfl)),d,zh h.crow b (fun j e=>h.sep j (.inr (.inl e))),zh h.nrow b (fun j e=>h.sep j (.inr (.inr (.inl e)))),zh h.krow b (fun j e=>h.sep j (.inr (.inr (.inr (.inl e))))),zh h.urow b (fun j e=>h.sep j (.inr (.inr (.inr (.inr e))))),h.lo,fun j a=>by
  rcases f j a with e|e
  ·exact h.mlo j e
  ·have k:=h.lo;have l:=h.lt;omega,fun j a d=>by
  rcases f j d with e|e
  ·exact h.sep j a e
  ·have:=h.foot_lt j a;omega,h.dd,h.tb⟩
theorem xu.cells(h:xu w B s c ep m sn ns ks us):w.cell? (U s.p 0)=E (O s.i.x)/\w.cell? (U s.p 2)=E (I c.s)/\w.cell? (U s.p 3)=E (I c.le)/\w.cell? (U s.p 4)=E (I c.la)/\w.cell? (U s.p 7)=E (I c.qu)/\w.cell? (U s.p 8)=E s.ct/\w.cell? (U s.p 9)=E (I sn)/\w.cell? (U s.p 10)=E s.nv/\w.cell? (U s.p 11)=E s.kv/\w.cell? (U s.p 12)=E s.uv:=by
 refine⟨?_,?_,?_,?_,?_,?_,?_,?_,?_,?_⟩<;>rw[xR h.head]<;>rfl
theorem xu.dne(h:xu w B s c ep m sn ns ks us):¬s.i.d=s.p:=fun e=>h.sep s.p (.inl rfl) (.inl (.inr (.inr (.inr (.inr e.symm)))))
theorem xu.dnr(h:xu w B s c ep m sn ns ks us)(hv:∀j,v.ownBlock=E j->qo s j):¬v.ownBlock=E s.i.d:=fun e=>h.sep _ (hv _ e) (.inl (.inr (.inr (.inr (.inr rfl)))))
theorem xu.tnr(h:xu w B s c ep m sn ns ks us)(hv:∀j,v.ownBlock=E j->qo s j):¬v.ownBlock=E vR:=fun e=>by have a:=h.foot_lo _ (hv _ e);have b:=h.tb;omega
theorem xu.tnp(h:xu w B s c ep m sn ns ks us):¬vR=s.p:=fun e=>by have a:=h.tb;have b:=h.lo;omega
theorem xu.keptP(h:xu w B s c ep m sn ns ks us)(a:zi (fun k=>k=s.p) w w'):zF w' s.i c ep m/\w'.ownsRow B 80 3 s.ct c.n (ZC c.n c.F c.W c.K)/\w'.ownsRow B 87 3 s.nv ns.length (ns.flatMap nmV)/\w'.ownsRow B 49 2 s.kv ks.length (ks.flatMap zdP)/\w'.ownsRow B 3 1 s.uv us.length (us.map (I)):=
 ⟨h.mill.kept a (fun j b e=>h.sep s.p (.inl rfl) (e▸b)) (fun e=>by have f:=h.tb;have g:=h.lo;have d:vR=s.p:=e;omega),zh h.crow a (zp h.head h.crow (by decide)),zh h.nrow a (zp h.head h.nrow (by decide)),zh h.krow a (zp h.head h.krow (by decide)),zh h.urow a (zp h.head h.urow (by decide))⟩
theorem xu.setNow(h:xu w B s c ep m sn ns ks us)(n:Int):xu (w.setCell (U s.p 9) (I n)) B s c ep m n ns ks us:=by
 have b:=zP (i:=s.i) (zg (i:=9) (v:=I n) (zi.refl (fun k=>k=s.p) w) rfl) h.dne h.mill.dlt;obtain⟨a1,a2,a3,a4,a5⟩:=h.keptP (zg (i:=9) (v:=I n) (zi.refl (fun k=>k=s.p) w) rfl);exact⟨xD (i:=9) h.head (I n),a1,a2,a3,a4,a5,h.lo,fun j a=>h.mlo j (b j a),fun j a d=>h.sep j a (b j d),h.dd,h.tb⟩
theorem xu.sepNew(h:xu w B s c ep m sn ns ks us)(hv:∀j,v.ownBlock=E j->qo s j)(d:∀j,z.ownBlock=E j->v.ownBlock=E j\/w.1.size<=j):∀j,z.ownBlock=E j->¬zt w s.i j:=fun j b a=>by
 rcases d j b with e|e
 ·exact h.sep j (hv j e) a
 ·have:=h.mill.foot_lt j a;omega
theorem xu.setNums(h:xu w B s c ep m sn ns ks us)(g:zi (fun k=>s.nv.ownBlock=E k) w w5)(b:w5.ownsRow B 87 3 z (ns++[x]).length ((ns++[x]).flatMap nmV))(q:∀j,z.ownBlock=E j->s.nv.ownBlock=E j\/w.1.size<=j):
  xu (w5.setCell (U s.p 10) z) B {s with nv:=z} c ep m sn (ns++[x]) ks us:=by
 have a:=g.heap h.head (fun e=>zp h.head h.nrow (by decide) s.p e rfl);have l:zi (fun k=>k=s.p) w5 (w5.setCell (U s.p 10) z):=zg (zi.refl _ _) rfl;have a1:=zh h.crow g (zU h.crow h.nrow (by decide));have a2:=zh h.krow g (zU h.krow h.nrow (by decide));have a3:=zh h.urow g (zU h.urow h.nrow (by decide));have hv:∀j,s.nv.ownBlock=E j->qo s j:=fun j e=> .inr (.inr (.inl e));have a4:=h.mill.kept g (fun j f e=>h.sep j (.inr (.inr (.inl e))) f) (h.tnr hv);have d:=zP (i:=s.i) g (h.dnr hv) h.mill.dlt;have n:=zP (i:=s.i) l h.dne a4.dlt;refine⟨xD (i:=10) a z,a4.kept l (fun j f e=>h.sep s.p (.inl rfl) (e▸(d j f))) h.tnp,zh a1 l (zp a a1 (by decide)),zh b l (zp a b (by decide)),zh a2 l (zp a a2 (by decide)),zh a3 l (zp a a3 (by decide)),h.lo,fun j f=>h.mlo j (d j (n j f)),fun j f o=>(?_:¬zt w s.i j) (d j (n j o)),h.dd,h.tb⟩;rcases f with e|e|e|e|e
 ·exact h.sep j (.inl e)
 ·exact h.sep j (.inr (.inl e))
 ·exact h.sepNew (v:=s.nv) (fun j e=> .inr (.inr (.inl e))) q j e
 ·exact h.sep j (.inr (.inr (.inr (.inl e))))
 ·exact h.sep j (.inr (.inr (.inr (.inr e))))
theorem xu.setToks{x:Tok}(h:xu w B s c ep m sn ns ks us)(g:zi (fun k=>s.kv.ownBlock=E k) w w5)(b:w5.ownsRow B 49 2 z (ks++[x]).length ((ks++[x]).flatMap zdP))(q:∀j,z.ownBlock=E j->s.kv.ownBlock=E j\/w.1.size<=j):
  xu (w5.setCell (U s.p 11) z) B {s with kv:=z} c ep m sn ns (ks++[x]) us:=by
 have a:=g.heap h.head (fun e=>zp h.head h.krow (by decide) s.p e rfl);have l:zi (fun k=>k=s.p) w5 (w5.setCell (U s.p 11) z):=zg (zi.refl _ _) rfl;have a1:=zh h.crow g (zU h.crow h.krow (by decide));have a2:=zh h.nrow g (zU h.nrow h.krow (by decide));have a3:=zh h.urow g (zU h.urow h.krow (by decide));have hv:∀j,s.kv.ownBlock=E j->qo s j:=fun j e=> .inr (.inr (.inr (.inl e)));have a4:=h.mill.kept g (fun j f e=>h.sep j (.inr (.inr (.inr (.inl e)))) f) (h.tnr hv);have d:=zP (i:=s.i) g (h.dnr hv) h.mill.dlt;have n:=zP (i:=s.i) l h.dne a4.dlt;refine⟨xD (i:=11) a z,a4.kept l (fun j f e=>h.sep s.p (.inl rfl) (e▸(d j f))) h.tnp,zh a1 l (zp a a1 (by decide)),zh a2 l (zp a a2 (by decide)),zh b l (zp a b (by decide)),zh a3 l (zp a a3 (by decide)),h.lo,fun j f=>h.mlo j (d j (n j f)),fun j f o=>(?_:¬zt w s.i j) (d j (n j o)),h.dd,h.tb⟩;rcases f with e|e|e|e|e
 ·exact h.sep j (.inl e)
 ·exact h.sep j (.inr (.inl e))
 ·exact h.sep j (.inr (.inr (.inl e)))
 ·exact h.sepNew (v:=s.kv) (fun j e=> .inr (.inr (.inr (.inl e)))) q j e
 ·exact h.sep j (.inr (.inr (.inr (.inr e))))
theorem xu.setUnts{x:Int}(h:xu w B s c ep m sn ns ks us)(g:zi (fun k=>s.uv.ownBlock=E k) w w5)(b:w5.ownsRow B 3 1 z (us++[x]).length ((us++[x]).map (I)))(q:∀j,z.ownBlock=E j->s.uv.ownBlock=E j\/w.1.size<=j):
  xu (w5.setCell (U s.p 12) z) B {s with uv:=z} c ep m sn ns ks (us++[x]):=by
 have a:=g.heap h.head (fun e=>zp h.head h.urow (by decide) s.p e rfl);have l:zi (fun k=>k=s.p) w5 (w5.setCell (U s.p 12) z):=zg (zi.refl _ _) rfl;have a1:=zh h.crow g (zU h.crow h.urow (by decide));have a2:=zh h.nrow g (zU h.nrow h.urow (by decide));have a3:=zh h.krow g (zU h.krow h.urow (by decide));have hv:∀j,s.uv.ownBlock=E j->qo s j:=fun j e=> .inr (.inr (.inr (.inr e)));have a4:=h.mill.kept g (fun j f e=>h.sep j (.inr (.inr (.inr (.inr e)))) f) (h.tnr hv);have d:=zP (i:=s.i) g (h.dnr hv) h.mill.dlt;have n:=zP (i:=s.i) l h.dne a4.dlt;refine⟨xD (i:=12) a z,a4.kept l (fun j f e=>h.sep s.p (.inl rfl) (e▸(d j f))) h.tnp,zh a1 l (zp a a1 (by decide)),zh a2 l (zp a a2 (by decide)),zh a3 l (zp a a3 (by decide)),zh b l (zp a b (by decide)),h.lo,fun j f=>h.mlo j (d j (n j f)),fun j f o=>(?_:¬zt w s.i j) (d j (n j o)),h.dd,h.tb⟩;rcases f with e|e|e|e|e
 ·exact h.sep j (.inl e)
 ·exact h.sep j (.inr (.inl e))
 ·exact h.sep j (.inr (.inr (.inl e)))
 ·exact h.sep j (.inr (.inr (.inr (.inl e))))
 ·exact h.sepNew (v:=s.uv) (fun j e=> .inr (.inr (.inr (.inr e)))) q j e
theorem xu.setUnt{g cap:Nat}(h:xu w B s c ep m sn ns ks us)(d:s.uv=.slice (E (U g 0)) us.length cap)(j:Nat)(x:Int):xu (w.setCell (U g j) (I x)) B s c ep m sn ns ks (us.set j x):=by
 have q:=h.urow;rw[d]at q;have o:=(q.stored j (I x)).1;rw[<-d]at o;have f:s.uv.ownBlock=E g:=by rw[d];rfl
 have a:zi (fun k=>s.uv.ownBlock=E k) w (w.setCell (U g j) (I x)):=zg (zi.refl _ _) f;have l:=a.heap h.head (fun e=>zp h.head h.urow (by decide) s.p e rfl);have hv:∀j,s.uv.ownBlock=E j->qo s j:=fun j e=> .inr (.inr (.inr (.inr e)));have n:=zP (i:=s.i) a (h.dnr hv) h.mill.dlt;exact⟨l,h.mill.kept a (fun j b e=>h.sep j (.inr (.inr (.inr (.inr e)))) b) (h.tnr hv),zh h.crow a (zU h.crow h.urow (by decide)),zh h.nrow a (zU h.nrow h.urow (by decide)),zh h.krow a (zU h.krow h.urow (by decide)),by simpa[List.map_set]using o,h.lo,fun j b=>h.mlo j (n j b),fun j b r=>h.sep j b (n j r),h.dd,h.tb⟩
theorem zaD(a:w.ownsRow B 3 1 v us.length (us.map (I)))(b:j<us.length):∃g cap,v=.slice (E (U g 0)) us.length cap/\g<w.1.size/\w.cell? (U g j)=E (I us[j])/\w.frozen? (U g j)=false:=by
 obtain⟨g,cap,hv,_,c⟩:=a.form (by omega);subst hv;refine⟨g,cap,rfl,c,?_,a.frozenAt j⟩;rw[a.cellAt j (by omega)];simp[b]
theorem Qk(c:w.ownsRow B 49 2 v ks.length (ks.flatMap zdP))(b:j<ks.length):∃g cap,v=.slice (E (U g 0)) ks.length cap/\g<w.1.size/\w.cell? (U g (j*2))=E (I ks[j].ep)/\w.cell? (U g (j*2+1))=E (I ks[j].num):=by
 obtain⟨g,cap,hv,_,e⟩:=c.form (by omega);subst hv;have d:∀(l:List Tok) (j:Nat) (b:j<l.length),(l.flatMap zdP)[j*2]?=E (I l[j].ep)/\(l.flatMap zdP)[j*2+1]?=E (I l[j].num):=fun l=>by
  induction l with
  |nil=>intro j b;simp at b
  |cons a l f=>
   intro j b;cases j with
   |zero=>simp[zdP]
   |succ j=>
    have:=f j (by simpa using b);rw[show(j+1)*2=j*2+1+1 by omega];simpa[zdP]using this
 refine⟨g,cap,rfl,e,?_,?_⟩
 ·rw[c.cellAt _ (by omega)];exact(d ks j b).1
 ·rw[c.cellAt _ (by omega)];exact(d ks j b).2
end
def zgY(w:G)(B p:Nat)(c:Cf)(ep:Int)(m:MS)(ns:List Nm)(j:Nat):Prop:=
 ∃(s:Shp) (k:Nat),s.p=p/\xu w B s c ep m m.now ns (Ze ep k) (X5 ep m.QL k)/\m.num=k/\SOk c ep m ns.length/\k<=j/\ns.length<=j
theorem zgY.later(h:zgY w B p c ep m ns j)(e:zb w.1.size w w'):zgY w' B p c ep m ns j:=by
 obtain⟨s,k,a,b,d⟩:=h;exact⟨s,k,a,b.later e,d⟩
theorem zgY.mono{j':Nat}(h:zgY w B p c ep m ns j)(i:j<=j'):zgY w B p c ep m ns j':=by
 obtain⟨s,k,a,b,d,e,f,g⟩:=h;exact⟨s,k,a,b,d,e,by omega,by omega⟩
theorem SOk.tsk(h:SOk c ep m nn):∀p∈m.TL,YS c m.now p.2:=fun p d=>by
 have b:=h.ok.td p d;have a:=h.ok.mem_inR b.mem;exact⟨a.2.1,a.2.2.1,a.2.2.2,b.se⟩
theorem SOk.qn(h:SOk c ep m nn):∀q∈m.QL,q.1.num<=m.num:=fun q a=>(h.ok.leas q a).num.2
theorem SOk.epoch(h:SOk c ep m nn){t:Tok}(i:t∉Ze ep m.num.toNat):zE m.QL t=x7:=by
 rw[xy];intro f;obtain⟨q,b,rfl⟩:=List.mem_map.1 (show t∈m.QL.map (·.1)from f);have a:=(h.ok.leas q b).ep;have d:=(h.ok.leas q b).num;refine i (List.mem_map.2 ⟨(q.1.num-1).toNat,by simp;omega,?_⟩);obtain⟨⟨e,n⟩,g⟩:=q;dsimp only at a d ⊢;rw[a];congr 1;omega
def Wt(L:LV)(s:Sg):Prop:=∃v,(s,v)∈L/\v.st=2
def Pub(L:LV)(s:Sg):Prop:=∃v,(s,v)∈L/\v.st=3
structure znm(c:Cf)(now:Int)(L:LV)(ns:List Nm)(rl:Bool)(s:Sg):Prop where
 roll:rl=true->∀k:Nat,s.t=k->∀x∈ns,zG c s.t x=s->¬Wt L (zG c (c.F k) x)
 recl:rl=false->(s.wn+1)*c.wh s.t+c.keep s.t<=now/\∀x∈ns,zG c s.t x=s->∀k:Nat,k<c.n->c.F k=s.t->¬Wt L (zG c k x)
structure X6(c:Cf)(m:MS)(ns:List Nm):Prop where
 tm:∀x∈ns,0<=x.tm/\x.tm<=m.now/\0<=x.sr/\x.sr<4/\ -2147483648<=x.val/\x.val<=2147483647
 keys:∀x∈ns,∀t:Int,-1<=t->t<c.n->zG c t x∈zn m.L\/zG c t x∈zk m.Gl
 has:∀s∈zn m.L,∃x∈ns,zG c s.t x=s
 gone:∀x∈ns,∀k:Nat,k<c.n->zG c (c.F k) x∈zk m.Gl->zG c k x∈zk m.Gl\/Pub m.L (zG c k x)
 over:∀s∈zk m.Gl,(s.wn+1)*c.wh s.t+c.keep s.t<=m.now
 cell:∀p∈m.L,p.2.st≠2->IsC (fun x=>zG c p.1.t x=p.1) ns p.2.cl
 td:∀p∈m.TL,znm c m.now m.L ns p.2.rl p.2.s
section
variable {c:Cf} {ep:Int} {m:MS} {ns:List Nm}
theorem jV(hn:(zn L).Nodup){u v:SV}(h:(s,u)∈L)(k:(s,v)∈L):u=v:=by
 have b:zE L s=E u:=xt hn h;have a:zE L s=E v:=xt hn k;rw[b]at a;injection a
theorem Zw{p:Sg×SV}(h:p∈L):p.1∈zn L:=List.mem_map.2 ⟨p,h,rfl⟩
theorem Jr(hn:(zn L).Nodup)(h:Wt L s):s∈zn L/\(stL L s).st=2:=by
 obtain⟨v,hv,b⟩:=h;have a:=Zw hv;have:=zW a;rw[jV hn this hv];exact⟨a,b⟩
theorem vM(c:Cf)(k:Nat):c.wh (k:Int)=c.W k:=by
 unfold Cf.wh zQ;rw[if_neg (by omega)];simp
theorem znb(e:c.ok)(a:c.fits)(i:0<=x.tm)(b:k<c.n):x.tm/c.wh (c.F k)*c.wh (c.F k)/c.W k=x.tm/c.W k:=by
 obtain⟨q,g,f⟩:=a.quot k b;have d:=a.down k b;have h:=(e.wh d.1 (by omega)).1;rw[f,Int.mul_comm (x.tm/c.wh (c.F k)),Int.mul_ediv_mul_of_pos _ _ (by omega),Int.ediv_ediv_of_nonneg (by omega)]
theorem zep(b:c.ok)(d:c.fits)(e:0<=x.tm)(a:k<c.n):zG c k x∈yw c (zG c (c.F k) x):=by
 unfold yw VD;rw[List.map_map];refine List.mem_map.2 ⟨k,List.mem_filter.2 ⟨by simpa using a,by simp[zG]⟩,?_⟩;show(⟨(k:Int),x.sr,x.tm/c.wh (c.F k)*c.wh (c.F k)/c.W k⟩:Sg)=zG c k x;rw[znb b d e a];unfold zG;rw[vM]
theorem jX(d:c.ok)(f:MOk c ep m)(e:m.now-c.la<=x.tm)(a: -1<=t)(b:t<c.n):zG c t x∉zk m.Gl:=fun h=>jY d a b e (f.seg.goc _ h)
theorem zbI(e:c.ok)(g:MOk c ep m)(f:m.now-c.la<=x.tm)(a: -1<=t)(b:t<c.n):¬Pub m.L (zG c t x):=fun⟨v,hv,d⟩=>jY e a b f (g.seg.pubc _ hv d)
theorem zbS{now:Int}:∀(ys:List Sg) {T:List (Jk×Tsk)} {p:Jk×Tsk},p∈ys.foldl (yp now) T->p∈T\/∃s∈ys,p.2.rl=true/\p.2.s=s
 |[],T,p,h=> .inl h
 |y::ys,T,p,h=>by
  rcases zbS ys h with h|⟨s,a,h⟩
  ·unfold yp at h;split at h
   ·exact .inl h
   ·rcases ym h with rfl|⟨h,_⟩
    ·exact .inr ⟨y,by simp,rfl,rfl⟩
    ·exact .inl h
  ·exact .inr ⟨s,by simp[a],h⟩
theorem zbQ{now:Int}:∀(ys:List Sg) {T:List (Jk×Tsk)} {p:Jk×Tsk},p∈ys.foldl (yS now) T->p∈T\/∃s∈ys,p.2.rl=false/\p.2.s=s
 |[],T,p,h=> .inl h
 |y::ys,T,p,h=>by
  rcases zbQ ys h with h|⟨s,a,h⟩
  ·unfold yS at h;split at h
   ·exact .inl h
   ·rcases ym h with rfl|⟨h,_⟩
    ·exact .inr ⟨y,by simp,rfl,rfl⟩
    ·exact .inl h
  ·exact .inr ⟨s,by simp[a],h⟩
theorem X6.post(q:c.ok)(B:c.fits)(a:yu c m.now m.L m.Gl)(h:X6 c m ns)(d:xB c m TL'):X6 c {m with TL:=TL'} ns:=by
 obtain⟨Bs,z,A,M,H,I,rfl⟩:=d.tO;refine⟨h.tm,h.keys,h.has,h.gone,h.over,h.cell,fun p d=>?_⟩;rcases zbQ A d with d|⟨s,u,j,l⟩
 ·rcases zbS z d with d|⟨s,u,j,l⟩
  ·exact h.td p d
  ·rw[j,l];refine⟨fun _ k r x w i v=>?_,fun e=>by cases e⟩;obtain⟨g,f⟩:=(H s).1 u;obtain⟨D,k2⟩:=Jr a.nl v;have t:k<c.n:=by
    have:=(a.inr _ (zW g)).2.2.1;simp only at this;omega
   have b:s∈zk Bs:=(M s).2 ⟨_,D,k2,by
    have:=zep q B (h.tm x w).1 t;rw[<-r,i]at this;exact this⟩
   unfold yU at f;simp only[Bool.and_eq_true,Option.isNone_iff_eq_none]at f;exact xy.1 f.1.1 b
 ·rw[j,l];refine⟨fun e=>(by cases e),fun _=>?_⟩;obtain⟨g,f⟩:=(I s).1 u;have b:=a.inr _ (zW g);unfold yT at f;simp only[Bool.and_eq_true,Bool.not_eq_true',beq_eq_false_iff_ne,ne_eq,decide_eq_true_eq]at f;obtain⟨⟨r1,r2⟩,r3⟩:=f;refine⟨r2,fun x w i k r o v=>?_⟩;obtain⟨D,k2⟩:=Jr a.nl v;have K:zG c k x∈yw c s:=by
   have:=zep q B (h.tm x w).1 r;rw[o,i]at this;exact this
  unfold Zs at r3;have J:((kO c s).filter (fun x=>(stL m.L x.1).st==2)).length=0:=by
   have:=of_decide_eq_true (show decide ((((kO c s).filter (fun x=>(stL m.L x.1).st==2)).length:Int)=0)=true from by simpa using r3)
   omega
  have N:=(jB q b (zG c k x)).2 K;obtain⟨y,O,F⟩:=List.mem_map.1 N;have:y∈(kO c s).filter (fun x=>(stL m.L x.1).st==2):=List.mem_filter.2 ⟨O,by rw[F];simpa using k2⟩;rw[List.eq_nil_of_length_eq_zero J]at this;simp at this
theorem VK{T:List (Jk×Tsk)}{k:Jk}{x:Tsk}(b:zE T k=E x){p:Jk×Tsk}(a:p∈qj T k (x.failed now)):∃q∈T,q.2.rl=p.2.rl/\q.2.s=p.2.s:=by
 rcases ym a with rfl|⟨a,_⟩
 ·exact⟨_,zA b,rfl,rfl⟩
 ·exact⟨p,a,rfl,rfl⟩
theorem zeg{TL:List (Jk×Tsk)}{QL:List (Tok×Lse)}(h:YQ now TL QL T1 Q1):∀p∈T1,∃q∈TL,q.2.rl=p.2.rl/\q.2.s=p.2.s:=by
 induction h with
 |nil=>exact fun p a=>⟨p,a,rfl,rfl⟩
 |step k l m f j=>
  intro p a;obtain⟨q,g,b,c⟩:=VK f a;obtain⟨r,i,d,e⟩:=j q g;exact⟨r,i,d.trans b,e.trans c⟩
theorem znm.mono(h:znm c now L ns rl s)(hn:now<=now'):znm c now' L ns rl s:=
 ⟨h.roll,fun e=>⟨by have:=(h.recl e).1;omega,(h.recl e).2⟩⟩
theorem znm.live{g:LV}(h:znm c now L ns rl s)(i:∀y,Wt g y->Wt L y):znm c now g ns rl s:=
 ⟨fun e k b x f d a=>h.roll e k b x f d (i _ a),fun e=>⟨(h.recl e).1,fun x f d k b j a=>(h.recl e).2 x f d k b j (i _ a)⟩⟩
theorem X6.ticked(h:X6 c m ns)(hn:m.now<=now')(g:∀p∈T1,∃q∈m.TL,q.2.rl=p.2.rl/\q.2.s=p.2.s)(num:Int):X6 c {m with now:=now',num:=num,TL:=T1,QL:=Q1} ns:=
 ⟨fun x i=>by have:=h.tm x i;exact⟨this.1,by show x.tm<=now';omega,this.2.2⟩,h.keys,h.has,h.gone,fun s f=>by have:=h.over s f;show _<=now';omega,h.cell,fun p d=>by
  obtain⟨q,e,a,b⟩:=g p d;have:=(h.td q e).mono hn;rw[a,b]at this;exact this⟩
end
def zcC(n:Int)(t:Nat)(us:List Int):List Int:=(us.take t).map (zgN n)++us.drop t
theorem zec(n:Int)(t:Nat)(us:List Int):(zcC n t us).length=us.length:=by unfold zcC;simp;omega
theorem zhM(n:Int)(us:List Int):zcC n 0 us=us:=by simp[zcC]
theorem zkJ(n:Int)(us:List Int):zcC n us.length us=us.map (zgN n):=by simp[zcC]
theorem znN(n:Int)(t:Nat)(us:List Int)(a:t<us.length):(zcC n t us)[t]?=us[t]?:=by
 unfold zcC;rw[List.getElem?_append_right (by simp;omega)];simp[Nat.min_eq_left (Nat.le_of_lt a)]
theorem zhL(n:Int)(t:Nat)(us:List Int)(e:t<us.length):zcC n (t+1) us=(zcC n t us).set t (zgN n us[t]):=by
 apply List.ext_getElem?;intro i;rw[List.getElem?_set,zec];have c:∀b i,b<=us.length->(zcC n b us)[i]?=if i<b then us[i]?.map (zgN n)else us[i]?:=fun b i f=>by
  unfold zcC;by_cases a:i<b
  ·rw[List.getElem?_append_left (by simp;omega),if_pos a,List.getElem?_map,List.getElem?_take_of_lt a]
  ·rw[List.getElem?_append_right (by simp;omega),if_neg a];simp[Nat.min_eq_left f];congr 1;omega
 rw[c _ _ (by omega),c _ _ (by omega)];by_cases a:t=i
 ·subst a;rw[if_pos (by omega),if_pos rfl,if_pos e];simp[e]
 ·rw[if_neg a];by_cases d:i<t
  ·rw[if_pos (by omega),if_pos d]
  ·rw[if_neg (by omega),if_neg d]
theorem zkK(h:u<=n):zgN n u=0:=by unfold zgN;rw[if_pos h]
theorem zhN(h:¬u<=n):zgN n u=u:=by unfold zgN;rw[if_neg h]
theorem zlX{l:List Int}{t:Nat}(h:l[t]?=E u):l.set t u=l:=by
 apply List.ext_getElem?;intro i;rw[List.getElem?_set];split
 ·rename_i e;subst e;obtain⟨a,b⟩:=List.getElem?_eq_some_iff.1 h;rw[if_pos a,h]
 ·rfl
theorem Qy(w:G)(g i:Nat)(v:x8):zi (fun k=>k=g) w (w.setCell (U g i) v):=zi.setCell (f:=fun k=>k=g) (zi.refl _ _) (p:=(U g i)) (fun _=>rfl) v
section
variable {w:G} {B p:Nat} {c:Cf} {ep:Int} {m:MS} {ns:List Nm} {j:Nat}
theorem zgY.size(h:zgY w B p c ep m ns j):B<=w.1.size:=by
 obtain⟨s,k,rfl,a,_⟩:=h;have:=a.lo;have:=a.lt;omega
end
section
variable {c:Cf} {ep:Int} {m:MS} {ns:List Nm}
theorem zai{v:SV}:(s,v)∈qS L s v:=by
 unfold qS;by_cases h:s∈zn L
 ·rw[if_pos h];obtain⟨p,a,e⟩:=List.mem_map.1 (show s∈L.map (·.1)from h);exact List.mem_map.2 ⟨p,a,by rw[if_pos e]⟩
 ·rw[if_neg h];simp
theorem zaj{v:SV}{p:Sg×SV}(b:p∈L)(a:p.1≠s):p∈qS L s v:=by
 unfold qS;by_cases h:s∈zn L
 ·rw[if_pos h];exact List.mem_map.2 ⟨p,b,by rw[if_neg a]⟩
 ·rw[if_neg h];simp[b]
theorem XP{p:Sg×SV}(a:p∈yv c L x):p=(xr c x,⟨1,qU x.val ((ko L (xr c x)).map (·.cl))⟩)\/(p∈L/\p.1≠xr c x)\/∃j:Nat,j<c.n/\p=(zG c (j:Int) x,⟨2,qA⟩)/\zG c (j:Int) x∉zn L:=by
 rcases Zj x c.n _ a with a|⟨j,b,e,hn⟩
 ·rcases qv a with a|a
  ·exact .inl a
  ·exact .inr (.inl a)
 ·exact .inr (.inr ⟨j,b,e,fun d=>hn (xN.2 (.inl d))⟩)
theorem Jt{p:Sg×SV}(b:p∈L)(a:p.1≠xr c x):p∈yv c L x:=jz x c.n _ (zaj b a)
theorem zhi(h:s∈zn L):s∈zn (yv c L x):=by
 have a:s∈zn (qW c L x):=by unfold qW;exact xN.2 (.inl h)
 obtain⟨p,b,e⟩:=List.mem_map.1 (show s∈(qW c L x).map (·.1)from a);subst e;exact Zw (jz x c.n _ b)
theorem znp{y:Sg}(h:Wt (yv c L x) y):Wt L y\/∃j:Nat,j<c.n/\y=zG c (j:Int) x/\y∉zn L:=by
 obtain⟨v,hv,d⟩:=h;rcases XP hv with e|⟨hv,_⟩|⟨j,f,e,hn⟩
 ·injection e with a b;subst b;simp at d
 ·exact .inl ⟨v,hv,d⟩
 ·injection e with a b;exact .inr ⟨j,f,a,by rw[a];exact hn⟩
theorem zde{L:LV}(f:yu c m.now m.L m.Gl)(j:c.ok)(hv: -2147483648<=x.val/\x.val<=2147483647){P:Nm->Prop}[DecidablePred P](g:P x)(h:∀o,ko m.L (xr c x)=E o->IsC P ns o.cl)(i:ko m.L (xr c x)=x7->∀y∈ns,¬P y):IsC P (ns++[x]) (qU x.val ((ko m.L (xr c x)).map (·.cl))):=by
 cases b:ko m.L (xr c x)with
 |none=>
  have:=(IsC.zero (i b)).add g
  have e:znq qA x.val=qU x.val x7:=by
   simp only[znq,qA,qU,Int.zero_add,true_or,if_true];rw[show wrap64 x.val=x.val by unfold wrap64;omega]
  rw[e]at this
  exact this
 |some o=>
  obtain⟨a,k,l,n,p⟩:=MOk.rawAt f j b
  have:=(h o b).add g
  have e:znq o.cl x.val=qU x.val (E o.cl):=by
   have d:¬o.cl.cnt=0:=(by omega);simp only[znq,qU,d,false_or];rw[show wrap64 (o.cl.sum+x.val)=x.val+o.cl.sum by unfold wrap64;omega,Int.add_comm o.cl.cnt];congr 1
   ·by_cases a:o.cl.mn<x.val
    ·rw[if_pos a,if_neg (by omega)]
    ·rw[if_neg a];split<;>omega
   ·by_cases a:x.val<o.cl.mx
    ·rw[if_pos a,if_neg (by omega)]
    ·rw[if_neg a];split<;>omega
  rw[e]at this
  exact this
theorem X6.added(D:c.ok)(W:c.fits)(q:MOk c ep m)(h:X6 c m ns)(Z:0<=x.sr/\x.sr<4)(hx:0<=x.tm/\x.tm<=m.now)(R:m.now-c.la<=x.tm)(hv: -2147483648<=x.val/\x.val<=2147483647):
  X6 c {m with L:=yv c m.L x} (ns++[x]):=by
 have f:∀{y:Nm},y∈ns++[x]->y∈ns\/y=x:=fun a=>by
  rcases List.mem_append.1 a with a|a
  ·exact .inl a
  ·exact .inr (List.mem_singleton.1 a)
 have z:∀t:Int,-1<=t->t<c.n->zG c t x∉zk m.Gl:=fun t r w=>jX D q R r w;have a0:=D.n1;have H:∀y,Pub m.L y->Pub (yv c m.L x) y:=fun y ⟨v,I,K⟩=>⟨v,Jt I (fun e=>by
  have h4:=(q.seg.raw _ I (by rw[show y=xr c x from e];rfl)).1;simp only at h4;omega),K⟩
 --no waiting segment of an elder number is new
 have J:∀y∈ns,∀t:Int,-1<=t->t<c.n->Wt (yv c m.L x) (zG c t y)->Wt m.L (zG c t y):=fun y a t r w B=>by
  rcases znp B with B|⟨j,Y,e,hn⟩
  ·exact B
  ·exfalso;rcases h.keys y a t r w with d|d
   ·exact hn d
   ·rw[e]at d;exact z j (by omega) (by omega) d
 have i:∀s:Sg,s∈zn m.L->c.clo m.now s->zG c s.t x≠s:=fun s d P e=>by
  have b:=q.seg.inr _ (zW d);exact jY D b.2.1 b.2.2.1 R (by rw[e];exact P)
 refine⟨fun y a=>?_,fun y a t r w=>?_,fun s T=>?_,fun y a k d X=>?_,h.over,fun p g A=>?_,fun p g=>?_⟩
 ·rcases f a with a|rfl
  ·exact h.tm y a
  ·exact⟨hx.1,hx.2,Z.1,Z.2,hv⟩
 ·rcases f a with a|rfl
  ·exact(h.keys y a t r w).imp zhi id
  ·left;by_cases U:t= -1
   ·subst U;have r:xr c y∈zn (qW c m.L y):=(by unfold qW;exact xN.2 (.inr rfl));obtain⟨p,g,e⟩:=List.mem_map.1 (show xr c y∈(qW c m.L y).map (·.1)from r);show xr c y∈_;rw[<-e];exact Zw (jz y c.n _ g)
   ·have:=XQ (c:=c) y c.n (qW c m.L y) t.toNat (by omega);rw[show((t.toNat:Nat):Int)=t by omega]at this;exact this
 ·obtain⟨p,g,rfl⟩:=List.mem_map.1 (show s∈(yv c m.L x).map (·.1)from T);rcases XP g with rfl|⟨g,_⟩|⟨j,Y,rfl,_⟩
  ·exact⟨x,by simp,rfl⟩
  ·obtain⟨y,a,e⟩:=h.has _ (Zw g);exact⟨y,by simp[a],e⟩
  ·exact⟨x,by simp,rfl⟩
 ·have M:=W.down k d;rcases f a with a|rfl
  ·exact(h.gone y a k d X).imp id (H _)
  ·exact absurd X (z _ M.1 (by omega))
 ·rcases XP g with rfl|⟨g,S⟩|⟨j,Y,rfl,_⟩
  ·refine zde (L:=m.L) q.seg D hv rfl (fun o u=>?_) (fun u y a e=>?_)
   ·have F:=vU u;have r:=(q.seg.raw _ F rfl).1;exact h.cell _ F (by simp only at r ⊢;omega)
   ·have V:zG c (-1) y=xr c x:=e;rcases h.keys y a (-1) (by omega) (by omega)with d|d
    ·exact ye.1 u (V▸d)
    ·exact z (-1) (by omega) (by omega) (show xr c x∈_ from V▸d)
  ·refine(h.cell p g A).skip (fun e=>?_);have b:=q.seg.inr p g;by_cases U:p.1.t= -1
   ·exact S (by rw[<-e,U];rfl)
   ·rcases q.seg.tier p g (by have:=b.2.1;omega)with w|K
    ·exact A w
    ·exact zbI D q R b.2.1 b.2.2.1 ⟨p.2,by rw[e];exact g,K⟩
  ·exact absurd rfl A
 ·have u:=q.td p g;have b:=q.seg.inr _ (zW u.mem);have O:=h.td p g;refine⟨fun e k d y a l B=>?_,fun e=>⟨(O.recl e).1,fun y a l k d M B=>?_⟩⟩
  ·have Q:k<c.n:=(by have:=b.2.2.1;simp only at this;omega);have N:=W.down k Q;rcases f a with a|rfl
   ·exact O.roll e k d y a l (J y a _ N.1 (by omega) B)
   ·exact i _ u.mem u.clo l
  ·rcases f a with a|rfl
   ·exact(O.recl e).2 y a l k d M (J y a _ (by omega) (by omega) B)
   ·exact i _ u.mem u.clo l
theorem zpk{q y v:Int}(e:1<=q):y/q=v↔v*q<=y/\y<v*q+q:=by
 constructor
 ·intro h;subst h;have a:=Int.emod_add_mul_ediv y q;have b:=Int.emod_nonneg y (show q≠0 by omega);have c:=Int.emod_lt_of_pos y (show 0<q by omega);rw[Int.mul_comm]at a;omega
 ·rintro⟨a,b⟩;have c:v<=y/q:=(Int.le_ediv_iff_mul_le (by omega)).2 a;have d:y/q<v+1:=(Int.ediv_lt_iff_lt_mul (by omega)).2 (by rw[Int.add_mul,Int.one_mul];exact b);omega
theorem X6.rolled(hc:c.ok)(hf:c.fits)(Q:MOk c ep m)(h:X6 c m ns)(K:(ns.length:Int)<9223372036854775808){j:Jk}(hx:zE m.TL j=E ⟨true,s,se,ti,rest⟩)(J:s.t=k)(Q1:List (Tok×Lse)):
  X6 c {m with L:=qS m.L s ⟨3,xx (xe c m.L s.sr s.wn k)⟩,TL:=zT m.TL j,QL:=Q1} ns:=by
 have ho:=Q.td _ (zA hx);have hR:=(h.td _ (zA hx)).roll rfl;have g:s∈zn m.L:=ho.mem;have S:=Q.seg.inr _ (zW g);have W:(stL m.L s).st=2:=ho.roll rfl;have A:k<c.n:=by have:=S.2.2.1;simp only at this;omega
 have hF:=hf.down k A;have a1:=(hc.wh hF.1 (show c.F k<c.n by omega)).1;obtain⟨q,V,hq⟩:=hf.quot k A;have B:qm c k=q:=by
  unfold qm;rw[vM,hq,Int.mul_ediv_cancel_left _ (by omega)]
 have o:∀x∈ns,(x.sr=s.sr/\s.wn*q<=x.tm/c.wh (c.F k)/\x.tm/c.wh (c.F k)<s.wn*q+q)↔zG c s.t x=s:=fun x b=>by
  have Z:=(h.tm x b).1;rw[<-zpk V,Int.ediv_ediv_of_nonneg (by omega),<-hq,J];obtain⟨st,ss,sw⟩:=s;simp only at J ⊢;unfold zG;rw[vM];subst J;simp only[Sg.mk.injEq,true_and]
 have l:¬Pub m.L s:=fun⟨v,hv,h3⟩=>by rw[jV Q.seg.nl (zW g) hv]at W;omega
 have u:IsC (fun x=>zG c s.t x=s) ns (xx (xe c m.L s.sr s.wn k)):=by
  unfold xe;rw[B];have r:((q.toNat:Nat):Int)=q:=by omega
  have:=(zcm (L:=m.L) (wd:=c.wh (c.F k)) (f:=c.F k) (sr:=s.sr) (a:=s.wn*q) K q.toNat (fun i hi=>?_)).1
  ·rw[r]at this;exact this.congr o
  ·have a0:(i:Int)<q:=(by omega);have d:∀x:Nm,(x.sr=s.sr/\x.tm/c.wh (c.F k)=s.wn*q+i)↔zG c (c.F k) x=⟨c.F k,s.sr,s.wn*q+i⟩:=fun x=>by
    unfold zG;simp only[Sg.mk.injEq,true_and]
   have P:∀x∈ns,(x.sr=s.sr/\x.tm/c.wh (c.F k)=s.wn*q+i)->zG c s.t x=s:=fun x b e=>(o x b).1 ⟨e.1,by omega,by omega⟩;refine⟨fun v hv=>?_,fun hn x b e=>?_⟩
   ·have D:=vU hv;obtain⟨y,H,e⟩:=h.has _ (Zw D);have R:=(d y).2 e;have U:v.st≠2:=fun I=>hR k J y H (P y H R) ⟨v,by rw[(d y).1 R];exact D,I⟩;have hC:=h.cell _ D U;refine⟨hC.congr (fun x _=>(d x).symm),fun Z=>qF.1 Z y H R⟩
   ·have Y:=(d x).1 e;rcases h.keys x b (c.F k) hF.1 (by omega)with z|z
    ·exact ye.1 hn (Y▸z)
    ·have hs:=P x b e;have O:zG c (k:Int) x=s:=(by rw[<-J];exact hs);rcases h.gone x b k A z with w|w
     ·rw[O]at w;exact Q.seg.disj _ (zW g) w
     ·rw[O]at w;exact l w
 have X:∀y,Wt (qS m.L s ⟨3,xx (xe c m.L s.sr s.wn k)⟩) y->Wt m.L y:=fun y ⟨v,hv,I⟩=>by
  rcases qv hv with e|⟨hv,_⟩
  ·injection e with Y e2;subst e2;simp at I
  ·exact⟨v,hv,I⟩
 refine⟨h.tm,fun x b t h1 I=>(h.keys x b t h1 I).imp (fun z=>xN.2 (.inl z)) id,fun y H=>?_,fun x b k' T w=>?_,h.over,fun p M N=>?_,fun p M=>((h.td p (zS.1 M).1).live X)⟩
 ·rcases xN.1 H with H|rfl
  ·exact h.has y H
  ·exact h.has _ g
 ·rcases h.gone x b k' T w with z|⟨v,hv,h3⟩
  ·exact .inl z
  ·right;by_cases e:zG c (k':Int) x=s
   ·rw[e];exact⟨_,zai,rfl⟩
   ·exact⟨v,zaj hv e,h3⟩
 ·rcases qv M with rfl|⟨M,_⟩
  ·exact u
  ·exact h.cell p M N
theorem X6.reclaimed(M:c.ok)(N:c.fits)(D:MOk c ep m)(h:X6 c m ns){j:Jk}(I:zE m.TL j=E ⟨false,s,se,ti,rest⟩)(Q1:List (Tok×Lse)):
  X6 c {m with L:=zT m.L s,Gl:=qj m.Gl s (),TL:=zT m.TL j,QL:=Q1} ns:=by
 have K:=D.td _ (zA I);have A:=(h.td _ (zA I)).recl rfl;have H:s∈zn m.L:=K.mem;have n:∀y,y∈zn m.L->y≠s->y∈zn (zT m.L s):=fun y f u=>by
  obtain⟨p,d,rfl⟩:=List.mem_map.1 (show y∈m.L.map (·.1)from f);exact Zw (zS.2 ⟨d,u⟩)
 have z:∀y,Wt (zT m.L s) y->Wt m.L y:=fun y ⟨v,hv,i⟩=>⟨v,(zS.1 hv).1,i⟩;refine⟨h.tm,fun x b t J i=>?_,fun y f=>?_,fun x b k B g=>?_,fun y f=>?_,fun p d q=>h.cell p (zS.1 d).1 q,fun p d=>((h.td p (zS.1 d).1).live z)⟩
 ·by_cases e:zG c t x=s
  ·exact .inr (zZ.2 (.inr e))
  ·exact(h.keys x b t J i).imp (fun a=>n _ a e) (fun a=>zZ.2 (.inl a))
 ·obtain⟨p,d,rfl⟩:=List.mem_map.1 (show y∈(zT m.L s).map (·.1)from f);exact h.has _ (Zw (zS.1 d).1)
 ·by_cases e:zG c (k:Int) x=s
  ·exact .inl (zZ.2 (.inr e))
  ·have o:Pub m.L (zG c (k:Int) x)->Pub (zT m.L s) (zG c (k:Int) x):=fun⟨v,hv,r⟩=>⟨v,zS.2 ⟨hv,e⟩,r⟩;rcases zZ.1 g with g|g
   ·exact(h.gone x b k B g).imp (fun a=>zZ.2 (.inl a)) o
   ·have l:c.F k=s.t:=(by rw[<-g];rfl);have w:=A.2 x b (by rw[<-l];exact g) k B l;rcases h.keys x b k (by omega) (by omega)with a|a
    ·right;refine o ⟨_,zW a,?_⟩;rcases D.seg.tier _ (zW a) (by show(0:Int)<=k;omega)with i|r
     ·exact absurd ⟨_,zW a,i⟩ w
     ·exact r
    ·exact .inl (zZ.2 (.inl a))
 ·rcases zZ.1 f with f|rfl
  ·exact h.over y f
  ·exact A.1
theorem X6.act(e:c.ok)(f:c.fits){ns':List Nm}(j:SOk c ep m ns.length)(h:X6 c m ns)(l:(ns.length:Int)<9223372036854775808)(A:XK c ep m ns m' ns'):X6 c m' ns':=by
 cases A with
 |same=>exact h
 |added x d w y z H=>exact h.added e f j.ok d w y z
 |ticked n u TL' r hn o v F a=>
  have d:X6 c {m with now:=m.now+n,TL:=u,QL:=r} ns:=h.ticked (by omega) (zeg v) m.num;have b:yu c (m.now+n) m.L m.Gl:=(j.tick e f hn o v F a).1.ok.seg;exact d.post e f b a
 |taken p slot a B=>exact h.ticked (Int.le_refl _) (fun p a=>⟨p,a,rfl,rfl⟩) _
 |failed t g x q i=>exact h.ticked (Int.le_refl _) (fun p a=>VK i a) m.num
 |rolled t g s se ti rest k TL' q i D a=>
  have d:=h.rolled e f j.ok l i D (zT m.QL t);have b:=(j.ok.rolled q i rfl (xx (xe c m.L s.sr s.wn k))).1.seg;exact d.post e f b a
 |reclaimed t g s se ti rest TL' q i a=>
  have d:=h.reclaimed e f j.ok i (zT m.QL t);have b:=(j.ok.reclaimed q i rfl).1.seg;exact d.post e f b a
theorem X6.start(c:Cf)(now:Int):X6 c ⟨now,[],[],0,[],[]⟩ []:=
 ⟨fun x a=>(by cases a),fun x a=>(by cases a),fun s d=>(by cases d),fun x a=>(by cases a),fun s d=>(by cases d),fun p b=>(by cases b),fun p b=>(by cases b)⟩
theorem zmi(h:s∈zk Gl):(stG Gl L s).st=4:=by
 unfold stG;cases a:zE Gl s with
 |none=>exact absurd h (xy.1 a)
 |some u=>rfl
theorem YJ(h:s∉zk Gl):stG Gl L s=stL L s:=by
 unfold stG;rw[xy.2 h]
end
section
variable {w:G} {B:Nat} {s:Shp} {c:Cf} {ep:Int} {m:MS} {sn:Int} {ns:List Nm} {ks:List Tok} {us:List Int}
theorem xu.more(h:xu w B s c ep m sn ns ks us):w.cell? (U s.p 5)=E (I c.wi)/\w.cell? (U s.p 6)=E (I c.ke):=by
 constructor<;>rw[xR h.head]<;>rfl
theorem xu.tiers(h:xu w B s c ep m sn ns ks us)(k:c.ok):∃b d cap,s.ct=.slice (E (U b d)) c.n cap/\b<w.1.size/\∀i,i<c.n->w.cell? (U b (d+i*3))=E (I (c.F i))/\w.cell? (U b (d+i*3+1))=E (I (c.W i))/\w.cell? (U b (d+i*3+2))=E (I (c.K i)):=by
 obtain⟨a,cap,e⟩:=zR h.crow;have j:=h.crow;rw[e]at j;obtain⟨b,d,rfl,f,g⟩:=TS.of_owns j (by have:=k.n1;omega);exact⟨b,d,cap,e,f,g⟩
end
structure zdV(c:Cf)(m:MS)(r:RM):Prop where
 hc:r.c=c
 now:r.now=m.now
 gone:∀s,QC s r.gone=true↔s∈zk m.Gl
 pub:∀s,QC s r.pub=true↔Pub m.L s\/(0<=s.t/\s∈zk m.Gl)
 inv:X6 c m r.nu
section
variable {c:Cf} {ep:Int} {m:MS} {r:RM}
theorem zdV.there(h:zdV c m r)(d:s∈xd r.c r.nu): -1<=s.t/\s.t<c.n/\(s∈zn m.L\/s∈zk m.Gl):=by
 rw[h.hc]at d;obtain⟨a,b,x,f,e⟩:=jE.1 d;refine⟨a,b,?_⟩;have:=h.inv.keys x f s.t a b;rwa[<-e]at this
theorem zdV.seg(h:zdV c m r)(a: -1<=s.t/\s.t<c.n)(b:s∈zn m.L):s∈xd r.c r.nu:=by
 rw[h.hc,jE];obtain⟨x,d,e⟩:=h.inv.has s b;exact⟨a.1,a.2,x,d,e.symm⟩
theorem zdV.wt(h:zdV c m r)(b:MOk c ep m)(l:s∈xd r.c r.nu)(j:0<=s.t):Wt m.L s↔(QC s r.pub=false/\QC s r.gone=false):=by
 obtain⟨p,q,k⟩:=h.there l;constructor
 ·intro d;obtain⟨f,n⟩:=Jr b.seg.nl d;have a:s∉zk m.Gl:=by
   obtain⟨v,hv,-⟩:=d;exact b.seg.disj _ hv
  refine⟨?_,?_⟩
  ·rw[Bool.eq_false_iff,ne_eq,h.pub];rintro(⟨v,hv,e⟩|⟨-,e⟩)
   ·obtain⟨u,o,i⟩:=d;have:=jV b.seg.nl o hv;rw[this]at i;omega
   ·exact a e
  ·rw[Bool.eq_false_iff,ne_eq,h.gone];exact a
 ·rintro⟨g,a⟩;rw[Bool.eq_false_iff,ne_eq,h.pub]at g;rw[Bool.eq_false_iff,ne_eq,h.gone]at a;have f:=k.resolve_right a;have hv:=zW f;rcases b.seg.tier _ hv j with e|e
  ·exact⟨_,hv,e⟩
  ·exact absurd (.inl ⟨_,hv,e⟩) g
end
section
variable {c:Cf} {ep:Int} {m:MS} {r:RM}
theorem zad{x:Sg}(o:0<=x.t)(p:x.t<c.n):onB c x s=true↔x∈yw c s:=by
 obtain⟨k,d⟩:∃k:Nat,x.t=k:=⟨x.t.toNat,by omega⟩;have g:k<c.n:=by omega
 have j:c.wh x.t=c.W k:=by rw[d,vM]
 unfold onB yw VD;rw[List.map_map,List.mem_map];constructor
 ·intro h;split at h
  ·cases h
  ·rename_i hno;simp only[not_or,ne_eq,Classical.not_not]at hno;obtain⟨-,b,a⟩:=hno;have e:s.wn*c.wh s.t/c.wh x.t=x.wn:=(by simpa using h);refine⟨k,List.mem_filter.2 ⟨by simpa using g,?_⟩,?_⟩
   ·rw[d,Int.toNat_natCast]at b;simpa using b
   ·obtain⟨t,sr,wn⟩:=x;simp only at d a e j ⊢;show(⟨(k:Int),s.sr,s.wn*c.wh s.t/c.W k⟩:Sg)=⟨t,sr,wn⟩;rw[<-j,e,d,a]
 ·rintro⟨i,l,rfl⟩;obtain⟨m,f⟩:=List.mem_filter.1 l;have b:c.F i=s.t:=by simpa using f
  simp only[Function.comp]at*;rw[if_neg]
  ·rw[vM];simp
  ·rintro(h|h|h)
   ·omega
   ·exact h (by rw[Int.toNat_natCast];exact b)
   ·exact h rfl
theorem XZ(g:c.ok){k:Sg}(a:inR c k):Zs c L k=true↔∀x∈yw c k,(stL L x).st≠2:=by
 unfold Zs;constructor
 ·intro h x l b;obtain⟨y,d,rfl⟩:=List.mem_map.1 ((jB g a x).2 l);have i:((kO c k).filter (fun x=>(stL L x.1).st==2)).length=0:=by
   have:(((kO c k).filter (fun x=>(stL L x.1).st==2)).length:Int)=0:=(by simpa using h);omega
  have f:y∈(kO c k).filter (fun x=>(stL L x.1).st==2):=List.mem_filter.2 ⟨d,by simpa using b⟩;rw[List.length_eq_zero_iff.1 i]at f;cases f
 ·intro h;have j:((kO c k).filter (fun y=>(stL L y.1).st==2))=[]:=by
   rw[List.filter_eq_nil_iff];intro y d e;exact h y.1 ((jB g a y.1).1 (List.mem_map.2 ⟨y,d,rfl⟩)) (by simpa using e)
  rw[j];rfl
end
attribute [local go_sem] Oper.semAt_some
theorem zfQ(T:ByteArray)(g:T.size=0)(b:Nat)(w:G)(d:w.cell? (U b 0)=E (.string T))(c:b<w.1.size)(Kp:G->G->Prop)(encs:ByteArray->Array x8)(m:Nat):
  Yi Fence.wide 6 prog 202 #[(O b)] encs Kp (fun xs=>xs=[]) (fun _=>False) 0 m w:=by
 intro l J k W a q o f h e;have n:=(a.cell (p:=(U b 0)) c).trans d;have i:=C c a.size;have j:decide ((0:Int)<(T.size:Int))=false:=by rw[g];rfl
 clear a d c h;show CallsIn Fence.wide 6 prog 202 #[.func (.yield l) #[] #[],(O b)] W _;refine callsIn_of_wp func202 rfl trivial ?_ rfl;simp only[ntmps202,sZz,Nat.reduceAdd,Nat.reduceSub];gi_wp2;gi_loopw [] (fun wr=>wr=W) (fun _=>0);case atStart=>rfl
 case round=>
  subst hrel;gi_wp2;go_end0;exact⟨⟨_,rfl⟩,.inl ⟨[],rfl,e⟩⟩
theorem zcz:∀args w,(callFunc 202 args).run prog w=.ok (.enter 202 args) w:=enters_of func202 (by kernel_rfl) rfl
theorem zoI{x:Nat}(T:ByteArray)(M:T.size=0)(r:w.1[b]?=E (.cells #[.string T] 9 (0,0))):
  Calls prog 71 #[(O x),.func (.func 202) #[] #[(O b)]] w (Rz w (.tuple #[])):=by
 have a:zb w.1.size w (w.alloc (.cells #[(O x)] 38)):=(zz _ _).alloc (za _) _;have m:=(a.block _ (zd r)).trans r;have h:=ze a;have i:=ze m;clear r a m;refine(callsIn_wide (n:=7)).1 ?_;refine callsIn_of_wp_marks func71 rfl trivial ?_ rfl;simp only[ntmps71,sZz,Nat.reduceAdd,Nat.reduceSub];refine wpIn_wide.2 ?_;go_wp2_with fail;generalize(w.alloc (.cells #[(O x)] 38))=X at*;obtain⟨t,-⟩:=zc (ud i);refine(wpIn_wide (n:=7)).1 ?_;refine yg (F:=Fence.wide) (n:=7) rfl (by omega) (gf:=202) (lb:=#[(O b)]) rfl trivial zcz (zfQ T M b X t (zd (ud i)) (fun _ _=>True) (fun x:ByteArray=>#[.string x]) 0) (Nat.zero_le _) (fun _ _=>trivial) (fun _ _ _ _ _ _=>trivial) (zz _ _) (fun _=>rfl)
  (fun f W=>zb X.1.size X W) (fun _ _ _=>False)
  (fun s A B row g o I=>g.trans ⟨o.os,o.tape,o.output,o.size,fun k P=>o.block k (C P g.size) (fun e=>absurd (I k e.symm).1 (by omega))⟩)
  (fun _ _ _ _ _ g _ _=>g)
  (zz _ _)
  (fun _ _ _=>True) (fun _ _ _ _ _ _ g _ _=>g) ?assign ?body ?done ?stop
 case assign=>
  rintro l f y W K d H;have J:=ze H;clear H;gi_wp2;exact ud J _ _ (zo (zz _ _)) trivial d trivial
 case body=>
  rintro l f y R W U I d _ u;exact absurd u (Nat.not_lt_zero _)
 case done=>
  rintro D xs W L _ d j;have q:=ze j;have p:=ze d;clear d j;gi_wp2;have d:=ud p;have v:=(ud h).size;refine⟨by simp,.inl ⟨_,_,rfl,run_takeDeferred (ud q),?_⟩⟩;have Q:zi (fun k=>k=D) W (W.putObj D (.deferred x7)):=(zi.refl (fun k=>k=D) W).grown (grownBy_putObj' W D (.deferred x7)) (fun k e _=>by cases e;rfl);have z:zb w.1.size w W:=(ud h).trans (d.mono v);exact⟨_,results_none rfl _ _ _,rfl,z.trans (Q.below z.size (fun k e=>by have S:k=D:=e;omega))⟩
 case stop=>
  rintro D c f W L N;exact N.elim
theorem zjj(c:Cf)(T:ByteArray)(d:T.size=0)(A:Ids->G->Prop):XO c T ms0 A:=fun W i ep q b h f hn _=>
 (zoI T d f).mono fun e w' ⟨g,a⟩=>⟨g,h.later a,(Kx.below a h.dlt).kb b⟩
theorem zdw(h:xB c m TL')(e:m.L=[])(k:m.TL=[]):TL'=[]:=by
 obtain⟨Bs,b,d,l,i,j,rfl⟩:=h.tO;have f:b=[]:=List.eq_nil_iff_forall_not_mem.2 (fun s a=>by have:=((i s).1 a).1;rw[e]at this;simp[zn]at this);have g:d=[]:=List.eq_nil_iff_forall_not_mem.2 (fun s a=>by have:=((j s).1 a).1;rw[e]at this;simp[zn]at this);rw[f,g,k];rfl
theorem zx.zero{T e:TypeId}(h:zx T e B w p S fs):zx T e 0 w p S fs:=⟨h.head,Nat.zero_le _,Jh h.row⟩
theorem zjg:(xm 0 []).size<=100:=by rw[yZ];have:=kE (now:=0) (xs:=[]) (by unfold xz;omega) (by simp);simp at this;omega
theorem zbP(c:Cf)(r:c.ok)(M:c.fits)(P:qd c.s c.le c.la c.wi c.ke c.qu c.n c.F c.W c.K=true)(a:Option Addr)(cap B p:Nat)(fs:x8)(w:G)(R:B<=w.1.size)(J:zx 111 113 B w p Yp fs)(o:∀w',zi (foot p fs) w w'->TS w' a c.n c.F c.W c.K)(f:Qo w)(m:∀k,foot p fs k->k≠vR):
  Calls prog 29 #[(cZz c a cap),(O p)] w fun e w'=>∃i:Ids,i.d=p/\e=.returned (.tuple #[(O i.x),I 0])/\zF w' i c 1 ⟨0,[],[],0,[],[]⟩/\zi (foot p fs) w w'/\∀k,zt w' i k->foot p fs k\/w.1.size<=k:=by
 obtain⟨h,t,u⟩:=znB;have H:((yh (Zb Yp) xY).extract 0 (JC (yh (Zb Yp) xY))).size=0:=by rw[h,zlO];simp[ByteArray.size]
 have l:DOk Yp 10:=⟨by simp[Yp],by simp[Yp],by simp[Yp],by simp[Yp]⟩;refine(zmY c r P a cap p Yp fs w J.zero 10 (by omega) l t o f m ms0 (fun _ _=>True) (fun _ _ _ _=>trivial) (zjj c _ H _) ⟨by decide,by decide⟩ (by intro x g;cases g) (by decide) (by decide) (by intro p j;cases j) (by decide) (fun ys j=>by rw[h];exact(zjp _ _).2.1)).mono ?_;rintro e w' ⟨i,ys,TL',N,L,j,q,D,A,z⟩;have v:ys=[]:=j.eq_nil;have y:=zdw D rfl rfl;subst v;subst y;obtain⟨r1,r2,r3⟩:=zjp 1 (xm 0 []);rw[u]at q;have b:Vu (Zb Yp) (xm 0 []) 0=(xm 0 []).size+1:=by unfold Vu;rw[h,r3];rfl
 have Q:=zjg;refine⟨i,N,L,⟨_,xm 0 []++nl,[],q,rfl,?_,by omega,?_,?_,.start _ _ _ M (SOk.new r) (by intro x g;cases g) (by intro x g;cases g) (fun _=>⟨rfl,rfl,rfl⟩)⟩,A,z⟩
 ·show Xj (Zb Yp) (xm 0 [])=_;rw[h,r1];rfl
 ·show 0<=Vu (Zb Yp) (xm 0 []) 0/\Vu (Zb Yp) (xm 0 []) 0<=100000000000;rw[b];omega
 ·show((xm 0 []++nl).size:Int)<=2*Vu (Zb Yp) (xm 0 []) 0+4096;rw[b,kQ];omega
section
variable {c:Cf} {ep:Int} {m:MS} {r:RM}
theorem zav{x:Sg}(h:(stL L x).st=2):x∈zn L:=by
 apply Classical.byContradiction;intro hn;have:stL L x=⟨0,qA⟩:=by unfold stL;rw[ye.2 hn];rfl
 rw[this]at h;simp at h
theorem zpJ{x:Sg}(h:x∈yw c s):0<=x.t/\x.t<c.n:=by
 unfold yw VD at h;rw[List.map_map]at h;obtain⟨j,a,rfl⟩:=List.mem_map.1 h;have:=(List.mem_filter.1 a).1;simp at this;show 0<=(j:Int)/\(j:Int)<c.n;omega
theorem zgn(D:c.ok)(g:MOk c ep m)(h:zdV c m r)(F:s∈xd r.c r.nu):KM r s (xd r.c r.nu)=true↔s∈zn m.L/\yT c m.L m.now s=true:=by
 obtain⟨I,J,B⟩:=h.there F;unfold KM Xt yT;rw[h.hc,h.now]at*;simp only[Bool.and_eq_true,Bool.not_eq_true',decide_eq_false_iff_not,Bool.and_eq_false_iff,List.all_eq_true,beq_eq_false_iff_ne,decide_eq_true_eq,Bool.not_eq_false',ne_eq];have d:s∈zn m.L->((∀x∈xd c r.nu,zhv r s x=false)↔Zs c m.L s=true):=fun f=>by
  have w:=g.seg.inr _ (zW f);rw[XZ D w];constructor
  ·intro u x n a;have b:=zpJ n;have o:x∈xd c r.nu:=(by have:=h.seg ⟨by omega,b.2⟩ (zav a);rwa[h.hc]at this);have H:Wt m.L x:=⟨_,zW (zav a),a⟩;have k:=(h.wt g (by rw[h.hc];exact o) b.1).1 H;have:=u x o;unfold zhv at this;rw[h.hc,(zad b.1 b.2).2 n,k.1,k.2]at this;cases this
  ·intro u x n;cases i:zhv r s x with
   |false=>rfl
   |true=>
    unfold zhv at i;simp only[Bool.and_eq_true,Bool.not_eq_true']at i;obtain⟨⟨j,z⟩,q⟩:=i;rw[h.hc]at j;obtain⟨K,t2,-⟩:=h.there (s:=x) (by rw[h.hc];exact n);have l:0<=x.t:=by
     apply Classical.byContradiction;intro hn;rw[on_1 (by omega)]at j;cases j
    obtain⟨-,a⟩:=Jr g.seg.nl ((h.wt g (by rw[h.hc];exact n) l).2 ⟨z,q⟩);exact absurd a (u x ((zad l t2).1 j))
 constructor
 ·rintro⟨⟨⟨a1,a2⟩,a3⟩,a4⟩;have p:s∉zk m.Gl:=fun e=>by rw[(h.gone s).2 e]at a1;cases a1
  have f:=B.resolve_right p;refine⟨f,⟨fun a=>?_,?_⟩,(d f).1 a4⟩
  ·have hv:=zW f;rcases a2 with a2|a2
   ·have:=(g.seg.raw _ hv (by show s.t= -1;omega)).1;simp only at this;omega
   ·rcases(h.pub s).1 a2 with⟨v,y,e⟩|⟨-,e⟩
    ·have:=jV g.seg.nl hv y;rw[<-this]at e;omega
    ·exact p e
  ·unfold Cf.end at a3;omega
 ·rintro⟨f,⟨j,z⟩,q⟩;have hv:=zW f;have p:s∉zk m.Gl:=g.seg.disj _ hv;refine⟨⟨⟨?_,?_⟩,?_⟩,(d f).2 q⟩
  ·rw[Bool.eq_false_iff,ne_eq,h.gone];exact p
  ·by_cases A:0<=s.t
   ·refine .inr ((h.pub s).2 (.inl ⟨_,hv,?_⟩));exact(g.seg.tier _ hv A).resolve_left j
   ·exact .inl A
  ·unfold Cf.end;omega
end
theorem zpC(h:zF w i awC 1 ⟨0,[],[],0,[],[]⟩):
  Calls prog 27 #[(O i.x),I 1,I 0,int i32 7] w fun e w'=>e=.returned (I 0)/\zF w' i awC 1 zqz/\Kx i w w':=
 (zow h X9 1 0 7 (by omega) (by dsimp only;omega) (by decide) (by decide) (by omega) (by decide) (by intro p c;cases c) (fun k f=>rfl) (by decide) (by decide) (by intro p c;cases c)).mono fun e w' ⟨a,b,d⟩=>⟨a,b,d⟩
theorem zny(h:zF w i awC 1 zqz):
  Calls prog 26 #[(O i.x),I 6] w fun e w'=>e=.returned (I 0)/\zF w' i awC 1 zqA/\Kx i w w':=by
 refine(zfW h X9 6 (by omega) (by decide) ⟨(fun p a=>by cases a),(fun p a=>by cases a),(fun p a=>by cases a),by decide,by decide,by decide⟩ ?_ (by decide) ?_).mono ?_
 ·intro p a;simp[zqz,zhq]at a;rcases a with rfl|rfl
  ·exact VF
  ·exact zaT
 ·intro T Q o;rw[(zeh o).1];simp
 ·rintro e w' ⟨j,c,b,TL',k,l,m,q,n⟩;obtain⟨d,f⟩:=zeh m;subst d;subst f;have g:=zkA n;subst g;exact⟨j,k,l⟩
theorem zhs(h:zF w i awC 1 m){k:Jk}{x:Tsk}(d:m.TL=[(k,x)])(c:m.QL=[])(hn:m.now=6)(v:YS awC 6 x)(r:x.rest<=6)(j:m.num=0\/m.num=1)(u:0<=zV m.L/\zV m.L<=1000):
  Calls prog 18 #[(O i.x),I 0] w fun e w'=>e=.returned (.tuple #[.agg #[I x.kd,I x.s.t,I x.s.sr,I x.s.wn,I x.se,I x.ti,I x.rest,I 1,I (m.num+1),I 0,I 15],I 0])/\zF w' i awC 1 {m with num:=m.num+1,QL:=qj m.QL ⟨1,m.num+1⟩ ⟨x.kd,x.s,0,15⟩}/\Kx i w w':=by
 refine(ziF h X9 0 (by decide) (by omega) ?_ (by rw[c];simp) (by omega) (by unfold xz;omega) (by rw[c];intro q o;cases o) u).mono ?_
 ·intro p a;rw[d]at a;simp at a;subst a;rw[hn];exact v
 ·rintro e w' (⟨_,_,b⟩|⟨_,_,b⟩|⟨p,a,_,f,g,n⟩)
  ·rw[c]at b;simp at b
  ·have:=b (k,x) (by rw[d];simp);unfold kn at this;rw[c,hn]at this;simp[kr,r]at this
  ·rw[d]at a;simp at a;subst a;have l:m.now+awC.le=15:=(by rw[hn];rfl);rw[l]at f g;exact⟨f,g,n⟩
theorem zky(h:zF w i awC 1 zqA):
  Calls prog 18 #[(O i.x),I 0] w fun e w'=>e=.returned (.tuple #[.agg #[I 1,I 0,I 1,I 0,I 6,I 0,I 0,I 1,I 1,I 0,I 15],I 0])/\zF w' i awC 1 zpr/\Kx i w w':=
 zhs (m:=zqA) h rfl rfl rfl ⟨by decide,by decide,by decide,by decide⟩ (by decide) (.inl rfl) (by decide)
theorem zkz(h:zF w i awC 1 zqB):
  Calls prog 18 #[(O i.x),I 0] w fun e w'=>e=.returned (.tuple #[.agg #[I 2,I (-1),I 1,I 0,I 6,I 0,I 0,I 1,I 2,I 0,I 15],I 0])/\zF w' i awC 1 zqC/\Kx i w w':=
 zhs (m:=zqB) h rfl rfl rfl ⟨by decide,by decide,by decide,by decide⟩ (by decide) (.inr rfl) (by decide)
theorem znv(h:zF w i awC 1 zpr):
  Calls prog 20 #[(O i.x),.agg #[I 1,I 1]] w fun e w'=>e=.returned (I 0)/\zF w' i awC 1 zqB/\Kx i w w':=by
 refine(zcQ h X9 ⟨1,1⟩ (by unfold Tok.wf xz;dsimp only;omega) (g:=⟨1,awT,0,15⟩) rfl (by unfold Jk.wf Lse.job xz;exact⟨by dsimp only;omega,zaT.1⟩) awT 6 0 0 rfl zaT 0 rfl (by decide) (by decide) ?_ (by decide) (by decide) (by decide)).mono ?_
 ·rw[show qS zpr.L awT ⟨3,xx (xe awC zpr.L awT.sr awT.wn 0)⟩=zkl from zht];intro p a;simp[zkl]at a;rcases a with rfl|rfl
  ·exact VF
  ·exact zaT
 ·rw[show qS zpr.L awT ⟨3,xx (xe awC zpr.L awT.sr awT.wn 0)⟩=zkl from zht];rintro e w' ⟨c,TL',d,f,j⟩;have b:=zkB (num:=1) j;subst b;exact⟨c,d,f⟩
theorem znw(h:zF w i awC 1 zqC):
  Calls prog 20 #[(O i.x),.agg #[I 1,I 2]] w fun e w'=>e=.returned (I 0)/\(∃TL',zF w' i awC 1 ⟨6,zpA,[(awR,())],2,TL',[]⟩)/\Kx i w w':=by
 refine(Vk h X9 ⟨1,2⟩ (by unfold Tok.wf xz;dsimp only;omega) (g:=⟨2,awR,0,15⟩) rfl (by unfold Jk.wf Lse.job xz;exact⟨by dsimp only;omega,VF.1⟩) awR 6 0 0 rfl VF (by decide) (by decide) ?_ (by decide) (by decide) (by decide)).mono ?_
 ·intro p a;rw[show zT zqC.L awR=zpA from rfl]at a;simp[zpA]at a;rcases a with rfl;exact zaT
 ·rintro e w' ⟨b,TL',c,d,f⟩;exact⟨b,⟨TL',c⟩,d⟩
theorem zqF(h:zF w i awC 1 ⟨6,zpA,[(awR,())],2,TL',[]⟩):
  Calls prog 57 #[(O i.x),I 0,I 1,I 0] w (Rz w (.tuple #[.agg #[I 1,I 7,int i32 7,int i32 7],I 0])):=J2 h X9 (by dsimp only;omega) 0 1 0 (by decide) (by decide) (by decide)
theorem zqG(h:zF w i awC 1 ⟨6,zpA,[(awR,())],2,TL',[]⟩):
  Calls prog 57 #[(O i.x),I (-1),I 1,I 0] w (Rz w (.tuple #[.agg #[I 0,I 0,int i32 0,int i32 0],I 12])):=J2 h X9 (by dsimp only;omega) (-1) 1 0 (by decide) (by decide) (by decide)
attribute [local go_sem] Oper.semAt_some
theorem jZ(h:k≠b):(w.setCell (U b 0) v).1[k]?=w.1[k]?:=Below.heap_setCell _ _ _ _ (show k≠((U b 0):Addr).block from h)
def SeqB{α:Type}(b:Nat)(F:Fence)(n:Nat)(P:Program)(g:Nat)(lb:Array x8)(encs:α->Array x8)(Kp:G->G->Prop)(S Sp:List α->Prop)(N m:Nat)(w:G):Prop:=
 ∀(l:Nat) (J c:List α->G->Prop) (W:G),zb w.1.size w W->m<=W.1.size->OwnFrom W.1.size J->OwnFrom W.1.size c->
  (∀s V v,J s V->J s (V.setCell (U b 0) v))->(∀s V v,c s V->c s (V.setCell (U b 0) v))->
  (∀a x V,J a V->a.length<N->YieldAt F (n-1) P l (encs x) V fun e d=>(e=.returned (.bool true)/\J (a++[x]) d/\Kp V d)\/(e=.returned (.bool false)/\c (a++[x]) d/\Kp V d))->
  J [] W->CallsIn F n P g (#[.func (.yield l) #[] #[]]++lb) W fun e V=>(∃v,e=.returned v)/\((∃xs,S xs/\J xs V)\/∃a,Sp a/\c a V)
section
variable {α:Type} {F:Fence} {n:Nat} {P:Program} {g:Operand} {ps:Array Tmp} {assign body:Code} {Q:Exit->Act->G->Prop} {a:Act} {w:G}
theorem zoF(aa:F.round=x7)(h1:1<=n){gf:Nat}{lb:Array x8}(hg:a.eval g=.func (.func gf) #[] lb)(a3:F.fn gf)(eg:∀args w,(callFunc gf args).run P w=.ok (.enter gf args) w){encs:α->Array x8}{Kp:G->G->Prop}{S Sp:List α->Prop}{m:Nat}{w0:G}(ab:b<w.1.size)(a1:SeqB b F (n-1) P gf lb encs Kp S Sp N m w0)(hm:m<=w.1.size+2)(a7:∀{X Y Z:G},Kp X Y->Kp Y Z->Kp X Z)(a6:∀(W:G) (o o':Obj),W.1[w.1.size+1]?=E o->o.isCells=false->o.isWalk=false->Kp W (W.putObj (w.1.size+1) o'))(R:zb w0.1.size w0 w)(a9:∀x,(encs x).size=ps.size)(i:List α->G->Prop)(z:Code->List α->G->Prop)(M:OwnFrom w.1.size i)(A:∀c,OwnFrom w.1.size (z c))(a5:∀s V v,i s V->i s (V.setCell (U b 0) v))(O:∀c s V v,z c s V->z c s (V.setCell (U b 0) v))(h0:i [] w)(Ax:α->Act->G->Prop)(a2:∀x y,OwnFrom w.1.size (fun(_:Unit) W=>Ax x y W))(j:∀(l:Nat) (d:List α) (x:α) (W:G) (K:Act->G->Prop),i d W->(∀y W',KeepsFrom w.1.size W W'->Kp W W'->i d W'->Ax x y W'->K y W')->
   assign.wpIn (F.inRound l) (n-1-1) P (Exit.then K (fun _ _ _=>False)) {tmps:=(ps.zip (encs x)).foldl (fun t (p,v)=>t.setIfInBounds p v) a.tmps,defers:=[]} W) (B:∀(l:Nat) (d:List α) (x:α) (y:Act) (W:G),w.1.size<=l->(∃r,W.1[l]?=E (.loop r))->i d W->Ax x y W->d.length<N->body.wpIn (F.inRound l) (n-1-1) P (YA w.1.size Kp i z (d++[x]) W) y W) (H:∀(D:Nat) (xs:List α) (W:G),w.1.size<=D->S xs->i xs W->W.1[D]?=E (.deferred (E []))->Q .normal {a with defers:={target:=.collected D,args:=#[]}::a.defers} W) (I:∀(D:Nat) (c:Code) (d:List α) (W:G),w.1.size<=D->Sp d->z c d W->W.1[D]?=E (.deferred (E []))->c.wpIn F n P Q {a with defers:={target:=.collected D,args:=#[]}::a.defers} W):
  (Code.rangeFunc g ps assign body).wpIn F n P Q a w:=by
 refine wpIn_rangeFunc fun fn a8=>?_;rw[aa];have hz:((w.alloc (.deferred (E []))).alloc (.loop {state:=.ready,pending:=x7,fn,tmps:=a.tmps,params:=ps,assign,body,defers:=w.1.size})).1.size=w.1.size+2:=by simp
 refine⟨w.1.size+1,[{target:=.collected w.1.size,args:=#[]}],((w.alloc (.deferred (E []))).alloc (.loop {state:=.ready,pending:=x7,fn,tmps:=a.tmps,params:=ps,assign,body,defers:=w.1.size})),{target:=.fn (.func gf) lb,args:=#[.func (.yield (w.1.size+1)) #[] #[]]},((w.alloc (.deferred (E []))).alloc (.loop {state:=.ready,pending:=x7,fn,tmps:=a.tmps,params:=ps,assign,body,defers:=w.1.size})),gf,#[.func (.yield (w.1.size+1)) #[] #[]]++lb,((w.alloc (.deferred (E []))).alloc (.loop {state:=.ready,pending:=x7,fn,tmps:=a.tmps,params:=ps,assign,body,defers:=w.1.size})),run_enterLoop_outer fn a.tmps ps assign body,by simp only[resolve,hg];simp[go_sem],fun f' T=>by simp[Target.leads]at T;subst T;exact a3,by simp[invoke,go_sem,eg],fun _=>h1,?_⟩;have hD:((w.alloc (.deferred (E []))).alloc (.loop {state:=.ready,pending:=x7,fn,tmps:=a.tmps,params:=ps,assign,body,defers:=w.1.size})).1[w.1.size]?=E (.deferred (E [])):=(Below.heap_alloc _ _ _ (by simp)).trans (World.alloc_heap_new w _);have hL:((w.alloc (.deferred (E []))).alloc (.loop {state:=.ready,pending:=x7,fn,tmps:=a.tmps,params:=ps,assign,body,defers:=w.1.size})).1[w.1.size+1]?=E (.loop {state:=.ready,pending:=x7,fn,tmps:=a.tmps,params:=ps,assign,body,defers:=w.1.size}):=by
  have:=World.alloc_heap_new (w.alloc (.deferred (E []))) (.loop {state:=.ready,pending:=x7,fn,tmps:=a.tmps,params:=ps,assign,body,defers:=w.1.size});rwa[World.size_alloc]at this
 have hB:zb w0.1.size w0 ((w.alloc (.deferred (E []))).alloc (.loop {state:=.ready,pending:=x7,fn,tmps:=a.tmps,params:=ps,assign,body,defers:=w.1.size})):=R.trans ((((zz _ w).alloc (za _) _).alloc (by simp) _).mono R.size);have a4:=M.alloc (.loop {state:=.ready,pending:=x7,fn,tmps:=a.tmps,params:=ps,assign,body,defers:=w.1.size}) (M.alloc (.deferred (E [])) h0);generalize((w.alloc (.deferred (E []))).alloc (.loop {state:=.ready,pending:=x7,fn,tmps:=a.tmps,params:=ps,assign,body,defers:=w.1.size}))=W1 at*;refine(a1 (w.1.size+1)
  (fun d W=>i d W/\W.1[w.1.size+1]?=E (.loop {state:=.ready,pending:=x7,fn,tmps:=a.tmps,params:=ps,assign,body,defers:=w.1.size})/\W.1[w.1.size]?=E (.deferred (E [])))
  (fun d W=>∃c,z c d W/\W.1[w.1.size+1]?=E (.loop {state:=.done,pending:=E c,fn,tmps:=a.tmps,params:=ps,assign,body,defers:=w.1.size})/\W.1[w.1.size]?=E (.deferred (E [])))
  W1 hB (by omega) (fun s X Y row u f q=>⟨M s X Y row u.1 f (fun r e=>⟨by have:=(q r e).1;omega,(q r e).2⟩),kD f (fun r e=>(q r e).1) (by omega) u.2.1,kD f (fun r e=>(q r e).1) (by omega) u.2.2⟩)
  (fun s X Y row u f q=>by
   obtain⟨c,J,k2,L⟩:=u;exact⟨c,A c s X Y row J f (fun r e=>⟨by have:=(q r e).1;omega,(q r e).2⟩),kD f (fun r e=>(q r e).1) (by omega) k2,kD f (fun r e=>(q r e).1) (by omega) L⟩)
  (fun s V v u=>⟨a5 s V v u.1,(jZ (by omega)).trans u.2.1,(jZ (by omega)).trans u.2.2⟩)
  (fun s V v u=>by
   obtain⟨c,J,k2,L⟩:=u;exact⟨c,O c s V v J,(jZ (by omega)).trans k2,(jZ (by omega)).trans L⟩)
  (fun d x V hv a0=>?_) ⟨a4,hL,hD⟩).mono ?_
 ·obtain⟨v1,v2,v3⟩:=hv;exact zdF (P:=P) (Kp:=Kp) (n:=n-1-1) w.1.size (w.1.size+1) fn w.1.size a.tmps a8 (by omega) a9 (fun W=>W.1[w.1.size]?=E (.deferred (E []))) (fun W W' he hk=>hk.same _ _ (za _) he rfl) (fun W o he=>(World.putObj_heap_other (by omega)).trans he)
   (fun h k=>a7 h k) (fun W o o'=>a6 W o o') i z M A Ax a2 (fun d x W K=>j _ d x W K) (fun d x y W ⟨r,q,_⟩=>B _ d x y W (by omega) ⟨r,q⟩) d x V v1 v2 v3 a0
 ·rintro e V ⟨⟨v,rfl⟩,(⟨xs,hS,J,k2,L⟩|⟨d,hS,c,J,k2,L⟩)⟩
  ·exact⟨x7,_,run_endLoop (P:=P) k2 (by simp),H _ xs _ (za _) hS (M.putObj _ J (by omega) k2 rfl) ((World.putObj_heap_other (by omega)).trans L)⟩
  ·exact⟨E c,_,run_endLoop (P:=P) k2 (by simp),I _ c d _ (za _) hS ((A c).putObj _ J (by omega) k2 rfl) ((World.putObj_heap_other (by omega)).trans L)⟩
end
abbrev Rw:=Int×List SX
def kw(r:Rw):List UInt8:=Zd r.1 r.2++[10]
def xb(a:List Rw):ByteArray:=⟨(a.flatMap kw).toArray⟩
def zgS(r:Rw):ByteArray:=⟨(kw r).toArray⟩
theorem zey(l:List Int):(10:UInt8)∉vP l:=fun h=>by
 unfold vP at h;obtain⟨n,_,a⟩:=List.mem_flatMap.1 h;rcases List.mem_cons.1 a with a|a
 ·exact absurd a (by decide)
 ·have:=jC n 10 a;have e:(10:UInt8).toNat=10:=rfl;omega
theorem zjh(now:Int)(xs:List SX):(10:UInt8)∉Zd now xs:=fun h=>by
 unfold Zd at h;rcases List.mem_append.1 h with h|h
 ·have:=jC now 10 h;have e:(10:UInt8).toNat=10:=rfl;omega
 ·obtain⟨x,_,a⟩:=List.mem_flatMap.1 h;unfold zkn at a;rcases List.mem_append.1 a with a|a
  ·exact zey _ a
  ·split at a
   ·exact zey _ a
   ·cases a
theorem zmQ:∀(l r:List UInt8),(10:UInt8)∉l->Lib.indexByte (l++10::r) 10=l.length
 |[],r,_=>by simp[Lib.indexByte]
 |b::l,r,h=>by
  have a:¬b=10:=fun e=>h (by simp[e]);have d:=zmQ l r (fun c=>h (by simp[c]));rw[List.cons_append,Lib.indexByte,if_neg (by simpa using a),d,if_neg (by rw[beq_iff_eq];omega),List.length_cons];omega
theorem zgw(r:Rw)(a:List Rw):(xb (r::a)).data.toList=Zd r.1 r.2++10::(xb a).data.toList:=by
 simp[xb,kw]
theorem Ji(r:Rw)(a:List Rw):(xb (r::a)).size=(Zd r.1 r.2).length+1+(xb a).size:=by
 simp[xb,kw,ByteArray.size];omega
theorem zpK(s:ByteArray)(w:G):Calls prog 203 #[.string s,.int .u8 10] w fun e w'=>e=.returned (I (Lib.indexByte s.data.toList 10))/\w'=w:=
 Any.strings_IndexByte Tryz.layIB s 10 w
theorem zkL(r:Rw)(a:List Rw):(xb (r::a)).extract 0 ((Zd r.1 r.2).length+1)=zgS r:=by
 apply ByteArray.ext;rw[ByteArray.data_extract];apply Array.ext';simp[xb,kw,zgS];rw[show Zd r.1 r.2++10::List.flatMap kw a=(Zd r.1 r.2++[10])++List.flatMap kw a by simp,List.take_left' (by simp)]
theorem zkM(r:Rw)(a:List Rw):(xb (r::a)).extract ((Zd r.1 r.2).length+1) (xb (r::a)).size=xb a:=by
 apply ByteArray.ext;rw[ByteArray.data_extract];apply Array.ext';have e:(xb (r::a)).data.toList=(Zd r.1 r.2++[10])++List.flatMap kw a:=by simp[xb,kw]
 rw[Array.toList_extract,List.extract_eq_take_drop,e,List.drop_left' (by simp)];refine(List.take_of_length_le ?_).trans ?_
 ·have h:=congrArg List.length e;simp only[Array.length_toList,List.length_append,List.length_cons,List.length_nil]at h;show(List.flatMap kw a).length<=(xb (r::a)).data.size-_;omega
 ·simp[xb]
section
variable {c:Cf} {ep:Int} {m:MS} {r:RM}
theorem znf(b:MOk c ep m)(d:s∈zn m.L)(f:(stL m.L s).st=2):0<=s.t/\s.t<c.n:=by
 have hv:=zW d;have a:=b.seg.inr _ hv;refine⟨?_,a.2.2.1⟩;by_cases e:s.t= -1
 ·have:=(b.seg.raw _ hv e).1;simp only at this;omega
 ·have:=a.2.1;simp only at this;omega
theorem zgm(f:MOk c ep m)(h:zdV c m r)(D:∀x,x∈zk Bs↔∃k,k∈zn m.L/\(stL m.L k).st=2/\x∈yw c k)(o:s∈xd r.c r.nu):KL r s (xd r.c r.nu)=true↔s∈zn m.L/\yU c Bs m.L m.now s=true:=by
 obtain⟨M,B,N⟩:=h.there o;have H:=o;unfold KL JJ yU;rw[h.hc,h.now]at*;simp only[Bool.and_eq_true,Bool.not_eq_true',decide_eq_false_iff_not,List.all_eq_true,beq_eq_false_iff_ne,beq_iff_eq,decide_eq_true_eq,ne_eq,Option.isNone_iff_eq_none];constructor
 ·rintro⟨⟨⟨⟨a1,a2⟩,a3⟩,a4⟩,a5⟩;have A:0<=s.t:=by omega
  obtain⟨n,d⟩:=Jr f.seg.nl ((h.wt f (by rw[h.hc];exact o) A).2 ⟨a2,a3⟩);refine⟨n,⟨?_,d⟩,by unfold Cf.end at a4;omega⟩;rw[xy,D];rintro⟨k,i,l,F⟩;have j:=znf f i l;have a:k∈xd c r.nu:=by have:=h.seg ⟨by omega,j.2⟩ i;rwa[h.hc]at this
  have b:=(h.wt f (by rw[h.hc];exact a) j.1).1 ⟨_,zW i,l⟩;have:=a5 k a;unfold zkC at this;rw[h.hc,(zad A B).2 F,b.1,decide_eq_true j.1]at this;cases this
 ·rintro⟨n,⟨v,w⟩,K⟩;have d:=znf f n w;have b:=(h.wt f (by rw[h.hc];exact o) d.1).1 ⟨_,zW n,w⟩;refine⟨⟨⟨⟨by omega,b.1⟩,b.2⟩,by unfold Cf.end;omega⟩,fun x I=>?_⟩;cases g:zkC r s x with
  |false=>rfl
  |true=>
   unfold zkC at g;simp only[Bool.and_eq_true,Bool.not_eq_true',decide_eq_true_eq]at g;obtain⟨⟨y,z⟩,p⟩:=g;rw[h.hc]at y;have q:QC x r.gone=false:=by
    rw[Bool.eq_false_iff,ne_eq,h.gone];intro e;rw[(h.pub x).2 (.inr ⟨z,e⟩)]at p;cases p
   obtain⟨J,u⟩:=Jr f.seg.nl ((h.wt f (by rw[h.hc];exact I) z).2 ⟨p,q⟩);rw[xy,D]at v;exact absurd ⟨x,J,u,(zad d.1 B).1 y⟩ v
end
theorem zqH{W:G}(h:W.1[ta]?=E (.cells #[I (-1),I 2,I 100] 80 (0,0))):TS W (E (U ta 0)) awC.n awC.F awC.W awC.K:=fun _=>by
 refine⟨ta,0,rfl,zd h,fun i a=>?_⟩;obtain rfl:i=0:=by have:awC.n=1:=rfl;omega
 exact⟨by rw[xR h];rfl,by rw[xR h];rfl,by rw[xR h];rfl⟩
theorem Kx.foot(h:Kx i w w')(a:zt w' i k):zt w i k\/w.1.size<=k:=by
 rcases a with e|e
 ·exact .inl (.inl e)
 ·rcases h.fs k e with e|e
  ·exact .inl (.inr e)
  ·exact .inr e
theorem Kx.not(h:Kx i w w')(hn:¬zt w i k)(a:k<w.1.size):¬zt w' i k:=fun e=>by
 rcases h.foot e with e|e
 ·exact hn e
 ·omega
theorem zfn(b:zb w.1.size w M)(c:Kx i M M1)(a:∀k,zt M i k->w.1.size<=k):zb w.1.size w M1:=b.trans (c.kept.below b.size a)
theorem zhr(b:zb w.1.size w M)(c:Kx i M M1)(a:∀k,zt M i k->w.1.size<=k):∀k,zt M1 i k->w.1.size<=k:=fun k e=>by
 rcases c.foot e with e|e
 ·exact a k e
 ·exact x9 b.size e
theorem zpD(h:zF M i c ep m)(a:∀k,zt M i k->B<=k)(b:B<=M.1.size)(o:Obj):∀k,zt (M.alloc o) i k->B<=k:=fun k e=>by
 rcases(h.below ((zz _ _).alloc (za _) o)).foot e with e|e
 ·exact a k e
 ·omega
theorem zpE(h:zF M i c ep m)(o:Obj):¬zt (M.alloc o) i M.1.size:=by
 obtain⟨q,txt,ns,a⟩:=h;exact XW a.at_ ((zz _ _).alloc (za _) o)
theorem zqE{a:G}(h:zF M i c ep m)(b:zb M.1.size M a)(hn:¬zt M i k)(d:k<M.1.size):¬zt a i k:=(h.below b).not hn d
theorem znx(g:zx 111 113 B D p Yp (.slice x7 0 0))(n:B<=D.1.size)(h:D.1[ta]?=E (.cells #[I (-1),I 2,I 100] 80 (0,0)))(a:Qo D)(f:p≠vR):
  Hid (Calls prog 29 #[.agg #[I 1,I 9,I 0,I 2,I 4,I 9,.slice (E (U ta 0)) 1 1],(O p)] D fun e M=>∃i:Ids,e=.returned (.tuple #[(O i.x),I 0])/\zF M i awC 1 ⟨0,[],[],0,[],[]⟩/\zi (fun k=>k=p) D M/\∀k,zt M i k->k=p\/D.1.size<=k):=by
 have d:p≠ta:=fun e=>by
  have b:=g.head;rw[e,h]at b;cases b
 refine ze ((zbP awC X9 zkx zaS (E (U ta 0)) 1 B p (.slice x7 0 0) D n g (fun w' c=>zqH (c.heap h (fun e=>?_))) a (fun k e=>?_)).mono ?_)
 ·rcases e with e|e
  ·exact d e.symm
  ·cases e
 ·rcases e with e|e
  ·rw[e];exact f
  ·cases e
 ·rintro e M ⟨i,_,b,j,l,m⟩;exact⟨i,b,j,l.mono (fun k _ e=>by rcases e with e|e;exact e;cases e),fun k c=>by
   rcases m k c with(e|e)|e
   ·exact .inl e
   ·cases e
   ·exact .inr e⟩
theorem zcI{X:G}(a:zi (fun k=>k=X.1.size) D M)(d:D.1.size=X.1.size+1)(c:b<X.1.size)(j:Nat):M.cell? (U b j)=D.cell? (U b j):=zL a (show¬b=X.1.size by omega) (by omega)
theorem zhu(w:G)(t:Qo w):Calls prog 36 #[] w (Rz w (.bool true)):=by
 obtain⟨y0,y1,ab,yz⟩:=box2 w (.cells #[I (-1),I 2,I 100] 80) (.cells #[I 1,I 9,I 0,I 2,I 4,I 9,.slice (E (U w.1.size 0)) 1 1] 27);obtain⟨c0,c1,c2,c3,c4,c5,c6,-⟩:=zc y1;have Y0:=ze y0;have h:=ze ab;have YZ:=ze yz;have am:=zd y1;have al:=zd y0;clear y0 y1 ab yz;go_enter func36,ntmps36;go_wp2_with fail;generalize((w.alloc (.cells #[I (-1),I 2,I 100] 80)).alloc (.cells #[I 1,I 9,I 0,I 2,I 4,I 9,.slice (E (U w.1.size 0)) 1 1] 27))=X at*;have c:w.1.size+1<X.1.size:=am;have HN:=fun W (hB:X.1.size<=W.1.size)=>ze (zdn X.1.size W hB);have HO:=fun D (h1:zx 111 113 X.1.size D X.1.size Yp (.slice x7 0 0)) (h2:zb X.1.size X D)=>znx (ta:=w.1.size) h1 h2.size ((h2.block _ al).trans (ud Y0)) (Za (Za t (ud h)) h2) (by have h3:=t.lt;have h4:=(ud h).size;omega);go_region_held3 (fun w'=>w'.cell? (U (w.1.size+1) 0)=E (I 1)/\w'.cell? (U (w.1.size+1) 1)=E (I 9)/\w'.cell? (U (w.1.size+1) 2)=E (I 0)/\w'.cell? (U (w.1.size+1) 3)=E (I 2)/\w'.cell? (U (w.1.size+1) 4)=E (I 4)/\w'.cell? (U (w.1.size+1) 5)=E (I 9)/\w'.cell? (U (w.1.size+1) 6)=E (.slice (E (U w.1.size 0)) 1 1)) (go_keep) (first
  |(go_at_call 38;(with_reducible refine(ud (HN _ ?hb)).mono ?_);(case hb=>exact za _);rintro e D ⟨rfl,hD,l,ac⟩;have g:zb X.1.size X D:=⟨l.os,l.tape,l.output,l.size,l.block⟩;have ad:D.1.size=X.1.size+1:=ac;have d0:Cz D (w.1.size+1) 0 (I 1):=(g.cell (p:=(U (w.1.size+1) 0)) c).trans c0;have d1:Cz D (w.1.size+1) 1 (I 9):=(g.cell (p:=(U (w.1.size+1) 1)) c).trans c1;have d2:Cz D (w.1.size+1) 2 (I 0):=(g.cell (p:=(U (w.1.size+1) 2)) c).trans c2;have d3:Cz D (w.1.size+1) 3 (I 2):=(g.cell (p:=(U (w.1.size+1) 3)) c).trans c3;have d4:Cz D (w.1.size+1) 4 (I 4):=(g.cell (p:=(U (w.1.size+1) 4)) c).trans c4;have d5:Cz D (w.1.size+1) 5 (I 9):=(g.cell (p:=(U (w.1.size+1) 5)) c).trans c5;have d6:Cz D (w.1.size+1) 6 (.slice (E (U w.1.size 0)) 1 1):=(g.cell (p:=(U (w.1.size+1) 6)) c).trans c6;have HD:Hid (zx 111 113 X.1.size D X.1.size Yp (.slice x7 0 0)):=hD;have u:=ze g;have j:=ze ad;clear hD l g ac ad HN)
  |(go_at_call 29;(first|(with_reducible refine(ud (HO _ (ud HD) (ud u))).mono ?_)|refine(ud (HO _ (ud HD) (ud u))).mono ?_);rintro e M ⟨i,rfl,hM,o,q⟩;have m0:Cz M (w.1.size+1) 0 (I 1):=(zcI o (ud j) c 0).trans d0;have m1:Cz M (w.1.size+1) 1 (I 9):=(zcI o (ud j) c 1).trans d1;have m2:Cz M (w.1.size+1) 2 (I 0):=(zcI o (ud j) c 2).trans d2;have m3:Cz M (w.1.size+1) 3 (I 2):=(zcI o (ud j) c 3).trans d3;have m4:Cz M (w.1.size+1) 4 (I 4):=(zcI o (ud j) c 4).trans d4;have m5:Cz M (w.1.size+1) 5 (I 9):=(zcI o (ud j) c 5).trans d5;have m6:Cz M (w.1.size+1) 6 (.slice (E (U w.1.size 0)) 1 1):=(zcI o (ud j) c 6).trans d6;have HM:=ze hM;have HK:=ze o;have ai:=ze q;clear hM o q))
 have m:=ud u;have q:∀k,zt M i k->w.1.size<=k:=fun k o=>by
  rcases ud ai k o with e|e
  ·rw[e];exact(ud h).size
  ·exact x9 (ud h).size (x9 m.size e)
 have n:=(ud h).trans (m.mono (ud h).size);have P:=ze (n.trans ((ud HK).below n.size (fun k e=>by have:=(ud h).size;have e':k=X.1.size:=e;omega)));have a3:=ze q;clear m q n c0 d0 m0 c1 d1 m1 c2 d2 m2 c3 d3 m3 c4 d4 m4 c5 d5 m5 c6 d6 m6;go_wp2_with(first
  |(go_at_call 27;refine(zpC (ud HM)).mono ?_;rintro e M1 ⟨rfl,b,a⟩;have aj:=ze b;have F:=ze (zfn (ud P) a (ud a3));have Z:=ze (zhr (ud P) a (ud a3));clear b a)
  |(go_at_call 26;refine(zny (ud aj)).mono ?_;rintro e M2 ⟨rfl,b,a⟩;have a4:=ze b;have H:=ze (zfn (ud F) a (ud Z));have a0:=ze (zhr (ud F) a (ud Z));clear b a)
  |(go_at_call 18;refine(zky (ud a4)).mono ?_;rintro e M3 ⟨rfl,b,a⟩;have f:=zfn (ud H) a (ud a0);have a1:=ze (zpD b (zhr (ud H) a (ud a0)) f.size zqo);have x:=(zz M3.1.size M3).alloc (za _) zqo;have a5:=ze (b.later x);have J:=ze (f.alloc f.size zqo);have R:=ze (zq M3 zqo);have aa:Hid (¬zt (M3.alloc zqo) i M3.1.size):=zpE b _;clear b a f x a4)
  |(go_at_call 20;refine(znv (ud a5)).mono ?_;rintro e M4 ⟨rfl,b,a⟩;have a7:=ze b;have K:=ze (zfn (ud J) a (ud a1));have a2:=ze (zhr (ud J) a (ud a1));have r:=ze (a.kept.heap (ud R) (ud aa));have s:=ze (a.not (ud aa) (zd (ud R)));clear b a a5)
  |(go_at_call 18;refine(zkz (ud a7)).mono ?_;rintro e M5 ⟨rfl,b,a⟩;have f:=zfn (ud K) a (ud a2);have ah:=ze (zpD b (zhr (ud K) a (ud a2)) f.size zpo);have a6:=ze (zqE b ((zz _ _).alloc (za _) zpo) (a.not (ud s) (zd (ud r))) (zd (a.kept.heap (ud r) (ud s))));have x:=(zz M5.1.size M5).alloc (za _) zpo;have a8:=ze (b.later x);have ae:=ze (f.alloc f.size zpo);have af:=ze ((Below.heap_alloc _ zpo _ (zd (a.kept.heap (ud r) (ud s)))).trans (a.kept.heap (ud r) (ud s)));have ag:=ze (zq M5 zpo);have ak:Hid (¬zt (M5.alloc zpo) i M5.1.size):=zpE b _;clear b a f x a7)
  |(go_at_call 20;refine(znw (ud a8)).mono ?_;rintro e M6 ⟨rfl,⟨TL',b⟩,a⟩;have v:=ze b;have L:=ze (zfn (ud ae) a (ud ah));have S:=ze (a.kept.heap (ud af) (ud a6));have V:=ze (a.kept.heap (ud ag) (ud ak));clear b a a8)
  |(go_at_call 57;refine(zqF (ud v)).mono ?_;rintro e M7 ⟨rfl,y⟩;have x:=(zz M7.1.size M7).alloc (za _) zpn;have d:=y.alloc y.size zpn;have a9:=ze ((ud v).later d);have N:=ze ((ud L).trans (d.mono (ud L).size));have T:=ze ((d.block _ (zd (ud S))).trans (ud S));have Y:=ze ((d.block _ (zd (ud V))).trans (ud V));have Q:=ze (zq M7 zpn);clear y d x v)
  |(go_at_call 57;refine(zqG (ud a9)).mono ?_;rintro e M8 ⟨rfl,d⟩;have O:=ze ((ud N).trans (d.mono (ud N).size));have A:=(d.block _ (zd (ud T))).trans (ud T);have B:=(d.block _ (zd (ud Y))).trans (ud Y);have z:=(d.block _ (zd (ud Q))).trans (ud Q);obtain⟨i0,-⟩:=zc A;obtain⟨j0,-⟩:=zc B;obtain⟨d0,d1,-⟩:=zc z;have li:=zd A;have lj:=zd B;have ld:=zd z;clear d A B z a9))
 go_ret;exact⟨rfl,(ud O).alloc (ud O).size _⟩
attribute [local go_sem] Oper.semAt_some
theorem zcg:∀(rs:List Rw) (k:Nat),(xb (rs.drop k)).size<=(xb rs).size
 |rs,0=>by simp
 |[],k+1=>by simp
 |r::rs,k+1=>by rw[List.drop_succ_cons,Ji];have:=zcg rs k;omega
def zco(w:G)(b:Nat):Nat:=match w.cell? (U b 0)with|some (.string s)=>s.size|_=>0
theorem zfR{α:Type}(f:α->Rw)(a:List α)(a2:(xb (a.map f)).size<=1000000000000)(b:Nat)(w:G)(X:w.1[b]?=E (.cells #[.string (xb (a.map f))] 9 (0,0)))(m:Nat):
  SeqB b Fence.wide 6 prog 202 #[(O b)] (fun x:α=>#[.string (zgS (f x))]) (fun V V'=>V'.1[b]?=V.1[b]?) (fun xs=>xs=a) (fun _=>True) a.length m w:=by
 intro l J Jx W hW hm hJ R s u S h0;have y:=(hW.block _ (zd X)).trans X;have I:=ze y;clear hW X y;show CallsIn Fence.wide 6 prog 202 #[.func (.yield l) #[] #[],(O b)] W _;refine callsIn_of_wp func202 rfl trivial ?_ rfl;simp only[ntmps202,sZz,Nat.reduceAdd,Nat.reduceSub];gi_wp2;gi_loopw [] (fun wr=>∃k,k<=a.length/\wr.1[b]?=E (.cells #[.string (xb ((a.drop k).map f))] 9 (0,0))/\J (a.take k) wr) (fun wr=>zco wr b);case atStart=>exact⟨0,Nat.zero_le _,ud I,h0⟩
 case round=>
  obtain⟨k,hk,d,g⟩:=hrel;obtain⟨P,-⟩:=zc d;have cf:=zw d 0;have lb:=zd d;rcases Nat.lt_or_ge k a.length with h|z
  ·obtain⟨Z,Y⟩:∃r,a[k]=r:=⟨_,rfl⟩;obtain⟨r,j⟩:∃r,f Z=r:=⟨_,rfl⟩;have e:(a.drop k).map f=r::(a.drop (k+1)).map f:=(by rw[<-j,<-Y,List.drop_eq_getElem_cons h,List.map_cons]);have hd:(xb ((a.drop k).map f)).size<=(xb (a.map f)).size:=(by rw[List.map_drop];exact zcg (a.map f) k);obtain⟨rest,c⟩:∃rest,(a.drop (k+1)).map f=rest:=⟨_,rfl⟩;rw[e,c]at P d hd;have D:=Ji r rest;have p:Lib.indexByte (xb (r::rest)).data.toList 10=((Zd r.1 r.2).length:Int):=(by rw[zgw];exact zmQ _ _ (zjh _ _));have o:=ze (zpK (xb (r::rest)) wr);rw[p]at o;have c1:=zkL r rest;have c2:=zkM r rest;generalize hn:(Zd r.1 r.2).length=n at*;generalize a0:xb (r::rest)=T at*;have hT:decide ((0:Int)<(T.size:Int))=true:=(by simp;omega);have a1:decide ((0:Int)<=(n:Int))=true:=(by simp);rw[D]at c2;have H:(wr.setCell (U b 0) (.string (xb rest))).1[b]?=E (.cells #[.string (xb rest)] 9 (0,0)):=xD (i:=0) d (.string (xb rest));have q:J (a.take k) (wr.setCell (U b 0) (.string (xb rest))).drew:=zN hJ (s _ _ (.string (xb rest)) g) (zz _ _).drew;obtain⟨fn,tmps,assign,body,hy,hR⟩:=S (a.take k) Z _ q (by rw[List.length_take];omega);have F:a.take (k+1)=a.take k++[Z]:=(by rw[<-Y];exact List.take_succ_eq_append_getElem h);have B:zco wr b=n+1+(xb rest).size:=(by unfold zco;rw[P];exact D);have N:=ze H;have M:=ze F;have L:=ze c;have K:=ze B;rw[j]at hy;clear S p e c Y j H q s u F B g h0 hJ R;gi_wp2_with (first|(refine⟨trivial,?_⟩;gi_at_call 203;refine(callsIn_wide.2 (ud o)).mono ?_;rintro e V ⟨rfl,hV⟩;subst hV)|gi_in)
   gi_region
   gi_wp2;refine hR.mono ?_;rintro e3 W3 (⟨rfl,Q,A⟩|⟨rfl,t,A⟩)
   ·gi_wp2;have v:W3.1[b]?=E (.cells #[.string (xb rest)] 9 (0,0)):=A.trans (ud N);go_roundw;case rel=>exact⟨k+1,h,by rw[ud L];exact v,by rw[ud M];exact Q⟩
    case measure=>
     have h3:zco W3 b=(xb rest).size:=(by unfold zco;rw[xR v];rfl);rw[h3,ud K];omega
   ·gi_wp2;refine bodyPost_ret (results_none rfl _ _ _) rfl ?_;exact⟨⟨_,rfl⟩,.inr ⟨_,trivial,t⟩⟩
  ·have e:a.drop k=[]:=List.drop_eq_nil_of_le z;have e2:a.take k=a:=List.take_of_length_le z;rw[e,List.map_nil]at P;rw[e2]at g;have hT:decide ((0:Int)<((xb []).size:Int))=false:=(by simp[xb,ByteArray.size]);clear S;gi_wp2;go_end0;exact⟨⟨_,rfl⟩,.inl ⟨a,rfl,g⟩⟩
section
variable {c:Cf} {ep:Int} {m:MS} {r:RM} {ns:List Nm}
theorem zeo(m:c.ok)(o:c.fits){k:Sg}(q:0<=x.tm)(e:zG c k.t x=k)(f:s∈yw c k):∃j:Nat,j<c.n/\s.t=j/\c.F j=k.t/\zG c j x=s:=by
 unfold yw VD at f;rw[List.map_map]at f;obtain⟨j,p,rfl⟩:=List.mem_map.1 f;obtain⟨b,d⟩:=List.mem_filter.1 p;have a:j<c.n:=by simpa using b
 have h:c.F j=k.t:=by simpa using d
 refine⟨j,a,rfl,h,?_⟩;have g:=znb m o q a;rw[h]at g;have i:x.sr=k.sr:=congrArg Sg.sr e;have l:x.tm/c.wh k.t=k.wn:=congrArg Sg.wn e;show(⟨(j:Int),x.sr,x.tm/c.wh j⟩:Sg)=⟨(j:Int),k.sr,k.wn*c.wh k.t/c.W j⟩;rw[<-l,g,i,vM]
theorem zeA(u:c.ok)(v:c.fits)(y:MOk c ep m)(d:X6 c m ns)(r:∀x,x∈zk Bs↔∃k,k∈zn m.L/\(stL m.L k).st=2/\x∈yw c k){p:Jk×Tsk}(n:p∈m.TL)(o:p.2.rl=true):yU c Bs m.L m.now p.2.s=true:=by
 have l:=y.td p n;have h:=l.roll o;have a:=l.clo;unfold yU;have g:zE Bs p.2.s=x7:=by
  rw[xy,r];rintro⟨k,i,f,w⟩;obtain⟨x,q,e⟩:=d.has k i;obtain⟨j,z,b,t,es⟩:=zeo u v (d.tm x q).1 e w;refine(d.td p n).roll o j b x q (by rw[b];exact es) ?_;rw[t,e];exact⟨_,zW i,f⟩
 rw[g,h];unfold Cf.clo at a;simpa using a
theorem zez(k:c.ok)(t:c.fits)(l:MOk c ep m)(b:X6 c m ns){p:Jk×Tsk}(n:p∈m.TL)(o:p.2.rl=false):yT c m.L m.now p.2.s=true:=by
 have g:=l.td p n;have i:=g.recl o;obtain⟨h,f⟩:=(b.td p n).recl o;obtain⟨x,q,e⟩:=b.has p.2.s g.mem;have d:=l.seg.inr _ (zW g.mem);unfold yT;have u:Zs c m.L p.2.s=true:=(XZ k d).2 (fun y z a=>by
  obtain⟨j,v,w,r,es⟩:=zeo k t (b.tm x q).1 e z;refine f x q e j v r ?_;rw[es];exact⟨_,zW (zav a),a⟩)
 rw[u];simp only[Bool.and_true,Bool.and_eq_true,Bool.not_eq_true',beq_eq_false_iff_ne,ne_eq,decide_eq_true_eq];exact⟨i,h⟩
end
end Go.Proofs.YtndhpgciopcncaaGreatDoor
