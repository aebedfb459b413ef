import Derived.Test.YtndhpgciopcncaaGreatDoorURef5
open Go.Value renaming int → I
open Go.IntKind renaming i64 → O
open Option renaming some → Q
open Option renaming none → U
open Nat renaming le_refl → Y
open Go renaming Value → Z
open Go renaming World → X
open Go.RowKit.Below renaming refl → G
open Go.RowKit renaming Below → R
open Go.IntKind (i32)
set_option linter.unusedVariables false
set_option maxRecDepth 100000
set_option maxHeartbeats 2000000
open Go.Proofs.Tryz
namespace Go.Proofs.YtndhpgciopcncaaGreatDoor
open Go.ChangeMaps (setBlock)
open Go.RowKit Go.Maps Go.Shelf
attribute [local go_sem] Oper.semAt_some
structure Lse where
 kd:Int
 s:Sg
 slot:Int
 til:Int
structure Tsk where
 rl:Bool
 s:Sg
 se:Int
 ti:Int
 rest:Int
def Tsk.jt(x:Tsk):TypeId:=if x.rl then 195 else 197
theorem zaH{W a:X}(h:R W.1.size W a):W.grownBy a U:=⟨h.os,h.tape,h.output,h.size,fun k b _=>h.block k b⟩
theorem zK{β:Type}{B:Nat}{J:β->X->Prop}(h:OwnFrom B J){s:β}{W a:X}(c:J s W)(b:R W.1.size W a):J s a:=h s W a U c (zaH b) (fun r e=>by cases e)
theorem qI{α:Type}{p:α->Bool}{l:List α}{x:α}(h:p x=true):(l++[x]).filter p=l.filter p++[x]:=by simp[h]
theorem qE{α:Type}{p:α->Bool}{l:List α}{x:α}(h:p x=false):(l++[x]).filter p=l.filter p:=by simp[h]
theorem qR{α:Type}(p:α->Bool)(l:List α):(l.filter p).length<=l.length:=List.length_filter_le _ _
theorem xP{ex:Nat->Prop}{n m:Nat}{A B:X}(h:KX ex n m A B){k:Nat}{o:Obj}(a:A.1[k]?=Q o)(b:k<n)(c:¬ex k):B.1[k]?=Q o:=(h.low b c (za a)).trans a
theorem zh{B:Nat}{W a:X}(h:R W.1.size W a):KeepsFrom B W a:=(qM h).from B
theorem zee(gf:Nat)(lb:Array Z)(eg:∀args w,(callFunc gf args).run prog w=.ok (.enter gf args) w)(hf:Nat)(aj hc:Array Z)(eh:∀args w,(callFunc hf args).run prog w=.ok (.enter hf args) w){ex:Nat->Prop}{n N:Nat}{S:List SX->Prop}(p:SX->Bool)(Bl Bh:Nat)(w:X)(hn:n<=w.1.size)
  (aI:Bl<n/\¬ex Bl) (al:Bh<n/\¬ex Bh) (c1:w.1[Bl]?=Q (.cells #[.func (.func gf) #[] lb] 150 (0,0))) (c2:w.1[Bh]?=Q (.cells #[.func (.func hf) aj hc] 158 (0,0)))
  (am:∀(x:SX) (W:X),(∃m,KX ex n m w W)->Calls prog hf (aj++#[.agg #[I O x.1.t,I O x.1.sr,I O x.1.wa,I O x.2.st,I O x.2.cl.cnt,I O x.2.cl.sum,I i32 x.2.cl.mn,I i32 x.2.cl.mx]]++hc) W fun e W'=>e=.returned (.bool (p x))/\R W.1.size W W')
  (P:kN ex n prog gf lb (fun x:SX=>#[.agg #[I O x.1.t,I O x.1.sr,I O x.1.wa,I O x.2.st,I O x.2.cl.cnt,I O x.2.cl.sum,I i32 x.2.cl.mn,I i32 x.2.cl.mx]]) S N w):
  kN ex n prog 225 #[.pointer (Q ⟨Bl,0,U⟩),.pointer (Q ⟨Bh,0,U⟩)] (fun x:SX=>#[.agg #[I O x.1.t,I O x.1.sr,I O x.1.wa,I O x.2.st,I O x.2.cl.cnt,I O x.2.cl.sum,I i32 x.2.cl.mn,I i32 x.2.cl.mx]]) (fun ys=>∃xs,S xs/\ys=xs.filter p) N w:=by
 intro m hm l J Jx E hW aL hJ ag hY h0
 have d1:=(hW.block Bl (za c1)).trans c1
 have d2:=(hW.block Bh (za c2)).trans c2
 obtain⟨e1,-⟩:=zc d1
 have aK:=za d1
 have ao:=hW.size
 have ay:=zd am
 have ac:=zd P
 have aw:=zd eg
 have ax:=zd eh
 have av:=zd c2
 have HJ:=zd hJ
 have a9:=zd ag
 have HY:=zd hY
 have a:R E.1.size E (E.alloc (.cells #[.func (.yield l) #[] #[]] 158)):=(G _ _).alloc (Y _) _
 have ar:=zm E (.cells #[.func (.yield l) #[] #[]] 158)
 have an:=zL E (.cells #[.func (.yield l) #[] #[]] 158)
 have v:=zK hJ h0 a
 have ak:KX ex n m w (E.alloc (.cells #[.func (.yield l) #[] #[]] 158)):=KX.of_below (hW.trans (a.mono ao))
 have ai:=hW.trans (a.mono ao)
 have HB:=zd ai
 have aa:=zd ak
 have ae:=zd ar
 have ad:=zd an
 have a8:=zd v
 clear am P eg eh hJ ag hY h0 d1 d2 a ar an v ak c2 ai
 refine callsIn_wide.2 ((callsIn_wide (n:=7)).1 ?_)
 refine callsIn_of_wp_marks func225 rfl trivial ?_ rfl
 simp only[ntmps225,List.size_toArray,List.length_cons,List.length_nil,Nat.reduceAdd,Nat.reduceSub,Array.replicate_succ,Array.replicate_zero,List.push_toArray,List.append_toArray,List.nil_append,List.cons_append]
 gi_wp2
 obtain⟨u,ah⟩:∃u,(E.alloc (.cells #[.func (.yield l) #[] #[]] 158))=u:=⟨_,rfl⟩
 rw[ah]at aa ae ad a8 HB ⊢
 clear ah
 have hz:u.1.size=E.1.size+1:=ud ad
 refine qD (F:=Fence.wide) (n:=7) rfl (by omega) (gf:=gf) (lb:=lb) rfl trivial (ud aw) (ud ac (u.1.size+2) (by omega)) (Y _) (fun h k=>h.trans k) (fun W o o' h hc hw=>KX.putObj o' (by omega) (by omega) h hw) (ud HB) (fun _=>rfl)
  (fun g W=>J (g.filter p) W/\KX ex n (u.1.size+2) w W/\W.1[E.1.size]?=Q (.cells #[.func (.yield l) #[] #[]] 158 (0,0)))
  (fun c g W=>c=.ret/\∃q,Jx q W)
  (fun s A B C M hg j=>⟨ud HJ _ A B C M.1 hg (fun r e=>⟨by have:=(j r e).1;omega,(j r e).2⟩),KX.own (β:=Unit) (q:=u.1.size) (by omega) () A B C M.2.1 hg j,zt M.2.2 hg (fun r e=>(j r e).2)⟩)
  (fun c s A B C M hg j=>⟨M.1,by obtain⟨q,hq⟩:=M.2;exact⟨q,ud a9 q A B C hq hg (fun r e=>⟨by have:=(j r e).1;omega,(j r e).2⟩)⟩⟩)
  ⟨ud a8,(ud aa).wider (by omega),ud ae⟩
  (fun x a' W=>∃Bx,u.1.size<=Bx/\W.1[Bx]?=Q (.cells #[I O x.1.t,I O x.1.sr,I O x.1.wa,I O x.2.st,I O x.2.cl.cnt,I O x.2.cl.sum,I i32 x.2.cl.mn,I i32 x.2.cl.mx] 148 (0,0))/\a'={tmps:=#[.func (.yield l) #[] #[],.pointer (Q ⟨Bl,0,U⟩),.pointer (Q ⟨Bh,0,U⟩),.pointer (Q ⟨E.1.size,0,U⟩),.pointer (Q ⟨Bx,0,U⟩),.func (.func gf) #[] lb,.agg #[I O x.1.t,I O x.1.sr,I O x.1.wa,I O x.2.st,I O x.2.cl.cnt,I O x.2.cl.sum,I i32 x.2.cl.mn,I i32 x.2.cl.mx],undef,undef,undef,undef,undef,undef,undef,undef,undef],defers:=[]})
  (fun x a' s A B C M hg j=>by
   obtain⟨Bx,h1,h2,h3⟩:=M
   exact⟨Bx,h1,zt h2 hg (fun r e=>(j r e).2),h3⟩) ?assign ?body ?done ?stop
 case assign=>
  rintro l' g x W K ⟨i1,i2,i3⟩ L
  have aC:=za i3
  have aD:=i2.kept.size
  have HK:=zd L
  clear L
  gi_wp2
  have y:=(G W.1.size W).alloc (Y _) (.cells #[I O x.1.t,I O x.1.sr,I O x.1.wa,I O x.2.st,I O x.2.cl.cnt,I O x.2.cl.sum,I i32 x.2.cl.mn,I i32 x.2.cl.mx] 148)
  refine ud HK _ _ (zh y) (KX.of_below y) ⟨zK (ud HJ) i1 y,i2.trans (KX.of_below y),(y.block _ aC).trans i3⟩ ⟨W.1.size,by omega,zm _ _,rfl⟩
 case body=>
  rintro l' g x a' W hl ⟨r,j⟩ ⟨i1,i2,i3⟩ ⟨Bx,aH,hx,rfl⟩ aF
  have aD:=i2.kept.size
  have aB:=za hx
  have au:=za i3
  have a1:=xP i2 (ud av) al.1 al.2
  have aE:=za a1
  obtain⟨c1,-⟩:=zc a1
  obtain⟨x0,x1,x2,x3,x4,x5,x6,x7,-⟩:=zc hx
  have HC:=zd (ud ay x W ⟨_,i2⟩)
  have a5:=zd i1
  have a6:=zd i2
  have a7:=zd i3
  have HX:=zd hx
  have aG:=zd j
  have aJ:=qR p g
  have aA:=ud ax
  clear i1 i2 i3 hx j a1
  obtain⟨bx,a2⟩:∃bx,p x=bx:=⟨_,rfl⟩
  rw[a2]at HC
  have ab:=zd a2
  clear a2
  cases bx with
  |false=>
   gi_wp2
   refine⟨trivial,(CallsIn.inRound l' (callsIn_wide.2 (ud HC))).mono ?_⟩
   rintro e W1 ⟨rfl,a⟩
   have b:=zd a
   clear a
   gi_wp2
   refine⟨fun _ h=>(by cases h),?_⟩
   gi_wp2
   exact⟨zh (ud b),KX.of_below (ud b),by rw[qE (ud ab)];exact zK (ud HJ) (ud a5) (ud b),(ud a6).trans (KX.of_below (ud b)),((ud b).block _ au).trans (ud a7)⟩
  |true=>
   gi_wp2
   refine⟨trivial,(CallsIn.inRound l' (callsIn_wide.2 (ud HC))).mono ?_⟩
   rintro e W1 ⟨rfl,a⟩
   have ap:=(a.block _ aB).trans (ud HX)
   have a3:=(a.block _ au).trans (ud a7)
   obtain⟨y0,-⟩:=zc a3
   obtain⟨z0,z1,z2,z3,z4,z5,z6,z7,-⟩:=zc ap
   have a4:=zd a3
   have b:=zd a
   have v:=zK (ud HJ) (ud a5) a
   obtain⟨fn,tmps,assign,body,hy,hR⟩:=yW (m':=4) rfl (ud HY (g.filter p) x W1 v (by omega))
   have aM:=a.size
   clear a ap a3 v
   gi_wp2
   refine RoundIn.mono (F:=Fence.wide.inRound l') hR ?_
   rintro e W2 (⟨rfl,af,f⟩|⟨rfl,H,f⟩)
   ·have d:KX ex n (u.1.size+2) W W2:=(KX.of_below (ud b)).trans (f.wider (by omega))
    have z:KeepsFrom u.1.size W W2:=(zh (ud b)).trans (f.from (by omega))
    have aq:=f.high _ _ (by omega) (fun⟨_,_,e⟩=>by cases e) (ud a4)
    have i:=zd d
    have a0:=zd z
    have az:=zd aq
    have T:=zd af
    clear d z aq af f
    gi_wp2
    exact⟨ud a0,ud i,by rw[qI (ud ab)];exact ud T,(ud a6).trans (ud i),ud az⟩
   ·have d:KX ex n (u.1.size+2) W W2:=(KX.of_below (ud b)).trans (f.wider (by omega))
    have z:KeepsFrom u.1.size W W2:=(zh (ud b)).trans (f.from (by omega))
    have i:=zd d
    have a0:=zd z
    have T:=zd H
    clear d z H f
    gi_wp2
    exact⟨ud a0,ud i,rfl,_,ud T⟩
 case done=>
  rintro D xs W hD hS ⟨i1,i2,i3⟩ L
  have V:=zd (OwnFrom.putObj (ud HJ) (.deferred U) i1 (by omega) L rfl)
  clear i1 i2 i3
  gi_wp2
  refine⟨by simp,.inl ⟨_,_,rfl,run_takeDeferred L,?_⟩⟩
  exact⟨_,results_none rfl _ _ _,⟨_,rfl⟩,.inl ⟨_,⟨xs,hS,rfl⟩,ud V⟩⟩
 case stop=>
  rintro D c g W hD hS ⟨rfl,q,hq⟩ L
  have V:=zd (OwnFrom.putObj (ud a9) (.deferred U) hq (by omega) L rfl)
  clear hq
  gi_wp2
  refine⟨by simp,.inl ⟨_,_,rfl,run_takeDeferred L,?_⟩⟩
  exact⟨_,results_none rfl _ _ _,⟨_,rfl⟩,.inr ⟨_,trivial,ud V⟩⟩
theorem vW{α:Type}(d:α->Sg)(gf:Nat)(lb:Array Z)(eg:∀args w,(callFunc gf args).run prog w=.ok (.enter gf args) w)(hf:Nat)(ak hc:Array Z)(eh:∀args w,(callFunc hf args).run prog w=.ok (.enter hf args) w){ex:Nat->Prop}{n N:Nat}{S:List α->Prop}(p:α->Bool)(Bl Bh:Nat)(w:X)(hn:n<=w.1.size)
  (aJ:Bl<n/\¬ex Bl) (am:Bh<n/\¬ex Bh) (c1:w.1[Bl]?=Q (.cells #[.func (.func gf) #[] lb] 199 (0,0))) (c2:w.1[Bh]?=Q (.cells #[.func (.func hf) ak hc] 206 (0,0)))
  (an:∀(x:α) (W:X),(∃m,KX ex n m w W)->Calls prog hf (ak++#[.agg #[I O (d x).t,I O (d x).sr,I O (d x).wa]]++hc) W fun e W'=>e=.returned (.bool (p x))/\R W.1.size W W')
  (T:kN ex n prog gf lb (fun x:α=>#[.agg #[I O (d x).t,I O (d x).sr,I O (d x).wa]]) S N w):
  kN ex n prog 194 #[.pointer (Q ⟨Bl,0,U⟩),.pointer (Q ⟨Bh,0,U⟩)] (fun x:α=>#[.agg #[I O (d x).t,I O (d x).sr,I O (d x).wa]]) (fun ys=>∃xs,S xs/\ys=xs.filter p) N w:=by
 intro m hm l J Jx H hW aM hJ ah hY h0
 have d1:=(hW.block Bl (za c1)).trans c1
 have d2:=(hW.block Bh (za c2)).trans c2
 obtain⟨e1,-⟩:=zc d1
 have aL:=za d1
 have ap:=hW.size
 have az:=zd an
 have ad:=zd T
 have ax:=zd eg
 have ay:=zd eh
 have aw:=zd c2
 have HJ:=zd hJ
 have aa:=zd ah
 have HY:=zd hY
 have a:R H.1.size H (H.alloc (.cells #[.func (.yield l) #[] #[]] 206)):=(G _ _).alloc (Y _) _
 have au:=zm H (.cells #[.func (.yield l) #[] #[]] 206)
 have ao:=zL H (.cells #[.func (.yield l) #[] #[]] 206)
 have y:=zK hJ h0 a
 have al:KX ex n m w (H.alloc (.cells #[.func (.yield l) #[] #[]] 206)):=KX.of_below (hW.trans (a.mono ap))
 have aj:=hW.trans (a.mono ap)
 have HB:=zd aj
 have ab:=zd al
 have af:=zd au
 have ae:=zd ao
 have a9:=zd y
 clear an T eg eh hJ ah hY h0 d1 d2 a au ao y al c2 aj
 refine callsIn_wide.2 ((callsIn_wide (n:=7)).1 ?_)
 refine callsIn_of_wp_marks func194 rfl trivial ?_ rfl
 simp only[ntmps194,List.size_toArray,List.length_cons,List.length_nil,Nat.reduceAdd,Nat.reduceSub,Array.replicate_succ,Array.replicate_zero,List.push_toArray,List.append_toArray,List.nil_append,List.cons_append]
 gi_wp2
 obtain⟨v,ai⟩:∃v,(H.alloc (.cells #[.func (.yield l) #[] #[]] 206))=v:=⟨_,rfl⟩
 rw[ai]at ab af ae a9 HB ⊢
 clear ai
 have hz:v.1.size=H.1.size+1:=ud ae
 refine qD (F:=Fence.wide) (n:=7) rfl (by omega) (gf:=gf) (lb:=lb) rfl trivial (ud ax) (ud ad (v.1.size+2) (by omega)) (Y _) (fun h k=>h.trans k) (fun W o o' h hc hw=>KX.putObj o' (by omega) (by omega) h hw) (ud HB) (fun _=>rfl)
  (fun i W=>J (i.filter p) W/\KX ex n (v.1.size+2) w W/\W.1[H.1.size]?=Q (.cells #[.func (.yield l) #[] #[]] 206 (0,0)))
  (fun c i W=>c=.ret/\∃q,Jx q W)
  (fun s A B E P hg u=>⟨ud HJ _ A B E P.1 hg (fun r e=>⟨by have:=(u r e).1;omega,(u r e).2⟩),KX.own (β:=Unit) (q:=v.1.size) (by omega) () A B E P.2.1 hg u,zt P.2.2 hg (fun r e=>(u r e).2)⟩)
  (fun c s A B E P hg u=>⟨P.1,by obtain⟨q,hq⟩:=P.2;exact⟨q,ud aa q A B E hq hg (fun r e=>⟨by have:=(u r e).1;omega,(u r e).2⟩)⟩⟩)
  ⟨ud a9,(ud ab).wider (by omega),ud af⟩
  (fun x a' W=>∃Bx,v.1.size<=Bx/\W.1[Bx]?=Q (.cells #[I O (d x).t,I O (d x).sr,I O (d x).wa] 146 (0,0))/\a'={tmps:=#[.func (.yield l) #[] #[],.pointer (Q ⟨Bl,0,U⟩),.pointer (Q ⟨Bh,0,U⟩),.pointer (Q ⟨H.1.size,0,U⟩),.pointer (Q ⟨Bx,0,U⟩),.func (.func gf) #[] lb,.agg #[I O (d x).t,I O (d x).sr,I O (d x).wa],undef,undef,undef,undef,undef,undef,undef,undef,undef],defers:=[]})
  (fun x a' s A B E P hg u=>by
   obtain⟨Bx,h1,h2,h3⟩:=P
   exact⟨Bx,h1,zt h2 hg (fun r e=>(u r e).2),h3⟩) ?assign ?body ?done ?stop
 case assign=>
  rintro l' i x W K ⟨i1,i2,i3⟩ M
  have aD:=za i3
  have aE:=i2.kept.size
  have HK:=zd M
  clear M
  gi_wp2
  have z:=(G W.1.size W).alloc (Y _) (.cells #[I O (d x).t,I O (d x).sr,I O (d x).wa] 146)
  refine ud HK _ _ (zh z) (KX.of_below z) ⟨zK (ud HJ) i1 z,i2.trans (KX.of_below z),(z.block _ aD).trans i3⟩ ⟨W.1.size,by omega,zm _ _,rfl⟩
 case body=>
  rintro l' i x a' W hl ⟨r,u⟩ ⟨i1,i2,i3⟩ ⟨Bx,aI,hx,rfl⟩ aG
  have aE:=i2.kept.size
  have aC:=za hx
  have av:=za i3
  have a2:=xP i2 (ud aw) am.1 am.2
  have aF:=za a2
  obtain⟨c1,-⟩:=zc a2
  obtain⟨x0,x1,x2,-⟩:=zc hx
  have HC:=zd (ud az x W ⟨_,i2⟩)
  have a6:=zd i1
  have a7:=zd i2
  have a8:=zd i3
  have HX:=zd hx
  have aH:=zd u
  have aK:=qR p i
  have aB:=ud ay
  clear i1 i2 i3 hx u a2
  obtain⟨bx,a3⟩:∃bx,p x=bx:=⟨_,rfl⟩
  rw[a3]at HC
  have ac:=zd a3
  clear a3
  cases bx with
  |false=>
   gi_wp2
   refine⟨trivial,(CallsIn.inRound l' (callsIn_wide.2 (ud HC))).mono ?_⟩
   rintro e W1 ⟨rfl,a⟩
   have b:=zd a
   clear a
   gi_wp2
   refine⟨fun _ h=>(by cases h),?_⟩
   gi_wp2
   exact⟨zh (ud b),KX.of_below (ud b),by rw[qE (ud ac)];exact zK (ud HJ) (ud a6) (ud b),(ud a7).trans (KX.of_below (ud b)),((ud b).block _ av).trans (ud a8)⟩
  |true=>
   gi_wp2
   refine⟨trivial,(CallsIn.inRound l' (callsIn_wide.2 (ud HC))).mono ?_⟩
   rintro e W1 ⟨rfl,a⟩
   have aq:=(a.block _ aC).trans (ud HX)
   have a4:=(a.block _ av).trans (ud a8)
   obtain⟨y0,-⟩:=zc a4
   obtain⟨z0,z1,z2,-⟩:=zc aq
   have a5:=zd a4
   have b:=zd a
   have y:=zK (ud HJ) (ud a6) a
   obtain⟨fn,tmps,assign,body,hy,hR⟩:=yW (m':=4) rfl (ud HY (i.filter p) x W1 y (by omega))
   have aN:=a.size
   clear a aq a4 y
   gi_wp2
   refine RoundIn.mono (F:=Fence.wide.inRound l') hR ?_
   rintro e W2 (⟨rfl,ag,g⟩|⟨rfl,L,g⟩)
   ·have f:KX ex n (v.1.size+2) W W2:=(KX.of_below (ud b)).trans (g.wider (by omega))
    have C:KeepsFrom v.1.size W W2:=(zh (ud b)).trans (g.from (by omega))
    have ar:=g.high _ _ (by omega) (fun⟨_,_,e⟩=>by cases e) (ud a5)
    have j:=zd f
    have a1:=zd C
    have aA:=zd ar
    have V:=zd ag
    clear f C ar ag g
    gi_wp2
    exact⟨ud a1,ud j,by rw[qI (ud ac)];exact ud V,(ud a7).trans (ud j),ud aA⟩
   ·have f:KX ex n (v.1.size+2) W W2:=(KX.of_below (ud b)).trans (g.wider (by omega))
    have C:KeepsFrom v.1.size W W2:=(zh (ud b)).trans (g.from (by omega))
    have j:=zd f
    have a1:=zd C
    have V:=zd L
    clear f C L g
    gi_wp2
    exact⟨ud a1,ud j,rfl,_,ud V⟩
 case done=>
  rintro D xs W hD hS ⟨i1,i2,i3⟩ M
  have a0:=zd (OwnFrom.putObj (ud HJ) (.deferred U) i1 (by omega) M rfl)
  clear i1 i2 i3
  gi_wp2
  refine⟨by simp,.inl ⟨_,_,rfl,run_takeDeferred M,?_⟩⟩
  exact⟨_,results_none rfl _ _ _,⟨_,rfl⟩,.inl ⟨_,⟨xs,hS,rfl⟩,ud a0⟩⟩
 case stop=>
  rintro D c i W hD hS ⟨rfl,q,hq⟩ M
  have a0:=zd (OwnFrom.putObj (ud aa) (.deferred U) hq (by omega) M rfl)
  clear hq
  gi_wp2
  refine⟨by simp,.inl ⟨_,_,rfl,run_takeDeferred M,?_⟩⟩
  exact⟨_,results_none rfl _ _ _,⟨_,rfl⟩,.inr ⟨_,trivial,ud a0⟩⟩
theorem zed(gf:Nat)(lb:Array Z)(eg:∀args w,(callFunc gf args).run prog w=.ok (.enter gf args) w)(hf:Nat)(aj hc:Array Z)(eh:∀args w,(callFunc hf args).run prog w=.ok (.enter hf args) w){ex:Nat->Prop}{n N:Nat}{S:List Lse->Prop}(p:Lse->Bool)(Bl Bh:Nat)(w:X)(hn:n<=w.1.size)
  (aI:Bl<n/\¬ex Bl) (al:Bh<n/\¬ex Bh) (c1:w.1[Bl]?=Q (.cells #[.func (.func gf) #[] lb] 166 (0,0))) (c2:w.1[Bh]?=Q (.cells #[.func (.func hf) aj hc] 172 (0,0)))
  (am:∀(x:Lse) (W:X),(∃m,KX ex n m w W)->Calls prog hf (aj++#[.agg #[I O x.kd,I O x.s.t,I O x.s.sr,I O x.s.wa,I O x.slot,I O x.til]]++hc) W fun e W'=>e=.returned (.bool (p x))/\R W.1.size W W')
  (P:kN ex n prog gf lb (fun x:Lse=>#[.agg #[I O x.kd,I O x.s.t,I O x.s.sr,I O x.s.wa,I O x.slot,I O x.til]]) S N w):
  kN ex n prog 226 #[.pointer (Q ⟨Bl,0,U⟩),.pointer (Q ⟨Bh,0,U⟩)] (fun x:Lse=>#[.agg #[I O x.kd,I O x.s.t,I O x.s.sr,I O x.s.wa,I O x.slot,I O x.til]]) (fun ys=>∃xs,S xs/\ys=xs.filter p) N w:=by
 intro m hm l J Jx E hW aL hJ ag hY h0
 have d1:=(hW.block Bl (za c1)).trans c1
 have d2:=(hW.block Bh (za c2)).trans c2
 obtain⟨e1,-⟩:=zc d1
 have aK:=za d1
 have ao:=hW.size
 have ay:=zd am
 have ac:=zd P
 have aw:=zd eg
 have ax:=zd eh
 have av:=zd c2
 have HJ:=zd hJ
 have a9:=zd ag
 have HY:=zd hY
 have a:R E.1.size E (E.alloc (.cells #[.func (.yield l) #[] #[]] 172)):=(G _ _).alloc (Y _) _
 have ar:=zm E (.cells #[.func (.yield l) #[] #[]] 172)
 have an:=zL E (.cells #[.func (.yield l) #[] #[]] 172)
 have v:=zK hJ h0 a
 have ak:KX ex n m w (E.alloc (.cells #[.func (.yield l) #[] #[]] 172)):=KX.of_below (hW.trans (a.mono ao))
 have ai:=hW.trans (a.mono ao)
 have HB:=zd ai
 have aa:=zd ak
 have ae:=zd ar
 have ad:=zd an
 have a8:=zd v
 clear am P eg eh hJ ag hY h0 d1 d2 a ar an v ak c2 ai
 refine callsIn_wide.2 ((callsIn_wide (n:=7)).1 ?_)
 refine callsIn_of_wp_marks func226 rfl trivial ?_ rfl
 simp only[ntmps226,List.size_toArray,List.length_cons,List.length_nil,Nat.reduceAdd,Nat.reduceSub,Array.replicate_succ,Array.replicate_zero,List.push_toArray,List.append_toArray,List.nil_append,List.cons_append]
 gi_wp2
 obtain⟨u,ah⟩:∃u,(E.alloc (.cells #[.func (.yield l) #[] #[]] 172))=u:=⟨_,rfl⟩
 rw[ah]at aa ae ad a8 HB ⊢
 clear ah
 have hz:u.1.size=E.1.size+1:=ud ad
 refine qD (F:=Fence.wide) (n:=7) rfl (by omega) (gf:=gf) (lb:=lb) rfl trivial (ud aw) (ud ac (u.1.size+2) (by omega)) (Y _) (fun h k=>h.trans k) (fun W o o' h hc hw=>KX.putObj o' (by omega) (by omega) h hw) (ud HB) (fun _=>rfl)
  (fun g W=>J (g.filter p) W/\KX ex n (u.1.size+2) w W/\W.1[E.1.size]?=Q (.cells #[.func (.yield l) #[] #[]] 172 (0,0)))
  (fun c g W=>c=.ret/\∃q,Jx q W)
  (fun s A B C M hg j=>⟨ud HJ _ A B C M.1 hg (fun r e=>⟨by have:=(j r e).1;omega,(j r e).2⟩),KX.own (β:=Unit) (q:=u.1.size) (by omega) () A B C M.2.1 hg j,zt M.2.2 hg (fun r e=>(j r e).2)⟩)
  (fun c s A B C M hg j=>⟨M.1,by obtain⟨q,hq⟩:=M.2;exact⟨q,ud a9 q A B C hq hg (fun r e=>⟨by have:=(j r e).1;omega,(j r e).2⟩)⟩⟩)
  ⟨ud a8,(ud aa).wider (by omega),ud ae⟩
  (fun x a' W=>∃Bx,u.1.size<=Bx/\W.1[Bx]?=Q (.cells #[I O x.kd,I O x.s.t,I O x.s.sr,I O x.s.wa,I O x.slot,I O x.til] 164 (0,0))/\a'={tmps:=#[.func (.yield l) #[] #[],.pointer (Q ⟨Bl,0,U⟩),.pointer (Q ⟨Bh,0,U⟩),.pointer (Q ⟨E.1.size,0,U⟩),.pointer (Q ⟨Bx,0,U⟩),.func (.func gf) #[] lb,.agg #[I O x.kd,I O x.s.t,I O x.s.sr,I O x.s.wa,I O x.slot,I O x.til],undef,undef,undef,undef,undef,undef,undef,undef,undef],defers:=[]})
  (fun x a' s A B C M hg j=>by
   obtain⟨Bx,h1,h2,h3⟩:=M
   exact⟨Bx,h1,zt h2 hg (fun r e=>(j r e).2),h3⟩) ?assign ?body ?done ?stop
 case assign=>
  rintro l' g x W K ⟨i1,i2,i3⟩ L
  have aC:=za i3
  have aD:=i2.kept.size
  have HK:=zd L
  clear L
  gi_wp2
  have y:=(G W.1.size W).alloc (Y _) (.cells #[I O x.kd,I O x.s.t,I O x.s.sr,I O x.s.wa,I O x.slot,I O x.til] 164)
  refine ud HK _ _ (zh y) (KX.of_below y) ⟨zK (ud HJ) i1 y,i2.trans (KX.of_below y),(y.block _ aC).trans i3⟩ ⟨W.1.size,by omega,zm _ _,rfl⟩
 case body=>
  rintro l' g x a' W hl ⟨r,j⟩ ⟨i1,i2,i3⟩ ⟨Bx,aH,hx,rfl⟩ aF
  have aD:=i2.kept.size
  have aB:=za hx
  have au:=za i3
  have a1:=xP i2 (ud av) al.1 al.2
  have aE:=za a1
  obtain⟨c1,-⟩:=zc a1
  obtain⟨x0,x1,x2,x3,x4,x5,-⟩:=zc hx
  have HC:=zd (ud ay x W ⟨_,i2⟩)
  have a5:=zd i1
  have a6:=zd i2
  have a7:=zd i3
  have HX:=zd hx
  have aG:=zd j
  have aJ:=qR p g
  have aA:=ud ax
  clear i1 i2 i3 hx j a1
  obtain⟨bx,a2⟩:∃bx,p x=bx:=⟨_,rfl⟩
  rw[a2]at HC
  have ab:=zd a2
  clear a2
  cases bx with
  |false=>
   gi_wp2
   refine⟨trivial,(CallsIn.inRound l' (callsIn_wide.2 (ud HC))).mono ?_⟩
   rintro e W1 ⟨rfl,a⟩
   have b:=zd a
   clear a
   gi_wp2
   refine⟨fun _ h=>(by cases h),?_⟩
   gi_wp2
   exact⟨zh (ud b),KX.of_below (ud b),by rw[qE (ud ab)];exact zK (ud HJ) (ud a5) (ud b),(ud a6).trans (KX.of_below (ud b)),((ud b).block _ au).trans (ud a7)⟩
  |true=>
   gi_wp2
   refine⟨trivial,(CallsIn.inRound l' (callsIn_wide.2 (ud HC))).mono ?_⟩
   rintro e W1 ⟨rfl,a⟩
   have ap:=(a.block _ aB).trans (ud HX)
   have a3:=(a.block _ au).trans (ud a7)
   obtain⟨y0,-⟩:=zc a3
   obtain⟨z0,z1,z2,z3,z4,z5,-⟩:=zc ap
   have a4:=zd a3
   have b:=zd a
   have v:=zK (ud HJ) (ud a5) a
   obtain⟨fn,tmps,assign,body,hy,hR⟩:=yW (m':=4) rfl (ud HY (g.filter p) x W1 v (by omega))
   have aM:=a.size
   clear a ap a3 v
   gi_wp2
   refine RoundIn.mono (F:=Fence.wide.inRound l') hR ?_
   rintro e W2 (⟨rfl,af,f⟩|⟨rfl,H,f⟩)
   ·have d:KX ex n (u.1.size+2) W W2:=(KX.of_below (ud b)).trans (f.wider (by omega))
    have z:KeepsFrom u.1.size W W2:=(zh (ud b)).trans (f.from (by omega))
    have aq:=f.high _ _ (by omega) (fun⟨_,_,e⟩=>by cases e) (ud a4)
    have i:=zd d
    have a0:=zd z
    have az:=zd aq
    have T:=zd af
    clear d z aq af f
    gi_wp2
    exact⟨ud a0,ud i,by rw[qI (ud ab)];exact ud T,(ud a6).trans (ud i),ud az⟩
   ·have d:KX ex n (u.1.size+2) W W2:=(KX.of_below (ud b)).trans (f.wider (by omega))
    have z:KeepsFrom u.1.size W W2:=(zh (ud b)).trans (f.from (by omega))
    have i:=zd d
    have a0:=zd z
    have T:=zd H
    clear d z H f
    gi_wp2
    exact⟨ud a0,ud i,rfl,_,ud T⟩
 case done=>
  rintro D xs W hD hS ⟨i1,i2,i3⟩ L
  have V:=zd (OwnFrom.putObj (ud HJ) (.deferred U) i1 (by omega) L rfl)
  clear i1 i2 i3
  gi_wp2
  refine⟨by simp,.inl ⟨_,_,rfl,run_takeDeferred L,?_⟩⟩
  exact⟨_,results_none rfl _ _ _,⟨_,rfl⟩,.inl ⟨_,⟨xs,hS,rfl⟩,ud V⟩⟩
 case stop=>
  rintro D c g W hD hS ⟨rfl,q,hq⟩ L
  have V:=zd (OwnFrom.putObj (ud a9) (.deferred U) hq (by omega) L rfl)
  clear hq
  gi_wp2
  refine⟨by simp,.inl ⟨_,_,rfl,run_takeDeferred L,?_⟩⟩
  exact⟨_,results_none rfl _ _ _,⟨_,rfl⟩,.inr ⟨_,trivial,ud V⟩⟩
theorem zef{α:Type}(a:α->Tsk)(gf:Nat)(lb:Array Z)(eg:∀args w,(callFunc gf args).run prog w=.ok (.enter gf args) w)(hf:Nat)(ak hc:Array Z)(eh:∀args w,(callFunc hf args).run prog w=.ok (.enter hf args) w){ex:Nat->Prop}{n N:Nat}{S:List α->Prop}(p:α->Bool)(Bl Bh:Nat)(w:X)(hn:n<=w.1.size)
  (aJ:Bl<n/\¬ex Bl) (am:Bh<n/\¬ex Bh) (c1:w.1[Bl]?=Q (.cells #[.func (.func gf) #[] lb] 174 (0,0))) (c2:w.1[Bh]?=Q (.cells #[.func (.func hf) ak hc] 179 (0,0)))
  (an:∀(x:α) (W:X),(∃m,KX ex n m w W)->Calls prog hf (ak++#[.agg #[.iface (a x).jt (.agg #[I O (a x).s.t,I O (a x).s.sr,I O (a x).s.wa]),I O (a x).se,I O (a x).ti,I O (a x).rest]]++hc) W fun e W'=>e=.returned (.bool (p x))/\R W.1.size W W')
  (T:kN ex n prog gf lb (fun x:α=>#[.agg #[.iface (a x).jt (.agg #[I O (a x).s.t,I O (a x).s.sr,I O (a x).s.wa]),I O (a x).se,I O (a x).ti,I O (a x).rest]]) S N w):
  kN ex n prog 157 #[.pointer (Q ⟨Bl,0,U⟩),.pointer (Q ⟨Bh,0,U⟩)] (fun x:α=>#[.agg #[.iface (a x).jt (.agg #[I O (a x).s.t,I O (a x).s.sr,I O (a x).s.wa]),I O (a x).se,I O (a x).ti,I O (a x).rest]]) (fun ys=>∃xs,S xs/\ys=xs.filter p) N w:=by
 intro m hm l J Jx H hW aM hJ ah hY h0
 have d1:=(hW.block Bl (za c1)).trans c1
 have d2:=(hW.block Bh (za c2)).trans c2
 obtain⟨e1,-⟩:=zc d1
 have aL:=za d1
 have ap:=hW.size
 have az:=zd an
 have ad:=zd T
 have ax:=zd eg
 have ay:=zd eh
 have aw:=zd c2
 have HJ:=zd hJ
 have aa:=zd ah
 have HY:=zd hY
 have b:R H.1.size H (H.alloc (.cells #[.func (.yield l) #[] #[]] 179)):=(G _ _).alloc (Y _) _
 have au:=zm H (.cells #[.func (.yield l) #[] #[]] 179)
 have ao:=zL H (.cells #[.func (.yield l) #[] #[]] 179)
 have y:=zK hJ h0 b
 have al:KX ex n m w (H.alloc (.cells #[.func (.yield l) #[] #[]] 179)):=KX.of_below (hW.trans (b.mono ap))
 have aj:=hW.trans (b.mono ap)
 have HB:=zd aj
 have ab:=zd al
 have af:=zd au
 have ae:=zd ao
 have a9:=zd y
 clear an T eg eh hJ ah hY h0 d1 d2 b au ao y al c2 aj
 refine callsIn_wide.2 ((callsIn_wide (n:=7)).1 ?_)
 refine callsIn_of_wp_marks func157 rfl trivial ?_ rfl
 simp only[ntmps157,List.size_toArray,List.length_cons,List.length_nil,Nat.reduceAdd,Nat.reduceSub,Array.replicate_succ,Array.replicate_zero,List.push_toArray,List.append_toArray,List.nil_append,List.cons_append]
 gi_wp2
 obtain⟨v,ai⟩:∃v,(H.alloc (.cells #[.func (.yield l) #[] #[]] 179))=v:=⟨_,rfl⟩
 rw[ai]at ab af ae a9 HB ⊢
 clear ai
 have hz:v.1.size=H.1.size+1:=ud ae
 refine qD (F:=Fence.wide) (n:=7) rfl (by omega) (gf:=gf) (lb:=lb) rfl trivial (ud ax) (ud ad (v.1.size+2) (by omega)) (Y _) (fun h k=>h.trans k) (fun W o o' h hc hw=>KX.putObj o' (by omega) (by omega) h hw) (ud HB) (fun _=>rfl)
  (fun i W=>J (i.filter p) W/\KX ex n (v.1.size+2) w W/\W.1[H.1.size]?=Q (.cells #[.func (.yield l) #[] #[]] 179 (0,0)))
  (fun c i W=>c=.ret/\∃q,Jx q W)
  (fun s A B E P hg u=>⟨ud HJ _ A B E P.1 hg (fun r e=>⟨by have:=(u r e).1;omega,(u r e).2⟩),KX.own (β:=Unit) (q:=v.1.size) (by omega) () A B E P.2.1 hg u,zt P.2.2 hg (fun r e=>(u r e).2)⟩)
  (fun c s A B E P hg u=>⟨P.1,by obtain⟨q,hq⟩:=P.2;exact⟨q,ud aa q A B E hq hg (fun r e=>⟨by have:=(u r e).1;omega,(u r e).2⟩)⟩⟩)
  ⟨ud a9,(ud ab).wider (by omega),ud af⟩
  (fun x a' W=>∃Bx,v.1.size<=Bx/\W.1[Bx]?=Q (.cells #[.iface (a x).jt (.agg #[I O (a x).s.t,I O (a x).s.sr,I O (a x).s.wa]),I O (a x).se,I O (a x).ti,I O (a x).rest] 177 (0,0))/\a'={tmps:=#[.func (.yield l) #[] #[],.pointer (Q ⟨Bl,0,U⟩),.pointer (Q ⟨Bh,0,U⟩),.pointer (Q ⟨H.1.size,0,U⟩),.pointer (Q ⟨Bx,0,U⟩),.func (.func gf) #[] lb,.agg #[.iface (a x).jt (.agg #[I O (a x).s.t,I O (a x).s.sr,I O (a x).s.wa]),I O (a x).se,I O (a x).ti,I O (a x).rest],undef,undef,undef,undef,undef,undef,undef,undef,undef],defers:=[]})
  (fun x a' s A B E P hg u=>by
   obtain⟨Bx,h1,h2,h3⟩:=P
   exact⟨Bx,h1,zt h2 hg (fun r e=>(u r e).2),h3⟩) ?assign ?body ?done ?stop
 case assign=>
  rintro l' i x W K ⟨i1,i2,i3⟩ M
  have aD:=za i3
  have aE:=i2.kept.size
  have HK:=zd M
  clear M
  gi_wp2
  have z:=(G W.1.size W).alloc (Y _) (.cells #[.iface (a x).jt (.agg #[I O (a x).s.t,I O (a x).s.sr,I O (a x).s.wa]),I O (a x).se,I O (a x).ti,I O (a x).rest] 177)
  refine ud HK _ _ (zh z) (KX.of_below z) ⟨zK (ud HJ) i1 z,i2.trans (KX.of_below z),(z.block _ aD).trans i3⟩ ⟨W.1.size,by omega,zm _ _,rfl⟩
 case body=>
  rintro l' i x a' W hl ⟨r,u⟩ ⟨i1,i2,i3⟩ ⟨Bx,aI,hx,rfl⟩ aG
  have aE:=i2.kept.size
  have aC:=za hx
  have av:=za i3
  have a2:=xP i2 (ud aw) am.1 am.2
  have aF:=za a2
  obtain⟨c1,-⟩:=zc a2
  obtain⟨x0,x1,x2,x3,-⟩:=zc hx
  have HC:=zd (ud az x W ⟨_,i2⟩)
  have a6:=zd i1
  have a7:=zd i2
  have a8:=zd i3
  have HX:=zd hx
  have aH:=zd u
  have aK:=qR p i
  have aB:=ud ay
  clear i1 i2 i3 hx u a2
  obtain⟨bx,a3⟩:∃bx,p x=bx:=⟨_,rfl⟩
  rw[a3]at HC
  have ac:=zd a3
  clear a3
  cases bx with
  |false=>
   gi_wp2
   refine⟨trivial,(CallsIn.inRound l' (callsIn_wide.2 (ud HC))).mono ?_⟩
   rintro e W1 ⟨rfl,b⟩
   have d:=zd b
   clear b
   gi_wp2
   refine⟨fun _ h=>(by cases h),?_⟩
   gi_wp2
   exact⟨zh (ud d),KX.of_below (ud d),by rw[qE (ud ac)];exact zK (ud HJ) (ud a6) (ud d),(ud a7).trans (KX.of_below (ud d)),((ud d).block _ av).trans (ud a8)⟩
  |true=>
   gi_wp2
   refine⟨trivial,(CallsIn.inRound l' (callsIn_wide.2 (ud HC))).mono ?_⟩
   rintro e W1 ⟨rfl,b⟩
   have aq:=(b.block _ aC).trans (ud HX)
   have a4:=(b.block _ av).trans (ud a8)
   obtain⟨y0,-⟩:=zc a4
   obtain⟨z0,z1,z2,z3,-⟩:=zc aq
   have a5:=zd a4
   have d:=zd b
   have y:=zK (ud HJ) (ud a6) b
   obtain⟨fn,tmps,assign,body,hy,hR⟩:=yW (m':=4) rfl (ud HY (i.filter p) x W1 y (by omega))
   have aN:=b.size
   clear b aq a4 y
   gi_wp2
   refine RoundIn.mono (F:=Fence.wide.inRound l') hR ?_
   rintro e W2 (⟨rfl,ag,g⟩|⟨rfl,L,g⟩)
   ·have f:KX ex n (v.1.size+2) W W2:=(KX.of_below (ud d)).trans (g.wider (by omega))
    have C:KeepsFrom v.1.size W W2:=(zh (ud d)).trans (g.from (by omega))
    have ar:=g.high _ _ (by omega) (fun⟨_,_,e⟩=>by cases e) (ud a5)
    have j:=zd f
    have a1:=zd C
    have aA:=zd ar
    have V:=zd ag
    clear f C ar ag g
    gi_wp2
    exact⟨ud a1,ud j,by rw[qI (ud ac)];exact ud V,(ud a7).trans (ud j),ud aA⟩
   ·have f:KX ex n (v.1.size+2) W W2:=(KX.of_below (ud d)).trans (g.wider (by omega))
    have C:KeepsFrom v.1.size W W2:=(zh (ud d)).trans (g.from (by omega))
    have j:=zd f
    have a1:=zd C
    have V:=zd L
    clear f C L g
    gi_wp2
    exact⟨ud a1,ud j,rfl,_,ud V⟩
 case done=>
  rintro D xs W hD hS ⟨i1,i2,i3⟩ M
  have a0:=zd (OwnFrom.putObj (ud HJ) (.deferred U) i1 (by omega) M rfl)
  clear i1 i2 i3
  gi_wp2
  refine⟨by simp,.inl ⟨_,_,rfl,run_takeDeferred M,?_⟩⟩
  exact⟨_,results_none rfl _ _ _,⟨_,rfl⟩,.inl ⟨_,⟨xs,hS,rfl⟩,ud a0⟩⟩
 case stop=>
  rintro D c i W hD hS ⟨rfl,q,hq⟩ M
  have a0:=zd (OwnFrom.putObj (ud aa) (.deferred U) hq (by omega) M rfl)
  clear hq
  gi_wp2
  refine⟨by simp,.inl ⟨_,_,rfl,run_takeDeferred M,?_⟩⟩
  exact⟨_,results_none rfl _ _ _,⟨_,rfl⟩,.inr ⟨_,trivial,ud a0⟩⟩
structure Jk where
 kd:Int
 s:Sg
deriving DecidableEq
structure Tok where
 ep:Int
 num:Int
deriving DecidableEq
def Jk.wf(k:Jk):Prop:=xh k.kd/\k.s.wf
def Tok.wf(k:Tok):Prop:=xh k.ep/\xh k.num
def Yk(k:Jk):Z:=.agg #[I O k.kd,I O k.s.t,I O k.s.sr,I O k.s.wa]
def ya(k:Tok):Z:=.agg #[I O k.ep,I O k.num]
def kV(x:Lse):Z:=.agg #[I O x.kd,I O x.s.t,I O x.s.sr,I O x.s.wa,I O x.slot,I O x.til]
def Zi(x:Tsk):Z:=.agg #[.iface x.jt (.agg #[I O x.s.t,I O x.s.sr,I O x.s.wa]),I O x.se,I O x.ti,I O x.rest]
theorem zjK:(162:TypeId)<prog.types.size:=of_decide_eq_true (by kernel_rfl)
theorem zjJ:Keyed prog 162:=Keyed.of_law (deep_law_laid Tryz.laidOut (m:=3) (Nat.le_of_ble_eq_true rfl) zjK (by kernel_rfl) (by kernel_rfl))
theorem zjo:(49:TypeId)<prog.types.size:=of_decide_eq_true (by kernel_rfl)
theorem zjn:Keyed prog 49:=Keyed.of_law (deep_law_laid Tryz.laidOut (m:=2) (Nat.le_of_ble_eq_true rfl) zjo (by kernel_rfl) (by kernel_rfl))
theorem JN:prog.cellsOf 162=4:=by kernel_rfl
theorem Vx:prog.cellsOf 49=2:=by kernel_rfl
theorem zhk:prog.keyType 162=true:=by kernel_rfl
theorem zfV:prog.keyType 49=true:=by kernel_rfl
theorem ziS{a b:Jk}(h:Yk a=Yk b):a=b:=by
 unfold Yk at h
 injection h with h
 injection h with h
 injection h with c h
 injection h with d h
 injection h with e h
 injection h with f h
 injection c with _ c
 injection d with _ d
 injection e with _ e
 injection f with _ f
 obtain⟨_,_,_,_⟩:=a;obtain⟨_,_,_,_⟩:=b;simp at*;exact⟨c,d,e,f⟩
theorem zdY{a b:Tok}(h:ya a=ya b):a=b:=by
 unfold ya at h
 injection h with h
 injection h with h
 injection h with c h
 injection h with d h
 injection c with _ c
 injection d with _ d
 cases a;cases b;simp at*;exact⟨c,d⟩
theorem KD:∃m,prog.types.size=m+2:=by
 have h:1<prog.types.size:=of_decide_eq_true (by kernel_rfl)
 exact⟨prog.types.size-2,by omega⟩
theorem ziT{k:Jk}(h:k.wf):∃n,keyOf prog 162 (Yk k)=Q n:=by
 obtain⟨m,l⟩:=KD
 obtain⟨c,d,e,f⟩:=h
 have g:(Yk k).formed prog 162=true:=by
  simp[Value.formed,Yk,underlying162,JN]
 unfold keyOf
 simp only[underlying162,zhk,g,Bool.and_self,if_true]
 have:∃b,prog.keyLits (prog.types.size+1) 162 (Yk k).cells.toList=Q b:=by
  rw[l]
  simp[Program.keyLits,underlying162,underlying146,underlying3,Yk,Value.cells,JN,XJ,XD,zga c,zga d,zga e,zga f]
  rw[if_pos (fun i j=>by match i,j with|0,_=>simp|1,_=>simp|2,_=>simp)]
  exact⟨_,rfl⟩
 obtain⟨b,a⟩:=this
 exact⟨_,by rw[a];rfl⟩
theorem zij{k:Tok}(h:k.wf):∃g,keyOf prog 49 (ya k)=Q g:=by
 obtain⟨m,f⟩:=KD
 obtain⟨c,d⟩:=h
 have e:(ya k).formed prog 49=true:=by
  simp[Value.formed,ya,underlying49,Vx]
 unfold keyOf
 simp only[underlying49,zfV,e,Bool.and_self,if_true]
 have:∃b,prog.keyLits (prog.types.size+1) 49 (ya k).cells.toList=Q b:=by
  rw[f]
  simp[Program.keyLits,underlying49,underlying3,ya,Value.cells,Vx,XD,zga c,zga d]
 obtain⟨b,a⟩:=this
 exact⟨_,by rw[a];rfl⟩
noncomputable def kR:MK Sg Unit:={P:=prog,T:=153,K:=146,E:=257,ke:=yD,ve:=fun _=> .agg #[],wf:=Sg.wf,z:=.agg #[]}
noncomputable def xI:MK Jk Tsk:={P:=prog,T:=169,K:=162,E:=177,ke:=Yk,ve:=Zi,wf:=Jk.wf,z:=.agg #[.nilIface,I O 0,I O 0,I O 0]}
noncomputable def xx:MK Tok Lse:={P:=prog,T:=168,K:=49,E:=164,ke:=ya,ve:=kV,wf:=Tok.wf,z:=.agg #[I O 0,I O 0,I O 0,I O 0,I O 0,I O 0]}
theorem jJ:kR.Ok:=⟨Z8,underlying153,fun a h=>Vo h,fun a b h=>zad h,fun w=>by kernel_rfl⟩
theorem qZ:xI.Ok:=⟨zjJ,underlying169,fun a h=>ziT h,fun a b h=>ziS h,fun w=>by kernel_rfl⟩
theorem qX:xx.Ok:=⟨zjn,underlying168,fun a h=>zij h,fun a b h=>zdY h,fun w=>by kernel_rfl⟩
attribute [local go_sem] Oper.semAt_some
theorem qU{α:Type}{ex:Nat->Prop}{n:Nat}{w W w':X}{f:α->Int}{a:List α}{x:α}{v:Z}{t t2:TypeId}{B:Nat}{u:Z}(h:u=I O (wrap64 (kq (a.map f)+f x)))(hn:n<=w.1.size)
  (i1:W.1[w.1.size]?=Q (.cells #[v] t (0,0))) (i2:W.1[w.1.size+1]?=Q (.cells #[I O (kq (a.map f))] t2 (0,0))) (i3:R w.1.size w W) (b:R W.1.size W w'):
  KeepsFrom B W (w'.setCell ⟨w.1.size+1,0,U⟩ u)/\KX ex n (w.1.size+4) W (w'.setCell ⟨w.1.size+1,0,U⟩ u)/\((w'.setCell ⟨w.1.size+1,0,U⟩ u).1[w.1.size]?=Q (.cells #[v] t (0,0))/\(w'.setCell ⟨w.1.size+1,0,U⟩ u).1[w.1.size+1]?=Q (.cells #[I O (kq ((a++[x]).map f))] t2 (0,0))/\R w.1.size w (w'.setCell ⟨w.1.size+1,0,U⟩ u)):=by
 subst h
 have c:=za i1
 have d:=za i2
 refine⟨((qM b).trans (KeepsOthers.setCell _ _ _)).from _,(KX.of_below b).trans (KX.setCell (by omega) (by omega)),?_,?_,i3.trans ((b.mono i3.size).setCell (p:=⟨w.1.size+1,0,U⟩) (Nat.le_succ _) _)⟩
 ·have e:=(b.block _ c).trans i1
  exact(((G (w.1.size+1) w').setCell (p:=⟨w.1.size+1,0,U⟩) (Y _) (I O (wrap64 (kq (a.map f)+f x)))).block w.1.size (Nat.lt_succ_self _)).trans e
 ·have g:=(b.block _ d).trans i2
  rw[List.map_append,List.map_singleton,Zj]
  exact xy (i:=0) g _
theorem kN.later{α:Type}{ex:Nat->Prop}{n N:Nat}{P:Program}{g:Nat}{lb:Array Z}{encs:α->Array Z}{S:List α->Prop}{w w':X}(h:kN ex n P g lb encs S N w)(a:R w.1.size w w'):kN ex n P g lb encs S N w':=
 fun m d l J b W c=>h m (Nat.le_trans a.size d) l J b W (a.trans (c.mono a.size))
theorem KX.lower{ex:Nat->Prop}{n n' m:Nat}{A B:X}(h:KX ex n' m A B)(hn:n<=n'):KX ex n m A B:=⟨h.kept.mono (fun k _ e=>e.imp id (fun e=>by omega)),h.walk,h.high⟩
theorem kN.lower{α:Type}{ex:Nat->Prop}{n n' N:Nat}{P:Program}{g:Nat}{lb:Array Z}{encs:α->Array Z}{S:List α->Prop}{w:X}(h:kN ex n P g lb encs S N w)(hn:n<=n'):kN ex n' P g lb encs S N w:=
 fun m b=>(h m b).keeps (fun A B a=>a.lower hn)
theorem kN.free{α:Type}{ex:Nat->Prop}{n N:Nat}{P:Program}{g:Nat}{lb:Array Z}{encs:α->Array Z}{S:List α->Prop}{w:X}(h:kN ex n P g lb encs S N w):kN (fun _=>False) n P g lb encs S N w:=
 fun m b=>(h m b).keeps (fun A B a=>⟨a.kept.mono (fun k _ e=>e.elim (fun e=>e.elim) .inr),fun k o _=>a.walk k o (fun e=>e),a.high⟩)
theorem vd{α:Type}(xs:List α)(h:xs.length<=9223372036854775807):kq (xs.map (fun _=>(1:Int)))=xs.length:=by
 have e:qr (xs.map (fun _=>(1:Int)))=xs.length:=by
  induction xs with
  |nil=>rfl
  |cons x xs a=>simp only[List.map_cons,qr,List.length_cons]at*;rw[a (by omega)];omega
 rw[yV (by rw[e];omega),e]
theorem zfO(gf:Nat)(lb:Array Z)(eg:∀args w,(callFunc gf args).run prog w=.ok (.enter gf args) w){ex:Nat->Prop}{n N:Nat}{S:List SX->Prop}(f:SX->Int)(w:X)(hn:n<=w.1.size)
  (M:∀(x:SX) (W:X),R w.1.size w W->Calls prog 89 #[.agg #[I O x.1.t,I O x.1.sr,I O x.1.wa,I O x.2.st,I O x.2.cl.cnt,I O x.2.cl.sum,I i32 x.2.cl.mn,I i32 x.2.cl.mx]] W fun e W'=>e=.returned (I O (f x))/\R W.1.size W W')
  (j:kN ex n prog gf lb (fun x:SX=>#[.agg #[I O x.1.t,I O x.1.sr,I O x.1.wa,I O x.2.st,I O x.2.cl.cnt,I O x.2.cl.sum,I i32 x.2.cl.mn,I i32 x.2.cl.mx]]) S N w):
  Calls prog 87 #[.func (.func gf) #[] lb,.func (.func 89) #[] #[]] w fun e w'=>∃xs,S xs/\e=.returned (I O (kq (xs.map f)))/\R w.1.size w w':=by
 have y:=zd M
 have z:=zd j
 have a1:=zd eg
 obtain⟨b1,b2,J,bz⟩:=box2 w (.cells #[.func (.func 89) #[] #[]] 156) (.cells #[I O 0] 3)
 clear M j eg
 refine(callsIn_wide (n:=7)).1 ?_
 refine callsIn_of_wp_marks func87 rfl trivial ?_ rfl
 simp only[ntmps87,List.size_toArray,List.length_cons,List.length_nil,Nat.reduceAdd,Nat.reduceSub,Array.replicate_succ,Array.replicate_zero,List.push_toArray,List.append_toArray,List.nil_append,List.cons_append]
 have B1:=zd b1
 have B2:=zd b2
 have m:=zd J
 have BZ:=zd bz
 clear b1 b2 J bz
 gi_wp2
 obtain⟨W0,E⟩:∃W0,((w.alloc (.cells #[.func (.func 89) #[] #[]] 156)).alloc (.cells #[I O 0] 3))=W0:=⟨_,rfl⟩
 rw[E]at B1 B2 m BZ ⊢
 clear E
 have hz:W0.1.size=w.1.size+2:=ud BZ
 refine qD (F:=Fence.wide) (n:=7) rfl (by omega) (gf:=gf) (lb:=lb) rfl trivial (ud a1) (ud z (w.1.size+4) (by omega)) (by omega) (fun h k=>h.trans k) (fun W o o' h hc hw=>KX.putObj o' (by omega) (by omega) h hw) (ud m) (fun _=>rfl)
  (fun b W=>W.1[w.1.size]?=Q (.cells #[.func (.func 89) #[] #[]] 156 (0,0))/\W.1[w.1.size+1]?=Q (.cells #[I O (kq (b.map f))] 3 (0,0))/\R w.1.size w W)
  (fun _ _ _=>False)
  (fun s A B a2 i L u=>⟨zt i.1 L (fun r e=>(u r e).2),zt i.2.1 L (fun r e=>(u r e).2),i.2.2.grown L (i.2.2.size) (fun k e=>by have:=(u k e).1;omega)⟩)
  (fun _ _ _ _ _ i _ _=>i)
  ⟨ud B1,ud B2,ud m⟩
  (fun x a' W=>∃q,w.1.size+2<=q/\W.1[q]?=Q (.cells #[I O x.1.t,I O x.1.sr,I O x.1.wa,I O x.2.st,I O x.2.cl.cnt,I O x.2.cl.sum,I i32 x.2.cl.mn,I i32 x.2.cl.mx] 148 (0,0))/\a'={tmps:=#[.func (.func gf) #[] lb,.func (.func 89) #[] #[],undef,.pointer (Q ⟨w.1.size,0,U⟩),I O 0,.pointer (Q ⟨w.1.size+1,0,U⟩),.pointer (Q ⟨q,0,U⟩),.func (.func gf) #[] lb,.agg #[I O x.1.t,I O x.1.sr,I O x.1.wa,I O x.2.st,I O x.2.cl.cnt,I O x.2.cl.sum,I i32 x.2.cl.mn,I i32 x.2.cl.mx],undef,undef,undef,undef,undef,undef],defers:=[]})
  (fun x a' s A B a2 i L u=>by
   obtain⟨q,h1,h2,h3⟩:=i
   exact⟨q,h1,zt h2 L (fun r e=>(u r e).2),h3⟩) ?assign ?body ?done ?stop
 case assign=>
  rintro l b x W K ⟨i1,i2,i3⟩ C
  have T:=i3.size
  have a5:=za i2
  have HK:=zd C
  clear C
  gi_wp2
  have H:=(G W.1.size W).alloc (Y _) (.cells #[I O x.1.t,I O x.1.sr,I O x.1.wa,I O x.2.st,I O x.2.cl.cnt,I O x.2.cl.sum,I i32 x.2.cl.mn,I i32 x.2.cl.mx] 148)
  refine ud HK _ _ (zh H) (KX.of_below H) ⟨(Below.heap_alloc _ _ _ (by omega)).trans i1,(Below.heap_alloc _ _ _ (by omega)).trans i2,i3.alloc T _⟩ ⟨W.1.size,by omega,zm _ _,rfl⟩
 case body=>
  rintro l b x a' W hl ⟨r,u⟩ ⟨i1,i2,i3⟩ ⟨q,a3,V,rfl⟩ a6
  have T:=i3.size
  have a4:=za V
  have P:=za i2
  obtain⟨c1,-⟩:=zc i1
  obtain⟨c2,-⟩:=zc i2
  have f2:W.frozen? ⟨w.1.size+1,0,U⟩=false:=zE i2 0
  obtain⟨x0,x1,x2,x3,x4,x5,x6,x7,-⟩:=zc V
  have HI:=zd i2
  have v:=zd i1
  have d:=zd i3
  have HX:=zd V
  have a7:prog.follows .mixedOrders=true:=by kernel_rfl
  have HC:=zd (ud y x W i3)
  have a0:=zd (ud y x W.drew i3.drew)
  clear i1 i2 i3 V
  gi_wp2
  gi_region_with_o (refine⟨trivial,?_⟩;gi_at_call 89;(first|refine(CallsIn.inRound l (callsIn_wide.2 (ud HC))).mono ?_|refine(CallsIn.inRound l (callsIn_wide.2 (ud a0))).mono ?_);rintro e w' ⟨rfl,g⟩;have d2:w'.cell? ⟨w.1.size+1,0,U⟩=Q (I O (kq (b.map f))):=(g.cell (p:=⟨w.1.size+1,0,U⟩) P).trans c2;have e2:w'.frozen? ⟨w.1.size+1,0,U⟩=false:=zE ((g.block _ P).trans (ud HI)) 0;have a:=zd g;clear g)
  all_goals gi_wp2
  all_goals(try go_bits)
  all_goals(first|(rw[hz];exact qU (x:=x) rfl hn (ud v) (ud HI) (ud d) ⟨(ud a).os,(ud a).tape,(ud a).output,(ud a).size,(ud a).block⟩)|exact qU (x:=x) rfl hn (ud v) (ud HI) (ud d) ⟨(ud a).os,(ud a).tape,(ud a).output,(ud a).size,(ud a).block⟩)
 case done=>
  rintro D xs W hD hS ⟨i1,i2,i3⟩ C
  obtain⟨c2,-⟩:=zc i2
  have d:=zd i3
  clear i1 i2 i3
  gi_wp2
  refine⟨by simp,.inl ⟨_,_,rfl,run_takeDeferred C,?_⟩⟩
  exact⟨_,results_tmp rfl _ _ _,xs,hS,rfl,xj (ud d) (Y _) (by omega) C _⟩
 case stop=>
  rintro D c b W _ _ h _
  exact h.elim
noncomputable def qN:MK Sg SX:={P:=prog,T:=152,K:=146,E:=148,ke:=yD,ve:=yP,wf:=Sg.wf,z:=yP zX}
theorem jM:qN.Ok:=⟨Z8,underlying152,fun a h=>Vo h,fun a b h=>zad h,fun w=>by kernel_rfl⟩
def kt(L:LV):List (Sg×SX):=L.map (fun p=>(p.1,p))
theorem QD(L:LV):zy (kt L)=zr L:=by unfold zy kt zr;rw[List.map_map];rfl
theorem XT(L:LV):(kt L).length=L.length:=by simp[kt]
theorem KL{L:LV}{q:Sg×SX}(h:q∈kt L):q.2∈L/\q.1=q.2.1:=by
 obtain⟨p,a,rfl⟩:=List.mem_map.1 h;exact⟨a,rfl⟩
theorem XU{L:LV}{ps:List (Sg×SX)}(h:ps.Perm (kt L)):(ps.map (fun p:Sg×SX=>p.2)).Perm L:=by
 have:=h.map (fun p:Sg×SX=>p.2)
 unfold kt at this
 rw[List.map_map]at this
 have e:L.map ((fun p:Sg×SX=>p.2)∘fun p=>(p.1,p))=L:=by
  conv=>rhs;rw[<-List.map_id L]
  rfl
 rwa[e]at this
theorem xX{w:X}{b:Nat}{L:LV}:qQ w b L↔zV qN w b (kt L):=
 ⟨fun⟨c,a,h,e⟩=>⟨c,a,h,⟨by rw[e.kv,kt,List.map_map];rfl,e.born,e.once,fun q f=>by obtain⟨p,d,rfl⟩:=List.mem_map.1 f;exact e.wf p d,by rw[QD];exact e.nodup,e.size⟩⟩,
  fun⟨c,a,h,e⟩=>⟨c,a,h,⟨by rw[e.kv,kt,List.map_map];rfl,e.born,e.once,fun p d=>e.wf (p.1,p) (List.mem_map.2 ⟨p,d,rfl⟩),by rw[<-QD];exact e.nodup,e.size⟩⟩⟩
theorem kN.imp{α:Type}{ex:Nat->Prop}{n:Nat}{P:Program}{g:Nat}{lb:Array Z}{encs:α->Array Z}{S S':List α->Prop}{N:Nat}{w:X}(h:kN ex n P g lb encs S N w)(p:∀xs,S xs->S' xs):kN ex n P g lb encs S' N w:=fun m q l J j W a b c d e f=>(h m q l J j W a b c d e f).mono (by
 rintro e w ⟨i,⟨xs,k,o⟩|h⟩
 ·exact⟨i,.inl ⟨xs,p _ k,o⟩⟩
 ·exact⟨i,.inr h⟩)
section
variable {α β:Type} [Inhabited α] [Inhabited β] {M:MK α β}
noncomputable def yo (M:MK α β) (L:List (α×β)) (e:MapEntry):α×β:=by
 classical exact if h:∃p∈L,e.key=M.ke p.1/\e.val=M.ve p.2 then h.choose else default
theorem zgf(ok:M.Ok){L:List (α×β)}(hn:(zy L).Nodup){e:MapEntry}{p:α×β}(o:p∈L)(l:e.key=M.ke p.1)(q:e.val=M.ve p.2):yo M L e=p:=by
 unfold yo
 have h:∃p∈L,e.key=M.ke p.1/\e.val=M.ve p.2:=⟨p,o,l,q⟩
 rw[dif_pos h]
 obtain⟨s,r,_⟩:=h.choose_spec
 have k:h.choose.1=p.1:=ok.inj _ _ (r.symm.trans l)
 have d:L.Pairwise (fun a b=>a.1≠b.1):=List.pairwise_map.1 hn
 obtain⟨i,m,f⟩:=List.getElem_of_mem s
 obtain⟨j,n,g⟩:=List.getElem_of_mem o
 rcases Nat.lt_trichotomy i j with c|c|c
 ·have:=List.pairwise_iff_getElem.1 d i j m n c;rw[f,g]at this;exact absurd k this
 ·subst c;rw[<-f,g]
 ·have:=List.pairwise_iff_getElem.1 d j i n m c;rw[f,g]at this;exact absurd k.symm this
theorem Z1(ok:M.Ok){c:Array MapEntry}{a:Nat}{L:List (α×β)}(g:kC M c a L){e:MapEntry}(h:e∈c.toList):yo M L e∈L/\e.key=M.ke (yo M L e).1/\e.val=M.ve (yo M L e).2:=by
 obtain⟨i,j⟩:=List.mem_iff_getElem?.1 h
 obtain⟨p,k,d,f⟩:=g.at j
 have b:=List.mem_of_getElem? k
 rw[zgf ok g.nodup b d f]
 exact⟨b,d,f⟩
theorem zgT(ok:M.Ok){b:Array MapEntry}{a:Nat}{L:List (α×β)}(d:kC M b a L):b.toList.map (yo M L)=L:=by
 apply List.ext_getElem?
 intro i
 rw[List.getElem?_map]
 cases h:b.toList[i]? with
 |none=>
  have c:b.toList.length<=i:=List.getElem?_eq_none_iff.1 h
  have f:=d.count
  rw[List.getElem?_eq_none (by simp at c;omega)];rfl
 |some e=>
  obtain⟨p,g,c,f⟩:=d.at h
  rw[g,Option.map_some,zgf ok d.nodup (List.mem_of_getElem? g) c f]
theorem vg(ok:M.Ok){b:Array MapEntry}{a:Nat}{L:List (α×β)}(c:kC M b a L){ps:List MapEntry}(d:ps.Perm b.toList):(ps.map (yo M L)).Perm L:=by
 have:=d.map (yo M L)
 rwa[zgT ok c]at this
end
instance:Inhabited SV:=⟨⟨0,xY⟩⟩
instance:Inhabited Lse:=⟨⟨0,⟨0,0,0⟩,0,0⟩⟩
instance:Inhabited Tsk:=⟨⟨true,⟨0,0,0⟩,0,0,0⟩⟩
instance:Inhabited Jk:=⟨⟨0,⟨0,0,0⟩⟩⟩
instance:Inhabited Tok:=⟨⟨0,0⟩⟩
instance:Inhabited Sg:=⟨⟨0,0,0⟩⟩
end Go.Proofs.YtndhpgciopcncaaGreatDoor
