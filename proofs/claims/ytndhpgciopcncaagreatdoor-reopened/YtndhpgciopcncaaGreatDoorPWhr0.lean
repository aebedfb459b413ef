import Derived.Test.YtndhpgciopcncaaGreatDoorPRef9
import Derived.Test.YtndhpgciopcncaaGreatDoorPKit0
open Nat renaming le_refl → Q
open Go renaming Value → Y
open Option renaming some → Z
open Go renaming World → X
open Go.RowKit.Below renaming refl → G
open Go.RowKit renaming Below → R
set_option linter.unusedVariables false
set_option maxRecDepth 100000
set_option maxHeartbeats 2000000
open Go.Proofs.Tryz
namespace Go.Proofs.YtndhpgciopcncaaGreatDoor
open Go.ChangeMaps (setBlock)
open Go.RowKit Go.Maps Go.Shelf
attribute [local go_sem] Oper.semAt_some
structure Lse where
 kd:Int
 s:Sg
 slot:Int
 til:Int
structure Tsk where
 rl:Bool
 s:Sg
 se:Int
 ti:Int
 rest:Int
def Tsk.jt(x:Tsk):TypeId:=if x.rl then 195 else 197
abbrev jZz(x:Tsk):Y:=.iface x.jt (.agg #[I x.s.t,I x.s.sr,I x.s.wn])
abbrev tZz(x:Tsk):Array Y:=#[jZz x,I x.se,I x.ti,I x.rest]
abbrev lZz(x:Lse):Array Y:=#[I x.kd,I x.s.t,I x.s.sr,I x.s.wn,I x.slot,I x.til]
theorem zfg{W a:X}(h:R W.1.size W a):W.grownBy a none:=⟨h.os,h.tape,h.output,h.size,fun k b _=>h.block k b⟩
theorem zO{β:Type}{B:Nat}{J:β->X->Prop}(h:OwnFrom B J){s:β}{W a:X}(c:J s W)(b:R W.1.size W a):J s a:=h s W a none c (zfg b) (fun r e=>by cases e)
theorem yq{α:Type}{p:α->Bool}{l:List α}{x:α}(h:p x=true):(l++[x]).filter p=l.filter p++[x]:=by simp[h]
theorem qX{α:Type}{p:α->Bool}{l:List α}{x:α}(h:p x=false):(l++[x]).filter p=l.filter p:=by simp[h]
theorem yC{α:Type}(p:α->Bool)(l:List α):(l.filter p).length<=l.length:=List.length_filter_le _ _
theorem qk{ex:Nat->Prop}{n m:Nat}{A B:X}(h:KX ex n m A B){k:Nat}{o:Obj}(a:A.1[k]?=Z o)(b:k<n)(c:¬ex k):B.1[k]?=Z o:=(h.low b c (zd a)).trans a
theorem zk{B:Nat}{W a:X}(h:R W.1.size W a):KeepsFrom B W a:=(yw h).from B
theorem zjS(gf:Nat)(lb:Array Y)(eg:∀args w,(callFunc gf args).run prog w=.ok (.enter gf args) w)(hf:Nat)(ag hc:Array Y)(eh:∀args w,(callFunc hf args).run prog w=.ok (.enter hf args) w){ex:Nat->Prop}{n N:Nat}{S:List SX->Prop}(p:SX->Bool)(Bl Bh:Nat)(w:X)(hn:n<=w.1.size)
  (aF:Bl<n/\¬ex Bl) (ai:Bh<n/\¬ex Bh) (c1:w.1[Bl]?=Z (.cells #[.func (.func gf) #[] lb] 150 (0,0))) (c2:w.1[Bh]?=Z (.cells #[.func (.func hf) ag hc] 158 (0,0)))
  (aj:∀(x:SX) (W:X),(∃m,KX ex n m w W)->Calls prog hf (ag++#[.agg (xZz x)]++hc) W fun e W'=>e=.returned (.bool (p x))/\R W.1.size W W')
  (L:vZ ex n prog gf lb (fun x:SX=>#[.agg (xZz x)]) S N w):
  vZ ex n prog 225 #[(O Bl),(O Bh)] (fun x:SX=>#[.agg (xZz x)]) (fun ys=>∃xs,S xs/\ys=xs.filter p) N w:=by
 intro m hm l J Jx C hW aI hJ ad hY h0
 have d1:=(hW.block Bl (zd c1)).trans c1
 have d2:=(hW.block Bh (zd c2)).trans c2
 obtain⟨e1,-⟩:=zc d1
 have aH:=zd d1
 have al:=hW.size
 have av:=ze aj
 have a9:=ze L
 have ar:=ze eg
 have au:=ze eh
 have aq:=ze c2
 have HJ:=ze hJ
 have a6:=ze ad
 have HY:=ze hY
 have a:R C.1.size C (C.alloc (.cells #[.func (.yield l) #[] #[]] 158)):=(G _ _).alloc (Q _) _
 have ao:=zp C (.cells #[.func (.yield l) #[] #[]] 158)
 have ak:=zN C (.cells #[.func (.yield l) #[] #[]] 158)
 have u:=zO hJ h0 a
 have ah:KX ex n m w (C.alloc (.cells #[.func (.yield l) #[] #[]] 158)):=KX.of_below (hW.trans (a.mono al))
 have af:=hW.trans (a.mono al)
 have HB:=ze af
 have a7:=ze ah
 have ab:=ze ao
 have aa:=ze ak
 have a5:=ze u
 clear aj L eg eh hJ ad hY h0 d1 d2 a ao ak u ah c2 af
 refine callsIn_wide.2 ((callsIn_wide (n:=7)).1 ?_)
 refine callsIn_of_wp_marks func225 rfl trivial ?_ rfl
 simp only[ntmps225,sZz,Nat.reduceAdd,Nat.reduceSub]
 gi_wp2
 obtain⟨t,ae⟩:∃t,(C.alloc (.cells #[.func (.yield l) #[] #[]] 158))=t:=⟨_,rfl⟩
 rw[ae]at a7 ab aa a5 HB ⊢
 clear ae
 have hz:t.1.size=C.1.size+1:=ud aa
 refine qU (F:=Fence.wide) (n:=7) rfl (by omega) (gf:=gf) (lb:=lb) rfl trivial (ud ar) (ud a9 (t.1.size+2) (by omega)) (Q _) (fun h k=>h.trans k) (fun W o o' h hc hw=>KX.putObj o' (by omega) (by omega) h hw) (ud HB) (fun _=>rfl)
  (fun g W=>J (g.filter p) W/\KX ex n (t.1.size+2) w W/\W.1[C.1.size]?=Z (.cells #[.func (.yield l) #[] #[]] 158 (0,0)))
  (fun c g W=>c=.ret/\∃q,Jx q W)
  (fun s A B z I hg j=>⟨ud HJ _ A B z I.1 hg (fun r e=>⟨by have:=(j r e).1;omega,(j r e).2⟩),KX.own (β:=Unit) (q:=t.1.size) (by omega) () A B z I.2.1 hg j,zu I.2.2 hg (fun r e=>(j r e).2)⟩)
  (fun c s A B z I hg j=>⟨I.1,by obtain⟨q,hq⟩:=I.2;exact⟨q,ud a6 q A B z hq hg (fun r e=>⟨by have:=(j r e).1;omega,(j r e).2⟩)⟩⟩)
  ⟨ud a5,(ud a7).wider (by omega),ud ab⟩
  (fun x a' W=>∃Bx,t.1.size<=Bx/\W.1[Bx]?=Z (.cells (xZz x) 148 (0,0))/\a'={tmps:=#[.func (.yield l) #[] #[],(O Bl),(O Bh),(O C.1.size),(O Bx),.func (.func gf) #[] lb,.agg (xZz x),undef,undef,undef,undef,undef,undef,undef,undef,undef],defers:=[]})
  (fun x a' s A B z I hg j=>by
   obtain⟨Bx,h1,h2,h3⟩:=I
   exact⟨Bx,h1,zu h2 hg (fun r e=>(j r e).2),h3⟩) ?assign ?body ?done ?stop
 case assign=>
  rintro l' g x W K ⟨i1,i2,i3⟩ H
  have az:=zd i3
  have aA:=i2.kept.size
  have HK:=ze H
  clear H
  gi_wp2
  have v:=(G W.1.size W).alloc (Q _) (.cells (xZz x) 148)
  refine ud HK _ _ (zk v) (KX.of_below v) ⟨zO (ud HJ) i1 v,i2.trans (KX.of_below v),(v.block _ az).trans i3⟩ ⟨W.1.size,by omega,zp _ _,rfl⟩
 case body=>
  rintro l' g x a' W hl ⟨r,j⟩ ⟨i1,i2,i3⟩ ⟨Bx,aE,hx,rfl⟩ aC
  have aA:=i2.kept.size
  have ay:=zd hx
  have ap:=zd i3
  have U:=qk i2 (ud aq) ai.1 ai.2
  have aB:=zd U
  obtain⟨c1,-⟩:=zc U
  obtain⟨x0,x1,x2,x3,x4,x5,x6,x7,-⟩:=zc hx
  have HC:=ze (ud av x W ⟨_,i2⟩)
  have a2:=ze i1
  have a3:=ze i2
  have a4:=ze i3
  have HX:=ze hx
  have aD:=ze j
  have aG:=yC p g
  have ax:=ud au
  clear i1 i2 i3 hx j U
  obtain⟨bx,V⟩:∃bx,p x=bx:=⟨_,rfl⟩
  rw[V]at HC
  have a8:=ze V
  clear V
  cases bx with
  |false=>
   gi_wp2
   refine⟨trivial,(CallsIn.inRound l' (callsIn_wide.2 (ud HC))).mono ?_⟩
   rintro e W1 ⟨rfl,a⟩
   have b:=ze a
   clear a
   gi_wp2
   refine⟨fun _ h=>(by cases h),?_⟩
   gi_wp2
   exact⟨zk (ud b),KX.of_below (ud b),by rw[qX (ud a8)];exact zO (ud HJ) (ud a2) (ud b),(ud a3).trans (KX.of_below (ud b)),((ud b).block _ ap).trans (ud a4)⟩
  |true=>
   gi_wp2
   refine⟨trivial,(CallsIn.inRound l' (callsIn_wide.2 (ud HC))).mono ?_⟩
   rintro e W1 ⟨rfl,a⟩
   have am:=(a.block _ ay).trans (ud HX)
   have a0:=(a.block _ ap).trans (ud a4)
   obtain⟨y0,-⟩:=zc a0
   obtain⟨z0,z1,z2,z3,z4,z5,z6,z7,-⟩:=zc am
   have a1:=ze a0
   have b:=ze a
   have u:=zO (ud HJ) (ud a2) a
   obtain⟨fn,tmps,assign,body,hy,hR⟩:=kW (m':=4) rfl (ud HY (g.filter p) x W1 u (by omega))
   have aJ:=a.size
   clear a am a0 u
   gi_wp2
   refine RoundIn.mono (F:=Fence.wide.inRound l') hR ?_
   rintro e W2 (⟨rfl,ac,f⟩|⟨rfl,E,f⟩)
   ·have d:KX ex n (t.1.size+2) W W2:=(KX.of_below (ud b)).trans (f.wider (by omega))
    have y:KeepsFrom t.1.size W W2:=(zk (ud b)).trans (f.from (by omega))
    have an:=f.high _ _ (by omega) (fun⟨_,_,e⟩=>by cases e) (ud a1)
    have i:=ze d
    have T:=ze y
    have aw:=ze an
    have M:=ze ac
    clear d y an ac f
    gi_wp2
    exact⟨ud T,ud i,by rw[yq (ud a8)];exact ud M,(ud a3).trans (ud i),ud aw⟩
   ·have d:KX ex n (t.1.size+2) W W2:=(KX.of_below (ud b)).trans (f.wider (by omega))
    have y:KeepsFrom t.1.size W W2:=(zk (ud b)).trans (f.from (by omega))
    have i:=ze d
    have T:=ze y
    have M:=ze E
    clear d y E f
    gi_wp2
    exact⟨ud T,ud i,rfl,_,ud M⟩
 case done=>
  rintro D xs W hD hS ⟨i1,i2,i3⟩ H
  have P:=ze (OwnFrom.putObj (ud HJ) (.deferred none) i1 (by omega) H rfl)
  clear i1 i2 i3
  gi_wp2
  refine⟨by simp,.inl ⟨_,_,rfl,run_takeDeferred H,?_⟩⟩
  exact⟨_,results_none rfl _ _ _,⟨_,rfl⟩,.inl ⟨_,⟨xs,hS,rfl⟩,ud P⟩⟩
 case stop=>
  rintro D c g W hD hS ⟨rfl,q,hq⟩ H
  have P:=ze (OwnFrom.putObj (ud a6) (.deferred none) hq (by omega) H rfl)
  clear hq
  gi_wp2
  refine⟨by simp,.inl ⟨_,_,rfl,run_takeDeferred H,?_⟩⟩
  exact⟨_,results_none rfl _ _ _,⟨_,rfl⟩,.inr ⟨_,trivial,ud P⟩⟩
theorem Zq{α:Type}(d:α->Sg)(gf:Nat)(lb:Array Y)(eg:∀args w,(callFunc gf args).run prog w=.ok (.enter gf args) w)(hf:Nat)(aj hc:Array Y)(eh:∀args w,(callFunc hf args).run prog w=.ok (.enter hf args) w){ex:Nat->Prop}{n N:Nat}{S:List α->Prop}(p:α->Bool)(Bl Bh:Nat)(w:X)(hn:n<=w.1.size)
  (aI:Bl<n/\¬ex Bl) (al:Bh<n/\¬ex Bh) (c1:w.1[Bl]?=Z (.cells #[.func (.func gf) #[] lb] 199 (0,0))) (c2:w.1[Bh]?=Z (.cells #[.func (.func hf) aj hc] 206 (0,0)))
  (am:∀(x:α) (W:X),(∃m,KX ex n m w W)->Calls prog hf (aj++#[.agg #[I (d x).t,I (d x).sr,I (d x).wn]]++hc) W fun e W'=>e=.returned (.bool (p x))/\R W.1.size W W')
  (T:vZ ex n prog gf lb (fun x:α=>#[.agg #[I (d x).t,I (d x).sr,I (d x).wn]]) S N w):
  vZ ex n prog 194 #[(O Bl),(O Bh)] (fun x:α=>#[.agg #[I (d x).t,I (d x).sr,I (d x).wn]]) (fun ys=>∃xs,S xs/\ys=xs.filter p) N w:=by
 intro m hm l J Jx H hW aL hJ ag hY h0
 have d1:=(hW.block Bl (zd c1)).trans c1
 have d2:=(hW.block Bh (zd c2)).trans c2
 obtain⟨e1,-⟩:=zc d1
 have aK:=zd d1
 have ao:=hW.size
 have ay:=ze am
 have ac:=ze T
 have aw:=ze eg
 have ax:=ze eh
 have av:=ze c2
 have HJ:=ze hJ
 have a9:=ze ag
 have HY:=ze hY
 have a:R H.1.size H (H.alloc (.cells #[.func (.yield l) #[] #[]] 206)):=(G _ _).alloc (Q _) _
 have ar:=zp H (.cells #[.func (.yield l) #[] #[]] 206)
 have an:=zN H (.cells #[.func (.yield l) #[] #[]] 206)
 have y:=zO hJ h0 a
 have ak:KX ex n m w (H.alloc (.cells #[.func (.yield l) #[] #[]] 206)):=KX.of_below (hW.trans (a.mono ao))
 have ai:=hW.trans (a.mono ao)
 have HB:=ze ai
 have aa:=ze ak
 have ae:=ze ar
 have ad:=ze an
 have a8:=ze y
 clear am T eg eh hJ ag hY h0 d1 d2 a ar an y ak c2 ai
 refine callsIn_wide.2 ((callsIn_wide (n:=7)).1 ?_)
 refine callsIn_of_wp_marks func194 rfl trivial ?_ rfl
 simp only[ntmps194,sZz,Nat.reduceAdd,Nat.reduceSub]
 gi_wp2
 obtain⟨v,ah⟩:∃v,(H.alloc (.cells #[.func (.yield l) #[] #[]] 206))=v:=⟨_,rfl⟩
 rw[ah]at aa ae ad a8 HB ⊢
 clear ah
 have hz:v.1.size=H.1.size+1:=ud ad
 refine qU (F:=Fence.wide) (n:=7) rfl (by omega) (gf:=gf) (lb:=lb) rfl trivial (ud aw) (ud ac (v.1.size+2) (by omega)) (Q _) (fun h k=>h.trans k) (fun W o o' h hc hw=>KX.putObj o' (by omega) (by omega) h hw) (ud HB) (fun _=>rfl)
  (fun i W=>J (i.filter p) W/\KX ex n (v.1.size+2) w W/\W.1[H.1.size]?=Z (.cells #[.func (.yield l) #[] #[]] 206 (0,0)))
  (fun c i W=>c=.ret/\∃q,Jx q W)
  (fun s A B E P hg u=>⟨ud HJ _ A B E P.1 hg (fun r e=>⟨by have:=(u r e).1;omega,(u r e).2⟩),KX.own (β:=Unit) (q:=v.1.size) (by omega) () A B E P.2.1 hg u,zu P.2.2 hg (fun r e=>(u r e).2)⟩)
  (fun c s A B E P hg u=>⟨P.1,by obtain⟨q,hq⟩:=P.2;exact⟨q,ud a9 q A B E hq hg (fun r e=>⟨by have:=(u r e).1;omega,(u r e).2⟩)⟩⟩)
  ⟨ud a8,(ud aa).wider (by omega),ud ae⟩
  (fun x a' W=>∃Bx,v.1.size<=Bx/\W.1[Bx]?=Z (.cells #[I (d x).t,I (d x).sr,I (d x).wn] 146 (0,0))/\a'={tmps:=#[.func (.yield l) #[] #[],(O Bl),(O Bh),(O H.1.size),(O Bx),.func (.func gf) #[] lb,.agg #[I (d x).t,I (d x).sr,I (d x).wn],undef,undef,undef,undef,undef,undef,undef,undef,undef],defers:=[]})
  (fun x a' s A B E P hg u=>by
   obtain⟨Bx,h1,h2,h3⟩:=P
   exact⟨Bx,h1,zu h2 hg (fun r e=>(u r e).2),h3⟩) ?assign ?body ?done ?stop
 case assign=>
  rintro l' i x W K ⟨i1,i2,i3⟩ M
  have aC:=zd i3
  have aD:=i2.kept.size
  have HK:=ze M
  clear M
  gi_wp2
  have z:=(G W.1.size W).alloc (Q _) (.cells #[I (d x).t,I (d x).sr,I (d x).wn] 146)
  refine ud HK _ _ (zk z) (KX.of_below z) ⟨zO (ud HJ) i1 z,i2.trans (KX.of_below z),(z.block _ aC).trans i3⟩ ⟨W.1.size,by omega,zp _ _,rfl⟩
 case body=>
  rintro l' i x a' W hl ⟨r,u⟩ ⟨i1,i2,i3⟩ ⟨Bx,aH,hx,rfl⟩ aF
  have aD:=i2.kept.size
  have aB:=zd hx
  have au:=zd i3
  have a1:=qk i2 (ud av) al.1 al.2
  have aE:=zd a1
  obtain⟨c1,-⟩:=zc a1
  obtain⟨x0,x1,x2,-⟩:=zc hx
  have HC:=ze (ud ay x W ⟨_,i2⟩)
  have a5:=ze i1
  have a6:=ze i2
  have a7:=ze i3
  have HX:=ze hx
  have aG:=ze u
  have aJ:=yC p i
  have aA:=ud ax
  clear i1 i2 i3 hx u a1
  obtain⟨bx,a2⟩:∃bx,p x=bx:=⟨_,rfl⟩
  rw[a2]at HC
  have ab:=ze a2
  clear a2
  cases bx with
  |false=>
   gi_wp2
   refine⟨trivial,(CallsIn.inRound l' (callsIn_wide.2 (ud HC))).mono ?_⟩
   rintro e W1 ⟨rfl,a⟩
   have b:=ze a
   clear a
   gi_wp2
   refine⟨fun _ h=>(by cases h),?_⟩
   gi_wp2
   exact⟨zk (ud b),KX.of_below (ud b),by rw[qX (ud ab)];exact zO (ud HJ) (ud a5) (ud b),(ud a6).trans (KX.of_below (ud b)),((ud b).block _ au).trans (ud a7)⟩
  |true=>
   gi_wp2
   refine⟨trivial,(CallsIn.inRound l' (callsIn_wide.2 (ud HC))).mono ?_⟩
   rintro e W1 ⟨rfl,a⟩
   have ap:=(a.block _ aB).trans (ud HX)
   have a3:=(a.block _ au).trans (ud a7)
   obtain⟨y0,-⟩:=zc a3
   obtain⟨z0,z1,z2,-⟩:=zc ap
   have a4:=ze a3
   have b:=ze a
   have y:=zO (ud HJ) (ud a5) a
   obtain⟨fn,tmps,assign,body,hy,hR⟩:=kW (m':=4) rfl (ud HY (i.filter p) x W1 y (by omega))
   have aM:=a.size
   clear a ap a3 y
   gi_wp2
   refine RoundIn.mono (F:=Fence.wide.inRound l') hR ?_
   rintro e W2 (⟨rfl,af,g⟩|⟨rfl,L,g⟩)
   ·have f:KX ex n (v.1.size+2) W W2:=(KX.of_below (ud b)).trans (g.wider (by omega))
    have C:KeepsFrom v.1.size W W2:=(zk (ud b)).trans (g.from (by omega))
    have aq:=g.high _ _ (by omega) (fun⟨_,_,e⟩=>by cases e) (ud a4)
    have j:=ze f
    have a0:=ze C
    have az:=ze aq
    have U:=ze af
    clear f C aq af g
    gi_wp2
    exact⟨ud a0,ud j,by rw[yq (ud ab)];exact ud U,(ud a6).trans (ud j),ud az⟩
   ·have f:KX ex n (v.1.size+2) W W2:=(KX.of_below (ud b)).trans (g.wider (by omega))
    have C:KeepsFrom v.1.size W W2:=(zk (ud b)).trans (g.from (by omega))
    have j:=ze f
    have a0:=ze C
    have U:=ze L
    clear f C L g
    gi_wp2
    exact⟨ud a0,ud j,rfl,_,ud U⟩
 case done=>
  rintro D xs W hD hS ⟨i1,i2,i3⟩ M
  have V:=ze (OwnFrom.putObj (ud HJ) (.deferred none) i1 (by omega) M rfl)
  clear i1 i2 i3
  gi_wp2
  refine⟨by simp,.inl ⟨_,_,rfl,run_takeDeferred M,?_⟩⟩
  exact⟨_,results_none rfl _ _ _,⟨_,rfl⟩,.inl ⟨_,⟨xs,hS,rfl⟩,ud V⟩⟩
 case stop=>
  rintro D c i W hD hS ⟨rfl,q,hq⟩ M
  have V:=ze (OwnFrom.putObj (ud a9) (.deferred none) hq (by omega) M rfl)
  clear hq
  gi_wp2
  refine⟨by simp,.inl ⟨_,_,rfl,run_takeDeferred M,?_⟩⟩
  exact⟨_,results_none rfl _ _ _,⟨_,rfl⟩,.inr ⟨_,trivial,ud V⟩⟩
theorem zjR(gf:Nat)(lb:Array Y)(eg:∀args w,(callFunc gf args).run prog w=.ok (.enter gf args) w)(hf:Nat)(ag hc:Array Y)(eh:∀args w,(callFunc hf args).run prog w=.ok (.enter hf args) w){ex:Nat->Prop}{n N:Nat}{S:List Lse->Prop}(p:Lse->Bool)(Bl Bh:Nat)(w:X)(hn:n<=w.1.size)
  (aF:Bl<n/\¬ex Bl) (ai:Bh<n/\¬ex Bh) (c1:w.1[Bl]?=Z (.cells #[.func (.func gf) #[] lb] 166 (0,0))) (c2:w.1[Bh]?=Z (.cells #[.func (.func hf) ag hc] 172 (0,0)))
  (aj:∀(x:Lse) (W:X),(∃m,KX ex n m w W)->Calls prog hf (ag++#[.agg (lZz x)]++hc) W fun e W'=>e=.returned (.bool (p x))/\R W.1.size W W')
  (L:vZ ex n prog gf lb (fun x:Lse=>#[.agg (lZz x)]) S N w):
  vZ ex n prog 226 #[(O Bl),(O Bh)] (fun x:Lse=>#[.agg (lZz x)]) (fun ys=>∃xs,S xs/\ys=xs.filter p) N w:=by
 intro m hm l J Jx C hW aI hJ ad hY h0
 have d1:=(hW.block Bl (zd c1)).trans c1
 have d2:=(hW.block Bh (zd c2)).trans c2
 obtain⟨e1,-⟩:=zc d1
 have aH:=zd d1
 have al:=hW.size
 have av:=ze aj
 have a9:=ze L
 have ar:=ze eg
 have au:=ze eh
 have aq:=ze c2
 have HJ:=ze hJ
 have a6:=ze ad
 have HY:=ze hY
 have a:R C.1.size C (C.alloc (.cells #[.func (.yield l) #[] #[]] 172)):=(G _ _).alloc (Q _) _
 have ao:=zp C (.cells #[.func (.yield l) #[] #[]] 172)
 have ak:=zN C (.cells #[.func (.yield l) #[] #[]] 172)
 have u:=zO hJ h0 a
 have ah:KX ex n m w (C.alloc (.cells #[.func (.yield l) #[] #[]] 172)):=KX.of_below (hW.trans (a.mono al))
 have af:=hW.trans (a.mono al)
 have HB:=ze af
 have a7:=ze ah
 have ab:=ze ao
 have aa:=ze ak
 have a5:=ze u
 clear aj L eg eh hJ ad hY h0 d1 d2 a ao ak u ah c2 af
 refine callsIn_wide.2 ((callsIn_wide (n:=7)).1 ?_)
 refine callsIn_of_wp_marks func226 rfl trivial ?_ rfl
 simp only[ntmps226,sZz,Nat.reduceAdd,Nat.reduceSub]
 gi_wp2
 obtain⟨t,ae⟩:∃t,(C.alloc (.cells #[.func (.yield l) #[] #[]] 172))=t:=⟨_,rfl⟩
 rw[ae]at a7 ab aa a5 HB ⊢
 clear ae
 have hz:t.1.size=C.1.size+1:=ud aa
 refine qU (F:=Fence.wide) (n:=7) rfl (by omega) (gf:=gf) (lb:=lb) rfl trivial (ud ar) (ud a9 (t.1.size+2) (by omega)) (Q _) (fun h k=>h.trans k) (fun W o o' h hc hw=>KX.putObj o' (by omega) (by omega) h hw) (ud HB) (fun _=>rfl)
  (fun g W=>J (g.filter p) W/\KX ex n (t.1.size+2) w W/\W.1[C.1.size]?=Z (.cells #[.func (.yield l) #[] #[]] 172 (0,0)))
  (fun c g W=>c=.ret/\∃q,Jx q W)
  (fun s A B z I hg j=>⟨ud HJ _ A B z I.1 hg (fun r e=>⟨by have:=(j r e).1;omega,(j r e).2⟩),KX.own (β:=Unit) (q:=t.1.size) (by omega) () A B z I.2.1 hg j,zu I.2.2 hg (fun r e=>(j r e).2)⟩)
  (fun c s A B z I hg j=>⟨I.1,by obtain⟨q,hq⟩:=I.2;exact⟨q,ud a6 q A B z hq hg (fun r e=>⟨by have:=(j r e).1;omega,(j r e).2⟩)⟩⟩)
  ⟨ud a5,(ud a7).wider (by omega),ud ab⟩
  (fun x a' W=>∃Bx,t.1.size<=Bx/\W.1[Bx]?=Z (.cells (lZz x) 164 (0,0))/\a'={tmps:=#[.func (.yield l) #[] #[],(O Bl),(O Bh),(O C.1.size),(O Bx),.func (.func gf) #[] lb,.agg (lZz x),undef,undef,undef,undef,undef,undef,undef,undef,undef],defers:=[]})
  (fun x a' s A B z I hg j=>by
   obtain⟨Bx,h1,h2,h3⟩:=I
   exact⟨Bx,h1,zu h2 hg (fun r e=>(j r e).2),h3⟩) ?assign ?body ?done ?stop
 case assign=>
  rintro l' g x W K ⟨i1,i2,i3⟩ H
  have az:=zd i3
  have aA:=i2.kept.size
  have HK:=ze H
  clear H
  gi_wp2
  have v:=(G W.1.size W).alloc (Q _) (.cells (lZz x) 164)
  refine ud HK _ _ (zk v) (KX.of_below v) ⟨zO (ud HJ) i1 v,i2.trans (KX.of_below v),(v.block _ az).trans i3⟩ ⟨W.1.size,by omega,zp _ _,rfl⟩
 case body=>
  rintro l' g x a' W hl ⟨r,j⟩ ⟨i1,i2,i3⟩ ⟨Bx,aE,hx,rfl⟩ aC
  have aA:=i2.kept.size
  have ay:=zd hx
  have ap:=zd i3
  have U:=qk i2 (ud aq) ai.1 ai.2
  have aB:=zd U
  obtain⟨c1,-⟩:=zc U
  obtain⟨x0,x1,x2,x3,x4,x5,-⟩:=zc hx
  have HC:=ze (ud av x W ⟨_,i2⟩)
  have a2:=ze i1
  have a3:=ze i2
  have a4:=ze i3
  have HX:=ze hx
  have aD:=ze j
  have aG:=yC p g
  have ax:=ud au
  clear i1 i2 i3 hx j U
  obtain⟨bx,V⟩:∃bx,p x=bx:=⟨_,rfl⟩
  rw[V]at HC
  have a8:=ze V
  clear V
  cases bx with
  |false=>
   gi_wp2
   refine⟨trivial,(CallsIn.inRound l' (callsIn_wide.2 (ud HC))).mono ?_⟩
   rintro e W1 ⟨rfl,a⟩
   have b:=ze a
   clear a
   gi_wp2
   refine⟨fun _ h=>(by cases h),?_⟩
   gi_wp2
   exact⟨zk (ud b),KX.of_below (ud b),by rw[qX (ud a8)];exact zO (ud HJ) (ud a2) (ud b),(ud a3).trans (KX.of_below (ud b)),((ud b).block _ ap).trans (ud a4)⟩
  |true=>
   gi_wp2
   refine⟨trivial,(CallsIn.inRound l' (callsIn_wide.2 (ud HC))).mono ?_⟩
   rintro e W1 ⟨rfl,a⟩
   have am:=(a.block _ ay).trans (ud HX)
   have a0:=(a.block _ ap).trans (ud a4)
   obtain⟨y0,-⟩:=zc a0
   obtain⟨z0,z1,z2,z3,z4,z5,-⟩:=zc am
   have a1:=ze a0
   have b:=ze a
   have u:=zO (ud HJ) (ud a2) a
   obtain⟨fn,tmps,assign,body,hy,hR⟩:=kW (m':=4) rfl (ud HY (g.filter p) x W1 u (by omega))
   have aJ:=a.size
   clear a am a0 u
   gi_wp2
   refine RoundIn.mono (F:=Fence.wide.inRound l') hR ?_
   rintro e W2 (⟨rfl,ac,f⟩|⟨rfl,E,f⟩)
   ·have d:KX ex n (t.1.size+2) W W2:=(KX.of_below (ud b)).trans (f.wider (by omega))
    have y:KeepsFrom t.1.size W W2:=(zk (ud b)).trans (f.from (by omega))
    have an:=f.high _ _ (by omega) (fun⟨_,_,e⟩=>by cases e) (ud a1)
    have i:=ze d
    have T:=ze y
    have aw:=ze an
    have M:=ze ac
    clear d y an ac f
    gi_wp2
    exact⟨ud T,ud i,by rw[yq (ud a8)];exact ud M,(ud a3).trans (ud i),ud aw⟩
   ·have d:KX ex n (t.1.size+2) W W2:=(KX.of_below (ud b)).trans (f.wider (by omega))
    have y:KeepsFrom t.1.size W W2:=(zk (ud b)).trans (f.from (by omega))
    have i:=ze d
    have T:=ze y
    have M:=ze E
    clear d y E f
    gi_wp2
    exact⟨ud T,ud i,rfl,_,ud M⟩
 case done=>
  rintro D xs W hD hS ⟨i1,i2,i3⟩ H
  have P:=ze (OwnFrom.putObj (ud HJ) (.deferred none) i1 (by omega) H rfl)
  clear i1 i2 i3
  gi_wp2
  refine⟨by simp,.inl ⟨_,_,rfl,run_takeDeferred H,?_⟩⟩
  exact⟨_,results_none rfl _ _ _,⟨_,rfl⟩,.inl ⟨_,⟨xs,hS,rfl⟩,ud P⟩⟩
 case stop=>
  rintro D c g W hD hS ⟨rfl,q,hq⟩ H
  have P:=ze (OwnFrom.putObj (ud a6) (.deferred none) hq (by omega) H rfl)
  clear hq
  gi_wp2
  refine⟨by simp,.inl ⟨_,_,rfl,run_takeDeferred H,?_⟩⟩
  exact⟨_,results_none rfl _ _ _,⟨_,rfl⟩,.inr ⟨_,trivial,ud P⟩⟩
theorem zjT{α:Type}(a:α->Tsk)(gf:Nat)(lb:Array Y)(eg:∀args w,(callFunc gf args).run prog w=.ok (.enter gf args) w)(hf:Nat)(aj hc:Array Y)(eh:∀args w,(callFunc hf args).run prog w=.ok (.enter hf args) w){ex:Nat->Prop}{n N:Nat}{S:List α->Prop}(p:α->Bool)(Bl Bh:Nat)(w:X)(hn:n<=w.1.size)
  (aI:Bl<n/\¬ex Bl) (al:Bh<n/\¬ex Bh) (c1:w.1[Bl]?=Z (.cells #[.func (.func gf) #[] lb] 174 (0,0))) (c2:w.1[Bh]?=Z (.cells #[.func (.func hf) aj hc] 179 (0,0)))
  (am:∀(x:α) (W:X),(∃m,KX ex n m w W)->Calls prog hf (aj++#[.agg #[.iface (a x).jt (.agg #[I (a x).s.t,I (a x).s.sr,I (a x).s.wn]),I (a x).se,I (a x).ti,I (a x).rest]]++hc) W fun e W'=>e=.returned (.bool (p x))/\R W.1.size W W')
  (T:vZ ex n prog gf lb (fun x:α=>#[.agg #[.iface (a x).jt (.agg #[I (a x).s.t,I (a x).s.sr,I (a x).s.wn]),I (a x).se,I (a x).ti,I (a x).rest]]) S N w):
  vZ ex n prog 157 #[(O Bl),(O Bh)] (fun x:α=>#[.agg #[.iface (a x).jt (.agg #[I (a x).s.t,I (a x).s.sr,I (a x).s.wn]),I (a x).se,I (a x).ti,I (a x).rest]]) (fun ys=>∃xs,S xs/\ys=xs.filter p) N w:=by
 intro m hm l J Jx H hW aL hJ ag hY h0
 have d1:=(hW.block Bl (zd c1)).trans c1
 have d2:=(hW.block Bh (zd c2)).trans c2
 obtain⟨e1,-⟩:=zc d1
 have aK:=zd d1
 have ao:=hW.size
 have ay:=ze am
 have ac:=ze T
 have aw:=ze eg
 have ax:=ze eh
 have av:=ze c2
 have HJ:=ze hJ
 have a9:=ze ag
 have HY:=ze hY
 have b:R H.1.size H (H.alloc (.cells #[.func (.yield l) #[] #[]] 179)):=(G _ _).alloc (Q _) _
 have ar:=zp H (.cells #[.func (.yield l) #[] #[]] 179)
 have an:=zN H (.cells #[.func (.yield l) #[] #[]] 179)
 have y:=zO hJ h0 b
 have ak:KX ex n m w (H.alloc (.cells #[.func (.yield l) #[] #[]] 179)):=KX.of_below (hW.trans (b.mono ao))
 have ai:=hW.trans (b.mono ao)
 have HB:=ze ai
 have aa:=ze ak
 have ae:=ze ar
 have ad:=ze an
 have a8:=ze y
 clear am T eg eh hJ ag hY h0 d1 d2 b ar an y ak c2 ai
 refine callsIn_wide.2 ((callsIn_wide (n:=7)).1 ?_)
 refine callsIn_of_wp_marks func157 rfl trivial ?_ rfl
 simp only[ntmps157,sZz,Nat.reduceAdd,Nat.reduceSub]
 gi_wp2
 obtain⟨v,ah⟩:∃v,(H.alloc (.cells #[.func (.yield l) #[] #[]] 179))=v:=⟨_,rfl⟩
 rw[ah]at aa ae ad a8 HB ⊢
 clear ah
 have hz:v.1.size=H.1.size+1:=ud ad
 refine qU (F:=Fence.wide) (n:=7) rfl (by omega) (gf:=gf) (lb:=lb) rfl trivial (ud aw) (ud ac (v.1.size+2) (by omega)) (Q _) (fun h k=>h.trans k) (fun W o o' h hc hw=>KX.putObj o' (by omega) (by omega) h hw) (ud HB) (fun _=>rfl)
  (fun i W=>J (i.filter p) W/\KX ex n (v.1.size+2) w W/\W.1[H.1.size]?=Z (.cells #[.func (.yield l) #[] #[]] 179 (0,0)))
  (fun c i W=>c=.ret/\∃q,Jx q W)
  (fun s A B E P hg u=>⟨ud HJ _ A B E P.1 hg (fun r e=>⟨by have:=(u r e).1;omega,(u r e).2⟩),KX.own (β:=Unit) (q:=v.1.size) (by omega) () A B E P.2.1 hg u,zu P.2.2 hg (fun r e=>(u r e).2)⟩)
  (fun c s A B E P hg u=>⟨P.1,by obtain⟨q,hq⟩:=P.2;exact⟨q,ud a9 q A B E hq hg (fun r e=>⟨by have:=(u r e).1;omega,(u r e).2⟩)⟩⟩)
  ⟨ud a8,(ud aa).wider (by omega),ud ae⟩
  (fun x a' W=>∃Bx,v.1.size<=Bx/\W.1[Bx]?=Z (.cells #[.iface (a x).jt (.agg #[I (a x).s.t,I (a x).s.sr,I (a x).s.wn]),I (a x).se,I (a x).ti,I (a x).rest] 177 (0,0))/\a'={tmps:=#[.func (.yield l) #[] #[],(O Bl),(O Bh),(O H.1.size),(O Bx),.func (.func gf) #[] lb,.agg #[.iface (a x).jt (.agg #[I (a x).s.t,I (a x).s.sr,I (a x).s.wn]),I (a x).se,I (a x).ti,I (a x).rest],undef,undef,undef,undef,undef,undef,undef,undef,undef],defers:=[]})
  (fun x a' s A B E P hg u=>by
   obtain⟨Bx,h1,h2,h3⟩:=P
   exact⟨Bx,h1,zu h2 hg (fun r e=>(u r e).2),h3⟩) ?assign ?body ?done ?stop
 case assign=>
  rintro l' i x W K ⟨i1,i2,i3⟩ M
  have aC:=zd i3
  have aD:=i2.kept.size
  have HK:=ze M
  clear M
  gi_wp2
  have z:=(G W.1.size W).alloc (Q _) (.cells #[.iface (a x).jt (.agg #[I (a x).s.t,I (a x).s.sr,I (a x).s.wn]),I (a x).se,I (a x).ti,I (a x).rest] 177)
  refine ud HK _ _ (zk z) (KX.of_below z) ⟨zO (ud HJ) i1 z,i2.trans (KX.of_below z),(z.block _ aC).trans i3⟩ ⟨W.1.size,by omega,zp _ _,rfl⟩
 case body=>
  rintro l' i x a' W hl ⟨r,u⟩ ⟨i1,i2,i3⟩ ⟨Bx,aH,hx,rfl⟩ aF
  have aD:=i2.kept.size
  have aB:=zd hx
  have au:=zd i3
  have a1:=qk i2 (ud av) al.1 al.2
  have aE:=zd a1
  obtain⟨c1,-⟩:=zc a1
  obtain⟨x0,x1,x2,x3,-⟩:=zc hx
  have HC:=ze (ud ay x W ⟨_,i2⟩)
  have a5:=ze i1
  have a6:=ze i2
  have a7:=ze i3
  have HX:=ze hx
  have aG:=ze u
  have aJ:=yC p i
  have aA:=ud ax
  clear i1 i2 i3 hx u a1
  obtain⟨bx,a2⟩:∃bx,p x=bx:=⟨_,rfl⟩
  rw[a2]at HC
  have ab:=ze a2
  clear a2
  cases bx with
  |false=>
   gi_wp2
   refine⟨trivial,(CallsIn.inRound l' (callsIn_wide.2 (ud HC))).mono ?_⟩
   rintro e W1 ⟨rfl,b⟩
   have d:=ze b
   clear b
   gi_wp2
   refine⟨fun _ h=>(by cases h),?_⟩
   gi_wp2
   exact⟨zk (ud d),KX.of_below (ud d),by rw[qX (ud ab)];exact zO (ud HJ) (ud a5) (ud d),(ud a6).trans (KX.of_below (ud d)),((ud d).block _ au).trans (ud a7)⟩
  |true=>
   gi_wp2
   refine⟨trivial,(CallsIn.inRound l' (callsIn_wide.2 (ud HC))).mono ?_⟩
   rintro e W1 ⟨rfl,b⟩
   have ap:=(b.block _ aB).trans (ud HX)
   have a3:=(b.block _ au).trans (ud a7)
   obtain⟨y0,-⟩:=zc a3
   obtain⟨z0,z1,z2,z3,-⟩:=zc ap
   have a4:=ze a3
   have d:=ze b
   have y:=zO (ud HJ) (ud a5) b
   obtain⟨fn,tmps,assign,body,hy,hR⟩:=kW (m':=4) rfl (ud HY (i.filter p) x W1 y (by omega))
   have aM:=b.size
   clear b ap a3 y
   gi_wp2
   refine RoundIn.mono (F:=Fence.wide.inRound l') hR ?_
   rintro e W2 (⟨rfl,af,g⟩|⟨rfl,L,g⟩)
   ·have f:KX ex n (v.1.size+2) W W2:=(KX.of_below (ud d)).trans (g.wider (by omega))
    have C:KeepsFrom v.1.size W W2:=(zk (ud d)).trans (g.from (by omega))
    have aq:=g.high _ _ (by omega) (fun⟨_,_,e⟩=>by cases e) (ud a4)
    have j:=ze f
    have a0:=ze C
    have az:=ze aq
    have U:=ze af
    clear f C aq af g
    gi_wp2
    exact⟨ud a0,ud j,by rw[yq (ud ab)];exact ud U,(ud a6).trans (ud j),ud az⟩
   ·have f:KX ex n (v.1.size+2) W W2:=(KX.of_below (ud d)).trans (g.wider (by omega))
    have C:KeepsFrom v.1.size W W2:=(zk (ud d)).trans (g.from (by omega))
    have j:=ze f
    have a0:=ze C
    have U:=ze L
    clear f C L g
    gi_wp2
    exact⟨ud a0,ud j,rfl,_,ud U⟩
 case done=>
  rintro D xs W hD hS ⟨i1,i2,i3⟩ M
  have V:=ze (OwnFrom.putObj (ud HJ) (.deferred none) i1 (by omega) M rfl)
  clear i1 i2 i3
  gi_wp2
  refine⟨by simp,.inl ⟨_,_,rfl,run_takeDeferred M,?_⟩⟩
  exact⟨_,results_none rfl _ _ _,⟨_,rfl⟩,.inl ⟨_,⟨xs,hS,rfl⟩,ud V⟩⟩
 case stop=>
  rintro D c i W hD hS ⟨rfl,q,hq⟩ M
  have V:=ze (OwnFrom.putObj (ud a9) (.deferred none) hq (by omega) M rfl)
  clear hq
  gi_wp2
  refine⟨by simp,.inl ⟨_,_,rfl,run_takeDeferred M,?_⟩⟩
  exact⟨_,results_none rfl _ _ _,⟨_,rfl⟩,.inr ⟨_,trivial,ud V⟩⟩
structure Jk where
 kd:Int
 s:Sg
deriving DecidableEq
structure Tok where
 ep:Int
 num:Int
deriving DecidableEq
def Jk.wf(k:Jk):Prop:=xg k.kd/\k.s.wf
def Tok.wf(k:Tok):Prop:=xg k.ep/\xg k.num
def Jn(k:Jk):Y:=.agg #[I k.kd,I k.s.t,I k.s.sr,I k.s.wn]
def yo(k:Tok):Y:=.agg #[I k.ep,I k.num]
def vj(x:Lse):Y:=.agg (lZz x)
def Qb(x:Tsk):Y:=.agg (tZz x)
theorem zqb:(162:TypeId)<prog.types.size:=of_decide_eq_true (by kernel_rfl)
theorem zqa:Keyed prog 162:=Keyed.of_law (deep_law_laid Tryz.laidOut (m:=3) (Nat.le_of_ble_eq_true rfl) zqb (by kernel_rfl) (by kernel_rfl))
theorem zpG:(49:TypeId)<prog.types.size:=of_decide_eq_true (by kernel_rfl)
theorem zpF:Keyed prog 49:=Keyed.of_law (deep_law_laid Tryz.laidOut (m:=2) (Nat.le_of_ble_eq_true rfl) zpG (by kernel_rfl) (by kernel_rfl))
theorem zdR:prog.cellsOf 162=4:=by kernel_rfl
theorem zbP:prog.cellsOf 49=2:=by kernel_rfl
theorem znI:prog.keyType 162=true:=by kernel_rfl
theorem zmp:prog.keyType 49=true:=by kernel_rfl
theorem zpk{a b:Jk}(h:Jn a=Jn b):a=b:=by
 unfold Jn at h
 injection h with h
 injection h with h
 injection h with c h
 injection h with d h
 injection h with e h
 injection h with f h
 injection c with _ c
 injection d with _ d
 injection e with _ e
 injection f with _ f
 obtain⟨_,_,_,_⟩:=a;obtain⟨_,_,_,_⟩:=b;simp at*;exact⟨c,d,e,f⟩
theorem zjM{a b:Tok}(h:yo a=yo b):a=b:=by
 unfold yo at h
 injection h with h
 injection h with h
 injection h with c h
 injection h with d h
 injection c with _ c
 injection d with _ d
 cases a;cases b;simp at*;exact⟨c,d⟩
theorem zaQ:∃m,prog.types.size=m+2:=by
 have h:1<prog.types.size:=of_decide_eq_true (by kernel_rfl)
 exact⟨prog.types.size-2,by omega⟩
theorem zpl{k:Jk}(h:k.wf):∃n,keyOf prog 162 (Jn k)=Z n:=by
 obtain⟨m,l⟩:=zaQ
 obtain⟨c,d,e,f⟩:=h
 have g:(Jn k).formed prog 162=true:=by
  simp[Value.formed,Jn,underlying162,zdR]
 unfold keyOf
 simp only[underlying162,znI,g,Bool.and_self,if_true]
 have:∃b,prog.keyLits (prog.types.size+1) 162 (Jn k).cells.toList=Z b:=by
  rw[l]
  simp[Program.keyLits,underlying162,underlying146,underlying3,Jn,Value.cells,zdR,K6,YW,zmu c,zmu d,zmu e,zmu f]
  rw[if_pos (fun i j=>by match i,j with|0,_=>simp|1,_=>simp|2,_=>simp)]
  exact⟨_,rfl⟩
 obtain⟨b,a⟩:=this
 exact⟨_,by rw[a];rfl⟩
theorem zoA{k:Tok}(h:k.wf):∃g,keyOf prog 49 (yo k)=Z g:=by
 obtain⟨m,f⟩:=zaQ
 obtain⟨c,d⟩:=h
 have e:(yo k).formed prog 49=true:=by
  simp[Value.formed,yo,underlying49,zbP]
 unfold keyOf
 simp only[underlying49,zmp,e,Bool.and_self,if_true]
 have:∃b,prog.keyLits (prog.types.size+1) 49 (yo k).cells.toList=Z b:=by
  rw[f]
  simp[Program.keyLits,underlying49,underlying3,yo,Value.cells,zbP,YW,zmu c,zmu d]
 obtain⟨b,a⟩:=this
 exact⟨_,by rw[a];rfl⟩
noncomputable def je:MK Sg Unit:={P:=prog,T:=153,K:=146,E:=257,ke:=kC,ve:=fun _=> .agg #[],wf:=Sg.wf,z:=.agg #[]}
noncomputable def xY:MK Jk Tsk:={P:=prog,T:=169,K:=162,E:=177,ke:=Jn,ve:=Qb,wf:=Jk.wf,z:=.agg #[.nilIface,I 0,I 0,I 0]}
noncomputable def xF:MK Tok Lse:={P:=prog,T:=168,K:=49,E:=164,ke:=yo,ve:=vj,wf:=Tok.wf,z:=.agg #[I 0,I 0,I 0,I 0,I 0,I 0]}
theorem Xe:je.Ok:=⟨XU,underlying153,fun a h=>zbG h,fun a b h=>zer h,fun w=>by kernel_rfl⟩
theorem yT:xY.Ok:=⟨zqa,underlying169,fun a h=>zpl h,fun a b h=>zpk h,fun w=>by kernel_rfl⟩
theorem yi:xF.Ok:=⟨zpF,underlying168,fun a h=>zoA h,fun a b h=>zjM h,fun w=>by kernel_rfl⟩
attribute [local go_sem] Oper.semAt_some
theorem yG{α:Type}{ex:Nat->Prop}{n:Nat}{w W w':X}{f:α->Int}{a:List α}{x:α}{v:Y}{t t2:TypeId}{B:Nat}{u:Y}(j:u=I (wrap64 (vy (a.map f)+f x)))(hn:n<=w.1.size)
  (e:W.1[w.1.size]?=Z (.cells #[v] t (0,0))) (i2:W.1[w.1.size+1]?=Z (.cells #[I (vy (a.map f))] t2 (0,0))) (i3:R w.1.size w W) (b:R W.1.size W w'):
  KeepsFrom B W (w'.setCell (U (w.1.size+1) 0) u)/\KX ex n (w.1.size+4) W (w'.setCell (U (w.1.size+1) 0) u)/\((w'.setCell (U (w.1.size+1) 0) u).1[w.1.size]?=Z (.cells #[v] t (0,0))/\(w'.setCell (U (w.1.size+1) 0) u).1[w.1.size+1]?=Z (.cells #[I (vy ((a++[x]).map f))] t2 (0,0))/\R w.1.size w (w'.setCell (U (w.1.size+1) 0) u)):=by
 subst j
 have c:=zd e
 have d:=zd i2
 refine⟨((yw b).trans (KeepsOthers.setCell _ _ _)).from _,(KX.of_below b).trans (KX.setCell (by omega) (by omega)),?_,?_,i3.trans ((b.mono i3.size).setCell (p:=(U (w.1.size+1) 0)) (Nat.le_succ _) _)⟩
 ·have g:=(b.block _ c).trans e
  exact(((G (w.1.size+1) w').setCell (p:=(U (w.1.size+1) 0)) (Q _) (I (wrap64 (vy (a.map f)+f x)))).block w.1.size (Nat.lt_succ_self _)).trans g
 ·have h:=(b.block _ d).trans i2
  rw[List.map_append,List.map_singleton,Qc]
  exact xy (i:=0) h _
theorem vZ.later{α:Type}{ex:Nat->Prop}{n N:Nat}{P:Program}{g:Nat}{lb:Array Y}{encs:α->Array Y}{S:List α->Prop}{w w':X}(h:vZ ex n P g lb encs S N w)(a:R w.1.size w w'):vZ ex n P g lb encs S N w':=
 fun m d l J b W c=>h m (Nat.le_trans a.size d) l J b W (a.trans (c.mono a.size))
theorem KX.lower{ex:Nat->Prop}{n n' m:Nat}{A B:X}(h:KX ex n' m A B)(hn:n<=n'):KX ex n m A B:=⟨h.kept.mono (fun k _ e=>e.imp id (fun e=>by omega)),h.walk,h.high⟩
theorem vZ.lower{α:Type}{ex:Nat->Prop}{n n' N:Nat}{P:Program}{g:Nat}{lb:Array Y}{encs:α->Array Y}{S:List α->Prop}{w:X}(h:vZ ex n P g lb encs S N w)(hn:n<=n'):vZ ex n' P g lb encs S N w:=
 fun m b=>(h m b).keeps (fun A B a=>a.lower hn)
theorem vZ.free{α:Type}{ex:Nat->Prop}{n N:Nat}{P:Program}{g:Nat}{lb:Array Y}{encs:α->Array Y}{S:List α->Prop}{w:X}(h:vZ ex n P g lb encs S N w):vZ (fun _=>False) n P g lb encs S N w:=
 fun m b=>(h m b).keeps (fun A B a=>⟨a.kept.mono (fun k _ e=>e.elim (fun e=>e.elim) .inr),fun k o _=>a.walk k o (fun e=>e),a.high⟩)
theorem jx{α:Type}(xs:List α)(h:xs.length<=9223372036854775807):vy (xs.map (fun _=>(1:Int)))=xs.length:=by
 have e:qw (xs.map (fun _=>(1:Int)))=xs.length:=by
  induction xs with
  |nil=>rfl
  |cons x xs a=>simp only[List.map_cons,qw,List.length_cons]at*;rw[a (by omega)];omega
 rw[kV (by rw[e];omega),e]
theorem zme(gf:Nat)(lb:Array Y)(eg:∀args w,(callFunc gf args).run prog w=.ok (.enter gf args) w){ex:Nat->Prop}{n N:Nat}{S:List SX->Prop}(f:SX->Int)(w:X)(hn:n<=w.1.size)
  (M:∀(x:SX) (W:X),R w.1.size w W->Calls prog 89 #[.agg (xZz x)] W fun e W'=>e=.returned (I (f x))/\R W.1.size W W')
  (j:vZ ex n prog gf lb (fun x:SX=>#[.agg (xZz x)]) S N w):
  Calls prog 87 #[.func (.func gf) #[] lb,.func (.func 89) #[] #[]] w fun e w'=>∃xs,S xs/\e=.returned (I (vy (xs.map f)))/\R w.1.size w w':=by
 have y:=ze M
 have z:=ze j
 have a1:=ze eg
 obtain⟨b1,b2,J,bz⟩:=box2 w (.cells #[.func (.func 89) #[] #[]] 156) Vh
 clear M j eg
 refine(callsIn_wide (n:=7)).1 ?_
 refine callsIn_of_wp_marks func87 rfl trivial ?_ rfl
 simp only[ntmps87,sZz,Nat.reduceAdd,Nat.reduceSub]
 have B1:=ze b1
 have B2:=ze b2
 have m:=ze J
 have BZ:=ze bz
 clear b1 b2 J bz
 gi_wp2
 obtain⟨W0,E⟩:∃W0,((w.alloc (.cells #[.func (.func 89) #[] #[]] 156)).alloc Vh)=W0:=⟨_,rfl⟩
 rw[E]at B1 B2 m BZ ⊢
 clear E
 have hz:W0.1.size=w.1.size+2:=ud BZ
 refine qU (F:=Fence.wide) (n:=7) rfl (by omega) (gf:=gf) (lb:=lb) rfl trivial (ud a1) (ud z (w.1.size+4) (by omega)) (by omega) (fun h k=>h.trans k) (fun W o o' h hc hw=>KX.putObj o' (by omega) (by omega) h hw) (ud m) (fun _=>rfl)
  (fun b W=>W.1[w.1.size]?=Z (.cells #[.func (.func 89) #[] #[]] 156 (0,0))/\W.1[w.1.size+1]?=Z (.cells #[I (vy (b.map f))] 3 (0,0))/\R w.1.size w W)
  (fun _ _ _=>False)
  (fun s A B a2 i L u=>⟨zu i.1 L (fun r e=>(u r e).2),zu i.2.1 L (fun r e=>(u r e).2),i.2.2.grown L (i.2.2.size) (fun k e=>by have:=(u k e).1;omega)⟩)
  (fun _ _ _ _ _ i _ _=>i)
  ⟨ud B1,ud B2,ud m⟩
  (fun x a' W=>∃t,w.1.size+2<=t/\W.1[t]?=Z (.cells (xZz x) 148 (0,0))/\a'={tmps:=#[.func (.func gf) #[] lb,.func (.func 89) #[] #[],undef,(O w.1.size),I 0,(O (w.1.size+1)),(O t),.func (.func gf) #[] lb,.agg (xZz x),undef,undef,undef,undef,undef,undef],defers:=[]})
  (fun x a' s A B a2 i L u=>by
   obtain⟨t,h1,h2,h3⟩:=i
   exact⟨t,h1,zu h2 L (fun r e=>(u r e).2),h3⟩) ?assign ?body ?done ?stop
 case assign=>
  rintro l b x W K ⟨q,i2,i3⟩ C
  have T:=i3.size
  have a5:=zd i2
  have HK:=ze C
  clear C
  gi_wp2
  have H:=(G W.1.size W).alloc (Q _) (.cells (xZz x) 148)
  refine ud HK _ _ (zk H) (KX.of_below H) ⟨(Below.heap_alloc _ _ _ (by omega)).trans q,(Below.heap_alloc _ _ _ (by omega)).trans i2,i3.alloc T _⟩ ⟨W.1.size,by omega,zp _ _,rfl⟩
 case body=>
  rintro l b x a' W hl ⟨r,u⟩ ⟨q,i2,i3⟩ ⟨t,a3,V,rfl⟩ a6
  have T:=i3.size
  have a4:=zd V
  have P:=zd i2
  obtain⟨c1,-⟩:=zc q
  obtain⟨c2,-⟩:=zc i2
  have f2:W.frozen? (U (w.1.size+1) 0)=false:=zv i2 0
  obtain⟨x0,x1,x2,x3,x4,x5,x6,x7,-⟩:=zc V
  have HI:=ze i2
  have v:=ze q
  have d:=ze i3
  have HX:=ze V
  have a7:prog.follows .mixedOrders=true:=by kernel_rfl
  have HC:=ze (ud y x W i3)
  have a0:=ze (ud y x W.drew i3.drew)
  clear q i2 i3 V
  gi_wp2
  gi_region_with_o (refine⟨trivial,?_⟩;gi_at_call 89;(first|refine(CallsIn.inRound l (callsIn_wide.2 (ud HC))).mono ?_|refine(CallsIn.inRound l (callsIn_wide.2 (ud a0))).mono ?_);rintro e w' ⟨rfl,g⟩;have d2:Cz w' (w.1.size+1) 0 (I (vy (b.map f))):=(g.cell (p:=(U (w.1.size+1) 0)) P).trans c2;have e2:w'.frozen? (U (w.1.size+1) 0)=false:=zv ((g.block _ P).trans (ud HI)) 0;have a:=ze g;clear g)
  all_goals gi_wp2
  all_goals(try go_bits)
  all_goals(first|(rw[hz];exact yG (x:=x) rfl hn (ud v) (ud HI) (ud d) ⟨(ud a).os,(ud a).tape,(ud a).output,(ud a).size,(ud a).block⟩)|exact yG (x:=x) rfl hn (ud v) (ud HI) (ud d) ⟨(ud a).os,(ud a).tape,(ud a).output,(ud a).size,(ud a).block⟩)
 case done=>
  rintro D xs W hD hS ⟨q,i2,i3⟩ C
  obtain⟨c2,-⟩:=zc i2
  have d:=ze i3
  clear q i2 i3
  gi_wp2
  refine⟨by simp,.inl ⟨_,_,rfl,run_takeDeferred C,?_⟩⟩
  exact⟨_,results_tmp rfl _ _ _,xs,hS,rfl,xu (ud d) (Q _) (by omega) C _⟩
 case stop=>
  rintro D c b W _ _ h _
  exact h.elim
noncomputable def yx:MK Sg SX:={P:=prog,T:=152,K:=146,E:=148,ke:=kC,ve:=kN,wf:=Sg.wf,z:=kN zX}
theorem Xk:yx.Ok:=⟨XU,underlying152,fun a h=>zbG h,fun a b h=>zer h,fun w=>by kernel_rfl⟩
def vC(L:LV):List (Sg×SX):=L.map (fun p=>(p.1,p))
theorem Vz(L:LV):zj (vC L)=zn L:=by unfold zj vC zn;rw[List.map_map];rfl
theorem Kk(L:LV):(vC L).length=L.length:=by simp[vC]
theorem zba{L:LV}{q:Sg×SX}(h:q∈vC L):q.2∈L/\q.1=q.2.1:=by
 obtain⟨p,a,rfl⟩:=List.mem_map.1 h;exact⟨a,rfl⟩
theorem Kl{L:LV}{ps:List (Sg×SX)}(h:ps.Perm (vC L)):(ps.map (fun p:Sg×SX=>p.2)).Perm L:=by
 have:=h.map (fun p:Sg×SX=>p.2)
 unfold vC at this
 rw[List.map_map]at this
 have e:L.map ((fun p:Sg×SX=>p.2)∘fun p=>(p.1,p))=L:=by
  conv=>rhs;rw[<-List.map_id L]
  rfl
 rwa[e]at this
theorem qA{w:X}{b:Nat}{L:LV}:yA w b L↔xe yx w b (vC L):=
 ⟨fun⟨c,a,h,e⟩=>⟨c,a,h,⟨by rw[e.kv,vC,List.map_map];rfl,e.born,e.once,fun q f=>by obtain⟨p,d,rfl⟩:=List.mem_map.1 f;exact e.wf p d,by rw[Vz];exact e.nodup,e.size⟩⟩,
  fun⟨c,a,h,e⟩=>⟨c,a,h,⟨by rw[e.kv,vC,List.map_map];rfl,e.born,e.once,fun p d=>e.wf (p.1,p) (List.mem_map.2 ⟨p,d,rfl⟩),by rw[<-Vz];exact e.nodup,e.size⟩⟩⟩
theorem vZ.imp{α:Type}{ex:Nat->Prop}{n:Nat}{P:Program}{g:Nat}{lb:Array Y}{encs:α->Array Y}{S S':List α->Prop}{N:Nat}{w:X}(h:vZ ex n P g lb encs S N w)(p:∀xs,S xs->S' xs):vZ ex n P g lb encs S' N w:=fun m q l J j W a b c d e f=>(h m q l J j W a b c d e f).mono (by
 rintro e w ⟨i,⟨xs,k,o⟩|h⟩
 ·exact⟨i,.inl ⟨xs,p _ k,o⟩⟩
 ·exact⟨i,.inr h⟩)
section
variable {α β:Type} [Inhabited α] [Inhabited β] {M:MK α β}
noncomputable def kj (M:MK α β) (L:List (α×β)) (e:MapEntry):α×β:=by
 classical exact if h:∃p∈L,e.key=M.ke p.1/\e.val=M.ve p.2 then h.choose else default
theorem zmz(ok:M.Ok){L:List (α×β)}(hn:(zj L).Nodup){e:MapEntry}{p:α×β}(o:p∈L)(l:e.key=M.ke p.1)(q:e.val=M.ve p.2):kj M L e=p:=by
 unfold kj
 have h:∃p∈L,e.key=M.ke p.1/\e.val=M.ve p.2:=⟨p,o,l,q⟩
 rw[dif_pos h]
 obtain⟨s,r,_⟩:=h.choose_spec
 have k:h.choose.1=p.1:=ok.inj _ _ (r.symm.trans l)
 have d:L.Pairwise (fun a b=>a.1≠b.1):=List.pairwise_map.1 hn
 obtain⟨i,m,f⟩:=List.getElem_of_mem s
 obtain⟨j,n,g⟩:=List.getElem_of_mem o
 rcases Nat.lt_trichotomy i j with c|c|c
 ·have:=List.pairwise_iff_getElem.1 d i j m n c;rw[f,g]at this;exact absurd k this
 ·subst c;rw[<-f,g]
 ·have:=List.pairwise_iff_getElem.1 d j i n m c;rw[f,g]at this;exact absurd k.symm this
theorem ZS(ok:M.Ok){c:Array MapEntry}{a:Nat}{L:List (α×β)}(g:vK M c a L){e:MapEntry}(h:e∈c.toList):kj M L e∈L/\e.key=M.ke (kj M L e).1/\e.val=M.ve (kj M L e).2:=by
 obtain⟨i,j⟩:=List.mem_iff_getElem?.1 h
 obtain⟨p,k,d,f⟩:=g.at j
 have b:=List.mem_of_getElem? k
 rw[zmz ok g.nodup b d f]
 exact⟨b,d,f⟩
theorem zns(ok:M.Ok){b:Array MapEntry}{a:Nat}{L:List (α×β)}(d:vK M b a L):b.toList.map (kj M L)=L:=by
 apply List.ext_getElem?
 intro i
 rw[List.getElem?_map]
 cases h:b.toList[i]? with
 |none=>
  have c:b.toList.length<=i:=List.getElem?_eq_none_iff.1 h
  have f:=d.count
  rw[List.getElem?_eq_none (by simp at c;omega)];rfl
 |some e=>
  obtain⟨p,g,c,f⟩:=d.at h
  rw[g,Option.map_some,zmz ok d.nodup (List.mem_of_getElem? g) c f]
theorem jA(ok:M.Ok){b:Array MapEntry}{a:Nat}{L:List (α×β)}(c:vK M b a L){ps:List MapEntry}(d:ps.Perm b.toList):(ps.map (kj M L)).Perm L:=by
 have:=d.map (kj M L)
 rwa[zns ok c]at this
end
instance:Inhabited SV:=⟨⟨0,qt⟩⟩
instance:Inhabited Lse:=⟨⟨0,⟨0,0,0⟩,0,0⟩⟩
instance:Inhabited Tsk:=⟨⟨true,⟨0,0,0⟩,0,0,0⟩⟩
instance:Inhabited Jk:=⟨⟨0,⟨0,0,0⟩⟩⟩
instance:Inhabited Tok:=⟨⟨0,0⟩⟩
instance:Inhabited Sg:=⟨⟨0,0,0⟩⟩
end Go.Proofs.YtndhpgciopcncaaGreatDoor
