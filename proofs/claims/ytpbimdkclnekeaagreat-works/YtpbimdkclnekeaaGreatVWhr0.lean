import Derived.Test.YtpbimdkclnekeaaGreatVSeq0
open Go.Value renaming int → I
open Go.IntKind renaming i64 → O
open Option renaming some → Q
open Option renaming none → U
open Nat renaming le_refl → Y
open Go renaming World → Z
open Go renaming Value → X
open Go.RowKit.Below renaming refl → G
open Go.RowKit renaming Below → R
open Go.IntKind (i32)
set_option linter.unusedVariables false
set_option maxRecDepth 100000
set_option maxHeartbeats 2000000
open Go.Proofs.Tryz
namespace Go.Proofs.YtpbimdkclnekeaaGreat
open Go.ChangeMaps (setBlock)
open Go.RowKit Go.Maps Go.Shelf
attribute [local go_sem] Oper.semAt_some
structure Lse where
 kd:Int
 s:Sg
 slot:Int
 til:Int
structure Tsk where
 rl:Bool
 s:Sg
 si:Int
 tc:Int
 rest:Int
def Tsk.jt(x:Tsk):TypeId:=if x.rl then 175 else 177
theorem zcW{W a:Z}(h:R W.1.size W a):W.grownBy a U:=⟨h.os,h.tape,h.output,h.size,fun k b _=>h.block k b⟩
theorem zX{β:Type}{B:Nat}{J:β->Z->Prop}(h:OwnFrom B J){s:β}{W a:Z}(c:J s W)(b:R W.1.size W a):J s a:=h s W a U c (zcW b) (fun r e=>by cases e)
theorem ye{α:Type}{p:α->Bool}{l:List α}{x:α}(h:p x=true):(l++[x]).filter p=l.filter p++[x]:=by simp[h]
theorem qQ{α:Type}{p:α->Bool}{l:List α}{x:α}(h:p x=false):(l++[x]).filter p=l.filter p:=by simp[h]
theorem ym{α:Type}(p:α->Bool)(l:List α):(l.filter p).length<=l.length:=List.length_filter_le _ _
theorem qc{ex:Nat->Prop}{n m:Nat}{A B:Z}(h:KX ex n m A B){k:Nat}{o:Obj}(a:A.1[k]?=Q o)(b:k<n)(c:¬ex k):B.1[k]?=Q o:=(h.low b c (zd a)).trans a
theorem zu{B:Nat}{W a:Z}(h:R W.1.size W a):KeepsFrom B W a:=(qN h).from B
theorem zgX(gf:Nat)(lb:Array X)(eg:∀args w,(callFunc gf args).run prog w=.ok (.enter gf args) w)(hf:Nat)(ah hc:Array X)(eh:∀args w,(callFunc hf args).run prog w=.ok (.enter hf args) w){ex:Nat->Prop}{n N:Nat}{S:List SV->Prop}(p:SV->Bool)(Bl Bh:Nat)(w:Z)(hn:n<=w.1.size)
  (aG:Bl<n/\¬ex Bl) (aj:Bh<n/\¬ex Bh) (c1:w.1[Bl]?=Q (.cells #[.func (.func gf) #[] lb] 133 (0,0))) (c2:w.1[Bh]?=Q (.cells #[.func (.func hf) ah hc] 143 (0,0)))
  (ak:∀(x:SV) (W:Z),(∃m,KX ex n m w W)->Calls prog hf (ah++#[.agg #[I O x.st,I O x.cl.cnt,I O x.cl.sum,I i32 x.cl.mn,I i32 x.cl.mx]]++hc) W fun e W'=>e=.returned (.bool (p x))/\R W.1.size W W')
  (L:jw ex n prog gf lb (fun x:SV=>#[.agg #[I O x.st,I O x.cl.cnt,I O x.cl.sum,I i32 x.cl.mn,I i32 x.cl.mx]]) S N w):
  jw ex n prog 175 #[.pointer (Q ⟨Bl,0,U⟩),.pointer (Q ⟨Bh,0,U⟩)] (fun x:SV=>#[.agg #[I O x.st,I O x.cl.cnt,I O x.cl.sum,I i32 x.cl.mn,I i32 x.cl.mx]]) (fun ys=>∃xs,S xs/\ys=xs.filter p) N w:=by
 intro m hm l J Jx z hW aJ hJ ae hY h0
 have d1:=(hW.block Bl (zd c1)).trans c1
 have d2:=(hW.block Bh (zd c2)).trans c2
 obtain⟨e1,-⟩:=zc d1
 have aI:=zd d1
 have am:=hW.size
 have aw:=ze ak
 have aa:=ze L
 have au:=ze eg
 have av:=ze eh
 have ar:=ze c2
 have HJ:=ze hJ
 have a7:=ze ae
 have HY:=ze hY
 have a:R z.1.size z (z.alloc (.cells #[.func (.yield l) #[] #[]] 143)):=(G _ _).alloc (Y _) _
 have ap:=zo z (.cells #[.func (.yield l) #[] #[]] 143)
 have al:=zF z (.cells #[.func (.yield l) #[] #[]] 143)
 have u:=zX hJ h0 a
 have ai:KX ex n m w (z.alloc (.cells #[.func (.yield l) #[] #[]] 143)):=KX.of_below (hW.trans (a.mono am))
 have ag:=hW.trans (a.mono am)
 have HB:=ze ag
 have a8:=ze ai
 have ac:=ze ap
 have ab:=ze al
 have a6:=ze u
 clear ak L eg eh hJ ae hY h0 d1 d2 a ap al u ai c2 ag
 refine callsIn_wide.2 ((callsIn_wide (n:=7)).1 ?_)
 refine callsIn_of_wp_marks func175 rfl trivial ?_ rfl
 simp only[ntmps175,List.size_toArray,List.length_cons,List.length_nil,Nat.reduceAdd,Nat.reduceSub,Array.replicate_succ,Array.replicate_zero,List.push_toArray,List.append_toArray,List.nil_append,List.cons_append]
 gi_wp2
 obtain⟨t,af⟩:∃t,(z.alloc (.cells #[.func (.yield l) #[] #[]] 143))=t:=⟨_,rfl⟩
 rw[af]at a8 ac ab a6 HB ⊢
 clear af
 have hz:t.1.size=z.1.size+1:=ud ab
 refine yG (F:=Fence.wide) (n:=7) rfl (by omega) (gf:=gf) (lb:=lb) rfl trivial (ud au) (ud aa (t.1.size+2) (by omega)) (Y _) (fun h k=>h.trans k) (fun W o o' h hc hw=>KX.putObj o' (by omega) (by omega) h hw) (ud HB) (fun _=>rfl)
  (fun g W=>J (g.filter p) W/\KX ex n (t.1.size+2) w W/\W.1[z.1.size]?=Q (.cells #[.func (.yield l) #[] #[]] 143 (0,0)))
  (fun c g W=>c=.ret/\∃q,Jx q W)
  (fun s A B row H hg j=>⟨ud HJ _ A B row H.1 hg (fun r e=>⟨by have:=(j r e).1;omega,(j r e).2⟩),KX.own (β:=Unit) (q:=t.1.size) (by omega) () A B row H.2.1 hg j,zG H.2.2 hg (fun r e=>(j r e).2)⟩)
  (fun c s A B row H hg j=>⟨H.1,by obtain⟨q,hq⟩:=H.2;exact⟨q,ud a7 q A B row hq hg (fun r e=>⟨by have:=(j r e).1;omega,(j r e).2⟩)⟩⟩)
  ⟨ud a6,(ud a8).wider (by omega),ud ac⟩
  (fun x a' W=>∃Bx,t.1.size<=Bx/\W.1[Bx]?=Q (.cells #[I O x.st,I O x.cl.cnt,I O x.cl.sum,I i32 x.cl.mn,I i32 x.cl.mx] 131 (0,0))/\a'={tmps:=#[.func (.yield l) #[] #[],.pointer (Q ⟨Bl,0,U⟩),.pointer (Q ⟨Bh,0,U⟩),.pointer (Q ⟨z.1.size,0,U⟩),.pointer (Q ⟨Bx,0,U⟩),.func (.func gf) #[] lb,.agg #[I O x.st,I O x.cl.cnt,I O x.cl.sum,I i32 x.cl.mn,I i32 x.cl.mx],undef,undef,undef,undef,undef,undef,undef,undef,undef],defers:=[]})
  (fun x a' s A B row H hg j=>by
   obtain⟨Bx,h1,h2,h3⟩:=H
   exact⟨Bx,h1,zG h2 hg (fun r e=>(j r e).2),h3⟩) ?assign ?body ?done ?stop
 case assign=>
  rintro l' g x W K ⟨i1,i2,i3⟩ E
  have aA:=zd i3
  have aB:=i2.kept.size
  have HK:=ze E
  clear E
  gi_wp2
  have v:=(G W.1.size W).alloc (Y _) (.cells #[I O x.st,I O x.cl.cnt,I O x.cl.sum,I i32 x.cl.mn,I i32 x.cl.mx] 131)
  refine ud HK _ _ (zu v) (KX.of_below v) ⟨zX (ud HJ) i1 v,i2.trans (KX.of_below v),(v.block _ aA).trans i3⟩ ⟨W.1.size,by omega,zo _ _,rfl⟩
 case body=>
  rintro l' g x a' W hl ⟨r,j⟩ ⟨i1,i2,i3⟩ ⟨Bx,aF,hx,rfl⟩ aD
  have aB:=i2.kept.size
  have az:=zd hx
  have aq:=zd i3
  have V:=qc i2 (ud ar) aj.1 aj.2
  have aC:=zd V
  obtain⟨c1,-⟩:=zc V
  obtain⟨x0,x1,x2,x3,x4,-⟩:=zc hx
  have HC:=ze (ud aw x W ⟨_,i2⟩)
  have a3:=ze i1
  have a4:=ze i2
  have a5:=ze i3
  have HX:=ze hx
  have aE:=ze j
  have aH:=ym p g
  have ay:=ud av
  clear i1 i2 i3 hx j V
  obtain⟨bx,a0⟩:∃bx,p x=bx:=⟨_,rfl⟩
  rw[a0]at HC
  have a9:=ze a0
  clear a0
  cases bx with
  |false=>
   gi_wp2
   refine⟨trivial,(CallsIn.inRound l' (callsIn_wide.2 (ud HC))).mono ?_⟩
   rintro e W1 ⟨rfl,a⟩
   have b:=ze a
   clear a
   gi_wp2
   refine⟨fun _ h=>(by cases h),?_⟩
   gi_wp2
   exact⟨zu (ud b),KX.of_below (ud b),by rw[qQ (ud a9)];exact zX (ud HJ) (ud a3) (ud b),(ud a4).trans (KX.of_below (ud b)),((ud b).block _ aq).trans (ud a5)⟩
  |true=>
   gi_wp2
   refine⟨trivial,(CallsIn.inRound l' (callsIn_wide.2 (ud HC))).mono ?_⟩
   rintro e W1 ⟨rfl,a⟩
   have an:=(a.block _ az).trans (ud HX)
   have a1:=(a.block _ aq).trans (ud a5)
   obtain⟨y0,-⟩:=zc a1
   obtain⟨z0,z1,z2,z3,z4,-⟩:=zc an
   have a2:=ze a1
   have b:=ze a
   have u:=zX (ud HJ) (ud a3) a
   obtain⟨fn,tmps,assign,body,hy,hR⟩:=kP (m':=4) rfl (ud HY (g.filter p) x W1 u (by omega))
   have aK:=a.size
   clear a an a1 u
   gi_wp2
   refine RoundIn.mono (F:=Fence.wide.inRound l') hR ?_
   rintro e W2 (⟨rfl,ad,f⟩|⟨rfl,C,f⟩)
   ·have d:KX ex n (t.1.size+2) W W2:=(KX.of_below (ud b)).trans (f.wider (by omega))
    have y:KeepsFrom t.1.size W W2:=(zu (ud b)).trans (f.from (by omega))
    have ao:=f.high _ _ (by omega) (ud a2)
    have i:=ze d
    have T:=ze y
    have ax:=ze ao
    have M:=ze ad
    clear d y ao ad f
    gi_wp2
    exact⟨ud T,ud i,by rw[ye (ud a9)];exact ud M,(ud a4).trans (ud i),ud ax⟩
   ·have d:KX ex n (t.1.size+2) W W2:=(KX.of_below (ud b)).trans (f.wider (by omega))
    have y:KeepsFrom t.1.size W W2:=(zu (ud b)).trans (f.from (by omega))
    have i:=ze d
    have T:=ze y
    have M:=ze C
    clear d y C f
    gi_wp2
    exact⟨ud T,ud i,rfl,_,ud M⟩
 case done=>
  rintro D xs W hD hS ⟨i1,i2,i3⟩ E
  have P:=ze (OwnFrom.putObj (ud HJ) (.deferred U) i1 (by omega) E rfl)
  clear i1 i2 i3
  gi_wp2
  refine⟨by simp,.inl ⟨_,_,rfl,run_takeDeferred E,?_⟩⟩
  exact⟨_,results_none rfl _ _ _,⟨_,rfl⟩,.inl ⟨_,⟨xs,hS,rfl⟩,ud P⟩⟩
 case stop=>
  rintro D c g W hD hS ⟨rfl,q,hq⟩ E
  have P:=ze (OwnFrom.putObj (ud a7) (.deferred U) hq (by omega) E rfl)
  clear hq
  gi_wp2
  refine⟨by simp,.inl ⟨_,_,rfl,run_takeDeferred E,?_⟩⟩
  exact⟨_,results_none rfl _ _ _,⟨_,rfl⟩,.inr ⟨_,trivial,ud P⟩⟩
theorem Xs{α:Type}(d:α->Sg)(gf:Nat)(lb:Array X)(eg:∀args w,(callFunc gf args).run prog w=.ok (.enter gf args) w)(hf:Nat)(aj hc:Array X)(eh:∀args w,(callFunc hf args).run prog w=.ok (.enter hf args) w){ex:Nat->Prop}{n N:Nat}{S:List α->Prop}(p:α->Bool)(Bl Bh:Nat)(w:Z)(hn:n<=w.1.size)
  (aI:Bl<n/\¬ex Bl) (al:Bh<n/\¬ex Bh) (c1:w.1[Bl]?=Q (.cells #[.func (.func gf) #[] lb] 179 (0,0))) (c2:w.1[Bh]?=Q (.cells #[.func (.func hf) aj hc] 226 (0,0)))
  (am:∀(x:α) (W:Z),(∃m,KX ex n m w W)->Calls prog hf (aj++#[.agg #[I O (d x).t,I O (d x).se,I O (d x).we]]++hc) W fun e W'=>e=.returned (.bool (p x))/\R W.1.size W W')
  (P:jw ex n prog gf lb (fun x:α=>#[.agg #[I O (d x).t,I O (d x).se,I O (d x).we]]) S N w):
  jw ex n prog 191 #[.pointer (Q ⟨Bl,0,U⟩),.pointer (Q ⟨Bh,0,U⟩)] (fun x:α=>#[.agg #[I O (d x).t,I O (d x).se,I O (d x).we]]) (fun ys=>∃xs,S xs/\ys=xs.filter p) N w:=by
 intro m hm l J Jx E hW aL hJ ag hY h0
 have d1:=(hW.block Bl (zd c1)).trans c1
 have d2:=(hW.block Bh (zd c2)).trans c2
 obtain⟨e1,-⟩:=zc d1
 have aK:=zd d1
 have ao:=hW.size
 have ay:=ze am
 have ac:=ze P
 have aw:=ze eg
 have ax:=ze eh
 have av:=ze c2
 have HJ:=ze hJ
 have a9:=ze ag
 have HY:=ze hY
 have a:R E.1.size E (E.alloc (.cells #[.func (.yield l) #[] #[]] 226)):=(G _ _).alloc (Y _) _
 have ar:=zo E (.cells #[.func (.yield l) #[] #[]] 226)
 have an:=zF E (.cells #[.func (.yield l) #[] #[]] 226)
 have y:=zX hJ h0 a
 have ak:KX ex n m w (E.alloc (.cells #[.func (.yield l) #[] #[]] 226)):=KX.of_below (hW.trans (a.mono ao))
 have ai:=hW.trans (a.mono ao)
 have HB:=ze ai
 have aa:=ze ak
 have ae:=ze ar
 have ad:=ze an
 have a8:=ze y
 clear am P eg eh hJ ag hY h0 d1 d2 a ar an y ak c2 ai
 refine callsIn_wide.2 ((callsIn_wide (n:=7)).1 ?_)
 refine callsIn_of_wp_marks func191 rfl trivial ?_ rfl
 simp only[ntmps191,List.size_toArray,List.length_cons,List.length_nil,Nat.reduceAdd,Nat.reduceSub,Array.replicate_succ,Array.replicate_zero,List.push_toArray,List.append_toArray,List.nil_append,List.cons_append]
 gi_wp2
 obtain⟨v,ah⟩:∃v,(E.alloc (.cells #[.func (.yield l) #[] #[]] 226))=v:=⟨_,rfl⟩
 rw[ah]at aa ae ad a8 HB ⊢
 clear ah
 have hz:v.1.size=E.1.size+1:=ud ad
 refine yG (F:=Fence.wide) (n:=7) rfl (by omega) (gf:=gf) (lb:=lb) rfl trivial (ud aw) (ud ac (v.1.size+2) (by omega)) (Y _) (fun h k=>h.trans k) (fun W o o' h hc hw=>KX.putObj o' (by omega) (by omega) h hw) (ud HB) (fun _=>rfl)
  (fun i W=>J (i.filter p) W/\KX ex n (v.1.size+2) w W/\W.1[E.1.size]?=Q (.cells #[.func (.yield l) #[] #[]] 226 (0,0)))
  (fun c i W=>c=.ret/\∃q,Jx q W)
  (fun s A B row M hg u=>⟨ud HJ _ A B row M.1 hg (fun r e=>⟨by have:=(u r e).1;omega,(u r e).2⟩),KX.own (β:=Unit) (q:=v.1.size) (by omega) () A B row M.2.1 hg u,zG M.2.2 hg (fun r e=>(u r e).2)⟩)
  (fun c s A B row M hg u=>⟨M.1,by obtain⟨q,hq⟩:=M.2;exact⟨q,ud a9 q A B row hq hg (fun r e=>⟨by have:=(u r e).1;omega,(u r e).2⟩)⟩⟩)
  ⟨ud a8,(ud aa).wider (by omega),ud ae⟩
  (fun x a' W=>∃Bx,v.1.size<=Bx/\W.1[Bx]?=Q (.cells #[I O (d x).t,I O (d x).se,I O (d x).we] 137 (0,0))/\a'={tmps:=#[.func (.yield l) #[] #[],.pointer (Q ⟨Bl,0,U⟩),.pointer (Q ⟨Bh,0,U⟩),.pointer (Q ⟨E.1.size,0,U⟩),.pointer (Q ⟨Bx,0,U⟩),.func (.func gf) #[] lb,.agg #[I O (d x).t,I O (d x).se,I O (d x).we],undef,undef,undef,undef,undef,undef,undef,undef,undef],defers:=[]})
  (fun x a' s A B row M hg u=>by
   obtain⟨Bx,h1,h2,h3⟩:=M
   exact⟨Bx,h1,zG h2 hg (fun r e=>(u r e).2),h3⟩) ?assign ?body ?done ?stop
 case assign=>
  rintro l' i x W K ⟨i1,i2,i3⟩ L
  have aC:=zd i3
  have aD:=i2.kept.size
  have HK:=ze L
  clear L
  gi_wp2
  have z:=(G W.1.size W).alloc (Y _) (.cells #[I O (d x).t,I O (d x).se,I O (d x).we] 137)
  refine ud HK _ _ (zu z) (KX.of_below z) ⟨zX (ud HJ) i1 z,i2.trans (KX.of_below z),(z.block _ aC).trans i3⟩ ⟨W.1.size,by omega,zo _ _,rfl⟩
 case body=>
  rintro l' i x a' W hl ⟨r,u⟩ ⟨i1,i2,i3⟩ ⟨Bx,aH,hx,rfl⟩ aF
  have aD:=i2.kept.size
  have aB:=zd hx
  have au:=zd i3
  have a1:=qc i2 (ud av) al.1 al.2
  have aE:=zd a1
  obtain⟨c1,-⟩:=zc a1
  obtain⟨x0,x1,x2,-⟩:=zc hx
  have HC:=ze (ud ay x W ⟨_,i2⟩)
  have a5:=ze i1
  have a6:=ze i2
  have a7:=ze i3
  have HX:=ze hx
  have aG:=ze u
  have aJ:=ym p i
  have aA:=ud ax
  clear i1 i2 i3 hx u a1
  obtain⟨bx,a2⟩:∃bx,p x=bx:=⟨_,rfl⟩
  rw[a2]at HC
  have ab:=ze a2
  clear a2
  cases bx with
  |false=>
   gi_wp2
   refine⟨trivial,(CallsIn.inRound l' (callsIn_wide.2 (ud HC))).mono ?_⟩
   rintro e W1 ⟨rfl,a⟩
   have b:=ze a
   clear a
   gi_wp2
   refine⟨fun _ h=>(by cases h),?_⟩
   gi_wp2
   exact⟨zu (ud b),KX.of_below (ud b),by rw[qQ (ud ab)];exact zX (ud HJ) (ud a5) (ud b),(ud a6).trans (KX.of_below (ud b)),((ud b).block _ au).trans (ud a7)⟩
  |true=>
   gi_wp2
   refine⟨trivial,(CallsIn.inRound l' (callsIn_wide.2 (ud HC))).mono ?_⟩
   rintro e W1 ⟨rfl,a⟩
   have ap:=(a.block _ aB).trans (ud HX)
   have a3:=(a.block _ au).trans (ud a7)
   obtain⟨y0,-⟩:=zc a3
   obtain⟨z0,z1,z2,-⟩:=zc ap
   have a4:=ze a3
   have b:=ze a
   have y:=zX (ud HJ) (ud a5) a
   obtain⟨fn,tmps,assign,body,hy,hR⟩:=kP (m':=4) rfl (ud HY (i.filter p) x W1 y (by omega))
   have aM:=a.size
   clear a ap a3 y
   gi_wp2
   refine RoundIn.mono (F:=Fence.wide.inRound l') hR ?_
   rintro e W2 (⟨rfl,af,g⟩|⟨rfl,H,g⟩)
   ·have f:KX ex n (v.1.size+2) W W2:=(KX.of_below (ud b)).trans (g.wider (by omega))
    have C:KeepsFrom v.1.size W W2:=(zu (ud b)).trans (g.from (by omega))
    have aq:=g.high _ _ (by omega) (ud a4)
    have j:=ze f
    have a0:=ze C
    have az:=ze aq
    have T:=ze af
    clear f C aq af g
    gi_wp2
    exact⟨ud a0,ud j,by rw[ye (ud ab)];exact ud T,(ud a6).trans (ud j),ud az⟩
   ·have f:KX ex n (v.1.size+2) W W2:=(KX.of_below (ud b)).trans (g.wider (by omega))
    have C:KeepsFrom v.1.size W W2:=(zu (ud b)).trans (g.from (by omega))
    have j:=ze f
    have a0:=ze C
    have T:=ze H
    clear f C H g
    gi_wp2
    exact⟨ud a0,ud j,rfl,_,ud T⟩
 case done=>
  rintro D xs W hD hS ⟨i1,i2,i3⟩ L
  have V:=ze (OwnFrom.putObj (ud HJ) (.deferred U) i1 (by omega) L rfl)
  clear i1 i2 i3
  gi_wp2
  refine⟨by simp,.inl ⟨_,_,rfl,run_takeDeferred L,?_⟩⟩
  exact⟨_,results_none rfl _ _ _,⟨_,rfl⟩,.inl ⟨_,⟨xs,hS,rfl⟩,ud V⟩⟩
 case stop=>
  rintro D c i W hD hS ⟨rfl,q,hq⟩ L
  have V:=ze (OwnFrom.putObj (ud a9) (.deferred U) hq (by omega) L rfl)
  clear hq
  gi_wp2
  refine⟨by simp,.inl ⟨_,_,rfl,run_takeDeferred L,?_⟩⟩
  exact⟨_,results_none rfl _ _ _,⟨_,rfl⟩,.inr ⟨_,trivial,ud V⟩⟩
theorem zgW(gf:Nat)(lb:Array X)(eg:∀args w,(callFunc gf args).run prog w=.ok (.enter gf args) w)(hf:Nat)(ai hc:Array X)(eh:∀args w,(callFunc hf args).run prog w=.ok (.enter hf args) w){ex:Nat->Prop}{n N:Nat}{S:List Lse->Prop}(p:Lse->Bool)(Bl Bh:Nat)(w:Z)(hn:n<=w.1.size)
  (aH:Bl<n/\¬ex Bl) (ak:Bh<n/\¬ex Bh) (c1:w.1[Bl]?=Q (.cells #[.func (.func gf) #[] lb] 151 (0,0))) (c2:w.1[Bh]?=Q (.cells #[.func (.func hf) ai hc] 157 (0,0)))
  (al:∀(x:Lse) (W:Z),(∃m,KX ex n m w W)->Calls prog hf (ai++#[.agg #[I O x.kd,I O x.s.t,I O x.s.se,I O x.s.we,I O x.slot,I O x.til]]++hc) W fun e W'=>e=.returned (.bool (p x))/\R W.1.size W W')
  (M:jw ex n prog gf lb (fun x:Lse=>#[.agg #[I O x.kd,I O x.s.t,I O x.s.se,I O x.s.we,I O x.slot,I O x.til]]) S N w):
  jw ex n prog 176 #[.pointer (Q ⟨Bl,0,U⟩),.pointer (Q ⟨Bh,0,U⟩)] (fun x:Lse=>#[.agg #[I O x.kd,I O x.s.t,I O x.s.se,I O x.s.we,I O x.slot,I O x.til]]) (fun ys=>∃xs,S xs/\ys=xs.filter p) N w:=by
 intro m hm l J Jx C hW aK hJ af hY h0
 have d1:=(hW.block Bl (zd c1)).trans c1
 have d2:=(hW.block Bh (zd c2)).trans c2
 obtain⟨e1,-⟩:=zc d1
 have aJ:=zd d1
 have an:=hW.size
 have ax:=ze al
 have ab:=ze M
 have av:=ze eg
 have aw:=ze eh
 have au:=ze c2
 have HJ:=ze hJ
 have a8:=ze af
 have HY:=ze hY
 have a:R C.1.size C (C.alloc (.cells #[.func (.yield l) #[] #[]] 157)):=(G _ _).alloc (Y _) _
 have aq:=zo C (.cells #[.func (.yield l) #[] #[]] 157)
 have am:=zF C (.cells #[.func (.yield l) #[] #[]] 157)
 have v:=zX hJ h0 a
 have aj:KX ex n m w (C.alloc (.cells #[.func (.yield l) #[] #[]] 157)):=KX.of_below (hW.trans (a.mono an))
 have ah:=hW.trans (a.mono an)
 have HB:=ze ah
 have a9:=ze aj
 have ad:=ze aq
 have ac:=ze am
 have a7:=ze v
 clear al M eg eh hJ af hY h0 d1 d2 a aq am v aj c2 ah
 refine callsIn_wide.2 ((callsIn_wide (n:=7)).1 ?_)
 refine callsIn_of_wp_marks func176 rfl trivial ?_ rfl
 simp only[ntmps176,List.size_toArray,List.length_cons,List.length_nil,Nat.reduceAdd,Nat.reduceSub,Array.replicate_succ,Array.replicate_zero,List.push_toArray,List.append_toArray,List.nil_append,List.cons_append]
 gi_wp2
 obtain⟨u,ag⟩:∃u,(C.alloc (.cells #[.func (.yield l) #[] #[]] 157))=u:=⟨_,rfl⟩
 rw[ag]at a9 ad ac a7 HB ⊢
 clear ag
 have hz:u.1.size=C.1.size+1:=ud ac
 refine yG (F:=Fence.wide) (n:=7) rfl (by omega) (gf:=gf) (lb:=lb) rfl trivial (ud av) (ud ab (u.1.size+2) (by omega)) (Y _) (fun h k=>h.trans k) (fun W o o' h hc hw=>KX.putObj o' (by omega) (by omega) h hw) (ud HB) (fun _=>rfl)
  (fun g W=>J (g.filter p) W/\KX ex n (u.1.size+2) w W/\W.1[C.1.size]?=Q (.cells #[.func (.yield l) #[] #[]] 157 (0,0)))
  (fun c g W=>c=.ret/\∃q,Jx q W)
  (fun s A B row L hg j=>⟨ud HJ _ A B row L.1 hg (fun r e=>⟨by have:=(j r e).1;omega,(j r e).2⟩),KX.own (β:=Unit) (q:=u.1.size) (by omega) () A B row L.2.1 hg j,zG L.2.2 hg (fun r e=>(j r e).2)⟩)
  (fun c s A B row L hg j=>⟨L.1,by obtain⟨q,hq⟩:=L.2;exact⟨q,ud a8 q A B row hq hg (fun r e=>⟨by have:=(j r e).1;omega,(j r e).2⟩)⟩⟩)
  ⟨ud a7,(ud a9).wider (by omega),ud ad⟩
  (fun x a' W=>∃Bx,u.1.size<=Bx/\W.1[Bx]?=Q (.cells #[I O x.kd,I O x.s.t,I O x.s.se,I O x.s.we,I O x.slot,I O x.til] 149 (0,0))/\a'={tmps:=#[.func (.yield l) #[] #[],.pointer (Q ⟨Bl,0,U⟩),.pointer (Q ⟨Bh,0,U⟩),.pointer (Q ⟨C.1.size,0,U⟩),.pointer (Q ⟨Bx,0,U⟩),.func (.func gf) #[] lb,.agg #[I O x.kd,I O x.s.t,I O x.s.se,I O x.s.we,I O x.slot,I O x.til],undef,undef,undef,undef,undef,undef,undef,undef,undef],defers:=[]})
  (fun x a' s A B row L hg j=>by
   obtain⟨Bx,h1,h2,h3⟩:=L
   exact⟨Bx,h1,zG h2 hg (fun r e=>(j r e).2),h3⟩) ?assign ?body ?done ?stop
 case assign=>
  rintro l' g x W K ⟨i1,i2,i3⟩ H
  have aB:=zd i3
  have aC:=i2.kept.size
  have HK:=ze H
  clear H
  gi_wp2
  have y:=(G W.1.size W).alloc (Y _) (.cells #[I O x.kd,I O x.s.t,I O x.s.se,I O x.s.we,I O x.slot,I O x.til] 149)
  refine ud HK _ _ (zu y) (KX.of_below y) ⟨zX (ud HJ) i1 y,i2.trans (KX.of_below y),(y.block _ aB).trans i3⟩ ⟨W.1.size,by omega,zo _ _,rfl⟩
 case body=>
  rintro l' g x a' W hl ⟨r,j⟩ ⟨i1,i2,i3⟩ ⟨Bx,aG,hx,rfl⟩ aE
  have aC:=i2.kept.size
  have aA:=zd hx
  have ar:=zd i3
  have a0:=qc i2 (ud au) ak.1 ak.2
  have aD:=zd a0
  obtain⟨c1,-⟩:=zc a0
  obtain⟨x0,x1,x2,x3,x4,x5,-⟩:=zc hx
  have HC:=ze (ud ax x W ⟨_,i2⟩)
  have a4:=ze i1
  have a5:=ze i2
  have a6:=ze i3
  have HX:=ze hx
  have aF:=ze j
  have aI:=ym p g
  have az:=ud aw
  clear i1 i2 i3 hx j a0
  obtain⟨bx,a1⟩:∃bx,p x=bx:=⟨_,rfl⟩
  rw[a1]at HC
  have aa:=ze a1
  clear a1
  cases bx with
  |false=>
   gi_wp2
   refine⟨trivial,(CallsIn.inRound l' (callsIn_wide.2 (ud HC))).mono ?_⟩
   rintro e W1 ⟨rfl,a⟩
   have b:=ze a
   clear a
   gi_wp2
   refine⟨fun _ h=>(by cases h),?_⟩
   gi_wp2
   exact⟨zu (ud b),KX.of_below (ud b),by rw[qQ (ud aa)];exact zX (ud HJ) (ud a4) (ud b),(ud a5).trans (KX.of_below (ud b)),((ud b).block _ ar).trans (ud a6)⟩
  |true=>
   gi_wp2
   refine⟨trivial,(CallsIn.inRound l' (callsIn_wide.2 (ud HC))).mono ?_⟩
   rintro e W1 ⟨rfl,a⟩
   have ao:=(a.block _ aA).trans (ud HX)
   have a2:=(a.block _ ar).trans (ud a6)
   obtain⟨y0,-⟩:=zc a2
   obtain⟨z0,z1,z2,z3,z4,z5,-⟩:=zc ao
   have a3:=ze a2
   have b:=ze a
   have v:=zX (ud HJ) (ud a4) a
   obtain⟨fn,tmps,assign,body,hy,hR⟩:=kP (m':=4) rfl (ud HY (g.filter p) x W1 v (by omega))
   have aL:=a.size
   clear a ao a2 v
   gi_wp2
   refine RoundIn.mono (F:=Fence.wide.inRound l') hR ?_
   rintro e W2 (⟨rfl,ae,f⟩|⟨rfl,E,f⟩)
   ·have d:KX ex n (u.1.size+2) W W2:=(KX.of_below (ud b)).trans (f.wider (by omega))
    have z:KeepsFrom u.1.size W W2:=(zu (ud b)).trans (f.from (by omega))
    have ap:=f.high _ _ (by omega) (ud a3)
    have i:=ze d
    have V:=ze z
    have ay:=ze ap
    have P:=ze ae
    clear d z ap ae f
    gi_wp2
    exact⟨ud V,ud i,by rw[ye (ud aa)];exact ud P,(ud a5).trans (ud i),ud ay⟩
   ·have d:KX ex n (u.1.size+2) W W2:=(KX.of_below (ud b)).trans (f.wider (by omega))
    have z:KeepsFrom u.1.size W W2:=(zu (ud b)).trans (f.from (by omega))
    have i:=ze d
    have V:=ze z
    have P:=ze E
    clear d z E f
    gi_wp2
    exact⟨ud V,ud i,rfl,_,ud P⟩
 case done=>
  rintro D xs W hD hS ⟨i1,i2,i3⟩ H
  have T:=ze (OwnFrom.putObj (ud HJ) (.deferred U) i1 (by omega) H rfl)
  clear i1 i2 i3
  gi_wp2
  refine⟨by simp,.inl ⟨_,_,rfl,run_takeDeferred H,?_⟩⟩
  exact⟨_,results_none rfl _ _ _,⟨_,rfl⟩,.inl ⟨_,⟨xs,hS,rfl⟩,ud T⟩⟩
 case stop=>
  rintro D c g W hD hS ⟨rfl,q,hq⟩ H
  have T:=ze (OwnFrom.putObj (ud a8) (.deferred U) hq (by omega) H rfl)
  clear hq
  gi_wp2
  refine⟨by simp,.inl ⟨_,_,rfl,run_takeDeferred H,?_⟩⟩
  exact⟨_,results_none rfl _ _ _,⟨_,rfl⟩,.inr ⟨_,trivial,ud T⟩⟩
theorem zgY{α:Type}(a:α->Tsk)(gf:Nat)(lb:Array X)(eg:∀args w,(callFunc gf args).run prog w=.ok (.enter gf args) w)(hf:Nat)(aj hc:Array X)(eh:∀args w,(callFunc hf args).run prog w=.ok (.enter hf args) w){ex:Nat->Prop}{n N:Nat}{S:List α->Prop}(p:α->Bool)(Bl Bh:Nat)(w:Z)(hn:n<=w.1.size)
  (aI:Bl<n/\¬ex Bl) (al:Bh<n/\¬ex Bh) (c1:w.1[Bl]?=Q (.cells #[.func (.func gf) #[] lb] 159 (0,0))) (c2:w.1[Bh]?=Q (.cells #[.func (.func hf) aj hc] 164 (0,0)))
  (am:∀(x:α) (W:Z),(∃m,KX ex n m w W)->Calls prog hf (aj++#[.agg #[.iface (a x).jt (.agg #[I O (a x).s.t,I O (a x).s.se,I O (a x).s.we]),I O (a x).si,I O (a x).tc,I O (a x).rest]]++hc) W fun e W'=>e=.returned (.bool (p x))/\R W.1.size W W')
  (P:jw ex n prog gf lb (fun x:α=>#[.agg #[.iface (a x).jt (.agg #[I O (a x).s.t,I O (a x).s.se,I O (a x).s.we]),I O (a x).si,I O (a x).tc,I O (a x).rest]]) S N w):
  jw ex n prog 132 #[.pointer (Q ⟨Bl,0,U⟩),.pointer (Q ⟨Bh,0,U⟩)] (fun x:α=>#[.agg #[.iface (a x).jt (.agg #[I O (a x).s.t,I O (a x).s.se,I O (a x).s.we]),I O (a x).si,I O (a x).tc,I O (a x).rest]]) (fun ys=>∃xs,S xs/\ys=xs.filter p) N w:=by
 intro m hm l J Jx E hW aL hJ ag hY h0
 have d1:=(hW.block Bl (zd c1)).trans c1
 have d2:=(hW.block Bh (zd c2)).trans c2
 obtain⟨e1,-⟩:=zc d1
 have aK:=zd d1
 have ao:=hW.size
 have ay:=ze am
 have ac:=ze P
 have aw:=ze eg
 have ax:=ze eh
 have av:=ze c2
 have HJ:=ze hJ
 have a9:=ze ag
 have HY:=ze hY
 have b:R E.1.size E (E.alloc (.cells #[.func (.yield l) #[] #[]] 164)):=(G _ _).alloc (Y _) _
 have ar:=zo E (.cells #[.func (.yield l) #[] #[]] 164)
 have an:=zF E (.cells #[.func (.yield l) #[] #[]] 164)
 have y:=zX hJ h0 b
 have ak:KX ex n m w (E.alloc (.cells #[.func (.yield l) #[] #[]] 164)):=KX.of_below (hW.trans (b.mono ao))
 have ai:=hW.trans (b.mono ao)
 have HB:=ze ai
 have aa:=ze ak
 have ae:=ze ar
 have ad:=ze an
 have a8:=ze y
 clear am P eg eh hJ ag hY h0 d1 d2 b ar an y ak c2 ai
 refine callsIn_wide.2 ((callsIn_wide (n:=7)).1 ?_)
 refine callsIn_of_wp_marks func132 rfl trivial ?_ rfl
 simp only[ntmps132,List.size_toArray,List.length_cons,List.length_nil,Nat.reduceAdd,Nat.reduceSub,Array.replicate_succ,Array.replicate_zero,List.push_toArray,List.append_toArray,List.nil_append,List.cons_append]
 gi_wp2
 obtain⟨v,ah⟩:∃v,(E.alloc (.cells #[.func (.yield l) #[] #[]] 164))=v:=⟨_,rfl⟩
 rw[ah]at aa ae ad a8 HB ⊢
 clear ah
 have hz:v.1.size=E.1.size+1:=ud ad
 refine yG (F:=Fence.wide) (n:=7) rfl (by omega) (gf:=gf) (lb:=lb) rfl trivial (ud aw) (ud ac (v.1.size+2) (by omega)) (Y _) (fun h k=>h.trans k) (fun W o o' h hc hw=>KX.putObj o' (by omega) (by omega) h hw) (ud HB) (fun _=>rfl)
  (fun i W=>J (i.filter p) W/\KX ex n (v.1.size+2) w W/\W.1[E.1.size]?=Q (.cells #[.func (.yield l) #[] #[]] 164 (0,0)))
  (fun c i W=>c=.ret/\∃q,Jx q W)
  (fun s A B row M hg u=>⟨ud HJ _ A B row M.1 hg (fun r e=>⟨by have:=(u r e).1;omega,(u r e).2⟩),KX.own (β:=Unit) (q:=v.1.size) (by omega) () A B row M.2.1 hg u,zG M.2.2 hg (fun r e=>(u r e).2)⟩)
  (fun c s A B row M hg u=>⟨M.1,by obtain⟨q,hq⟩:=M.2;exact⟨q,ud a9 q A B row hq hg (fun r e=>⟨by have:=(u r e).1;omega,(u r e).2⟩)⟩⟩)
  ⟨ud a8,(ud aa).wider (by omega),ud ae⟩
  (fun x a' W=>∃Bx,v.1.size<=Bx/\W.1[Bx]?=Q (.cells #[.iface (a x).jt (.agg #[I O (a x).s.t,I O (a x).s.se,I O (a x).s.we]),I O (a x).si,I O (a x).tc,I O (a x).rest] 162 (0,0))/\a'={tmps:=#[.func (.yield l) #[] #[],.pointer (Q ⟨Bl,0,U⟩),.pointer (Q ⟨Bh,0,U⟩),.pointer (Q ⟨E.1.size,0,U⟩),.pointer (Q ⟨Bx,0,U⟩),.func (.func gf) #[] lb,.agg #[.iface (a x).jt (.agg #[I O (a x).s.t,I O (a x).s.se,I O (a x).s.we]),I O (a x).si,I O (a x).tc,I O (a x).rest],undef,undef,undef,undef,undef,undef,undef,undef,undef],defers:=[]})
  (fun x a' s A B row M hg u=>by
   obtain⟨Bx,h1,h2,h3⟩:=M
   exact⟨Bx,h1,zG h2 hg (fun r e=>(u r e).2),h3⟩) ?assign ?body ?done ?stop
 case assign=>
  rintro l' i x W K ⟨i1,i2,i3⟩ L
  have aC:=zd i3
  have aD:=i2.kept.size
  have HK:=ze L
  clear L
  gi_wp2
  have z:=(G W.1.size W).alloc (Y _) (.cells #[.iface (a x).jt (.agg #[I O (a x).s.t,I O (a x).s.se,I O (a x).s.we]),I O (a x).si,I O (a x).tc,I O (a x).rest] 162)
  refine ud HK _ _ (zu z) (KX.of_below z) ⟨zX (ud HJ) i1 z,i2.trans (KX.of_below z),(z.block _ aC).trans i3⟩ ⟨W.1.size,by omega,zo _ _,rfl⟩
 case body=>
  rintro l' i x a' W hl ⟨r,u⟩ ⟨i1,i2,i3⟩ ⟨Bx,aH,hx,rfl⟩ aF
  have aD:=i2.kept.size
  have aB:=zd hx
  have au:=zd i3
  have a1:=qc i2 (ud av) al.1 al.2
  have aE:=zd a1
  obtain⟨c1,-⟩:=zc a1
  obtain⟨x0,x1,x2,x3,-⟩:=zc hx
  have HC:=ze (ud ay x W ⟨_,i2⟩)
  have a5:=ze i1
  have a6:=ze i2
  have a7:=ze i3
  have HX:=ze hx
  have aG:=ze u
  have aJ:=ym p i
  have aA:=ud ax
  clear i1 i2 i3 hx u a1
  obtain⟨bx,a2⟩:∃bx,p x=bx:=⟨_,rfl⟩
  rw[a2]at HC
  have ab:=ze a2
  clear a2
  cases bx with
  |false=>
   gi_wp2
   refine⟨trivial,(CallsIn.inRound l' (callsIn_wide.2 (ud HC))).mono ?_⟩
   rintro e W1 ⟨rfl,b⟩
   have d:=ze b
   clear b
   gi_wp2
   refine⟨fun _ h=>(by cases h),?_⟩
   gi_wp2
   exact⟨zu (ud d),KX.of_below (ud d),by rw[qQ (ud ab)];exact zX (ud HJ) (ud a5) (ud d),(ud a6).trans (KX.of_below (ud d)),((ud d).block _ au).trans (ud a7)⟩
  |true=>
   gi_wp2
   refine⟨trivial,(CallsIn.inRound l' (callsIn_wide.2 (ud HC))).mono ?_⟩
   rintro e W1 ⟨rfl,b⟩
   have ap:=(b.block _ aB).trans (ud HX)
   have a3:=(b.block _ au).trans (ud a7)
   obtain⟨y0,-⟩:=zc a3
   obtain⟨z0,z1,z2,z3,-⟩:=zc ap
   have a4:=ze a3
   have d:=ze b
   have y:=zX (ud HJ) (ud a5) b
   obtain⟨fn,tmps,assign,body,hy,hR⟩:=kP (m':=4) rfl (ud HY (i.filter p) x W1 y (by omega))
   have aM:=b.size
   clear b ap a3 y
   gi_wp2
   refine RoundIn.mono (F:=Fence.wide.inRound l') hR ?_
   rintro e W2 (⟨rfl,af,g⟩|⟨rfl,H,g⟩)
   ·have f:KX ex n (v.1.size+2) W W2:=(KX.of_below (ud d)).trans (g.wider (by omega))
    have C:KeepsFrom v.1.size W W2:=(zu (ud d)).trans (g.from (by omega))
    have aq:=g.high _ _ (by omega) (ud a4)
    have j:=ze f
    have a0:=ze C
    have az:=ze aq
    have T:=ze af
    clear f C aq af g
    gi_wp2
    exact⟨ud a0,ud j,by rw[ye (ud ab)];exact ud T,(ud a6).trans (ud j),ud az⟩
   ·have f:KX ex n (v.1.size+2) W W2:=(KX.of_below (ud d)).trans (g.wider (by omega))
    have C:KeepsFrom v.1.size W W2:=(zu (ud d)).trans (g.from (by omega))
    have j:=ze f
    have a0:=ze C
    have T:=ze H
    clear f C H g
    gi_wp2
    exact⟨ud a0,ud j,rfl,_,ud T⟩
 case done=>
  rintro D xs W hD hS ⟨i1,i2,i3⟩ L
  have V:=ze (OwnFrom.putObj (ud HJ) (.deferred U) i1 (by omega) L rfl)
  clear i1 i2 i3
  gi_wp2
  refine⟨by simp,.inl ⟨_,_,rfl,run_takeDeferred L,?_⟩⟩
  exact⟨_,results_none rfl _ _ _,⟨_,rfl⟩,.inl ⟨_,⟨xs,hS,rfl⟩,ud V⟩⟩
 case stop=>
  rintro D c i W hD hS ⟨rfl,q,hq⟩ L
  have V:=ze (OwnFrom.putObj (ud a9) (.deferred U) hq (by omega) L rfl)
  clear hq
  gi_wp2
  refine⟨by simp,.inl ⟨_,_,rfl,run_takeDeferred L,?_⟩⟩
  exact⟨_,results_none rfl _ _ _,⟨_,rfl⟩,.inr ⟨_,trivial,ud V⟩⟩
structure Jk where
 kd:Int
 s:Sg
deriving DecidableEq
structure Tok where
 ep:Int
 num:Int
deriving DecidableEq
def Jk.wf(k:Jk):Prop:=yS k.kd/\k.s.wf
def Tok.wf(k:Tok):Prop:=yS k.ep/\yS k.num
def Vi(k:Jk):X:=.agg #[I O k.kd,I O k.s.t,I O k.s.se,I O k.s.we]
def yd(k:Tok):X:=.agg #[I O k.ep,I O k.num]
def kZ(x:Lse):X:=.agg #[I O x.kd,I O x.s.t,I O x.s.se,I O x.s.we,I O x.slot,I O x.til]
def Xp(x:Tsk):X:=.agg #[.iface x.jt (.agg #[I O x.s.t,I O x.s.se,I O x.s.we]),I O x.si,I O x.tc,I O x.rest]
theorem zlz:(147:TypeId)<prog.types.size:=of_decide_eq_true (by kernel_rfl)
theorem zly:Keyed prog 147:=Keyed.of_law (deep_law_laid Tryz.laidOut (m:=3) (Nat.le_of_ble_eq_true rfl) zlz (by kernel_rfl) (by kernel_rfl))
theorem zli:(49:TypeId)<prog.types.size:=of_decide_eq_true (by kernel_rfl)
theorem zlh:Keyed prog 49:=Keyed.of_law (deep_law_laid Tryz.laidOut (m:=2) (Nat.le_of_ble_eq_true rfl) zli (by kernel_rfl) (by kernel_rfl))
theorem zbX:prog.cellsOf 147=4:=by kernel_rfl
theorem zai:prog.cellsOf 49=2:=by kernel_rfl
theorem zjt:prog.keyType 147=true:=by kernel_rfl
theorem ziv:prog.keyType 49=true:=by kernel_rfl
theorem zkJ{a b:Jk}(h:Vi a=Vi b):a=b:=by
 unfold Vi at h
 injection h with h
 injection h with h
 injection h with c h
 injection h with d h
 injection h with e h
 injection h with f h
 injection c with _ c
 injection d with _ d
 injection e with _ e
 injection f with _ f
 obtain⟨_,_,_,_⟩:=a;obtain⟨_,_,_,_⟩:=b;simp at*;exact⟨c,d,e,f⟩
theorem zgR{a b:Tok}(h:yd a=yd b):a=b:=by
 unfold yd at h
 injection h with h
 injection h with h
 injection h with c h
 injection h with d h
 injection c with _ c
 injection d with _ d
 cases a;cases b;simp at*;exact⟨c,d⟩
theorem Jq:∃m,prog.types.size=m+2:=by
 have h:1<prog.types.size:=of_decide_eq_true (by kernel_rfl)
 exact⟨prog.types.size-2,by omega⟩
theorem zkK{k:Jk}(h:k.wf):∃n,keyOf prog 147 (Vi k)=Q n:=by
 obtain⟨m,l⟩:=Jq
 obtain⟨c,d,e,f⟩:=h
 have g:(Vi k).formed prog 147=true:=by
  simp[Value.formed,Vi,underlying147,zbX]
 unfold keyOf
 simp only[underlying147,zjt,g,Bool.and_self,if_true]
 have:∃b,prog.keyLits (prog.types.size+1) 147 (Vi k).cells.toList=Q b:=by
  rw[l]
  simp[Program.keyLits,underlying147,underlying137,underlying3,Vi,Value.cells,zbX,Yf,Yd,ziy c,ziy d,ziy e,ziy f]
  rw[if_pos (fun i j=>by match i,j with|0,_=>simp|1,_=>simp|2,_=>simp)]
  exact⟨_,rfl⟩
 obtain⟨b,a⟩:=this
 exact⟨_,by rw[a];rfl⟩
theorem zka{k:Tok}(h:k.wf):∃g,keyOf prog 49 (yd k)=Q g:=by
 obtain⟨m,f⟩:=Jq
 obtain⟨c,d⟩:=h
 have e:(yd k).formed prog 49=true:=by
  simp[Value.formed,yd,underlying49,zai]
 unfold keyOf
 simp only[underlying49,ziv,e,Bool.and_self,if_true]
 have:∃b,prog.keyLits (prog.types.size+1) 49 (yd k).cells.toList=Q b:=by
  rw[f]
  simp[Program.keyLits,underlying49,underlying3,yd,Value.cells,zai,Yd,ziy c,ziy d]
 obtain⟨b,a⟩:=this
 exact⟨_,by rw[a];rfl⟩
noncomputable def XD:MK Sg Unit:={P:=prog,T:=138,K:=137,E:=221,ke:=vj,ve:=fun _=> .agg #[],wf:=Sg.wf,z:=.agg #[]}
noncomputable def xO:MK Jk Tsk:={P:=prog,T:=154,K:=147,E:=162,ke:=Vi,ve:=Xp,wf:=Jk.wf,z:=.agg #[.nilIface,I O 0,I O 0,I O 0]}
noncomputable def xz:MK Tok Lse:={P:=prog,T:=153,K:=49,E:=149,ke:=yd,ve:=kZ,wf:=Tok.wf,z:=.agg #[I O 0,I O 0,I O 0,I O 0,I O 0,I O 0]}
theorem Y8:XD.Ok:=⟨Xf,underlying138,fun a h=>zaa h,fun a b h=>zcp h,fun w=>by kernel_rfl⟩
theorem yL:xO.Ok:=⟨zly,underlying154,fun a h=>zkK h,fun a b h=>zkJ h,fun w=>by kernel_rfl⟩
theorem qZ:xz.Ok:=⟨zlh,underlying153,fun a h=>zka h,fun a b h=>zgR h,fun w=>by kernel_rfl⟩
attribute [local go_sem] Oper.semAt_some
theorem yw{α:Type}{ex:Nat->Prop}{n:Nat}{w W w':Z}{f:α->Int}{a:List α}{x:α}{v:X}{t e:TypeId}{B:Nat}{u:X}(j:u=I O (wrap64 (vn (a.map f)+f x)))(hn:n<=w.1.size)
  (i1:W.1[w.1.size]?=Q (.cells #[v] t (0,0))) (i2:W.1[w.1.size+1]?=Q (.cells #[I O (vn (a.map f))] e (0,0))) (i3:R w.1.size w W) (b:R W.1.size W w'):
  KeepsFrom B W (w'.setCell ⟨w.1.size+1,0,U⟩ u)/\KX ex n (w.1.size+4) W (w'.setCell ⟨w.1.size+1,0,U⟩ u)/\((w'.setCell ⟨w.1.size+1,0,U⟩ u).1[w.1.size]?=Q (.cells #[v] t (0,0))/\(w'.setCell ⟨w.1.size+1,0,U⟩ u).1[w.1.size+1]?=Q (.cells #[I O (vn ((a++[x]).map f))] e (0,0))/\R w.1.size w (w'.setCell ⟨w.1.size+1,0,U⟩ u)):=by
 subst j
 have c:=zd i1
 have d:=zd i2
 refine⟨((qN b).trans (KeepsOthers.setCell _ _ _)).from _,(KX.of_below b).trans (KX.setCell (by omega) (by omega)),?_,?_,i3.trans ((b.mono i3.size).setCell (p:=⟨w.1.size+1,0,U⟩) (Nat.le_succ _) _)⟩
 ·have g:=(b.block _ c).trans i1
  exact(((G (w.1.size+1) w').setCell (p:=⟨w.1.size+1,0,U⟩) (Y _) (I O (wrap64 (vn (a.map f)+f x)))).block w.1.size (Nat.lt_succ_self _)).trans g
 ·have h:=(b.block _ d).trans i2
  rw[List.map_append,List.map_singleton,Xt]
  exact xm (i:=0) h _
theorem jw.later{α:Type}{ex:Nat->Prop}{n N:Nat}{P:Program}{g:Nat}{lb:Array X}{encs:α->Array X}{S:List α->Prop}{w w':Z}(h:jw ex n P g lb encs S N w)(a:R w.1.size w w'):jw ex n P g lb encs S N w':=
 fun m d l J b W c=>h m (Nat.le_trans a.size d) l J b W (a.trans (c.mono a.size))
theorem KX.lower{ex:Nat->Prop}{n n' m:Nat}{A B:Z}(h:KX ex n' m A B)(hn:n<=n'):KX ex n m A B:=⟨h.kept.mono (fun k _ e=>e.imp id (fun e=>by omega)),h.walk,h.high⟩
theorem jw.lower{α:Type}{ex:Nat->Prop}{n n' N:Nat}{P:Program}{g:Nat}{lb:Array X}{encs:α->Array X}{S:List α->Prop}{w:Z}(h:jw ex n P g lb encs S N w)(hn:n<=n'):jw ex n' P g lb encs S N w:=
 fun m b=>(h m b).keeps (fun A B a=>a.lower hn)
theorem jw.free{α:Type}{ex:Nat->Prop}{n N:Nat}{P:Program}{g:Nat}{lb:Array X}{encs:α->Array X}{S:List α->Prop}{w:Z}(h:jw ex n P g lb encs S N w):jw (fun _=>False) n P g lb encs S N w:=
 fun m b=>(h m b).keeps (fun A B a=>⟨a.kept.mono (fun k _ e=>e.elim (fun e=>e.elim) .inr),fun k o _=>a.walk k o (fun e=>e),a.high⟩)
theorem vW{α:Type}(xs:List α)(h:xs.length<=9223372036854775807):vn (xs.map (fun _=>(1:Int)))=xs.length:=by
 have e:xX (xs.map (fun _=>(1:Int)))=xs.length:=by
  induction xs with
  |nil=>rfl
  |cons x xs a=>simp only[List.map_cons,xX,List.length_cons]at*;rw[a (by omega)];omega
 rw[kO (by rw[e];omega),e]
theorem zin(gf:Nat)(lb:Array X)(eg:∀args w,(callFunc gf args).run prog w=.ok (.enter gf args) w){ex:Nat->Prop}{n N:Nat}{S:List SV->Prop}(f:SV->Int)(w:Z)(hn:n<=w.1.size)
  (L:∀(x:SV) (W:Z),R w.1.size w W->Calls prog 72 #[.agg #[I O x.st,I O x.cl.cnt,I O x.cl.sum,I i32 x.cl.mn,I i32 x.cl.mx]] W fun e W'=>e=.returned (I O (f x))/\R W.1.size W W')
  (j:jw ex n prog gf lb (fun x:SV=>#[.agg #[I O x.st,I O x.cl.cnt,I O x.cl.sum,I i32 x.cl.mn,I i32 x.cl.mx]]) S N w):
  Calls prog 70 #[.func (.func gf) #[] lb,.func (.func 72) #[] #[]] w fun e w'=>∃xs,S xs/\e=.returned (I O (vn (xs.map f)))/\R w.1.size w w':=by
 have v:=ze L
 have y:=ze j
 have a0:=ze eg
 obtain⟨b1,b2,H,bz⟩:=box2 w (.cells #[.func (.func 72) #[] #[]] 141) (.cells #[I O 0] 3)
 clear L j eg
 refine(callsIn_wide (n:=7)).1 ?_
 refine callsIn_of_wp_marks func70 rfl trivial ?_ rfl
 simp only[ntmps70,List.size_toArray,List.length_cons,List.length_nil,Nat.reduceAdd,Nat.reduceSub,Array.replicate_succ,Array.replicate_zero,List.push_toArray,List.append_toArray,List.nil_append,List.cons_append]
 have B1:=ze b1
 have B2:=ze b2
 have m:=ze H
 have BZ:=ze bz
 clear b1 b2 H bz
 gi_wp2
 obtain⟨W0,C⟩:∃W0,((w.alloc (.cells #[.func (.func 72) #[] #[]] 141)).alloc (.cells #[I O 0] 3))=W0:=⟨_,rfl⟩
 rw[C]at B1 B2 m BZ ⊢
 clear C
 have hz:W0.1.size=w.1.size+2:=ud BZ
 refine yG (F:=Fence.wide) (n:=7) rfl (by omega) (gf:=gf) (lb:=lb) rfl trivial (ud a0) (ud y (w.1.size+4) (by omega)) (by omega) (fun h k=>h.trans k) (fun W o o' h hc hw=>KX.putObj o' (by omega) (by omega) h hw) (ud m) (fun _=>rfl)
  (fun b W=>W.1[w.1.size]?=Q (.cells #[.func (.func 72) #[] #[]] 141 (0,0))/\W.1[w.1.size+1]?=Q (.cells #[I O (vn (b.map f))] 3 (0,0))/\R w.1.size w W)
  (fun _ _ _=>False)
  (fun s A B row i J t=>⟨zG i.1 J (fun r e=>(t r e).2),zG i.2.1 J (fun r e=>(t r e).2),i.2.2.grown J (i.2.2.size) (fun k e=>by have:=(t k e).1;omega)⟩)
  (fun _ _ _ _ _ i _ _=>i)
  ⟨ud B1,ud B2,ud m⟩
  (fun x a' W=>∃q,w.1.size+2<=q/\W.1[q]?=Q (.cells #[I O x.st,I O x.cl.cnt,I O x.cl.sum,I i32 x.cl.mn,I i32 x.cl.mx] 131 (0,0))/\a'={tmps:=#[.func (.func gf) #[] lb,.func (.func 72) #[] #[],undef,.pointer (Q ⟨w.1.size,0,U⟩),I O 0,.pointer (Q ⟨w.1.size+1,0,U⟩),.pointer (Q ⟨q,0,U⟩),.func (.func gf) #[] lb,.agg #[I O x.st,I O x.cl.cnt,I O x.cl.sum,I i32 x.cl.mn,I i32 x.cl.mx],undef,undef,undef,undef,undef,undef],defers:=[]})
  (fun x a' s A B row i J t=>by
   obtain⟨q,h1,h2,h3⟩:=i
   exact⟨q,h1,zG h2 J (fun r e=>(t r e).2),h3⟩) ?assign ?body ?done ?stop
 case assign=>
  rintro l b x W K ⟨i1,i2,i3⟩ z
  have P:=i3.size
  have a3:=zd i2
  have HK:=ze z
  clear z
  gi_wp2
  have E:=(G W.1.size W).alloc (Y _) (.cells #[I O x.st,I O x.cl.cnt,I O x.cl.sum,I i32 x.cl.mn,I i32 x.cl.mx] 131)
  refine ud HK _ _ (zu E) (KX.of_below E) ⟨(Below.heap_alloc _ _ _ (by omega)).trans i1,(Below.heap_alloc _ _ _ (by omega)).trans i2,i3.alloc P _⟩ ⟨W.1.size,by omega,zo _ _,rfl⟩
 case body=>
  rintro l b x a' W hl ⟨r,t⟩ ⟨i1,i2,i3⟩ ⟨q,a1,T,rfl⟩ a4
  have P:=i3.size
  have a2:=zd T
  have M:=zd i2
  obtain⟨c1,-⟩:=zc i1
  obtain⟨c2,-⟩:=zc i2
  have f2:W.frozen? ⟨w.1.size+1,0,U⟩=false:=zD i2 0
  obtain⟨x0,x1,x2,x3,x4,-⟩:=zc T
  have HI:=ze i2
  have u:=ze i1
  have d:=ze i3
  have HX:=ze T
  have a5:prog.follows .mixedOrders=true:=by kernel_rfl
  have HC:=ze (ud v x W i3)
  have V:=ze (ud v x W.drew i3.drew)
  clear i1 i2 i3 T
  gi_wp2
  gi_region_with_o (refine⟨trivial,?_⟩;gi_at_call 72;(first|refine(CallsIn.inRound l (callsIn_wide.2 (ud HC))).mono ?_|refine(CallsIn.inRound l (callsIn_wide.2 (ud V))).mono ?_);rintro e w' ⟨rfl,g⟩;have d2:w'.cell? ⟨w.1.size+1,0,U⟩=Q (I O (vn (b.map f))):=(g.cell (p:=⟨w.1.size+1,0,U⟩) M).trans c2;have e2:w'.frozen? ⟨w.1.size+1,0,U⟩=false:=zD ((g.block _ M).trans (ud HI)) 0;have a:=ze g;clear g)
  all_goals gi_wp2
  all_goals(try go_bits)
  all_goals(first|(rw[hz];exact yw (x:=x) rfl hn (ud u) (ud HI) (ud d) ⟨(ud a).os,(ud a).tape,(ud a).output,(ud a).size,(ud a).block⟩)|exact yw (x:=x) rfl hn (ud u) (ud HI) (ud d) ⟨(ud a).os,(ud a).tape,(ud a).output,(ud a).size,(ud a).block⟩)
 case done=>
  rintro D xs W hD hS ⟨i1,i2,i3⟩ z
  obtain⟨c2,-⟩:=zc i2
  have d:=ze i3
  clear i1 i2 i3
  gi_wp2
  refine⟨by simp,.inl ⟨_,_,rfl,run_takeDeferred z,?_⟩⟩
  exact⟨_,results_tmp rfl _ _ _,xs,hS,rfl,xD (ud d) (Y _) (by omega) z _⟩
 case stop=>
  rintro D c b W _ _ h _
  exact h.elim
noncomputable def vD:MK Sg SV:={P:=prog,T:=135,K:=137,E:=131,ke:=vj,ve:=vs,wf:=Sg.wf,z:=vs ⟨0,qP⟩}
theorem Yk:vD.Ok:=⟨Xf,underlying135,fun a h=>zaa h,fun a b h=>zcp h,fun w=>by kernel_rfl⟩
theorem yW{w:Z}{b:Nat}{L:LV}:yj w b L↔xh vD w b L:=
 ⟨fun⟨c,a,h,e⟩=>⟨c,a,h,⟨e.kv,e.born,e.once,e.wf,e.nodup,e.size⟩⟩,fun⟨c,a,h,e⟩=>⟨c,a,h,⟨e.kv,e.born,e.once,e.wf,e.nodup,e.size⟩⟩⟩
section
variable {α β:Type} [Inhabited α] [Inhabited β] {M:MK α β}
noncomputable def vK (M:MK α β) (L:List (α×β)) (e:MapEntry):α×β:=by
 classical exact if h:∃p∈L,e.key=M.ke p.1/\e.val=M.ve p.2 then h.choose else default
theorem ziC(ok:M.Ok){L:List (α×β)}(hn:(zv L).Nodup){e:MapEntry}{p:α×β}(o:p∈L)(l:e.key=M.ke p.1)(q:e.val=M.ve p.2):vK M L e=p:=by
 unfold vK
 have h:∃p∈L,e.key=M.ke p.1/\e.val=M.ve p.2:=⟨p,o,l,q⟩
 rw[dif_pos h]
 obtain⟨s,r,_⟩:=h.choose_spec
 have k:h.choose.1=p.1:=ok.inj _ _ (r.symm.trans l)
 have d:L.Pairwise (fun a b=>a.1≠b.1):=List.pairwise_map.1 hn
 obtain⟨i,m,f⟩:=List.getElem_of_mem s
 obtain⟨j,n,g⟩:=List.getElem_of_mem o
 rcases Nat.lt_trichotomy i j with c|c|c
 ·have:=List.pairwise_iff_getElem.1 d i j m n c;rw[f,g]at this;exact absurd k this
 ·subst c;rw[<-f,g]
 ·have:=List.pairwise_iff_getElem.1 d j i n m c;rw[f,g]at this;exact absurd k.symm this
theorem XY(ok:M.Ok){c:Array MapEntry}{a:Nat}{L:List (α×β)}(g:vA M c a L){e:MapEntry}(h:e∈c.toList):vK M L e∈L/\e.key=M.ke (vK M L e).1/\e.val=M.ve (vK M L e).2:=by
 obtain⟨i,j⟩:=List.mem_iff_getElem?.1 h
 obtain⟨p,k,d,f⟩:=g.at j
 have b:=List.mem_of_getElem? k
 rw[ziC ok g.nodup b d f]
 exact⟨b,d,f⟩
theorem zjf(ok:M.Ok){b:Array MapEntry}{a:Nat}{L:List (α×β)}(d:vA M b a L):b.toList.map (vK M L)=L:=by
 apply List.ext_getElem?
 intro i
 rw[List.getElem?_map]
 cases h:b.toList[i]? with
 |none=>
  have c:b.toList.length<=i:=List.getElem?_eq_none_iff.1 h
  have f:=d.count
  rw[List.getElem?_eq_none (by simp at c;omega)];rfl
 |some e=>
  obtain⟨p,g,c,f⟩:=d.at h
  rw[g,Option.map_some,ziC ok d.nodup (List.mem_of_getElem? g) c f]
theorem X9(ok:M.Ok){b:Array MapEntry}{a:Nat}{L:List (α×β)}(c:vA M b a L){ps:List MapEntry}(d:ps.Perm b.toList):(ps.map (vK M L)).Perm L:=by
 have:=d.map (vK M L)
 rwa[zjf ok c]at this
end
instance:Inhabited SV:=⟨⟨0,qP⟩⟩
instance:Inhabited Lse:=⟨⟨0,⟨0,0,0⟩,0,0⟩⟩
instance:Inhabited Tsk:=⟨⟨true,⟨0,0,0⟩,0,0,0⟩⟩
instance:Inhabited Jk:=⟨⟨0,⟨0,0,0⟩⟩⟩
instance:Inhabited Tok:=⟨⟨0,0⟩⟩
instance:Inhabited Sg:=⟨⟨0,0,0⟩⟩
end Go.Proofs.YtpbimdkclnekeaaGreat
