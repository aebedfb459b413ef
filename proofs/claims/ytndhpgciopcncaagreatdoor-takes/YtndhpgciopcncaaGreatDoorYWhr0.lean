import Derived.Test.YtndhpgciopcncaaGreatDoorYSeq0
open Go.Value renaming int → I
open Go.IntKind renaming i64 → O
open Option renaming some → Q
open Option renaming none → U
open Nat renaming le_refl → Y
open Go renaming Value → Z
open Go renaming World → X
open Go.RowKit renaming Below → G
open Go.RowKit.Below renaming refl → R
open Go.IntKind (i32)
set_option linter.unusedVariables false
set_option maxRecDepth 100000
set_option maxHeartbeats 2000000
open Go.Proofs.Tryz
namespace Go.Proofs.YtndhpgciopcncaaGreatDoor
open Go.ChangeMaps (setBlock)
open Go.RowKit Go.Maps Go.Shelf
attribute [local go_sem] Oper.semAt_some
structure Lse where
 kd:Int
 s:Sg
 slot:Int
 til:Int
structure Tsk where
 rl:Bool
 s:Sg
 si:Int
 tc:Int
 rest:Int
def Tsk.jt(x:Tsk):TypeId:=if x.rl then 195 else 197
theorem zcu{W a:X}(h:G W.1.size W a):W.grownBy a U:=⟨h.os,h.tape,h.output,h.size,fun k b _=>h.block k b⟩
theorem xr{β:Type}{B:Nat}{J:β->X->Prop}(h:OwnFrom B J){s:β}{W a:X}(c:J s W)(b:G W.1.size W a):J s a:=h s W a U c (zcu b) (fun r e=>by cases e)
theorem vG{α:Type}{p:α->Bool}{l:List α}{x:α}(h:p x=true):(l++[x]).filter p=l.filter p++[x]:=by simp[h]
theorem vd{α:Type}{p:α->Bool}{l:List α}{x:α}(h:p x=false):(l++[x]).filter p=l.filter p:=by simp[h]
theorem v7{α:Type}(p:α->Bool)(l:List α):(l.filter p).length<=l.length:=List.length_filter_le _ _
theorem xV{ex:Nat->Prop}{n m:Nat}{A B:X}(h:KX ex n m A B){k:Nat}{o:Obj}(a:A.1[k]?=Q o)(b:k<n)(c:¬ex k):B.1[k]?=Q o:=(h.low b c (zb a)).trans a
theorem zw{B:Nat}{W a:X}(h:G W.1.size W a):KeepsFrom B W a:=(yu h).from B
theorem zfR(gf:Nat)(lb:Array Z)(eg:∀args w,(callFunc gf args).run prog w=.ok (.enter gf args) w)(hf:Nat)(ai hc:Array Z)(eh:∀args w,(callFunc hf args).run prog w=.ok (.enter hf args) w){ex:Nat->Prop}{n N:Nat}{S:List SX->Prop}(p:SX->Bool)(Bl Bh:Nat)(w:X)(hn:n<=w.1.size)
  (aH:Bl<n/\¬ex Bl) (ak:Bh<n/\¬ex Bh) (c1:w.1[Bl]?=Q (.cells #[.func (.func gf) #[] lb] 150 (0,0))) (c2:w.1[Bh]?=Q (.cells #[.func (.func hf) ai hc] 158 (0,0)))
  (al:∀(x:SX) (W:X),(∃m,KX ex n m w W)->Calls prog hf (ai++#[.agg #[I O x.1.t,I O x.1.se,I O x.1.wn,I O x.2.st,I O x.2.cl.cnt,I O x.2.cl.sum,I i32 x.2.cl.mn,I i32 x.2.cl.mx]]++hc) W fun e W'=>e=.returned (.bool (p x))/\G W.1.size W W')
  (M:jW ex n prog gf lb (fun x:SX=>#[.agg #[I O x.1.t,I O x.1.se,I O x.1.wn,I O x.2.st,I O x.2.cl.cnt,I O x.2.cl.sum,I i32 x.2.cl.mn,I i32 x.2.cl.mx]]) S N w):
  jW ex n prog 225 #[.pointer (Q ⟨Bl,0,U⟩),.pointer (Q ⟨Bh,0,U⟩)] (fun x:SX=>#[.agg #[I O x.1.t,I O x.1.se,I O x.1.wn,I O x.2.st,I O x.2.cl.cnt,I O x.2.cl.sum,I i32 x.2.cl.mn,I i32 x.2.cl.mx]]) (fun ys=>∃xs,S xs/\ys=xs.filter p) N w:=by
 intro m hm l J Jx C hW aK hJ af hY h0
 have d1:=(hW.block Bl (zb c1)).trans c1
 have d2:=(hW.block Bh (zb c2)).trans c2
 obtain⟨e1,-⟩:=zc d1
 have aJ:=zb d1
 have an:=hW.size
 have ax:=zd al
 have ab:=zd M
 have av:=zd eg
 have aw:=zd eh
 have au:=zd c2
 have HJ:=zd hJ
 have a8:=zd af
 have HY:=zd hY
 have a:G C.1.size C (C.alloc (.cells #[.func (.yield l) #[] #[]] 158)):=(R _ _).alloc (Y _) _
 have aq:=zr C (.cells #[.func (.yield l) #[] #[]] 158)
 have am:=zG C (.cells #[.func (.yield l) #[] #[]] 158)
 have v:=xr hJ h0 a
 have aj:KX ex n m w (C.alloc (.cells #[.func (.yield l) #[] #[]] 158)):=KX.of_below (hW.trans (a.mono an))
 have ah:=hW.trans (a.mono an)
 have HB:=zd ah
 have a9:=zd aj
 have ad:=zd aq
 have ac:=zd am
 have a7:=zd v
 clear al M eg eh hJ af hY h0 d1 d2 a aq am v aj c2 ah
 refine callsIn_wide.2 ((callsIn_wide (n:=7)).1 ?_)
 refine callsIn_of_wp_marks func225 rfl trivial ?_ rfl
 simp only[ntmps225,List.size_toArray,List.length_cons,List.length_nil,Nat.reduceAdd,Nat.reduceSub,Array.replicate_succ,Array.replicate_zero,List.push_toArray,List.append_toArray,List.nil_append,List.cons_append]
 gi_wp2
 obtain⟨u,ag⟩:∃u,(C.alloc (.cells #[.func (.yield l) #[] #[]] 158))=u:=⟨_,rfl⟩
 rw[ag]at a9 ad ac a7 HB ⊢
 clear ag
 have hz:u.1.size=C.1.size+1:=ud ac
 refine yM (F:=Fence.wide) (n:=7) rfl (by omega) (gf:=gf) (lb:=lb) rfl trivial (ud av) (ud ab (u.1.size+2) (by omega)) (Y _) (fun h k=>h.trans k) (fun W o o' h hc hw=>KX.putObj o' (by omega) (by omega) h hw) (ud HB) (fun _=>rfl)
  (fun g W=>J (g.filter p) W/\KX ex n (u.1.size+2) w W/\W.1[C.1.size]?=Q (.cells #[.func (.yield l) #[] #[]] 158 (0,0)))
  (fun c g W=>c=.ret/\∃q,Jx q W)
  (fun s A B row L hg j=>⟨ud HJ _ A B row L.1 hg (fun r e=>⟨by have:=(j r e).1;omega,(j r e).2⟩),KX.own (β:=Unit) (q:=u.1.size) (by omega) () A B row L.2.1 hg j,zI L.2.2 hg (fun r e=>(j r e).2)⟩)
  (fun c s A B row L hg j=>⟨L.1,by obtain⟨q,hq⟩:=L.2;exact⟨q,ud a8 q A B row hq hg (fun r e=>⟨by have:=(j r e).1;omega,(j r e).2⟩)⟩⟩)
  ⟨ud a7,(ud a9).wider (by omega),ud ad⟩
  (fun x a' W=>∃Bx,u.1.size<=Bx/\W.1[Bx]?=Q (.cells #[I O x.1.t,I O x.1.se,I O x.1.wn,I O x.2.st,I O x.2.cl.cnt,I O x.2.cl.sum,I i32 x.2.cl.mn,I i32 x.2.cl.mx] 148 (0,0))/\a'={tmps:=#[.func (.yield l) #[] #[],.pointer (Q ⟨Bl,0,U⟩),.pointer (Q ⟨Bh,0,U⟩),.pointer (Q ⟨C.1.size,0,U⟩),.pointer (Q ⟨Bx,0,U⟩),.func (.func gf) #[] lb,.agg #[I O x.1.t,I O x.1.se,I O x.1.wn,I O x.2.st,I O x.2.cl.cnt,I O x.2.cl.sum,I i32 x.2.cl.mn,I i32 x.2.cl.mx],undef,undef,undef,undef,undef,undef,undef,undef,undef],defers:=[]})
  (fun x a' s A B row L hg j=>by
   obtain⟨Bx,h1,h2,h3⟩:=L
   exact⟨Bx,h1,zI h2 hg (fun r e=>(j r e).2),h3⟩) ?assign ?body ?done ?stop
 case assign=>
  rintro l' g x W K ⟨i1,i2,i3⟩ H
  have aB:=zb i3
  have aC:=i2.kept.size
  have HK:=zd H
  clear H
  gi_wp2
  have y:=(R W.1.size W).alloc (Y _) (.cells #[I O x.1.t,I O x.1.se,I O x.1.wn,I O x.2.st,I O x.2.cl.cnt,I O x.2.cl.sum,I i32 x.2.cl.mn,I i32 x.2.cl.mx] 148)
  refine ud HK _ _ (zw y) (KX.of_below y) ⟨xr (ud HJ) i1 y,i2.trans (KX.of_below y),(y.block _ aB).trans i3⟩ ⟨W.1.size,by omega,zr _ _,rfl⟩
 case body=>
  rintro l' g x a' W hl ⟨r,j⟩ ⟨i1,i2,i3⟩ ⟨Bx,aG,hx,rfl⟩ aE
  have aC:=i2.kept.size
  have aA:=zb hx
  have ar:=zb i3
  have a0:=xV i2 (ud au) ak.1 ak.2
  have aD:=zb a0
  obtain⟨c1,-⟩:=zc a0
  obtain⟨x0,x1,x2,x3,x4,x5,x6,x7,-⟩:=zc hx
  have HC:=zd (ud ax x W ⟨_,i2⟩)
  have a4:=zd i1
  have a5:=zd i2
  have a6:=zd i3
  have HX:=zd hx
  have aF:=zd j
  have aI:=v7 p g
  have az:=ud aw
  clear i1 i2 i3 hx j a0
  obtain⟨bx,a1⟩:∃bx,p x=bx:=⟨_,rfl⟩
  rw[a1]at HC
  have aa:=zd a1
  clear a1
  cases bx with
  |false=>
   gi_wp2
   refine⟨trivial,(CallsIn.inRound l' (callsIn_wide.2 (ud HC))).mono ?_⟩
   rintro e W1 ⟨rfl,a⟩
   have b:=zd a
   clear a
   gi_wp2
   refine⟨fun _ h=>(by cases h),?_⟩
   gi_wp2
   exact⟨zw (ud b),KX.of_below (ud b),by rw[vd (ud aa)];exact xr (ud HJ) (ud a4) (ud b),(ud a5).trans (KX.of_below (ud b)),((ud b).block _ ar).trans (ud a6)⟩
  |true=>
   gi_wp2
   refine⟨trivial,(CallsIn.inRound l' (callsIn_wide.2 (ud HC))).mono ?_⟩
   rintro e W1 ⟨rfl,a⟩
   have ao:=(a.block _ aA).trans (ud HX)
   have a2:=(a.block _ ar).trans (ud a6)
   obtain⟨y0,-⟩:=zc a2
   obtain⟨z0,z1,z2,z3,z4,z5,z6,z7,-⟩:=zc ao
   have a3:=zd a2
   have b:=zd a
   have v:=xr (ud HJ) (ud a4) a
   obtain⟨fn,tmps,assign,body,hy,hR⟩:=jE (m':=4) rfl (ud HY (g.filter p) x W1 v (by omega))
   have aL:=a.size
   clear a ao a2 v
   gi_wp2
   refine RoundIn.mono (F:=Fence.wide.inRound l') hR ?_
   rintro e W2 (⟨rfl,ae,f⟩|⟨rfl,E,f⟩)
   ·have d:KX ex n (u.1.size+2) W W2:=(KX.of_below (ud b)).trans (f.wider (by omega))
    have z:KeepsFrom u.1.size W W2:=(zw (ud b)).trans (f.from (by omega))
    have ap:=f.high _ _ (by omega) (fun⟨_,_,e⟩=>by cases e) (ud a3)
    have i:=zd d
    have V:=zd z
    have ay:=zd ap
    have P:=zd ae
    clear d z ap ae f
    gi_wp2
    exact⟨ud V,ud i,by rw[vG (ud aa)];exact ud P,(ud a5).trans (ud i),ud ay⟩
   ·have d:KX ex n (u.1.size+2) W W2:=(KX.of_below (ud b)).trans (f.wider (by omega))
    have z:KeepsFrom u.1.size W W2:=(zw (ud b)).trans (f.from (by omega))
    have i:=zd d
    have V:=zd z
    have P:=zd E
    clear d z E f
    gi_wp2
    exact⟨ud V,ud i,rfl,_,ud P⟩
 case done=>
  rintro D xs W hD hS ⟨i1,i2,i3⟩ H
  have T:=zd (OwnFrom.putObj (ud HJ) (.deferred U) i1 (by omega) H rfl)
  clear i1 i2 i3
  gi_wp2
  refine⟨by simp,.inl ⟨_,_,rfl,run_takeDeferred H,?_⟩⟩
  exact⟨_,results_none rfl _ _ _,⟨_,rfl⟩,.inl ⟨_,⟨xs,hS,rfl⟩,ud T⟩⟩
 case stop=>
  rintro D c g W hD hS ⟨rfl,q,hq⟩ H
  have T:=zd (OwnFrom.putObj (ud a8) (.deferred U) hq (by omega) H rfl)
  clear hq
  gi_wp2
  refine⟨by simp,.inl ⟨_,_,rfl,run_takeDeferred H,?_⟩⟩
  exact⟨_,results_none rfl _ _ _,⟨_,rfl⟩,.inr ⟨_,trivial,ud T⟩⟩
theorem jj{α:Type}(d:α->Sg)(gf:Nat)(lb:Array Z)(eg:∀args w,(callFunc gf args).run prog w=.ok (.enter gf args) w)(hf:Nat)(aj hc:Array Z)(eh:∀args w,(callFunc hf args).run prog w=.ok (.enter hf args) w){ex:Nat->Prop}{n N:Nat}{S:List α->Prop}(p:α->Bool)(Bl Bh:Nat)(w:X)(hn:n<=w.1.size)
  (aI:Bl<n/\¬ex Bl) (al:Bh<n/\¬ex Bh) (c1:w.1[Bl]?=Q (.cells #[.func (.func gf) #[] lb] 199 (0,0))) (c2:w.1[Bh]?=Q (.cells #[.func (.func hf) aj hc] 206 (0,0)))
  (am:∀(x:α) (W:X),(∃m,KX ex n m w W)->Calls prog hf (aj++#[.agg #[I O (d x).t,I O (d x).se,I O (d x).wn]]++hc) W fun e W'=>e=.returned (.bool (p x))/\G W.1.size W W')
  (P:jW ex n prog gf lb (fun x:α=>#[.agg #[I O (d x).t,I O (d x).se,I O (d x).wn]]) S N w):
  jW ex n prog 194 #[.pointer (Q ⟨Bl,0,U⟩),.pointer (Q ⟨Bh,0,U⟩)] (fun x:α=>#[.agg #[I O (d x).t,I O (d x).se,I O (d x).wn]]) (fun ys=>∃xs,S xs/\ys=xs.filter p) N w:=by
 intro m hm l J Jx E hW aL hJ ag hY h0
 have d1:=(hW.block Bl (zb c1)).trans c1
 have d2:=(hW.block Bh (zb c2)).trans c2
 obtain⟨e1,-⟩:=zc d1
 have aK:=zb d1
 have ao:=hW.size
 have ay:=zd am
 have ac:=zd P
 have aw:=zd eg
 have ax:=zd eh
 have av:=zd c2
 have HJ:=zd hJ
 have a9:=zd ag
 have HY:=zd hY
 have a:G E.1.size E (E.alloc (.cells #[.func (.yield l) #[] #[]] 206)):=(R _ _).alloc (Y _) _
 have ar:=zr E (.cells #[.func (.yield l) #[] #[]] 206)
 have an:=zG E (.cells #[.func (.yield l) #[] #[]] 206)
 have y:=xr hJ h0 a
 have ak:KX ex n m w (E.alloc (.cells #[.func (.yield l) #[] #[]] 206)):=KX.of_below (hW.trans (a.mono ao))
 have ai:=hW.trans (a.mono ao)
 have HB:=zd ai
 have aa:=zd ak
 have ae:=zd ar
 have ad:=zd an
 have a8:=zd y
 clear am P eg eh hJ ag hY h0 d1 d2 a ar an y ak c2 ai
 refine callsIn_wide.2 ((callsIn_wide (n:=7)).1 ?_)
 refine callsIn_of_wp_marks func194 rfl trivial ?_ rfl
 simp only[ntmps194,List.size_toArray,List.length_cons,List.length_nil,Nat.reduceAdd,Nat.reduceSub,Array.replicate_succ,Array.replicate_zero,List.push_toArray,List.append_toArray,List.nil_append,List.cons_append]
 gi_wp2
 obtain⟨v,ah⟩:∃v,(E.alloc (.cells #[.func (.yield l) #[] #[]] 206))=v:=⟨_,rfl⟩
 rw[ah]at aa ae ad a8 HB ⊢
 clear ah
 have hz:v.1.size=E.1.size+1:=ud ad
 refine yM (F:=Fence.wide) (n:=7) rfl (by omega) (gf:=gf) (lb:=lb) rfl trivial (ud aw) (ud ac (v.1.size+2) (by omega)) (Y _) (fun h k=>h.trans k) (fun W o o' h hc hw=>KX.putObj o' (by omega) (by omega) h hw) (ud HB) (fun _=>rfl)
  (fun i W=>J (i.filter p) W/\KX ex n (v.1.size+2) w W/\W.1[E.1.size]?=Q (.cells #[.func (.yield l) #[] #[]] 206 (0,0)))
  (fun c i W=>c=.ret/\∃q,Jx q W)
  (fun s A B row M hg u=>⟨ud HJ _ A B row M.1 hg (fun r e=>⟨by have:=(u r e).1;omega,(u r e).2⟩),KX.own (β:=Unit) (q:=v.1.size) (by omega) () A B row M.2.1 hg u,zI M.2.2 hg (fun r e=>(u r e).2)⟩)
  (fun c s A B row M hg u=>⟨M.1,by obtain⟨q,hq⟩:=M.2;exact⟨q,ud a9 q A B row hq hg (fun r e=>⟨by have:=(u r e).1;omega,(u r e).2⟩)⟩⟩)
  ⟨ud a8,(ud aa).wider (by omega),ud ae⟩
  (fun x a' W=>∃Bx,v.1.size<=Bx/\W.1[Bx]?=Q (.cells #[I O (d x).t,I O (d x).se,I O (d x).wn] 146 (0,0))/\a'={tmps:=#[.func (.yield l) #[] #[],.pointer (Q ⟨Bl,0,U⟩),.pointer (Q ⟨Bh,0,U⟩),.pointer (Q ⟨E.1.size,0,U⟩),.pointer (Q ⟨Bx,0,U⟩),.func (.func gf) #[] lb,.agg #[I O (d x).t,I O (d x).se,I O (d x).wn],undef,undef,undef,undef,undef,undef,undef,undef,undef],defers:=[]})
  (fun x a' s A B row M hg u=>by
   obtain⟨Bx,h1,h2,h3⟩:=M
   exact⟨Bx,h1,zI h2 hg (fun r e=>(u r e).2),h3⟩) ?assign ?body ?done ?stop
 case assign=>
  rintro l' i x W K ⟨i1,i2,i3⟩ L
  have aC:=zb i3
  have aD:=i2.kept.size
  have HK:=zd L
  clear L
  gi_wp2
  have z:=(R W.1.size W).alloc (Y _) (.cells #[I O (d x).t,I O (d x).se,I O (d x).wn] 146)
  refine ud HK _ _ (zw z) (KX.of_below z) ⟨xr (ud HJ) i1 z,i2.trans (KX.of_below z),(z.block _ aC).trans i3⟩ ⟨W.1.size,by omega,zr _ _,rfl⟩
 case body=>
  rintro l' i x a' W hl ⟨r,u⟩ ⟨i1,i2,i3⟩ ⟨Bx,aH,hx,rfl⟩ aF
  have aD:=i2.kept.size
  have aB:=zb hx
  have au:=zb i3
  have a1:=xV i2 (ud av) al.1 al.2
  have aE:=zb a1
  obtain⟨c1,-⟩:=zc a1
  obtain⟨x0,x1,x2,-⟩:=zc hx
  have HC:=zd (ud ay x W ⟨_,i2⟩)
  have a5:=zd i1
  have a6:=zd i2
  have a7:=zd i3
  have HX:=zd hx
  have aG:=zd u
  have aJ:=v7 p i
  have aA:=ud ax
  clear i1 i2 i3 hx u a1
  obtain⟨bx,a2⟩:∃bx,p x=bx:=⟨_,rfl⟩
  rw[a2]at HC
  have ab:=zd a2
  clear a2
  cases bx with
  |false=>
   gi_wp2
   refine⟨trivial,(CallsIn.inRound l' (callsIn_wide.2 (ud HC))).mono ?_⟩
   rintro e W1 ⟨rfl,a⟩
   have b:=zd a
   clear a
   gi_wp2
   refine⟨fun _ h=>(by cases h),?_⟩
   gi_wp2
   exact⟨zw (ud b),KX.of_below (ud b),by rw[vd (ud ab)];exact xr (ud HJ) (ud a5) (ud b),(ud a6).trans (KX.of_below (ud b)),((ud b).block _ au).trans (ud a7)⟩
  |true=>
   gi_wp2
   refine⟨trivial,(CallsIn.inRound l' (callsIn_wide.2 (ud HC))).mono ?_⟩
   rintro e W1 ⟨rfl,a⟩
   have ap:=(a.block _ aB).trans (ud HX)
   have a3:=(a.block _ au).trans (ud a7)
   obtain⟨y0,-⟩:=zc a3
   obtain⟨z0,z1,z2,-⟩:=zc ap
   have a4:=zd a3
   have b:=zd a
   have y:=xr (ud HJ) (ud a5) a
   obtain⟨fn,tmps,assign,body,hy,hR⟩:=jE (m':=4) rfl (ud HY (i.filter p) x W1 y (by omega))
   have aM:=a.size
   clear a ap a3 y
   gi_wp2
   refine RoundIn.mono (F:=Fence.wide.inRound l') hR ?_
   rintro e W2 (⟨rfl,af,g⟩|⟨rfl,H,g⟩)
   ·have f:KX ex n (v.1.size+2) W W2:=(KX.of_below (ud b)).trans (g.wider (by omega))
    have C:KeepsFrom v.1.size W W2:=(zw (ud b)).trans (g.from (by omega))
    have aq:=g.high _ _ (by omega) (fun⟨_,_,e⟩=>by cases e) (ud a4)
    have j:=zd f
    have a0:=zd C
    have az:=zd aq
    have T:=zd af
    clear f C aq af g
    gi_wp2
    exact⟨ud a0,ud j,by rw[vG (ud ab)];exact ud T,(ud a6).trans (ud j),ud az⟩
   ·have f:KX ex n (v.1.size+2) W W2:=(KX.of_below (ud b)).trans (g.wider (by omega))
    have C:KeepsFrom v.1.size W W2:=(zw (ud b)).trans (g.from (by omega))
    have j:=zd f
    have a0:=zd C
    have T:=zd H
    clear f C H g
    gi_wp2
    exact⟨ud a0,ud j,rfl,_,ud T⟩
 case done=>
  rintro D xs W hD hS ⟨i1,i2,i3⟩ L
  have V:=zd (OwnFrom.putObj (ud HJ) (.deferred U) i1 (by omega) L rfl)
  clear i1 i2 i3
  gi_wp2
  refine⟨by simp,.inl ⟨_,_,rfl,run_takeDeferred L,?_⟩⟩
  exact⟨_,results_none rfl _ _ _,⟨_,rfl⟩,.inl ⟨_,⟨xs,hS,rfl⟩,ud V⟩⟩
 case stop=>
  rintro D c i W hD hS ⟨rfl,q,hq⟩ L
  have V:=zd (OwnFrom.putObj (ud a9) (.deferred U) hq (by omega) L rfl)
  clear hq
  gi_wp2
  refine⟨by simp,.inl ⟨_,_,rfl,run_takeDeferred L,?_⟩⟩
  exact⟨_,results_none rfl _ _ _,⟨_,rfl⟩,.inr ⟨_,trivial,ud V⟩⟩
structure Jk where
 kd:Int
 s:Sg
deriving DecidableEq
structure Tok where
 ep:Int
 num:Int
deriving DecidableEq
def Jk.wf(k:Jk):Prop:=xR k.kd/\k.s.wf
def Tok.wf(k:Tok):Prop:=xR k.ep/\xR k.num
def KL(k:Jk):Z:=.agg #[I O k.kd,I O k.s.t,I O k.s.se,I O k.s.wn]
def yQ(k:Tok):Z:=.agg #[I O k.ep,I O k.num]
def ZC(x:Lse):Z:=.agg #[I O x.kd,I O x.s.t,I O x.s.se,I O x.s.wn,I O x.slot,I O x.til]
def zcc(x:Tsk):Z:=.agg #[.iface x.jt (.agg #[I O x.s.t,I O x.s.se,I O x.s.wn]),I O x.si,I O x.tc,I O x.rest]
theorem zkA:(162:TypeId)<prog.types.size:=of_decide_eq_true (by kernel_rfl)
theorem zkz:Keyed prog 162:=Keyed.of_law (deep_law_laid Tryz.laidOut (m:=3) (Nat.le_of_ble_eq_true rfl) zkA (by kernel_rfl) (by kernel_rfl))
theorem zkj:(49:TypeId)<prog.types.size:=of_decide_eq_true (by kernel_rfl)
theorem zki:Keyed prog 49:=Keyed.of_law (deep_law_laid Tryz.laidOut (m:=2) (Nat.le_of_ble_eq_true rfl) zkj (by kernel_rfl) (by kernel_rfl))
theorem zbt:prog.cellsOf 162=4:=by kernel_rfl
theorem Jv:prog.cellsOf 49=2:=by kernel_rfl
theorem ziw:prog.keyType 162=true:=by kernel_rfl
theorem zhx:prog.keyType 49=true:=by kernel_rfl
theorem zjP{a b:Jk}(h:KL a=KL b):a=b:=by
 unfold KL at h
 injection h with h
 injection h with h
 injection h with c h
 injection h with d h
 injection h with e h
 injection h with f h
 injection c with _ c
 injection d with _ d
 injection e with _ e
 injection f with _ f
 obtain⟨_,_,_,_⟩:=a;obtain⟨_,_,_,_⟩:=b;simp at*;exact⟨c,d,e,f⟩
theorem zjl{a b:Tok}(h:yQ a=yQ b):a=b:=by
 unfold yQ at h
 injection h with h
 injection h with h
 injection h with c h
 injection h with d h
 injection c with _ c
 injection d with _ d
 cases a;cases b;simp at*;exact⟨c,d⟩
theorem VP:∃m,prog.types.size=m+2:=by
 have h:1<prog.types.size:=of_decide_eq_true (by kernel_rfl)
 exact⟨prog.types.size-2,by omega⟩
theorem zjQ{k:Jk}(h:k.wf):∃n,keyOf prog 162 (KL k)=Q n:=by
 obtain⟨m,l⟩:=VP
 obtain⟨c,d,e,f⟩:=h
 have g:(KL k).formed prog 162=true:=by
  simp[Value.formed,KL,underlying162,zbt]
 unfold keyOf
 simp only[underlying162,ziw,g,Bool.and_self,if_true]
 have:∃b,prog.keyLits (prog.types.size+1) 162 (KL k).cells.toList=Q b:=by
  rw[l]
  simp[Program.keyLits,underlying162,underlying146,underlying3,KL,Value.cells,zbt,QD,Qz,zhB c,zhB d,zhB e,zhB f]
  rw[if_pos (fun i j=>by match i,j with|0,_=>simp|1,_=>simp|2,_=>simp)]
  exact⟨_,rfl⟩
 obtain⟨b,a⟩:=this
 exact⟨_,by rw[a];rfl⟩
theorem zjm{k:Tok}(h:k.wf):∃g,keyOf prog 49 (yQ k)=Q g:=by
 obtain⟨m,f⟩:=VP
 obtain⟨c,d⟩:=h
 have e:(yQ k).formed prog 49=true:=by
  simp[Value.formed,yQ,underlying49,Jv]
 unfold keyOf
 simp only[underlying49,zhx,e,Bool.and_self,if_true]
 have:∃b,prog.keyLits (prog.types.size+1) 49 (yQ k).cells.toList=Q b:=by
  rw[f]
  simp[Program.keyLits,underlying49,underlying3,yQ,Value.cells,Jv,Qz,zhB c,zhB d]
 obtain⟨b,a⟩:=this
 exact⟨_,by rw[a];rfl⟩
noncomputable def vf:MK Sg Unit:={P:=prog,T:=153,K:=146,E:=257,ke:=yO,ve:=fun _=> .agg #[],wf:=Sg.wf,z:=.agg #[]}
noncomputable def vp:MK Jk Tsk:={P:=prog,T:=169,K:=162,E:=177,ke:=KL,ve:=zcc,wf:=Jk.wf,z:=.agg #[.nilIface,I O 0,I O 0,I O 0]}
noncomputable def yb:MK Tok Lse:={P:=prog,T:=168,K:=49,E:=164,ke:=yQ,ve:=ZC,wf:=Tok.wf,z:=.agg #[I O 0,I O 0,I O 0,I O 0,I O 0,I O 0]}
theorem Z3:vf.Ok:=⟨ZA,underlying153,fun a h=>Jm h,fun a b h=>zbT h,fun w=>by kernel_rfl⟩
theorem ZQ:vp.Ok:=⟨zkz,underlying169,fun a h=>zjQ h,fun a b h=>zjP h,fun w=>by kernel_rfl⟩
theorem QJ:yb.Ok:=⟨zki,underlying168,fun a h=>zjm h,fun a b h=>zjl h,fun w=>by kernel_rfl⟩
attribute [local go_sem] Oper.semAt_some
theorem kg{α:Type}{ex:Nat->Prop}{n:Nat}{w W w':X}{f:α->Int}{a:List α}{x:α}{v:Z}{t t2:TypeId}{B:Nat}{u:Z}(j:u=I O (wrap64 (kW (a.map f)+f x)))(hn:n<=w.1.size)
  (e:W.1[w.1.size]?=Q (.cells #[v] t (0,0))) (i2:W.1[w.1.size+1]?=Q (.cells #[I O (kW (a.map f))] t2 (0,0))) (i3:G w.1.size w W) (b:G W.1.size W w'):
  KeepsFrom B W (w'.setCell ⟨w.1.size+1,0,U⟩ u)/\KX ex n (w.1.size+4) W (w'.setCell ⟨w.1.size+1,0,U⟩ u)/\((w'.setCell ⟨w.1.size+1,0,U⟩ u).1[w.1.size]?=Q (.cells #[v] t (0,0))/\(w'.setCell ⟨w.1.size+1,0,U⟩ u).1[w.1.size+1]?=Q (.cells #[I O (kW ((a++[x]).map f))] t2 (0,0))/\G w.1.size w (w'.setCell ⟨w.1.size+1,0,U⟩ u)):=by
 subst j
 have c:=zb e
 have d:=zb i2
 refine⟨((yu b).trans (KeepsOthers.setCell _ _ _)).from _,(KX.of_below b).trans (KX.setCell (by omega) (by omega)),?_,?_,i3.trans ((b.mono i3.size).setCell (p:=⟨w.1.size+1,0,U⟩) (Nat.le_succ _) _)⟩
 ·have g:=(b.block _ c).trans e
  exact(((R (w.1.size+1) w').setCell (p:=⟨w.1.size+1,0,U⟩) (Y _) (I O (wrap64 (kW (a.map f)+f x)))).block w.1.size (Nat.lt_succ_self _)).trans g
 ·have h:=(b.block _ d).trans i2
  rw[List.map_append,List.map_singleton,ZU]
  exact xi (i:=0) h _
theorem jW.later{α:Type}{ex:Nat->Prop}{n N:Nat}{P:Program}{g:Nat}{lb:Array Z}{encs:α->Array Z}{S:List α->Prop}{w w':X}(h:jW ex n P g lb encs S N w)(a:G w.1.size w w'):jW ex n P g lb encs S N w':=
 fun m d l J b W c=>h m (Nat.le_trans a.size d) l J b W (a.trans (c.mono a.size))
theorem KX.lower{ex:Nat->Prop}{n n' m:Nat}{A B:X}(h:KX ex n' m A B)(hn:n<=n'):KX ex n m A B:=⟨h.kept.mono (fun k _ e=>e.imp id (fun e=>by omega)),h.walk,h.high⟩
theorem jW.lower{α:Type}{ex:Nat->Prop}{n n' N:Nat}{P:Program}{g:Nat}{lb:Array Z}{encs:α->Array Z}{S:List α->Prop}{w:X}(h:jW ex n P g lb encs S N w)(hn:n<=n'):jW ex n' P g lb encs S N w:=
 fun m b=>(h m b).keeps (fun A B a=>a.lower hn)
theorem jW.free{α:Type}{ex:Nat->Prop}{n N:Nat}{P:Program}{g:Nat}{lb:Array Z}{encs:α->Array Z}{S:List α->Prop}{w:X}(h:jW ex n P g lb encs S N w):jW (fun _=>False) n P g lb encs S N w:=
 fun m b=>(h m b).keeps (fun A B a=>⟨a.kept.mono (fun k _ e=>e.elim (fun e=>e.elim) .inr),fun k o _=>a.walk k o (fun e=>e),a.high⟩)
theorem ZT{α:Type}(xs:List α)(h:xs.length<=9223372036854775807):kW (xs.map (fun _=>(1:Int)))=xs.length:=by
 have e:xI (xs.map (fun _=>(1:Int)))=xs.length:=by
  induction xs with
  |nil=>rfl
  |cons x xs a=>simp only[List.map_cons,xI,List.length_cons]at*;rw[a (by omega)];omega
 rw[kh (by rw[e];omega),e]
theorem zhp(gf:Nat)(lb:Array Z)(eg:∀args w,(callFunc gf args).run prog w=.ok (.enter gf args) w){ex:Nat->Prop}{n N:Nat}{S:List SX->Prop}(f:SX->Int)(w:X)(hn:n<=w.1.size)
  (P:∀(x:SX) (W:X),G w.1.size w W->Calls prog 89 #[.agg #[I O x.1.t,I O x.1.se,I O x.1.wn,I O x.2.st,I O x.2.cl.cnt,I O x.2.cl.sum,I i32 x.2.cl.mn,I i32 x.2.cl.mx]] W fun e W'=>e=.returned (I O (f x))/\G W.1.size W W')
  (j:jW ex n prog gf lb (fun x:SX=>#[.agg #[I O x.1.t,I O x.1.se,I O x.1.wn,I O x.2.st,I O x.2.cl.cnt,I O x.2.cl.sum,I i32 x.2.cl.mn,I i32 x.2.cl.mx]]) S N w):
  Calls prog 87 #[.func (.func gf) #[] lb,.func (.func 89) #[] #[]] w fun e w'=>∃xs,S xs/\e=.returned (I O (kW (xs.map f)))/\G w.1.size w w':=by
 have z:=zd P
 have C:=zd j
 have a1:=zd eg
 obtain⟨b1,b2,L,bz⟩:=box2 w (.cells #[.func (.func 89) #[] #[]] 156) (.cells #[I O 0] 3)
 clear P j eg
 refine(callsIn_wide (n:=7)).1 ?_
 refine callsIn_of_wp_marks func87 rfl trivial ?_ rfl
 simp only[ntmps87,List.size_toArray,List.length_cons,List.length_nil,Nat.reduceAdd,Nat.reduceSub,Array.replicate_succ,Array.replicate_zero,List.push_toArray,List.append_toArray,List.nil_append,List.cons_append]
 have B1:=zd b1
 have B2:=zd b2
 have m:=zd L
 have BZ:=zd bz
 clear b1 b2 L bz
 gi_wp2
 obtain⟨W0,H⟩:∃W0,((w.alloc (.cells #[.func (.func 89) #[] #[]] 156)).alloc (.cells #[I O 0] 3))=W0:=⟨_,rfl⟩
 rw[H]at B1 B2 m BZ ⊢
 clear H
 have hz:W0.1.size=w.1.size+2:=ud BZ
 refine yM (F:=Fence.wide) (n:=7) rfl (by omega) (gf:=gf) (lb:=lb) rfl trivial (ud a1) (ud C (w.1.size+4) (by omega)) (by omega) (fun h k=>h.trans k) (fun W o o' h hc hw=>KX.putObj o' (by omega) (by omega) h hw) (ud m) (fun _=>rfl)
  (fun b W=>W.1[w.1.size]?=Q (.cells #[.func (.func 89) #[] #[]] 156 (0,0))/\W.1[w.1.size+1]?=Q (.cells #[I O (kW (b.map f))] 3 (0,0))/\G w.1.size w W)
  (fun _ _ _=>False)
  (fun s A B row i M v=>⟨zI i.1 M (fun r e=>(v r e).2),zI i.2.1 M (fun r e=>(v r e).2),i.2.2.grown M (i.2.2.size) (fun k e=>by have:=(v k e).1;omega)⟩)
  (fun _ _ _ _ _ i _ _=>i)
  ⟨ud B1,ud B2,ud m⟩
  (fun x a' W=>∃u,w.1.size+2<=u/\W.1[u]?=Q (.cells #[I O x.1.t,I O x.1.se,I O x.1.wn,I O x.2.st,I O x.2.cl.cnt,I O x.2.cl.sum,I i32 x.2.cl.mn,I i32 x.2.cl.mx] 148 (0,0))/\a'={tmps:=#[.func (.func gf) #[] lb,.func (.func 89) #[] #[],undef,.pointer (Q ⟨w.1.size,0,U⟩),I O 0,.pointer (Q ⟨w.1.size+1,0,U⟩),.pointer (Q ⟨u,0,U⟩),.func (.func gf) #[] lb,.agg #[I O x.1.t,I O x.1.se,I O x.1.wn,I O x.2.st,I O x.2.cl.cnt,I O x.2.cl.sum,I i32 x.2.cl.mn,I i32 x.2.cl.mx],undef,undef,undef,undef,undef,undef],defers:=[]})
  (fun x a' s A B row i M v=>by
   obtain⟨u,h1,h2,h3⟩:=i
   exact⟨u,h1,zI h2 M (fun r e=>(v r e).2),h3⟩) ?assign ?body ?done ?stop
 case assign=>
  rintro l b x W K ⟨q,i2,i3⟩ E
  have V:=i3.size
  have a4:=zb i2
  have HK:=zd E
  clear E
  gi_wp2
  have J:=(R W.1.size W).alloc (Y _) (.cells #[I O x.1.t,I O x.1.se,I O x.1.wn,I O x.2.st,I O x.2.cl.cnt,I O x.2.cl.sum,I i32 x.2.cl.mn,I i32 x.2.cl.mx] 148)
  refine ud HK _ _ (zw J) (KX.of_below J) ⟨(Below.heap_alloc _ _ _ (by omega)).trans q,(Below.heap_alloc _ _ _ (by omega)).trans i2,i3.alloc V _⟩ ⟨W.1.size,by omega,zr _ _,rfl⟩
 case body=>
  rintro l b x a' W hl ⟨r,v⟩ ⟨q,i2,i3⟩ ⟨u,a2,hx,rfl⟩ a5
  have V:=i3.size
  have a3:=zb hx
  have T:=zb i2
  obtain⟨c1,-⟩:=zc q
  obtain⟨c2,-⟩:=zc i2
  have f2:W.frozen? ⟨w.1.size+1,0,U⟩=false:=zH i2 0
  obtain⟨x0,x1,x2,x3,x4,x5,x6,x7,-⟩:=zc hx
  have HI:=zd i2
  have y:=zd q
  have d:=zd i3
  have HX:=zd hx
  have a6:prog.follows .mixedOrders=true:=by kernel_rfl
  have HC:=zd (ud z x W i3)
  have a0:=zd (ud z x W.drew i3.drew)
  clear q i2 i3 hx
  gi_wp2
  gi_region_with_o (refine⟨trivial,?_⟩;gi_at_call 89;(first|refine(CallsIn.inRound l (callsIn_wide.2 (ud HC))).mono ?_|refine(CallsIn.inRound l (callsIn_wide.2 (ud a0))).mono ?_);rintro e w' ⟨rfl,g⟩;have d2:w'.cell? ⟨w.1.size+1,0,U⟩=Q (I O (kW (b.map f))):=(g.cell (p:=⟨w.1.size+1,0,U⟩) T).trans c2;have e2:w'.frozen? ⟨w.1.size+1,0,U⟩=false:=zH ((g.block _ T).trans (ud HI)) 0;have a:=zd g;clear g)
  all_goals gi_wp2
  all_goals(try go_bits)
  all_goals(first|(rw[hz];exact kg (x:=x) rfl hn (ud y) (ud HI) (ud d) ⟨(ud a).os,(ud a).tape,(ud a).output,(ud a).size,(ud a).block⟩)|exact kg (x:=x) rfl hn (ud y) (ud HI) (ud d) ⟨(ud a).os,(ud a).tape,(ud a).output,(ud a).size,(ud a).block⟩)
 case done=>
  rintro D xs W hD hS ⟨q,i2,i3⟩ E
  obtain⟨c2,-⟩:=zc i2
  have d:=zd i3
  clear q i2 i3
  gi_wp2
  refine⟨by simp,.inl ⟨_,_,rfl,run_takeDeferred E,?_⟩⟩
  exact⟨_,results_tmp rfl _ _ _,xs,hS,rfl,xE (ud d) (Y _) (by omega) E _⟩
 case stop=>
  rintro D c b W _ _ h _
  exact h.elim
noncomputable def qN:MK Sg SX:={P:=prog,T:=152,K:=146,E:=148,ke:=yO,ve:=yX,wf:=Sg.wf,z:=yX zX}
theorem Z8:qN.Ok:=⟨ZA,underlying152,fun a h=>Jm h,fun a b h=>zbT h,fun w=>by kernel_rfl⟩
def kH(L:LV):List (Sg×SX):=L.map (fun p=>(p.1,p))
theorem YS(L:LV):zo (kH L)=zl L:=by unfold zo kH zl;rw[List.map_map];rfl
theorem QT(L:LV):(kH L).length=L.length:=by simp[kH]
theorem VW{L:LV}{q:Sg×SX}(h:q∈kH L):q.2∈L/\q.1=q.2.1:=by
 obtain⟨p,a,rfl⟩:=List.mem_map.1 h;exact⟨a,rfl⟩
theorem QU{L:LV}{ps:List (Sg×SX)}(h:ps.Perm (kH L)):(ps.map (fun p:Sg×SX=>p.2)).Perm L:=by
 have:=h.map (fun p:Sg×SX=>p.2)
 unfold kH at this
 rw[List.map_map]at this
 have e:L.map ((fun p:Sg×SX=>p.2)∘fun p=>(p.1,p))=L:=by
  conv=>rhs;rw[<-List.map_id L]
  rfl
 rwa[e]at this
theorem xO{w:X}{b:Nat}{L:LV}:qQ w b L↔xj qN w b (kH L):=
 ⟨fun⟨c,a,h,e⟩=>⟨c,a,h,⟨by rw[e.kv,kH,List.map_map];rfl,e.born,e.once,fun q f=>by obtain⟨p,d,rfl⟩:=List.mem_map.1 f;exact e.wf p d,by rw[YS];exact e.nodup,e.size⟩⟩,
  fun⟨c,a,h,e⟩=>⟨c,a,h,⟨by rw[e.kv,kH,List.map_map];rfl,e.born,e.once,fun p d=>e.wf (p.1,p) (List.mem_map.2 ⟨p,d,rfl⟩),by rw[<-YS];exact e.nodup,e.size⟩⟩⟩
theorem jW.imp{α:Type}{ex:Nat->Prop}{n:Nat}{P:Program}{g:Nat}{lb:Array Z}{encs:α->Array Z}{S S':List α->Prop}{N:Nat}{w:X}(h:jW ex n P g lb encs S N w)(p:∀xs,S xs->S' xs):jW ex n P g lb encs S' N w:=fun m q l J j W a b c d e f=>(h m q l J j W a b c d e f).mono (by
 rintro e w ⟨i,⟨xs,k,o⟩|h⟩
 ·exact⟨i,.inl ⟨xs,p _ k,o⟩⟩
 ·exact⟨i,.inr h⟩)
section
variable {α β:Type} [Inhabited α] [Inhabited β] {M:MK α β}
noncomputable def jn (M:MK α β) (L:List (α×β)) (e:MapEntry):α×β:=by
 classical exact if h:∃p∈L,e.key=M.ke p.1/\e.val=M.ve p.2 then h.choose else default
theorem zhF(ok:M.Ok){L:List (α×β)}(hn:(zo L).Nodup){e:MapEntry}{p:α×β}(o:p∈L)(l:e.key=M.ke p.1)(q:e.val=M.ve p.2):jn M L e=p:=by
 unfold jn
 have h:∃p∈L,e.key=M.ke p.1/\e.val=M.ve p.2:=⟨p,o,l,q⟩
 rw[dif_pos h]
 obtain⟨s,r,_⟩:=h.choose_spec
 have k:h.choose.1=p.1:=ok.inj _ _ (r.symm.trans l)
 have d:L.Pairwise (fun a b=>a.1≠b.1):=List.pairwise_map.1 hn
 obtain⟨i,m,f⟩:=List.getElem_of_mem s
 obtain⟨j,n,g⟩:=List.getElem_of_mem o
 rcases Nat.lt_trichotomy i j with c|c|c
 ·have:=List.pairwise_iff_getElem.1 d i j m n c;rw[f,g]at this;exact absurd k this
 ·subst c;rw[<-f,g]
 ·have:=List.pairwise_iff_getElem.1 d j i n m c;rw[f,g]at this;exact absurd k.symm this
theorem VA(ok:M.Ok){c:Array MapEntry}{a:Nat}{L:List (α×β)}(g:kR M c a L){e:MapEntry}(h:e∈c.toList):jn M L e∈L/\e.key=M.ke (jn M L e).1/\e.val=M.ve (jn M L e).2:=by
 obtain⟨i,j⟩:=List.mem_iff_getElem?.1 h
 obtain⟨p,k,d,f⟩:=g.at j
 have b:=List.mem_of_getElem? k
 rw[zhF ok g.nodup b d f]
 exact⟨b,d,f⟩
theorem zij(ok:M.Ok){b:Array MapEntry}{a:Nat}{L:List (α×β)}(d:kR M b a L):b.toList.map (jn M L)=L:=by
 apply List.ext_getElem?
 intro i
 rw[List.getElem?_map]
 cases h:b.toList[i]? with
 |none=>
  have c:b.toList.length<=i:=List.getElem?_eq_none_iff.1 h
  have f:=d.count
  rw[List.getElem?_eq_none (by simp at c;omega)];rfl
 |some e=>
  obtain⟨p,g,c,f⟩:=d.at h
  rw[g,Option.map_some,zhF ok d.nodup (List.mem_of_getElem? g) c f]
theorem XX(ok:M.Ok){b:Array MapEntry}{a:Nat}{L:List (α×β)}(c:kR M b a L){ps:List MapEntry}(d:ps.Perm b.toList):(ps.map (jn M L)).Perm L:=by
 have:=d.map (jn M L)
 rwa[zij ok c]at this
end
instance:Inhabited SV:=⟨⟨0,qC⟩⟩
instance:Inhabited Lse:=⟨⟨0,⟨0,0,0⟩,0,0⟩⟩
instance:Inhabited Tsk:=⟨⟨true,⟨0,0,0⟩,0,0,0⟩⟩
instance:Inhabited Jk:=⟨⟨0,⟨0,0,0⟩⟩⟩
instance:Inhabited Tok:=⟨⟨0,0⟩⟩
instance:Inhabited Sg:=⟨⟨0,0,0⟩⟩
end Go.Proofs.YtndhpgciopcncaaGreatDoor
