import Derived.Test.YtpbimdkclnekeaaGreatVItr1
import Derived.Deep.RegionHeld3
open Option renaming none → I
open Go.Value renaming int → O
open Go.IntKind renaming i64 → E
open Option renaming some → Q
open Nat renaming le_refl → U
open Nat renaming lt_of_lt_of_le → Y
open Go renaming World → G
open Go.RowKit renaming Below → R
open Go.RowKit.Below renaming refl → T
open Go renaming Value → M
open Nat renaming le_trans → z3
set_option linter.unusedVariables false
set_option maxRecDepth 100000
set_option maxHeartbeats 8000000
open Go.Proofs.Tryz
namespace Go.Proofs.YtpbimdkclnekeaaGreat
open Go.ChangeMaps (setBlock)
open Go.RowKit Go.Maps Go.Shelf
attribute [local go_sem] Oper.semAt_some
def kg(c:Cf)(k:Sg):List Sg:=(K0 c k.t (k.we*c.wh k.t) c.n).map (fun p=>⟨p.1,k.se,p.2⟩)
noncomputable def Kw (se:Int) (p:WP):WSg:=zeh ⟨p.1.1,se,p.1.2⟩
theorem Kx{se:Int}(h:yS se)(p:WP):(Kw se p).1=⟨p.1.1,se,p.1.2⟩:=Xr ⟨p.2.1,h,p.2.2⟩
structure HR(W:G)(Bp Bk s:Nat)(k:Sg)(c:Cf)(tv:M)(lb gb:Nat):Prop where
 bp:W.1[Bp]?=Q (.cells #[.pointer (Q ⟨s,0,I⟩)] 81 (0,0))
 bk:W.1[Bk]?=Q (.cells #[O E k.t,O E k.se,O E k.we] 137 (0,0))
 hd:kQ W s c tv lb gb
theorem HR.later{W e:G}{d b s:Nat}{k:Sg}{c:Cf}{tv:M}{lb gb:Nat}(h:HR W d b s k c tv lb gb)(a:R W.1.size W e):HR e d b s k c tv lb gb:=
 ⟨(a.block _ (zd h.bp)).trans h.bp,(a.block _ (zd h.bk)).trans h.bk,h.hd.later a⟩
theorem HR.kx{ex:Nat->Prop}{n m:Nat}{W f:G}{b a s:Nat}{k:Sg}{c:Cf}{tv:M}{lb gb:Nat}(h:HR W b a s k c tv lb gb)(d:KX ex n m W f)(i:b<n/\¬ex b)(j:a<n/\¬ex a)(l:s<n/\¬ex s)(o:∀g,tv.ownBlock=Q g->g<n/\¬ex g):HR f b a s k c tv lb gb:=
 ⟨qc d h.bp i.1 i.2,qc d h.bk j.1 j.2,h.hd.kept d.kept (fun e=>e.elim l.2 (by omega)) (fun g p e=>by have:=o g p;exact e.elim this.2 (by omega))⟩
theorem HR.kept{f:Nat->Prop}{W e:G}{b a s:Nat}{k:Sg}{c:Cf}{tv:M}{lb gb:Nat}(h:HR W b a s k c tv lb gb)(d:zk f W e)(i:¬f b)(j:¬f a)(l:¬f s)(m:∀g,tv.ownBlock=Q g->¬f g):HR e b a s k c tv lb gb:=
 ⟨d.heap h.bp i,d.heap h.bk j,h.hd.kept d l m⟩
theorem TS.same{A B:G}{a:Option Addr}{n:Nat}{F W K:Nat->Int}(h:TS A a n F W K)(m:A.1.size<=B.1.size)(g:∀b c,a=Q ⟨b,c,I⟩->B.1[b]?=A.1[b]?):TS B a n F W K:=fun f=>by
 obtain⟨b,c,e,l,j⟩:=h f
 have d:∀o,B.cell? ⟨b,o,I⟩=A.cell? ⟨b,o,I⟩:=fun o=>by unfold World.cell?;rw[g b c e]
 exact⟨b,c,e,by omega,fun i k=>by rw[d,d,d];exact j i k⟩
theorem Kk(s:Nat)(k:Sg)(w:G):
  Calls prog 151 #[.pointer (Q ⟨s,0,I⟩),.agg #[O E k.t,O E k.se,O E k.we]] w fun e w'=>e=.returned (.func (.func 196) #[] #[.pointer (Q ⟨w.1.size,0,I⟩),.pointer (Q ⟨w.1.size+1,0,I⟩)])/\w'=(w.alloc (.cells #[.pointer (Q ⟨s,0,I⟩)] 81)).alloc (.cells #[O E k.t,O E k.se,O E k.we] 137):=by
 go_enter func151,ntmps151
 go_wp2_with fail
 go_ret
 exact⟨rfl,rfl⟩
structure KY(ex:Nat->Prop)(n m l:Nat)(A B:G):Prop where
 kept:zk (fun k=>ex k\/n<=k) A B
 walk:∀k o,¬ex k->A.1[k]?=Q o->o.isWalk=true->B.1[k]?=Q o
 high:∀k o,k≠l->m<=k->A.1[k]?=Q o->B.1[k]?=Q o
theorem KY.trans{ex:Nat->Prop}{n m l:Nat}{A B C:G}(h:KY ex n m l A B)(k:KY ex n m l B C):KY ex n m l A C:=⟨h.kept.trans k.kept (fun _ _ h=>h),fun i o a b d=>k.walk i o a (h.walk i o a b d) d,fun i o c a b=>k.high i o c a (h.high i o c a b)⟩
theorem KX.y{ex:Nat->Prop}{n m:Nat}{A B:G}(h:KX ex n m A B)(l:Nat):KY ex n m l A B:=⟨h.kept,h.walk,fun k o _=>h.high k o⟩
theorem KY.putObj{ex:Nat->Prop}{n m l:Nat}{W:G}{o:Obj}(d:Obj)(b:n<=l)(h:W.1[l]?=Q o)(f:o.isWalk=false):KY ex n m l W (W.putObj l d):=
 ⟨(zk.refl _ _).grown (grownBy_putObj' W l d) (fun k e _=>by cases e;exact .inr b),fun k p g a c=>by
  by_cases e:k=l
  ·subst e;rw[h]at a;cases a;rw[f]at c;cases c
  ·exact(World.putObj_heap_other e).trans a,fun k p b g a=>(World.putObj_heap_other b).trans a⟩
theorem zbU{ex:Nat->Prop}{n:Nat}(Bp C s:Nat)(k:Sg)(c:Cf)(hc:c.ok)(tv:M)(lb gb:Nat)(a6: -1<=k.t)(d:k.t<c.n)(aj:0<=k.we/\k.we<=100000)(ak:yS k.se)(w:G)(hn:n<=w.1.size)(hR:HR w Bp C s k c tv lb gb)
  (h1:Bp<n/\¬ex Bp) (h2:C<n/\¬ex C) (h3:s<n/\¬ex s) (h4:∀g,tv.ownBlock=Q g->g<n/\¬ex g):
  jw ex n prog 196 #[.pointer (Q ⟨Bp,0,I⟩),.pointer (Q ⟨C,0,I⟩)] (fun x:WSg=>#[.agg #[O E x.1.t,O E x.1.se,O E x.1.we]]) (fun xs=>xs=((K0 c k.t (k.we*c.wh k.t) c.n).map YY).map (Kw k.se)) c.n w:=by
 intro m hm l J Jx N hW aR hJ af hY h0
 have ag:=hR.later hW
 obtain⟨a,cap,rfl⟩:=zq hR.hd.trow
 have aI:=hW.size
 have a0:R N.1.size N (N.alloc (.cells #[.func (.yield l) #[] #[]] 226)):=(T _ _).alloc (U _) _
 have an:=zo N (.cells #[.func (.yield l) #[] #[]] 226)
 have am:=zF N (.cells #[.func (.yield l) #[] #[]] 226)
 have j:=ag.later a0
 have ad:=zX hJ h0 a0
 have ah:=hW.trans (a0.mono aI)
 have aG:0<=k.we*c.wh k.t/\k.we*c.wh k.t<=1000000000:=by
  obtain⟨aT,aH⟩:=hc.wh a6 d
  constructor
  ·exact Int.mul_nonneg (by omega) (by omega)
  ·have:=Int.mul_le_mul (show k.we<=100000 by omega) aH (by omega) (by omega);omega
 have ap:=ze (Kn c hc a cap k.t k.we a6 d aj _ (TS.of_owns j.hd.trow))
 have a7:=ze (Kn c hc a cap k.t k.we a6 d aj (N.alloc (.cells #[.func (.yield l) #[] #[]] 226)).drew (TS.of_owns j.hd.trow))
 obtain⟨c0,c1,c2,c3,c4,c5,c6,-,-⟩:=j.hd.cells
 have u:=j.hd.lt
 obtain⟨p0,-⟩:=zc j.bp
 obtain⟨k0,-,k2,-⟩:=zc j.bk
 have aE:=zd j.bp
 have ab:=zd j.bk
 have HC:=ze hc
 have ay:=ze j
 have aC:=ze an
 have aA:=ze am
 have av:=ze ad
 have HJ:=ze hJ
 have a8:=ze af
 have HY:=ze hY
 have aa:=ze ah
 have ax:=ze ak
 clear hR ag j an am ad hJ af hY a0 ah hc h0 ak
 refine callsIn_wide.2 ((callsIn_wide (n:=7)).1 ?_)
 refine callsIn_of_wp_marks func196 rfl trivial ?_ rfl
 simp only[ntmps196,List.size_toArray,List.length_cons,List.length_nil,Nat.reduceAdd,Nat.reduceSub,Array.replicate_succ,Array.replicate_zero,List.push_toArray,List.append_toArray,List.nil_append,List.cons_append]
 refine wpIn_wide.2 ?_
 go_wp2_with fail
 generalize(N.alloc (.cells #[.func (.yield l) #[] #[]] 226))=X at*
 go_region_held3 (fun w'=>w'.cell? ⟨Bp,0,I⟩=Q (.pointer (Q ⟨s,0,I⟩))/\w'.cell? ⟨s,0,I⟩=Q (O E c.s)/\w'.cell? ⟨s,1,I⟩=Q (O E c.le)/\w'.cell? ⟨s,2,I⟩=Q (O E c.la)/\w'.cell? ⟨s,3,I⟩=Q (O E c.wi)/\w'.cell? ⟨s,4,I⟩=Q (O E c.ke)/\w'.cell? ⟨s,5,I⟩=Q (O E c.qu)/\w'.cell? ⟨s,6,I⟩=Q (.slice a c.n cap)/\w'.cell? ⟨C,0,I⟩=Q (O E k.t)/\w'.cell? ⟨C,2,I⟩=Q (O E k.we)) (go_keep) (first
  |(go_at_call 197;(first|refine(ud ap).mono ?_|refine(ud a7).mono ?_);rintro e H ⟨Bs,rfl,P,ac,i⟩;have d0:=(i.cell (p:=⟨Bp,0,I⟩) aE).trans p0;have d1:=(i.cell (p:=⟨s,0,I⟩) u).trans c0;have d2:=(i.cell (p:=⟨s,1,I⟩) u).trans c1;have d3:=(i.cell (p:=⟨s,2,I⟩) u).trans c2;have d4:=(i.cell (p:=⟨s,3,I⟩) u).trans c3;have d5:=(i.cell (p:=⟨s,4,I⟩) u).trans c4;have d6:=(i.cell (p:=⟨s,5,I⟩) u).trans c5;have d7:=(i.cell (p:=⟨s,6,I⟩) u).trans c6;have d8:=(i.cell (p:=⟨C,0,I⟩) ab).trans k0;have d9:=(i.cell (p:=⟨C,2,I⟩) ab).trans k2;have aq:=ze P;have L:=ze i;clear P i))
 go_wp2_with fail
 have ao:X.1.size=N.1.size+1:=ud aA
 have S:R X.1.size X H:=⟨(ud L).os,(ud L).tape,(ud L).output,(ud L).size,(ud L).block⟩
 have P:AR H X.1.size Bs c a cap k.t (k.we*c.wh k.t):=ud aq
 have aK:X.1.size<=Bs:=ac
 have aM:=S.size
 have HV:=ze S
 have v:=ze P
 have aL:=ze ((ud aa).trans (S.mono (ud aa).size))
 have aw:=ze (zX (ud HJ) (ud av) ⟨S.os,S.tape,S.output,S.size,S.block⟩)
 have a9:=ze ((ud ay).later S)
 have aD:=ze ((S.block _ (by omega)).trans (ud aC))
 obtain⟨g,aJ,ai,aP,aQ⟩:=(ud a9).hd.trow.form (by have:=(ud HC).n1;omega)
 have V:a=Q ⟨g,0,I⟩:=by injection ai
 have aF:=h4 g (by rw[V];rfl)
 have aU:=zd (ud v).b1
 have aV:=zd (ud v).b2
 have aS:m<=H.1.size:=by omega
 have aN:N.1.size<H.1.size:=by omega
 clear d0 d1 d2 d3 d4 d5 d6 d7 d8 d9 c0 c1 c2 c3 c4 c5 c6 p0 k0 k2 ai ac P S
 refine(wpIn_wide (n:=7)).1 ?_
 refine yG (F:=Fence.wide) (n:=7) (m:=0) rfl (by omega) (gf:=220) (lb:=#[.pointer (Q ⟨X.1.size,0,I⟩),.pointer (Q ⟨X.1.size+1,0,I⟩),.pointer (Q ⟨Bs,0,I⟩)]) rfl trivial J2
  (zem X.1.size Bs c (ud HC) a cap k.t (k.we*c.wh k.t) aG (KY ex n m (H.1.size+1)) (fun A B hk hA=>⟨hk.high _ _ (by omega) (by omega) hA.b0,hk.high _ _ (by omega) (by omega) hA.b1,hk.high _ _ (by have:=zd (ud v).b2;omega) (by omega) hA.b2,TS.same hA.ts hk.kept.size (fun b aY e=>by rw[V]at e;injection e with e;injection e with e1 e2;subst e1;exact hk.kept.block _ (by have:=hA.ts;obtain⟨b',o',e3,h5,_⟩:=this (by have:=(ud HC).n1;omega);rw[V]at e3;injection e3 with e3;injection e3 with e3 _;rw[e3];exact h5) (fun e=>e.elim aF.2 (by omega)))⟩) (fun A B hk=>hk.kept.size) 0 H (ud v)) (Nat.zero_le _) (fun h k=>h.trans k) (fun W o o' h hc hw=>KY.putObj o' (by omega) h hw) (T _ _) (fun _=>rfl)
  (fun z W=>J (z.map (Kw k.se)) W/\HR W Bp C s k c (.slice a c.n cap) lb gb/\W.1[N.1.size]?=Q (.cells #[.func (.yield l) #[] #[]] 226 (0,0))/\H.1.size<=W.1.size)
  (fun c z W=>c=.ret/\∃q,Jx q W)
  (fun s A B row hs Z hr=>⟨ud HJ _ A B row hs.1 Z (fun r e=>⟨by have:=(hr r e).1;omega,(hr r e).2⟩),hs.2.1.kept (f:=fun k=>H.1.size<=k) ⟨Z.os,Z.tape,Z.output,Z.size,fun k hk hn=>Z.block k hk (fun e=>hn (hr k e.symm).1)⟩ (by have:=h1.1;omega) (by have:=h2.1;omega) (by have:=h3.1;omega) (fun g hh=>by have:=(h4 g hh).1;omega),zG hs.2.2.1 Z (fun r e=>(hr r e).2),z3 hs.2.2.2 Z.size⟩)
  (fun c s A B row hs Z hr=>⟨hs.1,by obtain⟨q,hq⟩:=hs.2;exact⟨q,ud a8 q A B row hq Z (fun r e=>⟨by have:=(hr r e).1;omega,(hr r e).2⟩)⟩⟩)
  ⟨ud aw,ud a9,ud aD,U _⟩
  (fun x a' W=>a'={tmps:=#[.func (.yield l) #[] #[],.pointer (Q ⟨Bp,0,I⟩),.pointer (Q ⟨C,0,I⟩),.pointer (Q ⟨N.1.size,0,I⟩),O E x.1.1,O E x.1.2,.pointer (Q ⟨s,0,I⟩),.pointer (Q ⟨s,0,I⟩),.pointer (Q ⟨s,0,I⟩),.agg #[O E c.s,O E c.le,O E c.la,O E c.wi,O E c.ke,O E c.qu,.slice a c.n cap],.pointer (Q ⟨C,0,I⟩),O E k.t,.pointer (Q ⟨C,2,I⟩),O E k.we,.func (.func 220) #[] #[.pointer (Q ⟨X.1.size,0,I⟩),.pointer (Q ⟨X.1.size+1,0,I⟩),.pointer (Q ⟨Bs,0,I⟩)],O E x.1.1,O E x.1.2,undef,undef,undef,undef,undef,undef,undef,undef],defers:=[]})
  (fun x a' s A B row hs Z hr=>hs) ?assign ?body ?done ?stop
 case assign=>
  rintro l' z x W K hi hK
  have HK:=ze hK
  have HI:=ze hi
  clear hK hi ao V
  gi_wp2
  exact ud HK _ _ (KeepsFrom.refl _ _) ((KX.refl _ _ _ _).y _) (ud HI) rfl
 case body=>
  rintro l' z x a' W hl ⟨r,hr⟩ ⟨i1,i2,i3,i4⟩ rfl al
  have aO:=zd i2.bk
  have aW:=zd i3
  obtain⟨-,k1,-⟩:=zc i2.bk
  obtain⟨y0,-⟩:=zc i3
  obtain⟨fn,tmps,assign,body,hy,hR⟩:=kP (m':=4) rfl (ud HY (z.map (Kw k.se)) (Kw k.se x) W i1 (by rw[List.length_map];exact al))
  rw[Kx (ud ax)]at hy
  dsimp only at hy
  have ar:=ze i2
  have au:=ze i3
  clear i1 i2 i3 hr ao V
  gi_wp2
  refine RoundIn.mono (F:=Fence.wide.inRound l') hR ?_
  rintro e W2 (⟨rfl,ae,d⟩|⟨rfl,a1,d⟩)
  ·have a4:=ze (d.from (q:=H.1.size) (by omega))
   have a5:=ze (d.y (H.1.size+1))
   have az:=ze ((ud ar).kx d h1 h2 h3 h4)
   have aB:=ze (d.high _ _ (by omega) (ud au))
   have aX:=d.kept.size
   have a2:=ze ae
   clear ae d
   gi_wp2
   exact⟨ud a4,ud a5,by rw[List.map_append,List.map_singleton];exact ud a2,ud az,ud aB,by omega⟩
  ·have a4:=ze (d.from (q:=H.1.size) (by omega))
   have a5:=ze (d.y (H.1.size+1))
   have a2:=ze a1
   clear a1 d
   gi_wp2
   exact⟨ud a4,ud a5,rfl,_,ud a2⟩
 case done=>
  rintro D xs W hD hS ⟨i1,-,-,-⟩ hK
  have a3:=ze (OwnFrom.putObj (ud HJ) (.deferred I) i1 (by omega) hK rfl)
  subst hS
  clear i1
  gi_wp2
  refine⟨by simp,.inl ⟨_,_,rfl,run_takeDeferred hK,?_⟩⟩
  exact⟨_,results_none rfl _ _ _,⟨_,rfl⟩,.inl ⟨_,rfl,ud a3⟩⟩
 case stop=>
  rintro D c z W hD hS ⟨rfl,q,hq⟩ hK
  have a3:=ze (OwnFrom.putObj (ud a8) (.deferred I) hq (by omega) hK rfl)
  clear hq
  gi_wp2
  refine⟨by simp,.inl ⟨_,_,rfl,run_takeDeferred hK,?_⟩⟩
  exact⟨_,results_none rfl _ _ _,⟨_,rfl⟩,.inr ⟨_,trivial,ud a3⟩⟩
theorem Ya:∀args w,(callFunc 196 args).run prog w=.ok (.enter 196 args) w:=enters_of func196 (by kernel_rfl) rfl
def vq(c:Cf)(a:List (Sg×Unit))(L:LV)(now:Int)(k:Sg):Bool:=(zV a k).isNone&&((stL L k).st==2)&&decide ((k.we+1)*c.wh k.t<=now-c.la)
theorem VF{w:G}{s:Nat}{c:Cf}{tv:M}{lb gb:Nat}{Gl:List (Sg×Unit)}{L:LV}(h:xJ w s c tv lb gb Gl L)(hc:c.ok){K:Nat}{x:List (Sg×Unit)}(F:xh XD w K x)(k:Sg)(hk:k.wf)(a0: -1<=k.t)(a1:k.t<c.n)(a2:0<=k.we/\k.we<=100000)(now:Int)(D:0<=now/\now<=100000)
  (J z y:Nat) (b1:w.cell? ⟨J,0,I⟩=Q (.map (Q K))) (b2:w.cell? ⟨z,0,I⟩=Q (.pointer (Q ⟨s,0,I⟩))) (b3:w.cell? ⟨y,0,I⟩=Q (O E now)) (l1:J<w.1.size) (l2:z<w.1.size) (l3:y<w.1.size):
  Calls prog 146 #[.agg #[O E k.t,O E k.se,O E k.we],.pointer (Q ⟨J,0,I⟩),.pointer (Q ⟨z,0,I⟩),.pointer (Q ⟨y,0,I⟩)] w fun e w'=>e=.returned (.bool (vq c x L now k))/\R w.1.size w w':=by
 obtain⟨a,cap,rfl⟩:=zq h.trow
 have g:=h.lt
 have i:R w.1.size w (w.alloc (.cells #[O E k.t,O E k.se,O E k.we] 137)):=(T _ _).alloc (U _) _
 have y0:=zo w (.cells #[O E k.t,O E k.se,O E k.we] 137)
 have yz:=zF w (.cells #[O E k.t,O E k.se,O E k.we] 137)
 obtain⟨c0,c1,c2,c3,c4,c5,c6,-,-⟩:=h.cells
 have j:=fun W hW=>ze (Z1 (h.later (w':=W) hW) k hk)
 have A:=fun W hW=>ze (Yi c hc a cap k.t k.we now a0 a1 a2 D W ((TS.of_owns h.trow).below (w':=W) hW))
 obtain⟨v,hv⟩:∃v,stL L k=v:=⟨_,rfl⟩
 obtain⟨d,hd⟩:∃d,decide ((k.we+1)*c.wh k.t<=now-c.la)=d:=⟨_,rfl⟩
 have S:Hid (vq c x L now k=((zV x k).isNone&&(v.st==2)&&d)):=by show vq c x L now k=_;unfold vq;rw[hv,hd]
 rw[ud S]
 rw[hv]at j
 rw[hd]at A
 have P:=fun X C=>km Y8 true (F.later (w':=X) C) hk
 clear h F hc hv hd
 cases hg:zV x k
 case' some u=>
  have Z:∀X,R w.1.size w X->(Instr.lookup 138 (.map (Q K)) (.agg #[O E k.t,O E k.se,O E k.we]) true).run prog X=.ok (.tuple #[.agg #[],.bool true]) X:=fun X C=>by have:=P X C;rw[hg]at this;exact this
 case' none=>
  have Z:∀X,R w.1.size w X->(Instr.lookup 138 (.map (Q K)) (.agg #[O E k.t,O E k.se,O E k.we]) true).run prog X=.ok (.tuple #[.agg #[],.bool false]) X:=fun X C=>by have:=P X C;rw[hg]at this;exact this
  cases l:(v.st==2)
  case' false=>
   rw[l]at j
   clear l
  case' true=>
   rw[l]at j
   clear l
   cases d
 all_goals
  have q0:=Z _ i
  obtain⟨k0,k1,k2,-⟩:=zc y0
  have m1:=(i.cell (p:=⟨J,0,I⟩) l1).trans b1
  have r:R (w.1.size+1) (w.alloc (.cells #[O E k.t,O E k.se,O E k.we] 137)) ((w.alloc (.cells #[O E k.t,O E k.se,O E k.we] 137)).alloc (.cells #[] 221)):=(T _ _).alloc (by rw[yz];omega) _
  have f:R w.1.size w ((w.alloc (.cells #[O E k.t,O E k.se,O E k.we] 137)).alloc (.cells #[] 221)):=i.trans (r.mono (by omega))
  have H:((w.alloc (.cells #[O E k.t,O E k.se,O E k.we] 137)).alloc (.cells #[] 221)).1.size=w.1.size+2:=by rw[zF,yz]
  have y2:=(r.block w.1.size (by omega)).trans y0
  obtain⟨z0,z1,z2,-⟩:=zc y2
  have n2:=(f.cell (p:=⟨z,0,I⟩) l2).trans b2
  have n3:=(f.cell (p:=⟨y,0,I⟩) l3).trans b3
  have s0:=(f.cell (p:=⟨s,0,I⟩) g).trans c0
  have s1:=(f.cell (p:=⟨s,1,I⟩) g).trans c1
  have s2:=(f.cell (p:=⟨s,2,I⟩) g).trans c2
  have s3:=(f.cell (p:=⟨s,3,I⟩) g).trans c3
  have s4:=(f.cell (p:=⟨s,4,I⟩) g).trans c4
  have s5:=(f.cell (p:=⟨s,5,I⟩) g).trans c5
  have s6:=(f.cell (p:=⟨s,6,I⟩) g).trans c6
  have m:=ze f
  have V:=ze H
  clear P Z i y0 yz b1 b2 b3 r f y2 H c0 c1 c2 c3 c4 c5 c6
  go_enter func146,ntmps146
  go_wp2_with fail
  have r1:w.1.size<w.1.size+2:=by omega
  have r2:z<w.1.size+2:=by omega
  have r3:y<w.1.size+2:=by omega
  have r4:s<w.1.size+2:=by omega
  have q:Hid (w.1.size<=w.1.size+2):=by show w.1.size<=w.1.size+2;omega
  clear k0 k1 k2 m1 q0
  generalize((w.alloc (.cells #[O E k.t,O E k.se,O E k.we] 137)).alloc (.cells #[] 221))=X at*
  generalize w.1.size+2=N at*
  have B:Hid (N<=X.1.size):=by show N<=X.1.size;rw[ud V];exact U _
  have a4:Nonempty (zm N X):=zm.some _ _
  have a3:=fun(u:zm N X) b o h=>u.cell b o h
  refine zh N (by kernel_rfl) (by kernel_rfl) ?_
  repeat(go_big_quiet_step (first
   |(go_at_call 147;exact Calls.later (ud B) (ud (j _ ((ud m).trans (Below.mono (Subtype.property _) (ud q))))))
   |(go_at_call 118;exact Calls.later (ud B) (ud (A _ ((ud m).trans (Below.mono (Subtype.property _) (ud q))))))))
  refine wpQuiet_nil ?_
  rintro⟨w1,i⟩
  clear a3 a4
  dsimp only
  go_wp2_with fail
  go_ret
  exact⟨rfl,(ud m).trans (i.mono (ud q))⟩
noncomputable def vC (c:Cf) (k:Sg):List WSg:=((K0 c k.t (k.we*c.wh k.t) c.n).map YY).map (Kw k.se)
theorem Jj(c:Cf)(k:Sg):(vC c k).length<=c.n:=by unfold vC;rw[List.length_map,List.length_map];exact zbB _ _ _ _
noncomputable def XZ (c:Cf) (L:LV) (k:Sg):Bool:=((((vC c k).filter (fun x=>(stL L x.1).st==2)).length:Int)==0)
noncomputable def vo (c:Cf) (L:LV) (now:Int) (k:Sg):Bool:=!((stL L k).st==2)&&decide ((k.we+1)*c.wh k.t+c.keep k.t<=now)&&XZ c L k
theorem zfL{w:G}{base:Nat}{e:TypeId}{size:Nat}{v:M}{n:Nat}{xs:List M}(h:w.ownsRow base e size v n xs):∀k,v.ownBlock=Q k->k<w.1.size:=fun k c=>by obtain⟨a,b⟩:=zO h c;exact zd b
theorem Qn:∀args w,(callFunc 147 args).run prog w=.ok (.enter 147 args) w:=enters_of func147 (by kernel_rfl) rfl
theorem zcX{w:G}{s:Nat}{c:Cf}{tv:M}{lb gb:Nat}{Gl:List (Sg×Unit)}{L:LV}(h:xJ w s c tv lb gb Gl L)(o:c.ok)(k:Sg)(v:k.wf)(i: -1<=k.t)(j:k.t<c.n)(l:0<=k.we/\k.we<=100000):
  Calls prog 150 #[.func (.func 196) #[] #[.pointer (Q ⟨w.1.size,0,I⟩),.pointer (Q ⟨w.1.size+1,0,I⟩)],.func (.func 147) #[.pointer (Q ⟨s,0,I⟩)] #[]] ((w.alloc (.cells #[.pointer (Q ⟨s,0,I⟩)] 81)).alloc (.cells #[O E k.t,O E k.se,O E k.we] 137)) fun e w'=>e=.returned (O E ((vC c k).filter (fun x=>(stL L x.1).st==2)).length)/\R ((w.alloc (.cells #[.pointer (Q ⟨s,0,I⟩)] 81)).alloc (.cells #[O E k.t,O E k.se,O E k.we] 137)).1.size ((w.alloc (.cells #[.pointer (Q ⟨s,0,I⟩)] 81)).alloc (.cells #[O E k.t,O E k.se,O E k.we] 137)) w':=by
 obtain⟨z,A,d,b⟩:=box2 w (.cells #[.pointer (Q ⟨s,0,I⟩)] 81) (.cells #[O E k.t,O E k.se,O E k.we] 137)
 have m:=h.later d
 have y:=h.lt
 have a:∀g,tv.ownBlock=Q g->g<w.1.size:=fun g f=>zfL h.trow g f
 refine(zeG (fun x:WSg=>x.1) 196 _ Ya 147 #[.pointer (Q ⟨s,0,I⟩)] #[] Qn (fun x=>(stL L x.1).st==2) _ (fun x W q=>Z1 (m.later q) x.1 x.2)
  (zbU (ex:=fun _=>False) w.1.size (w.1.size+1) s k c o tv lb gb i j l v.2.1 _ (U _) ⟨z,A,m.hd⟩ ⟨by rw[b];omega,fun e=>e⟩ ⟨by rw[b];omega,fun e=>e⟩ ⟨by rw[b];omega,fun e=>e⟩ (fun g f=>⟨by have:=a g f;rw[b];omega,fun e=>e⟩))
  (fun xs e=>by rw[e];have:=Jj c k;have:=o.n4;unfold vC at*;omega)).mono ?_
 rintro e w' ⟨xs,p,u,r⟩
 subst p
 exact⟨u,r⟩
theorem Qr{w:G}{s:Nat}{c:Cf}{tv:M}{lb gb:Nat}{Gl:List (Sg×Unit)}{L:LV}(h:xJ w s c tv lb gb Gl L)(hc:c.ok)(k:Sg)(hk:k.wf)(bl: -1<=k.t)(bm:k.t<c.n)(aQ:0<=k.we/\k.we<=100000)(now:Int)(bn:0<=now/\now<=100000)
  (Bp Bn:Nat) (b2:w.cell? ⟨Bp,0,I⟩=Q (.pointer (Q ⟨s,0,I⟩))) (b3:w.cell? ⟨Bn,0,I⟩=Q (O E now)) (l2:Bp<w.1.size) (l3:Bn<w.1.size):
  Calls prog 148 #[.agg #[O E k.t,O E k.se,O E k.we],.pointer (Q ⟨Bp,0,I⟩),.pointer (Q ⟨Bn,0,I⟩)] w fun e w'=>e=.returned (.bool (vo c L now k))/\R w.1.size w w':=by
 obtain⟨a,cap,rfl⟩:=zq h.trow
 have K:=h.lt
 have j:R w.1.size w (w.alloc (.cells #[O E k.t,O E k.se,O E k.we] 137)):=(T _ _).alloc (U _) _
 have y0:=zo w (.cells #[O E k.t,O E k.se,O E k.we] 137)
 have yz:=zF w (.cells #[O E k.t,O E k.se,O E k.we] 137)
 obtain⟨c0,c1,c2,c3,c4,c5,c6,-,-⟩:=h.cells
 have D:=fun W hW=>ze (Z1 (h.later (w':=W) hW) k hk)
 have a0:=fun W hW=>ze (Jt c hc a cap k.t k.we bl bm aQ W ((TS.of_owns h.trow).below (w':=W) hW))
 have aK:=fun W=>ze (Kk s k W)
 have af:=fun W hW=>ze (zcX (h.later (w':=W) hW) hc k hk bl bm aQ)
 obtain⟨v,hv⟩:∃v,stL L k=v:=⟨_,rfl⟩
 obtain⟨u,hu⟩:∃u,(k.we+1)*c.wh k.t+c.keep k.t=u:=⟨_,rfl⟩
 obtain⟨q,hq⟩:∃q:Nat,((vC c k).filter (fun x=>(stL L x.1).st==2)).length=q:=⟨_,rfl⟩
 have bq:Hid (vo c L now k=(!(v.st==2)&&decide (u<=now)&&((q:Int)==0))):=by show vo c L now k=_;unfold vo XZ;rw[hv,hu,hq]
 rw[ud bq]
 rw[hv]at D
 rw[hu]at a0
 rw[hq]at af
 have bb:=(j.cell (p:=⟨Bp,0,I⟩) l2).trans b2
 have bc:=(j.cell (p:=⟨Bn,0,I⟩) l3).trans b3
 have bd:=(j.cell (p:=⟨s,0,I⟩) K).trans c0
 have be:=(j.cell (p:=⟨s,1,I⟩) K).trans c1
 have bf:=(j.cell (p:=⟨s,2,I⟩) K).trans c2
 have bg:=(j.cell (p:=⟨s,3,I⟩) K).trans c3
 have bh:=(j.cell (p:=⟨s,4,I⟩) K).trans c4
 have bi:=(j.cell (p:=⟨s,5,I⟩) K).trans c5
 have bj:=(j.cell (p:=⟨s,6,I⟩) K).trans c6
 obtain⟨bk,aH,aI,-⟩:=zc y0
 have y:s<(w.alloc (.cells #[O E k.t,O E k.se,O E k.we] 137)).1.size:=by rw[yz];omega
 have ad:Bp<(w.alloc (.cells #[O E k.t,O E k.se,O E k.we] 137)).1.size:=by rw[yz];omega
 have ae:Bn<(w.alloc (.cells #[O E k.t,O E k.se,O E k.we] 137)).1.size:=by rw[yz];omega
 have J:w.1.size<(w.alloc (.cells #[O E k.t,O E k.se,O E k.we] 137)).1.size:=by rw[yz];omega
 have C:=ze j
 have ag:=D _ j
 have P:=D (w.alloc (.cells #[O E k.t,O E k.se,O E k.we] 137)).drew j.drew
 clear h hc hv hu hq b2 b3 j y0 yz c0 c1 c2 c3 c4 c5 c6 aQ hk bn
 cases ah:(v.st==2)with
 |true=>
  rw[ah]at D
  clear ah ag P
  have aN:Hid ((w.alloc (.cells #[O E k.t,O E k.se,O E k.we] 137)).1.size=w.1.size+1):=zF w _
  go_enter func148,ntmps148
  go_wp2_with fail
  have r1:w.1.size<w.1.size+1:=by omega
  have r2:Bp<w.1.size+1:=by omega
  have r3:Bn<w.1.size+1:=by omega
  have r4:s<w.1.size+1:=by omega
  have H:Hid (w.1.size<=w.1.size+1):=by show w.1.size<=w.1.size+1;omega
  clear y ad ae J
  generalize(w.alloc (.cells #[O E k.t,O E k.se,O E k.we] 137))=X at*
  generalize w.1.size+1=N at*
  have a2:Hid (N<=X.1.size):=by show N<=X.1.size;rw[ud aN];exact U _
  have aS:Nonempty (zm N X):=zm.some _ _
  have aR:=fun(u:zm N X) b o h=>u.cell b o h
  refine zh N (by kernel_rfl) (by kernel_rfl) ?_
  repeat(go_big_quiet_step (first
   |(go_at_call 147;exact Calls.later (ud a2) (ud (D _ ((ud C).trans (Below.mono (Subtype.property _) (ud H))))))
   |(go_at_call 149;exact Calls.later (ud a2) (ud (a0 _ ((ud C).trans (Below.mono (Subtype.property _) (ud H))))))))
  refine wpQuiet_nil ?_
  rintro⟨w1,j⟩
  clear aR aS
  dsimp only
  go_wp2_with fail
  go_ret
  exact⟨rfl,(ud C).trans (j.mono (ud H))⟩
 |false=>
  rw[ah]at D ag P
  clear ah
  by_cases bo:u<=now
  ·have hd:decide (u<=now)=true:=by simpa using bo
   rw[hd]
   clear D
   go_enter func148,ntmps148
   go_wp2_with fail
   generalize(w.alloc (.cells #[O E k.t,O E k.se,O E k.we] 137))=X at*
   go_region_held3 (fun w'=>w'.cell? ⟨Bp,0,I⟩=Q (.pointer (Q ⟨s,0,I⟩))/\w'.cell? ⟨Bn,0,I⟩=Q (O E now)/\w'.cell? ⟨s,0,I⟩=Q (O E c.s)/\w'.cell? ⟨s,1,I⟩=Q (O E c.le)/\w'.cell? ⟨s,2,I⟩=Q (O E c.la)/\w'.cell? ⟨s,3,I⟩=Q (O E c.wi)/\w'.cell? ⟨s,4,I⟩=Q (O E c.ke)/\w'.cell? ⟨s,5,I⟩=Q (O E c.qu)/\w'.cell? ⟨s,6,I⟩=Q (.slice a c.n cap)/\w'.cell? ⟨w.1.size,0,I⟩=Q (O E k.t)/\w'.cell? ⟨w.1.size,1,I⟩=Q (O E k.se)/\w'.cell? ⟨w.1.size,2,I⟩=Q (O E k.we)) (go_keep) (first
    |(go_at_call 147;(first|refine(ud ag).mono ?_|refine(ud P).mono ?_);rintro e V1 ⟨rfl,z⟩;have d:R X.1.size X V1:=⟨z.os,z.tape,z.output,z.size,z.block⟩;have a7:=d.size;have l:=Y y a7;have a5:=Y ad a7;have a6:=Y ae a7;have F:=Y J a7;have aj:=(d.cell (p:=⟨Bp,0,I⟩) ad).trans bb;have ak:=(d.cell (p:=⟨Bn,0,I⟩) ae).trans bc;have al:=(d.cell (p:=⟨s,0,I⟩) y).trans bd;have am:=(d.cell (p:=⟨s,1,I⟩) y).trans be;have an:=(d.cell (p:=⟨s,2,I⟩) y).trans bf;have ao:=(d.cell (p:=⟨s,3,I⟩) y).trans bg;have ap:=(d.cell (p:=⟨s,4,I⟩) y).trans bh;have aq:=(d.cell (p:=⟨s,5,I⟩) y).trans bi;have ar:=(d.cell (p:=⟨s,6,I⟩) y).trans bj;have au:=(d.cell (p:=⟨w.1.size,0,I⟩) J).trans bk;have a3:=(d.cell (p:=⟨w.1.size,1,I⟩) J).trans aH;have a4:=(d.cell (p:=⟨w.1.size,2,I⟩) J).trans aI;have V:=(ud C).trans (d.mono (ud C).size);have aV:=a0 V1 V;have aL:=a0 V1.drew V.drew;have ai:=ze V;clear z d V a7 a0 bb bc bd be bf bg bh bi bj bk aH aI y ad ae J)
    |(go_at_call 149;(first|refine(ud aV).mono ?_|refine(ud aL).mono ?_);rintro e V2 ⟨rfl,A⟩;have f:R V1.1.size V1 V2:=⟨A.os,A.tape,A.output,A.size,A.block⟩;have aa:=f.size;have m:=Y l aa;have aF:=Y a5 aa;have aG:=Y a6 aa;have S:=Y F aa;have av:=(f.cell (p:=⟨Bp,0,I⟩) a5).trans aj;have aw:=(f.cell (p:=⟨Bn,0,I⟩) a6).trans ak;have ax:=(f.cell (p:=⟨s,0,I⟩) l).trans al;have ay:=(f.cell (p:=⟨s,1,I⟩) l).trans am;have az:=(f.cell (p:=⟨s,2,I⟩) l).trans an;have aA:=(f.cell (p:=⟨s,3,I⟩) l).trans ao;have aB:=(f.cell (p:=⟨s,4,I⟩) l).trans ap;have aC:=(f.cell (p:=⟨s,5,I⟩) l).trans aq;have aD:=(f.cell (p:=⟨s,6,I⟩) l).trans ar;have aE:=(f.cell (p:=⟨w.1.size,0,I⟩) F).trans au;have a8:=(f.cell (p:=⟨w.1.size,1,I⟩) F).trans a3;have a9:=(f.cell (p:=⟨w.1.size,2,I⟩) F).trans a4;have Z:=(ud ai).trans (f.mono (ud ai).size);have aW:=aK V2;have aM:=aK V2.drew;have aU:=af V2 Z;have aJ:=af V2.drew Z.drew;have a1:=ze Z;clear A f Z aa af aK aj ak al am an ao ap aq ar au a3 a4 l a5 a6 F)
    |(go_at_call 151;(first|refine(ud aW).mono ?_|refine(ud aM).mono ?_);rintro e V3 ⟨rfl,rfl⟩;obtain⟨-,-,g,-⟩:=box2 V2 (.cells #[.pointer (Q ⟨s,0,I⟩)] 81) (.cells #[O E k.t,O E k.se,O E k.we] 137);have ac:=g.size;have r:=Y m ac;have b9:=Y aF ac;have ba:=Y aG ac;have ab:=Y S ac;have aX:=(g.cell (p:=⟨Bp,0,I⟩) aF).trans av;have aY:=(g.cell (p:=⟨Bn,0,I⟩) aG).trans aw;have aZ:=(g.cell (p:=⟨s,0,I⟩) m).trans ax;have b0:=(g.cell (p:=⟨s,1,I⟩) m).trans ay;have b1:=(g.cell (p:=⟨s,2,I⟩) m).trans az;have b4:=(g.cell (p:=⟨s,3,I⟩) m).trans aA;have b5:=(g.cell (p:=⟨s,4,I⟩) m).trans aB;have b6:=(g.cell (p:=⟨s,5,I⟩) m).trans aC;have b7:=(g.cell (p:=⟨s,6,I⟩) m).trans aD;have b8:=(g.cell (p:=⟨w.1.size,0,I⟩) S).trans aE;have aO:=(g.cell (p:=⟨w.1.size,1,I⟩) S).trans a8;have aP:=(g.cell (p:=⟨w.1.size,2,I⟩) S).trans a9;have aT:=ze g;clear ac g av aw ax ay az aA aB aC aD aE a8 a9)
    |(go_at_call 150;(first|refine(ud aU).mono ?_|refine(ud aJ).mono ?_);rintro e V4 ⟨rfl,B⟩;have i:R ((V2.alloc (.cells #[.pointer (Q ⟨s,0,I⟩)] 81)).alloc (.cells #[O E k.t,O E k.se,O E k.we] 137)).1.size ((V2.alloc (.cells #[.pointer (Q ⟨s,0,I⟩)] 81)).alloc (.cells #[O E k.t,O E k.se,O E k.we] 137)) V4:=⟨B.os,B.tape,B.output,B.size,B.block⟩;have bt:=(i.cell (p:=⟨Bp,0,I⟩) b9).trans aX;have bu:=(i.cell (p:=⟨Bn,0,I⟩) ba).trans aY;have bv:=(i.cell (p:=⟨s,0,I⟩) r).trans aZ;have bw:=(i.cell (p:=⟨s,1,I⟩) r).trans b0;have bx:=(i.cell (p:=⟨s,2,I⟩) r).trans b1;have bz:=(i.cell (p:=⟨s,3,I⟩) r).trans b4;have bA:=(i.cell (p:=⟨s,4,I⟩) r).trans b5;have bB:=(i.cell (p:=⟨s,5,I⟩) r).trans b6;have bC:=(i.cell (p:=⟨s,6,I⟩) r).trans b7;have bD:=(i.cell (p:=⟨w.1.size,0,I⟩) ab).trans b8;have br:=(i.cell (p:=⟨w.1.size,1,I⟩) ab).trans aO;have bs:=(i.cell (p:=⟨w.1.size,2,I⟩) ab).trans aP;have bp:=ze i;clear B i))
   all_goals(go_wp2_with fail)
   all_goals go_ret
   all_goals(exact⟨rfl,((ud a1).trans ((ud aT).mono (ud a1).size)).trans ((ud bp).mono (z3 (ud a1).size (ud aT).size))⟩)
  ·have hd:decide (u<=now)=false:=by simpa using bo
   rw[hd]
   clear ag P
   have aN:Hid ((w.alloc (.cells #[O E k.t,O E k.se,O E k.we] 137)).1.size=w.1.size+1):=zF w _
   go_enter func148,ntmps148
   go_wp2_with fail
   have r1:w.1.size<w.1.size+1:=by omega
   have r2:Bp<w.1.size+1:=by omega
   have r3:Bn<w.1.size+1:=by omega
   have r4:s<w.1.size+1:=by omega
   have H:Hid (w.1.size<=w.1.size+1):=by show w.1.size<=w.1.size+1;omega
   clear y ad ae J
   generalize(w.alloc (.cells #[O E k.t,O E k.se,O E k.we] 137))=X at*
   generalize w.1.size+1=N at*
   have a2:Hid (N<=X.1.size):=by show N<=X.1.size;rw[ud aN];exact U _
   have aS:Nonempty (zm N X):=zm.some _ _
   have aR:=fun(u:zm N X) b o h=>u.cell b o h
   refine zh N (by kernel_rfl) (by kernel_rfl) ?_
   repeat(go_big_quiet_step (first
    |(go_at_call 147;exact Calls.later (ud a2) (ud (D _ ((ud C).trans (Below.mono (Subtype.property _) (ud H))))))
    |(go_at_call 149;exact Calls.later (ud a2) (ud (a0 _ ((ud C).trans (Below.mono (Subtype.property _) (ud H))))))))
   refine wpQuiet_nil ?_
   rintro⟨w1,j⟩
   clear aR aS
   dsimp only
   go_wp2_with fail
   go_ret
   exact⟨rfl,(ud C).trans (j.mono (ud H))⟩
attribute [local go_sem] Oper.semAt_some
def inR(c:Cf)(s:Sg):Prop:=s.wf/\ -1<=s.t/\s.t<c.n/\0<=s.we/\s.we<=100000
abbrev RSg(c:Cf):={s:Sg//inR c s}
theorem zhA(c:Cf):inR c ⟨-1,0,0⟩:=⟨by refine⟨?_,?_,?_⟩<;>(unfold yS;simp),by simp,by show(-1:Int)<c.n;omega,by simp,by simp⟩
noncomputable def zdE (c:Cf) (s:Sg):RSg c:=by classical exact if h:inR c s then⟨s,h⟩else⟨⟨-1,0,0⟩,zhA c⟩
theorem kG{c:Cf}{s:Sg}(h:inR c s):(zdE c s).1=s:=by unfold zdE;rw[dif_pos h]
theorem jF{c:Cf}(g:c.ok){k:Sg}(a:inR c k)(x:Sg):x∈(vC c k).map (·.1)↔x∈kg c k:=by
 have d:0<=k.we*c.wh k.t/\k.we*c.wh k.t<=1000000000:=by
  obtain⟨l,f⟩:=g.wh a.2.1 a.2.2.1
  have m:=a.2.2.2
  constructor
  ·exact Int.mul_nonneg (by omega) (by omega)
  ·have:=Int.mul_le_mul (show k.we<=100000 by omega) f (by omega) (by omega);omega
 have e:(vC c k).map (·.1)=kg c k:=by
  unfold vC kg
  rw[List.map_map,List.map_map]
  apply List.map_congr_left
  intro p h
  unfold K0 at h
  obtain⟨i,j,rfl⟩:=List.mem_map.1 h
  have b:i<c.n:=by have:=(List.mem_filter.1 j).1;simpa using this
  simp only[Function.comp]
  rw[Kx a.1.2.1,zal (zel g d b)]
 rw[e]
theorem zkT{X:G}{a:Nat}{b:List (Sg×Unit)}(h:xh XD X a b)(c:b.length<maxLen){s:Sg}(d:s.wf):
  ∃o,(Instr.mapUpdate 138 (.map (Q a)) (.agg #[O E s.t,O E s.se,O E s.we]) (.agg #[])).run prog X=.ok () (setBlock X a o)/\xh XD (setBlock X a o) a (qt b s ())/\zk (fun k=>k=a) X (setBlock X a o)/\o.isCells=false:=
 vQ Y8 h c d ()
theorem zey(w:G)(a b c:Obj):(((w.alloc a).alloc b).alloc c).1[w.1.size]?=Q a/\(((w.alloc a).alloc b).alloc c).1[w.1.size+1]?=Q b/\(((w.alloc a).alloc b).alloc c).1[w.1.size+2]?=Q c/\R w.1.size w (((w.alloc a).alloc b).alloc c)/\(((w.alloc a).alloc b).alloc c).1.size=w.1.size+3:=by
 obtain⟨e,f,g,d⟩:=box2 w a b
 refine⟨(Below.heap_alloc _ _ _ (by rw[d];omega)).trans e,(Below.heap_alloc _ _ _ (by rw[d];omega)).trans f,?_,g.alloc (by rw[d];omega) _,by simp⟩
 have:=zo ((w.alloc a).alloc b) c
 rw[d]at this;exact this
theorem jY{n m b:Nat}{W c:G}(h:zk (fun k=>k=b) W c)(f:b<m):KX (fun k=>k=b) n m W c:=
 ⟨h.mono (fun k _ e=> .inl e),fun k o d a _=>h.heap a d,fun k o d a=>h.heap a (by omega)⟩
theorem YK.deep{α:Type}{n n':Nat}{P:Program}{g:Nat}{lb:Array M}{encs:α->Array M}{Kp:G->G->Prop}{S c:List α->Prop}{N m:Nat}{w:G}(h:YK Fence.wide n P g lb encs Kp S c N m w):YK Fence.wide n' P g lb encs Kp S c N m w:=
 fun l J d W i o f a j e=>callsIn_wide.2 (callsIn_wide.1 (h l J d W i o f a (fun b x V hv k=>kP rfl (j b x V hv k)) e))
theorem ZC{B b:Nat}{W a:G}(h:zk (fun k=>k=b) W a)(d:b<B):KeepsFrom B W a:=⟨h.size,fun k o e c _=>h.heap c (by omega)⟩
theorem xJ.kx{ex:Nat->Prop}{n m:Nat}{W a:G}{s:Nat}{c:Cf}{tv:M}{lb gb:Nat}{Gl:List (Sg×Unit)}{L:LV}(h:xJ W s c tv lb gb Gl L)(f:KX ex n m W a)(b:∀k,ZI s tv lb gb k->k<n/\¬ex k):xJ a s c tv lb gb Gl L:=
 h.kept f.kept (fun k d e=>by have:=b k d;exact e.elim this.2 (by omega))
theorem xJ.foot_lt{W:G}{s:Nat}{c:Cf}{tv:M}{lb gb:Nat}{Gl:List (Sg×Unit)}{L:LV}(h:xJ W s c tv lb gb Gl L):∀k,ZI s tv lb gb k->k<W.1.size:=fun k a=>by
 rcases a with rfl|a|rfl|rfl
 ·exact h.lt
 ·exact zfL h.trow k a
 ·exact h.live.lt
 ·exact h.gone.lt
theorem zfo{ex:Nat->Prop}{n m c d:Nat}{V W:G}(h:KX ex c d V W)(hn:n<=c)(f:V.1.size<=c)(b:∀k,ex k->k<m):KX ex n m V W:=
 ⟨h.kept.mono (fun k _ e=>e.imp id (fun e=>by omega)),h.walk,fun k o g a=>(h.low (by have:=zd a;omega) (fun e=>by have:=b k e;omega) (zd a)).trans a⟩
theorem zaB{w:G}{s:Nat}{c:Cf}{tv:M}{lb gb:Nat}{Gl:List (Sg×Unit)}{L:LV}(h:xJ w s c tv lb gb Gl L)(hc:c.ok)(hL:∀p∈L,inR c p.1)(bH:L.length<=2000):
  Calls prog 143 #[.pointer (Q ⟨s,0,I⟩)] w fun e w'=>∃ob C,e=.returned (.map (Q ob))/\xh XD w' ob C/\(∀x,x∈zv C↔∃k,k∈zx L/\(stL L k).st=2/\x∈kg c k)/\w.1.size<=ob/\R w.1.size w w':=by
 have bz:=h.lt
 obtain⟨y0,y1,y2,aw,yz⟩:=zey w (.cells #[.pointer (Q ⟨s,0,I⟩)] 81) (.map #[] 0) (.cells #[.map (Q (w.1.size+1))] 138)
 obtain⟨-,-,-,-,-,-,-,c7,-⟩:=h.cells
 have ar:=fun W=>ze (Vh lb W)
 have av:=fun gf bE W=>ze (VW gf bE 147 #[.pointer (Q ⟨s,0,I⟩)] #[] W)
 obtain⟨p0,-⟩:=zc y0
 have x7:=(aw.cell (p:=⟨s,7,I⟩) bz).trans c7
 have az:w.1.size<(((w.alloc (.cells #[.pointer (Q ⟨s,0,I⟩)] 81)).alloc (.map #[] 0)).alloc (.cells #[.map (Q (w.1.size+1))] 138)).1.size:=by rw[yz];omega
 have aB:s<(((w.alloc (.cells #[.pointer (Q ⟨s,0,I⟩)] 81)).alloc (.map #[] 0)).alloc (.cells #[.map (Q (w.1.size+1))] 138)).1.size:=by rw[yz];omega
 have H:=ze h
 have Y0:=ze y0
 have Y1:=ze y1
 have Y2:=ze y2
 have YZ:=ze yz
 have b5:=ze aw
 have HC:=ze hc
 have HL:=ze hL
 clear h y0 y1 y2 yz aw hc hL c7
 refine(callsIn_wide (n:=7)).1 ?_
 refine callsIn_of_wp_marks func143 rfl trivial ?_ rfl
 simp only[ntmps143,List.size_toArray,List.length_cons,List.length_nil,Nat.reduceAdd,Nat.reduceSub,Array.replicate_succ,Array.replicate_zero,List.push_toArray,List.append_toArray,List.nil_append,List.cons_append]
 refine wpIn_wide.2 ?_
 have bQ:= @run_makeMap prog
 go_wp2_with fail
 generalize(((w.alloc (.cells #[.pointer (Q ⟨s,0,I⟩)] 81)).alloc (.map #[] 0)).alloc (.cells #[.map (Q (w.1.size+1))] 138))=X at*
 go_region_held3 (fun w'=>w'.cell? ⟨w.1.size,0,I⟩=Q (.pointer (Q ⟨s,0,I⟩))/\w'.cell? ⟨s,7,I⟩=Q (.map (Q lb))) (go_keep) (first
  |(go_at_call 145;(first|refine(ud (ar X)).mono ?_|refine(ud (ar X.drew)).mono ?_);rintro e b ⟨rfl,ai⟩;have Z:R X.1.size X b:=(by rw[ai];first|exact(T _ _).alloc (U _) _|exact(T X.1.size X).drew.alloc (U _) _);have aW:b.1.size=X.1.size+1:=(by rw[ai];exact zF _ _);have aP:b.1[X.1.size]?=Q (.cells #[.map (Q lb)] 135 (0,0)):=(by rw[ai];exact zo _ _);have p1:=(Z.cell (p:=⟨w.1.size,0,I⟩) az).trans p0;have b0:=(Z.cell (p:=⟨s,7,I⟩) aB).trans x7;have an:=Y az Z.size;have ao:=Y aB Z.size;have af:=ze Z;have br:=ze aW;have bf:=ze aP;clear ai Z aW aP)
  |(go_at_call 144;(first|refine(ud (av _ _ b)).mono ?_|refine(ud (av _ _ b.drew)).mono ?_);rintro e a ⟨rfl,aN⟩;have ae:a.1[b.1.size]?=Q (.cells #[.func (.func 192) #[] #[.pointer (Q ⟨X.1.size,0,I⟩)]] 179 (0,0))/\a.1[b.1.size+1]?=Q (.cells #[.func (.func 147) #[.pointer (Q ⟨s,0,I⟩)] #[]] 226 (0,0))/\R b.1.size b a/\a.1.size=b.1.size+2:=(by rw[aN];first|exact box2 b _ _|exact(by obtain⟨a1,a2,a3,a4⟩:=box2 b.drew (.cells #[.func (.func 192) #[] #[.pointer (Q ⟨X.1.size,0,I⟩)]] 179) (.cells #[.func (.func 147) #[.pointer (Q ⟨s,0,I⟩)] #[]] 226);exact⟨a1,a2,⟨a3.os,a3.tape,a3.output,a3.size,a3.block⟩,a4⟩));obtain⟨ax,aO,aj,aX⟩:=ae;have p2:=(aj.cell (p:=⟨w.1.size,0,I⟩) an).trans p1;have bF:=(aj.cell (p:=⟨s,7,I⟩) ao).trans b0;have bh:=ze ax;have ba:=ze aO;have ag:=ze aj;have bs:=ze aX;clear aN ax aO aj aX))
 all_goals
  go_wp2_with fail
  have e0:X.1.size=w.1.size+3:=ud YZ
  have e1:b.1.size=w.1.size+4:=by rw[ud br,e0]
  have e2:a.1.size=w.1.size+6:=by rw[ud bs,e1]
  have j:R X.1.size X a:=(ud af).trans ((ud ag).mono (ud af).size)
  have ae:R w.1.size w a:=(ud b5).trans (j.mono (by omega))
  have f:=(ud H).later ae
  have ak:=(ud H).foot_lt
  have aM:=(j.block _ (by omega)).trans (ud Y0)
  have aK:=(j.block _ (by omega)).trans (ud Y1)
  have aL:=(j.block _ (by omega)).trans (ud Y2)
  have aS:=((ud ag).block _ (by omega)).trans (ud bf)
  have a7:xh XD a (w.1.size+1) []:=⟨#[],0,aK,⟨rfl,by simp,by simp,by simp,by simp[zv],by simp⟩⟩
  have aa:=zaR (fun x:RSg c=>x.1) (zdE c) (ex:=fun k=>k=w.1.size+1) (n:=w.1.size+6) X.1.size lb L (fun p hp=>kG (ud HL p hp)) a (by have:=ak lb (.inr (.inr (.inl rfl)));omega) (by omega) (by rw[zN aS];rfl) (yW.1 f.live)
  have ab:=Xs (fun x:RSg c=>x.1) 192 #[.pointer (Q ⟨X.1.size,0,I⟩)] zaM 147 #[.pointer (Q ⟨s,0,I⟩)] #[] Qn (fun x=>(stL L x.1).st==2) b.1.size (b.1.size+1) a (by omega) ⟨by omega,by omega⟩ ⟨by omega,by omega⟩ (ud bh) (ud ba)
   (fun x W ⟨m,hk⟩=>Z1 (f.kx hk (fun k hh=>by have:=ak k hh;constructor<;>omega)) x.1 x.2.1) aa
  have bp:=ze ab
  have bK:=ze e0
  have bL:=ze e1
  have i:=ze e2
  have aG:=ze f
  have bn:=ze aM
  have aD:=ze aL
  have bi:=ze a7
  have ah:=ze ak
  have bq:=ze ae
  have bb:=fun(x:RSg c) W=>ze (Kk s x.1 W)
  clear aa ab e0 e1 e2 f aM aL aK a7 ak ae j aS p2 bF p1 b0 p0 x7 az aB an ao ar av
  refine(wpIn_wide (n:=7)).1 ?_
  refine yG (F:=Fence.wide) (n:=7) rfl (by omega) (gf:=191) (lb:=#[.pointer (Q ⟨b.1.size,0,I⟩),.pointer (Q ⟨b.1.size+1,0,I⟩)]) rfl trivial VV (ud bp (a.1.size+2) (by omega)) (U _) (fun h k=>h.trans k) (fun W o o' h hc hw=>KX.putObj o' (by have:=ud i;omega) (by omega) h hw) (T _ _) (fun _=>rfl)
   (fun u W=>(∃C,xh XD W (w.1.size+1) C/\(∀x,x∈zv C↔∃k∈u,x∈kg c k.1)/\C.length<=4*u.length)/\KX (fun k=>k=w.1.size+1) (w.1.size+6) (a.1.size+2) a W)
   (fun _ _ _=>False)
   (fun s A B row hs hg hr=>⟨by obtain⟨C,S,b2⟩:=hs.1;exact⟨C,S.same (hg.block _ S.lt (fun e=>by have:=(hr _ e.symm).1;have:=ud i;omega)),b2⟩,KX.own (β:=Unit) (q:=a.1.size) (U _) () A B row hs.2 hg hr⟩)
   (fun _ _ _ _ _ hs _ _=>hs)
   ⟨⟨[],ud bi,fun x=>by simp[zv],by simp⟩,KX.refl _ _ _ _⟩
   (fun x a' W=>∃Bx,a.1.size<=Bx/\W.1[Bx]?=Q (.cells #[O E x.1.t,O E x.1.se,O E x.1.we] 137 (0,0))/\a'={tmps:=#[.pointer (Q ⟨s,0,I⟩),.pointer (Q ⟨w.1.size,0,I⟩),.map I,.pointer (Q ⟨w.1.size+1+1,0,I⟩),.pointer (Q ⟨Bx,0,I⟩),undef,.map (Q (w.1.size+1)),.pointer (Q ⟨s,0,I⟩),.pointer (Q ⟨s,0,I⟩),.pointer (Q ⟨s,7,I⟩),.map (Q lb),.func (.func 192) #[] #[.pointer (Q ⟨X.1.size,0,I⟩)],.pointer (Q ⟨s,0,I⟩),.func (.func 147) #[.pointer (Q ⟨s,0,I⟩)] #[],.func (.func 191) #[] #[.pointer (Q ⟨b.1.size,0,I⟩),.pointer (Q ⟨b.1.size+1,0,I⟩)],.agg #[O E x.1.t,O E x.1.se,O E x.1.we],undef,undef,undef,undef,undef,undef,undef,undef],defers:=[]})
   (fun x a' s A B row hs hg hr=>by
    obtain⟨Bx,h1,h2,h3⟩:=hs
    exact⟨Bx,h1,zG h2 hg (fun r e=>(hr r e).2),h3⟩) ?assign ?body ?done ?stop
  case assign=>
   rintro l u x W K ⟨⟨C,S,b2⟩,i2⟩ hK
   have HK:=ze hK
   have aY:=i2.kept.size
   clear hK
   gi_wp2
   have d:=(T W.1.size W).alloc (U _) (.cells #[O E x.1.t,O E x.1.se,O E x.1.we] 137)
   refine ud HK _ _ (zu d) (KX.of_below d) ⟨⟨C,S.later d,b2⟩,i2.trans (KX.of_below d)⟩ ⟨W.1.size,aY,zo _ _,rfl⟩
  case body=>
   rintro l u x a' W hl ⟨r,hr⟩ ⟨⟨C,S,b2,b3⟩,i2⟩ ⟨Bx,aJ,hx,rfl⟩ bP
   have aY:=i2.kept.size
   have e2:a.1.size=w.1.size+6:=ud i
   have aA:=qc i2 (ud bn) (by omega) (by omega)
   have a0:=qc i2 (ud aD) (by omega) (by omega)
   have ac:=(ud aG).kx i2 (fun k hh=>by have:=ud ah k hh;constructor<;>omega)
   obtain⟨sc,-⟩:=zc aA
   obtain⟨bB,bC,bD,-⟩:=zc hx
   have bN:=zd hx
   have bR:=zd aA
   obtain⟨v0,v1,vb,vz⟩:=box2 W (.cells #[.pointer (Q ⟨s,0,I⟩)] 81) (.cells #[O E x.1.t,O E x.1.se,O E x.1.we] 137)
   have bx:=zd hr
   have aE:=ze ((vb.block l bx).trans hr)
   have aH:=ze v0
   have aI:=ze v1
   have N:=ze vb
   have a6:=ze vz
   have bl:=ze a0
   have aF:=ze ac
   have bd:=ze i2
   have b7:=ze S
   have b6:=ze b2
   have b8:=ze b3
   have bc:=bb x W
   have bO:u.length<2000:=by omega
   have bG:=aJ
   clear v0 v1 vb vz aA a0 ac i2 S b2 b3 hx hr e2 aJ
   gi_wp2_with (first|(refine⟨trivial,?_⟩;gi_at_call 151;refine(CallsIn.inRound l (callsIn_wide.2 (ud bc))).mono ?_;rintro e V ⟨rfl,hV⟩;rw[<-hV]at aE aH aI N a6;clear hV)|gi_in)
   have e2:a.1.size=w.1.size+6:=ud i
   have vz:V.1.size=W.1.size+2:=ud a6
   have ad:=(ud aF).later (ud N)
   have a8:=(ud b7).later (ud N)
   have aU:=((ud N).block _ (by omega)).trans (ud bl)
   have a9:=zbU (ex:=fun k=>k=w.1.size+1) (n:=V.1.size) W.1.size (W.1.size+1) s x.1 c (ud HC) tv lb gb x.2.2.1 x.2.2.2.1 x.2.2.2.2 x.2.1.2.1 V (U _) ⟨ud aH,ud aI,ad.hd⟩ ⟨by omega,by omega⟩ ⟨by omega,by omega⟩ ⟨by have:=ud ah s (.inl rfl);omega,by have:=ud ah s (.inl rfl);omega⟩ (fun g hg=>by have:=ud ah g (.inr (.inl hg));constructor<;>omega)
   have bo:=ze a9
   have bk:=ze a8
   have bm:=ze aU
   clear a9 ad a8 aU vz e2 sc bB bC bD
   refine zie (F:=Fence.wide.inRound l) (n:=5) (l₀:=l) (r₀:=r) rfl (ud aE) (by omega) (gf:=196) (lb:=#[.pointer (Q ⟨W.1.size,0,I⟩),.pointer (Q ⟨W.1.size+1,0,I⟩)]) rfl trivial Ya (((ud bo (V.1.size+1) (by omega)).deep (n':=4)).inRound l) (U _) (fun h k=>h.trans k) (fun W o o' h hc hw=>KX.putObj o' (U _) (by omega) h hw) (T _ _) (fun _=>rfl)
    (fun v P=>(∃J,xh XD P (w.1.size+1) J/\(∀y,y∈zv J↔(∃k∈u,y∈kg c k.1)\/y∈v.map (fun z:WSg=>z.1))/\J.length<=4*u.length+v.length)/\KX (fun k=>k=w.1.size+1) V.1.size (V.1.size+1) V P)
    (fun _ _ _=>False)
    (fun s A B row hs hg hr=>⟨by obtain⟨C,S,b2⟩:=hs.1;exact⟨C,S.same (hg.block _ S.lt (fun e=>by have:=(hr _ e.symm).1;have:=ud i;have:=ud a6;omega)),b2⟩,KX.own (β:=Unit) (q:=V.1.size) (U _) () A B row hs.2 hg hr⟩)
    (fun _ _ _ _ _ hs _ _=>hs)
    ⟨⟨C,ud bk,fun y=>by rw[ud b6 y];simp,by simpa using ud b8⟩,KX.refl _ _ _ _⟩
    (fun y a' P=>∃By,V.1.size<=By/\P.1[By]?=Q (.cells #[O E y.1.t,O E y.1.se,O E y.1.we] 137 (0,0))/\a'={tmps:=#[.pointer (Q ⟨s,0,I⟩),.pointer (Q ⟨w.1.size,0,I⟩),.map I,.pointer (Q ⟨w.1.size+1+1,0,I⟩),.pointer (Q ⟨Bx,0,I⟩),.pointer (Q ⟨By,0,I⟩),.map (Q (w.1.size+1)),.pointer (Q ⟨s,0,I⟩),.pointer (Q ⟨s,0,I⟩),.pointer (Q ⟨s,7,I⟩),.map (Q lb),.func (.func 192) #[] #[.pointer (Q ⟨X.1.size,0,I⟩)],.pointer (Q ⟨s,0,I⟩),.func (.func 147) #[.pointer (Q ⟨s,0,I⟩)] #[],.func (.func 191) #[] #[.pointer (Q ⟨b.1.size,0,I⟩),.pointer (Q ⟨b.1.size+1,0,I⟩)],.agg #[O E x.1.t,O E x.1.se,O E x.1.we],.pointer (Q ⟨s,0,I⟩),.agg #[O E x.1.t,O E x.1.se,O E x.1.we],.func (.func 196) #[] #[.pointer (Q ⟨W.1.size,0,I⟩),.pointer (Q ⟨W.1.size+1,0,I⟩)],.agg #[O E y.1.t,O E y.1.se,O E y.1.we],undef,undef,undef,undef],defers:=[]})
    (fun y a' s A B row hs hg hr=>by
     obtain⟨By,h1,h2,h3⟩:=hs
     exact⟨By,h1,zG h2 hg (fun r e=>(hr r e).2),h3⟩) ?assign2 ?body2 ?done2 ?stop2
   case assign2=>
    rintro l2 v y P K ⟨⟨J,d1,d2⟩,j2⟩ hK
    have HK:=ze hK
    have aZ:=j2.kept.size
    clear hK
    gi_wp2
    have d:=(T P.1.size P).alloc (U _) (.cells #[O E y.1.t,O E y.1.se,O E y.1.we] 137)
    refine ud HK _ _ (zu d) (KX.of_below d) ⟨⟨J,d1.later d,d2⟩,j2.trans (KX.of_below d)⟩ ⟨P.1.size,aZ,zo _ _,rfl⟩
   case body2=>
    rintro l2 v y a' P ax _ ⟨⟨J,d1,d2,d3⟩,j2⟩ ⟨By,bM,hy,rfl⟩ bI
    have bu:=(ud HC).n4
    have e2:a.1.size=w.1.size+6:=ud i
    have vz:V.1.size=W.1.size+2:=ud a6
    have ay:=qc j2 (ud bm) (by omega) (by omega)
    obtain⟨oc,-⟩:=zc ay
    obtain⟨bT,bU,bV,-⟩:=zc hy
    have bS:=zd hy
    have bv:=zd ay
    obtain⟨o,bJ,aT,aQ,ho⟩:=zkT d1 (by simp only[maxLen];omega) y.2
    have aV:w.1.size+1<V.1.size:=by omega
    have bj:=ze aT
    have au:=ze aQ
    have be:=ze j2
    have ap:=ze d2
    have aq:=ze d3
    clear ay aT aQ j2 d1 d2 d3 hy vz e2
    gi_wp2
    refine⟨ZC (ud au) aV,jY (ud au) (by omega),⟨_,ud bj,fun z=>?_,?_⟩,(ud be).trans (jY (ud au) (by omega))⟩
    ·rw[xp,ud ap z,List.map_append,List.mem_append];simp[or_assoc]
    ·rw[kY];have:=ud aq;simp only[List.length_append,List.length_cons,List.length_nil];split<;>omega
   case done2=>
    rintro xs P hS ⟨⟨J,d1,d2,d3⟩,j2⟩
    subst hS
    have bu:=(ud HC).n4
    have bA:=Jj c x.1
    have e2:a.1.size=w.1.size+6:=ud i
    have vz:V.1.size=W.1.size+2:=ud a6
    have aR:KX (fun k=>k=w.1.size+1) (w.1.size+6) (a.1.size+2) V P:=zfo j2 (by omega) (U _) (fun k e=>by omega)
    have al:KX (fun k=>k=w.1.size+1) (w.1.size+6) a.1.size V P:=zfo j2 (by omega) (U _) (fun k e=>by omega)
    have aC:=ze aR
    have bg:=ze ((zu (B:=a.1.size) (ud N)).trans (al.from (U _)))
    have b9:=ze d1
    have ap:=ze d2
    have aq:=ze d3
    clear aR al d1 d2 d3 j2 vz e2
    gi_wp2
    refine⟨ud bg,(KX.of_below (ud N)).trans (ud aC),⟨_,ud b9,fun z=>?_,?_⟩,(ud bd).trans ((KX.of_below (ud N)).trans (ud aC))⟩
    ·rw[ud ap z]
     have:=jF (ud HC) x.2 z
     unfold vC at this
     rw[this]
     constructor
     ·rintro(⟨k,hk,hz⟩|hz)
      ·exact⟨k,List.mem_append_left _ hk,hz⟩
      ·exact⟨x,by simp,hz⟩
     ·rintro⟨k,hk,hz⟩
      rcases List.mem_append.1 hk with hk|hk
      ·exact .inl ⟨k,hk,hz⟩
      ·simp at hk;subst hk;exact .inr hz
    ·have:=ud aq
     unfold vC at bA
     simp only[List.length_append,List.length_cons,List.length_nil]
     omega
   case stop2=>
    rintro cc v P _ hh
    exact hh.elim
  case done=>
   rintro D xs W hD ⟨zs,⟨ps,hp,rfl⟩,rfl⟩ ⟨⟨C,S,b2,b3⟩,i2⟩ hK
   have e2:a.1.size=w.1.size+6:=ud i
   have a0:=qc i2 (ud aD) (by omega) (by omega)
   obtain⟨oc,-⟩:=zc a0
   have bv:=zd a0
   have bt:D≠w.1.size+1:=by omega
   have af:=ze (xh.same S (World.putObj_heap_other (o:=.deferred I) (w:=W) (fun e=>bt e.symm)))
   have ag:=ze b2
   have b4:Hid (R w.1.size w (W.putObj D (.deferred I))):=by
    have hk:R w.1.size a W:=⟨i2.kept.os,i2.kept.tape,i2.kept.output,i2.kept.size,fun k hk=>i2.low (by omega) (by omega) (by omega)⟩
    exact xD ((ud bq).trans hk) (U _) (by omega) hK _
   clear a0 i2 S b2 b3 e2
   gi_wp2
   go_wp2_with fail
   refine⟨by simp,.inl ⟨_,_,rfl,run_takeDeferred hK,?_⟩⟩
   refine⟨_,results_tmp rfl _ _ _,w.1.size+1,C,rfl,ud af,fun z=>?_,Nat.le_succ _,ud b4⟩
   rw[ud ag z]
   have am:∀k:Sg,(∃q∈(ps.map (fun p:Sg×SV=>zdE c p.1)).filter (fun q=>(stL L q.1).st==2),q.1=k)↔k∈zx L/\(stL L k).st=2:=fun k=>by
    constructor
    ·rintro⟨q,hq,rfl⟩
     obtain⟨h1,h2⟩:=List.mem_filter.1 hq
     obtain⟨p,bw,rfl⟩:=List.mem_map.1 h1
     have a5:=hp.mem_iff.1 bw
     rw[kG (ud HL p a5)]at h2 ⊢
     exact⟨List.mem_map.2 ⟨p,a5,rfl⟩,by simpa using h2⟩
    ·rintro⟨h1,h2⟩
     obtain⟨p,a5,rfl⟩:=List.mem_map.1 (show k∈L.map (·.1)from h1)
     refine⟨zdE c p.1,List.mem_filter.2 ⟨List.mem_map.2 ⟨p,hp.mem_iff.2 a5,rfl⟩,?_⟩,kG (ud HL p a5)⟩
     rw[kG (ud HL p a5)];simpa using h2
   constructor
   ·rintro⟨q,hq,hz⟩
    obtain⟨a1,a2⟩:=(am q.1).1 ⟨q,hq,rfl⟩
    exact⟨q.1,a1,a2,hz⟩
   ·rintro⟨k,a1,a2,hz⟩
    obtain⟨q,hq,rfl⟩:=(am k).2 ⟨a1,a2⟩
    exact⟨q,hq,hz⟩
  case stop=>
   rintro D c u W _ _ h _
   exact h.elim
theorem zdQ:∀args w,(callFunc 146 args).run prog w=.ok (.enter 146 args) w:=enters_of func146 (by kernel_rfl) rfl
theorem zdM:∀args w,(callFunc 148 args).run prog w=.ok (.enter 148 args) w:=enters_of func148 (by kernel_rfl) rfl
theorem JY{α:Type}{F:Fence}{n:Nat}{P:Program}{g:Nat}{lb:Array M}{encs:α->Array M}{Kp:G->G->Prop}{S d f:List α->Prop}{N m:Nat}{w:G}(h:YK F n P g lb encs Kp S f N m w)(t:∀xs,S xs->d xs):YK F n P g lb encs Kp d f N m w:=
 fun l J i W q s p c r j=>(h l J i W q s p c r j).mono fun e V ⟨k,o⟩=>⟨k,o.imp (fun⟨xs,a,b⟩=>⟨xs,t xs a,b⟩) id⟩
theorem vh{w:G}{s:Nat}{c:Cf}{tv:M}{lb gb:Nat}{Gl:List (Sg×Unit)}{L:LV}(h:xJ w s c tv lb gb Gl L)(hc:c.ok)(hL:∀p∈L,inR c p.1)(now:Int)(j:0<=now/\now<=100000):
  Calls prog 96 #[.pointer (Q ⟨s,0,I⟩),O E now] w fun e w'=>∃Bl Bh,e=.returned (.func (.func 191) #[] #[.pointer (Q ⟨Bl,0,I⟩),.pointer (Q ⟨Bh,0,I⟩)])/\R w.1.size w w'/\
   ∀ex:Nat->Prop,(∀k,ex k->k<w.1.size/\¬ZI s tv lb gb k)->jw ex w'.1.size prog 191 #[.pointer (Q ⟨Bl,0,I⟩),.pointer (Q ⟨Bh,0,I⟩)] (fun x:RSg c=>#[.agg #[O E x.1.t,O E x.1.se,O E x.1.we]]) (fun ys=>∃ps:LV,ps.Perm L/\ys=(ps.map (fun p:Sg×SV=>zdE c p.1)).filter (fun x=>vo c L now x.1)) L.length w':=by
 have a7:=h.lt
 obtain⟨y0,y1,o,A⟩:=box2 w (.cells #[.pointer (Q ⟨s,0,I⟩)] 81) (.cells #[O E now] 3)
 obtain⟨-,-,-,-,-,-,-,c7,-⟩:=h.cells
 have C:=ze (Vh lb ((w.alloc (.cells #[.pointer (Q ⟨s,0,I⟩)] 81)).alloc (.cells #[O E now] 3)))
 obtain⟨p0,-⟩:=zc y0
 have x7:=(o.cell (p:=⟨s,7,I⟩) a7).trans c7
 have a8:w.1.size<((w.alloc (.cells #[.pointer (Q ⟨s,0,I⟩)] 81)).alloc (.cells #[O E now] 3)).1.size:=by rw[A];omega
 have a9:s<((w.alloc (.cells #[.pointer (Q ⟨s,0,I⟩)] 81)).alloc (.cells #[O E now] 3)).1.size:=by rw[A];omega
 have H:=ze h
 have Y0:=ze y0
 have Y1:=ze y1
 have YZ:=ze A
 have B:=ze o
 have HC:=ze hc
 have HL:=ze hL
 have F:=ze j
 clear h y0 y1 A o hc hL c7 j
 go_enter func96,ntmps96
 go_wp2_with fail
 generalize((w.alloc (.cells #[.pointer (Q ⟨s,0,I⟩)] 81)).alloc (.cells #[O E now] 3))=X at*
 refine(ud C).mono ?_
 rintro e b ⟨rfl,g⟩
 have v:R X.1.size X b:=by rw[g];exact(T _ _).alloc (U _) _
 have K:Hid (b.1.size=X.1.size+1):=by show b.1.size=_;rw[g];exact zF _ _
 have D:Hid (b.1[X.1.size]?=Q (.cells #[.map (Q lb)] 135 (0,0))):=by show b.1[X.1.size]?=_;rw[g];exact zo _ _
 have r:=ze v
 have J:=ze (VW 192 #[.pointer (Q ⟨X.1.size,0,I⟩)] 148 #[] #[.pointer (Q ⟨w.1.size,0,I⟩),.pointer (Q ⟨w.1.size+1,0,I⟩)] b)
 clear g v p0 x7
 go_wp2_with fail
 refine(ud J).mono ?_
 rintro e i ⟨rfl,u⟩
 obtain⟨N,P,S,V⟩:=box2 b (.cells #[.func (.func 192) #[] #[.pointer (Q ⟨X.1.size,0,I⟩)]] 179) (.cells #[.func (.func 148) #[] #[.pointer (Q ⟨w.1.size,0,I⟩),.pointer (Q ⟨w.1.size+1,0,I⟩)]] 226)
 rw[<-u]at N P S V
 have A1:=ze N
 have A2:=ze P
 have A3:=ze S
 have A4:=ze V
 clear u N P S V
 go_wp2_with fail
 go_ret
 have e0:X.1.size=w.1.size+2:=ud YZ
 have e1:b.1.size=X.1.size+1:=ud K
 have e2:i.1.size=b.1.size+2:=ud A4
 have d:R X.1.size X i:=(ud r).trans ((ud A3).mono (ud r).size)
 have z:R w.1.size w i:=(ud B).trans (d.mono (by omega))
 refine⟨b.1.size,b.1.size+1,rfl,z,fun ex y=>?_⟩
 have l:=(ud H).later z
 have Z:=(ud H).foot_lt
 have a:∀k,w.1.size<=k->¬ex k:=fun k q e=>by have:=(y k e).1;omega
 have f:∀k,ZI s tv lb gb k->k<i.1.size/\¬ex k:=fun k q=>⟨by have:=Z k q;omega,fun e=>(y k e).2 q⟩
 have a0:=((ud A3).block _ (by omega)).trans (ud D)
 have a6:=(d.block _ (by omega)).trans (ud Y0)
 have a5:=(d.block _ (by omega)).trans (ud Y1)
 have hW:=Xs (fun x:RSg c=>x.1) _ _ zaM _ #[] _ zdM (ex:=ex) (n:=i.1.size) (fun x=>vo c L now x.1) b.1.size (b.1.size+1) i (U _) ⟨by omega,a _ (by omega)⟩ ⟨by omega,a _ (by omega)⟩ (ud A1) (ud A2)
  (fun x W ⟨m,q⟩=>by
   have q0:=qc q a6 (by omega) (a _ (by omega))
   have q1:=qc q a5 (by omega) (a _ (by omega))
   exact Qr (l.kx q f) (ud HC) x.1 x.2.1 x.2.2.1 x.2.2.2.1 x.2.2.2.2 now (ud F) w.1.size (w.1.size+1) (by rw[zN q0];rfl) (by rw[zN q1];rfl) (zd q0) (zd q1))
  (zaR (fun x:RSg c=>x.1) (zdE c) (ex:=ex) (n:=i.1.size) X.1.size lb L (fun p hp=>kG (ud HL p hp)) i (f lb (.inr (.inr (.inl rfl)))).2 (by omega) (by rw[zN a0];rfl) (yW.1 l.live))
 exact fun m hm=>JY (hW m hm) (fun ys ⟨xs,⟨ps,hp,e1⟩,e2⟩=>⟨ps,hp,by rw[e2,e1]⟩)
theorem JW{w:G}{s:Nat}{c:Cf}{tv:M}{lb gb:Nat}{Gl:List (Sg×Unit)}{L:LV}(h:xJ w s c tv lb gb Gl L)(hc:c.ok)(hL:∀p∈L,inR c p.1)(V:L.length<=2000)(now:Int)(v:0<=now/\now<=100000):
  Calls prog 94 #[.pointer (Q ⟨s,0,I⟩),O E now] w fun e w'=>∃Bl Bh J,e=.returned (.func (.func 191) #[] #[.pointer (Q ⟨Bl,0,I⟩),.pointer (Q ⟨Bh,0,I⟩)])/\R w.1.size w w'/\(∀x,x∈zv J↔∃k,k∈zx L/\(stL L k).st=2/\x∈kg c k)/\
   ∀ex:Nat->Prop,(∀k,ex k->k<w.1.size/\¬ZI s tv lb gb k)->jw ex w'.1.size prog 191 #[.pointer (Q ⟨Bl,0,I⟩),.pointer (Q ⟨Bh,0,I⟩)] (fun x:RSg c=>#[.agg #[O E x.1.t,O E x.1.se,O E x.1.we]]) (fun ys=>∃ps:LV,ps.Perm L/\ys=(ps.map (fun p:Sg×SV=>zdE c p.1)).filter (fun x=>vq c J L now x.1)) L.length w':=by
 have aq:=h.lt
 obtain⟨y0,y1,r,yz⟩:=box2 w (.cells #[.pointer (Q ⟨s,0,I⟩)] 81) (.cells #[O E now] 3)
 obtain⟨-,-,-,-,-,-,-,c7,-⟩:=h.cells
 have a9:=ze (zaB (h.later r) hc hL V)
 obtain⟨p0,-⟩:=zc y0
 have x7:=(r.cell (p:=⟨s,7,I⟩) aq).trans c7
 have D:w.1.size<((w.alloc (.cells #[.pointer (Q ⟨s,0,I⟩)] 81)).alloc (.cells #[O E now] 3)).1.size:=by rw[yz];omega
 have F:s<((w.alloc (.cells #[.pointer (Q ⟨s,0,I⟩)] 81)).alloc (.cells #[O E now] 3)).1.size:=by rw[yz];omega
 have H:=ze h
 have Y0:=ze y0
 have Y1:=ze y1
 have YZ:=ze yz
 have aa:=ze r
 have HC:=ze hc
 have HL:=ze hL
 have ad:=ze v
 clear h y0 y1 yz r hc hL c7 v
 go_enter func94,ntmps94
 go_wp2_with fail
 generalize((w.alloc (.cells #[.pointer (Q ⟨s,0,I⟩)] 81)).alloc (.cells #[O E now] 3))=X at*
 refine(ud a9).mono ?_
 rintro e f ⟨ob,J,rfl,a0,A,B,q⟩
 have bb:=zo f (.cells #[.map (Q ob)] 138)
 have hbb:R f.1.size f (f.alloc (.cells #[.map (Q ob)] 138)):=(T _ _).alloc (U _) _
 have a6:=zF f (.cells #[.map (Q ob)] 138)
 have a:=q.trans (hbb.mono q.size)
 have p1:=(a.cell (p:=⟨w.1.size,0,I⟩) D).trans p0
 have ar:=(a.cell (p:=⟨s,7,I⟩) F).trans x7
 have y:=a0.later hbb
 have av:=Y D a.size
 have aw:=Y F a.size
 have a8:=ze bb
 have ak:=ze a6
 have a7:=ze a
 have ae:=ze y
 have af:=ze A
 have ag:=ze B
 have ai:=ze q.size
 have ab:=ze (Vh lb (f.alloc (.cells #[.map (Q ob)] 138)))
 clear bb hbb a6 a a0 y A B q p0 x7 D F
 go_wp2_with fail
 generalize(f.alloc (.cells #[.map (Q ob)] 138))=Z at*
 refine(ud ab).mono ?_
 rintro e d ⟨rfl,o⟩
 have P:R Z.1.size Z d:=by rw[o];exact(T _ _).alloc (U _) _
 have aj:Hid (d.1.size=Z.1.size+1):=by show d.1.size=_;rw[o];exact zF _ _
 have ac:Hid (d.1[Z.1.size]?=Q (.cells #[.map (Q lb)] 135 (0,0))):=by show d.1[Z.1.size]?=_;rw[o];exact zo _ _
 have K:=ze P
 have ah:=ze (VW 192 #[.pointer (Q ⟨Z.1.size,0,I⟩)] 146 #[] #[.pointer (Q ⟨f.1.size,0,I⟩),.pointer (Q ⟨w.1.size,0,I⟩),.pointer (Q ⟨w.1.size+1,0,I⟩)] d)
 clear o P p1 ar
 go_wp2_with fail
 refine(ud ah).mono ?_
 rintro e l ⟨rfl,N⟩
 obtain⟨a1,a2,a3,a4⟩:=box2 d (.cells #[.func (.func 192) #[] #[.pointer (Q ⟨Z.1.size,0,I⟩)]] 179) (.cells #[.func (.func 146) #[] #[.pointer (Q ⟨f.1.size,0,I⟩),.pointer (Q ⟨w.1.size,0,I⟩),.pointer (Q ⟨w.1.size+1,0,I⟩)]] 226)
 rw[<-N]at a1 a2 a3 a4
 have A1:=ze a1
 have A2:=ze a2
 have A3:=ze a3
 have A4:=ze a4
 clear N a1 a2 a3 a4
 go_wp2_with fail
 go_ret
 have e0:X.1.size=w.1.size+2:=ud YZ
 have ez:Z.1.size=f.1.size+1:=ud ak
 have e1:d.1.size=Z.1.size+1:=ud aj
 have eX:X.1.size<=f.1.size:=ud ai
 have eo:=ud ag
 have e2:l.1.size=d.1.size+2:=ud A4
 have i:R Z.1.size Z l:=(ud K).trans ((ud A3).mono (ud K).size)
 have g:R X.1.size X l:=(ud a7).trans (i.mono (by omega))
 have a5:R w.1.size w l:=(ud aa).trans (g.mono (by omega))
 refine⟨d.1.size,d.1.size+1,J,rfl,a5,ud af,fun ex S=>?_⟩
 have C:=(ud H).later a5
 have am:=(ud H).foot_lt
 have b:∀k,w.1.size<=k->¬ex k:=fun k u e=>by have:=(S k e).1;omega
 have j:∀k,ZI s tv lb gb k->k<l.1.size/\¬ex k:=fun k u=>⟨by have:=am k u;omega,fun e=>(S k e).2 u⟩
 have an:=((ud A3).block _ (by omega)).trans (ud ac)
 have z:=(ud ae).later i
 have al:=(i.block _ (by omega)).trans (ud a8)
 have au:=z.lt
 have ap:=(g.block _ (by omega)).trans (ud Y0)
 have ao:=(g.block _ (by omega)).trans (ud Y1)
 have hW:=Xs (fun x:RSg c=>x.1) _ _ zaM _ #[] _ zdQ (ex:=ex) (n:=l.1.size) (fun x=>vq c J L now x.1) d.1.size (d.1.size+1) l (U _) ⟨by omega,b _ (by omega)⟩ ⟨by omega,b _ (by omega)⟩ (ud A1) (ud A2)
  (fun x W ⟨m,u⟩=>by
   have q0:=qc u ap (by omega) (b _ (by omega))
   have q1:=qc u ao (by omega) (b _ (by omega))
   have q2:=qc u al (by omega) (b _ (by omega))
   exact VF (C.kx u j) (ud HC) (xh.kept z u.kept (fun e=>e.elim (b _ (by omega)) (by omega))) x.1 x.2.1 x.2.2.1 x.2.2.2.1 x.2.2.2.2 now (ud ad) f.1.size w.1.size (w.1.size+1) (by rw[zN q2];rfl) (by rw[zN q0];rfl) (by rw[zN q1];rfl) (zd q2) (zd q0) (zd q1))
  (zaR (fun x:RSg c=>x.1) (zdE c) (ex:=ex) (n:=l.1.size) Z.1.size lb L (fun p hp=>kG (ud HL p hp)) l (j lb (.inr (.inr (.inl rfl)))).2 (by omega) (by rw[zN an];rfl) (yW.1 C.live))
 exact fun m hm=>JY (hW m hm) (fun ys ⟨xs,⟨ps,hp,e1⟩,e2⟩=>⟨ps,hp,by rw[e2,e1]⟩)
theorem vF(s:Sg)(w:G):(method 419 175 (.agg #[O E s.t,O E s.se,O E s.we]) "Kind").run prog w=.ok (250,.agg #[O E s.t,O E s.se,O E s.we]) w:=by kernel_rfl
theorem vO(s:Sg)(w:G):(method 419 175 (.agg #[O E s.t,O E s.se,O E s.we]) "Segment").run prog w=.ok (251,.agg #[O E s.t,O E s.se,O E s.we]) w:=by kernel_rfl
theorem Vp(s:Sg)(w:G):(method 419 175 (.agg #[O E s.t,O E s.se,O E s.we]) "Due").run prog w=.ok (249,.agg #[O E s.t,O E s.se,O E s.we]) w:=by kernel_rfl
theorem kind_Roll(s:Sg)(w:G):Calls prog 250 #[.agg #[O E s.t,O E s.se,O E s.we]] w fun e w'=>e=.returned (O E 1)/\R w.1.size w w':=by
 go_enter func250,ntmps250
 go_wp2_with fail
 go_ret
 exact⟨rfl,(T _ _).alloc (U _) _⟩
theorem segm_Roll(s:Sg)(w:G):Calls prog 251 #[.agg #[O E s.t,O E s.se,O E s.we]] w fun e w'=>e=.returned (.agg #[O E s.t,O E s.se,O E s.we])/\R w.1.size w w':=by
 obtain⟨c,b,a,d⟩:=box2 w (.cells #[O E s.t,O E s.se,O E s.we] 175) (.cells #[O E s.t,O E s.se,O E s.we] 137)
 go_enter func251,ntmps251
 go_wp2_with fail
 refine bodyPost_ret (v:=.agg #[O E s.t,O E s.se,O E s.we]) (results_cell_row results251 _ _ (w.1.size+1) _ _ _ _ rfl b underlying137 rfl (by kernel_rfl)) rfl ?_
 exact⟨rfl,a⟩
theorem keyOf_Roll(s:Sg)(w:G):Calls prog 87 #[.iface 175 (.agg #[O E s.t,O E s.se,O E s.we])] w fun e w'=>e=.returned (.agg #[O E 1,O E s.t,O E s.se,O E s.we])/\R w.1.size w w':=by
 have b0:=zo w (.cells #[O E 0,O E 0,O E 0,O E 0] 147)
 have m:=zF w (.cells #[O E 0,O E 0,O E 0,O E 0] 147)
 have g:R w.1.size w (w.alloc (.cells #[O E 0,O E 0,O E 0,O E 0] 147)):=(T _ _).alloc (U _) _
 have p:=fun W=>ze (kind_Roll s W)
 have q:=fun W=>ze (segm_Roll s W)
 have B0:=ze b0
 have n:=ze m
 have h:=ze g
 clear b0 m g
 have x:=vF s
 have y:=vO s
 go_enter func87,ntmps87
 go_wp2_with(first
  |(go_at_call 250;refine(ud (p _)).mono ?_;rintro e z ⟨rfl,a⟩;have c:=ze a;clear a)
  |(go_at_call 251;refine(ud (q _)).mono ?_;rintro e A ⟨rfl,b⟩;have d:w.1.size<(w.alloc (.cells #[O E 0,O E 0,O E 0,O E 0] 147)).1.size:=(by rw[ud n];omega);have f:=(b.block w.1.size (Y d (ud c).size)).trans (((ud c).block w.1.size d).trans (ud B0));obtain⟨B,C,D,F,-⟩:=zc f;have H:=fun j=>zD f j;have u:=zd f;have o:=ze f;have k:=ze b;clear b f d))
 have r:=xm (i:=3) (xm (i:=2) (xm (i:=1) (xm (i:=0) (ud o) (O E 1)) (O E s.t)) (O E s.se)) (O E s.we)
 refine bodyPost_ret (v:=.agg #[O E 1,O E s.t,O E s.se,O E s.we]) (results_cell_row results87 _ _ w.1.size _ _ _ _ rfl r underlying147 rfl (by kernel_rfl)) rfl ?_
 have l:=ud h
 have a:=ud c
 have b:=ud k
 exact⟨rfl,(l.trans (a.mono l.size)).trans ((b.mono (z3 l.size a.size)).trans (below4 (U _) _ _ _ _))⟩
theorem yU(s:Sg)(w:G):(method 419 177 (.agg #[O E s.t,O E s.se,O E s.we]) "Kind").run prog w=.ok (253,.agg #[O E s.t,O E s.se,O E s.we]) w:=by kernel_rfl
theorem kt(s:Sg)(w:G):(method 419 177 (.agg #[O E s.t,O E s.se,O E s.we]) "Segment").run prog w=.ok (254,.agg #[O E s.t,O E s.se,O E s.we]) w:=by kernel_rfl
theorem Qq(s:Sg)(w:G):(method 419 177 (.agg #[O E s.t,O E s.se,O E s.we]) "Due").run prog w=.ok (252,.agg #[O E s.t,O E s.se,O E s.we]) w:=by kernel_rfl
theorem kind_Reclaim(s:Sg)(w:G):Calls prog 253 #[.agg #[O E s.t,O E s.se,O E s.we]] w fun e w'=>e=.returned (O E 2)/\R w.1.size w w':=by
 go_enter func253,ntmps253
 go_wp2_with fail
 go_ret
 exact⟨rfl,(T _ _).alloc (U _) _⟩
theorem segm_Reclaim(s:Sg)(w:G):Calls prog 254 #[.agg #[O E s.t,O E s.se,O E s.we]] w fun e w'=>e=.returned (.agg #[O E s.t,O E s.se,O E s.we])/\R w.1.size w w':=by
 obtain⟨c,b,a,d⟩:=box2 w (.cells #[O E s.t,O E s.se,O E s.we] 177) (.cells #[O E s.t,O E s.se,O E s.we] 137)
 go_enter func254,ntmps254
 go_wp2_with fail
 refine bodyPost_ret (v:=.agg #[O E s.t,O E s.se,O E s.we]) (results_cell_row results254 _ _ (w.1.size+1) _ _ _ _ rfl b underlying137 rfl (by kernel_rfl)) rfl ?_
 exact⟨rfl,a⟩
theorem keyOf_Reclaim(s:Sg)(w:G):Calls prog 87 #[.iface 177 (.agg #[O E s.t,O E s.se,O E s.we])] w fun e w'=>e=.returned (.agg #[O E 2,O E s.t,O E s.se,O E s.we])/\R w.1.size w w':=by
 have b0:=zo w (.cells #[O E 0,O E 0,O E 0,O E 0] 147)
 have m:=zF w (.cells #[O E 0,O E 0,O E 0,O E 0] 147)
 have g:R w.1.size w (w.alloc (.cells #[O E 0,O E 0,O E 0,O E 0] 147)):=(T _ _).alloc (U _) _
 have p:=fun W=>ze (kind_Reclaim s W)
 have q:=fun W=>ze (segm_Reclaim s W)
 have B0:=ze b0
 have n:=ze m
 have h:=ze g
 clear b0 m g
 have x:=yU s
 have y:=kt s
 go_enter func87,ntmps87
 go_wp2_with(first
  |(go_at_call 253;refine(ud (p _)).mono ?_;rintro e z ⟨rfl,a⟩;have c:=ze a;clear a)
  |(go_at_call 254;refine(ud (q _)).mono ?_;rintro e A ⟨rfl,b⟩;have d:w.1.size<(w.alloc (.cells #[O E 0,O E 0,O E 0,O E 0] 147)).1.size:=(by rw[ud n];omega);have f:=(b.block w.1.size (Y d (ud c).size)).trans (((ud c).block w.1.size d).trans (ud B0));obtain⟨B,C,D,F,-⟩:=zc f;have H:=fun j=>zD f j;have u:=zd f;have o:=ze f;have k:=ze b;clear b f d))
 have r:=xm (i:=3) (xm (i:=2) (xm (i:=1) (xm (i:=0) (ud o) (O E 2)) (O E s.t)) (O E s.se)) (O E s.we)
 refine bodyPost_ret (v:=.agg #[O E 2,O E s.t,O E s.se,O E s.we]) (results_cell_row results87 _ _ w.1.size _ _ _ _ rfl r underlying147 rfl (by kernel_rfl)) rfl ?_
 have l:=ud h
 have a:=ud c
 have b:=ud k
 exact⟨rfl,(l.trans (a.mono l.size)).trans ((b.mono (z3 l.size a.size)).trans (below4 (U _) _ _ _ _))⟩
end Go.Proofs.YtpbimdkclnekeaaGreat
