import Derived.RangeFuncNested
import Derived.RangeFuncBound
import Derived.RangeFuncCalls
import Derived.RangeFuncLeaves
import Derived.Shelf.Abstract
import Derived.Shelf.RegionOpen
import Derived.WalkKit
import Derived.OwnWalkIn
import Derived.TacticsInMore
import Derived.LoopNIn
import Derived.LoopIn
import Derived.Test.YtpbimdkclnekeaaGreatVRefE
open Go.Value renaming int → I
open Go renaming World → J
open Option renaming some → O
open Option renaming none → E
open Go.RowKit renaming Below → Q
open Go.IntKind (i64)
open Go.IntKind (i32)
set_option linter.unusedVariables false
set_option maxRecDepth 100000
set_option maxHeartbeats 2000000
open Go.Proofs.Tryz
namespace Go.Proofs.YtpbimdkclnekeaaGreat
open Go.ChangeMaps (setBlock)
open Go.RowKit Go.Maps Go.Shelf
attribute [local go_sem] Oper.semAt_some
theorem xN{w:J}{r:Nat}(h:r<w.1.size)(o:Obj):(setBlock w r o).1[r]?=O o:=by simp[setBlock,h]
theorem xw{w:J}{r k:Nat}(h:k≠r)(o:Obj):(setBlock w r o).1[k]?=w.1[k]?:=by
 simp only[setBlock];rw[Array.getElem?_setIfInBounds_ne (fun e=>h e.symm)]
theorem xA(w:J)(r:Nat)(o:Obj):w.grownBy (setBlock w r o) (O r):=
 ⟨rfl,rfl,rfl,by simp[setBlock],fun k _ a=>xw (fun e=>a (by rw[e])) o⟩
def Zj(b:Array MapEntry)(r:Nat)(w:J):Nat:=match w.1[r]? with
 |some (.mapIter _ _ a _)=>(leftOf b a).size
 |_=>0
theorem xy{b:Array MapEntry}{r:Nat}{w:J}{m:Option Nat}{s:Nat}{a:Array Nat}{c:Nat}(h:w.1[r]?=O (.mapIter m s a c)):Zj b r w=(leftOf b a).size:=by
 unfold Zj;rw[h]
theorem xC{b:Array MapEntry}{a:Array Nat}{e:MapEntry}:e∈(leftOf b a).toList↔e∈b.toList/\e.born∉a.toList:=by
 simp[leftOf]
theorem ya{b:Array MapEntry}{a:Array Nat}{e:MapEntry}(d:e∈(leftOf b a).toList):(leftOf b (a.push e.born)).size<(leftOf b a).size:=by
 have c:leftOf b (a.push e.born)=(leftOf b a).filter (fun x=>x.born !=e.born):=by
  unfold leftOf
  rw[Array.filter_filter]
  congr 1
  funext x
  by_cases h:x.born=e.born<;>simp[h]
 rw[c]
 simp
 exact⟨e,Array.mem_toList_iff.1 d,rfl⟩
structure zef(es:Array MapEntry)(seen:Array Nat)(ps:List MapEntry):Prop where
 born:ps.map (·.born)=seen.toList
 once:(ps.map (·.born)).Nodup
 sub:∀e∈ps,e∈es.toList
theorem zef.step{f:Array MapEntry}{c:Array Nat}{ps:List MapEntry}(h:zef f c ps){e:MapEntry}(m:e∈(leftOf f c).toList):zef f (c.push e.born) (ps++[e]):=by
 obtain⟨k,l⟩:=xC.1 m
 refine⟨by simp[h.born],?_,fun x d=>?_⟩
 ·rw[List.map_append,List.nodup_append]
  refine⟨h.once,by simp,fun a g b i=>?_⟩
  simp at i;subst i;intro j;subst j;rw[h.born]at g;exact l g
 ·rcases List.mem_append.1 d with d|d
  ·exact h.sub x d
  ·simp at d;subst d;exact k
theorem zjb{e:Array MapEntry}(hn:(e.toList.map (·.born)).Nodup){a b:MapEntry}(m:a∈e.toList)(n:b∈e.toList)(h:a.born=b.born):a=b:=by
 have d:e.toList.Pairwise (fun a b=>a.born≠b.born):=List.pairwise_map.1 hn
 obtain⟨i,k,f⟩:=List.getElem_of_mem m
 obtain⟨j,l,g⟩:=List.getElem_of_mem n
 rcases Nat.lt_trichotomy i j with c|c|c
 ·have:=List.pairwise_iff_getElem.1 d i j k l c;rw[f,g]at this;exact absurd h this
 ·subst c;rw[<-f,g]
 ·have:=List.pairwise_iff_getElem.1 d j i l k c;rw[f,g]at this;exact absurd h.symm this
theorem zef.all{d:Array MapEntry}{c:Array Nat}{ps:List MapEntry}(h:zef d c ps)(hn:(d.toList.map (·.born)).Nodup)(n:(leftOf d c).size=0):ps.Perm d.toList:=by
 have g:ps.Nodup:=List.Pairwise.of_map (·.born) (fun a b h e=>h (by rw[e])) h.once
 have f:d.toList.Nodup:=List.Pairwise.of_map (·.born) (fun a b h e=>h (by rw[e])) hn
 refine(List.perm_ext_iff_of_nodup g f).2 (fun e=>⟨h.sub e,fun j=>?_⟩)
 have k:e.born∈c.toList:=by
  by_cases i:e.born∈c.toList
  ·exact i
  ·have:e∈(leftOf d c).toList:=xC.2 ⟨j,i⟩
   have o:(leftOf d c).toList=[]:=by
    apply List.eq_nil_of_length_eq_zero;simpa using n
   rw[o]at this;simp at this
 rw[<-h.born]at k
 obtain⟨x,l,m⟩:=List.mem_map.1 k
 rw[<-zjb hn (h.sub x l) j m];exact l
theorem zef.lt{d:Array MapEntry}{c:Array Nat}{ps:List MapEntry}(h:zef d c ps){e:MapEntry}(i:e∈(leftOf d c).toList):ps.length<d.size:=by
 have g:=(h.step i)
 have f:(ps++[e]).Nodup:=List.Pairwise.of_map (·.born) (fun a b h e=>h (by rw[e])) g.once
 have:=List.Nodup.length_le_of_subset f (fun x j=>g.sub x j)
 simp at this;omega
attribute [local go_sem] Oper.semAt_some
abbrev WSg:={s:Sg//s.wf}
theorem zkm:(⟨0,0,0⟩:Sg).wf:=by refine⟨?_,?_,?_⟩<;>(unfold yS;simp)
noncomputable def zeh (s:Sg):WSg:=by classical exact if h:s.wf then⟨s,h⟩else⟨⟨0,0,0⟩,zkm⟩
theorem Xr{s:Sg}(h:s.wf):(zeh s).1=s:=by unfold zeh;rw[dif_pos h]
def vn(l:List Int):Int:=l.foldl (fun s x=>wrap64 (s+x)) 0
theorem Xt(l:List Int)(x:Int):vn (l++[x])=wrap64 (vn l+x):=by simp[vn]
theorem zhb(a b:Int):wrap64 (wrap64 a+b)=wrap64 (a+b):=by unfold wrap64;omega
theorem zkl:∀l:List Int,vn l=wrap64 (xX l):=by
 intro l
 have h:∀(l:List Int) (s:Int),l.foldl (fun s x=>wrap64 (s+x)) (wrap64 s)=wrap64 (s+xX l):=by
  intro l
  induction l with
  |nil=>intro s;simp[xX]
  |cons x l a=>intro s;rw[List.foldl_cons,zhb,a,xX];congr 1;omega
 have:=h l 0
 have e:wrap64 0=0:=by unfold wrap64;omega
 rw[e]at this
 unfold vn;rw[this];congr 1;omega
theorem kO{l:List Int}(h: -9223372036854775808<=xX l/\xX l<=9223372036854775807):vn l=xX l:=by
 rw[zkl];unfold wrap64;omega
theorem zG{W b:J}{row:Option Nat}{k:Nat}{cs:Array Value}{t:TypeId}{c:Nat×Nat}(h:W.1[k]?=O (.cells cs t c))(f:W.grownBy b row)(g:∀r,row=O r->∃o:Obj,W.1[r]?=O o/\o.isCells=false):b.1[k]?=O (.cells cs t c):=by
 refine(f.block k (zd h) (fun e=>?_)).trans h
 obtain⟨o,a,d⟩:=g k e.symm
 rw[h]at a
 injection a with a
 subst a
 simp[Obj.isCells]at d
theorem qN{W a:J}(h:Q W.1.size W a):KeepsOthers W a:=⟨h.size,fun k o b _=>(h.block k (zd b)).trans b⟩
theorem xD{n D:Nat}{w W:J}{o:Obj}(h:Q n w W)(hn:n<=w.1.size)(b:n<=D)(c:W.1[D]?=O o)(a:Obj):Q n w (W.putObj D a):=
 h.grown (grownBy_putObj' W D a) (Nat.le_trans hn h.size) (fun k e=>by cases e;exact b)
structure jx(n:Nat)(Kp:J->J->Prop):Prop where
 t:∀{A B C:J},Kp A B->Kp B C->Kp A C
 b:∀(W:J) (l:Nat) (o o':Obj),n<=l->W.1[l]?=O o->o.isCells=false->o.isWalk=false->Kp W (W.putObj l o')
 of:∀(W W':J),KeepsOthers W W'->Q n W W'->Kp W W'
theorem kC(n:Nat):jx n (Q n):=⟨fun h k=>h.trans k,fun W l o b a h _ _=>(Below.refl n W).grown (grownBy_putObj' W l b) (by have:=zd h;omega) (fun k e=>by cases e;exact a),fun W c _ h=>h⟩
theorem zae{α:Type}{w W w':J}{Kp:J->J->Prop}{f:α->Int}{a:List α}{x:α}{v:Value}{t k:TypeId}{B:Nat}{u:Value}(n:u=I i64 (wrap64 (vn (a.map f)+f x)))
  (i1:W.1[w.1.size]?=O (.cells #[v] t (0,0))) (i2:W.1[w.1.size+1]?=O (.cells #[I i64 (vn (a.map f))] k (0,0))) (i3:Q w.1.size w W) (d:jx w.1.size Kp) (b:Q W.1.size W w'):
  KeepsFrom B W (w'.setCell ⟨w.1.size+1,0,E⟩ u)/\Kp W (w'.setCell ⟨w.1.size+1,0,E⟩ u)/\((w'.setCell ⟨w.1.size+1,0,E⟩ u).1[w.1.size]?=O (.cells #[v] t (0,0))/\(w'.setCell ⟨w.1.size+1,0,E⟩ u).1[w.1.size+1]?=O (.cells #[I i64 (vn ((a++[x]).map f))] k (0,0))/\Q w.1.size w (w'.setCell ⟨w.1.size+1,0,E⟩ u)):=by
 subst n
 have e:=zd i1
 have g:=zd i2
 have h:KeepsOthers W (w'.setCell ⟨w.1.size+1,0,E⟩ (I i64 (wrap64 (vn (a.map f)+f x)))):=(qN b).trans (KeepsOthers.setCell _ _ _)
 have j:Q w.1.size W (w'.setCell ⟨w.1.size+1,0,E⟩ (I i64 (wrap64 (vn (a.map f)+f x)))):=((b.mono i3.size).setCell (p:=⟨w.1.size+1,0,E⟩) (Nat.le_succ _) _)
 refine⟨h.from _,d.of _ _ h j,?_,?_,i3.trans j⟩
 ·have l:=(b.block _ e).trans i1
  show(w'.setCell ⟨w.1.size+1,0,E⟩ _).1[w.1.size]?=_
  have c:=((Below.refl (w.1.size+1) w').setCell (p:=⟨w.1.size+1,0,E⟩) (Nat.le_refl _) (I i64 (wrap64 (vn (a.map f)+f x)))).block w.1.size (Nat.lt_succ_self _)
  exact c.trans l
 ·have m:=(b.block _ g).trans i2
  rw[List.map_append,List.map_singleton,Xt]
  exact xm (i:=0) m _
attribute [local go_sem] Oper.semAt_some
theorem zjX(gf:Nat)(lb:Array Value)(eg:∀args w,(callFunc gf args).run prog w=.ok (.enter gf args) w){Kp:J->J->Prop}{S Sp:List Cl->Prop}{N:Nat}(f:Cl->Int)(w:J)(R:jx w.1.size Kp)
  (T:∀(x:Cl) (W:J),Q w.1.size w W->Calls prog 187 #[.agg #[I i64 x.cnt,I i64 x.sum,I i32 x.mn,I i32 x.mx]] W fun e W'=>e=.returned (I i64 (f x))/\Q W.1.size W W')
  (m:SeqStopsK Fence.wide 6 prog gf lb (fun x:Cl=>#[.agg #[I i64 x.cnt,I i64 x.sum,I i32 x.mn,I i32 x.mx]]) Kp S Sp N w):
  Calls prog 186 #[.func (.func gf) #[] lb,.func (.func 187) #[] #[]] w fun e w'=>∃xs,S xs/\e=.returned (I i64 (vn (xs.map f)))/\Q w.1.size w w':=by
 have C:=ze T
 have G:=ze m
 have g:=ze R
 have Y:=ze eg
 obtain⟨b1,b2,M,bz⟩:=box2 w (.cells #[.func (.func 187) #[] #[]] 258) (.cells #[I i64 0] 3)
 clear T m R eg
 refine(callsIn_wide (n:=7)).1 ?_
 refine callsIn_of_wp_marks func186 rfl trivial ?_ rfl
 simp only[ntmps186,List.size_toArray,List.length_cons,List.length_nil,Nat.reduceAdd,Nat.reduceSub,Array.replicate_succ,Array.replicate_zero,List.push_toArray,List.append_toArray,List.nil_append,List.cons_append]
 have B1:=ze b1
 have B2:=ze b2
 have q:=ze M
 have BZ:=ze bz
 clear b1 b2 M bz
 gi_wp2
 obtain⟨W0,L⟩:∃W0,((w.alloc (.cells #[.func (.func 187) #[] #[]] 258)).alloc (.cells #[I i64 0] 3))=W0:=⟨_,rfl⟩
 rw[L]at B1 B2 q BZ ⊢
 clear L
 have hz:W0.1.size=w.1.size+2:=ud BZ
 refine wpIn_rangeFunc_ownH (F:=Fence.wide) (n:=7) rfl (by omega) (gf:=gf) (lb:=lb) rfl trivial (ud Y) (ud G) (ud g).t (fun W l o o' hl=>(ud g).b W l o o' (by omega)) (ud q) (fun _=>rfl)
  (fun d W=>W.1[w.1.size]?=O (.cells #[.func (.func 187) #[] #[]] 258 (0,0))/\W.1[w.1.size+1]?=O (.cells #[I i64 (vn (d.map f))] 3 (0,0))/\Q w.1.size w W)
  (fun _ _ _=>False)
  (fun s A B row j P z=>⟨zG j.1 P (fun r e=>(z r e).2),zG j.2.1 P (fun r e=>(z r e).2),j.2.2.grown P (j.2.2.size) (fun k e=>by have:=(z k e).1;omega)⟩)
  (fun _ _ _ _ _ j _ _=>j)
  ⟨ud B1,ud B2,ud q⟩
  (fun x a' W=>∃y,w.1.size+2<=y/\W.1[y]?=O (.cells #[I i64 x.cnt,I i64 x.sum,I i32 x.mn,I i32 x.mx] 114 (0,0))/\a'={tmps:=#[.func (.func gf) #[] lb,.func (.func 187) #[] #[],undef,.pointer (O ⟨w.1.size,0,E⟩),I i64 0,.pointer (O ⟨w.1.size+1,0,E⟩),.pointer (O ⟨y,0,E⟩),.func (.func gf) #[] lb,.agg #[I i64 x.cnt,I i64 x.sum,I i32 x.mn,I i32 x.mx],undef,undef,undef,undef,undef,undef],defers:=[]})
  (fun x a' s A B row j P z=>by
   obtain⟨y,h1,h2,h3⟩:=j
   exact⟨y,h1,zG h2 P (fun r e=>(z r e).2),h3⟩) ?assign ?body ?done ?stop
 case assign=>
  rintro l d x W K ⟨i1,i2,i3⟩ H
  have v:=i3.size
  have a2:=zd i2
  have HK:=ze H
  clear H
  gi_wp2
  refine ud HK _ _ ((KeepsOthers.alloc _ _).from _) ((ud g).of _ _ (KeepsOthers.alloc _ _) ((Below.refl _ W).alloc v _)) ⟨(Below.heap_alloc _ _ _ (by omega)).trans i1,(Below.heap_alloc _ _ _ (by omega)).trans i2,i3.alloc v _⟩ ⟨W.1.size,by omega,zo _ _,rfl⟩
 case body=>
  rintro l d x a' W hl ⟨r,z⟩ ⟨i1,i2,i3⟩ ⟨y,a0,V,rfl⟩ a3
  have v:=i3.size
  have a1:=zd V
  have U:=zd i2
  obtain⟨c1,-⟩:=zc i1
  obtain⟨c2,-⟩:=zc i2
  have f2:W.frozen? ⟨w.1.size+1,0,E⟩=false:=zD i2 0
  obtain⟨x0,x1,x2,x3,-⟩:=zc V
  have HI:=ze i2
  have Z:=ze i1
  have u:=ze i3
  have HX:=ze V
  have a4:prog.follows .mixedOrders=true:=by kernel_rfl
  have HC:=ze (ud C x W i3)
  have X:=ze (ud C x W.drew i3.drew)
  clear i1 i2 i3 V
  gi_wp2
  gi_region_with_o (refine⟨trivial,?_⟩;gi_at_call 187;(first|refine(CallsIn.inRound l (callsIn_wide.2 (ud HC))).mono ?_|refine(CallsIn.inRound l (callsIn_wide.2 (ud X))).mono ?_);rintro e w' ⟨rfl,i⟩;have d2:w'.cell? ⟨w.1.size+1,0,E⟩=O (I i64 (vn (d.map f))):=(i.cell (p:=⟨w.1.size+1,0,E⟩) U).trans c2;have e2:w'.frozen? ⟨w.1.size+1,0,E⟩=false:=zD ((i.block _ U).trans (ud HI)) 0;have a:=ze i;clear i)
  all_goals gi_wp2
  all_goals(try go_bits)
  all_goals exact zae (x:=x) rfl (ud Z) (ud HI) (ud u) (ud g) ⟨(ud a).os,(ud a).tape,(ud a).output,(ud a).size,(ud a).block⟩
 case done=>
  rintro D xs W hD hS ⟨i1,i2,i3⟩ H
  obtain⟨c2,-⟩:=zc i2
  have u:=ze i3
  clear i1 i2 i3
  gi_wp2
  refine⟨by simp,.inl ⟨_,_,rfl,run_takeDeferred H,?_⟩⟩
  exact⟨_,results_tmp rfl _ _ _,xs,hS,rfl,xD (ud u) (Nat.le_refl _) (by omega) H _⟩
 case stop=>
  rintro D c d W _ _ h _
  exact h.elim
theorem zjY(gf:Nat)(lb:Array Value)(eg:∀args w,(callFunc gf args).run prog w=.ok (.enter gf args) w){Kp:J->J->Prop}{S Sp:List Cl->Prop}{N:Nat}(f:Cl->Int)(w:J)(R:jx w.1.size Kp)
  (T:∀(x:Cl) (W:J),Q w.1.size w W->Calls prog 189 #[.agg #[I i64 x.cnt,I i64 x.sum,I i32 x.mn,I i32 x.mx]] W fun e W'=>e=.returned (I i64 (f x))/\Q W.1.size W W')
  (m:SeqStopsK Fence.wide 6 prog gf lb (fun x:Cl=>#[.agg #[I i64 x.cnt,I i64 x.sum,I i32 x.mn,I i32 x.mx]]) Kp S Sp N w):
  Calls prog 188 #[.func (.func gf) #[] lb,.func (.func 189) #[] #[]] w fun e w'=>∃xs,S xs/\e=.returned (I i64 (vn (xs.map f)))/\Q w.1.size w w':=by
 have C:=ze T
 have G:=ze m
 have g:=ze R
 have Y:=ze eg
 obtain⟨b1,b2,M,bz⟩:=box2 w (.cells #[.func (.func 189) #[] #[]] 260) (.cells #[I i64 0] 2)
 clear T m R eg
 refine(callsIn_wide (n:=7)).1 ?_
 refine callsIn_of_wp_marks func188 rfl trivial ?_ rfl
 simp only[ntmps188,List.size_toArray,List.length_cons,List.length_nil,Nat.reduceAdd,Nat.reduceSub,Array.replicate_succ,Array.replicate_zero,List.push_toArray,List.append_toArray,List.nil_append,List.cons_append]
 have B1:=ze b1
 have B2:=ze b2
 have q:=ze M
 have BZ:=ze bz
 clear b1 b2 M bz
 gi_wp2
 obtain⟨W0,L⟩:∃W0,((w.alloc (.cells #[.func (.func 189) #[] #[]] 260)).alloc (.cells #[I i64 0] 2))=W0:=⟨_,rfl⟩
 rw[L]at B1 B2 q BZ ⊢
 clear L
 have hz:W0.1.size=w.1.size+2:=ud BZ
 refine wpIn_rangeFunc_ownH (F:=Fence.wide) (n:=7) rfl (by omega) (gf:=gf) (lb:=lb) rfl trivial (ud Y) (ud G) (ud g).t (fun W l o o' hl=>(ud g).b W l o o' (by omega)) (ud q) (fun _=>rfl)
  (fun d W=>W.1[w.1.size]?=O (.cells #[.func (.func 189) #[] #[]] 260 (0,0))/\W.1[w.1.size+1]?=O (.cells #[I i64 (vn (d.map f))] 2 (0,0))/\Q w.1.size w W)
  (fun _ _ _=>False)
  (fun s A B row j P z=>⟨zG j.1 P (fun r e=>(z r e).2),zG j.2.1 P (fun r e=>(z r e).2),j.2.2.grown P (j.2.2.size) (fun k e=>by have:=(z k e).1;omega)⟩)
  (fun _ _ _ _ _ j _ _=>j)
  ⟨ud B1,ud B2,ud q⟩
  (fun x a' W=>∃y,w.1.size+2<=y/\W.1[y]?=O (.cells #[I i64 x.cnt,I i64 x.sum,I i32 x.mn,I i32 x.mx] 114 (0,0))/\a'={tmps:=#[.func (.func gf) #[] lb,.func (.func 189) #[] #[],undef,.pointer (O ⟨w.1.size,0,E⟩),I i64 0,.pointer (O ⟨w.1.size+1,0,E⟩),.pointer (O ⟨y,0,E⟩),.func (.func gf) #[] lb,.agg #[I i64 x.cnt,I i64 x.sum,I i32 x.mn,I i32 x.mx],undef,undef,undef,undef,undef,undef],defers:=[]})
  (fun x a' s A B row j P z=>by
   obtain⟨y,h1,h2,h3⟩:=j
   exact⟨y,h1,zG h2 P (fun r e=>(z r e).2),h3⟩) ?assign ?body ?done ?stop
 case assign=>
  rintro l d x W K ⟨i1,i2,i3⟩ H
  have v:=i3.size
  have a2:=zd i2
  have HK:=ze H
  clear H
  gi_wp2
  refine ud HK _ _ ((KeepsOthers.alloc _ _).from _) ((ud g).of _ _ (KeepsOthers.alloc _ _) ((Below.refl _ W).alloc v _)) ⟨(Below.heap_alloc _ _ _ (by omega)).trans i1,(Below.heap_alloc _ _ _ (by omega)).trans i2,i3.alloc v _⟩ ⟨W.1.size,by omega,zo _ _,rfl⟩
 case body=>
  rintro l d x a' W hl ⟨r,z⟩ ⟨i1,i2,i3⟩ ⟨y,a0,V,rfl⟩ a3
  have v:=i3.size
  have a1:=zd V
  have U:=zd i2
  obtain⟨c1,-⟩:=zc i1
  obtain⟨c2,-⟩:=zc i2
  have f2:W.frozen? ⟨w.1.size+1,0,E⟩=false:=zD i2 0
  obtain⟨x0,x1,x2,x3,-⟩:=zc V
  have HI:=ze i2
  have Z:=ze i1
  have u:=ze i3
  have HX:=ze V
  have a4:prog.follows .mixedOrders=true:=by kernel_rfl
  have HC:=ze (ud C x W i3)
  have X:=ze (ud C x W.drew i3.drew)
  clear i1 i2 i3 V
  gi_wp2
  gi_region_with_o (refine⟨trivial,?_⟩;gi_at_call 189;(first|refine(CallsIn.inRound l (callsIn_wide.2 (ud HC))).mono ?_|refine(CallsIn.inRound l (callsIn_wide.2 (ud X))).mono ?_);rintro e w' ⟨rfl,i⟩;have d2:w'.cell? ⟨w.1.size+1,0,E⟩=O (I i64 (vn (d.map f))):=(i.cell (p:=⟨w.1.size+1,0,E⟩) U).trans c2;have e2:w'.frozen? ⟨w.1.size+1,0,E⟩=false:=zD ((i.block _ U).trans (ud HI)) 0;have a:=ze i;clear i)
  all_goals gi_wp2
  all_goals(try go_bits)
  all_goals exact zae (x:=x) rfl (ud Z) (ud HI) (ud u) (ud g) ⟨(ud a).os,(ud a).tape,(ud a).output,(ud a).size,(ud a).block⟩
 case done=>
  rintro D xs W hD hS ⟨i1,i2,i3⟩ H
  obtain⟨c2,-⟩:=zc i2
  have u:=ze i3
  clear i1 i2 i3
  gi_wp2
  refine⟨by simp,.inl ⟨_,_,rfl,run_takeDeferred H,?_⟩⟩
  exact⟨_,results_tmp rfl _ _ _,xs,hS,rfl,xD (ud u) (Nat.le_refl _) (by omega) H _⟩
 case stop=>
  rintro D c d W _ _ h _
  exact h.elim
end Go.Proofs.YtpbimdkclnekeaaGreat
