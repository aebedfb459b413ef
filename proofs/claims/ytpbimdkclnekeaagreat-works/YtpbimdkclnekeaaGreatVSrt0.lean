import Derived.Sort.Grow
import Derived.Sort.Statements
import Derived.Deep.Draws
import Derived.Test.YtpbimdkclnekeaaGreatVTel1
import Derived.Shelf.SlSortCmp.WholeK
import Derived.Shelf.SlSortCmp.NoneTotal
import Derived.Test.YtpbimdkclnekeaaGreatVRefS
import Derived.Test.YtpbimdkclnekeaaGreatVOrd3
import Derived.Test.YtpbimdkclnekeaaGreatVShp0
open Go.Value renaming int → I
open Go.IntKind renaming i64 → J
open Option renaming some → K
open Option renaming none → O
open Go renaming World → E
open Go.RowKit renaming Below → U
open Go.RowKit.Below renaming refl → Y
open Nat renaming le_refl → Z
open Go renaming Value → A
open Nat renaming lt_of_lt_of_le → D
set_option linter.unusedVariables false
set_option maxRecDepth 20000
set_option maxHeartbeats 4000000
open Go.Proofs.Tryz
namespace Go.Proofs.YtpbimdkclnekeaaGreat
open Go.RowKit Go.Maps Go.Shelf
theorem Dr.Below.lays{w w':E}(h:Dr.Below w.1.size w w'):∃q os,w'=Go.Sort.grow (w.drewN q) os:=by
 obtain⟨⟨a,b,c,e,d⟩,f⟩:=h
 refine⟨w'.drawn-w.drawn,w'.heap.extract w.1.size w'.1.size,?_⟩
 obtain⟨j,l,g,os,k⟩:=w'
 dsimp only at a b c e d f ⊢
 subst a b c
 unfold Go.Sort.grow World.drewN
 dsimp only
 congr 1
 ·apply Array.ext_getElem?
  intro i
  rw[Array.getElem?_append]
  split
  ·rename_i hi;exact d i hi
  ·rename_i hi
   rw[Array.getElem?_extract]
   split
   ·congr 1;omega
   ·rw[Array.getElem?_eq_none];omega
 ·omega
theorem qv(x y:Tsk):qY x y<0↔(x.kd<y.kd\/x.kd=y.kd/\(x.s.t<y.s.t\/x.s.t=y.s.t/\(x.s.se<y.s.se\/x.s.se=y.s.se/\x.s.we<y.s.we))):=by
 unfold qY
 simp only[orL,vG]
 repeat' split
 all_goals omega
theorem zeA{x y:Tsk}(a:¬qY x y<0)(b:¬qY y x<0):x.kd=y.kd/\x.s.t=y.s.t/\x.s.se=y.s.se/\x.s.we=y.s.we:=by
 rw[qv]at a b
 omega
theorem zeB:Go.Sort.SWO (fun x y:Tsk=>decide (qY x y<0)) where
 irrefl x:=by simp only[decide_eq_false_iff_not,qv];omega
 trans x y z h1 h2:=by simp only[decide_eq_true_eq,qv]at*;omega
 ntrans x y z h1 h2:=by simp only[decide_eq_false_iff_not,qv]at*;omega
theorem zdV{l e:List Tsk}(i:l.Perm e)(k:l.Pairwise (fun a b=>¬qY b a<0))(m:e.Pairwise (fun a b=>¬qY b a<0))(p:∀a∈l,∀b∈l,a.key=b.key->a=b):l=e:=
 i.eq_of_pairwise (fun a b n o c d=>p a n b (i.mem_iff.2 o) (by
  obtain⟨j,f,g,h⟩:=zeA d c
  unfold Tsk.key
  rw[j,show a.s=b.s from by
   obtain⟨_,⟨_,_,_⟩,_,_,_⟩:=a
   obtain⟨_,⟨_,_,_⟩,_,_,_⟩:=b
   simp only at f g h ⊢
   rw[f,g,h]])) k m
def vN(QL:List (Tok×Lse))(x:Tsk):Tok×Int×Int:=match QL.find? (fun p=>decide (p.2.job=x.key))with|some p=>(p.1,p.2.slot,p.2.til)|none=>(⟨0,0⟩,-1,0)
def Xn(QL:List (Tok×Lse))(x:Tsk):List A:=[I J x.kd,I J x.s.t,I J x.s.se,I J x.s.we,I J x.si,I J x.tc,I J x.rest,I J (vN QL x).1.ep,I J (vN QL x).1.num,I J (vN QL x).2.1,I J (vN QL x).2.2]
theorem zgM(QL:List (Tok×Lse))(x:Tsk):∀v∈Xn QL x,v.oneCell'=true:=fun v hv=>by
 simp only[Xn,List.mem_cons,List.not_mem_nil,or_false]at hv
 rcases hv with rfl|rfl|rfl|rfl|rfl|rfl|rfl|rfl|rfl|rfl|rfl<;>rfl
theorem yr{α β:Type}{f:α->β}:∀{l:List α},(l.map f).Nodup->∀x∈l,∀y∈l,f x=f y->x=y
 |[],_,x,d,_,_,_=>by cases d
 |a::l,h,x,d,y,g,e=>by
  rw[List.map_cons,List.nodup_cons]at h
  rcases List.mem_cons.1 d with rfl|c
  ·rcases List.mem_cons.1 g with rfl|b
   ·rfl
   ·exact absurd (List.mem_map.2 ⟨y,b,e.symm⟩) h.1
  ·rcases List.mem_cons.1 g with rfl|b
   ·exact absurd (List.mem_map.2 ⟨x,c,e⟩) h.1
   ·exact yr h.2 x c y b e
theorem zit{w:E}{b:Nat}{c:Cf}{tv:A}{ep num:Int}{tb qb:Nat}{TL:List (Jk×Tsk)}{QL:List (Tok×Lse)}(h:zM w b c tv ep num tb qb TL QL)(k:(QL.map (fun q=>q.2.job)).Nodup)(x:Tsk):
  Calls prog 89 #[.pointer (K ⟨b,0,O⟩),.agg #[.iface x.jt (.agg #[I J x.s.t,I J x.s.se,I J x.s.we]),I J x.si,I J x.tc,I J x.rest]] w fun e w'=>e=.returned (.agg (Xn QL x).toArray)/\U w.1.size w w':=by
 unfold Xn vN
 cases d:QL.find? (fun p=>decide (p.2.job=x.key))with
 |none=>
  refine(zgN h x (fun p j e=>?_)).mono fun e w' a=>a
  have:=List.find?_eq_none.1 d p j
  simp[e]at this
 |some p=>
  have i:=List.mem_of_find?_eq_some d
  have g:p.2.job=x.key:=by have:=List.find?_some d;simpa using this
  exact(zcz h x p.1 p.2 i g (fun q f e=>yr k q f p i (e.trans g.symm))).mono fun e w' a=>a
theorem zgL{TL:List (Jk×Tsk)}(c:∀p∈TL,p.1=p.2.key)(hn:(zv TL).Nodup):∀a∈TL.map (fun p=>p.2),∀b∈TL.map (fun p=>p.2),a.key=b.key->a=b:=fun a g b h e=>by
 obtain⟨p,d,rfl⟩:=List.mem_map.1 g
 obtain⟨q,f,rfl⟩:=List.mem_map.1 h
 rw[yr hn p d q f (by rw[c p d,c q f,e])]
structure ZL(TL:List (Jk×Tsk))(ts:List Tsk):Prop where
 perm:ts.Perm (TL.map (fun p=>p.2))
 sorted:ts.Pairwise (fun a b=>¬qY b a<0)
theorem ZL.one{TL:List (Jk×Tsk)}{ts c:List Tsk}(h:ZL TL ts)(d:ZL TL c)(i:∀p∈TL,p.1=p.2.key)(hn:(zv TL).Nodup):ts=c:=
 zdV (h.perm.trans d.perm.symm) h.sorted d.sorted (fun a f b g e=>zgL i hn a (h.perm.mem_iff.1 f) b (h.perm.mem_iff.1 g) e)
theorem ZL.len{TL:List (Jk×Tsk)}{ts:List Tsk}(h:ZL TL ts):ts.length=TL.length:=by rw[h.perm.length_eq,List.length_map]
end Go.Proofs.YtpbimdkclnekeaaGreat
namespace Go.Proofs.YtpbimdkclnekeaaGreat
open Go.RowKit Go.Maps Go.Shelf Go.Sort
theorem zjZ{α:Type}[Inhabited α](enc:α->List A)(k:Nat)(w:E)(a b n:Nat)(d:Array α)(os:Array Obj):zk (fun j=>j=a) w (sortWorldK enc k w a b n d os) where
 os:=rfl
 tape:=rfl
 output:=rfl
 size:=size_sortWorldK_c enc k w a b n d os
 block j hj hn:=by
  unfold sortWorldK putRowK
  rw[heap_grow_old _ _ (by rw[size_putRow];exact hj)]
  unfold putRow mapBlock
  show((Sort.ahead w n).heap.modify a _)[j]?=_
  rw[Array.getElem?_modify,if_neg (fun e=>hn e.symm)]
  rfl
theorem zhv:∀args w,(callFunc 91 args).run prog w=.ok (.enter 91 args) w:=enters_of func91 (by kernel_rfl) rfl
theorem zgU(a b size:Nat)(w:E):CmpLays prog 91 #[] YX 4 qY a b size w:=
 fun m os f g x y=>(Dr.byKey_any x y _).mono fun e w' ⟨d,c⟩=>⟨d,c.lays⟩
theorem zik(c cap:Nat)(xs:List Tsk)(w:E)(r:HoldsK YX 4 w c 0 xs.toArray)(g:c<w.1.size)(p:xs.length<4611686018427387904):
  Calls prog 140 #[.slice (K ⟨c,0,O⟩) xs.length cap,.func (.func 91) #[] #[]] w fun e w'=>e=.returned (.tuple #[])/\∃q:List Tsk,q.Perm xs/\q.Pairwise (fun a b=>¬qY b a<0)/\HoldsK YX 4 w' c 0 q.toArray/\zk (fun j=>j=c) w w':=by
 have k:=AnyQ.slices_SortFunc Tryz.sortTsk 4 Tryz.isAgg162 Tryz.sizeOf162 YX VR zcD qY zeB 91 #[] c 0 cap xs.toArray w zhv (zgU c 0 _ w) r g (by simpa using p)
 have d:Calls prog 140 #[.slice (K ⟨c,0,O⟩) xs.toArray.size cap,.func (.func 91) #[] #[]] w _:=k
 rw[List.size_toArray]at d
 refine d.mono ?_
 rintro e w' ⟨rfl,f,n,os,⟨u,_,t⟩,z,rfl⟩
 have l:f.size=xs.length:=by rw[u,List.size_toArray]
 refine⟨rfl,f.toList,?_,?_,?_,zjZ _ _ _ _ _ _ _ _⟩
 ·have v:f.extract 0 xs.length=f:=by rw[<-l];exact Array.extract_size
  have x:xs.toArray.extract 0 xs.length=xs.toArray:=by simp
  rw[v,x]at t
  exact t
 ·rw[List.pairwise_iff_getElem]
  intro i j y s o
  have h:=z i j (Nat.zero_le _) o (by rw[<-l];simpa using s)
  have m:i<f.size:=by simpa using y
  have hj':j<f.size:=by simpa using s
  rw[getElem!_pos f i m,getElem!_pos f j hj']at h
  unfold ltOf at h
  simpa using h
 ·have:=holdsK_sortWorldK_c YX 4 w c 0 xs.toArray f n os r g u
  simpa using this
theorem zgs(a:Option Addr)(cap:Nat)(w:E):
  Calls prog 140 #[.slice a 0 cap,.func (.func 91) #[] #[]] w fun e w'=>e=.returned (.tuple #[])/\w'=w:=
 AnyF.slices_SortFunc_none (P:=prog) Tryz.sortTsk a cap (.func (.func 91) #[] #[]) w
theorem zhz{w:E}{base g cap:Nat}{e:TypeId}{xs:List Tsk}(h:w.ownsRow base e 4 (.slice (K ⟨g,0,O⟩) xs.length cap) xs.length (xs.flatMap YX)):HoldsK YX 4 w g 0 xs.toArray:=fun j c=>by
 have hj':j<xs.length*4:=by simpa[size_flatK]using c
 rw[Nat.zero_add]
 refine⟨?_,h.frozenAt j⟩
 rw[h.cellAt j hj',get_flatK _ _ _ _ (by simpa using hj')]
 have b:j/4<xs.length:=by omega
 have:=ql VR xs (j/4) xs[j/4] (j%4) (by simp[b]) (by omega)
 rw[show j/4*4+j%4=j by omega]at this
 rw[this,getElem!_pos xs.toArray (j/4) (by simpa using b)]
 have a:j%4<(YX xs[j/4]).length:=by rw[VR];omega
 simp only[id,List.getElem_toArray]
 rw[getElem!_pos (YX xs[j/4]) (j%4) a,List.getElem?_eq_getElem a]
theorem zaG(gf:Nat)(lb:Array A)(i:∀args w,(callFunc gf args).run prog w=.ok (.enter gf args) w){N:Nat}{S:List Tsk->Prop}(w:E)(j:N<=1000000)
  (c:YK Fence.wide 6 prog gf lb (fun x:Tsk=>#[.agg #[.iface x.jt (.agg #[I J x.s.t,I J x.s.se,I J x.s.we]),I J x.si,I J x.tc,I J x.rest]]) KeepsWalks S (fun _=>True) N 0 w):
  Calls prog 139 #[.func (.func gf) #[] lb] w fun e w'=>∃xs a cap,S xs/\e=.returned (.slice a xs.length cap)/\w'.ownsRow w.1.size 162 4 (.slice a xs.length cap) xs.length (xs.flatMap YX)/\U w.1.size w w':=by
 have d:=ze (zeu gf lb i w j c)
 clear c
 go_enter func139,ntmps139
 go_wp2_with fail
 refine(ud d).mono ?_
 rintro e w' ⟨xs,v,k,rfl,b,f⟩
 obtain⟨a,cap,rfl⟩:=zq b
 have h:=ze b
 have g:=ze f
 clear b f d
 go_wp2_with fail
 go_ret
 exact⟨xs,a,cap,k,rfl,ud h,ud g⟩
theorem zgp{w:E}{Bm b:Nat}{TL:List (Jk×Tsk)}(y:Bm<w.1.size)(G:w.cell? ⟨Bm,0,O⟩=K (.map (K b)))(c:xh xO w b TL)(f:TL.length<=1000000):
  Calls prog 90 #[.func (.func 133) #[] #[.pointer (K ⟨Bm,0,O⟩)],.func (.func 91) #[] #[]] w fun e w'=>
   ∃ts a cap,ZL TL ts/\e=.returned (.slice a ts.length cap)/\(ts≠[]->∃g,a=K ⟨g,0,O⟩/\g<w'.1.size/\HoldsK YX 4 w' g 0 ts.toArray)/\U w.1.size w w':=by
 have C:=ze (zaG _ _ ziE w f (zjs id id Bm b TL (fun _ _=>rfl) w y G c))
 clear G c
 go_enter func90,ntmps90
 go_wp2_with fail
 refine(ud C).mono ?_
 rintro e M ⟨xs,a,cap,⟨ps,H,L⟩,rfl,c,i⟩
 have k:xs.Perm (TL.map (fun p=>p.2)):=by rw[L];exact H.map _
 clear C L H
 have m:=ze k
 have V:xs.length<=1000000:=by rw[k.length_eq,List.length_map];exact f
 clear k
 by_cases R:xs.length=0
 ·have o:xs=[]:=List.length_eq_zero_iff.1 R
  subst o
  have t:=ze (zgs a cap M)
  have u:=ze i
  clear c i
  simp only[List.length_nil]
  go_wp2_with fail
  refine(ud t).mono ?_
  rintro e W ⟨rfl,rfl⟩
  go_wp2_with fail
  go_ret
  exact⟨[],a,cap,⟨ud m,List.Pairwise.nil⟩,rfl,fun h=>absurd rfl h,ud u⟩
 ·obtain⟨g,F,hv,X,n⟩:=c.form (by omega)
  injection hv with z T B
  subst z B
  have t:=ze (zik g cap xs M (zhz c) n (by omega))
  have u:=ze i
  clear c i
  go_wp2_with fail
  refine(ud t).mono ?_
  rintro e W ⟨rfl,N,l,s,q,d⟩
  have P:=ze d
  have Q:=ze q
  have v:=ze l
  have x:=ze s
  have r:xs.length=N.length:=l.length_eq.symm
  rw[r]
  clear d q t l r s
  go_wp2_with fail
  go_ret
  have d:=ud P
  have i:=ud u
  exact⟨N,K ⟨g,0,O⟩,cap,⟨(ud v).trans (ud m),(ud x).imp (fun h=>by omega)⟩,rfl,fun _=>⟨g,rfl,D n d.size,ud Q⟩,i.trans ⟨d.os,d.tape,d.output,d.size,fun j S=>d.block j (D S i.size) (by omega)⟩⟩
theorem Tryz.infoJob:(prog.info? 51).map (fun i=>(i.zero,i.size,i.bytes))=K (K (.agg #[I J 0,I J 0,I J 0,I J 0,I J 0,I J 0,I J 0,I J 0,I J 0,I J 0,I J 0]),11,88):=by kernel_rfl
theorem zid{w:E}{ops:Array Oper}{rest:List Oper}{o:Oper}{a:Act}{Q:Exit->Act->E->Prop}(f:o.guard=O)(s y:Operand)
  (m:o.op=.call {callee:=.builtin .append,args:=#[s,y],argTypes:=#[55,55]}) (base:Nat) (v:A) (QL:List (Tok×Lse)) (l:List Tsk) (x:Tsk) (n:Nat) (p:a.eval s=v) (c:w.ownsRow base 51 11 v n (l.flatMap (Xn QL)))
  (d:Nat) (q:a.eval y=.slice (K ⟨d,0,O⟩) 1 1) (e:w.1[d]?=K (.cells #[I J x.kd,I J x.s.t,I J x.s.se,I J x.s.we,I J x.si,I J x.tc,I J x.rest,I J (vN QL x).1.ep,I J (vN QL x).1.num,I J (vN QL x).2.1,I J (vN QL x).2.2] 51 (0,0))) (z:n<=1000000) (b:base<=w.1.size)
  (h:∀g cap w',w'.ownsRow base 51 11 (.slice (K ⟨g,0,O⟩) (n+1) cap) (n+1) ((l++[x]).flatMap (Xn QL))->w.grownBy w' v.ownBlock->g<w'.1.size->wpList prog ops Q rest (a.put o.dst (.slice (K ⟨g,0,O⟩) (n+1) cap)) w'):wpList prog ops Q (o::rest) a w:=
 zP f s y 55 m base 51 _ 11 88 underlying55 Tryz.infoJob rfl (by decide) v n (l.flatMap (Xn QL)) p c ⟨d,0,O⟩ 1 1 (Xn QL x) q rfl
  (World.news_of_block (cs:=(Xn QL x).toArray) e) (zgM QL x) (by decide) (by simp only[maxLen];omega) (by omega) b
  fun g cap w' i r j u k=>h g cap w' (by rw[List.flatMap_append];simpa using i) j k
theorem zhK{w:E}{b:Nat}{c:Cf}{tv:A}{ep num:Int}{tb qb:Nat}{TL:List (Jk×Tsk)}{QL:List (Tok×Lse)}(h:zM w b c tv ep num tb qb TL QL)(hu:(QL.map (fun q=>q.2.job)).Nodup)(z:TL.length<=1000000):
  Calls prog 40 #[.pointer (K ⟨b,0,O⟩)] w fun e w'=>∃ts a cap,ZL TL ts/\e=.returned (.slice a ts.length cap)/\w'.ownsRow w.1.size 51 11 (.slice a ts.length cap) ts.length (ts.flatMap (Xn QL))/\U w.1.size w w':=by
 have aa:=h.lt
 have c9:=h.cell9
 have HV:=ze (zfb tb w)
 have b0:=zo w (.cells #[.map (K tb)] 154)
 have L:U w.1.size w (w.alloc (.cells #[.map (K tb)] 154)):=(Y _ _).alloc (Z _) _
 have HS:=ze (zgp (w:=w.alloc (.cells #[.map (K tb)] 154)) (Bm:=w.1.size) (b:=tb) (TL:=TL) (by rw[zF];omega) (by rw[zN b0];rfl) (h.later L).tg z)
 have H:=ze h
 have Q:=ze L
 clear h b0 L
 go_enter func40,ntmps40
 go_wp2_with fail
 refine(ud HV).mono ?_
 rintro e w0 ⟨rfl,rfl⟩
 go_wp2_with fail
 refine(ud HS).mono ?_
 rintro e G ⟨ts,a,cap,hJ,rfl,C,T⟩
 have r:=(ud Q).trans (T.mono (ud Q).size)
 clear c9 HV HS T
 have HJ:=ze hJ
 have HR:=ze C
 have HB:=ze r
 clear hJ C r
 go_wp2_with fail
 have P:w.1.size<=G.1.size:=(ud HB).size
 have ae:ts.length<=1000000:=by rw[(ud HJ).len];exact z
 go_loopw [3,5,13] (fun o _ y wr=>∃(k:Nat),k<=ts.length/\y=I J k/\wr.ownsRow G.1.size 51 11 o k ((ts.take k).flatMap (Xn QL))/\RowKit.Below G.1.size G wr) (fun _ _ y _=>ts.length-(intOf y).toNat)
 case atStart=>exact⟨0,Nat.zero_le _,rfl,World.ownsRow_nil _ _ _ _,Y _ _⟩
 case round=>
  obtain⟨k,hk,rfl,F,r⟩:=hrel
  obtain⟨az,cz,a6⟩:=zq F
  subst a6
  by_cases n:k<ts.length
  ·obtain⟨g,a4,W,hH⟩:=ud HR (fun e=>by rw[e]at n;simp at n)
   subst a4
   obtain⟨x,hx⟩:=xr n
   have a8:(k:Int)<ts.length:=by omega
   have m:∀j,j<4->wr.cell? ⟨g,k*4+j,O⟩=K (YX x)[j]!:=fun j hj=>by
    have h1:=(hH.cell (i:=k) (c:=j) (by simpa using n) hj).1
    rw[Nat.zero_add]at h1
    rw[r.cell (p:=⟨g,k*4+j,O⟩) W,h1]
    obtain⟨X,N⟩:=List.getElem?_eq_some_iff.1 hx
    rw[getElem!_pos ts.toArray k (by simpa using n)]
    simp only[List.getElem_toArray,N]
   have x0:wr.cell? ⟨g,k*4,O⟩=K (.iface x.jt (.agg #[I J x.s.t,I J x.s.se,I J x.s.we])):=m 0 (by omega)
   have x1:wr.cell? ⟨g,k*4+1,O⟩=K (I J x.si):=m 1 (by omega)
   have x2:wr.cell? ⟨g,k*4+2,O⟩=K (I J x.tc):=m 2 (by omega)
   have x3:wr.cell? ⟨g,k*4+3,O⟩=K (I J x.rest):=m 3 (by omega)
   have ab:=D W r.size
   have M:RowKit.Below wr.1.size wr (wr.alloc (.cells #[.iface x.jt (.agg #[I J x.s.t,I J x.s.se,I J x.s.we]),I J x.si,I J x.tc,I J x.rest] 162)):=(Y _ _).alloc (Z _) _
   have V:RowKit.Below w.1.size w wr:=(ud HB).trans (r.mono P)
   have S:=((ud H).later V).later M
   have HT:=ze (zit S hu x)
   have a0:=zo wr (.cells #[.iface x.jt (.agg #[I J x.s.t,I J x.s.se,I J x.s.we]),I J x.si,I J x.tc,I J x.rest] 162)
   obtain⟨e0,e1,e2,e3,-⟩:=zc a0
   have HZ:=ze F
   have d:=ze r
   have u:=ze M
   have HX:=ze hx
   clear F r M hx S a0 hH m HR V
   go_wp2_with fail
   refine(ud HT).mono ?_
   rintro e w2 ⟨he,v⟩
   subst he
   unfold Xn
   have a1:=ze v
   have R:=ze (zi (zi (ud HZ) (zk.of_below (f:=fun _=>False) (ud u)) (fun _ _ e=>e)) (zk.of_below (f:=fun _=>False) v) (fun _ _ e=>e))
   have ad:G.1.size<=w2.1.size:=Nat.le_trans (ud d).size (Nat.le_trans (ud u).size v.size)
   clear v HT e0 e1 e2 e3 x0 x1 x2 x3
   go_wp2_with(first|(at_builtin;refine zid rfl _ _ rfl G.1.size _ QL (ts.take k) x k rfl ((ud R).alloc _) w2.1.size rfl (zo _ _) ?hll ?hbb ?_;(case hll=>omega);(case hbb=>(rw[zF];omega));intro g2 a7 w3 B l a9;have a3:=ze B;have a2:=ze l;clear B l)|fail)
   go_roundw
   case rel=>
    obtain⟨X,N⟩:=List.getElem?_eq_some_iff.1 (ud HX)
    refine⟨k+1,by omega,by go_num,?_,?_⟩
    ·rw[List.take_succ_eq_append_getElem X,N];exact ud a3
    ·have hg:(w2.alloc (.cells #[I J x.kd,I J x.s.t,I J x.s.se,I J x.s.we,I J x.si,I J x.tc,I J x.rest,I J (vN QL x).1.ep,I J (vN QL x).1.num,I J (vN QL x).2.1,I J (vN QL x).2.2] 51)).grownBy w3 (Value.slice az k cz).ownBlock:=ud a2
     have hbb:RowKit.Below G.1.size G w2:=(ud d).trans (((ud u).mono (ud d).size).trans ((ud a1).mono (Nat.le_trans (ud d).size (ud u).size)))
     exact(hbb.alloc hbb.size _).grown hg (by rw[zF];omega) (fun j e=>((ud R).lt j e).1)
   case measure=>simp[intOf];omega
  ·have a5:k=ts.length:=by omega
   subst a5
   have ac:decide ((ts.length:Int)<ts.length)=false:=by simp
   have HZ:=ze F
   have d:=ze r
   clear F r HR
   go_wp2_with fail
   go_ret
   have F:=ud HZ
   rw[List.take_length]at F
   exact⟨ts,az,cz,ud HJ,rfl,yE F P,(ud HB).trans ((ud d).mono P)⟩
end Go.Proofs.YtpbimdkclnekeaaGreat
namespace Go.Proofs.YtpbimdkclnekeaaGreat
open Go.ChangeMaps (setBlock)
open Go.RowKit Go.Maps Go.Shelf
theorem zfw{w:E}{i:Ids}{c:Cf}{ep:Int}{m:MS}(h:zy w i c ep m)(n:(m.QL.map (fun q=>q.2.job)).Nodup)(f:m.TL.length<=1000000):
  Calls prog 17 #[.pointer (K ⟨i.x,0,O⟩)] w fun e w'=>∃ts a cap,ZL m.TL ts/\e=.returned (.slice a ts.length cap)/\w'.ownsRow w.1.size 51 11 (.slice a ts.length cap) ts.length (ts.flatMap (Xn m.QL))/\U w.1.size w w':=by
 have o:=h.lt
 obtain⟨-,-,-,-,-,-,-,-,-,-,k⟩:=h.cells
 have g:=ze (zhK h.board n f)
 clear h
 go_enter func17,ntmps17
 go_wp2_with fail
 refine(ud g).mono ?_
 rintro e p ⟨ts,a,cap,l,rfl,b,d⟩
 have HR:=ze b
 have j:=ze d
 clear b d g
 go_wp2_with fail
 go_ret
 exact⟨ts,a,cap,l,rfl,ud HR,ud j⟩
theorem Zy{α:Type}(a:α->α->Int)(j:∀x y z,¬a x y<0->¬a y z<0->¬a x z<0)(m:∀x,¬a x x<0)(c:∀x y,a x y<0->¬a y x<0):∀(l:List α) (f g:α),l.foldl (Qu a) (K f)=K g->¬a f g<0/\∀x∈l,¬a x g<0
 |[],f,g,h=>by
  have:f=g:=by simpa using h
  subst this
  exact⟨m _,fun x d=>by cases d⟩
 |x::l,f,g,h=>by
  rw[List.foldl_cons]at h
  by_cases d:a x f<0
  ·have e:Qu a (K f) x=K x:=by simp[Qu,d]
   rw[e]at h
   obtain⟨i,k⟩:=Zy a j m c l x g h
   refine⟨j _ _ _ (c _ _ d) i,fun y b=>?_⟩
   rcases List.mem_cons.1 b with rfl|b
   ·exact i
   ·exact k y b
  ·have e:Qu a (K f) x=K f:=by simp[Qu,d]
   rw[e]at h
   obtain⟨i,k⟩:=Zy a j m c l f g h
   refine⟨i,fun y b=>?_⟩
   rcases List.mem_cons.1 b with rfl|b
   ·exact j _ _ _ d i
   ·exact k y b
theorem Yo(c:Cf)(now:Int)(a:Bool)(x y:Tsk):YJ c now a x y<0↔((a=true/\y.kd<x.kd)\/(¬(a=true/\¬x.kd=y.kd)/\(yu c now x<yu c now y\/yu c now x=yu c now y/\qY x y<0))):=by
 unfold YJ zjN
 generalize yu c now x=b
 generalize yu c now y=d
 cases a
 ·simp only[orL,vG]
  repeat' split
  all_goals first|(simp;omega)|(simp;done)|simp_all
 ·simp only[orL,vG]
  repeat' split
  all_goals first|(simp;omega)|(simp;done)|simp_all
theorem zfH(c:Cf)(now:Int)(a:Bool)(x y z:Tsk)(b:¬YJ c now a x y<0)(d:¬YJ c now a y z<0):¬YJ c now a x z<0:=by
 rw[Yo,qv]at*
 generalize yu c now x=e at*
 generalize yu c now y=f at*
 generalize yu c now z=g at*
 cases a<;>simp only[Bool.false_eq_true,true_and,false_and,false_or,not_false_eq_true]at* <;>omega
theorem zbd(c:Cf)(now:Int)(a:Bool)(x:Tsk):¬YJ c now a x x<0:=by
 rw[Yo,qv]
 omega
theorem zfG(c:Cf)(now:Int)(a:Bool)(x y:Tsk)(h:YJ c now a x y<0):¬YJ c now a y x<0:=by
 rw[Yo,qv]at*
 cases a<;>simp only[Bool.false_eq_true,true_and,false_and,false_or,not_false_eq_true]at* <;>omega
theorem zjH(c:Cf)(now:Int)(a:Bool)(x y:Tsk)(b:¬YJ c now a x y<0)(d:¬YJ c now a y x<0):x.kd=y.kd/\x.s=y.s:=by
 rw[Yo,qv]at*
 have:x.kd=y.kd/\x.s.t=y.s.t/\x.s.se=y.s.se/\x.s.we=y.s.we:=by
  cases a<;>simp only[Bool.false_eq_true,true_and,false_and,false_or,not_false_eq_true]at* <;>omega
 refine⟨this.1,?_⟩
 obtain⟨_,⟨_,_,_⟩,_,_,_⟩:=x
 obtain⟨_,⟨_,_,_⟩,_,_,_⟩:=y
 simp only at this ⊢
 rw[this.2.1,this.2.2.1,this.2.2.2]
structure TkT(k:Tk)(x:Tsk):Prop where
 kind:k.kind=x.kd
 s:k.s=x.s
 si:k.si=x.si
theorem JP{m:RM}{k:Tk}{x:Tsk}(h:TkT k x)(a:x.si<=m.now):m.pressR k=yu m.c m.now x:=by
 unfold RM.pressR RM.due yu Cf.end
 rw[h.kind,h.s,h.si,Int.tdiv_eq_ediv_of_nonneg (by omega)]
 unfold Tsk.kd
 cases x.rl<;>simp
theorem zer{m:RM}{a b:Tk}{x y:Tsk}(e:TkT a x)(f:TkT b y)(g:x.si<=m.now)(h:y.si<=m.now)(d:Bool):m.aheadB d a b=decide (YJ m.c m.now d x y<0):=by
 have k:xZ a b=decide (qY x y<0):=by
  unfold xZ
  rw[e.kind,f.kind,e.s,f.s]
  rw[Bool.eq_iff_iff,decide_eq_true_eq,qv]
  repeat' split
  all_goals(simp only[decide_eq_true_eq];omega)
 have i:x.kd=1\/x.kd=2:=by unfold Tsk.kd;split<;>simp
 have j:y.kd=1\/y.kd=2:=by unfold Tsk.kd;split<;>simp
 unfold RM.aheadB
 rw[k,JP e g,JP f h,e.kind,f.kind,Bool.eq_iff_iff,decide_eq_true_eq,Yo]
 generalize yu m.c m.now x=l
 generalize yu m.c m.now y=n
 generalize qY x y=bk
 cases d
 ·simp only[Bool.false_eq_true,false_and,if_false,false_or,not_false_eq_true,true_and]
  split<;>simp only[decide_eq_true_eq]<;>omega
 ·simp only[true_and]
  split
  ·simp only[decide_eq_true_eq];omega
  ·split<;>simp only[decide_eq_true_eq]<;>omega
theorem zkj(gf:Nat)(lb:Array A)(c:Nat)(a b:Array A)(w:E):
  Calls prog 81 #[.func (.func gf) #[] lb,.func (.func c) a b] w fun e w'=>e=.returned (.func (.func 132) #[] #[.pointer (K ⟨w.1.size,0,O⟩),.pointer (K ⟨w.1.size+1,0,O⟩)])/\w'=(w.alloc (.cells #[.func (.func gf) #[] lb] 159)).alloc (.cells #[.func (.func c) a b] 164):=by
 go_enter func81,ntmps81
 go_wp2_with fail
 go_ret
 exact⟨rfl,rfl⟩
theorem zkg:∀args w,(callFunc 132 args).run prog w=.ok (.enter 132 args) w:=enters_of func132 (by kernel_rfl) rfl
theorem zM.setNum{w:E}{b:Nat}{c:Cf}{tv:A}{ep num:Int}{tb qb:Nat}{TL:List (Jk×Tsk)}{QL:List (Tok×Lse)}(h:zM w b c tv ep num tb qb TL QL)(n:Int):zM (w.setCell ⟨b,8,O⟩ (I J n)) b c tv ep n tb qb TL QL:=by
 have a:zk (fun k=>k=b) w (w.setCell ⟨b,8,O⟩ (I J n)):=zn (zk.refl _ _) rfl
 exact⟨xm (i:=8) h.head (I J n),h.tg.kept a h.tb_ne,h.leases.kept a h.qb_ne,h.apart⟩
theorem zgz{X:E}{qb:Nat}{QL:List (Tok×Lse)}(h:xh xz X qb QL)(d:QL.length<maxLen){t:Tok}(e:t.wf)(g:Lse):
  ∃o,(Instr.mapUpdate 153 (.map (K qb)) (.agg #[I J t.ep,I J t.num]) (.agg #[I J g.kd,I J g.s.t,I J g.s.se,I J g.s.we,I J g.slot,I J g.til])).run prog X=.ok () (setBlock X qb o)/\xh xz (setBlock X qb o) qb (qt QL t g)/\zk (fun k=>k=qb) X (setBlock X qb o):=by
 obtain⟨o,a,b,c,_⟩:=vQ qZ h d e g
 exact⟨o,a,b,c⟩
theorem zM.putLeases{w w':E}{b:Nat}{c:Cf}{tv:A}{ep num:Int}{tb qb:Nat}{TL:List (Jk×Tsk)}{QL QL':List (Tok×Lse)}(h:zM w b c tv ep num tb qb TL QL)(d:xh xz w' qb QL')(a:zk (fun k=>k=qb) w w'):zM w' b c tv ep num tb qb TL QL':=⟨a.heap h.head (fun e=>h.qb_ne e.symm),h.tg.kept a h.apart,d,h.apart⟩
theorem qH{w:E}{g:Nat}(b0 b c d e f h i j l a:A):zk (fun k=>k=g) w (((((((((((w.setCell ⟨g,0,O⟩ b0).setCell ⟨g,1,O⟩ b).setCell ⟨g,2,O⟩ c).setCell ⟨g,3,O⟩ d).setCell ⟨g,4,O⟩ e).setCell ⟨g,5,O⟩ f).setCell ⟨g,6,O⟩ h).setCell ⟨g,7,O⟩ i).setCell ⟨g,8,O⟩ j).setCell ⟨g,9,O⟩ l).setCell ⟨g,10,O⟩ a):=(zn (zn (zn (zn (zn (zn (zn (zn (zn (zn (zn (zk.refl (fun k=>k=g) w) rfl) rfl) rfl) rfl) rfl) rfl) rfl) rfl) rfl) rfl) rfl)
abbrev zhd(c:Cf)(now:Int):={x:Tsk//KS c now x}
noncomputable def zko (c:Cf) (now:Int) (h:0<=now) (x:Tsk):zhd c now:=by
 classical exact if hx:KS c now x then⟨x,hx⟩else⟨⟨true,⟨-1,0,0⟩,0,0,0⟩,⟨by simp,by show(-1:Int)<c.n;omega,by simp,by show(0:Int)<=0/\(0:Int)<=now;omega⟩⟩
theorem Xd{c:Cf}{now:Int}(h:0<=now){x:Tsk}(a:KS c now x):(zko c now h x).1=x:=by unfold zko;rw[dif_pos a]
theorem Xz{m:RM}:∀(n:Nat),m.bestI n=O->∀i x,i<n->m.tg[i]?=K x->m.freeT x=false
 |0,_,i,x,b,_=>absurd b (Nat.not_lt_zero _)
 |n+1,h,i,x,b,c=>by
  rw[jQ]at h
  cases a:m.bestI n with
  |some j=>
   rw[a]at h
   unfold RM.betterI at h
   split at h
   ·cases h
   ·split at h
    ·simp only at h
     split at h
     ·cases h
     ·split at h<;>cases h
    ·cases h
  |none=>
   by_cases e:i=n
   ·subst e
    cases d:m.freeT x with
    |false=>rfl
    |true=>rw[a,jC c d]at h;cases h
   ·exact Xz n a i x (by omega) c
theorem vX{m:RM}(f:Tk->Tsk)(g:∀k∈m.tg,TkT k (f k)/\(f k).si<=m.now):∀(n j:Nat) (l:Tk),m.bestI n=K j->m.tg[j]?=K l->∀i x,i<n->m.tg[i]?=K x->m.freeT x=true->¬YJ m.c m.now m.tight (f x) (f l)<0
 |0,j,l,h,d,i,x,u,_,_=>absurd u (Nat.not_lt_zero _)
 |n+1,j,l,h,d,i,x,u,b,a=>by
  rw[jQ]at h
  have B:=g l (List.mem_of_getElem? d)
  have C:=g x (List.mem_of_getElem? b)
  cases hn:m.tg[n]? with
  |none=>
   have e:m.betterI (m.bestI n) n=m.bestI n:=by unfold RM.betterI;rw[hn]
   rw[e]at h
   have:¬i=n:=fun e=>by subst e;rw[hn]at b;cases b
   exact vX f g n j l h d i x (by omega) b a
  |some y=>
   have p:=g y (List.mem_of_getElem? hn)
   cases s:m.freeT y with
   |false=>
    rw[QK hn s]at h
    have:¬i=n:=fun e=>by subst e;rw[hn]at b;cases b;rw[s]at a;cases a
    exact vX f g n j l h d i x (by omega) b a
   |true=>
    cases o:m.bestI n with
    |none=>
     rw[o,jC hn s]at h
     cases h
     rw[hn]at d;cases d
     by_cases e:i=n
     ·subst e;rw[hn]at b;cases b;exact zbd _ _ _ _
     ·have:=Xz n o i x (by omega) b
      rw[this]at a;cases a
    |some j'=>
     obtain⟨v,z,t,F⟩:=ZT m n o
     have q:=g z (List.mem_of_getElem? t)
     have w:=vX f g n j' z o t
     rw[o,K7 hn s t,zer p.1 q.1 p.2 q.2]at h
     by_cases r:YJ m.c m.now m.tight (f y) (f z)<0
     ·rw[if_pos (by simpa using r)]at h
      cases h
      rw[hn]at d;cases d
      by_cases e:i=n
      ·subst e;rw[hn]at b;cases b;exact zbd _ _ _ _
      ·exact zfH _ _ _ _ (f z) _ (w i x (by omega) b a) (zfG _ _ _ _ _ r)
     ·rw[if_neg (by simpa using r)]at h
      cases h
      rw[t]at d;cases d
      by_cases e:i=n
      ·subst e;rw[hn]at b;cases b;exact r
      ·exact w i x (by omega) b a
inductive VY (c:Cf) (ep:Int):MS->List Nm->MS->List Nm->Prop
 |same (m:MS) (ns:List Nm):VY c ep m ns m ns
 |added (m:MS) (ns:List Nm) (x:Nm) (hs:0<=x.se/\x.se<4) (hx:0<=x.tm/\x.tm<=m.now) (hl:m.now-c.la<=x.tm) (hv: -2147483648<=x.val/\x.val<=2147483647) (hu:xg m.L+(1+2*yh c m.L x c.n)<=c.qu):VY c ep m ns {m with L:=kJ c m.L x} (ns++[x])
 |ticked (m:MS) (ns:List Nm) (n:Int) (TL1 TL':List (Jk×Tsk)) (QL1:List (Tok×Lse)) (hn:1<=n) (hnow:m.now+n<=100000) (he:zbz (m.now+n) m.TL m.QL TL1 QL1) (hq:∀p∈QL1,m.now+n<p.2.til) (hp:qU c {m with now:=m.now+n,TL:=TL1,QL:=QL1} TL'):VY c ep m ns {m with now:=m.now+n,TL:=TL',QL:=QL1} ns
 |taken (m:MS) (ns:List Nm) (p:Jk×Tsk) (slot:Int) (hp:p∈m.TL) (hf:kw m.QL m.now p.2=true):VY c ep m ns {m with num:=m.num+1,QL:=qt m.QL ⟨ep,m.num+1⟩ ⟨p.2.kd,p.2.s,slot,m.now+c.le⟩} ns
 |failed (m:MS) (ns:List Nm) (t:Tok) (g:Lse) (x:Tsk) (hg:zV m.QL t=K g) (hx:zV m.TL g.job=K x):VY c ep m ns {m with TL:=qt m.TL g.job (x.failed m.now),QL:=xt m.QL t} ns
 |rolled (m:MS) (ns:List Nm) (t:Tok) (g:Lse) (s:Sg) (si tc rest:Int) (k:Nat) (TL':List (Jk×Tsk)) (hg:zV m.QL t=K g) (hx:zV m.TL g.job=K ⟨true,s,si,tc,rest⟩) (hk:s.t=k) (hp:qU c {m with L:=yi m.L s ⟨3,xQ (qk c m.L s.se s.we k)⟩,Gl:=m.Gl,TL:=xt m.TL g.job,QL:=xt m.QL t} TL'):VY c ep m ns {m with L:=yi m.L s ⟨3,xQ (qk c m.L s.se s.we k)⟩,Gl:=m.Gl,TL:=TL',QL:=xt m.QL t} ns
 |reclaimed (m:MS) (ns:List Nm) (t:Tok) (g:Lse) (s:Sg) (si tc rest:Int) (TL':List (Jk×Tsk)) (hg:zV m.QL t=K g) (hx:zV m.TL g.job=K ⟨false,s,si,tc,rest⟩) (hp:qU c {m with L:=xt m.L s,Gl:=qt m.Gl s (),TL:=xt m.TL g.job,QL:=xt m.QL t} TL'):VY c ep m ns {m with L:=xt m.L s,Gl:=qt m.Gl s (),TL:=TL',QL:=xt m.QL t} ns
theorem Kj{QL:List (Tok×Lse)}{now:Int}{x:Tsk}(h:kw QL now x=true):x.rest<=now/\kq QL x.key=false:=by
 unfold kw at h
 simp only[Bool.and_eq_true,Bool.not_eq_true',decide_eq_true_eq]at h
 exact h
theorem VY.ok{c:Cf}{ep:Int}{m m':MS}{ns l:List Nm}(e:c.ok)(o:c.fits)(h:VY c ep m ns m' l)(b:SOk c ep m ns.length):SOk c ep m' l.length:=by
 cases h with
 |same=>exact b
 |added x q r y z B=>have:=(b.ingest e o q r y z B).1;simpa using this
 |ticked n w d v hn i C F a=>exact(b.tick e o hn i C F a).1
 |taken p slot a u=>obtain⟨q,r⟩:=Kj u;exact b.take e a q r slot
 |failed t g x f j=>exact b.fail f j
 |rolled t g s si tc rest k d f j G a=>exact(b.roll e o f j _ a).1
 |reclaimed t g s si tc rest d f j a=>exact(b.reclaim e o f j a).1
theorem VY.nu{c:Cf}{ep:Int}{m m':MS}{ns a:List Nm}(h:VY c ep m ns m' a):a.length<=ns.length+1:=by
 cases h<;>simp
theorem SOk.tsk{c:Cf}{ep:Int}{m:MS}{nn:Nat}(h:SOk c ep m nn):∀p∈m.TL,KS c m.now p.2:=fun p d=>by
 have b:=h.ok.tg p d
 have a:=h.ok.mem_inR b.mem
 exact⟨a.2.1,a.2.2.1,a.2.2.2,b.si⟩
theorem SOk.qn{c:Cf}{ep:Int}{m:MS}{nn:Nat}(h:SOk c ep m nn):∀q∈m.QL,q.1.num<=m.num:=fun q a=>(h.ok.leas q a).num.2
theorem SOk.epoch{c:Cf}{ep:Int}{m:MS}{nn:Nat}(h:SOk c ep m nn){t:Tok}(i:t∉tokL ep m.num.toNat):zV m.QL t=O:=by
 rw[xB]
 intro f
 obtain⟨q,b,rfl⟩:=List.mem_map.1 (show t∈m.QL.map (·.1)from f)
 have a:=(h.ok.leas q b).ep
 have d:=(h.ok.leas q b).num
 refine i (List.mem_map.2 ⟨(q.1.num-1).toNat,by simp;omega,?_⟩)
 obtain⟨⟨e,n⟩,g⟩:=q
 dsimp only at a d ⊢
 rw[a]
 congr 1
 omega
theorem z11{w:E}{g:Nat}{b c d e f i j k l m a:A}{t:TypeId}{n:Nat×Nat}(h:w.1[g]?=K (.cells #[b,c,d,e,f,i,j,k,l,m,a] t n)):w.cell? ⟨g,0,O⟩=K b/\w.cell? ⟨g,1,O⟩=K c/\w.cell? ⟨g,2,O⟩=K d/\w.cell? ⟨g,3,O⟩=K e/\w.cell? ⟨g,4,O⟩=K f/\w.cell? ⟨g,5,O⟩=K i/\w.cell? ⟨g,6,O⟩=K j/\w.cell? ⟨g,7,O⟩=K k/\w.cell? ⟨g,8,O⟩=K l/\w.cell? ⟨g,9,O⟩=K m/\w.cell? ⟨g,10,O⟩=K a:=by
 refine⟨?_,?_,?_,?_,?_,?_,?_,?_,?_,?_,?_⟩<;>rw[zN h]<;>rfl
theorem KW(X:E)(o:Obj):U X.1.size X (X.alloc o).drew:=((Y _ _).alloc (Z _) o).drew
theorem ziX{X V:E}(h:U X.drew.1.size X.drew V):U X.1.size X V:=⟨h.os,h.tape,h.output,h.size,h.block⟩
theorem ziB{X V:E}{o:Obj}(h:U (X.alloc o).drew.1.size (X.alloc o).drew V):U X.1.size X V:=(KW X o).trans (h.mono (KW X o).size)
theorem zew{X V:E}{o:Obj}(h:U (X.alloc o).drew.1.size (X.alloc o).drew V):V.1[X.1.size]?=K o:=(h.block _ (by show _<(X.alloc o).1.size;rw[zF];omega)).trans (zo X o)
theorem zlo{X V:E}{o:Obj}(h:U (X.alloc o).1.size (X.alloc o) V):U X.1.size X V:=((Y _ _).alloc (Z _) o).trans (h.mono ((Y X.1.size X).alloc (Z _) o).size)
theorem zkv{X V:E}{o:Obj}(h:U (X.alloc o).1.size (X.alloc o) V):V.1[X.1.size]?=K o:=(h.block _ (by rw[zF];omega)).trans (zo X o)
theorem zlA{f:Nat->Prop}{X V:E}{o:Obj}(h:zk f (X.alloc o) V):zk f X V:=(zk.of_below ((Y X.1.size X).alloc (Z _) o)).trans h (fun _ _ e=>e)
theorem zkM{f:Nat->Prop}{X V:E}{o:Obj}(h:zk f (X.alloc o) V)(hn:¬f X.1.size):V.1[X.1.size]?=K o:=h.heap (zo X o) hn
abbrev zjB:A:=.agg #[I J 0,I J 0,I J 0,I J 0,I J 0,I J 0,I J 0,I J 0,I J 0,I J 0,I J 0]
end Go.Proofs.YtpbimdkclnekeaaGreat
