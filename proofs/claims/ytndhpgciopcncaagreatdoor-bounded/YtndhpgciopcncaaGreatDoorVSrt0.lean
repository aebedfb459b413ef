import Derived.Test.YtndhpgciopcncaaGreatDoorVOrd6
import Derived.Sort.Grow
import Derived.Sort.Statements
import Derived.Deep.Draws
import Derived.Shelf.SlSortCmp.WholeK
import Derived.Shelf.SlSortCmp.NoneTotal
import Derived.Test.YtndhpgciopcncaaGreatDoorVAwk0
import Derived.Test.YtndhpgciopcncaaGreatDoorVTel0
open Go.Value renaming int → I
open Go.IntKind renaming i64 → J
open Option renaming none → O
open Option renaming some → E
open Nat renaming lt_of_lt_of_le → Y
open Nat renaming le_refl → Z
open Go.RowKit.Below renaming refl → A
open Go renaming World → D
open Go.RowKit renaming Below → G
open Go renaming Value → L
open Nat renaming le_trans → R
set_option linter.unusedVariables false
set_option maxRecDepth 20000
set_option maxHeartbeats 8000000
open Go.Proofs.Tryz
namespace Go.Proofs.YtndhpgciopcncaaGreatDoor
open Go.RowKit Go.Maps Go.Shelf
theorem kf(x y:Tsk):qQ x y<0↔(x.kd<y.kd\/x.kd=y.kd/\(x.s.t<y.s.t\/x.s.t=y.s.t/\(x.s.sr<y.s.sr\/x.s.sr=y.s.sr/\x.s.wa<y.s.wa))):=by
 unfold qQ
 simp only[orL,kw]
 repeat' split
 all_goals omega
theorem zcy{x y:Tsk}(a:¬qQ x y<0)(b:¬qQ y x<0):x.kd=y.kd/\x.s.t=y.s.t/\x.s.sr=y.s.sr/\x.s.wa=y.s.wa:=by
 rw[kf]at a b
 omega
theorem zcz:Go.Sort.SWO (fun x y:Tsk=>decide (qQ x y<0)) where
 irrefl x:=by simp only[decide_eq_false_iff_not,kf];omega
 trans x y z h1 h2:=by simp only[decide_eq_true_eq,kf]at*;omega
 ntrans x y z h1 h2:=by simp only[decide_eq_false_iff_not,kf]at*;omega
theorem zbG{l e:List Tsk}(i:l.Perm e)(k:l.Pairwise (fun a b=>¬qQ b a<0))(m:e.Pairwise (fun a b=>¬qQ b a<0))(p:∀a∈l,∀b∈l,a.key=b.key->a=b):l=e:=
 i.eq_of_pairwise (fun a b n o c d=>p a n b (i.mem_iff.2 o) (by
  obtain⟨j,f,g,h⟩:=zcy d c
  unfold Tsk.key
  rw[j,show a.s=b.s from by
   obtain⟨_,⟨_,_,_⟩,_,_,_⟩:=a
   obtain⟨_,⟨_,_,_⟩,_,_,_⟩:=b
   simp only at f g h ⊢
   rw[f,g,h]])) k m
end Go.Proofs.YtndhpgciopcncaaGreatDoor
namespace Go.Proofs.YtndhpgciopcncaaGreatDoor
open Go.RowKit Go.Maps Go.Shelf Go.Sort
theorem ziO{α:Type}[Inhabited α](enc:α->List L)(k:Nat)(w:D)(a b n:Nat)(d:Array α)(os:Array Obj):zo (fun j=>j=a) w (sortWorldK enc k w a b n d os) where
 os:=rfl
 tape:=rfl
 output:=rfl
 size:=size_sortWorldK_c enc k w a b n d os
 block j hj hn:=by
  unfold sortWorldK putRowK
  rw[heap_grow_old _ _ (by rw[size_putRow];exact hj)]
  unfold putRow mapBlock
  show((Sort.ahead w n).heap.modify a _)[j]?=_
  rw[Array.getElem?_modify,if_neg (fun e=>hn e.symm)]
  rfl
theorem zfm:∀args w,(callFunc 106 args).run prog w=.ok (.enter 106 args) w:=enters_of func106 (by kernel_rfl) rfl
theorem zeC(a b size:Nat)(w:D):CmpLays prog 106 #[] QB 4 qQ a b size w:=
 fun m os f g x y=>(Dr.byKey_any x y _).mono fun e w' ⟨d,c⟩=>⟨d,c.lays⟩
theorem zgx(c cap:Nat)(xs:List Tsk)(w:D)(s:HoldsK QB 4 w c 0 xs.toArray)(g:c<w.1.size)(q:xs.length<4611686018427387904):
  Calls prog 165 #[.slice (E ⟨c,0,O⟩) xs.length cap,.func (.func 106) #[] #[]] w fun e w'=>e=.returned (.tuple #[])/\∃r:List Tsk,r.Perm xs/\r.Pairwise (fun a b=>¬qQ b a<0)/\HoldsK QB 4 w' c 0 r.toArray/\zo (fun j=>j=c) w w':=by
 have k:=AnyQ.slices_SortFunc Tryz.sortTsk 4 Tryz.isAgg177 Tryz.sizeOf177 QB K8 zas qQ zcz 106 #[] c 0 cap xs.toArray w zfm (zeC c 0 _ w) s g (by simpa using q)
 have d:Calls prog 165 #[.slice (E ⟨c,0,O⟩) xs.toArray.size cap,.func (.func 106) #[] #[]] w _:=k
 rw[List.size_toArray]at d
 refine d.mono ?_
 rintro e w' ⟨rfl,f,n,os,⟨v,_,u⟩,B,rfl⟩
 have l:f.size=xs.length:=by rw[v,List.size_toArray]
 refine⟨rfl,f.toList,?_,?_,?_,ziO _ _ _ _ _ _ _ _⟩
 ·have x:f.extract 0 xs.length=f:=by rw[<-l];exact Array.extract_size
  have y:xs.toArray.extract 0 xs.length=xs.toArray:=by simp
  rw[x,y]at u
  exact u
 ·rw[List.pairwise_iff_getElem]
  intro i j z t o
  have h:=B i j (Nat.zero_le _) o (by rw[<-l];simpa using t)
  have m:i<f.size:=by simpa using z
  have p:j<f.size:=by simpa using t
  rw[getElem!_pos f i m,getElem!_pos f j p]at h
  unfold ltOf at h
  simpa using h
 ·have:=holdsK_sortWorldK_c QB 4 w c 0 xs.toArray f n os s g v
  simpa using this
theorem zed(a:Option Addr)(cap:Nat)(w:D):
  Calls prog 165 #[.slice a 0 cap,.func (.func 106) #[] #[]] w fun e w'=>e=.returned (.tuple #[])/\w'=w:=
 AnyF.slices_SortFunc_none (P:=prog) Tryz.sortTsk a cap (.func (.func 106) #[] #[]) w
end Go.Proofs.YtndhpgciopcncaaGreatDoor
namespace Go.Proofs.YtndhpgciopcncaaGreatDoor
open Go.ChangeMaps (setBlock)
open Go.RowKit Go.Maps Go.Shelf
theorem jO{α:Type}(a:α->α->Int)(j:∀x y z,¬a x y<0->¬a y z<0->¬a x z<0)(m:∀x,¬a x x<0)(c:∀x y,a x y<0->¬a y x<0):∀(l:List α) (f g:α),l.foldl (Xg a) (E f)=E g->¬a f g<0/\∀x∈l,¬a x g<0
 |[],f,g,h=>by
  have:f=g:=by simpa using h
  subst this
  exact⟨m _,fun x d=>by cases d⟩
 |x::l,f,g,h=>by
  rw[List.foldl_cons]at h
  by_cases d:a x f<0
  ·have e:Xg a (E f) x=E x:=by simp[Xg,d]
   rw[e]at h
   obtain⟨i,k⟩:=jO a j m c l x g h
   refine⟨j _ _ _ (c _ _ d) i,fun y b=>?_⟩
   rcases List.mem_cons.1 b with rfl|b
   ·exact i
   ·exact k y b
  ·have e:Xg a (E f) x=E f:=by simp[Xg,d]
   rw[e]at h
   obtain⟨i,k⟩:=jO a j m c l f g h
   refine⟨i,fun y b=>?_⟩
   rcases List.mem_cons.1 b with rfl|b
   ·exact j _ _ _ d i
   ·exact k y b
theorem Jn(c:Cf)(now:Int)(a:Bool)(x y:Tsk):Va c now a x y<0↔((a=true/\y.kd<x.kd)\/(¬(a=true/\¬x.kd=y.kd)/\(yG c now x<yG c now y\/yG c now x=yG c now y/\qQ x y<0))):=by
 unfold Va ziv
 generalize yG c now x=b
 generalize yG c now y=d
 cases a
 ·simp only[orL,kw]
  repeat' split
  all_goals first|(simp;omega)|(simp;done)|simp_all
 ·simp only[orL,kw]
  repeat' split
  all_goals first|(simp;omega)|(simp;done)|simp_all
theorem zin(c:Cf)(now:Int)(a:Bool)(x y z:Tsk)(b:¬Va c now a x y<0)(d:¬Va c now a y z<0):¬Va c now a x z<0:=by
 rw[Jn,kf]at*
 generalize yG c now x=e at*
 generalize yG c now y=f at*
 generalize yG c now z=g at*
 cases a<;>simp only[Bool.false_eq_true,true_and,false_and,false_or,not_false_eq_true]at* <;>omega
theorem zim(c:Cf)(now:Int)(a:Bool)(x:Tsk):¬Va c now a x x<0:=by
 rw[Jn,kf]
 omega
theorem zil(c:Cf)(now:Int)(a:Bool)(x y:Tsk)(h:Va c now a x y<0):¬Va c now a y x<0:=by
 rw[Jn,kf]at*
 cases a<;>simp only[Bool.false_eq_true,true_and,false_and,false_or,not_false_eq_true]at* <;>omega
theorem ziZ(gf:Nat)(lb:Array L)(c:Nat)(a b:Array L)(w:D):
  Calls prog 96 #[.func (.func gf) #[] lb,.func (.func c) a b] w fun e w'=>e=.returned (.func (.func 157) #[] #[.pointer (E ⟨w.1.size,0,O⟩),.pointer (E ⟨w.1.size+1,0,O⟩)])/\w'=(w.alloc (.cells #[.func (.func gf) #[] lb] 174)).alloc (.cells #[.func (.func c) a b] 179):=by
 go_enter func96,ntmps96
 go_wp2_with fail
 go_ret
 exact⟨rfl,rfl⟩
theorem ziW:∀args w,(callFunc 157 args).run prog w=.ok (.enter 157 args) w:=enters_of func157 (by kernel_rfl) rfl
theorem zy.setNum{w:D}{b:Nat}{c:Cf}{tv:L}{ep num:Int}{tb qb:Nat}{TL:List (Jk×Tsk)}{QL:List (Tok×Lse)}(h:zy w b c tv ep num tb qb TL QL)(n:Int):zy (w.setCell ⟨b,8,O⟩ (I J n)) b c tv ep n tb qb TL QL:=by
 have a:zo (fun k=>k=b) w (w.setCell ⟨b,8,O⟩ (I J n)):=zn (zo.refl _ _) rfl
 exact⟨xy (i:=8) h.head (I J n),h.td.kept a h.tb_ne,h.leases.kept a h.qb_ne,h.apart⟩
theorem zei{X:D}{qb:Nat}{QL:List (Tok×Lse)}(h:zW xu X qb QL)(d:QL.length<maxLen){t:Tok}(e:t.wf)(g:Lse):
  ∃o,(Instr.mapUpdate 168 (.map (E qb)) (.agg #[I J t.ep,I J t.num]) (.agg #[I J g.kd,I J g.s.t,I J g.s.sr,I J g.s.wa,I J g.slot,I J g.til])).run prog X=.ok () (setBlock X qb o)/\zW xu (setBlock X qb o) qb (qr QL t g)/\zo (fun k=>k=qb) X (setBlock X qb o):=by
 obtain⟨o,a,b,c,_⟩:=kX qE h d e g
 exact⟨o,a,b,c⟩
theorem zy.putLeases{w w':D}{b:Nat}{c:Cf}{tv:L}{ep num:Int}{tb qb:Nat}{TL:List (Jk×Tsk)}{QL a:List (Tok×Lse)}(h:zy w b c tv ep num tb qb TL QL)(f:zW xu w' qb a)(d:zo (fun k=>k=qb) w w'):zy w' b c tv ep num tb qb TL a:=⟨d.heap h.head (fun e=>h.qb_ne e.symm),h.td.kept d h.apart,f,h.apart⟩
theorem KK{w:D}{g:Nat}(b0 b c d e f h i j l a:L):zo (fun k=>k=g) w (((((((((((w.setCell ⟨g,0,O⟩ b0).setCell ⟨g,1,O⟩ b).setCell ⟨g,2,O⟩ c).setCell ⟨g,3,O⟩ d).setCell ⟨g,4,O⟩ e).setCell ⟨g,5,O⟩ f).setCell ⟨g,6,O⟩ h).setCell ⟨g,7,O⟩ i).setCell ⟨g,8,O⟩ j).setCell ⟨g,9,O⟩ l).setCell ⟨g,10,O⟩ a):=(zn (zn (zn (zn (zn (zn (zn (zn (zn (zn (zn (zo.refl (fun k=>k=g) w) rfl) rfl) rfl) rfl) rfl) rfl) rfl) rfl) rfl) rfl) rfl)
abbrev zeR(c:Cf)(now:Int):={x:Tsk//Xs c now x}
noncomputable def zjf (c:Cf) (now:Int) (h:0<=now) (x:Tsk):zeR c now:=by
 classical exact if hx:Xs c now x then⟨x,hx⟩else⟨⟨true,⟨-1,0,0⟩,0,0,0⟩,⟨by simp,by show(-1:Int)<c.n;omega,by simp,by show(0:Int)<=0/\(0:Int)<=now;omega⟩⟩
theorem Zi{c:Cf}{now:Int}(h:0<=now){x:Tsk}(a:Xs c now x):(zjf c now h x).1=x:=by unfold zjf;rw[dif_pos a]
theorem zey{w:D}{b:Nat}{c:Cf}{tv:L}{ep num:Int}{tb qb:Nat}{TL:List (Jk×Tsk)}{QL:List (Tok×Lse)}(h:zy w b c tv ep num tb qb TL QL)(x:Tsk)(hu:∀p∈QL,p.2.job≠x.key):
  Calls prog 104 #[.pointer (E ⟨b,0,O⟩),.agg #[.iface x.jt (.agg #[I J x.s.t,I J x.s.sr,I J x.s.wa]),I J x.se,I J x.ti,I J x.rest]] w fun e w'=>e=.returned (.agg #[I J x.kd,I J x.s.t,I J x.s.sr,I J x.s.wa,I J x.se,I J x.ti,I J x.rest,I J 0,I J 0,I J (-1),I J 0])/\G w.1.size w w':=by
 have aM:=h.lt
 have ay:=h.cell10
 obtain⟨y0,y1,ae,yz⟩:=box2 w (.cells #[.iface x.jt (.agg #[I J x.s.t,I J x.s.sr,I J x.s.wa]),I J x.se,I J x.ti,I J x.rest] 177) (.cells #[I J 0,I J 0,I J 0,I J 0,I J 0,I J 0,I J 0,I J 0,I J 0,I J 0,I J 0] 51)
 have ad:=zd (keyOf_any x ((w.alloc (.cells #[.iface x.jt (.agg #[I J x.s.t,I J x.s.sr,I J x.s.wa]),I J x.se,I J x.ti,I J x.rest] 177)).alloc (.cells #[I J 0,I J 0,I J 0,I J 0,I J 0,I J 0,I J 0,I J 0,I J 0,I J 0,I J 0] 51)))
 have H:=zd h
 have Y0:=zd y0
 have Y1:=zd y1
 have a5:=zd ae
 have YZ:=zd yz
 clear h y0 y1 ae yz
 go_enter func104,ntmps104
 go_wp2_with fail
 refine(ud ad).mono ?_
 rintro e d ⟨rfl,B⟩
 have aT:=B.size
 have yz:=ud YZ
 have t0:=(B.block _ (by omega)).trans (ud Y0)
 have r0:=(B.block _ (by omega)).trans (ud Y1)
 have a8:=(ud a5).trans (B.mono (ud a5).size)
 have U:=(ud H).later a8
 have az:=U.cell10
 have aL:=U.lt
 have aS:=za t0
 have aF:=za r0
 obtain⟨-,s1,s2,s3,-⟩:=zc t0
 have R0:=zd r0
 have ao:=zd a8
 have aq:=zd U
 clear B yz t0 r0 a8 U ay Y0 Y1 a5 YZ ad
 --LOOP
 obtain⟨es,a,a1,a2⟩:=(ud aq).leases
 obtain⟨v0,v1,g,vz⟩:=box2 d (.cells #[I J x.kd,I J x.s.t,I J x.s.sr,I J x.s.wa] 162) (.cells #[I J x.kd,I J x.s.t,I J x.s.sr,I J x.s.wa,I J x.se,I J x.ti,I J x.rest,I J 0,I J 0,I J (-1),I J 0] 51)
 have m:=(g.block _ (za a1)).trans a1
 have a4:=run_range_map (P:=prog) ((d.alloc (.cells #[I J x.kd,I J x.s.t,I J x.s.sr,I J x.s.wa] 162)).alloc (.cells #[I J x.kd,I J x.s.t,I J x.s.sr,I J x.s.wa,I J x.se,I J x.ti,I J x.rest,I J 0,I J 0,I J (-1),I J 0] 51)) 168 _ _ qb es a underlying168 m
 have ac:=zd (And.intro v0 (And.intro v1 (And.intro g (And.intro vz (And.intro m a2)))))
 have aQ:=za a1
 clear a1 a2 v0 v1 g vz m
 go_wp2_with fail
 obtain⟨v0,v1,g,vz,m,a2⟩:=ud ac
 generalize((d.alloc (.cells #[I J x.kd,I J x.s.t,I J x.s.sr,I J x.s.wa] 162)).alloc (.cells #[I J x.kd,I J x.s.t,I J x.s.sr,I J x.s.wa,I J x.se,I J x.ti,I J x.rest,I J 0,I J 0,I J (-1),I J 0] 51))=T at*
 have aG:=(g.block _ aF).trans (ud R0)
 have aI:=g.size
 clear a4 az s1 s2 s3 ac
 have HM:=zd a2
 have aK:=zd m
 have ax:=zd v0
 have ap:=zd g
 have a6:=zd vz
 have av:=zd aG
 go_loopw [7,8] (fun _ _ wr=>∃(f:Array Nat) (c0:Nat),wr.1[(d.1.size+1+1)]?=E (.mapIter (E qb) a f c0)/\a<=c0/\wr.1[qb]?=E (.map es a)/\wr.1[d.1.size+1]?=E (ZV x (⟨0,0⟩,-1,0))/\zo (fun k=>k=d.1.size+1) T wr)
  (fun _ _ wr=>vw es (d.1.size+1+1) wr)
 case atStart=>
  have a7:G T.1.size T (T.alloc (.mapIter (E qb) a #[] a)):=(A _ _).alloc (Z _) _
  refine⟨#[],a,by have:=zk T (.mapIter (E qb) a #[] a);rw[show T.1.size=(d.1.size+1+1)from ud a6]at this;exact this,Z _,(a7.block _ (za m)).trans m,(a7.block _ (za v1)).trans v1,zo.of_below a7⟩
 case round=>
  obtain⟨f,c0,hr,a9,a3,a0,hK⟩:=hrel
  have aR:=za hr
  have an:T.1.size=(d.1.size+1+1):=ud a6
  rcases run_next_at (P:=prog) wr 0 (d.1.size+1+1) qb a c0 f es a hr a3 (ud HM).born a9 with⟨hz,l⟩|⟨e,aa,w1,S,l⟩
  ·have N:=hK.heap (k:=w.1.size+1) (ud av) (by omega)
   have M:wr.1[d.1.size+1]?=E (.cells #[I J x.kd,I J x.s.t,I J x.s.sr,I J x.s.wa,I J x.se,I J x.ti,I J x.rest,I J 0,I J 0,I J (-1),I J 0] 51 (0,0)):=a0
   obtain⟨o0,o1,o2,o3,o4,o5,o6,o7,o8,o9,aY,-⟩:=zc M
   obtain⟨z0,z1,z2,z3,z4,z5,z6,z7,z8,z9,b0,-⟩:=zc N
   have zf:=fun j=>zC N j
   have aP:=za N
   have aO:=za M
   have aJ:¬d.1.size+1=w.1.size+1:=by omega
   have au:=zd hK
   have aw:=zd N
   clear an
   clear hz a0 M hK N hr a3 a9
   go_wp2_with fail
   have hf:=Jy (ud aw) (I J x.kd) (I J x.s.t) (I J x.s.sr) (I J x.s.wa) (I J x.se) (I J x.ti) (I J x.rest) (I J 0) (I J 0) (I J (-1)) (I J 0)
   have V:=ud au
   have aB:G w.1.size T wr:=⟨V.os,V.tape,V.output,V.size,fun j hj=>V.block j (by have:=ud a6;omega) (by omega)⟩
   have hbb:=(ud ao).trans (((ud ap).mono (by omega)).trans aB)
   refine bodyPost_ret (v:=.agg #[I J x.kd,I J x.s.t,I J x.s.sr,I J x.s.wa,I J x.se,I J x.ti,I J x.rest,I J 0,I J 0,I J (-1),I J 0]) (results_cell_row results104 _ _ (w.1.size+1) _ _ _ _ rfl hf underlying51 rfl (by kernel_rfl)) rfl ?_
   exact⟨rfl,hbb.trans (zcq (Nat.le_succ _) (I J x.kd) (I J x.s.t) (I J x.s.sr) (I J x.s.wa) (I J x.se) (I J x.ti) (I J x.rest) (I J 0) (I J 0) (I J (-1)) (I J 0))⟩
  ·have ar:=zd aa
   obtain⟨F,aD⟩:=xj.1 aa
   have ak:w1.1[(d.1.size+1+1)]?=E (.mapIter (E qb) a f c0):=by rcases S with rfl|rfl<;>exact hr
   have aj:w1.1[qb]?=E (.map es a):=by rcases S with rfl|rfl<;>exact a3
   have ai:w1.1[d.1.size+1]?=E (ZV x (⟨0,0⟩,-1,0)):=by rcases S with rfl|rfl<;>exact a0
   have aC:qb≠(d.1.size+1+1):=by omega
   obtain⟨X,hX⟩:∃X,setBlock w1 (d.1.size+1+1) (.mapIter (E qb) a (f.push e.born) a)=X:=⟨_,rfl⟩
   have r:X.1[(d.1.size+1+1)]?=E (.mapIter (E qb) a (f.push e.born) a):=by rw[<-hX];exact xw (za ak) _
   have o:X.1[qb]?=E (.map es a):=by rw[<-hX,zZ aC];exact aj
   have q:X.1[d.1.size+1]?=E (ZV x (⟨0,0⟩,-1,0)):=by rw[<-hX,zZ (by omega)];exact ai
   have ah:zo (fun k=>k=(d.1.size+1+1)) wr X:=by
    rw[<-hX];rcases S with rfl|rfl
    ·exact xH _
    ·exact(zo.refl (fun k=>k=(d.1.size+1+1)) wr).drew.trans (xH _) (fun _ _ h=>h)
   have z:zo (fun k=>k=d.1.size+1) T X:=hK.trans ah (fun i hi e=>by omega)
   rw[hX]at l
   have af:=run_entry_at (P:=prog) X (d.1.size+1+1) qb a f es a e r o F (ud HM).once
   obtain⟨C,V,hv⟩:=jA qE (ud HM) F
   obtain⟨⟨t',y⟩,am⟩:∃y,yo xu QL e=y:=⟨_,rfl⟩
   rw[am]at C V hv
   have n:e.key=qG t':=V
   have Q:e.val=kj y:=hv
   have aH:=zd n
   unfold qG at n
   unfold kj at Q
   rw[n,Q]at l af
   have aA:=za r
   have K:=z.heap (ud ax) (by omega)
   obtain⟨aU,aV,aW,aX,-⟩:=zc K
   have aN:=za K
   have aE:=za q
   have ag:=fun W=>zcP ⟨y.kd,y.s⟩ x.key W
   have ab:X.1[d.1.size+1]?=E (.cells #[I J x.kd,I J x.s.t,I J x.s.sr,I J x.s.wa,I J x.se,I J x.ti,I J x.rest,I J 0,I J 0,I J (-1),I J 0] 51 (0,0)):=q
   obtain⟨-,-,-,-,-,-,-,q7,q8,q9,aZ,-⟩:=zc ab
   have qf:=fun j=>zC ab j
   have HP:=zd (And.intro r (And.intro o (And.intro q (And.intro z (And.intro F (And.intro C hr))))))
   have hV:G X.1.size X ((X.alloc (.cells #[I J t'.ep,I J t'.num] 49)).alloc (.cells #[I J y.kd,I J y.s.t,I J y.s.sr,I J y.s.wa,I J y.slot,I J y.til] 164)):=((A _ _).alloc (Z _) _).alloc ((A _ _).alloc (Z _) _).size _
   have HV:=zd hV
   have u:decide ((⟨y.kd,y.s⟩:Jk)=x.key)=true\/decide ((⟨y.kd,y.s⟩:Jk)=x.key)=false:=by cases decide ((⟨y.kd,y.s⟩:Jk)=x.key)<;>simp
   clear an
   clear ak aj ai hX S V hv am aa F aD n Q a3 r o q z ah hK a0 hr a9 ab K hV
   rcases u with u|u
   ·exact absurd (of_decide_eq_true u) (hu (t',y) C)
   ·simp only[u]at ag
    dsimp only[Tsk.key]at ag
    clear u C
    go_wp2_with fail
    obtain⟨r,o,q,z,F,C,hr⟩:=ud HP
    have hV:=ud HV
    have al:=(hV.block _ aA).trans r
    refine⟨⟨_,_,al,Z _,(hV.block _ (za o)).trans o,(hV.block _ aE).trans q,j6 z hV⟩,?_⟩
    ·rw[xa al,xa hr];exact qk (ud ar)
def JI(c:Cf)(now:Int)(a:Bool)(QL:List (Tok×Lse))(TL:List (Jk×Tsk))(x:Tsk):Prop:=∀q∈TL,kG QL now q.2=true->¬Va c now a q.2 x<0
theorem KB{c:Cf}{now:Int}{a:Bool}{l:List (zeR c now)}{g:zeR c now}(h:vL (fun x y:zeR c now=>Va c now a x.1 y.1) l=E g):∀x∈l,¬Va c now a x.1 g.1<0:=by
 cases l with
 |nil=>simp[vL]at h
 |cons f l=>
  obtain⟨d,e⟩:=jO (fun x y:zeR c now=>Va c now a x.1 y.1) (fun x y z=>zin c now a x.1 y.1 z.1) (fun x=>zim c now a x.1) (fun x y=>zil c now a x.1 y.1) l f g h
  intro x b
  rcases List.mem_cons.1 b with rfl|b
  ·exact d
  ·exact e x b
theorem zaz{w:D}{b:Nat}{c:Cf}{a:Option Addr}{cap:Nat}{ep num:Int}{tb qb:Nat}{TL:List (Jk×Tsk)}{QL:List (Tok×Lse)}(h:zy w b c (.slice a c.n cap) ep num tb qb TL QL)(hc:c.ok)(aG:TS w a c.n c.F c.W c.K)(now:Int)(f:Bool)(d:0<=now/\now<=100000)(hT:∀p∈TL,Xs c now p.2)(aF:QL.length<=100000):
  Calls prog 48 #[.pointer (E ⟨b,0,O⟩),I J now,.bool f] w fun e w'=>G w.1.size w w'/\((e=.returned (.tuple #[.nilIface,.bool false])/\∀p∈TL,kG QL now p.2=false)\/∃p,p∈TL/\kG QL now p.2=true/\JI c now f QL TL p.2/\e=.returned (.tuple #[.iface p.2.jt (.agg #[I J p.2.s.t,I J p.2.s.sr,I J p.2.s.wa]),.bool true])):=by
 have aQ:=h.lt
 obtain⟨y0,y1,aa,yz⟩:=box2 w (.cells #[.pointer (E ⟨b,0,O⟩)] 91) (.cells #[I J now] 3)
 have hX:=h.later aa
 have x9:=hX.cell9
 have aP:=hX.lt
 obtain⟨m0,-⟩:=zc y0
 obtain⟨m1,-⟩:=zc y1
 have aw:=zd (zdb tb ((w.alloc (.cells #[.pointer (E ⟨b,0,O⟩)] 91)).alloc (.cells #[I J now] 3)))
 have Y0:=zd y0
 have Y1:=zd y1
 have a5:=zd aa
 have YZ:=zd yz
 have H:=zd h
 have ab:=za y0
 have ac:=za y1
 clear h hX y0 y1 aa yz
 go_enter func48,ntmps48
 go_wp2_with fail
 generalize((w.alloc (.cells #[.pointer (E ⟨b,0,O⟩)] 91)).alloc (.cells #[I J now] 3))=X at*
 refine(ud aw).mono ?_
 rintro e i ⟨rfl,Q⟩
 have S:G X.1.size X i:=by rw[Q];exact(A _ _).alloc (Z _) _
 have ag:i.1[X.1.size]?=E (.cells #[.map (E tb)] 169 (0,0)):=by rw[Q];exact zk _ _
 have al:i.1.size=X.1.size+1:=by rw[Q];exact zI _ _
 have ax:=zd (ziZ 158 #[.pointer (E ⟨X.1.size,0,O⟩)] 98 #[] #[.pointer (E ⟨w.1.size+1,0,O⟩),.pointer (E ⟨w.1.size,0,O⟩)] i)
 have n0:=(S.cell (p:=⟨w.1.size,0,O⟩) ab).trans m0
 have n1:=(S.cell (p:=⟨w.1.size+1,0,O⟩) ac).trans m1
 have l:=zd S
 have ap:=zd ag
 have ay:=zd al
 clear Q S ag al m0 m1 x9
 go_wp2_with fail
 refine(ud ax).mono ?_
 rintro e j ⟨rfl,af⟩
 obtain⟨ak,aj,T,am⟩:j.1[i.1.size]?=E (.cells #[.func (.func 158) #[] #[.pointer (E ⟨X.1.size,0,O⟩)]] 174 (0,0))/\j.1[i.1.size+1]?=E (.cells #[.func (.func 98) #[] #[.pointer (E ⟨w.1.size+1,0,O⟩),.pointer (E ⟨w.1.size,0,O⟩)]] 179 (0,0))/\G i.1.size i j/\j.1.size=i.1.size+2:=by rw[af];exact box2 i _ _
 have a3:=Y ab (ud l).size
 have a4:=Y ac (ud l).size
 have q0:=(T.cell (p:=⟨w.1.size,0,O⟩) a3).trans n0
 have q1:=(T.cell (p:=⟨w.1.size+1,0,O⟩) a4).trans n1
 have av:=zd ak
 have ar:=zd aj
 have M:=zd T
 have az:=zd am
 clear af ak aj T am n0 n1
 go_wp2_with fail
 have aq:=zd (zdD b now f j)
 refine(ud aq).mono ?_
 rintro e X3 ⟨rfl,hO,o,aH⟩
 have V:G w.1.size w j:=(ud a5).trans (((ud l).mono (ud a5).size).trans ((ud M).mono (by have:=(ud l).size;have:=(ud a5).size;omega)))
 have k:=V.trans (o.mono V.size)
 have hZ:X.1.size=w.1.size+2:=ud YZ
 have aA:i.1.size=X.1.size+1:=ud ay
 have aB:j.1.size=i.1.size+2:=ud az
 have a8:=(ud H).later V
 have a2:=((ud M).block _ (by omega)).trans (ud ap)
 have a1:=((ud M).block _ a4).trans (((ud l).block _ ac).trans (ud Y1))
 have a0:=((ud M).block _ a3).trans (((ud l).block _ ab).trans (ud Y0))
 have z:=zjy (fun x:zeR c now=>x.1) (zjf c now d.1) (ex:=fun _=>False) (n:=j.1.size) X.1.size tb TL (fun p U=>Zi d.1 (hT p U)) j (fun e=>e) (by omega) (by rw[xD a2];rfl) a8.td
 have B:=zeI (fun x:zeR c now=>x.1) 158 #[.pointer (E ⟨X.1.size,0,O⟩)] zgR 98 #[] #[.pointer (E ⟨w.1.size+1,0,O⟩),.pointer (E ⟨w.1.size,0,O⟩)] Ve (fun x=>kG QL now x.1) i.1.size (i.1.size+1) j (Z _) ⟨by omega,fun e=>e⟩ ⟨by omega,fun e=>e⟩ (ud av) (ud ar)
  (fun x W ⟨m,hk⟩=>by
   have a9:=Xk hk (Z _)
   have g1:=(a9.block _ (by omega)).trans a1
   have g0:=(a9.block _ (by omega)).trans a0
   exact zdG (a8.later a9) x.1 now aF (w.1.size+1) w.1.size (za g1) (za g0) (by rw[xD g1];rfl) (by rw[xD g0];rfl)) z
 have HF:=zd (zaO (fun x:zeR c now=>x.1) 157 #[.pointer (E ⟨i.1.size,0,O⟩),.pointer (E ⟨i.1.size+1,0,O⟩)] ziW 161 #[.pointer (E ⟨j.1.size+2,0,O⟩),.pointer (E ⟨j.1.size+3,0,O⟩)] Vb (fun x y=>Va c now f x.1 y.1) X3 (R (Z _) o.size)
  (fun x y W hW=>zbh ((ud H).later (k.trans (hW.mono k.size))) hc (aG.below (k.trans (hW.mono k.size))) now d f j.1.size (hO.later hW) x.1 y.1 x.2 y.2)
  (B.later o))
 have r2:=(k.block)
 have N:=zd k
 have aI:w.1.size<j.1.size:=by omega
 have aJ:w.1.size+1<j.1.size:=by omega
 have an:=(o.cell (p:=⟨w.1.size,0,O⟩) aI).trans q0
 have ao:=(o.cell (p:=⟨w.1.size+1,0,O⟩) aJ).trans q1
 have aM:w.1.size+1<X3.1.size:=by omega
 clear V k a8 a2 a1 a0 z B hO o r2 q0 q1 hZ aA aB aH
 go_wp2_with fail
 refine(ud HF).mono ?_
 rintro e X4 ⟨xs,hS,rfl,r⟩
 have aK:w.1.size<X3.1.size:=by omega
 have aL:w.1.size+1<X3.1.size:=by omega
 have z0:=(r.cell (p:=⟨w.1.size,0,O⟩) aK).trans an
 have z1:=(r.cell (p:=⟨w.1.size+1,0,O⟩) aL).trans ao
 have ae:=(ud H).later ((ud N).trans (r.mono (ud N).size))
 have aO:=zd ae
 have P:=zd ((ud N).trans (r.mono (ud N).size))
 have aN:=r.size
 have a6:=zd hS
 clear HF an ao ae r hS
 rcases zcU (fun x y:zeR c now=>Va c now f x.1 y.1) xs with⟨ai,hf⟩|⟨g,hg,hf⟩
 ·rw[hf]
  dsimp only[Option.map_none,Qv,Option.isSome_none]
  have C:=(ud P).alloc (ud P).size (.cells #[.nilIface,I J 0,I J 0,I J 0] 177)
  have a7:=zd C
  clear hf C
  go_wp2_with fail
  go_ret2
  refine⟨ud a7,.inl ⟨rfl,fun p U=>?_⟩⟩
  obtain⟨zs,⟨ps,u,rfl⟩,v⟩:=ud a6
  rw[ai]at v
  cases aC:kG QL now p.2 with
  |false=>rfl
  |true=>
   have:zjf c now d.1 p.2∈(ps.map (fun p:Jk×Tsk=>zjf c now d.1 p.2)).filter (fun x=>kG QL now x.1):=List.mem_filter.2 ⟨List.mem_map.2 ⟨p,u.mem_iff.2 U,rfl⟩,by rw[Zi d.1 (hT p U)];exact aC⟩
   rw[<-v]at this;simp at this
 ·rw[hf]
  dsimp only[Option.map_some,Qv,Zw,Option.isSome_some]
  have ad:Hid (JI c now f QL TL g.1):=fun q hq aD=>by
   obtain⟨zs,⟨ps,u,rfl⟩,v⟩:=ud a6
   have ah:zjf c now d.1 q.2∈xs:=by rw[v];exact List.mem_filter.2 ⟨List.mem_map.2 ⟨q,u.mem_iff.2 hq,rfl⟩,by rw[Zi d.1 (hT q hq)];exact aD⟩
   have:=KB hf _ ah
   rw[Zi d.1 (hT q hq)]at this
   exact this
  obtain⟨x,hx⟩:=g
  have au:Hid (∃p,p∈TL/\p.2=x/\kG QL now x=true):=by
   obtain⟨zs,⟨ps,u,rfl⟩,v⟩:=ud a6
   rw[v]at hg
   obtain⟨h1,h2⟩:=List.mem_filter.1 hg
   obtain⟨p,U,e⟩:=List.mem_map.1 h1
   have e2:=congrArg Subtype.val e
   rw[Zi d.1 (hT p (u.mem_iff.1 U))]at e2
   exact⟨p,u.mem_iff.1 U,e2,h2⟩
  clear hf hg
  have C:=(ud P).alloc (ud P).size (.cells #[.iface x.jt (.agg #[I J x.s.t,I J x.s.sr,I J x.s.wa]),I J x.se,I J x.ti,I J x.rest] 177)
  have a7:=zd C
  clear C
  go_wp2_with fail
  go_ret2
  obtain⟨p,U,rfl,aE⟩:=ud au
  exact⟨ud a7,.inr ⟨p.1,p.2,U,aE,ud ad,rfl⟩⟩
theorem zdo{w:D}{b:Nat}{c:Cf}{a:Option Addr}{cap:Nat}{ep num:Int}{tb qb:Nat}{TL:List (Jk×Tsk)}{QL:List (Tok×Lse)}(h:zy w b c (.slice a c.n cap) ep num tb qb TL QL)(hc:c.ok)(x:Tsk)(hx:zY TL x.key=E x)(aq:x.key.wf)(slot now:Int)(C:0<=now/\now<=100000)(aH:QL.length<=100000)(an:0<=num/\num<=1000000000000000)(ak:xg ep)(am:∀q∈QL,q.2.job≠x.key):
  Calls prog 49 #[.pointer (E ⟨b,0,O⟩),.iface x.jt (.agg #[I J x.s.t,I J x.s.sr,I J x.s.wa]),I J slot,I J now] w fun e w'=>e=.returned (.agg #[I J x.kd,I J x.s.t,I J x.s.sr,I J x.s.wa,I J x.se,I J x.ti,I J x.rest,I J ep,I J (num+1),I J slot,I J (now+c.le)])/\zy w' b c (.slice a c.n cap) ep (num+1) tb qb TL (qr QL ⟨ep,num+1⟩ ⟨x.kd,x.s,slot,now+c.le⟩)/\zo (fun k=>k=b\/k=qb) w w':=by
 have aU:=h.lt
 obtain⟨-,-,-,-,-,-,-,-,w8,-⟩:=zc h.head
 have wf:=zC h.head 8
 have aV:IntKind.i64.wrap (num+1)=num+1:=by rw[IntKind.wrap_i64];omega
 obtain⟨X,B⟩:∃X,((w.setCell ⟨b,8,O⟩ (I J (num+1))).alloc (.cells #[I J 0,I J 0,I J 0,I J 0,I J 0,I J 0,I J 0,I J 0,I J 0,I J 0,I J 0] 51))=X:=⟨_,rfl⟩
 have ap:(w.setCell ⟨b,8,O⟩ (I J (num+1))).1.size=w.1.size:=by simp
 have ai:=h.setNum (num+1)
 have aj:G (w.setCell ⟨b,8,O⟩ (I J (num+1))).1.size (w.setCell ⟨b,8,O⟩ (I J (num+1))) X:=by rw[<-B];exact(A _ _).alloc (Z _) _
 have P:=ai.later aj
 have a5:X.1[w.1.size]?=E (.cells #[I J 0,I J 0,I J 0,I J 0,I J 0,I J 0,I J 0,I J 0,I J 0,I J 0,I J 0] 51 (0,0)):=by rw[<-B,<-ap];exact zk _ _
 have M:=P.lt
 have lR:=za a5
 obtain⟨s0,s1,s2,s3,s4,s5,s6,s7,s8,-,aN,-⟩:=zc P.head
 have av:Hid (zo (fun k=>k=b) w X):=by rw[<-B];exact(zn (zo.refl (fun k=>k=b) w) rfl).alloc _
 have aE:Hid ((⟨ep,num+1⟩:Tok).wf):=⟨ak,by unfold xg;dsimp only;omega⟩
 have ac:=fun W=>zd (keyOf_any x W)
 have ad:=fun W=>zd (keyOf_any x W)
 have ae:=fun W=>zd (zbb c a cap W)
 have l:¬b=qb:=fun e=>h.qb_ne e.symm
 have aX:¬b=w.1.size:=by omega
 have aS:¬w.1.size=b:=by omega
 have aK:¬w.1.size=qb:=fun e=>by have:=h.foot_lt qb (.inr (.inr rfl));omega
 have a9:QL.length<maxLen:=by simp only[maxLen];omega
 obtain⟨aO,aP⟩:=hc.le
 have aQ:=C.1
 have aR:=C.2
 have aW:IntKind.i64.wrap (now+c.le)=now+c.le:=by rw[IntKind.wrap_i64];omega
 have a0:=h.leases.nodup
 have ax:=zd am
 have HX:=zd hx
 have ah:=zd aq
 have ay:=zd a0
 have aa:=zd P
 have az:=zd a5
 have aF:=zd B
 have H:=zd h
 have au:=zd h.foot_lt
 clear h ai aj P a5 B ap am hx aq a0 an C ak aH
 go_enter func49,ntmps49
 go_wp2_with fail
 rw[ud aF]
 clear w8 wf
 go_region_held3 (fun w'=>w'.cell? ⟨b,0,O⟩=E (I J c.s)/\w'.cell? ⟨b,1,O⟩=E (I J c.le)/\w'.cell? ⟨b,2,O⟩=E (I J c.la)/\w'.cell? ⟨b,3,O⟩=E (I J c.wi)/\w'.cell? ⟨b,4,O⟩=E (I J c.ke)/\w'.cell? ⟨b,5,O⟩=E (I J c.qu)/\w'.cell? ⟨b,6,O⟩=E (.slice a c.n cap)/\w'.cell? ⟨b,7,O⟩=E (I J ep)/\w'.cell? ⟨b,8,O⟩=E (I J (num+1))/\w'.cell? ⟨b,10,O⟩=E (.map (E qb))) (go_keep) (first
  |(go_at_call 102;(with_reducible refine(ud (ac _)).mono ?_);rintro e r ⟨rfl,d⟩;have hv:G X.1.size X r:=⟨d.os,d.tape,d.output,d.size,d.block⟩;clear d;have p0:r.cell? ⟨b,0,O⟩=E (I J c.s):=(hv.cell (p:=⟨b,0,O⟩) M).trans s0;have p1:r.cell? ⟨b,1,O⟩=E (I J c.le):=(hv.cell (p:=⟨b,1,O⟩) M).trans s1;have p2:r.cell? ⟨b,2,O⟩=E (I J c.la):=(hv.cell (p:=⟨b,2,O⟩) M).trans s2;have p3:r.cell? ⟨b,3,O⟩=E (I J c.wi):=(hv.cell (p:=⟨b,3,O⟩) M).trans s3;have p4:r.cell? ⟨b,4,O⟩=E (I J c.ke):=(hv.cell (p:=⟨b,4,O⟩) M).trans s4;have p5:r.cell? ⟨b,5,O⟩=E (I J c.qu):=(hv.cell (p:=⟨b,5,O⟩) M).trans s5;have p6:r.cell? ⟨b,6,O⟩=E (.slice a c.n cap):=(hv.cell (p:=⟨b,6,O⟩) M).trans s6;have p7:r.cell? ⟨b,7,O⟩=E (I J ep):=(hv.cell (p:=⟨b,7,O⟩) M).trans s7;have p8:r.cell? ⟨b,8,O⟩=E (I J (num+1)):=(hv.cell (p:=⟨b,8,O⟩) M).trans s8;have aL:r.cell? ⟨b,10,O⟩=E (.map (E qb)):=(hv.cell (p:=⟨b,10,O⟩) M).trans aN;have K:=Y M hv.size;have ag:=zd hv;clear hv ac)
  |(go_at_call 103;(with_reducible refine(ud (ae _)).mono ?_);rintro e y ⟨rfl,d⟩;have hv:G r.1.size r y:=⟨d.os,d.tape,d.output,d.size,d.block⟩;clear d;have r0:y.cell? ⟨b,0,O⟩=E (I J c.s):=(hv.cell (p:=⟨b,0,O⟩) K).trans p0;have r1:y.cell? ⟨b,1,O⟩=E (I J c.le):=(hv.cell (p:=⟨b,1,O⟩) K).trans p1;have r2:y.cell? ⟨b,2,O⟩=E (I J c.la):=(hv.cell (p:=⟨b,2,O⟩) K).trans p2;have r3:y.cell? ⟨b,3,O⟩=E (I J c.wi):=(hv.cell (p:=⟨b,3,O⟩) K).trans p3;have r4:y.cell? ⟨b,4,O⟩=E (I J c.ke):=(hv.cell (p:=⟨b,4,O⟩) K).trans p4;have r5:y.cell? ⟨b,5,O⟩=E (I J c.qu):=(hv.cell (p:=⟨b,5,O⟩) K).trans p5;have r6:y.cell? ⟨b,6,O⟩=E (.slice a c.n cap):=(hv.cell (p:=⟨b,6,O⟩) K).trans p6;have r7:y.cell? ⟨b,7,O⟩=E (I J ep):=(hv.cell (p:=⟨b,7,O⟩) K).trans p7;have r8:y.cell? ⟨b,8,O⟩=E (I J (num+1)):=(hv.cell (p:=⟨b,8,O⟩) K).trans p8;have aM:y.cell? ⟨b,10,O⟩=E (.map (E qb)):=(hv.cell (p:=⟨b,10,O⟩) K).trans aL;have N:=Y K hv.size;have a7:=(ud ag).trans (hv.mono (ud ag).size);obtain⟨o,a1,hm,m⟩:=zei ((ud aa).later a7).leases a9 (ud aE) ⟨x.kd,x.s,slot,now+c.le⟩;dsimp only at a1;obtain⟨U,hU⟩:∃U,setBlock y qb o=U:=⟨_,rfl⟩;rw[hU]at a1 hm m;have u0:U.cell? ⟨b,0,O⟩=E (I J c.s):=(zN (i:=0) m l N).trans r0;have u1:U.cell? ⟨b,1,O⟩=E (I J c.le):=(zN (i:=1) m l N).trans r1;have u2:U.cell? ⟨b,2,O⟩=E (I J c.la):=(zN (i:=2) m l N).trans r2;have u3:U.cell? ⟨b,3,O⟩=E (I J c.wi):=(zN (i:=3) m l N).trans r3;have u4:U.cell? ⟨b,4,O⟩=E (I J c.ke):=(zN (i:=4) m l N).trans r4;have u5:U.cell? ⟨b,5,O⟩=E (I J c.qu):=(zN (i:=5) m l N).trans r5;have u6:U.cell? ⟨b,6,O⟩=E (.slice a c.n cap):=(zN (i:=6) m l N).trans r6;have u7:U.cell? ⟨b,7,O⟩=E (I J ep):=(zN (i:=7) m l N).trans r7;have u8:U.cell? ⟨b,8,O⟩=E (I J (num+1)):=(zN (i:=8) m l N).trans r8;have aY:U.cell? ⟨b,10,O⟩=E (.map (E qb)):=(zN (i:=10) m l N).trans aM;have a3:=zd a7;have aw:=zd hm;have a2:=zd m;clear hv a7 hm m hU ae))
 all_goals(
  have Q:=((ud aa).later (ud a3)).putLeases (ud aw) (ud a2)
  have ao:=((ud a3).block _ lR).trans (ud az)
  have a8:=(ud a2).heap ao aK
  have aB:=zd a8
  have ab:=zd Q
  have lU:b<U.1.size:=Q.lt
  have ar:=za a8
  obtain⟨-,-,-,-,-,-,-,-,-,u9,-⟩:=zc Q.head
  clear Q ao a8
  go_wp2_with fail
  go_region_held3 (fun w'=>w'.cell? ⟨b,9,O⟩=E (.map (E tb))) (go_keep) (first
   |(go_at_call 102;(with_reducible refine(ud (ad _)).mono ?_);rintro e V ⟨rfl,d⟩;have hv:G U.1.size U V:=⟨d.os,d.tape,d.output,d.size,d.block⟩;clear d;have q9:V.cell? ⟨b,9,O⟩=E (.map (E tb)):=(hv.cell (p:=⟨b,9,O⟩) lU).trans u9;have z:=(ud ab).later hv;have aG:=YE z.td (ud ah) (ud HX);have al:=YE (z.later (A _ _).drew).td (ud ah) (ud HX);dsimp only[Tsk.key]at aG al;have a6:=fun W (hW:G V.1.size V W)=>zd (zar (z.later hW) x ⟨ep,num+1⟩ ⟨x.kd,x.s,slot,now+c.le⟩ (zT (by rw[vj (ud ay),if_pos rfl])) rfl (fun q hq e=>by
    rcases qI hq with rfl|⟨hq,_⟩
    ·rfl
    ·exact absurd e (ud ax q hq)));have aC:=a6 V (A _ _);have aD:=a6 V.drew (A _ _).drew;have a4:=zd hv;have aJ:=Y ar hv.size;have aI:=z.lt;clear hv z a6)
   |(go_at_call 104;(first|(with_reducible refine(ud aC).mono ?_)|(with_reducible refine(ud aD).mono ?_));rintro e T ⟨rfl,u⟩;have S:G V.1.size V T:=⟨u.os,u.tape,u.output,u.size,u.block⟩;clear u;have F:=(S.block _ aJ).trans (((ud a4).block _ ar).trans (ud aB));have g9:T.cell? ⟨b,9,O⟩=E (.map (E tb)):=(S.cell (p:=⟨b,9,O⟩) aI).trans q9;obtain⟨e0,e1,e2,e3,e4,e5,e6,e7,e8,e9,aT,-⟩:=zc F;have ef:=fun j=>zC F j;have lT:w.1.size<T.1.size:=za F;have aA:=zd F;have af:=zd S;clear F S))
  all_goals(
   go_wp2_with fail
   have hf:=Jy (ud aA) (I J x.kd) (I J x.s.t) (I J x.s.sr) (I J x.s.wa) (I J x.se) (I J x.ti) (I J x.rest) (I J ep) (I J (num+1)) (I J slot) (I J (now+c.le))
   refine bodyPost_ret (v:=.agg #[I J x.kd,I J x.s.t,I J x.s.sr,I J x.s.wa,I J x.se,I J x.ti,I J x.rest,I J ep,I J (num+1),I J slot,I J (now+c.le)]) (results_cell_row results49 _ _ w.1.size _ _ _ _ rfl hf underlying51 rfl (by kernel_rfl)) rfl ?_
   have kT:=KK (w:=T) (g:=w.1.size) (I J x.kd) (I J x.s.t) (I J x.s.sr) (I J x.s.wa) (I J x.se) (I J x.ti) (I J x.rest) (I J ep) (I J (num+1)) (I J slot) (I J (now+c.le))
   have k1:zo (fun k=>k=b\/k=qb) w X:=(ud av).mono (fun k _ e=> .inl e)
   have k2:=k1.trans (zo.of_below (f:=fun k=>k=b\/k=qb) (ud a3)) (fun _ _ e=>e)
   have k3:=k2.trans ((ud a2).mono (fun k _ e=> .inr e)) (fun _ _ e=>e)
   have k4:=k3.trans (zo.of_below (f:=fun k=>k=b\/k=qb) (ud a4)) (fun _ _ e=>e)
   have k5:=k4.trans (zo.of_below (f:=fun k=>k=b\/k=qb) (ud af)) (fun _ _ e=>e)
   exact⟨rfl,(((ud ab).later (ud a4)).later (ud af)).kept kT (fun k m e=>by have:=ud au k m;omega),k5.trans kT (fun k m e=>by omega)⟩))
def Qr(QL:List (Tok×Lse))(x:Tsk):Tok×Int×Int:=match QL.find? (fun p=>decide (p.2.job=x.key))with|some p=>(p.1,p.2.slot,p.2.til)|none=>(⟨0,0⟩,-1,0)
def vU(QL:List (Tok×Lse))(x:Tsk):List L:=[I J x.kd,I J x.s.t,I J x.s.sr,I J x.s.wa,I J x.se,I J x.ti,I J x.rest,I J (Qr QL x).1.ep,I J (Qr QL x).1.num,I J (Qr QL x).2.1,I J (Qr QL x).2.2]
theorem zew(QL:List (Tok×Lse))(x:Tsk):(vU QL x).length=11:=rfl
theorem zex(QL:List (Tok×Lse))(x:Tsk):∀v∈vU QL x,v.oneCell'=true:=fun v hv=>by
 simp only[vU,List.mem_cons,List.not_mem_nil,or_false]at hv
 rcases hv with rfl|rfl|rfl|rfl|rfl|rfl|rfl|rfl|rfl|rfl|rfl<;>rfl
theorem vO{α β:Type}{f:α->β}:∀{l:List α},(l.map f).Nodup->∀x∈l,∀y∈l,f x=f y->x=y
 |[],_,x,d,_,_,_=>by cases d
 |a::l,h,x,d,y,g,e=>by
  rw[List.map_cons,List.nodup_cons]at h
  rcases List.mem_cons.1 d with rfl|c
  ·rcases List.mem_cons.1 g with rfl|b
   ·rfl
   ·exact absurd (List.mem_map.2 ⟨y,b,e.symm⟩) h.1
  ·rcases List.mem_cons.1 g with rfl|b
   ·exact absurd (List.mem_map.2 ⟨x,c,e⟩) h.1
   ·exact vO h.2 x c y b e
theorem zgE{w:D}{b:Nat}{c:Cf}{tv:L}{ep num:Int}{tb qb:Nat}{TL:List (Jk×Tsk)}{QL:List (Tok×Lse)}(h:zy w b c tv ep num tb qb TL QL)(k:(QL.map (fun q=>q.2.job)).Nodup)(x:Tsk):
  Calls prog 104 #[.pointer (E ⟨b,0,O⟩),.agg #[.iface x.jt (.agg #[I J x.s.t,I J x.s.sr,I J x.s.wa]),I J x.se,I J x.ti,I J x.rest]] w fun e w'=>e=.returned (.agg (vU QL x).toArray)/\G w.1.size w w':=by
 unfold vU Qr
 cases d:QL.find? (fun p=>decide (p.2.job=x.key))with
 |none=>
  refine(zey h x (fun p j e=>?_)).mono fun e w' a=>a
  have:=List.find?_eq_none.1 d p j
  simp[e]at this
 |some p=>
  have i:=List.mem_of_find?_eq_some d
  have g:p.2.job=x.key:=by have:=List.find?_some d;simpa using this
  exact(zar h x p.1 p.2 i g (fun q f e=>vO k q f p i (e.trans g.symm))).mono fun e w' a=>a
theorem zev{TL:List (Jk×Tsk)}(c:∀p∈TL,p.1=p.2.key)(hn:(zE TL).Nodup):∀a∈TL.map (fun p=>p.2),∀b∈TL.map (fun p=>p.2),a.key=b.key->a=b:=fun a g b h e=>by
 obtain⟨p,d,rfl⟩:=List.mem_map.1 g
 obtain⟨q,f,rfl⟩:=List.mem_map.1 h
 rw[vO hn p d q f (by rw[c p d,c q f,e])]
structure Za(TL:List (Jk×Tsk))(ts:List Tsk):Prop where
 perm:ts.Perm (TL.map (fun p=>p.2))
 sorted:ts.Pairwise (fun a b=>¬qQ b a<0)
theorem Za.one{TL:List (Jk×Tsk)}{ts c:List Tsk}(h:Za TL ts)(d:Za TL c)(i:∀p∈TL,p.1=p.2.key)(hn:(zE TL).Nodup):ts=c:=
 zbG (h.perm.trans d.perm.symm) h.sorted d.sorted (fun a f b g e=>zev i hn a (h.perm.mem_iff.1 f) b (h.perm.mem_iff.1 g) e)
theorem Za.len{TL:List (Jk×Tsk)}{ts:List Tsk}(h:Za TL ts):ts.length=TL.length:=by rw[h.perm.length_eq,List.length_map]
theorem zgW{w:D}{B:Nat}{e:TypeId}{v:L}{QL:List (Tok×Lse)}{l:List Tsk}(h:w.ownsRow B e 11 v l.length (l.flatMap (vU QL))){i:Nat}{x:Tsk}(a:l[i]?=E x):
  ∃g cap,v=.slice (E ⟨g,0,O⟩) l.length cap/\g<w.1.size/\∀j,j<11->w.cell? ⟨g,i*11+j,O⟩=(vU QL x)[j]?:=by
 have d:i<l.length:=(List.getElem?_eq_some_iff.1 a).1
 obtain⟨g,cap,hv,_,c⟩:=h.form (by omega)
 subst hv
 refine⟨g,cap,rfl,c,fun j b=>?_⟩
 rw[h.cellAt (i*11+j) (by omega)]
 exact yJ (zew QL) l i x j a b
end Go.Proofs.YtndhpgciopcncaaGreatDoor
namespace Go.Proofs.YtndhpgciopcncaaGreatDoor
open Go.RowKit Go.Maps Go.Shelf Go.Sort
theorem zfx{w:D}{base g cap:Nat}{e:TypeId}{xs:List Tsk}(h:w.ownsRow base e 4 (.slice (E ⟨g,0,O⟩) xs.length cap) xs.length (xs.flatMap QB)):HoldsK QB 4 w g 0 xs.toArray:=fun j d=>by
 have a:j<xs.length*4:=by simpa[size_flatK]using d
 rw[Nat.zero_add]
 refine⟨?_,h.frozenAt j⟩
 rw[h.cellAt j a,get_flatK _ _ _ _ (by simpa using a)]
 have c:j/4<xs.length:=by omega
 have:=yJ K8 xs (j/4) xs[j/4] (j%4) (by simp[c]) (by omega)
 rw[show j/4*4+j%4=j by omega]at this
 rw[this,getElem!_pos xs.toArray (j/4) (by simpa using c)]
 have b:j%4<(QB xs[j/4]).length:=by rw[K8];omega
 simp only[id,List.getElem_toArray]
 rw[getElem!_pos (QB xs[j/4]) (j%4) b,List.getElem?_eq_getElem b]
theorem J0(gf:Nat)(lb:Array L)(i:∀args w,(callFunc gf args).run prog w=.ok (.enter gf args) w){N:Nat}{S:List Tsk->Prop}(w:D)(j:N<=1000000)
  (c:X9 Fence.wide 6 prog gf lb (fun x:Tsk=>#[.agg #[.iface x.jt (.agg #[I J x.s.t,I J x.s.sr,I J x.s.wa]),I J x.se,I J x.ti,I J x.rest]]) KeepsWalks S (fun _=>True) N 0 w):
  Calls prog 164 #[.func (.func gf) #[] lb] w fun e w'=>∃xs a cap,S xs/\e=.returned (.slice a xs.length cap)/\w'.ownsRow w.1.size 177 4 (.slice a xs.length cap) xs.length (xs.flatMap QB)/\G w.1.size w w':=by
 have d:=zd (zci gf lb i w j c)
 clear c
 go_enter func164,ntmps164
 go_wp2_with fail
 refine(ud d).mono ?_
 rintro e w' ⟨xs,v,k,rfl,b,f⟩
 obtain⟨a,cap,rfl⟩:=zL b
 have h:=zd b
 have g:=zd f
 clear b f d
 go_wp2_with fail
 go_ret
 exact⟨xs,a,cap,k,rfl,ud h,ud g⟩
theorem zeb{w:D}{Bm b:Nat}{TL:List (Jk×Tsk)}(y:Bm<w.1.size)(H:w.cell? ⟨Bm,0,O⟩=E (.map (E b)))(c:zW xL w b TL)(f:TL.length<=1000000):
  Calls prog 105 #[.func (.func 158) #[] #[.pointer (E ⟨Bm,0,O⟩)],.func (.func 106) #[] #[]] w fun e w'=>
   ∃ts a cap,Za TL ts/\e=.returned (.slice a ts.length cap)/\(ts≠[]->∃g,a=E ⟨g,0,O⟩/\g<w'.1.size/\HoldsK QB 4 w' g 0 ts.toArray)/\G w.1.size w w':=by
 have C:=zd (J0 _ _ zgR w f (zhQ id id Bm b TL (fun _ _=>rfl) w y H c))
 clear H c
 go_enter func105,ntmps105
 go_wp2_with fail
 refine(ud C).mono ?_
 rintro e N ⟨xs,a,cap,⟨ps,K,M⟩,rfl,c,i⟩
 have k:xs.Perm (TL.map (fun p=>p.2)):=by rw[M];exact K.map _
 clear C M K
 have m:=zd k
 have W:xs.length<=1000000:=by rw[k.length_eq,List.length_map];exact f
 clear k
 by_cases T:xs.length=0
 ·have o:xs=[]:=List.length_eq_zero_iff.1 T
  subst o
  have t:=zd (zed a cap N)
  have u:=zd i
  clear c i
  simp only[List.length_nil]
  go_wp2_with fail
  refine(ud t).mono ?_
  rintro e X ⟨rfl,rfl⟩
  go_wp2_with fail
  go_ret
  exact⟨[],a,cap,⟨ud m,List.Pairwise.nil⟩,rfl,fun h=>absurd rfl h,ud u⟩
 ·obtain⟨g,F,hv,hg,n⟩:=c.form (by omega)
  injection hv with z V B
  subst z B
  have t:=zd (zgx g cap xs N (zfx c) n (by omega))
  have u:=zd i
  clear c i
  go_wp2_with fail
  refine(ud t).mono ?_
  rintro e X ⟨rfl,P,l,s,q,d⟩
  have Q:=zd d
  have S:=zd q
  have v:=zd l
  have x:=zd s
  have r:xs.length=P.length:=l.length_eq.symm
  rw[r]
  clear d q t l r s
  go_wp2_with fail
  go_ret
  have d:=ud Q
  have i:=ud u
  exact⟨P,E ⟨g,0,O⟩,cap,⟨(ud v).trans (ud m),(ud x).imp (fun h=>by omega)⟩,rfl,fun _=>⟨g,rfl,Y n d.size,ud S⟩,i.trans ⟨d.os,d.tape,d.output,d.size,fun j U=>d.block j (Y U i.size) (by omega)⟩⟩
theorem Tryz.infoJob:(prog.info? 51).map (fun i=>(i.zero,i.size,i.bytes))=E (E (.agg #[I J 0,I J 0,I J 0,I J 0,I J 0,I J 0,I J 0,I J 0,I J 0,I J 0,I J 0]),11,88):=by kernel_rfl
theorem zfW{w:D}{ops:Array Oper}{rest:List Oper}{o:Oper}{a:Act}{Q:Exit->Act->D->Prop}(e:o.guard=O)(s y:Operand)
  (k:o.op=.call {callee:=.builtin .append,args:=#[s,y],argTypes:=#[55,55]}) (base:Nat) (v:L) (QL:List (Tok×Lse)) (l:List Tsk) (x:Tsk) (n:Nat) (m:a.eval s=v) (b:w.ownsRow base 51 11 v n (l.flatMap (vU QL)))
  (c:Nat) (p:a.eval y=.slice (E ⟨c,0,O⟩) 1 1) (d:w.1[c]?=E (.cells #[I J x.kd,I J x.s.t,I J x.s.sr,I J x.s.wa,I J x.se,I J x.ti,I J x.rest,I J (Qr QL x).1.ep,I J (Qr QL x).1.num,I J (Qr QL x).2.1,I J (Qr QL x).2.2] 51 (0,0))) (u:n<=1000000) (hbase:base<=w.1.size)
  (h:∀g cap w',w'.ownsRow base 51 11 (.slice (E ⟨g,0,O⟩) (n+1) cap) (n+1) ((l++[x]).flatMap (vU QL))->w.grownBy w' v.ownBlock->g<w'.1.size->wpList prog ops Q rest (a.put o.dst (.slice (E ⟨g,0,O⟩) (n+1) cap)) w'):wpList prog ops Q (o::rest) a w:=
 xx e s y 55 k base 51 _ 11 88 underlying55 Tryz.infoJob rfl (by decide) v n (l.flatMap (vU QL)) m b ⟨c,0,O⟩ 1 1 (vU QL x) p rfl
  (World.news_of_block (cs:=(vU QL x).toArray) d) (zex QL x) (by decide) (by simp only[maxLen];omega) (by omega) hbase
  fun g cap w' f q i r j=>h g cap w' (by rw[List.flatMap_append];simpa using f) i j
theorem zfN{w:D}{b:Nat}{c:Cf}{tv:L}{ep num:Int}{tb qb:Nat}{TL:List (Jk×Tsk)}{QL:List (Tok×Lse)}(h:zy w b c tv ep num tb qb TL QL)(hu:(QL.map (fun q=>q.2.job)).Nodup)(z:TL.length<=1000000):
  Calls prog 50 #[.pointer (E ⟨b,0,O⟩)] w fun e w'=>∃ts a cap,Za TL ts/\e=.returned (.slice a ts.length cap)/\w'.ownsRow w.1.size 51 11 (.slice a ts.length cap) ts.length (ts.flatMap (vU QL))/\G w.1.size w w':=by
 have ab:=h.lt
 have c9:=h.cell9
 have HV:=zd (zdb tb w)
 have b0:=zk w (.cells #[.map (E tb)] 169)
 have M:G w.1.size w (w.alloc (.cells #[.map (E tb)] 169)):=(A _ _).alloc (Z _) _
 have HS:=zd (zeb (w:=w.alloc (.cells #[.map (E tb)] 169)) (Bm:=w.1.size) (b:=tb) (TL:=TL) (by rw[zI];omega) (by rw[xD b0];rfl) (h.later M).td z)
 have H:=zd h
 have S:=zd M
 clear h b0 M
 go_enter func50,ntmps50
 go_wp2_with fail
 refine(ud HV).mono ?_
 rintro e w0 ⟨rfl,rfl⟩
 go_wp2_with fail
 refine(ud HS).mono ?_
 rintro e K ⟨ts,a,cap,hJ,rfl,C,V⟩
 have r:=(ud S).trans (V.mono (ud S).size)
 clear c9 HV HS V
 have HJ:=zd hJ
 have HR:=zd C
 have HB:=zd r
 clear hJ C r
 go_wp2_with fail
 have Q:w.1.size<=K.1.size:=(ud HB).size
 have af:ts.length<=1000000:=by rw[(ud HJ).len];exact z
 go_loopw [3,5,13] (fun o _ y wr=>∃(k:Nat),k<=ts.length/\y=I J k/\wr.ownsRow K.1.size 51 11 o k ((ts.take k).flatMap (vU QL))/\RowKit.Below K.1.size K wr) (fun _ _ y _=>ts.length-(intOf y).toNat)
 case atStart=>exact⟨0,Nat.zero_le _,rfl,World.ownsRow_nil _ _ _ _,A _ _⟩
 case round=>
  obtain⟨k,hk,rfl,F,r⟩:=hrel
  obtain⟨az,cz,a7⟩:=zL F
  subst a7
  by_cases n:k<ts.length
  ·obtain⟨g,a5,X,hH⟩:=ud HR (fun e=>by rw[e]at n;simp at n)
   subst a5
   obtain⟨x,hx⟩:=yU n
   have a9:(k:Int)<ts.length:=by omega
   have m:∀j,j<4->wr.cell? ⟨g,k*4+j,O⟩=E (QB x)[j]!:=fun j hj=>by
    have h1:=(hH.cell (i:=k) (c:=j) (by simpa using n) hj).1
    rw[Nat.zero_add]at h1
    rw[r.cell (p:=⟨g,k*4+j,O⟩) X,h1]
    obtain⟨a0,P⟩:=List.getElem?_eq_some_iff.1 hx
    rw[getElem!_pos ts.toArray k (by simpa using n)]
    simp only[List.getElem_toArray,P]
   have x0:wr.cell? ⟨g,k*4,O⟩=E (.iface x.jt (.agg #[I J x.s.t,I J x.s.sr,I J x.s.wa])):=m 0 (by omega)
   have x1:wr.cell? ⟨g,k*4+1,O⟩=E (I J x.se):=m 1 (by omega)
   have x2:wr.cell? ⟨g,k*4+2,O⟩=E (I J x.ti):=m 2 (by omega)
   have x3:wr.cell? ⟨g,k*4+3,O⟩=E (I J x.rest):=m 3 (by omega)
   have ac:=Y X r.size
   have N:RowKit.Below wr.1.size wr (wr.alloc (.cells #[.iface x.jt (.agg #[I J x.s.t,I J x.s.sr,I J x.s.wa]),I J x.se,I J x.ti,I J x.rest] 177)):=(A _ _).alloc (Z _) _
   have W:RowKit.Below w.1.size w wr:=(ud HB).trans (r.mono Q)
   have U:=((ud H).later W).later N
   have HT:=zd (zgE U hu x)
   have a1:=zk wr (.cells #[.iface x.jt (.agg #[I J x.s.t,I J x.s.sr,I J x.s.wa]),I J x.se,I J x.ti,I J x.rest] 177)
   obtain⟨e0,e1,e2,e3,-⟩:=zc a1
   have HZ:=zd F
   have d:=zd r
   have u:=zd N
   have HX:=zd hx
   clear F r N hx U a1 hH m HR W
   go_wp2_with fail
   refine(ud HT).mono ?_
   rintro e w2 ⟨he,v⟩
   subst he
   unfold vU
   have a2:=zd v
   have T:=zd (zg (zg (ud HZ) (zo.of_below (f:=fun _=>False) (ud u)) (fun _ _ e=>e)) (zo.of_below (f:=fun _=>False) v) (fun _ _ e=>e))
   have ae:K.1.size<=w2.1.size:=R (ud d).size (R (ud u).size v.size)
   clear v HT e0 e1 e2 e3 x0 x1 x2 x3
   go_wp2_with(first|(at_builtin;refine zfW rfl _ _ rfl K.1.size _ QL (ts.take k) x k rfl ((ud T).alloc _) w2.1.size rfl (zk _ _) ?hll ?hbb ?_;(case hll=>omega);(case hbb=>(rw[zI];omega));intro g2 a8 w3 B l aa;have a4:=zd B;have a3:=zd l;clear B l)|fail)
   go_roundw
   case rel=>
    obtain⟨a0,P⟩:=List.getElem?_eq_some_iff.1 (ud HX)
    refine⟨k+1,by omega,by go_num,?_,?_⟩
    ·rw[List.take_succ_eq_append_getElem a0,P];exact ud a4
    ·have hg:(w2.alloc (.cells #[I J x.kd,I J x.s.t,I J x.s.sr,I J x.s.wa,I J x.se,I J x.ti,I J x.rest,I J (Qr QL x).1.ep,I J (Qr QL x).1.num,I J (Qr QL x).2.1,I J (Qr QL x).2.2] 51)).grownBy w3 (Value.slice az k cz).ownBlock:=ud a3
     have hbb:RowKit.Below K.1.size K w2:=(ud d).trans (((ud u).mono (ud d).size).trans ((ud a2).mono (R (ud d).size (ud u).size)))
     exact(hbb.alloc hbb.size _).grown hg (by rw[zI];omega) (fun j e=>((ud T).lt j e).1)
   case measure=>simp[intOf];omega
  ·have a6:k=ts.length:=by omega
   subst a6
   have ad:decide ((ts.length:Int)<ts.length)=false:=by simp
   have HZ:=zd F
   have d:=zd r
   clear F r HR
   go_wp2_with fail
   go_ret
   have F:=ud HZ
   rw[List.take_length]at F
   exact⟨ts,az,cz,ud HJ,rfl,yu F Q,(ud HB).trans ((ud d).mono Q)⟩
end Go.Proofs.YtndhpgciopcncaaGreatDoor
