import Derived.Test.YtndhpgciopcncaaGreatDoorYBrd1
import Derived.Test.YtndhpgciopcncaaGreatDoorYWk6
import Derived.Deep.RegionHeld3
open Go.Value renaming int → I
open Go.IntKind renaming i64 → J
open Option renaming some → O
open Option renaming none → E
open Nat renaming le_refl → Q
open Go.RowKit.Below renaming refl → N
open Go renaming World → S
open Go renaming Value → A
set_option linter.unusedVariables false
set_option maxRecDepth 8000
set_option maxHeartbeats 4000000
open Go.Proofs.Tryz
namespace Go.Proofs.YtndhpgciopcncaaGreatDoor
open Go.ChangeMaps (setBlock)
open Go.RowKit Go.Maps Go.Shelf
def vM(k:Nat):Nat:=2^min k 5
theorem Z9(k:Nat):1<=vM k/\vM k<=32:=by
 unfold vM
 have h:min k 5<=5:=Nat.min_le_right _ _
 generalize min k 5=j at*
 match j,h with
 |0,_=>simp
 |1,_=>simp
 |2,_=>simp
 |3,_=>simp
 |4,_=>simp
 |5,_=>simp
theorem zhK{k:Nat}(h:k<=5):((2:Int)^k<32↔k<5):=by
 match k,h with
 |0,_=>simp
 |1,_=>simp
 |2,_=>simp
 |3,_=>simp
 |4,_=>simp
 |5,_=>simp
theorem zhJ{k:Nat}(h:k<=5):1<=(2:Int)^k/\(2:Int)^k<=32:=by
 match k,h with
 |0,_=>simp
 |1,_=>simp
 |2,_=>simp
 |3,_=>simp
 |4,_=>simp
 |5,_=>simp
theorem zhg(tc:Nat)(l:tc<=1000000000000)(w:S):
  Calls prog 115 #[I J tc] w fun e w'=>e=.returned (I J (vM tc))/\w'=w:=by
 go_enter func115,ntmps115
 go_wp2_with fail
 go_loopw [3,4] (fun x y wr=>∃(k:Nat),k<=5/\k<=tc/\x=I J ((2:Int)^k)/\y=I J k/\wr=w) (fun _ y _=>5-(intOf y).toNat)
 case atStart=>exact⟨0,by omega,Nat.zero_le _,by simp,rfl,rfl⟩
 case round=>
  obtain⟨k,a,g,rfl,rfl,rfl⟩:=hrel
  obtain⟨h,i⟩:=zhJ a
  by_cases j:k<tc
  ·have d:(k:Int)<tc:=by omega
   by_cases f:k<5
   ·have b:(2:Int)^k<32:=(zhK a).2 f
    have c:Hid ((2:Int)^k*2=2^(k+1)):=by show(2:Int)^k*2=2^(k+1);rw[Int.pow_succ]
    obtain⟨v,hv⟩:∃v,(2:Int)^k=v:=⟨_,rfl⟩
    rw[hv]at c b h i ⊢
    clear hv
    go_wp2_with fail
    go_roundw
    case rel=>exact⟨k+1,by omega,by omega,by rw[<-ud c],by go_num,trivial⟩
    case measure=>simp[intOf];omega
   ·obtain rfl:k=5:=by omega
    go_wp2_with fail
    go_ret
    refine⟨?_,rfl⟩
    unfold vM
    rw[show min tc 5=5 by omega]
    rfl
  ·obtain rfl:k=tc:=by omega
   go_wp2_with fail
   go_ret
   refine⟨?_,rfl⟩
   unfold vM
   rw[show min k 5=k by omega]
   simp
theorem zio(x:Lse)(W:S):(Instr.field 164 (.agg #[I J x.kd,I J x.s.t,I J x.s.se,I J x.s.wn,I J x.slot,I J x.til]) 0).run prog W=.ok (.agg #[I J x.kd,I J x.s.t,I J x.s.se,I J x.s.wn]) W:=by kernel_rfl
theorem zgD{X:S}{qb:Nat}{QL:List (Tok×Lse)}(h:xj yb X qb QL){t:Tok}(c:t.wf){g:Lse}(b:zS QL t=O g):(Instr.lookup 168 (.map (O qb)) (.agg #[I J t.ep,I J t.num]) false).run prog X=.ok (.agg #[I J g.kd,I J g.s.t,I J g.s.se,I J g.s.wn,I J g.slot,I J g.til]) X:=by
 have a:=vl QJ false h c
 rw[b]at a;exact a
theorem zgE{X:S}{tb:Nat}{TL:List (Jk×Tsk)}(h:xj vp X tb TL){k:Jk}(b:k.wf){x:Tsk}(c:zS TL k=O x):(Instr.lookup 169 (.map (O tb)) (.agg #[I J k.kd,I J k.s.t,I J k.s.se,I J k.s.wn]) false).run prog X=.ok (.agg #[.iface x.jt (.agg #[I J x.s.t,I J x.s.se,I J x.s.wn]),I J x.si,I J x.tc,I J x.rest]) X:=by
 have a:=vl ZQ false h b
 rw[c]at a;exact a
def Tsk.failed(x:Tsk)(now:Int):Tsk:=⟨x.rl,x.s,x.si,x.tc+1,now+vM (x.tc+1).toNat⟩
theorem zfv{X:S}{tb:Nat}{TL:List (Jk×Tsk)}(h:xj vp X tb TL)(d:TL.length<maxLen){k:Jk}(c:k.wf)(x:Tsk)(b a:Int):
  ∃o,(Instr.mapUpdate 169 (.map (O tb)) (.agg #[I J k.kd,I J k.s.t,I J k.s.se,I J k.s.wn]) (.agg #[.iface x.jt (.agg #[I J x.s.t,I J x.s.se,I J x.s.wn]),I J x.si,I J b,I J a])).run prog X=.ok () (setBlock X tb o)/\xj vp (setBlock X tb o) tb (qI TL k ⟨x.rl,x.s,x.si,b,a⟩)/\zk (fun k=>k=tb) X (setBlock X tb o)/\o.isCells=false:=
 jz ZQ h d c (⟨x.rl,x.s,x.si,b,a⟩:Tsk)
theorem zgg{X:S}{qb:Nat}{QL:List (Tok×Lse)}{c:Array MapEntry}{b:Nat}(d:X.1[qb]?=O (.map c b))(j:kR yb c b QL){t:Tok}(l:t.wf)(f:TypeId):
  ∃a,(Builtin.delete_ #[168,49] f #[.map (O qb),.agg #[I J t.ep,I J t.num]]).run prog X=.ok (.tuple #[]) (setBlock X qb (.map a b))/\(setBlock X qb (.map a b)).1[qb]?=O (.map a b)/\kR yb a b (xn QL t)/\(∀e,e∈a.toList↔e∈c.toList/\e.key≠yQ t)/\zk (fun k=>k=qb) X (setBlock X qb (.map a b)):=by
 obtain⟨a,g,h,i⟩:=zbN QJ d j l f
 exact⟨a,g,qO (zb d) _,h,i,qT _⟩
theorem zgi{w:S}{b:Nat}{c:Cf}{tv:A}{ep num:Int}{tb qb:Nat}{TL:List (Jk×Tsk)}{QL:List (Tok×Lse)}(h:zO w b c tv ep num tb qb TL QL)(t:Tok)(ht:t.wf){g:Lse}(hg:zS QL t=O g){x:Tsk}(a8:(⟨g.kd,g.s⟩:Jk).wf)(hx:zS TL ⟨g.kd,g.s⟩=O x)(now:Int)(aN:0<=now/\now<=100000)(aV:0<=x.tc/\x.tc<=1000000000)(aM:TL.length<=100000){es:Array MapEntry}{cl:Nat}(ac:w.1[qb]?=O (.map es cl))(ad:kR yb es cl QL):
  Calls prog 56 #[.pointer (O ⟨b,0,E⟩),.agg #[I J t.ep,I J t.num],I J now] w fun e w'=>e=.returned (.tuple #[])/\zO w' b c tv ep num tb qb (qI TL ⟨g.kd,g.s⟩ (x.failed now)) (xn QL t)/\zk (fun k=>k=tb\/k=qb) w w'/\∃H,w'.1[qb]?=O (.map H cl)/\kR yb H cl (xn QL t)/\∀e,e∈H.toList↔e∈es.toList/\e.key≠yQ t:=by
 have ar:=h.lt
 have y0:=zr w (.cells #[I J t.ep,I J t.num] 49)
 have yz:=zG w (.cells #[I J t.ep,I J t.num] 49)
 have a:Below w.1.size w (w.alloc (.cells #[I J t.ep,I J t.num] 49)):=(N _ _).alloc (Q _) _
 obtain⟨k0,k1,-⟩:=zc y0
 have aI:=(h.later a).cell10
 have HL:=fun X hX=>zgD (h.leases.later (w':=X) hX) ht hg
 have g0:=HL _ a
 have g1:=HL _ a.drew
 have g2:=fun o=>HL _ (a.alloc a.size o)
 have g3:=fun o=>HL _ (a.alloc a.size o).drew
 have g4:=fun o=>HL _ (a.drew.alloc a.drew.size o)
 have fl:=zio g
 have R:w.1.size<(w.alloc (.cells #[I J t.ep,I J t.num] 49)).1.size:=by rw[yz];omega
 have aL:b<(w.alloc (.cells #[I J t.ep,I J t.num] 49)).1.size:=by rw[yz];omega
 have F:=zd h
 have Y0:=zd y0
 have a1:=zd a
 have HT:=zd ht
 have a2:=zd a8
 have HG:=zd hg
 have HX:=zd hx
 have a6:=zd ac
 have ak:=zd ad
 clear h y0 yz a HL ht a8 hg hx ac ad
 go_enter func56,ntmps56
 go_wp2_with fail
 generalize(w.alloc (.cells #[I J t.ep,I J t.num] 49))=X at*
 go_region
 have K:Below X.1.size X (X.alloc (.cells #[I J g.kd,I J g.s.t,I J g.s.se,I J g.s.wn] 162)).drew:=((N _ _).alloc (Q _) _).drew
 have P:(X.alloc (.cells #[I J g.kd,I J g.s.t,I J g.s.se,I J g.s.wn] 162)).drew.1[X.1.size]?=O (.cells #[I J g.kd,I J g.s.t,I J g.s.se,I J g.s.wn] 162 (0,0)):=zr _ _
 have ag:(X.alloc (.cells #[I J g.kd,I J g.s.t,I J g.s.se,I J g.s.wn] 162)).drew.1.size=X.1.size+1:=zG _ _
 generalize(X.alloc (.cells #[I J g.kd,I J g.s.t,I J g.s.se,I J g.s.wn] 162)).drew=Y at*
 have d:Below w.1.size w Y:=(ud a1).trans (K.mono (ud a1).size)
 have y9:=((ud F).later d).cell9
 obtain⟨aA,aB,aC,aD,-⟩:=zc P
 have l:=fun V hV=>zgE (k:=⟨g.kd,g.s⟩) ((ud F).tk.later (w':=V) hV) (ud a2) (ud HX)
 dsimp only at l
 clear g0 g1 g2 g3 g4 fl k0 k1 aI
 have g0:=l Y d
 have g1:=l Y.drew d.drew
 have g2:=fun o=>l (Y.alloc o) (d.alloc d.size o)
 have g3:=fun o=>l (Y.alloc o).drew (d.alloc d.size o).drew
 have g4:=fun o=>l (Y.drew.alloc o) (d.drew.alloc d.drew.size o)
 have aK:b<Y.1.size:=by omega
 have z:X.1.size<Y.1.size:=by omega
 have a3:=zd P
 have G:=zd d
 have aO:=zd ag
 have aq:=zd K
 clear P d ag K l
 go_wp2_with fail
 go_region
 have v:Below Y.1.size Y (Y.alloc (.cells #[.iface x.jt (.agg #[I J x.s.t,I J x.s.se,I J x.s.wn]),I J x.si,I J x.tc,I J x.rest] 177)).drew:=((N _ _).alloc (Q _) _).drew
 have r:(Y.alloc (.cells #[.iface x.jt (.agg #[I J x.s.t,I J x.s.se,I J x.s.wn]),I J x.si,I J x.tc,I J x.rest] 177)).drew.1[Y.1.size]?=O (.cells #[.iface x.jt (.agg #[I J x.s.t,I J x.s.se,I J x.s.wn]),I J x.si,I J x.tc,I J x.rest] 177 (0,0)):=zr _ _
 have aW:(Y.alloc (.cells #[.iface x.jt (.agg #[I J x.s.t,I J x.s.se,I J x.s.wn]),I J x.si,I J x.tc,I J x.rest] 177)).drew.1.size=Y.1.size+1:=zG _ _
 generalize(Y.alloc (.cells #[.iface x.jt (.agg #[I J x.s.t,I J x.s.se,I J x.s.wn]),I J x.si,I J x.tc,I J x.rest] 177)).drew=Z at*
 have af:Below w.1.size w Z:=(ud G).trans (v.mono (ud G).size)
 obtain⟨t0,t1,t2,t3,-⟩:=zc r
 have tf:=fun j=>zH r j
 have aP:=zb r
 have B:=(v.block X.1.size z).trans (ud a3)
 have HR:∀W,Hid (Calls prog 115 #[I J (x.tc+1)] W fun e w'=>e=.returned (I J (vM (x.tc+1).toNat))/\w'=W):=fun W=>by
  have:=zhg (x.tc+1).toNat (by omega) W
  rw[Int.toNat_of_nonneg (by omega)]at this
  exact this
 obtain⟨q1,q2⟩:=Z9 (x.tc+1).toNat
 obtain⟨D,y⟩:∃D:Nat,vM (x.tc+1).toNat=D:=⟨_,rfl⟩
 rw[y]at q1 q2
 simp only[y]at HR
 have al:=zd y
 have an:=zd r
 have ap:=zd af
 have aj:=zd B
 have ah:=zd v
 clear g0 g1 g2 g3 g4 aA aB aC aD y9 r af v B y
 go_wp2_with(first|(go_at_call 115;refine(ud (HR _)).mono ?_;rintro e Z2 ⟨rfl,rfl⟩))
 have hU:((Z.setCell ⟨Y.1.size,2,E⟩ (I J (x.tc+1))).setCell ⟨Y.1.size,3,E⟩ (I J (now+D))).1[Y.1.size]?=O (.cells #[.iface x.jt (.agg #[I J x.s.t,I J x.s.se,I J x.s.wn]),I J x.si,I J (x.tc+1),I J (now+D)] 177 (0,0)):=xi (i:=3) (xi (i:=2) (ud an) (I J (x.tc+1))) (I J (now+D))
 have u:Below Y.1.size Z ((Z.setCell ⟨Y.1.size,2,E⟩ (I J (x.tc+1))).setCell ⟨Y.1.size,3,E⟩ (I J (now+D))):=((N _ _).setCell (p:=⟨Y.1.size,2,E⟩) (Q _) _).setCell (p:=⟨Y.1.size,3,E⟩) (Q _) _
 generalize((Z.setCell ⟨Y.1.size,2,E⟩ (I J (x.tc+1))).setCell ⟨Y.1.size,3,E⟩ (I J (now+D)))=U at*
 have m:Below w.1.size w U:=(ud ap).trans (u.mono (ud G).size)
 have L:=(u.block X.1.size z).trans (ud aj)
 have a0:=(u.block w.1.size (by have:=R;omega)).trans (((ud ah).block w.1.size (by have:=R;omega)).trans (((ud aq).block w.1.size R).trans (ud Y0)))
 have u9:=((ud F).later m).cell9
 obtain⟨aw,ax,ay,az,-⟩:=zc L
 obtain⟨aE,aF,aG,aH,-⟩:=zc hU
 have aU:=zb hU
 have aR:=zb L
 have aT:=zb a0
 have aJ:b<U.1.size:=Nat.lt_of_lt_of_le ar m.size
 obtain⟨o,C,hm,hk,ho⟩:=zfv (X:=U.drew) (k:=⟨g.kd,g.s⟩) ((ud F).tk.later m.drew) (by simp only[maxLen];omega) (ud a2) x (x.tc+1) (now+D)
 dsimp only at C
 have n:=((ud F).later m.drew).putTasks hm hk
 have T:=hk.heap (k:=w.1.size) a0 (fun e=>by have:=(ud F).foot_lt tb (.inr (.inl rfl));omega)
 have aX:=n.cell10
 obtain⟨aY,aZ,-⟩:=zc T
 have aS:=zb T
 have aQ:=n.lt
 have ab:(setBlock U.drew tb o).1[qb]?=O (.map es cl):=hk.heap (k:=qb) ((m.block qb (zb (ud a6))).trans (ud a6)) (fun e=>(ud F).apart e.symm)
 obtain⟨a7,au,aa,a9,ae,q⟩:=zgg (X:=(setBlock U.drew tb o).drew) ab (ud ak) (ud HT) 0
 have HP:=zd n
 have HK:=zd hk
 have a5:=zd aa
 have am:=zd ae
 have a4:=zd a9
 have ai:=zd q
 have ao:=zd m
 clear t0 t1 t2 t3 tf hU u L a0 m hm hk n T a9 q aa ae ab
 go_region
 go_wp2_with fail
 generalize setBlock U.drew tb o=M at*
 clear C u9 aw ax ay az aE aF aG aH
 go_region
 go_wp2_with fail
 go_end0
 have hP:=ud HP
 have q:=ud ai
 have av:zk (fun k=>k=tb\/k=qb) w M:=(zk.of_below (f:=fun k=>k=tb\/k=qb) (ud ao).drew).trans (ud HK) (fun _ _ e=> .inl e)
 refine⟨rfl,⟨q.heap hP.head (fun e=>hP.qb_ne e.symm),?_,⟨a7,cl,ud a5,ud a4⟩,hP.apart⟩,?_,a7,ud a5,ud a4,ud am⟩
 ·have:=(hP.tk.later (w':=M.drew) (N _ _).drew).kept q (fun e=>hP.apart e)
  unfold Tsk.failed
  rw[ud al]
  exact this
 ·exact(av.drew).trans q (fun _ _ e=> .inr e)
inductive JF (now:Int) (TL:List (Jk×Tsk)) (QL:List (Tok×Lse)):List (Jk×Tsk)->List (Tok×Lse)->Prop
 |nil:JF now TL QL TL QL
 |step {T1:List (Jk×Tsk)} {Q1:List (Tok×Lse)} {t:Tok} {g:Lse} {x:Tsk}:JF now TL QL T1 Q1->zS Q1 t=O g->g.til<=now->zS T1 ⟨g.kd,g.s⟩=O x->JF now TL QL (qI T1 ⟨g.kd,g.s⟩ (x.failed now)) (xn Q1 t)
structure zhD(B:Int)(n:Nat)(TL:List (Jk×Tsk))(QL:List (Tok×Lse)):Prop where
 job:∀p,p∈QL->∃x,zS TL ⟨p.2.kd,p.2.s⟩=O x
 tc:∀p,p∈TL->0<=p.2.tc/\p.2.tc+QL.length<=B
 wfk:∀p,p∈TL->p.1.wf
 len:TL.length<=n
 tn:(zo TL).Nodup
 qn:(zo QL).Nodup
theorem ziF{α β:Type}[DecidableEq α]{L:List (α×β)}{a:α}{v:β}(h:(a,v)∈L):(xn L a).length<L.length:=by
 unfold xn
 refine Nat.lt_of_le_of_ne (List.length_filter_le _ _) (fun e=>?_)
 have:=List.length_filter_eq_length_iff.1 e (a,v) h
 simp at this
theorem zhD.step{B:Int}{n:Nat}{e:List (Jk×Tsk)}{Q1:List (Tok×Lse)}(h:zhD B n e Q1)(now:Int){t:Tok}{g:Lse}{x:Tsk}(i:zS Q1 t=O g)(j:zS e ⟨g.kd,g.s⟩=O x):zhD B n (qI e ⟨g.kd,g.s⟩ (x.failed now)) (xn Q1 t):=by
 have f:=zA i
 have d:=zA j
 have l:=ziF f
 refine⟨fun p c=>?_,fun p c=>?_,fun p c=>?_,?_,qp h.tn,xX h.qn⟩
 ·obtain⟨y,k⟩:=h.job p (zL.1 c).1
  rw[jq h.tn]
  split
  ·exact⟨_,rfl⟩
  ·exact⟨y,k⟩
 ·rcases yc c with rfl|⟨c,_⟩
  ·obtain⟨a,b⟩:=h.tc _ d
   dsimp only[Tsk.failed]at a b ⊢
   omega
  ·obtain⟨a,b⟩:=h.tc _ c
   omega
 ·rcases yc c with rfl|⟨c,_⟩
  ·exact h.wfk (_,x) d
  ·exact h.wfk _ c
 ·rw[kw,if_pos (show(⟨g.kd,g.s⟩:Jk)∈zo e from List.mem_map.2 ⟨(_,x),d,rfl⟩)];exact h.len
theorem zeI{f:Array MapEntry}(h:(f.toList.map (·.born)).Nodup){a b:MapEntry}(n:a∈f.toList)(o:b∈f.toList)(e:a.born=b.born):a=b:=by
 obtain⟨i,l,g⟩:=List.getElem_of_mem n
 obtain⟨j,m,d⟩:=List.getElem_of_mem o
 have k:f.toList.Pairwise (fun a b=>a.born≠b.born):=List.pairwise_map.1 h
 rcases Nat.lt_trichotomy i j with c|c|c
 ·have:=List.pairwise_iff_getElem.1 k i j l m c;rw[g,d]at this;exact absurd e this
 ·subst c;rw[g]at d;exact d
 ·have:=List.pairwise_iff_getElem.1 k j i m l c;rw[g,d]at this;exact absurd e.symm this
theorem zim{b:Array MapEntry}{a:Nat}{L:List (Tok×Lse)}(h:kR yb b a L){p:Tok×Lse}(g:p∈L):∃x∈b.toList,x.key=yQ p.1/\x.val=ZC p.2:=by
 have f:(yb.ke p.1,yb.ve p.2)∈b.toList.map (fun e=>(e.key,e.val)):=h.kv▸List.mem_map.2 ⟨p,g,rfl⟩
 obtain⟨x,i,e⟩:=List.mem_map.1 f
 injection e with c d
 exact⟨x,i,c,d⟩
theorem ziE{a b:Lse}(h:ZC a=ZC b):a.til=b.til:=by
 unfold ZC at h
 injection h with h
 simp at h
 exact h.2.2.2.2.2
theorem zcp{w:S}{b:Nat}{c:Cf}{tv:A}{ep num:Int}{tb qb:Nat}{TL:List (Jk×Tsk)}{QL:List (Tok×Lse)}(h:zO w b c tv ep num tb qb TL QL)(now:Int)(ak:0<=now/\now<=100000)(hI:zhD 1000000 100000 TL QL):
  Calls prog 59 #[.pointer (O ⟨b,0,E⟩),I J now] w fun e w'=>e=.returned (.tuple #[])/\∃ab QL',zO w' b c tv ep num tb qb ab QL'/\zk (fun k=>k=tb\/k=qb) w w'/\JF now TL QL ab QL'/\∀p∈QL',now<p.2.til:=by
 obtain⟨M,d,a4,am⟩:=h.leases
 have aB:=h.lt
 have au:=h.cell10
 have T:=run_range_map (P:=prog) w 168 _ _ qb M d underlying168 a4
 have HH:=zd h
 have ar:=zd am
 have Y:=zd a4
 clear h am
 go_enter func59,ntmps59
 go_wp2_with fail
 go_loopw [4,5] (fun _ _ wr=>∃(j:Array Nat) (c0:Nat) (C:Array MapEntry) (T1:List (Jk×Tsk)) (Q1:List (Tok×Lse)),wr.1[w.1.size]?=O (.mapIter (O qb) d j c0)/\d<=c0/\wr.1[qb]?=O (.map C d)/\kR yb C d Q1/\(∀e∈C.toList,e∈M.toList)/\(∀e∈C.toList,e.born∈j.toList->∀g,e.val=ZC g->now<g.til)/\zO wr b c tv ep num tb qb T1 Q1/\zk (fun k=>k=tb\/k=qb) w wr/\JF now TL QL T1 Q1/\zhD 1000000 100000 T1 Q1)
  (fun _ _ wr=>QK M w.1.size wr)
 case atStart=>
  have a0:Below w.1.size w (w.alloc (.mapIter (O qb) d #[] d)):=(N _ _).alloc (Q _) _
  exact⟨#[],d,M,TL,QL,zr _ _,Q _,(a0.block _ (zb (ud Y))).trans (ud Y),ud ar,fun _ h=>h,by simp,(ud HH).later a0,zk.of_below a0,.nil,hI⟩
 case round=>
  obtain⟨j,c0,C,T1,Q1,R,ax,a5,f,q,n,hB,hK,L,l⟩:=hrel
  have aC:=zb R
  clear T au a4
  rcases run_next_at (P:=prog) wr 0 w.1.size qb d c0 j C d R a5 f.born ax with⟨hz,B⟩|⟨e,a1,w1,U,B⟩
  ·have HP:=zd (And.intro f (And.intro n (And.intro hB (And.intro hK (And.intro L hz)))))
   clear hz f n hB hK L l hI q
   go_wp2_with fail
   go_end0
   obtain⟨f,n,hB,hK,L,hz⟩:=ud HP
   refine⟨rfl,T1,Q1,hB,hK,L,fun p hp=>?_⟩
   obtain⟨x,W,ek,ev⟩:∃x∈C.toList,x.key=yQ p.1/\x.val=ZC p.2:=zim f hp
   refine n x W ?_ p.2 ev
   by_cases r:x.born∈j.toList
   ·exact r
   ·have:x∈(leftOf C j).toList:=xM.2 ⟨W,r⟩
    rw[Array.eq_empty_of_size_eq_zero hz]at this
    simp at this
  ·have a7:=zd a1
   obtain⟨m,az⟩:=xM.1 a1
   have an:w1.1[w.1.size]?=O (.mapIter (O qb) d j c0):=by rcases U with rfl|rfl<;>exact R
   have al:w1.1[qb]?=O (.map C d):=by rcases U with rfl|rfl<;>exact a5
   have aj:qb≠w.1.size:=by have:=zb (ud Y);omega
   obtain⟨X,hX⟩:∃X,setBlock w1 w.1.size (.mapIter (O qb) d (j.push e.born) d)=X:=⟨_,rfl⟩
   have u:X.1[w.1.size]?=O (.mapIter (O qb) d (j.push e.born) d):=by rw[<-hX];exact qO (zb an) _
   have o:X.1[qb]?=O (.map C d):=by rw[<-hX,qr aj];exact al
   have a3:zk (fun k=>k=w.1.size) wr X:=by
    rw[<-hX];rcases U with rfl|rfl
    ·exact qT _
    ·exact(zk.refl (fun k=>k=w.1.size) wr).drew.trans (qT _) (fun _ _ h=>h)
   have z:=hB.kept a3 (fun k hk e=>by have:=(ud HH).foot_lt k hk;omega)
   have D:zk (fun k=>k=tb\/k=qb) w X:=hK.trans a3 (fun i hi e=>by omega)
   rw[hX]at B
   have ah:=run_entry_at (P:=prog) X w.1.size qb d j C d e u o m f.once
   obtain⟨v,hk,hv⟩:=VA QJ f m
   obtain⟨⟨t,y⟩,aq⟩:∃y,jn yb Q1 e=y:=⟨_,rfl⟩
   rw[aq]at v hk hv
   have a9:=zd (And.intro v (And.intro hk hv))
   have G:e.key=yQ t:=hk
   have K:e.val=ZC y:=hv
   unfold yQ at G
   unfold ZC at K
   rw[G,K]at B ah
   have ad:=zb u
   have aD:=z.lt
   have HP:=zd (And.intro f (And.intro n (And.intro z (And.intro D (And.intro L (And.intro l (And.intro q (And.intro R (And.intro u (And.intro o m))))))))))
   have a2:zS Q1 t=O y:=xu f.nodup v
   have a8:=zd a2
   obtain⟨x,W⟩:=l.job _ v
   have aa:=zd W
   have a6:=l.tc _ (zA W)
   dsimp only at W a6
   have HF:∀V,Below X.1.size X V->Hid (Calls prog 56 #[.pointer (O ⟨b,0,E⟩),.agg #[I J t.ep,I J t.num],I J now] V fun e w'=>e=.returned (.tuple #[])/\zO w' b c tv ep num tb qb (qI T1 ⟨y.kd,y.s⟩ (x.failed now)) (xn Q1 t)/\zk (fun k=>k=tb\/k=qb) V w'/\∃Z,w'.1[qb]?=O (.map Z d)/\kR yb Z d (xn Q1 t)/\∀e,e∈Z.toList↔e∈C.toList/\e.key≠yQ t):=fun V F=>
    zgi (z.later F) t (f.wf _ v) a2 (l.wfk _ (zA W)) W now ak ⟨a6.1,by omega⟩ l.len ((F.block _ (zb o)).trans o) f
   clear f n hB hK L l hI q R u o a3 z D an al hX U hk hv v aq a1 m az G K a5 a2 W a6
   have F:Below X.1.size X ((X.alloc (.cells #[I J t.ep,I J t.num] 49)).alloc (.cells #[I J y.kd,I J y.s.t,I J y.s.se,I J y.s.wn,I J y.slot,I J y.til] 164)):=((N _ _).alloc (Q _) _).alloc ((N _ _).alloc (Q _) _).size _
   have HV:=zd F
   clear F
   by_cases ap:y.til<=now
   ·go_wp2_with(first|(go_at_call 56;refine(ud (HF _ (ud HV))).mono ?_;rintro e3 W3 ⟨rfl,h3⟩;have H3:=zd h3;clear h3))
    obtain⟨f,n,z,D,L,l,q,R,u,o,m⟩:=ud HP
    obtain⟨aw,ac,av,aA,ay,ao⟩:=ud H3
    obtain⟨v,ag,ai⟩:=ud a9
    have F:=ud HV
    have H:=ac.heap ((F.block _ ad).trans u) (fun e=>by
     rcases e with e|e
     ·have:=(ud HH).foot_lt tb (.inr (.inl rfl));omega
     ·exact aj e.symm)
    refine⟨⟨_,_,av,_,_,H,Q _,aA,ay,fun a ha=>q a ((ao a).1 ha).1,fun a ha r g hg=>?_,aw,(vh D F).trans ac (fun _ _ h=>h),.step L (ud a8) ap (ud aa),l.step now (ud a8) (ud aa)⟩,?_⟩
    ·obtain⟨ae,af⟩:=(ao a).1 ha
     rw[Array.toList_push,List.mem_append]at r
     rcases r with r|r
     ·exact n a ae r g hg
     ·rw[List.mem_singleton]at r
      rw[zeI f.once ae m r]at af
      exact absurd ag af
    ·rw[qj H,qj R];exact vi (xM.2 ⟨q e m,(xM.1 (ud a7)).2⟩)
   ·go_wp2_with fail
    obtain⟨f,n,z,D,L,l,q,R,u,o,m⟩:=ud HP
    obtain⟨v,ag,ai⟩:=ud a9
    have F:=ud HV
    have H:=(F.block _ ad).trans u
    refine⟨⟨_,_,C,_,_,H,Q _,(F.block _ (zb o)).trans o,f,q,fun a ha r g hg=>?_,z.later F,vh D F,L,l⟩,?_⟩
    ·rw[Array.toList_push,List.mem_append]at r
     rcases r with r|r
     ·exact n a ha r g hg
     ·rw[List.mem_singleton]at r
      rw[zeI f.once ha m r]at hg
      have:=ziE (hg.symm.trans ai)
      dsimp only at this
      omega
    ·rw[qj H,qj R];exact vi (xM.2 ⟨q e m,(xM.1 (ud a7)).2⟩)
theorem ziM{w:S}{B g size n cap:Nat}{e:TypeId}{xs:List A}(h:w.ownsRow B e size (.slice (O ⟨g,0,E⟩) n cap) n xs){i:Nat}(r:i<n*size)(u:A):(w.setCell ⟨g,i,E⟩ u).ownsRow B e size (.slice (O ⟨g,0,E⟩) n cap) n (xs.set i u):=by
 refine⟨by simpa using h.1,?_⟩
 rcases h.2 with⟨j,_⟩|⟨q,f,c,hv,k,b,hn,l,p,m⟩
 ·cases j
 ·injection hv with a o d
  injection a with a
  injection a with a
  subst a d
  refine .inr ⟨g,cap,c.setIfInBounds i u,rfl,k,xi b u,hn,l,by simpa using p,?_⟩
  rw[Array.toList_setIfInBounds,List.take_set,m]
theorem zbl{α:Type}{f:α->List A}{k:Nat}(c:∀a,(f a).length=k){a d:α}{j:Nat}{v:A}(e:j<k)(hv:(f a).set j v=f d):∀(l:List α) (i:Nat),l[i]?=O a->(l.flatMap f).set (i*k+j) v=(l.set i d).flatMap f
 |[],i,h=>by simp at h
 |b::l,0,h=>by
  have g:b=a:=by simpa using h
  subst g
  simp only[List.flatMap_cons,List.set_cons_zero,Nat.zero_mul,Nat.zero_add]
  rw[List.set_append_left _ _ (by rw[c];exact e),hv]
 |b::l,i+1,h=>by
  have m:=zbl c e hv l i (by simpa using h)
  simp only[List.flatMap_cons,List.set_cons_succ]
  rw[List.set_append_right _ _ (by rw[c,Nat.add_mul];omega),c,<-m]
  congr 2
  rw[Nat.add_mul];omega
theorem zQ.putTask{B:Nat}{w:S}{p g cap:Nat}{m:RM}{tv nv pv gv:A}(h:zQ B w p m tv nv pv gv (.slice (O ⟨g,0,E⟩) m.tk.length cap)){i j:Nat}{x x':Tk}{v:A}(l:m.tk[i]?=O x)(o:j<11)(hv:(tkV x).set j v=tkV x'):
  zQ B (w.setCell ⟨g,i*11+j,E⟩ v) p {m with tk:=m.tk.set i x'} tv nv pv gv (.slice (O ⟨g,0,E⟩) (m.tk.set i x').length cap)/\zk (fun k=>k=g) w (w.setCell ⟨g,i*11+j,E⟩ v):=by
 have n:i<m.tk.length:=(List.getElem?_eq_some_iff.1 l).1
 have c:zk (fun k=>k=g) w (w.setCell ⟨g,i*11+j,E⟩ v):=zq (zk.refl _ _) rfl
 have f:=ziM h.krow (i:=i*11+j) (by omega) v
 rw[zbl zaT o hv _ _ l]at f
 have d:(m.tk.set i x').length=m.tk.length:=List.length_set ..
 refine⟨⟨?_,h.base,zg h.trow c (fun k a b=>qV h.trow h.krow (by decide) k a (by rw[b];rfl)),zg h.nrow c (fun k a b=>qV h.nrow h.krow (by decide) k a (by rw[b];rfl)),zg h.prow c (fun k a b=>qV h.prow h.krow (by decide) k a (by rw[b];rfl)),zg h.grow c (fun k a b=>qV h.grow h.krow (by decide) k a (by rw[b];rfl)),?_⟩,c⟩
 ·rw[d];exact c.heap h.head (fun e=>zx h.head h.krow (by decide) g rfl e.symm)
 ·rw[d];exact f
def Tk.fail(now:Int)(x:Tk):Tk:={x with tc:=x.tc+1,rest:=now+vM (x.tc+1).toNat,ep:=0,num:=0,slot:= -1,till:=0}
theorem zQ.putTask'{B:Nat}{w:S}{p g cap:Nat}{m:RM}{tv nv pv gv:A}{l:List Tk}(h:zQ B w p {m with tk:=l} tv nv pv gv (.slice (O ⟨g,0,E⟩) l.length cap)){i:Nat}{x:Tk}(b:l[i]?=O x)(j:Nat)(x':Tk)(v:A)(e:j<11)(hv:(tkV x).set j v=tkV x'):
  zQ B (w.setCell ⟨g,i*11+j,E⟩ v) p {m with tk:=l.set i x'} tv nv pv gv (.slice (O ⟨g,0,E⟩) (l.set i x').length cap)/\(l.set i x')[i]?=O x'/\zk (fun k=>k=g) w (w.setCell ⟨g,i*11+j,E⟩ v):=by
 have a:i<l.length:=(List.getElem?_eq_some_iff.1 b).1
 obtain⟨c,d⟩:=zQ.putTask (m:={m with tk:=l}) h b e hv
 exact⟨c,by rw[List.getElem?_set_self a],d⟩
theorem VD{B:Nat}{w:S}{p g cap:Nat}{m:RM}{tv nv pv gv:A}{l:List Tk}(h:zQ B w p {m with tk:=l} tv nv pv gv (.slice (O ⟨g,0,E⟩) l.length cap)){i:Nat}{x:Tk}(u:l[i]?=O x)(r:Int):
  zQ B (((((w.setCell ⟨g,i*11+6,E⟩ (I J r)).setCell ⟨g,i*11+7,E⟩ (I J 0)).setCell ⟨g,i*11+7+1,E⟩ (I J 0)).setCell ⟨g,i*11+9,E⟩ (I J (-1))).setCell ⟨g,i*11+10,E⟩ (I J 0)) p {m with tk:=l.set i {x with rest:=r,ep:=0,num:=0,slot:= -1,till:=0}} tv nv pv gv (.slice (O ⟨g,0,E⟩) l.length cap)/\
  zk (fun k=>k=g) w (((((w.setCell ⟨g,i*11+6,E⟩ (I J r)).setCell ⟨g,i*11+7,E⟩ (I J 0)).setCell ⟨g,i*11+7+1,E⟩ (I J 0)).setCell ⟨g,i*11+9,E⟩ (I J (-1))).setCell ⟨g,i*11+10,E⟩ (I J 0)):=by
 obtain⟨a,c,n⟩:=h.putTask' u 6 {x with rest:=r} (I J r) (by omega) rfl
 obtain⟨b,d,o⟩:=a.putTask' c 7 {x with rest:=r,ep:=0} (I J 0) (by omega) rfl
 obtain⟨a3,f,q⟩:=b.putTask' d 8 {x with rest:=r,ep:=0,num:=0} (I J 0) (by omega) rfl
 obtain⟨a4,j,s⟩:=a3.putTask' f 9 {x with rest:=r,ep:=0,num:=0,slot:= -1} (I J (-1)) (by omega) rfl
 obtain⟨a5,v,t⟩:=a4.putTask' j 10 {x with rest:=r,ep:=0,num:=0,slot:= -1,till:=0} (I J 0) (by omega) rfl
 refine⟨?_,(((n.trans o (fun _ _ e=>e)).trans q (fun _ _ e=>e)).trans s (fun _ _ e=>e)).trans t (fun _ _ e=>e)⟩
 simp only[List.set_set,List.length_set]at a5
 exact a5
theorem fend{B:Nat}{w W Z:S}{p g cap q:Nat}{m:RM}{tv nv pv gv:A}{i:Nat}{x:Tk}(c:x.tc+1=q)(b:zk (fun k=>k=g) w W)(h:zQ B Z p {m with tk:=(m.tk.set i {x with tc:=(q:Int)}).set i {x with tc:=(q:Int),rest:=m.now+(vM q:Nat),ep:=0,num:=0,slot:= -1,till:=0}} tv nv pv gv (.slice (O ⟨g,0,E⟩) (m.tk.set i {x with tc:=(q:Int)}).length cap)/\zk (fun k=>k=g) W Z):
  zQ B Z p {m with tk:=m.tk.set i (x.fail m.now)} tv nv pv gv (.slice (O ⟨g,0,E⟩) m.tk.length cap)/\zk (fun k=>k=g) w Z:=by
 refine⟨?_,b.trans h.2 (fun _ _ e=>e)⟩
 have a:=h.1
 simp only[List.set_set,List.length_set]at a
 have e:x.fail m.now={x with tc:=(q:Int),rest:=m.now+(vM q:Nat),ep:=0,num:=0,slot:= -1,till:=0}:=by
  unfold Tk.fail
  rw[c,Int.toNat_natCast]
 rw[e];exact a
theorem zdf{B:Nat}{w:S}{p g cap:Nat}{m:RM}{tv nv pv gv:A}(h:zQ B w p m tv nv pv gv (.slice (O ⟨g,0,E⟩) m.tk.length cap))(a3:m.tk.length<=1000000000){i:Nat}{x:Tk}(M:m.tk[i]?=O x)(ht:0<=x.tc/\x.tc<=1000000000)(r:0<=m.now/\m.now<=100000):
  Calls prog 249 #[.pointer (O ⟨p,0,E⟩),I J i] w fun e w'=>e=.returned (.tuple #[])/\zQ B w' p {m with tk:=m.tk.set i (x.fail m.now)} tv nv pv gv (.slice (O ⟨g,0,E⟩) m.tk.length cap)/\zk (fun k=>k=g) w w':=by
 have G:i<m.tk.length:=(List.getElem?_eq_some_iff.1 M).1
 have a0:(i:Int)<m.tk.length:=by omega
 obtain⟨t0,t1⟩:=ht
 obtain⟨w1,w2⟩:=r
 obtain⟨q,hq⟩:∃q:Nat,x.tc+1=q:=⟨(x.tc+1).toNat,by omega⟩
 obtain⟨T,-,-,-,f,-,-⟩:=h.rest
 have hp:=h.lt
 obtain⟨g',n,hv,D,a2,-,-,-,-,-,y5,-,-,-,-,-⟩:=zdx h.krow M
 injection hv with a L c
 injection a with a
 injection a with a
 subst a c
 have rf:∀j,w.frozen? ⟨g,j,E⟩=false:=fun j=>by
  obtain⟨z,F⟩:=zz h.krow (k:=g) rfl
  exact zH F j
 have a6:¬p=g:=fun e=>zx h.head h.krow (by decide) g rfl e.symm
 have H:=zd h
 have U:=zd (h.putTask (j:=5) (v:=I J q) (x':={x with tc:=q}) M (by omega) rfl)
 have d:(m.tk.set i {x with tc:=(q:Int)})[i]?=O {x with tc:=(q:Int)}:=by rw[List.getElem?_set_self G]
 have a7:(q:Int)<=1000000001:=by omega
 have X:=zd hq
 clear h D
 go_enter func249,ntmps249
 go_wp2_with fail
 generalize(w.setCell ⟨g,i*11+5,E⟩ (I J q))=W at*
 obtain⟨b,Y⟩:=ud U
 obtain⟨T,-,-,-,f,-,-⟩:=b.rest
 have a5:=b.lt
 have K:(m.tk.set i {x with tc:=(q:Int)}).length=m.tk.length:=List.length_set ..
 clear T f y5 rf
 obtain⟨T,-,-,-,f,-,-⟩:=b.rest
 obtain⟨g',n,hv,D,Z,-,-,-,-,-,y5,y6,y7,y8,y9,a8⟩:=zdx b.krow d
 injection hv with a L c
 injection a with a
 injection a with a
 subst a c
 have rf:∀j,W.frozen? ⟨g,j,E⟩=false:=fun j=>by
  obtain⟨z,F⟩:=zz b.krow (k:=g) rfl
  exact zH F j
 have HR:=zd b
 have V:=zd Y
 clear b Y U D H K
 go_loopw [5,6] (fun x y wr=>∃(k:Nat),k<=5/\k<=q/\x=I J ((2:Int)^k)/\y=I J k/\wr=W) (fun _ y _=>5-(intOf y).toNat)
 case atStart=>exact⟨0,by omega,Nat.zero_le _,by simp,rfl,rfl⟩
 case round=>
  obtain⟨k,o,a4,rfl,rfl,rfl⟩:=hrel
  obtain⟨P,R⟩:=zhJ o
  by_cases h1:k<q
  ·have a1:(k:Int)<q:=by omega
   by_cases h2:k<5
   ·have C:(2:Int)^k<32:=(zhK o).2 h2
    have u:Hid (2*(2:Int)^k=2^(k+1)):=by show 2*(2:Int)^k=2^(k+1);rw[Int.pow_succ];omega
    obtain⟨v,hv⟩:∃v,(2:Int)^k=v:=⟨_,rfl⟩
    rw[hv]at u C P R ⊢
    clear hv
    go_wp2_with fail
    go_roundw
    case rel=>exact⟨k+1,by omega,by omega,by rw[<-ud u],by go_num,trivial⟩
    case measure=>simp[intOf];omega
   ·obtain rfl:k=5:=by omega
    have l:((2:Int)^5)=(vM q:Nat):=by unfold vM;rw[show min q 5=5 by omega];rfl
    have t:=zd (VD (ud HR) d (m.now+(vM q:Nat)))
    obtain⟨v,hv⟩:∃v,(2:Int)^5=v:=⟨_,rfl⟩
    rw[hv]at l ⊢
    rw[<-l]at t
    have s:v=32:=by rw[<-hv];rfl
    subst s
    have u:=zd l
    clear hv l P R
    go_wp2_with fail
    go_end0
    refine⟨rfl,fend (ud X) (ud V) ?_⟩
    rw[<-ud u]
    exact ud t
  ·obtain rfl:k=q:=by omega
   have l:((2:Int)^k)=(vM k:Nat):=by unfold vM;rw[show min k 5=k by omega];simp
   rw[l]at P R ⊢
   have hd:decide ((k:Int)<k)=false:=by simp
   have t:=zd (VD (ud HR) d (m.now+(vM k:Nat)))
   go_wp2_with fail
   go_end0
   exact⟨rfl,fend (ud X) (ud V) (ud t)⟩
def Tsk.kd(x:Tsk):Int:=if x.rl then 1 else 2
def Tsk.key(x:Tsk):Jk:=⟨x.kd,x.s⟩
def QI(QL:List (Tok×Lse))(k:Jk):Bool:=QL.any (fun p=>decide ((⟨p.2.kd,p.2.s⟩:Jk)=k))
theorem zid(w:S)(o:Obj)(c:Cf)(tv:A)(ep:Int):
  zO ((((w.alloc o).alloc (.map #[] 0)).alloc (.map #[] 0)).alloc (.cells #[I J c.s,I J c.le,I J c.la,I J c.wi,I J c.ke,I J c.qu,tv,I J ep,I J 0,.map (O (w.1.size+1)),.map (O (w.1.size+1+1))] 171)) (w.1.size+1+1+1) c tv ep 0 (w.1.size+1) (w.1.size+1+1) [] []:=by
 have a:=zG w o
 have b:=zG (w.alloc o) (.map #[] 0)
 have z3:=zG ((w.alloc o).alloc (.map #[] 0)) (.map #[] 0)
 refine⟨?_,?_,?_,by omega⟩
 ·have h:=zr (((w.alloc o).alloc (.map #[] 0)).alloc (.map #[] 0)) (.cells #[I J c.s,I J c.le,I J c.la,I J c.wi,I J c.ke,I J c.qu,tv,I J ep,I J 0,.map (O (w.1.size+1)),.map (O (w.1.size+1+1))] 171)
  rw[z3,b,a]at h
  exact h
 ·have h:=xj.made (M:=vp) (w.alloc o)
  rw[a]at h
  exact(h.later ((N _ _).alloc (Q _) _)).later ((N _ _).alloc (Q _) _)
 ·have h:=xj.made (M:=yb) ((w.alloc o).alloc (.map #[] 0))
  rw[b,a]at h
  exact h.later ((N _ _).alloc (Q _) _)
theorem zgb(c:Cf)(a:Option Addr)(cap:Nat)(ep:Int)(w:S):
  Calls prog 69 #[.agg #[I J c.s,I J c.le,I J c.la,I J c.wi,I J c.ke,I J c.qu,.slice a c.n cap],I J ep] w fun e w'=>∃b tb qb,e=.returned (.pointer (O ⟨b,0,E⟩))/\w.1.size<=b/\w.1.size<=tb/\w.1.size<=qb/\zO w' b c (.slice a c.n cap) ep 0 tb qb [] []/\Below w.1.size w w':=by
 have h:∀W:S,(Instr.makeMap 169 E).run prog W=.ok (.map (O W.1.size)) (W.alloc (.map #[] 0)):=fun W=>by kernel_rfl
 have i:∀W:S,(Instr.makeMap 168 E).run prog W=.ok (.map (O W.1.size)) (W.alloc (.map #[] 0)):=fun W=>by kernel_rfl
 go_enter func69,ntmps69
 go_wp2_with fail
 go_ret
 refine⟨w.1.size+1+1+1,w.1.size+1,w.1.size+1+1,rfl,by omega,by omega,by omega,zid w _ c _ ep,?_⟩
 have d:Below w.1.size w (w.alloc (.cells #[I J c.s,I J c.le,I J c.la,I J c.wi,I J c.ke,I J c.qu,.slice a c.n cap] 89)):=(N _ _).alloc (Q _) _
 have f:=d.alloc d.size (.map #[] 0)
 have g:=f.alloc f.size (.map #[] 0)
 exact g.alloc g.size _
structure MS where
 now:Int
 L:LV
 Gl:List (Sg×Unit)
 num:Int
 TL:List (Jk×Tsk)
 QL:List (Tok×Lse)
def Lse.job(g:Lse):Jk:=⟨g.kd,g.s⟩
def Cf.clo(c:Cf)(now:Int)(s:Sg):Prop:=(s.wn+1)*c.wh s.t<=now-c.la
def Cf.b(c:Cf):Nat:=((List.range c.n).find? (fun j:Nat=>decide (c.F j= -1))).getD 0
theorem Cf.b_of{c:Cf}(h:∃j:Nat,j<c.n/\c.F j= -1):c.b<c.n/\c.F c.b= -1:=by
 obtain⟨j,f,e⟩:=h
 unfold Cf.b
 cases a:(List.range c.n).find? (fun j:Nat=>decide (c.F j= -1))with
 |none=>exact absurd (decide_eq_true e) (List.find?_eq_none.1 a j (List.mem_range.2 f))
 |some i=>
  have d:=List.find?_some a
  exact⟨List.mem_range.1 (List.mem_of_find?_eq_some a),of_decide_eq_true d⟩
structure Cf.fits(c:Cf):Prop where
 bn:c.b<c.n
 from0:c.F c.b= -1
 div0:∃q:Int,1<=q/\c.W c.b=c.wi*q
 down:∀i:Nat,i<c.n-> -1<=c.F i/\c.F i<c.n
 quot:∀i:Nat,i<c.n->∃q:Int,1<=q/\c.W i=c.wh (c.F i)*q
 dn:∀i:Nat,i<c.n->Go.Proofs.YtndhpgciopcncaaGreatDoor.down c.F c.n (i:Int)=true
theorem Cf.clo_mono{c:Cf}{a b:Int}(h:a<=b){s:Sg}(d:c.clo a s):c.clo b s:=by unfold Cf.clo at*;omega
structure zdG(c:Cf)(now:Int)(L:LV)(p:Jk×Tsk):Prop where
 key:p.1=p.2.key
 mem:p.2.s∈zl L
 clo:c.clo now p.2.s
 roll:p.2.rl=true->(stL L p.2.s).st=2
 recl:p.2.rl=false->(stL L p.2.s).st≠2
 si:0<=p.2.si/\p.2.si<=now
 tc:0<=p.2.tc/\p.2.tc<=p.2.rest/\p.2.rest<=now+32
structure zhU(c:Cf)(ep now num:Int)(TL:List (Jk×Tsk))(q:Tok×Lse):Prop where
 job:∃x,zS TL q.2.job=O x/\x.rest<=now
 ep:q.1.ep=ep
 num:1<=q.1.num/\q.1.num<=num
 til:now<q.2.til/\q.2.til<=now+c.le
structure yA(c:Cf)(now:Int)(L:LV)(Gl:List (Sg×Unit)):Prop where
 inr:∀p∈L,inR c p.1
 nl:(zl L).Nodup
 raw:∀p∈L,p.1.t= -1->p.2.st=1/\1<=p.2.cl.cnt/\ -(p.2.cl.cnt*2147483648)<=p.2.cl.sum/\p.2.cl.sum<=p.2.cl.cnt*2147483648
 tier:∀p∈L,0<=p.1.t->p.2.st=2\/p.2.st=3
 disj:∀p∈L,p.1∉zo Gl
 ng:(zo Gl).Nodup
 pubc:∀p∈L,p.2.st=3->c.clo now p.1
 goc:∀k∈zo Gl,c.clo now k
 above:∀p∈L,p.1.t= -1->(⟨(c.b:Int),p.1.se,p.1.wn*c.wi/c.W c.b⟩:Sg)∈zl L\/(⟨(c.b:Int),p.1.se,p.1.wn*c.wi/c.W c.b⟩:Sg)∈zo Gl
 used:zU L<=c.qu
structure MOk(c:Cf)(ep:Int)(m:MS):Prop where
 now:0<=m.now/\m.now<=100000
 seg:yA c m.now m.L m.Gl
 tk:∀p∈m.TL,zdG c m.now m.L p
 nt:(zo m.TL).Nodup
 leas:∀q∈m.QL,zhU c ep m.now m.num m.TL q
 nq:(zo m.QL).Nodup
 jobs:(m.QL.map (fun q=>q.2.job)).Nodup
 num:0<=m.num
section
variable {c:Cf} {now:Int} {L:LV} {Gl:List (Sg×Unit)}
theorem yA.use{now:Int}(h:yA c now L Gl):∀p∈L,1<=yj p.2:=fun p a=>by
 have e:=h.inr p a
 by_cases f:p.1.t= -1
 ·obtain⟨b,d,_⟩:=h.raw p a f
  unfold yj;rw[if_pos b];exact d
 ·have:=h.tier p a (by have:=e.2.1;omega)
  unfold yj;rw[if_neg (by omega)];omega
theorem zfx:∀(l:List Int),(∀x∈l,1<=x)->(l.length:Int)<=xI l
 |[],_=>by simp[xI]
 |a::l,h=>by
  have c:=h a (by simp)
  have d:=zfx l (fun x b=>h x (by simp[b]))
  simp only[xI,List.length_cons];omega
theorem zbY:∀(l:List Int) (a:Int),(∀x∈l,0<=x)->a∈l->a<=xI l
 |[],_,_,h=>by simp at h
 |b::l,a,h,d=>by
  have e:=h b (by simp)
  have i:0<=xI l:=by
   clear d e
   induction l with
   |nil=>simp[xI]
   |cons x l g=>
    have:=h x (by simp)
    have:=g (fun y c=>h y (by simp at c ⊢;rcases c with c|c<;>simp[c]))
    simp only[xI];omega
  rcases List.mem_cons.1 d with rfl|d
  ·simp only[xI];omega
  ·have:=zbY l a (fun x f=>h x (by simp[f])) d
   simp only[xI];omega
theorem yA.len(h:yA c now L Gl):(L.length:Int)<=zU L:=by
 have:=zfx (L.map (fun p=>yj p.2)) (fun x b=>by obtain⟨p,a,rfl⟩:=List.mem_map.1 b;exact h.use p a)
 simpa[zU]using this
theorem yA.len400(h:yA c now L Gl)(a:c.ok):L.length<=400:=by
 have b:=h.len;have d:=h.used;have e:=a.qu;omega
theorem yA.cnt(h:yA c now L Gl)(d:c.ok):∀p∈L,p.1.t= -1->p.2.cl.cnt<=400:=fun p a f=>by
 obtain⟨b,i,_⟩:=h.raw p a f
 have j:yj p.2<=zU L:=zbY _ _ (fun x g=>by obtain⟨q,e,rfl⟩:=List.mem_map.1 g;have:=h.use q e;omega) (List.mem_map.2 ⟨p,a,rfl⟩)
 have k:yj p.2=p.2.cl.cnt:=by unfold yj;rw[if_pos b]
 have l:=h.used;have m:=d.qu;omega
theorem yA.u0(h:yA c now L Gl)(a:c.ok):0<=zU L/\zU L<=400:=by
 have b:=h.len;have d:=h.used;have e:=a.qu;omega
theorem yA.st(h:yA c now L Gl):∀p∈L,p.2.st≠0:=fun p a=>by
 have b:=h.inr p a
 by_cases d:p.1.t= -1
 ·obtain⟨e,_⟩:=h.raw p a d;omega
 ·have:=h.tier p a (by have:=b.2.1;omega);omega
end
theorem ZF{α:Type}[DecidableEq α]:∀(l m:List α),l.Nodup->(∀x∈l,x∈m)->l.length<=m.length
 |[],_,_,_=>by simp
 |a::l,m,hn,c=>by
  have b:=c a (by simp)
  obtain⟨f,g⟩:=List.nodup_cons.1 hn
  have:=ZF l (m.erase a) g (fun x d=>(List.mem_erase_of_ne (fun e=>f (by rw[<-e];exact d))).2 (c x (by simp[d])))
  rw[List.length_erase_of_mem b]at this
  have h:0<m.length:=List.length_pos_of_mem b
  simp only[List.length_cons];omega
section
variable {c:Cf} {ep:Int} {m:MS}
theorem MOk.tlen(h:MOk c ep m):m.TL.length<=2*m.L.length:=by
 have d:=ZF (zo m.TL) ((zl m.L).map (fun s=>(⟨1,s⟩:Jk))++(zl m.L).map (fun s=>(⟨2,s⟩:Jk))) h.nt (fun k e=>by
  obtain⟨p,f,rfl⟩:=List.mem_map.1 (show k∈m.TL.map (·.1)from e)
  have a:=h.tk p f
  rw[a.key]
  cases b:p.2.rl with
  |true=>exact List.mem_append_left _ (List.mem_map.2 ⟨p.2.s,a.mem,by simp[Tsk.key,Tsk.kd,b]⟩)
  |false=>exact List.mem_append_right _ (List.mem_map.2 ⟨p.2.s,a.mem,by simp[Tsk.key,Tsk.kd,b]⟩))
 simp[zo,zl]at d
 omega
theorem MOk.qlen(h:MOk c ep m):m.QL.length<=m.TL.length:=by
 have a:=ZF (m.QL.map (fun q=>q.2.job)) (zo m.TL) h.jobs (fun k b=>by
  obtain⟨q,d,rfl⟩:=List.mem_map.1 b
  obtain⟨x,e,_⟩:=(h.leas q d).job
  exact List.mem_map.2 ⟨_,zA e,rfl⟩)
 simpa[zo]using a
theorem MOk.t800(h:MOk c ep m)(a:c.ok):m.TL.length<=800:=by have:=h.tlen;have:=h.seg.len400 a;omega
theorem MOk.q800(h:MOk c ep m)(a:c.ok):m.QL.length<=800:=by have:=h.t800 a;have:=h.qlen;omega
theorem MOk.mem_inR(h:MOk c ep m){s:Sg}(b:s∈zl m.L):inR c s:=by
 obtain⟨p,a,rfl⟩:=List.mem_map.1 (show s∈m.L.map (·.1)from b)
 exact h.seg.inr p a
theorem MOk.wfk(h:MOk c ep m):∀p∈m.TL,p.1.wf:=fun p b=>by
 have a:=h.tk p b
 rw[a.key]
 refine⟨?_,(h.mem_inR a.mem).1⟩
 unfold Tsk.key Tsk.kd xR
 dsimp only
 split<;>omega
theorem MOk.binv(h:MOk c ep m)(b:c.ok):zhD 1000000 100000 m.TL m.QL:=by
 have e:=h.q800 b
 have hn:=h.now
 refine⟨fun p a=>?_,fun p a=>?_,h.wfk,by have:=h.t800 b;omega,h.nt,h.nq⟩
 ·obtain⟨x,d,_⟩:=(h.leas p a).job;exact⟨x,d⟩
 ·have:=(h.tk p a).tc;omega
end
theorem zed{L:LV}(hn:(zl L).Nodup)(s k:Sg)(v:SV):ku (yL L s v) k=if k=s then O v else ku L k:=jq (L:=L) hn s v k
theorem zfq{L:LV}(hn:(zl L).Nodup)(s k:Sg)(v:SV):stL (yL L s v) k=if k=s then v else stL L k:=by
 unfold stL;rw[zed hn];split<;>rfl
theorem zkg{L:LV}(hn:(zl L).Nodup){p:Sg×SV}(a:p∈L):stL L p.1=p.2:=by
 unfold stL;rw[show ku L p.1=O p.2 from xu (L:=L) hn a];rfl
theorem zN{L:LV}{s:Sg}(b:s∈zl L):(s,stL L s)∈L:=by
 obtain⟨v,hv,a⟩:=KH b
 unfold stL;rw[hv];exact a
theorem zdZ{c:Cf}{ep:Int}{now n':Int}{L:LV}{num:Int}{TL:List (Jk×Tsk)}{QL:List (Tok×Lse)}(u:now<=n')
  (ht:∀p∈TL,zdG c now L p) (nt:(zo TL).Nodup) (Z:∀q∈QL,zhU c ep now num TL q) (nq:(zo QL).Nodup) (jobs:(QL.map (fun q=>q.2.job)).Nodup)
  {m:List (Jk×Tsk)} {Q1:List (Tok×Lse)} (h:JF n' TL QL m Q1):
  (∀p∈m,zdG c n' L p)/\(zo m).Nodup/\(zo Q1).Nodup/\(Q1.map (fun q=>q.2.job)).Nodup/\(∀q∈Q1,q∈QL)/\(∀q∈QL,n'<q.2.til->q∈Q1)/\(∀q∈Q1,∃x,zS m q.2.job=O x/\x.rest<=now)/\(∀k,k∈zo m↔k∈zo TL):=by
 induction h with
 |nil=>
  refine⟨fun p v=>?_,nt,nq,jobs,fun q h=>h,fun q h _=>h,fun q h=>(Z q h).job,fun k=>Iff.rfl⟩
  have:=ht p v
  exact⟨this.key,this.mem,Cf.clo_mono u this.clo,this.roll,this.recl,⟨this.si.1,by have:=this.si;omega⟩,by have:=this.tc;omega⟩
 | @step m Q1 t g x _ M Y T ih=>
  obtain⟨U,i2,i3,i4,i5,V,W,X⟩:=ih
  have n:=zA M
  have z:=zA T
  have r:∀q∈xn Q1 t,q.2.job≠g.job:=fun q d e=>by
   obtain⟨F,G⟩:=zL.1 d
   have w:Q1.Pairwise (fun a b=>a.2.job≠b.2.job):=List.pairwise_map.1 i4
   obtain⟨i,P,D⟩:=List.getElem_of_mem F
   obtain⟨j,R,B⟩:=List.getElem_of_mem n
   rcases Nat.lt_trichotomy i j with o|o|o
   ·have:=List.pairwise_iff_getElem.1 w i j P R o;rw[D,B]at this;exact this e
   ·subst o;rw[D]at B;exact G (by rw[B])
   ·have:=List.pairwise_iff_getElem.1 w j i R P o;rw[D,B]at this;exact this e.symm
  have a0:x.rest<=now:=by
   obtain⟨y,K,H⟩:=W _ n
   have:y=x:=by have:=K.symm.trans T;injection this
   rw[<-this];exact H
  refine⟨fun p v=>?_,qp i2,xX i3,?_,fun q d=>i5 q (zL.1 d).1,fun q d l=>?_,fun q d=>?_,fun k=>?_⟩
  ·rcases yc v with rfl|⟨v,_⟩
   ·have f:=U _ z
    have hb:=Z9 (x.tc+1).toNat
    exact⟨f.key,f.mem,f.clo,f.roll,f.recl,f.si,by have:=f.tc;simp only[Tsk.failed]at*;omega⟩
   ·exact U p v
  ·unfold xn
   exact i4.sublist (List.Sublist.map _ (List.filter_sublist))
  ·refine zL.2 ⟨V q d l,fun e=>?_⟩
   have C:=xu i3 (V q d l)
   rw[e,M]at C;injection C with C;rw[<-C]at l;omega
  ·obtain⟨y,K,H⟩:=W q (zL.1 d).1
   refine⟨y,?_,H⟩
   rw[jq i2,if_neg (show¬q.2.job=⟨g.kd,g.s⟩from r q d)];exact K
  ·rw[xg,X k]
   constructor
   ·rintro(h|rfl)
    ·exact h
    ·exact(X _).1 (List.mem_map.2 ⟨_,z,rfl⟩)
   ·exact .inl
theorem MOk.exps{c:Cf}{ep:Int}{m:MS}(h:MOk c ep m){n':Int}(hn:m.now<=n'/\n'<=100000){d:List (Jk×Tsk)}{QL':List (Tok×Lse)}(g:JF n' m.TL m.QL d QL')(l:∀p∈QL',n'<p.2.til):
  MOk c ep {m with now:=n',TL:=d,QL:=QL'}:=by
 obtain⟨o,i2,i3,i4,i5,t,r,u⟩:=zdZ hn.1 h.tk h.nt h.leas h.nq h.jobs g
 have a:=h.seg
 refine⟨⟨by have:=h.now;show 0<=n';omega,hn.2⟩,⟨a.inr,a.nl,a.raw,a.tier,a.disj,a.ng,fun p j f=>Cf.clo_mono hn.1 (a.pubc p j f),fun k i=>Cf.clo_mono hn.1 (a.goc k i),a.above,a.used⟩,o,i2,fun q b=>?_,i3,i4,h.num⟩
 have e:=h.leas q (i5 q b)
 obtain⟨x,n,s⟩:=r q b
 exact⟨⟨x,n,by show x.rest<=n';omega⟩,e.ep,e.num,l q b,by have:=e.til;show q.2.til<=n'+c.le;omega⟩
def zdT(x y:Tsk):Int:=orL [jk x.kd y.kd,jk x.s.t y.s.t,jk x.s.se y.s.se,jk x.s.wn y.s.wn]
def ziq(QL:List (Tok×Lse))(now:Int)(x:Tsk):Bool:=decide (x.rest<=now)&&!QI QL x.key
theorem zjd(P:Program)(w:S)(a:Addr)(m:Mode)(fn:Fn)(first b:Array A):(store a (.func fn first b) m).run P w=stored P w a (.func fn first b) m:=_root_.Go.run_store P w a _ m rfl
attribute [local go_sem] zjd
theorem V9{c:Cf}(h:xt c.s c.le c.la c.wi c.ke c.qu c.n c.F c.W c.K=true):c.ok:=by
 unfold xt at h
 simp only[Bool.and_eq_true,qG,yS]at h
 obtain⟨⟨⟨⟨⟨⟨⟨⟨d,e⟩,f⟩,g⟩,j⟩,k⟩,m⟩,l⟩,o⟩:=h
 have b:∀i,i<c.n->(-1<=c.F i/\c.F i<=(c.n:Int)-1)/\(1<=c.W i/\c.W i<=1000)/\(0<=c.K i/\c.K i<=1000):=fun i a=>by
  have:=l i a
  unfold vD at this
  simp only[Bool.and_eq_true,qG]at this
  exact⟨this.1.1,this.1.2,this.2⟩
 exact⟨by omega,by omega,g.1,by omega,fun i a=>(b i a).2.1,fun i a=>by have:=(b i a).1;omega,fun i a=>(b i a).2.2,j,f,k,d,e⟩
theorem zbf{F:Nat->Int}{n:Nat}(a:∀i,i<n-> -1<=F i/\F i<n):∀(k:Nat) (t:Int),0<=t->t<n->down F k t=true->∃j:Nat,j<n/\F j= -1
 |0,t,b,c,h=>by simp[down]at h
 |k+1,t,b,c,h=>by
  rw[down]at h
  have d:=a t.toNat (by omega)
  by_cases e:F t.toNat= -1
  ·exact⟨t.toNat,by omega,e⟩
  ·simp[e]at h
   exact zbf a k (F t.toNat) (by omega) (by omega) h
theorem Ki{c:Cf}(h:xt c.s c.le c.la c.wi c.ke c.qu c.n c.F c.W c.K=true):c.fits:=by
 have j:=V9 h
 unfold xt at h
 simp only[Bool.and_eq_true,qG,yS]at h
 obtain⟨⟨-,x⟩,p⟩:=h
 have g:∀i,i<c.n-> -1<=c.F i/\c.F i<c.n:=fun i d=>j.F i d
 have a:∀i,i<c.n->c.W i%zY c.wi c.W (c.F i)=0/\down c.F c.n i=true:=fun i d=>by
  have:=p i d
  unfold zaf at this
  simpa only[Bool.and_eq_true,beq_iff_eq]using this
 have k:∀i:Nat,i<c.n->∃q:Int,1<=q/\c.W i=c.wh (c.F i)*q:=fun i d=>by
  have f:=(a i d).1
  have u:=(j.W i d).1
  have v:=(j.wh (g i d).1 (g i d).2).1
  change c.W i%c.wh (c.F i)=0 at f
  obtain⟨q,k⟩:=Int.dvd_of_emod_eq_zero f
  refine⟨q,?_,k⟩
  rcases Int.lt_or_le q 1 with r|l
  ·exfalso
   have w:c.wh (c.F i)*q<=c.wh (c.F i)*0:=Int.mul_le_mul_of_nonneg_left (by omega) (by omega)
   omega
  ·exact l
 have t:=j.n1
 obtain⟨o,e⟩:=Cf.b_of (c:=c) (zbf g c.n ((0:Nat):Int) (by omega) (by omega) (a 0 (by omega)).2)
 obtain⟨q,f,m⟩:=k c.b o
 refine⟨o,e,⟨q,f,?_⟩,g,k,fun i d=>(a i d).2⟩
 rw[m,e];unfold Cf.wh zY;rw[if_pos rfl]
def qH(now:Int)(TL:List (Jk×Tsk))(s:Sg):List (Jk×Tsk):=match zS TL ⟨1,s⟩with|some _=>TL|none=>qI TL ⟨1,s⟩ ⟨true,s,now,0,0⟩
def yd(now:Int)(TL:List (Jk×Tsk))(s:Sg):List (Jk×Tsk):=match zS TL ⟨2,s⟩with|some _=>TL|none=>qI TL ⟨2,s⟩ ⟨false,s,now,0,0⟩
section
variable {c:Cf} {now:Int} {L:LV}
structure vO(c:Cf)(now:Int)(L:LV)(TL T1:List (Jk×Tsk)):Prop where
 ok:∀p∈T1,zdG c now L p
 nt:(zo T1).Nodup
 old:∀k x,zS TL k=O x->zS T1 k=O x
theorem zbH{TL a:List (Jk×Tsk)}(h:vO c now L TL a)(hn:0<=now){k:Jk}{x:Tsk}(f:zS a k=E)(g:zdG c now L (k,x)):vO c now L TL (qI a k x):=by
 refine⟨fun p b=>?_,qp h.nt,fun j y d=>?_⟩
 ·rcases yc b with rfl|⟨b,_⟩
  ·exact g
  ·exact h.ok p b
 ·have:=h.old j y d
  rw[jq h.nt,if_neg (fun e=>by rw[e,f]at this;cases this)];exact this
theorem zgV{TL a:List (Jk×Tsk)}(h:vO c now L TL a)(hn:0<=now){s:Sg}(d:s∈zl L)(f:c.clo now s)(g:(stL L s).st=2):vO c now L TL (qH now a s)/\∀k,k∈zo (qH now a s)↔k∈zo a\/k=⟨1,s⟩:=by
 unfold qH
 cases b:zS a ⟨1,s⟩with
 |some x=>exact⟨h,fun k=>⟨.inl,fun e=>e.elim id (fun e=>by rw[e];exact List.mem_map.2 ⟨_,zA b,rfl⟩)⟩⟩
 |none=>exact⟨zbH h hn b ⟨rfl,d,f,fun _=>g,fun e=>by simp at e,⟨hn,Int.le_refl _⟩,by dsimp only;omega⟩,fun k=>xg⟩
theorem zgU{TL a:List (Jk×Tsk)}(h:vO c now L TL a)(hn:0<=now){s:Sg}(d:s∈zl L)(f:c.clo now s)(g:(stL L s).st≠2):vO c now L TL (yd now a s)/\∀k,k∈zo (yd now a s)↔k∈zo a\/k=⟨2,s⟩:=by
 unfold yd
 cases b:zS a ⟨2,s⟩with
 |some x=>exact⟨h,fun k=>⟨.inl,fun e=>e.elim id (fun e=>by rw[e];exact List.mem_map.2 ⟨_,zA b,rfl⟩)⟩⟩
 |none=>exact⟨zbH h hn b ⟨rfl,d,f,fun e=>by simp at e,fun _=>g,⟨hn,Int.le_refl _⟩,by dsimp only;omega⟩,fun k=>xg⟩
theorem J8(hn:0<=now):∀(b:List Sg) {TL a:List (Jk×Tsk)},vO c now L TL a->(∀s∈b,s∈zl L/\c.clo now s/\(stL L s).st=2)->vO c now L TL (b.foldl (qH now) a)/\∀k,k∈zo (b.foldl (qH now) a)↔k∈zo a\/∃s∈b,k=⟨1,s⟩
 |[],TL,a,h,_=>⟨h,fun k=>by simp⟩
 |s::b,TL,a,h,d=>by
  obtain⟨e,f,a3⟩:=d s (by simp)
  obtain⟨g,i⟩:=zgV h hn e f a3
  obtain⟨j,l⟩:=J8 hn b g (fun x m=>d x (by simp[m]))
  refine⟨j,fun k=>?_⟩
  show k∈zo (b.foldl (qH now) (qH now a s))↔_
  rw[l k,i k];simp[or_assoc]
theorem J6(hn:0<=now):∀(b:List Sg) {TL a:List (Jk×Tsk)},vO c now L TL a->(∀s∈b,s∈zl L/\c.clo now s/\(stL L s).st≠2)->vO c now L TL (b.foldl (yd now) a)/\∀k,k∈zo (b.foldl (yd now) a)↔k∈zo a\/∃s∈b,k=⟨2,s⟩
 |[],TL,a,h,_=>⟨h,fun k=>by simp⟩
 |s::b,TL,a,h,d=>by
  obtain⟨e,f,a3⟩:=d s (by simp)
  obtain⟨g,i⟩:=zgU h hn e f a3
  obtain⟨j,l⟩:=J6 hn b g (fun x m=>d x (by simp[m]))
  refine⟨j,fun k=>?_⟩
  show k∈zo (b.foldl (yd now) (yd now a s))↔_
  rw[l k,i k];simp[or_assoc]
end
theorem zig{c:Cf}(m:c.ok)(n:c.fits){now:Int}{k:Sg}(o:k.t= -1)(h:c.clo now ⟨(c.b:Int),k.se,k.wn*c.wi/c.W c.b⟩):c.clo now k:=by
 obtain⟨q,u,d⟩:=n.div0
 have p:=m.wi1
 have g:c.wh (c.b:Int)=c.W c.b:=by unfold Cf.wh zY;rw[if_neg (by omega)];simp
 have i:c.wh (-1)=c.wi:=by unfold Cf.wh zY;rw[if_pos rfl]
 unfold Cf.clo at*
 rw[g]at h
 rw[o,i]
 have f:0<c.W c.b:=by rw[d];exact Int.mul_pos (by omega) (by omega)
 have j:k.wn*c.wi<(k.wn*c.wi/c.W c.b+1)*c.W c.b:=Int.lt_ediv_add_one_mul_self _ f
 generalize k.wn*c.wi/c.W c.b=a at*
 have l:k.wn*c.wi<((a+1)*q)*c.wi:=by
  have e:(a+1)*c.W c.b=((a+1)*q)*c.wi:=by rw[d,Int.mul_comm c.wi q,<-Int.mul_assoc]
  rw[<-e];exact j
 have r:k.wn<(a+1)*q:=Int.lt_of_mul_lt_mul_right l (by omega)
 have s:(k.wn+1)*c.wi<=((a+1)*q)*c.wi:=Int.mul_le_mul_of_nonneg_right (by omega) (by omega)
 have e:(a+1)*c.W c.b=((a+1)*q)*c.wi:=by rw[d,Int.mul_comm c.wi q,<-Int.mul_assoc]
 rw[e]at h;omega
theorem zbI{c:Cf}(j:c.ok)(m:c.fits){now:Int}{L:LV}{Gl:List (Sg×Unit)}(h:yA c now L Gl){k:Sg}(v:k∈zl L)(n:kI c L now k=true):c.clo now k/\(stL L k).st≠2:=by
 have f:=zN v
 have e:=h.inr _ f
 unfold kI at n
 simp only[Bool.and_eq_true,Bool.not_eq_true',beq_eq_false_iff_ne,ne_eq,decide_eq_true_eq]at n
 obtain⟨⟨p,D⟩,q⟩:=n
 refine⟨?_,p⟩
 by_cases g:k.t= -1
 ·have z:=j.n1
  have u:(⟨(c.b:Int),k.se,k.wn*c.wi/c.W c.b⟩:Sg)∈yD c k:=by
   have o:c.wh k.t=c.wi:=by rw[g];unfold Cf.wh zY;rw[if_pos rfl]
   unfold yD YB
   rw[o,List.map_map]
   exact List.mem_map.2 ⟨c.b,List.mem_filter.2 ⟨by simpa using m.bn,by simp[m.from0,g]⟩,rfl⟩
  have l:c.clo now ⟨(c.b:Int),k.se,k.wn*c.wi/c.W c.b⟩:=by
   rcases h.above _ f g with i|i
   ·have d:=zN i
    rcases h.tier _ d (by show(0:Int)<=(c.b:Int);omega)with a|a
    ·exfalso
     unfold Xt at q
     have s:((kU c k).filter (fun x=>(stL L x.1).st==2)).length=0:=by
      have:=of_decide_eq_true (show decide ((((kU c k).filter (fun x=>(stL L x.1).st==2)).length:Int)=0)=true from by simpa using q)
      omega
     have w:=(vT j e ⟨(c.b:Int),k.se,k.wn*c.wi/c.W c.b⟩).2 u
     obtain⟨y,B,r⟩:=List.mem_map.1 w
     have:y∈(kU c k).filter (fun x=>(stL L x.1).st==2):=List.mem_filter.2 ⟨B,by rw[r];simpa using a⟩
     rw[List.eq_nil_of_length_eq_zero s]at this;simp at this
    ·exact h.pubc _ d a
   ·exact h.goc _ i
  exact zig j m g l
 ·rcases h.tier _ f (by have C: -1<=k.t:=e.2.1;show 0<=k.t;omega)with a|a
  ·exact absurd a p
  ·exact h.pubc _ f a
theorem zbM{c:Cf}{now:Int}{L:LV}{b:List (Sg×Unit)}{k:Sg}(a:kJ c b L now k=true):c.clo now k/\(stL L k).st=2:=by
 unfold kJ at a
 simp only[Bool.and_eq_true,beq_iff_eq,decide_eq_true_eq]at a
 exact⟨a.2,a.1.2⟩
structure qD(c:Cf)(m:MS)(TL':List (Jk×Tsk)):Prop where
 to:∃(Bs:List (Sg×Unit)) (ys1 ys2:List Sg),(∀x,x∈zo Bs↔∃k,k∈zl m.L/\(stL m.L k).st=2/\x∈yD c k)/\(∀s,s∈ys1↔s∈zl m.L/\kJ c Bs m.L m.now s=true)/\(∀s,s∈ys2↔s∈zl m.L/\kI c m.L m.now s=true)/\TL'=ys2.foldl (yd m.now) (ys1.foldl (qH m.now) m.TL)
theorem MOk.post{c:Cf}{ep:Int}{m:MS}(r:c.ok)(t:c.fits)(h:MOk c ep m){a:List (Jk×Tsk)}(v:qD c m a):
  MOk c ep {m with TL:=a}/\(∀k,k∈zo m.TL->k∈zo a)/\(∀s,s∈zl m.L->kI c m.L m.now s=true->(⟨2,s⟩:Jk)∈zo a):=by
 obtain⟨C,j,l,D,n,d,rfl⟩:=v.to
 have p:vO c m.now m.L m.TL m.TL:=⟨h.tk,h.nt,fun _ _ e=>e⟩
 obtain⟨z,B⟩:=J8 h.now.1 j p (fun s b=>⟨((n s).1 b).1,zbM ((n s).1 b).2⟩)
 obtain⟨i,o⟩:=J6 h.now.1 l z (fun s b=>⟨((d s).1 b).1,zbI r t h.seg ((d s).1 b).1 ((d s).1 b).2⟩)
 refine⟨⟨h.now,h.seg,i.ok,i.nt,fun q w=>?_,h.nq,h.jobs,h.num⟩,fun k u=>(o k).2 (.inl ((B k).2 (.inl u))),fun s b g=>(o _).2 (.inr ⟨s,(d s).2 ⟨b,g⟩,rfl⟩)⟩
 have f:=h.leas q w
 obtain⟨x,y,g⟩:=f.job
 exact⟨⟨x,i.old _ _ y,g⟩,f.ep,f.num,f.til⟩
section
variable {c:Cf} {ep:Int} {m:MS}
theorem zgv{QL:List (Tok×Lse)}(hn:(QL.map (fun q=>q.2.job)).Nodup){p q:Tok×Lse}(l:p∈QL)(m:q∈QL)(e:p.2.job=q.2.job):p=q:=by
 have d:QL.Pairwise (fun a b=>a.2.job≠b.2.job):=List.pairwise_map.1 hn
 obtain⟨i,h,f⟩:=List.getElem_of_mem l
 obtain⟨j,k,g⟩:=List.getElem_of_mem m
 rcases Nat.lt_trichotomy i j with c|c|c
 ·have:=List.pairwise_iff_getElem.1 d i j h k c;rw[f,g]at this;exact absurd e this
 ·subst c;rw[<-f,g]
 ·have:=List.pairwise_iff_getElem.1 d j i k h c;rw[f,g]at this;exact absurd e.symm this
theorem ju{QL:List (Tok×Lse)}(hn:(QL.map (fun q=>q.2.job)).Nodup)(t:Tok):((xn QL t).map (fun q=>q.2.job)).Nodup:=by
 unfold xn
 exact hn.sublist (List.Sublist.map _ (List.filter_sublist))
theorem vV{QL:List (Tok×Lse)}(hn:(QL.map (fun q=>q.2.job)).Nodup){t:Tok}{g:Lse}(c:(t,g)∈QL){q:Tok×Lse}(d:q∈xn QL t):q.2.job≠g.job:=fun e=>by
 obtain⟨a,b⟩:=zL.1 d
 exact b (by rw[zgv hn a c e])
theorem MOk.failed(h:MOk c ep m){t:Tok}{g:Lse}{x:Tsk}(n:zS m.QL t=O g)(l:zS m.TL g.job=O x):
  MOk c ep {m with TL:=qI m.TL g.job (x.failed m.now),QL:=xn m.QL t}:=by
 have b:=zA n
 have i:=zA l
 have o:x.rest<=m.now:=by
  obtain⟨y,j,f⟩:=(h.leas _ b).job
  have:y=x:=by have:=j.symm.trans l;injection this
  rw[<-this];exact f
 have r:=Z9 (x.tc+1).toNat
 have a:=h.tk _ i
 refine⟨h.now,h.seg,fun p e=>?_,qp h.nt,fun q k=>?_,xX h.nq,ju h.jobs t,h.num⟩
 ·rcases yc e with rfl|⟨e,_⟩
  ·exact⟨a.key,a.mem,a.clo,a.roll,a.recl,a.si,by have:=a.tc;simp only[Tsk.failed]at*;omega⟩
  ·exact h.tk p e
 ·have d:=h.leas q (zL.1 k).1
  obtain⟨y,j,f⟩:=d.job
  refine⟨⟨y,?_,f⟩,d.ep,d.num,d.til⟩
  rw[jq h.nt,if_neg (vV h.jobs b k)];exact j
theorem MOk.picked(h:MOk c ep m)(r:c.ok){k:Jk}{x:Tsk}(o:zS m.TL k=O x)(w:x.rest<=m.now)(l:QI m.QL x.key=false)(slot:Int):
  MOk c ep {m with num:=m.num+1,QL:=qI m.QL ⟨ep,m.num+1⟩ ⟨x.kd,x.s,slot,m.now+c.le⟩}/\(⟨ep,m.num+1⟩:Tok)∉zo m.QL/\(∀q∈m.QL,q.2.job≠x.key):=by
 have f:(⟨ep,m.num+1⟩:Tok)∉zo m.QL:=fun v=>by
  obtain⟨q,d,e⟩:=List.mem_map.1 v
  have:=(h.leas q d).num
  rw[e]at this;dsimp only at this;omega
 have i:∀q∈m.QL,q.2.job≠x.key:=fun q d e=>by
  unfold QI at l
  rw[List.any_eq_false]at l
  exact l q d (by simpa[Lse.job]using e)
 have j:qI m.QL ⟨ep,m.num+1⟩ ⟨x.kd,x.s,slot,m.now+c.le⟩=m.QL++[(⟨ep,m.num+1⟩,⟨x.kd,x.s,slot,m.now+c.le⟩)]:=by unfold qI;rw[if_neg f]
 have t:=(h.tk _ (zA o)).key
 have u:=r.le
 refine⟨⟨h.now,h.seg,h.tk,h.nt,fun q d=>?_,qp h.nq,?_,by have:=h.num;show 0<=m.num+1;omega⟩,f,i⟩
 ·rcases yc d with rfl|⟨d,_⟩
  ·refine⟨⟨x,?_,w⟩,rfl,⟨by have:=h.num;show 1<=m.num+1;omega,Int.le_refl _⟩,by show m.now<m.now+c.le;omega,Int.le_refl _⟩
   show zS m.TL x.key=O x
   rw[<-t];exact o
  ·have g:=h.leas q d
   exact⟨g.job,g.ep,⟨g.num.1,by have:=g.num.2;show q.1.num<=m.num+1;omega⟩,g.til⟩
 ·show((qI m.QL ⟨ep,m.num+1⟩ ⟨x.kd,x.s,slot,m.now+c.le⟩).map (fun q=>q.2.job)).Nodup
  rw[j,List.map_append,List.nodup_append]
  refine⟨h.jobs,by simp,fun a p b n=>?_⟩
  obtain⟨q,d,rfl⟩:=List.mem_map.1 p
  simp only[List.map_cons,List.map_nil,List.mem_singleton]at n
  subst n
  exact i q d
theorem MOk.other_seg(h:MOk c ep m){k:Jk}{x:Tsk}(o:zS m.TL k=O x){p:Jk×Tsk}(n:p∈xn m.TL k):p.2.s≠x.s:=fun e=>by
 obtain⟨l,d⟩:=zL.1 n
 have g:=h.tk p l
 have j:=h.tk _ (zA o)
 have b:k=x.key:=j.key
 cases i:p.2.rl with
 |true=>
  have a:=g.roll i
  rw[e]at a
  cases f:x.rl with
  |true=>exact d (by rw[g.key,b];simp[Tsk.key,Tsk.kd,i,f,e])
  |false=>exact j.recl f a
 |false=>
  have a:=g.recl i
  rw[e]at a
  cases f:x.rl with
  |true=>exact a (j.roll f)
  |false=>exact d (by rw[g.key,b];simp[Tsk.key,Tsk.kd,i,f,e])
theorem MOk.done_leas(h:MOk c ep m){t:Tok}{g:Lse}(d:zS m.QL t=O g):∀q∈xn m.QL t,zhU c ep m.now m.num (xn m.TL g.job) q:=fun q b=>by
 have a:=h.leas q (zL.1 b).1
 obtain⟨y,f,e⟩:=a.job
 refine⟨⟨y,?_,e⟩,a.ep,a.num,a.til⟩
 rw[zbn h.nt,if_neg (vV h.jobs (zA d) b)];exact f
theorem Ks{L:LV}(hn:(zl L).Nodup){s:Sg}{u v:SV}(a:(s,u)∈L)(f:SV->Int):xI ((yL L s v).map (fun p=>f p.2))=xI (L.map (fun p=>f p.2))-f u+f v:=by
 unfold yL
 rw[if_pos (show s∈zl L from List.mem_map.2 ⟨_,a,rfl⟩)]
 exact Yh f hn a
theorem zfA{s:Sg}{u:SV}(f:SV->Int):∀{L:LV},(zl L).Nodup->(s,u)∈L->xI ((xn L s).map (fun p=>f p.2))=xI (L.map (fun p=>f p.2))-f u
 |[],_,h=>by simp at h
 |p::L,hn,h=>by
  obtain⟨b,c⟩:=List.nodup_cons.1 (show(p.1::zl L).Nodup from hn)
  rcases List.mem_cons.1 h with rfl|h
  ·have e:xn ((s,u)::L) s=L:=by
    unfold xn
    rw[List.filter_cons,if_neg (by simp)]
    refine List.filter_eq_self.2 (fun q d=>?_)
    simp only[decide_eq_true_eq]
    exact fun e=>b (List.mem_map.2 ⟨q,d,e⟩)
   rw[e];simp only[List.map_cons,xI];omega
  ·have a:p.1≠s:=fun e=>b (List.mem_map.2 ⟨_,h,e.symm⟩)
   have e:xn (p::L) s=p::xn L s:=by unfold xn;rw[List.filter_cons,if_pos (by simpa using a)]
   have g:=zfA f c h
   rw[e];simp only[List.map_cons,xI,g];omega
theorem MOk.rolled(h:MOk c ep m){t:Tok}{g:Lse}{x:Tsk}(D:zS m.QL t=O g)(B:zS m.TL g.job=O x)(F:x.rl=true)(i:Cl):
  MOk c ep {m with L:=yL m.L x.s ⟨3,i⟩,TL:=xn m.TL g.job,QL:=xn m.QL t}/\(∀f:SV->Int,xI ((yL m.L x.s ⟨3,i⟩).map (fun p=>f p.2))=xI (m.L.map (fun p=>f p.2))-f (stL m.L x.s)+f ⟨3,i⟩)/\(stL m.L x.s).st=2/\x.s∈zl m.L:=by
 have q:=h.tk _ (zA B)
 have u:(x.s,stL m.L x.s)∈m.L:=zN q.mem
 have z:(stL m.L x.s).st=2:=q.roll F
 have l:=fun f:SV->Int=>Ks (v:=⟨3,i⟩) h.seg.nl u f
 have b:=h.seg
 have r:x.s.t≠ -1:=fun e=>by have H:(stL m.L x.s).st=1:=(b.raw _ u e).1;omega
 have d:∀k,k∈zl (yL m.L x.s ⟨3,i⟩)↔k∈zl m.L:=fun k=>by
  rw[xw];exact⟨fun e=>e.elim id (fun e=>e▸q.mem),.inl⟩
 refine⟨⟨h.now,⟨fun p a=>?_,kc b.nl,fun p a o=>?_,fun p a o=>?_,fun p a=>?_,b.ng,fun p a C=>?_,b.goc,fun p a o=>?_,?_⟩,fun p a=>?_,xX h.nt,h.done_leas D,xX h.nq,ju h.jobs t,h.num⟩,l,z,q.mem⟩
 ·rcases xS a with rfl|⟨a,_⟩
  ·exact(show inR c x.s from b.inr _ u)
  ·exact b.inr p a
 ·rcases xS a with rfl|⟨a,_⟩
  ·exact absurd o r
  ·exact b.raw p a o
 ·rcases xS a with rfl|⟨a,_⟩
  ·exact .inr rfl
  ·exact b.tier p a o
 ·rcases xS a with rfl|⟨a,_⟩
  ·exact(show x.s∉zo m.Gl from b.disj _ u)
  ·exact b.disj p a
 ·rcases xS a with rfl|⟨a,_⟩
  ·exact q.clo
  ·exact b.pubc p a C
 ·rcases xS a with rfl|⟨a,_⟩
  ·exact absurd o r
  ·rcases b.above p a o with w|w
   ·exact .inl ((d _).2 w)
   ·exact .inr w
 ·have:=l yj
  have K:yj (stL m.L x.s)=2:=by unfold yj;rw[if_neg (by omega)]
  have G:yj ⟨3,i⟩=2:=by unfold yj;rw[if_neg (by dsimp only;omega)]
  have:=b.used
  show zU (yL m.L x.s ⟨3,i⟩)<=c.qu
  unfold zU at*;omega
 ·have y:=h.other_seg B a
  have n:=h.tk p (zL.1 a).1
  have j:stL (yL m.L x.s ⟨3,i⟩) p.2.s=stL m.L p.2.s:=by rw[zfq b.nl,if_neg y]
  exact⟨n.key,(d _).2 n.mem,n.clo,fun e=>by show(stL (yL m.L x.s ⟨3,i⟩) p.2.s).st=2;rw[j];exact n.roll e,fun e=>by show(stL (yL m.L x.s ⟨3,i⟩) p.2.s).st≠2;rw[j];exact n.recl e,n.si,n.tc⟩
theorem MOk.reclaimed(h:MOk c ep m){t:Tok}{g:Lse}{x:Tsk}(F:zS m.QL t=O g)(C:zS m.TL g.job=O x)(G:x.rl=false):
  MOk c ep {m with L:=xn m.L x.s,Gl:=qI m.Gl x.s (),TL:=xn m.TL g.job,QL:=xn m.QL t}/\(∀f:SV->Int,xI ((xn m.L x.s).map (fun p=>f p.2))=xI (m.L.map (fun p=>f p.2))-f (stL m.L x.s))/\(stL m.L x.s).st≠2/\x.s∈zl m.L/\(qI m.Gl x.s ()).length=m.Gl.length+1:=by
 have v:=h.tk _ (zA C)
 have y:(x.s,stL m.L x.s)∈m.L:=zN v.mem
 have B:(stL m.L x.s).st≠2:=v.recl G
 have q:=fun f:SV->Int=>zfA f h.seg.nl y
 have j:=h.seg
 have z:x.s∉zo m.Gl:=j.disj _ y
 have a:∀p,p∈xn m.L x.s->p∈m.L/\p.1≠x.s:=fun p d=>zL.1 d
 have n:∀k,k∈zl m.L->k≠x.s->k∈zl (xn m.L x.s):=fun k l i=>by
  obtain⟨p,d,rfl⟩:=List.mem_map.1 (show k∈m.L.map (·.1)from l)
  exact List.mem_map.2 ⟨p,zL.2 ⟨d,i⟩,rfl⟩
 have u:∀k,k≠x.s->stL (xn m.L x.s) k=stL m.L k:=fun k i=>by
  unfold stL
  rw[show ku (xn m.L x.s) k=ku m.L k from by
   have:=zbn (L:=m.L) j.nl x.s k
   rw[if_neg i]at this;exact this]
 refine⟨⟨h.now,⟨fun p d=>j.inr p (a p d).1,xX (L:=m.L) j.nl,fun p d=>j.raw p (a p d).1,fun p d=>j.tier p (a p d).1,fun p d=>?_,qp j.ng,fun p d=>j.pubc p (a p d).1,fun k l=>?_,fun p d H=>?_,?_⟩,fun p d=>?_,xX h.nt,h.done_leas F,xX h.nq,ju h.jobs t,h.num⟩,q,B,v.mem,?_⟩
 ·intro l
  rcases xg.1 l with l|l
  ·exact j.disj p (a p d).1 l
  ·exact(a p d).2 l
 ·rcases xg.1 l with l|rfl
  ·exact j.goc k l
  ·exact v.clo
 ·rcases j.above p (a p d).1 H with w|w
  ·by_cases e:(⟨(c.b:Int),p.1.se,p.1.wn*c.wi/c.W c.b⟩:Sg)=x.s
   ·exact .inr (xg.2 (.inr e))
   ·exact .inl (n _ w e)
  ·exact .inr (xg.2 (.inl w))
 ·have K:=q yj
  have D:=j.use _ y
  have:=j.used
  show zU (xn m.L x.s)<=c.qu
  unfold zU at*;dsimp only at D;omega
 ·have i:=h.other_seg C d
  have r:=h.tk p (zL.1 d).1
  have o:=u p.2.s i
  exact⟨r.key,n _ r.mem i,r.clo,fun e=>by show(stL (xn m.L x.s) p.2.s).st=2;rw[o];exact r.roll e,fun e=>by show(stL (xn m.L x.s) p.2.s).st≠2;rw[o];exact r.recl e,r.si,r.tc⟩
 ·rw[kw,if_neg z]
end
end Go.Proofs.YtndhpgciopcncaaGreatDoor
