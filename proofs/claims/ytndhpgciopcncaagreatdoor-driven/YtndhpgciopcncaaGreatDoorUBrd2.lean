import Derived.Test.YtndhpgciopcncaaGreatDoorUBrd1
import Derived.Test.YtndhpgciopcncaaGreatDoorUCmp0
open Go.Value renaming int → I
open Go.IntKind renaming i64 → J
open Option renaming some → O
open Nat renaming le_refl → E
open Option renaming none → Q
open Go.RowKit.Below renaming refl → S
open Go renaming World → A
open Go.RowKit renaming Below → D
open Nat renaming lt_of_lt_of_le → G
set_option linter.unusedVariables false
set_option maxRecDepth 20000
set_option maxHeartbeats 4000000
open Go.Proofs.Tryz
namespace Go.Proofs.YtndhpgciopcncaaGreatDoor
open Go.ChangeMaps (setBlock)
open Go.RowKit Go.Maps Go.Shelf
def YE(k:Nat):Nat:=2^min k 5
theorem jP(k:Nat):1<=YE k/\YE k<=32:=by
 unfold YE
 have h:min k 5<=5:=Nat.min_le_right _ _
 generalize min k 5=j at*
 match j,h with
 |0,_=>simp
 |1,_=>simp
 |2,_=>simp
 |3,_=>simp
 |4,_=>simp
 |5,_=>simp
theorem zjg{k:Nat}(h:k<=5):((2:Int)^k<32↔k<5):=by
 match k,h with
 |0,_=>simp
 |1,_=>simp
 |2,_=>simp
 |3,_=>simp
 |4,_=>simp
 |5,_=>simp
theorem zjf{k:Nat}(h:k<=5):1<=(2:Int)^k/\(2:Int)^k<=32:=by
 match k,h with
 |0,_=>simp
 |1,_=>simp
 |2,_=>simp
 |3,_=>simp
 |4,_=>simp
 |5,_=>simp
theorem zfD(ti:Nat)(l:ti<=1000000000000)(w:A):
  Calls prog 115 #[I J ti] w fun e w'=>e=.returned (I J (YE ti))/\w'=w:=by
 go_enter func115,ntmps115
 go_wp2_with fail
 go_loopw [3,4] (fun x y wr=>∃(k:Nat),k<=5/\k<=ti/\x=I J ((2:Int)^k)/\y=I J k/\wr=w) (fun _ y _=>5-(intOf y).toNat)
 case atStart=>exact⟨0,by omega,Nat.zero_le _,by simp,rfl,rfl⟩
 case round=>
  obtain⟨k,a,g,rfl,rfl,rfl⟩:=hrel
  obtain⟨h,i⟩:=zjf a
  by_cases j:k<ti
  ·have d:(k:Int)<ti:=by omega
   by_cases f:k<5
   ·have b:(2:Int)^k<32:=(zjg a).2 f
    have c:Hid ((2:Int)^k*2=2^(k+1)):=by show(2:Int)^k*2=2^(k+1);rw[Int.pow_succ]
    obtain⟨v,hv⟩:∃v,(2:Int)^k=v:=⟨_,rfl⟩
    rw[hv]at c b h i ⊢
    clear hv
    go_wp2_with fail
    go_roundw
    case rel=>exact⟨k+1,by omega,by omega,by rw[<-ud c],by go_num,trivial⟩
    case measure=>simp[intOf];omega
   ·obtain rfl:k=5:=by omega
    go_wp2_with fail
    go_ret
    refine⟨?_,rfl⟩
    unfold YE
    rw[show min ti 5=5 by omega]
    rfl
  ·obtain rfl:k=ti:=by omega
   go_wp2_with fail
   go_ret
   refine⟨?_,rfl⟩
   unfold YE
   rw[show min k 5=k by omega]
   simp
theorem zcy(x:Lse)(W:A):(Instr.field 164 (.agg #[I J x.kd,I J x.s.t,I J x.s.sr,I J x.s.wa,I J x.slot,I J x.til]) 0).run prog W=.ok (.agg #[I J x.kd,I J x.s.t,I J x.s.sr,I J x.s.wa]) W:=by kernel_rfl
theorem Yr{X:A}{qb:Nat}{QL:List (Tok×Lse)}(h:zV xx X qb QL){t:Tok}(c:t.wf){g:Lse}(b:zQ QL t=O g):(Instr.lookup 168 (.map (O qb)) (.agg #[I J t.ep,I J t.num]) false).run prog X=.ok (.agg #[I J g.kd,I J g.s.t,I J g.s.sr,I J g.s.wa,I J g.slot,I J g.til]) X:=by
 have a:=yt qX false h c
 rw[b]at a;exact a
theorem Ys{X:A}{tb:Nat}{TL:List (Jk×Tsk)}(h:zV xI X tb TL){k:Jk}(b:k.wf){x:Tsk}(c:zQ TL k=O x):(Instr.lookup 169 (.map (O tb)) (.agg #[I J k.kd,I J k.s.t,I J k.s.sr,I J k.s.wa]) false).run prog X=.ok (.agg #[.iface x.jt (.agg #[I J x.s.t,I J x.s.sr,I J x.s.wa]),I J x.se,I J x.ti,I J x.rest]) X:=by
 have a:=yt qZ false h b
 rw[c]at a;exact a
def Tsk.failed(x:Tsk)(now:Int):Tsk:=⟨x.rl,x.s,x.se,x.ti+1,now+YE (x.ti+1).toNat⟩
theorem zdL{X:A}{tb:Nat}{TL:List (Jk×Tsk)}(h:zV xI X tb TL)(d:TL.length<maxLen){k:Jk}(c:k.wf)(x:Tsk)(b a:Int):
  ∃o,(Instr.mapUpdate 169 (.map (O tb)) (.agg #[I J k.kd,I J k.s.t,I J k.s.sr,I J k.s.wa]) (.agg #[.iface x.jt (.agg #[I J x.s.t,I J x.s.sr,I J x.s.wa]),I J x.se,I J b,I J a])).run prog X=.ok () (setBlock X tb o)/\zV xI (setBlock X tb o) tb (qq TL k ⟨x.rl,x.s,x.se,b,a⟩)/\zo (fun k=>k=tb) X (setBlock X tb o)/\o.isCells=false:=
 kX qZ h d c (⟨x.rl,x.s,x.se,b,a⟩:Tsk)
theorem zgV{X:A}{qb:Nat}{QL:List (Tok×Lse)}(h:zV xx X qb QL){t:Tok}(i:t.wf)(d:TypeId):
  ∃o,(Builtin.delete_ #[168,49] d #[.map (O qb),.agg #[I J t.ep,I J t.num]]).run prog X=.ok (.tuple #[]) (setBlock X qb o)/\zV xx (setBlock X qb o) qb (xe QL t)/\zo (fun k=>k=qb) X (setBlock X qb o):=by
 obtain⟨j,b,c,g⟩:=h
 obtain⟨a,e,f,l⟩:=Xc qX c g i d
 exact⟨.map a b,e,⟨a,b,xE (za c) _,f⟩,xQ _⟩
theorem zeE{X:A}{qb:Nat}{QL:List (Tok×Lse)}{c:Array MapEntry}{b:Nat}(d:X.1[qb]?=O (.map c b))(j:kC xx c b QL){t:Tok}(l:t.wf)(f:TypeId):
  ∃a,(Builtin.delete_ #[168,49] f #[.map (O qb),.agg #[I J t.ep,I J t.num]]).run prog X=.ok (.tuple #[]) (setBlock X qb (.map a b))/\(setBlock X qb (.map a b)).1[qb]?=O (.map a b)/\kC xx a b (xe QL t)/\(∀e,e∈a.toList↔e∈c.toList/\e.key≠ya t)/\zo (fun k=>k=qb) X (setBlock X qb (.map a b)):=by
 obtain⟨a,g,h,i⟩:=Xc qX d j l f
 exact⟨a,g,xE (za d) _,h,i,xQ _⟩
theorem JG{w:A}{b:Nat}{c:Cf}{tv:Value}{ep num:Int}{tb qb:Nat}{TL:List (Jk×Tsk)}{QL:List (Tok×Lse)}(h:zA w b c tv ep num tb qb TL QL)(t:Tok)(ht:t.wf){g:Lse}(hg:zQ QL t=O g){x:Tsk}(a9:(⟨g.kd,g.s⟩:Jk).wf)(hx:zQ TL ⟨g.kd,g.s⟩=O x)(now:Int)(aO:0<=now/\now<=100000)(aW:0<=x.ti/\x.ti<=1000000000)(aN:TL.length<=100000){es:Array MapEntry}{cl:Nat}(ad:w.1[qb]?=O (.map es cl))(ae:kC xx es cl QL):
  Calls prog 56 #[.pointer (O ⟨b,0,Q⟩),.agg #[I J t.ep,I J t.num],I J now] w fun e w'=>e=.returned (.tuple #[])/\zA w' b c tv ep num tb qb (qq TL ⟨g.kd,g.s⟩ (x.failed now)) (xe QL t)/\zo (fun k=>k=tb\/k=qb) w w'/\∃L,w'.1[qb]?=O (.map L cl)/\kC xx L cl (xe QL t)/\∀e,e∈L.toList↔e∈es.toList/\e.key≠ya t:=by
 have au:=h.lt
 have y0:=zm w (.cells #[I J t.ep,I J t.num] 49)
 have yz:=zL w (.cells #[I J t.ep,I J t.num] 49)
 have a:D w.1.size w (w.alloc (.cells #[I J t.ep,I J t.num] 49)):=(S _ _).alloc (E _) _
 obtain⟨k0,k1,-⟩:=zc y0
 have aJ:=(h.later a).cell10
 have HL:=fun X hX=>Yr (h.leases.later (w':=X) hX) ht hg
 have g0:=HL _ a
 have g1:=HL _ a.drew
 have g2:=fun o=>HL _ (a.alloc a.size o)
 have g3:=fun o=>HL _ (a.alloc a.size o).drew
 have g4:=fun o=>HL _ (a.drew.alloc a.drew.size o)
 have fl:=zcy g
 have T:w.1.size<(w.alloc (.cells #[I J t.ep,I J t.num] 49)).1.size:=by rw[yz];omega
 have aM:b<(w.alloc (.cells #[I J t.ep,I J t.num] 49)).1.size:=by rw[yz];omega
 have H:=zd h
 have Y0:=zd y0
 have a2:=zd a
 have HT:=zd ht
 have a3:=zd a9
 have HG:=zd hg
 have HX:=zd hx
 have a7:=zd ad
 have al:=zd ae
 clear h y0 yz a HL ht a9 hg hx ad ae
 go_enter func56,ntmps56
 go_wp2_with fail
 generalize(w.alloc (.cells #[I J t.ep,I J t.num] 49))=X at*
 go_region
 have N:D X.1.size X (X.alloc (.cells #[I J g.kd,I J g.s.t,I J g.s.sr,I J g.s.wa] 162)).drew:=((S _ _).alloc (E _) _).drew
 have R:(X.alloc (.cells #[I J g.kd,I J g.s.t,I J g.s.sr,I J g.s.wa] 162)).drew.1[X.1.size]?=O (.cells #[I J g.kd,I J g.s.t,I J g.s.sr,I J g.s.wa] 162 (0,0)):=zm _ _
 have ah:(X.alloc (.cells #[I J g.kd,I J g.s.t,I J g.s.sr,I J g.s.wa] 162)).drew.1.size=X.1.size+1:=zL _ _
 generalize(X.alloc (.cells #[I J g.kd,I J g.s.t,I J g.s.sr,I J g.s.wa] 162)).drew=Y at*
 have d:D w.1.size w Y:=(ud a2).trans (N.mono (ud a2).size)
 have y9:=((ud H).later d).cell9
 obtain⟨aB,aC,aD,aE,-⟩:=zc R
 have l:=fun V hV=>Ys (k:=⟨g.kd,g.s⟩) ((ud H).td.later (w':=V) hV) (ud a3) (ud HX)
 dsimp only at l
 clear g0 g1 g2 g3 g4 fl k0 k1 aJ
 have g0:=l Y d
 have g1:=l Y.drew d.drew
 have g2:=fun o=>l (Y.alloc o) (d.alloc d.size o)
 have g3:=fun o=>l (Y.alloc o).drew (d.alloc d.size o).drew
 have g4:=fun o=>l (Y.drew.alloc o) (d.drew.alloc d.drew.size o)
 have aL:b<Y.1.size:=by omega
 have z:X.1.size<Y.1.size:=by omega
 have a4:=zd R
 have K:=zd d
 have aP:=zd ah
 have ar:=zd N
 clear R d ah N l
 go_wp2_with fail
 go_region
 have v:D Y.1.size Y (Y.alloc (.cells #[.iface x.jt (.agg #[I J x.s.t,I J x.s.sr,I J x.s.wa]),I J x.se,I J x.ti,I J x.rest] 177)).drew:=((S _ _).alloc (E _) _).drew
 have r:(Y.alloc (.cells #[.iface x.jt (.agg #[I J x.s.t,I J x.s.sr,I J x.s.wa]),I J x.se,I J x.ti,I J x.rest] 177)).drew.1[Y.1.size]?=O (.cells #[.iface x.jt (.agg #[I J x.s.t,I J x.s.sr,I J x.s.wa]),I J x.se,I J x.ti,I J x.rest] 177 (0,0)):=zm _ _
 have aX:(Y.alloc (.cells #[.iface x.jt (.agg #[I J x.s.t,I J x.s.sr,I J x.s.wa]),I J x.se,I J x.ti,I J x.rest] 177)).drew.1.size=Y.1.size+1:=zL _ _
 generalize(Y.alloc (.cells #[.iface x.jt (.agg #[I J x.s.t,I J x.s.sr,I J x.s.wa]),I J x.se,I J x.ti,I J x.rest] 177)).drew=Z at*
 have ag:D w.1.size w Z:=(ud K).trans (v.mono (ud K).size)
 obtain⟨t0,t1,t2,t3,-⟩:=zc r
 have tf:=fun j=>zE r j
 have aQ:=za r
 have B:=(v.block X.1.size z).trans (ud a4)
 have HR:∀W,Hid (Calls prog 115 #[I J (x.ti+1)] W fun e w'=>e=.returned (I J (YE (x.ti+1).toNat))/\w'=W):=fun W=>by
  have:=zfD (x.ti+1).toNat (by omega) W
  rw[Int.toNat_of_nonneg (by omega)]at this
  exact this
 obtain⟨q1,q2⟩:=jP (x.ti+1).toNat
 obtain⟨F,y⟩:∃F:Nat,YE (x.ti+1).toNat=F:=⟨_,rfl⟩
 rw[y]at q1 q2
 simp only[y]at HR
 have am:=zd y
 have ao:=zd r
 have aq:=zd ag
 have ak:=zd B
 have ai:=zd v
 clear g0 g1 g2 g3 g4 aB aC aD aE y9 r ag v B y
 go_wp2_with(first|(go_at_call 115;refine(ud (HR _)).mono ?_;rintro e Z2 ⟨rfl,rfl⟩))
 have hU:((Z.setCell ⟨Y.1.size,2,Q⟩ (I J (x.ti+1))).setCell ⟨Y.1.size,3,Q⟩ (I J (now+F))).1[Y.1.size]?=O (.cells #[.iface x.jt (.agg #[I J x.s.t,I J x.s.sr,I J x.s.wa]),I J x.se,I J (x.ti+1),I J (now+F)] 177 (0,0)):=xy (i:=3) (xy (i:=2) (ud ao) (I J (x.ti+1))) (I J (now+F))
 have u:D Y.1.size Z ((Z.setCell ⟨Y.1.size,2,Q⟩ (I J (x.ti+1))).setCell ⟨Y.1.size,3,Q⟩ (I J (now+F))):=((S _ _).setCell (p:=⟨Y.1.size,2,Q⟩) (E _) _).setCell (p:=⟨Y.1.size,3,Q⟩) (E _) _
 generalize((Z.setCell ⟨Y.1.size,2,Q⟩ (I J (x.ti+1))).setCell ⟨Y.1.size,3,Q⟩ (I J (now+F)))=U at*
 have m:D w.1.size w U:=(ud aq).trans (u.mono (ud K).size)
 have P:=(u.block X.1.size z).trans (ud ak)
 have a1:=(u.block w.1.size (by have:=T;omega)).trans (((ud ai).block w.1.size (by have:=T;omega)).trans (((ud ar).block w.1.size T).trans (ud Y0)))
 have u9:=((ud H).later m).cell9
 obtain⟨ax,ay,az,aA,-⟩:=zc P
 obtain⟨aF,aG,aH,aI,-⟩:=zc hU
 have aV:=za hU
 have aS:=za P
 have aU:=za a1
 have aK:b<U.1.size:=G au m.size
 obtain⟨o,C,hm,hk,ho⟩:=zdL (X:=U.drew) (k:=⟨g.kd,g.s⟩) ((ud H).td.later m.drew) (by simp only[maxLen];omega) (ud a3) x (x.ti+1) (now+F)
 dsimp only at C
 have n:=((ud H).later m.drew).putTasks hm hk
 have a0:=hk.heap (k:=w.1.size) a1 (fun e=>by have:=(ud H).foot_lt tb (.inr (.inl rfl));omega)
 have aY:=n.cell10
 obtain⟨aZ,b0,-⟩:=zc a0
 have aT:=za a0
 have aR:=n.lt
 have ac:(setBlock U.drew tb o).1[qb]?=O (.map es cl):=hk.heap (k:=qb) ((m.block qb (za (ud a7))).trans (ud a7)) (fun e=>(ud H).apart e.symm)
 obtain⟨a8,av,ab,aa,af,q⟩:=zeE (X:=(setBlock U.drew tb o).drew) ac (ud al) (ud HT) 0
 have HP:=zd n
 have HK:=zd hk
 have a6:=zd ab
 have an:=zd af
 have a5:=zd aa
 have aj:=zd q
 have ap:=zd m
 clear t0 t1 t2 t3 tf hU u P a1 m hm hk n a0 aa q ab af ac
 go_region
 go_wp2_with fail
 generalize setBlock U.drew tb o=M at*
 clear C u9 ax ay az aA aF aG aH aI
 go_region
 go_wp2_with fail
 go_end0
 have hP:=ud HP
 have q:=ud aj
 have aw:zo (fun k=>k=tb\/k=qb) w M:=(zo.of_below (f:=fun k=>k=tb\/k=qb) (ud ap).drew).trans (ud HK) (fun _ _ e=> .inl e)
 refine⟨rfl,⟨q.heap hP.head (fun e=>hP.qb_ne e.symm),?_,⟨a8,cl,ud a6,ud a5⟩,hP.apart⟩,?_,a8,ud a6,ud a5,ud an⟩
 ·have:=(hP.td.later (w':=M.drew) (S _ _).drew).kept q (fun e=>hP.apart e)
  unfold Tsk.failed
  rw[ud am]
  exact this
 ·exact(aw.drew).trans q (fun _ _ e=> .inr e)
theorem zgW{X:A}{tb:Nat}{TL:List (Jk×Tsk)}(h:zV xI X tb TL){k:Jk}(i:k.wf)(d:TypeId):
  ∃o,(Builtin.delete_ #[169,162] d #[.map (O tb),.agg #[I J k.kd,I J k.s.t,I J k.s.sr,I J k.s.wa]]).run prog X=.ok (.tuple #[]) (setBlock X tb o)/\zV xI (setBlock X tb o) tb (xe TL k)/\zo (fun k=>k=tb) X (setBlock X tb o):=by
 obtain⟨j,b,c,g⟩:=h
 obtain⟨a,e,f,l⟩:=Xc qZ c g i d
 exact⟨.map a b,e,⟨a,b,xE (za c) _,f⟩,xQ _⟩
theorem zeG{w:A}{b:Nat}{c:Cf}{tv:Value}{ep num:Int}{tb qb:Nat}{TL:List (Jk×Tsk)}{QL:List (Tok×Lse)}(h:zA w b c tv ep num tb qb TL QL)(t:Tok)(v:t.wf){g:Lse}(C:zQ QL t=O g)(n:(⟨g.kd,g.s⟩:Jk).wf):
  Calls prog 54 #[.pointer (O ⟨b,0,Q⟩),.agg #[I J t.ep,I J t.num]] w fun e w'=>e=.returned (.tuple #[])/\zA w' b c tv ep num tb qb (xe TL ⟨g.kd,g.s⟩) (xe QL t)/\zo (fun k=>k=tb\/k=qb) w w':=by
 have Z:=h.lt
 have K:=zm w (.cells #[I J t.ep,I J t.num] 49)
 have L:=zL w (.cells #[I J t.ep,I J t.num] 49)
 have a:D w.1.size w (w.alloc (.cells #[I J t.ep,I J t.num] 49)):=(S _ _).alloc (E _) _
 obtain⟨k0,k1,-⟩:=zc K
 have x9:=(h.later a).cell9
 have H:=(h.later a).cell10
 have V:=Yr ((h.later a).leases) v C
 have W:=Yr ((h.later a.drew).leases) v C
 have U:=zcy g
 have a0:w.1.size<(w.alloc (.cells #[I J t.ep,I J t.num] 49)).1.size:=by rw[L];omega
 have N:b<(w.alloc (.cells #[I J t.ep,I J t.num] 49)).1.size:=by rw[L];omega
 obtain⟨o,i,P,u⟩:=zgW (X:=(w.alloc (.cells #[I J t.ep,I J t.num] 49)).drew) (k:=⟨g.kd,g.s⟩) ((h.later a.drew).td) n 0
 dsimp only at i
 have j:=(h.later a.drew).putTasks P u
 have q:=u.heap (k:=w.1.size) (show(w.alloc (.cells #[I J t.ep,I J t.num] 49)).drew.1[w.1.size]?=_ from K) (fun e=>by have:=h.foot_lt tb (.inr (.inl rfl));omega)
 have HH:=zd h
 have x:=zd a
 have T:=zd v
 have r:=zd j
 have R:=zd u
 have l:=zd q
 clear h K L a n C v P j u q
 go_enter func54,ntmps54
 go_wp2_with fail
 generalize(w.alloc (.cells #[I J t.ep,I J t.num] 49))=X at*
 go_region
 go_wp2_with fail
 generalize setBlock X.drew tb o=M at*
 have a2:=(ud r).cell10
 obtain⟨a3,a4,-⟩:=zc (ud l)
 have a1:=za (ud l)
 have Y:=(ud r).lt
 obtain⟨o3,B,p,d⟩:=zgV (X:=M.drew) (ud r).leases (ud T) 0
 have z:=zd p
 have y:=zd d
 clear V W U k0 k1 x9 H i p d
 go_region
 go_wp2_with fail
 go_end0
 have m:=ud r
 have d:=ud y
 have F:zo (fun k=>k=tb\/k=qb) w M:=(zo.of_below (f:=fun k=>k=tb\/k=qb) (ud x).drew).trans (ud R) (fun _ _ e=> .inl e)
 refine⟨rfl,⟨d.heap m.head (fun e=>m.qb_ne e.symm),(m.td.later (w':=M.drew) (S _ _).drew).kept d (fun e=>m.apart e),ud z,m.apart⟩,(F.drew).trans d (fun _ _ e=> .inr e)⟩
def zgm(o:Option Tsk):Value:=match o with
 |none=> .nilIface
 |some x=> .iface x.jt (.agg #[I J x.s.t,I J x.s.sr,I J x.s.wa])
theorem zha(o:Option Tsk)(W:A):(Instr.field 177 (Ql o) 0).run prog W=.ok (zgm o) W:=by
 cases o with
 |none=>kernel_rfl
 |some x=>kernel_rfl
def qY(o:Option Lse):Lse:=o.getD ⟨0,⟨0,0,0⟩,0,0⟩
theorem zcV{X:A}{qb:Nat}{QL:List (Tok×Lse)}(h:zV xx X qb QL){t:Tok}(c:t.wf):(Instr.lookup 168 (.map (O qb)) (.agg #[I J t.ep,I J t.num]) true).run prog X=.ok (.tuple #[.agg #[I J (qY (zQ QL t)).kd,I J (qY (zQ QL t)).s.t,I J (qY (zQ QL t)).s.sr,I J (qY (zQ QL t)).s.wa,I J (qY (zQ QL t)).slot,I J (qY (zQ QL t)).til],.bool (zQ QL t).isSome]) X:=by
 have a:=yt qX true h c
 cases b:zQ QL t with
 |none=>rw[b]at a;exact a
 |some g=>rw[b]at a;exact a
theorem zcW{X:A}{tb:Nat}{TL:List (Jk×Tsk)}(h:zV xI X tb TL){k:Jk}(c:k.wf):(Instr.lookup 169 (.map (O tb)) (.agg #[I J k.kd,I J k.s.t,I J k.s.sr,I J k.s.wa]) false).run prog X=.ok (Ql (zQ TL k)) X:=by
 have a:=yt qZ false h c
 cases b:zQ TL k with
 |none=>rw[b]at a;exact a
 |some g=>rw[b]at a;exact a
theorem vj{w:A}{b:Nat}{c:Cf}{tv:Value}{ep num:Int}{tb qb:Nat}{TL:List (Jk×Tsk)}{QL:List (Tok×Lse)}(h:zA w b c tv ep num tb qb TL QL)(t:Tok)(K:t.wf)(r:(⟨(qY (zQ QL t)).kd,(qY (zQ QL t)).s⟩:Jk).wf):
  Calls prog 51 #[.pointer (O ⟨b,0,Q⟩),.agg #[I J t.ep,I J t.num]] w fun e w'=>e=.returned (.tuple #[zgm (zQ TL ⟨(qY (zQ QL t)).kd,(qY (zQ QL t)).s⟩),.bool (zQ QL t).isSome])/\D w.1.size w w':=by
 have T:=h.lt
 have L:=zm w (.cells #[I J t.ep,I J t.num] 49)
 have B:=zL w (.cells #[I J t.ep,I J t.num] 49)
 have a:D w.1.size w (w.alloc (.cells #[I J t.ep,I J t.num] 49)):=(S _ _).alloc (E _) _
 obtain⟨W,Z,-⟩:=zc L
 have z:=(h.later a).cell10
 have i:=fun X p=>zcV (h.leases.later (w':=X) p) K
 have d:=fun X p=>zcW (h.td.later (w':=X) p) r
 dsimp only at d
 obtain⟨g,x⟩:∃g,qY (zQ QL t)=g:=⟨_,rfl⟩
 obtain⟨ok,m⟩:∃ok,(zQ QL t).isSome=ok:=⟨_,rfl⟩
 rw[x]at d ⊢
 rw[m]
 rw[x,m]at i
 obtain⟨y,u⟩:∃y,zQ TL ⟨g.kd,g.s⟩=y:=⟨_,rfl⟩
 rw[u]at d ⊢
 have C:=i _ a
 have F:=i _ a.drew
 have N:=fun o=>i _ (a.alloc a.size o)
 have P:=fun o=>i _ (a.alloc a.size o).drew
 have R:=fun o=>i _ (a.drew.alloc a.drew.size o)
 have U:w.1.size<(w.alloc (.cells #[I J t.ep,I J t.num] 49)).1.size:=by rw[B];omega
 have q:b<(w.alloc (.cells #[I J t.ep,I J t.num] 49)).1.size:=by rw[B];omega
 have M:=zd h
 have n:=zd a
 have j:=fun X p=>zd (d X p)
 clear h L B a i K r x m u d
 go_enter func51,ntmps51
 go_wp2_with fail
 generalize(w.alloc (.cells #[I J t.ep,I J t.num] 49))=X at*
 go_region
 have k:D X.1.size X (X.alloc (.cells #[I J g.kd,I J g.s.t,I J g.s.sr,I J g.s.wa,I J g.slot,I J g.til] 164)).drew:=((S _ _).alloc (E _) _).drew
 have l:(X.alloc (.cells #[I J g.kd,I J g.s.t,I J g.s.sr,I J g.s.wa,I J g.slot,I J g.til] 164)).drew.1[X.1.size]?=O (.cells #[I J g.kd,I J g.s.t,I J g.s.sr,I J g.s.wa,I J g.slot,I J g.til] 164 (0,0)):=zm _ _
 generalize(X.alloc (.cells #[I J g.kd,I J g.s.t,I J g.s.sr,I J g.s.wa,I J g.slot,I J g.til] 164)).drew=Y at*
 have f:D w.1.size w Y:=(ud n).trans (k.mono (ud n).size)
 have y9:=((ud M).later f).cell9
 obtain⟨a0,a1,a2,a3,-⟩:=zc l
 have V:=za l
 have H:b<Y.1.size:=G q k.size
 clear C F N P R W Z z
 have C:=ud (j Y f)
 have F:=ud (j Y.drew f.drew)
 have fl:=zha y
 have v:=zd f
 clear l f k j
 go_wp2_with fail
 go_region
 go_wp2_with fail
 go_ret2
 exact⟨rfl,(ud v).drew⟩
inductive YV (now:Int) (TL:List (Jk×Tsk)) (QL:List (Tok×Lse)):List (Jk×Tsk)->List (Tok×Lse)->Prop
 |nil:YV now TL QL TL QL
 |step {T1:List (Jk×Tsk)} {Q1:List (Tok×Lse)} {t:Tok} {g:Lse} {x:Tsk}:YV now TL QL T1 Q1->zQ Q1 t=O g->g.til<=now->zQ T1 ⟨g.kd,g.s⟩=O x->YV now TL QL (qq T1 ⟨g.kd,g.s⟩ (x.failed now)) (xe Q1 t)
structure zgb(B:Int)(n:Nat)(TL:List (Jk×Tsk))(QL:List (Tok×Lse)):Prop where
 job:∀p,p∈QL->∃x,zQ TL ⟨p.2.kd,p.2.s⟩=O x
 ti:∀p,p∈TL->0<=p.2.ti/\p.2.ti+QL.length<=B
 wfk:∀p,p∈TL->p.1.wf
 len:TL.length<=n
 tn:(zy TL).Nodup
 qn:(zy QL).Nodup
theorem zht{α β:Type}[DecidableEq α]{L:List (α×β)}{a:α}{v:β}(h:(a,v)∈L):(xe L a).length<L.length:=by
 unfold xe
 refine Nat.lt_of_le_of_ne (List.length_filter_le _ _) (fun e=>?_)
 have:=List.length_filter_eq_length_iff.1 e (a,v) h
 simp at this
theorem zgb.step{B:Int}{n:Nat}{e:List (Jk×Tsk)}{Q1:List (Tok×Lse)}(h:zgb B n e Q1)(now:Int){t:Tok}{g:Lse}{x:Tsk}(i:zQ Q1 t=O g)(j:zQ e ⟨g.kd,g.s⟩=O x):zgb B n (qq e ⟨g.kd,g.s⟩ (x.failed now)) (xe Q1 t):=by
 have f:=zO i
 have d:=zO j
 have l:=zht f
 refine⟨fun p c=>?_,fun p c=>?_,fun p c=>?_,?_,qG h.tn,qo h.qn⟩
 ·obtain⟨y,k⟩:=h.job p (xc.1 c).1
  rw[vi h.tn]
  split
  ·exact⟨_,rfl⟩
  ·exact⟨y,k⟩
 ·rcases qs c with rfl|⟨c,_⟩
  ·obtain⟨a,b⟩:=h.ti _ d
   dsimp only[Tsk.failed]at a b ⊢
   omega
  ·obtain⟨a,b⟩:=h.ti _ c
   omega
 ·rcases qs c with rfl|⟨c,_⟩
  ·exact h.wfk (_,x) d
  ·exact h.wfk _ c
 ·rw[ki,if_pos (show(⟨g.kd,g.s⟩:Jk)∈zy e from List.mem_map.2 ⟨(_,x),d,rfl⟩)];exact h.len
theorem J7{f:Array MapEntry}(h:(f.toList.map (·.born)).Nodup){a b:MapEntry}(n:a∈f.toList)(o:b∈f.toList)(e:a.born=b.born):a=b:=by
 obtain⟨i,l,g⟩:=List.getElem_of_mem n
 obtain⟨j,m,d⟩:=List.getElem_of_mem o
 have k:f.toList.Pairwise (fun a b=>a.born≠b.born):=List.pairwise_map.1 h
 rcases Nat.lt_trichotomy i j with c|c|c
 ·have:=List.pairwise_iff_getElem.1 k i j l m c;rw[g,d]at this;exact absurd e this
 ·subst c;rw[g]at d;exact d
 ·have:=List.pairwise_iff_getElem.1 k j i m l c;rw[g,d]at this;exact absurd e.symm this
theorem zcv{b:Array MapEntry}{a:Nat}{L:List (Tok×Lse)}(h:kC xx b a L){p:Tok×Lse}(g:p∈L):∃x∈b.toList,x.key=ya p.1/\x.val=kV p.2:=by
 have f:(xx.ke p.1,xx.ve p.2)∈b.toList.map (fun e=>(e.key,e.val)):=h.kv▸List.mem_map.2 ⟨p,g,rfl⟩
 obtain⟨x,i,e⟩:=List.mem_map.1 f
 injection e with c d
 exact⟨x,i,c,d⟩
theorem zhs{a b:Lse}(h:kV a=kV b):a.til=b.til:=by
 unfold kV at h
 injection h with h
 simp at h
 exact h.2.2.2.2.2
theorem zaA{w:A}{b:Nat}{c:Cf}{tv:Value}{ep num:Int}{tb qb:Nat}{TL:List (Jk×Tsk)}{QL:List (Tok×Lse)}(h:zA w b c tv ep num tb qb TL QL)(now:Int)(al:0<=now/\now<=100000)(hI:zgb 1000000 100000 TL QL):
  Calls prog 59 #[.pointer (O ⟨b,0,Q⟩),I J now] w fun e w'=>e=.returned (.tuple #[])/\∃ac Z,zA w' b c tv ep num tb qb ac Z/\zo (fun k=>k=tb\/k=qb) w w'/\YV now TL QL ac Z/\∀p∈Z,now<p.2.til:=by
 obtain⟨N,d,a5,an⟩:=h.leases
 have aC:=h.lt
 have av:=h.cell10
 have T:=run_range_map (P:=prog) w 168 _ _ qb N d underlying168 a5
 have HH:=zd h
 have au:=zd an
 have Y:=zd a5
 clear h an
 go_enter func59,ntmps59
 go_wp2_with fail
 go_loopw [4,5] (fun _ _ wr=>∃(j:Array Nat) (c0:Nat) (B:Array MapEntry) (T1:List (Jk×Tsk)) (Q1:List (Tok×Lse)),wr.1[w.1.size]?=O (.mapIter (O qb) d j c0)/\d<=c0/\wr.1[qb]?=O (.map B d)/\kC xx B d Q1/\(∀e∈B.toList,e∈N.toList)/\(∀e∈B.toList,e.born∈j.toList->∀g,e.val=kV g->now<g.til)/\zA wr b c tv ep num tb qb T1 Q1/\zo (fun k=>k=tb\/k=qb) w wr/\YV now TL QL T1 Q1/\zgb 1000000 100000 T1 Q1)
  (fun _ _ wr=>vP N w.1.size wr)
 case atStart=>
  have a1:D w.1.size w (w.alloc (.mapIter (O qb) d #[] d)):=(S _ _).alloc (E _) _
  exact⟨#[],d,N,TL,QL,zm _ _,E _,(a1.block _ (za (ud Y))).trans (ud Y),ud au,fun _ h=>h,by simp,(ud HH).later a1,zo.of_below a1,.nil,hI⟩
 case round=>
  obtain⟨j,c0,B,T1,Q1,R,ay,a6,f,hin,n,hB,hK,M,l⟩:=hrel
  have aD:=za R
  clear T av a5
  rcases run_next_at (P:=prog) wr 0 w.1.size qb d c0 j B d R a6 f.born ay with⟨hz,z⟩|⟨e,a2,w1,U,z⟩
  ·have HP:=zd (And.intro f (And.intro n (And.intro hB (And.intro hK (And.intro M hz)))))
   clear hz f n hB hK M l hI hin
   go_wp2_with fail
   go_end0
   obtain⟨f,n,hB,hK,M,hz⟩:=ud HP
   refine⟨rfl,T1,Q1,hB,hK,M,fun p hp=>?_⟩
   obtain⟨x,W,ek,ev⟩:∃x∈B.toList,x.key=ya p.1/\x.val=kV p.2:=zcv f hp
   refine n x W ?_ p.2 ev
   by_cases q:x.born∈j.toList
   ·exact q
   ·have:x∈(leftOf B j).toList:=xq.2 ⟨W,q⟩
    rw[Array.eq_empty_of_size_eq_zero hz]at this
    simp at this
  ·have a8:=zd a2
   obtain⟨m,aA⟩:=xq.1 a2
   have ao:w1.1[w.1.size]?=O (.mapIter (O qb) d j c0):=by rcases U with rfl|rfl<;>exact R
   have am:w1.1[qb]?=O (.map B d):=by rcases U with rfl|rfl<;>exact a6
   have ak:qb≠w.1.size:=by have:=za (ud Y);omega
   obtain⟨X,hX⟩:∃X,setBlock w1 w.1.size (.mapIter (O qb) d (j.push e.born) d)=X:=⟨_,rfl⟩
   have r:X.1[w.1.size]?=O (.mapIter (O qb) d (j.push e.born) d):=by rw[<-hX];exact xE (za ao) _
   have o:X.1[qb]?=O (.map B d):=by rw[<-hX,xn ak];exact am
   have a4:zo (fun k=>k=w.1.size) wr X:=by
    rw[<-hX];rcases U with rfl|rfl
    ·exact xQ _
    ·exact(zo.refl (fun k=>k=w.1.size) wr).drew.trans (xQ _) (fun _ _ h=>h)
   have v:=hB.kept a4 (fun k hk e=>by have:=(ud HH).foot_lt k hk;omega)
   have C:zo (fun k=>k=tb\/k=qb) w X:=hK.trans a4 (fun i hi e=>by omega)
   rw[hX]at z
   have ai:=run_entry_at (P:=prog) X w.1.size qb d j B d e r o m f.once
   obtain⟨u,hk,hv⟩:=Z1 qX f m
   obtain⟨⟨t,y⟩,ar⟩:∃y,yo xx Q1 e=y:=⟨_,rfl⟩
   rw[ar]at u hk hv
   have aa:=zd (And.intro u (And.intro hk hv))
   have H:e.key=ya t:=hk
   have L:e.val=kV y:=hv
   unfold ya at H
   unfold kV at L
   rw[H,L]at z ai
   have ae:=za r
   have aE:=v.lt
   have HP:=zd (And.intro f (And.intro n (And.intro v (And.intro C (And.intro M (And.intro l (And.intro hin (And.intro R (And.intro r (And.intro o m))))))))))
   have a3:zQ Q1 t=O y:=qB f.nodup u
   have a9:=zd a3
   obtain⟨x,W⟩:=l.job _ u
   have ab:=zd W
   have a7:=l.ti _ (zO W)
   dsimp only at W a7
   have HF:∀V,D X.1.size X V->Hid (Calls prog 56 #[.pointer (O ⟨b,0,Q⟩),.agg #[I J t.ep,I J t.num],I J now] V fun e w'=>e=.returned (.tuple #[])/\zA w' b c tv ep num tb qb (qq T1 ⟨y.kd,y.s⟩ (x.failed now)) (xe Q1 t)/\zo (fun k=>k=tb\/k=qb) V w'/\∃a0,w'.1[qb]?=O (.map a0 d)/\kC xx a0 d (xe Q1 t)/\∀e,e∈a0.toList↔e∈B.toList/\e.key≠ya t):=fun V F=>
    JG (v.later F) t (f.wf _ u) a3 (l.wfk _ (zO W)) W now al ⟨a7.1,by omega⟩ l.len ((F.block _ (za o)).trans o) f
   clear f n hB hK M l hI hin R r o a4 v C ao am hX U hk hv u ar a2 m aA H L a6 a3 W a7
   have F:D X.1.size X ((X.alloc (.cells #[I J t.ep,I J t.num] 49)).alloc (.cells #[I J y.kd,I J y.s.t,I J y.s.sr,I J y.s.wa,I J y.slot,I J y.til] 164)):=((S _ _).alloc (E _) _).alloc ((S _ _).alloc (E _) _).size _
   have HV:=zd F
   clear F
   by_cases aq:y.til<=now
   ·go_wp2_with(first|(go_at_call 56;refine(ud (HF _ (ud HV))).mono ?_;rintro e3 W3 ⟨rfl,h3⟩;have H3:=zd h3;clear h3))
    obtain⟨f,n,v,C,M,l,hin,R,r,o,m⟩:=ud HP
    obtain⟨ax,ad,aw,aB,az,ap⟩:=ud H3
    obtain⟨u,ah,aj⟩:=ud aa
    have F:=ud HV
    have K:=ad.heap ((F.block _ ae).trans r) (fun e=>by
     rcases e with e|e
     ·have:=(ud HH).foot_lt tb (.inr (.inl rfl));omega
     ·exact ak e.symm)
    refine⟨⟨_,_,aw,_,_,K,E _,aB,az,fun a ha=>hin a ((ap a).1 ha).1,fun a ha q g hg=>?_,ax,(Zs C F).trans ad (fun _ _ h=>h),.step M (ud a9) aq (ud ab),l.step now (ud a9) (ud ab)⟩,?_⟩
    ·obtain⟨af,ag⟩:=(ap a).1 ha
     rw[Array.toList_push,List.mem_append]at q
     rcases q with q|q
     ·exact n a af q g hg
     ·rw[List.mem_singleton]at q
      rw[J7 f.once af m q]at ag
      exact absurd ah ag
    ·rw[xg K,xg R];exact qC (xq.2 ⟨hin e m,(xq.1 (ud a8)).2⟩)
   ·go_wp2_with fail
    obtain⟨f,n,v,C,M,l,hin,R,r,o,m⟩:=ud HP
    obtain⟨u,ah,aj⟩:=ud aa
    have F:=ud HV
    have K:=(F.block _ ae).trans r
    refine⟨⟨_,_,B,_,_,K,E _,(F.block _ (za o)).trans o,f,hin,fun a ha q g hg=>?_,v.later F,Zs C F,M,l⟩,?_⟩
    ·rw[Array.toList_push,List.mem_append]at q
     rcases q with q|q
     ·exact n a ha q g hg
     ·rw[List.mem_singleton]at q
      rw[J7 f.once ha m q]at hg
      have:=zhs (hg.symm.trans aj)
      dsimp only at this
      omega
    ·rw[xg K,xg R];exact qC (xq.2 ⟨hin e m,(xq.1 (ud a8)).2⟩)
set_option maxRecDepth 20000
theorem kB(xs:Array Value)(i:Nat)(v:Value)(h:xs[i]?=O v)(w:A):(part 3 xs i).run prog w=.ok v w:=by simp[part,h]
theorem eqS1(d:Nat)(a b c e b' f:Int)(w:A):(Op.equalIn (d+2) 146 (.agg #[I J a,I J b,I J c]) (.agg #[I J e,I J b',I J f])).run prog w=.ok (a==e&&b==b'&&c==f) w:=by
 have j:∃g h i,(prog.fieldsOf 146).toList=[g,h,i]/\g.name≠ "_" /\h.name≠ "_" /\i.name≠ "_" /\g.type=3/\h.type=3/\i.type=3/\g.offset=0/\h.offset=1/\i.offset=2:=by
  refine⟨_,_,_,rfl,?_⟩
  decide
 obtain⟨g,h,i,j,k,l,m,q,t2,t3,n,o,p⟩:=j
 rw[run_equalIn_struct w (d+1) 146 _ _ (by kernel_rfl) (by kernel_rfl),j]
 simp only[Op.eqFields,k,l,m,q,t2,t3,n,o,p,ne_eq,not_false_eq_true,if_true,Sem.run_bind,Sem.run_ite,Sem.run_pure,
  kB #[I J a,I J b,I J c] 0 (I J a) rfl,kB #[I J a,I J b,I J c] 1 (I J b) rfl,kB #[I J a,I J b,I J c] 2 (I J c) rfl,
  kB #[I J e,I J b',I J f] 0 (I J e) rfl,kB #[I J e,I J b',I J f] 1 (I J b') rfl,kB #[I J e,I J b',I J f] 2 (I J f) rfl,
  Result.andThen_ok,run_equalIn_int _ _ _ _ _ _ _ underlying3]
 cases a==e<;>cases b==b'<;>cases c==f<;>rfl
theorem eqJ1(k a b c f g b' h:Int)(w:A):(Op.equal 162 (.agg #[I J k,I J a,I J b,I J c]) (.agg #[I J f,I J g,I J b',I J h])).run prog w=.ok (k==f&&(a==g&&b==b'&&c==h)) w:=by
 have i:∃d e,(prog.fieldsOf 162).toList=[d,e]/\d.name≠ "_" /\e.name≠ "_" /\d.type=3/\e.type=146/\d.offset=0/\e.offset=1:=by
  refine⟨_,_,rfl,?_⟩
  decide
 obtain⟨d,e,i,l,m,p,t2,n,o⟩:=i
 have j:∀(k a b c:Int) (w:A),(part 146 #[I J k,I J a,I J b,I J c] 1).run prog w=.ok (.agg #[I J a,I J b,I J c]) w:=fun k a b c w=>by kernel_rfl
 show(Op.equalIn (9999+1) 162 _ _).run prog w=_
 rw[run_equalIn_struct w 9999 162 _ _ (by kernel_rfl) (by kernel_rfl),i]
 simp only[Op.eqFields,l,m,p,t2,n,o,ne_eq,not_false_eq_true,if_true,Sem.run_bind,Sem.run_ite,Sem.run_pure,
  kB #[I J k,I J a,I J b,I J c] 0 (I J k) rfl,kB #[I J f,I J g,I J b',I J h] 0 (I J f) rfl,j,
  Result.andThen_ok,show(9999:Nat)=9998+1 from rfl,run_equalIn_int _ _ _ _ _ _ _ underlying3]
 rw[show(9998+1:Nat)=9997+2 from rfl,eqS1]
 cases k==f<;>cases(a==g&&b==b'&&c==h)<;>rfl
theorem zgi(a b:Jk)(w:A):(binOp .eql 162 (.agg #[I J a.kd,I J a.s.t,I J a.s.sr,I J a.s.wa]) (.agg #[I J b.kd,I J b.s.t,I J b.s.sr,I J b.s.wa])).run prog w=.ok (.bool (decide (a=b))) w:=by
 have c:binOp .eql 162 (.agg #[I J a.kd,I J a.s.t,I J a.s.sr,I J a.s.wa]) (.agg #[I J b.kd,I J b.s.t,I J b.s.sr,I J b.s.wa])=(Op.equal 162 (.agg #[I J a.kd,I J a.s.t,I J a.s.sr,I J a.s.wa]) (.agg #[I J b.kd,I J b.s.t,I J b.s.sr,I J b.s.wa])>>=fun r=>pure (Value.bool r)):=by unfold binOp;rfl
 have d:(a.kd==b.kd&&(a.s.t==b.s.t&&a.s.sr==b.s.sr&&a.s.wa==b.s.wa))=decide (a=b):=by
  obtain⟨k,⟨t,s,w⟩⟩:=a
  obtain⟨e,⟨g,f,w'⟩⟩:=b
  rw[Bool.eq_iff_iff,decide_eq_true_iff]
  simp[and_assoc]
 rw[c,Sem.run_bind,eqJ1,d]
 rfl
def Tsk.kd(x:Tsk):Int:=if x.rl then 1 else 2
def Tsk.key(x:Tsk):Jk:=⟨x.kd,x.s⟩
theorem keyOf_any(x:Tsk)(w:A):Calls prog 102 #[.iface x.jt (.agg #[I J x.s.t,I J x.s.sr,I J x.s.wa])] w fun e w'=>e=.returned (.agg #[I J x.kd,I J x.s.t,I J x.s.sr,I J x.s.wa])/\D w.1.size w w':=by
 obtain⟨rl,s,a,b,c⟩:=x
 cases rl with
 |true=>exact keyOf_Roll s w
 |false=>exact keyOf_Reclaim s w
theorem zcg(x:Lse)(a:Nat)(k:Int)(w:A)(b:w.cell? ⟨a,0,Q⟩=O (I J k))(c:a<w.1.size):Calls prog 95 #[.agg #[I J x.kd,I J x.s.t,I J x.s.sr,I J x.s.wa,I J x.slot,I J x.til],.pointer (O ⟨a,0,Q⟩)] w fun e w'=>e=.returned (.bool (x.slot==k))/\D w.1.size w w':=by
 go_enter func95,ntmps95
 go_wp2_with fail
 go_ret
 exact⟨rfl,(S _ _).alloc (E _) _⟩
theorem bsen:∀args w,(callFunc 95 args).run prog w=.ok (.enter 95 args) w:=enters_of func95 (by kernel_rfl) rfl
theorem zak{α:Type}(p:α->Bool)(xs:List α):(decide (0<((xs.filter p).length:Int)))=xs.any p:=by
 rw[Bool.eq_iff_iff,decide_eq_true_iff,List.any_eq_true]
 constructor
 ·intro h
  have c:0<(xs.filter p).length:=by omega
  obtain⟨a,b⟩:=List.exists_mem_of_length_pos c
  exact⟨a,(List.mem_filter.1 b).1,(List.mem_filter.1 b).2⟩
 ·rintro⟨a,b,d⟩
  have:=List.length_pos_of_mem (List.mem_filter.2 ⟨b,d⟩)
  omega
theorem zet{α:Type}(p:α->Bool){xs d:List α}(h:xs.Perm d):xs.any p=d.any p:=by
 rw[Bool.eq_iff_iff,List.any_eq_true,List.any_eq_true]
 constructor
 ·rintro⟨a,b,c⟩;exact⟨a,h.mem_iff.1 b,c⟩
 ·rintro⟨a,b,c⟩;exact⟨a,h.mem_iff.2 b,c⟩
theorem zbT{α β:Type}(p:β->Bool){ps L:List (α×β)}(h:ps.Perm L):(decide (0<(((ps.map (fun q:α×β=>q.2)).filter p).length:Int)))=L.any (fun q=>p q.2):=by
 rw[zak,<-zet (fun q:α×β=>p q.2) h]
 induction ps generalizing L with
 |nil=>rfl
 |cons a r b=>simp only[List.map_cons,List.any_cons];rw[b (L:=r) (List.Perm.refl _)]
theorem zeB{w:A}{b:Nat}{c:Cf}{tv:Value}{ep num:Int}{tb qb:Nat}{TL:List (Jk×Tsk)}{QL:List (Tok×Lse)}(h:zA w b c tv ep num tb qb TL QL)(slot:Int)(v:QL.length<=100000):
  Calls prog 47 #[.pointer (O ⟨b,0,Q⟩),I J slot] w fun e w'=>e=.returned (.bool (QL.any (fun p=>p.2.slot==slot)))/\D w.1.size w w':=by
 have l:=h.lt
 have i:=h.cell10
 have j:∀o,D w.1.size w (w.alloc o):=fun o=>(S _ _).alloc (E _) _
 obtain⟨g,q,a,r⟩:=box2 w (.cells #[I J slot] 3) (.cells #[.map (O qb)] 168)
 have u:=zd (zcE qb (w.alloc (.cells #[I J slot] 3)))
 have t:=zd (zcm 156 #[.pointer (O ⟨w.1.size+1,0,Q⟩)] zgg 95 #[] #[.pointer (O ⟨w.1.size,0,Q⟩)] bsen (fun x=>x.slot==slot) _
  (fun x W n=>zcg x w.1.size slot W (by rw[xD ((n.block _ (za g)).trans g)];rfl) (G (za g) n.size))
  (zgl (ex:=fun _=>False) (w.1.size+1) qb QL _ (fun e=>e) (by rw[r];omega) (by rw[xD q];rfl) (h.leases.later a)) (fun xs ⟨ps,f,e⟩=>by rw[e,List.length_map,f.length_eq];omega))
 have d:=zd a
 have m:=((j (.cells #[I J slot] 3)).cell (p:=⟨b,10,Q⟩) l).trans i
 clear h v g q a r
 go_enter func47,ntmps47
 go_wp2_with fail
 refine(ud u).mono ?_
 rintro e y ⟨rfl,rfl⟩
 go_wp2_with fail
 refine(ud t).mono ?_
 rintro e y ⟨xs,⟨ps,f,rfl⟩,rfl,k⟩
 have s:=zd (zbT (fun x:Lse=>x.slot==slot) f)
 clear f
 go_wp2_with fail
 go_ret
 exact⟨by rw[<-ud s];rfl,(ud d).trans (k.mono (ud d).size)⟩
theorem VZ(g:Lse)(f:Nat)(x:Tsk)(w:A)(m:w.1[f]?=O (.cells #[.iface x.jt (.agg #[I J x.s.t,I J x.s.sr,I J x.s.wa]),I J x.se,I J x.ti,I J x.rest] 177 (0,0))):Calls prog 159 #[.agg #[I J g.kd,I J g.s.t,I J g.s.sr,I J g.s.wa,I J g.slot,I J g.til],.pointer (O ⟨f,0,Q⟩)] w fun e w'=>e=.returned (.bool (decide ((⟨g.kd,g.s⟩:Jk)=x.key)))/\D w.1.size w w':=by
 have K:=za m
 obtain⟨B,-⟩:=zc m
 have F:=fun W=>zd (keyOf_any x W)
 have a:D w.1.size w (w.alloc (.cells #[I J g.kd,I J g.s.t,I J g.s.sr,I J g.s.wa,I J g.slot,I J g.til] 164)):=(S _ _).alloc (E _) _
 have v:=zm w (.cells #[I J g.kd,I J g.s.t,I J g.s.sr,I J g.s.wa,I J g.slot,I J g.til] 164)
 have y:=zL w (.cells #[I J g.kd,I J g.s.t,I J g.s.sr,I J g.s.wa,I J g.slot,I J g.til] 164)
 have T:=(a.cell (p:=⟨f,0,Q⟩) K).trans B
 obtain⟨L,M,P,R,-⟩:=zc v
 have z:=fun W=>zgi ⟨g.kd,g.s⟩ x.key W
 obtain⟨d,n⟩:∃d,decide ((⟨g.kd,g.s⟩:Jk)=x.key)=d:=⟨_,rfl⟩
 rw[n]
 simp only[n]at z
 clear n
 dsimp only[Tsk.key]at z
 have i:=zd a
 have C:=zd y
 clear m v y a B
 go_enter func159,ntmps159
 go_wp2_with fail
 have U:w.1.size<w.1.size+1:=by omega
 have V:f<w.1.size+1:=by omega
 generalize(w.alloc (.cells #[I J g.kd,I J g.s.t,I J g.s.sr,I J g.s.wa,I J g.slot,I J g.til] 164))=X at*
 generalize H:w.1.size+1=N at*
 have r:Nonempty (zU N X):=zU.some _ _
 have q:=fun(u:zU N X) b o h=>u.cell b o h
 have c:N<=X.1.size:=by rw[ud C];exact E _
 have k:=zd c
 have j:Hid (w.1.size<=N):=by show w.1.size<=N;omega
 clear c H
 refine zv N (by kernel_rfl) (by kernel_rfl) ?_
 repeat(go_big_quiet_step (first
  |(go_at_call 102;exact Calls.later (ud k) (ud (F _)))))
 refine wpQuiet_nil ?_
 rintro⟨Y,l⟩
 clear q r
 dsimp only
 go_wp2_with fail
 go_ret
 exact⟨rfl,(ud i).trans (l.mono (ud j))⟩
theorem lsen:∀args w,(callFunc 159 args).run prog w=.ok (.enter 159 args) w:=enters_of func159 (by kernel_rfl) rfl
def kh(QL:List (Tok×Lse))(k:Jk):Bool:=QL.any (fun p=>decide ((⟨p.2.kd,p.2.s⟩:Jk)=k))
theorem zaN{w:A}{b:Nat}{c:Cf}{tv:Value}{ep num:Int}{tb qb:Nat}{TL:List (Jk×Tsk)}{QL:List (Tok×Lse)}(h:zA w b c tv ep num tb qb TL QL)(x:Tsk)(B:QL.length<=100000):
  Calls prog 99 #[.pointer (O ⟨b,0,Q⟩),.agg #[.iface x.jt (.agg #[I J x.s.t,I J x.s.sr,I J x.s.wa]),I J x.se,I J x.ti,I J x.rest]] w fun e w'=>e=.returned (.bool (kh QL x.key))/\D w.1.size w w':=by
 have l:=h.lt
 have i:=h.cell10
 have j:∀o,D w.1.size w (w.alloc o):=fun o=>(S _ _).alloc (E _) _
 obtain⟨m,q,a,r⟩:=box2 w (.cells #[.iface x.jt (.agg #[I J x.s.t,I J x.s.sr,I J x.s.wa]),I J x.se,I J x.ti,I J x.rest] 177) (.cells #[.map (O qb)] 168)
 have y:=zd (zcE qb (w.alloc (.cells #[.iface x.jt (.agg #[I J x.s.t,I J x.s.sr,I J x.s.wa]),I J x.se,I J x.ti,I J x.rest] 177)))
 have v:=zd (zcm 156 #[.pointer (O ⟨w.1.size+1,0,Q⟩)] zgg 159 #[] #[.pointer (O ⟨w.1.size,0,Q⟩)] lsen (fun g=>decide ((⟨g.kd,g.s⟩:Jk)=x.key)) _
  (fun g W z=>VZ g w.1.size x W ((z.block _ (za m)).trans m))
  (zgl (ex:=fun _=>False) (w.1.size+1) qb QL _ (fun e=>e) (by rw[r];omega) (by rw[xD q];rfl) (h.leases.later a)) (fun xs ⟨ps,f,e⟩=>by rw[e,List.length_map,f.length_eq];omega))
 have d:=zd a
 have n:=((j (.cells #[.iface x.jt (.agg #[I J x.s.t,I J x.s.sr,I J x.s.wa]),I J x.se,I J x.ti,I J x.rest] 177)).cell (p:=⟨b,10,Q⟩) l).trans i
 clear h B m q a r
 go_enter func99,ntmps99
 go_wp2_with fail
 refine(ud y).mono ?_
 rintro e C ⟨rfl,rfl⟩
 go_wp2_with fail
 refine(ud v).mono ?_
 rintro e C ⟨xs,⟨ps,f,rfl⟩,rfl,k⟩
 have u:=zd (zbT (fun g:Lse=>decide ((⟨g.kd,g.s⟩:Jk)=x.key)) f)
 clear f
 go_wp2_with fail
 go_ret
 refine⟨?_,(ud d).trans (k.mono (ud d).size)⟩
 unfold kh
 rw[<-ud u];rfl
structure MS where
 now:Int
 L:LV
 Gl:List (Sg×Unit)
 num:Int
 TL:List (Jk×Tsk)
 QL:List (Tok×Lse)
def Lse.job(g:Lse):Jk:=⟨g.kd,g.s⟩
def Cf.clo(c:Cf)(now:Int)(s:Sg):Prop:=(s.wa+1)*c.wt s.t<=now-c.la
def Cf.b(c:Cf):Nat:=((List.range c.n).find? (fun j:Nat=>decide (c.F j= -1))).getD 0
theorem Cf.b_of{c:Cf}(h:∃j:Nat,j<c.n/\c.F j= -1):c.b<c.n/\c.F c.b= -1:=by
 obtain⟨j,f,e⟩:=h
 unfold Cf.b
 cases a:(List.range c.n).find? (fun j:Nat=>decide (c.F j= -1))with
 |none=>exact absurd (decide_eq_true e) (List.find?_eq_none.1 a j (List.mem_range.2 f))
 |some i=>
  have d:=List.find?_some a
  exact⟨List.mem_range.1 (List.mem_of_find?_eq_some a),of_decide_eq_true d⟩
structure Cf.fits(c:Cf):Prop where
 bn:c.b<c.n
 from0:c.F c.b= -1
 div0:∃q:Int,1<=q/\c.W c.b=c.wi*q
 down:∀i:Nat,i<c.n-> -1<=c.F i/\c.F i<c.n
 quot:∀i:Nat,i<c.n->∃q:Int,1<=q/\c.W i=c.wt (c.F i)*q
 dn:∀i:Nat,i<c.n->Go.Proofs.YtndhpgciopcncaaGreatDoor.down c.F c.n (i:Int)=true
theorem Cf.clo_mono{c:Cf}{a b:Int}(h:a<=b){s:Sg}(d:c.clo a s):c.clo b s:=by unfold Cf.clo at*;omega
structure zbN(c:Cf)(now:Int)(L:LV)(p:Jk×Tsk):Prop where
 key:p.1=p.2.key
 mem:p.2.s∈zr L
 clo:c.clo now p.2.s
 roll:p.2.rl=true->(stL L p.2.s).st=2
 recl:p.2.rl=false->(stL L p.2.s).st≠2
 se:0<=p.2.se/\p.2.se<=now
 ti:0<=p.2.ti/\p.2.ti<=p.2.rest/\p.2.rest<=now+32
structure zgw(c:Cf)(ep now num:Int)(TL:List (Jk×Tsk))(q:Tok×Lse):Prop where
 job:∃x,zQ TL q.2.job=O x/\x.rest<=now
 ep:q.1.ep=ep
 num:1<=q.1.num/\q.1.num<=num
 til:now<q.2.til/\q.2.til<=now+c.le
structure ym(c:Cf)(now:Int)(L:LV)(Gl:List (Sg×Unit)):Prop where
 inr:∀p∈L,inR c p.1
 nl:(zr L).Nodup
 raw:∀p∈L,p.1.t= -1->p.2.st=1/\1<=p.2.cl.cnt/\ -(p.2.cl.cnt*2147483648)<=p.2.cl.sum/\p.2.cl.sum<=p.2.cl.cnt*2147483648
 tier:∀p∈L,0<=p.1.t->p.2.st=2\/p.2.st=3
 disj:∀p∈L,p.1∉zy Gl
 ng:(zy Gl).Nodup
 pubc:∀p∈L,p.2.st=3->c.clo now p.1
 goc:∀k∈zy Gl,c.clo now k
 above:∀p∈L,p.1.t= -1->(⟨(c.b:Int),p.1.sr,p.1.wa*c.wi/c.W c.b⟩:Sg)∈zr L\/(⟨(c.b:Int),p.1.sr,p.1.wa*c.wi/c.W c.b⟩:Sg)∈zy Gl
 used:zp L<=c.qu
structure MOk(c:Cf)(ep:Int)(m:MS):Prop where
 now:0<=m.now/\m.now<=100000
 seg:ym c m.now m.L m.Gl
 td:∀p∈m.TL,zbN c m.now m.L p
 nt:(zy m.TL).Nodup
 leas:∀q∈m.QL,zgw c ep m.now m.num m.TL q
 nq:(zy m.QL).Nodup
 jobs:(m.QL.map (fun q=>q.2.job)).Nodup
 num:0<=m.num
section
variable {c:Cf} {now:Int} {L:LV} {Gl:List (Sg×Unit)}
theorem ym.use{now:Int}(h:ym c now L Gl):∀p∈L,1<=qO p.2:=fun p a=>by
 have e:=h.inr p a
 by_cases f:p.1.t= -1
 ·obtain⟨b,d,_⟩:=h.raw p a f
  unfold qO;rw[if_pos b];exact d
 ·have:=h.tier p a (by have:=e.2.1;omega)
  unfold qO;rw[if_neg (by omega)];omega
theorem zdM:∀(l:List Int),(∀x∈l,1<=x)->(l.length:Int)<=qr l
 |[],_=>by simp[qr]
 |a::l,h=>by
  have c:=h a (by simp)
  have d:=zdM l (fun x b=>h x (by simp[b]))
  simp only[qr,List.length_cons];omega
theorem zag:∀(l:List Int) (a:Int),(∀x∈l,0<=x)->a∈l->a<=qr l
 |[],_,_,h=>by simp at h
 |b::l,a,h,d=>by
  have e:=h b (by simp)
  have i:0<=qr l:=by
   clear d e
   induction l with
   |nil=>simp[qr]
   |cons x l g=>
    have:=h x (by simp)
    have:=g (fun y c=>h y (by simp at c ⊢;rcases c with c|c<;>simp[c]))
    simp only[qr];omega
  rcases List.mem_cons.1 d with rfl|d
  ·simp only[qr];omega
  ·have:=zag l a (fun x f=>h x (by simp[f])) d
   simp only[qr];omega
theorem ym.len(h:ym c now L Gl):(L.length:Int)<=zp L:=by
 have:=zdM (L.map (fun p=>qO p.2)) (fun x b=>by obtain⟨p,a,rfl⟩:=List.mem_map.1 b;exact h.use p a)
 simpa[zp]using this
theorem ym.len400(h:ym c now L Gl)(a:c.ok):L.length<=400:=by
 have b:=h.len;have d:=h.used;have e:=a.qu;omega
theorem ym.cnt(h:ym c now L Gl)(d:c.ok):∀p∈L,p.1.t= -1->p.2.cl.cnt<=400:=fun p a f=>by
 obtain⟨b,i,_⟩:=h.raw p a f
 have j:qO p.2<=zp L:=zag _ _ (fun x g=>by obtain⟨q,e,rfl⟩:=List.mem_map.1 g;have:=h.use q e;omega) (List.mem_map.2 ⟨p,a,rfl⟩)
 have k:qO p.2=p.2.cl.cnt:=by unfold qO;rw[if_pos b]
 have l:=h.used;have m:=d.qu;omega
theorem ym.u0(h:ym c now L Gl)(a:c.ok):0<=zp L/\zp L<=400:=by
 have b:=h.len;have d:=h.used;have e:=a.qu;omega
theorem ym.st(h:ym c now L Gl):∀p∈L,p.2.st≠0:=fun p a=>by
 have b:=h.inr p a
 by_cases d:p.1.t= -1
 ·obtain⟨e,_⟩:=h.raw p a d;omega
 ·have:=h.tier p a (by have:=b.2.1;omega);omega
end
theorem j4{α:Type}[DecidableEq α]:∀(l m:List α),l.Nodup->(∀x∈l,x∈m)->l.length<=m.length
 |[],_,_,_=>by simp
 |a::l,m,hn,c=>by
  have b:=c a (by simp)
  obtain⟨f,g⟩:=List.nodup_cons.1 hn
  have:=j4 l (m.erase a) g (fun x d=>(List.mem_erase_of_ne (fun e=>f (by rw[<-e];exact d))).2 (c x (by simp[d])))
  rw[List.length_erase_of_mem b]at this
  have h:0<m.length:=List.length_pos_of_mem b
  simp only[List.length_cons];omega
section
variable {c:Cf} {ep:Int} {m:MS}
theorem MOk.tlen(h:MOk c ep m):m.TL.length<=2*m.L.length:=by
 have d:=j4 (zy m.TL) ((zr m.L).map (fun s=>(⟨1,s⟩:Jk))++(zr m.L).map (fun s=>(⟨2,s⟩:Jk))) h.nt (fun k e=>by
  obtain⟨p,f,rfl⟩:=List.mem_map.1 (show k∈m.TL.map (·.1)from e)
  have a:=h.td p f
  rw[a.key]
  cases b:p.2.rl with
  |true=>exact List.mem_append_left _ (List.mem_map.2 ⟨p.2.s,a.mem,by simp[Tsk.key,Tsk.kd,b]⟩)
  |false=>exact List.mem_append_right _ (List.mem_map.2 ⟨p.2.s,a.mem,by simp[Tsk.key,Tsk.kd,b]⟩))
 simp[zy,zr]at d
 omega
theorem MOk.qlen(h:MOk c ep m):m.QL.length<=m.TL.length:=by
 have a:=j4 (m.QL.map (fun q=>q.2.job)) (zy m.TL) h.jobs (fun k b=>by
  obtain⟨q,d,rfl⟩:=List.mem_map.1 b
  obtain⟨x,e,_⟩:=(h.leas q d).job
  exact List.mem_map.2 ⟨_,zO e,rfl⟩)
 simpa[zy]using a
theorem MOk.t800(h:MOk c ep m)(a:c.ok):m.TL.length<=800:=by have:=h.tlen;have:=h.seg.len400 a;omega
theorem MOk.q800(h:MOk c ep m)(a:c.ok):m.QL.length<=800:=by have:=h.t800 a;have:=h.qlen;omega
theorem MOk.mem_inR(h:MOk c ep m){s:Sg}(b:s∈zr m.L):inR c s:=by
 obtain⟨p,a,rfl⟩:=List.mem_map.1 (show s∈m.L.map (·.1)from b)
 exact h.seg.inr p a
theorem MOk.wfk(h:MOk c ep m):∀p∈m.TL,p.1.wf:=fun p b=>by
 have a:=h.td p b
 rw[a.key]
 refine⟨?_,(h.mem_inR a.mem).1⟩
 unfold Tsk.key Tsk.kd xh
 dsimp only
 split<;>omega
theorem MOk.binv(h:MOk c ep m)(b:c.ok):zgb 1000000 100000 m.TL m.QL:=by
 have e:=h.q800 b
 have hn:=h.now
 refine⟨fun p a=>?_,fun p a=>?_,h.wfk,by have:=h.t800 b;omega,h.nt,h.nq⟩
 ·obtain⟨x,d,_⟩:=(h.leas p a).job;exact⟨x,d⟩
 ·have:=(h.td p a).ti;omega
end
theorem zcB{L:LV}(hn:(zr L).Nodup)(s k:Sg)(v:SV):yy (qT L s v) k=if k=s then O v else yy L k:=vi (L:=L) hn s v k
theorem zdG{L:LV}(hn:(zr L).Nodup)(s k:Sg)(v:SV):stL (qT L s v) k=if k=s then v else stL L k:=by
 unfold stL;rw[zcB hn];split<;>rfl
theorem zjl{L:LV}(hn:(zr L).Nodup){p:Sg×SV}(a:p∈L):stL L p.1=p.2:=by
 unfold stL;rw[show yy L p.1=O p.2 from qB (L:=L) hn a];rfl
theorem xu{L:LV}{s:Sg}(b:s∈zr L):(s,stL L s)∈L:=by
 obtain⟨v,hv,a⟩:=Yf b
 unfold stL;rw[hv];exact a
theorem Ye{c:Cf}{ep:Int}{now n':Int}{L:LV}{num:Int}{TL:List (Jk×Tsk)}{QL:List (Tok×Lse)}(u:now<=n')
  (ht:∀p∈TL,zbN c now L p) (nt:(zy TL).Nodup) (Z:∀q∈QL,zgw c ep now num TL q) (nq:(zy QL).Nodup) (jobs:(QL.map (fun q=>q.2.job)).Nodup)
  {m:List (Jk×Tsk)} {Q1:List (Tok×Lse)} (h:YV n' TL QL m Q1):
  (∀p∈m,zbN c n' L p)/\(zy m).Nodup/\(zy Q1).Nodup/\(Q1.map (fun q=>q.2.job)).Nodup/\(∀q∈Q1,q∈QL)/\(∀q∈QL,n'<q.2.til->q∈Q1)/\(∀q∈Q1,∃x,zQ m q.2.job=O x/\x.rest<=now)/\(∀k,k∈zy m↔k∈zy TL):=by
 induction h with
 |nil=>
  refine⟨fun p v=>?_,nt,nq,jobs,fun q h=>h,fun q h _=>h,fun q h=>(Z q h).job,fun k=>Iff.rfl⟩
  have:=ht p v
  exact⟨this.key,this.mem,Cf.clo_mono u this.clo,this.roll,this.recl,⟨this.se.1,by have:=this.se;omega⟩,by have:=this.ti;omega⟩
 | @step m Q1 t g x _ P Y U ih=>
  obtain⟨i1,i2,i3,i4,i5,V,W,X⟩:=ih
  have n:=zO P
  have z:=zO U
  have r:∀q∈xe Q1 t,q.2.job≠g.job:=fun q d e=>by
   obtain⟨H,K⟩:=xc.1 d
   have w:Q1.Pairwise (fun a b=>a.2.job≠b.2.job):=List.pairwise_map.1 i4
   obtain⟨i,R,F⟩:=List.getElem_of_mem H
   obtain⟨j,T,B⟩:=List.getElem_of_mem n
   rcases Nat.lt_trichotomy i j with o|o|o
   ·have:=List.pairwise_iff_getElem.1 w i j R T o;rw[F,B]at this;exact this e
   ·subst o;rw[F]at B;exact K (by rw[B])
   ·have:=List.pairwise_iff_getElem.1 w j i T R o;rw[F,B]at this;exact this e.symm
  have a0:x.rest<=now:=by
   obtain⟨y,N,M⟩:=W _ n
   have:y=x:=by have:=N.symm.trans U;injection this
   rw[<-this];exact M
  refine⟨fun p v=>?_,qG i2,qo i3,?_,fun q d=>i5 q (xc.1 d).1,fun q d l=>?_,fun q d=>?_,fun k=>?_⟩
  ·rcases qs v with rfl|⟨v,_⟩
   ·have f:=i1 _ z
    have hb:=jP (x.ti+1).toNat
    exact⟨f.key,f.mem,f.clo,f.roll,f.recl,f.se,by have:=f.ti;simp only[Tsk.failed]at*;omega⟩
   ·exact i1 p v
  ·unfold xe
   exact i4.sublist (List.Sublist.map _ (List.filter_sublist))
  ·refine xc.2 ⟨V q d l,fun e=>?_⟩
   have C:=qB i3 (V q d l)
   rw[e,P]at C;injection C with C;rw[<-C]at l;omega
  ·obtain⟨y,N,M⟩:=W q (xc.1 d).1
   refine⟨y,?_,M⟩
   rw[vi i2,if_neg (show¬q.2.job=⟨g.kd,g.s⟩from r q d)];exact N
  ·rw[xw,X k]
   constructor
   ·rintro(h|rfl)
    ·exact h
    ·exact(X _).1 (List.mem_map.2 ⟨_,z,rfl⟩)
   ·exact .inl
theorem MOk.exps{c:Cf}{ep:Int}{m:MS}(h:MOk c ep m){n':Int}(hn:m.now<=n'/\n'<=100000){e:List (Jk×Tsk)}{b:List (Tok×Lse)}(i:YV n' m.TL m.QL e b)(n:∀p∈b,n'<p.2.til):
  MOk c ep {m with now:=n',TL:=e,QL:=b}:=by
 obtain⟨i1,i2,i3,i4,i5,t,r,u⟩:=Ye hn.1 h.td h.nt h.leas h.nq h.jobs i
 have a:=h.seg
 refine⟨⟨by have:=h.now;show 0<=n';omega,hn.2⟩,⟨a.inr,a.nl,a.raw,a.tier,a.disj,a.ng,fun p l g=>Cf.clo_mono hn.1 (a.pubc p l g),fun k j=>Cf.clo_mono hn.1 (a.goc k j),a.above,a.used⟩,i1,i2,fun q d=>?_,i3,i4,h.num⟩
 have f:=h.leas q (i5 q d)
 obtain⟨x,o,s⟩:=r q d
 exact⟨⟨x,o,by show x.rest<=n';omega⟩,f.ep,f.num,n q d,by have:=f.til;show q.2.til<=n'+c.le;omega⟩
theorem zeM(c:Cf)(l:c.ok)(a:Option Addr)(cap:Nat)(s:Sg)(j: -1<=s.t)(k:s.t<c.n)(h:0<=s.wa/\s.wa<=100000)(w:A)(g:TS w a c.n c.F c.W c.K):
  Calls prog 333 #[.agg #[I J s.t,I J s.sr,I J s.wa],.agg #[I J c.s,I J c.le,I J c.la,I J c.wi,I J c.ke,I J c.qu,.slice a c.n cap]] w fun e w'=>e=.returned (I J ((s.wa+1)*c.wt s.t))/\D w.1.size w w':=by
 obtain⟨o,p,f,r⟩:=box2 w (.cells #[I J s.t,I J s.sr,I J s.wa] 195) (.cells #[I J c.s,I J c.le,I J c.la,I J c.wi,I J c.ke,I J c.qu,.slice a c.n cap] 89)
 have m:=fun W q=>zd (Yo c l a cap s.t s.wa j k h W (g.below (w':=W) q))
 have b:=zd f
 clear g l h f o p
 go_enter func333,ntmps333
 go_wp2_with(first|(go_at_call 180;refine(ud (m _ (ud b))).mono ?_;rintro e u ⟨rfl,d⟩;have i:=zd d;clear d))
 go_ret
 exact⟨rfl,(ud b).trans ((ud i).mono (ud b).size)⟩
theorem VQ(c:Cf)(l:c.ok)(a:Option Addr)(cap:Nat)(s:Sg)(j: -1<=s.t)(k:s.t<c.n)(h:0<=s.wa/\s.wa<=100000)(w:A)(g:TS w a c.n c.F c.W c.K):
  Calls prog 336 #[.agg #[I J s.t,I J s.sr,I J s.wa],.agg #[I J c.s,I J c.le,I J c.la,I J c.wi,I J c.ke,I J c.qu,.slice a c.n cap]] w fun e w'=>e=.returned (I J ((s.wa+1)*c.wt s.t+c.keep s.t))/\D w.1.size w w':=by
 obtain⟨o,p,f,r⟩:=box2 w (.cells #[I J s.t,I J s.sr,I J s.wa] 197) (.cells #[I J c.s,I J c.le,I J c.la,I J c.wi,I J c.ke,I J c.qu,.slice a c.n cap] 89)
 have m:=fun W q=>zd (KH c l a cap s.t s.wa j k h W (g.below (w':=W) q))
 have b:=zd f
 clear g l h f o p
 go_enter func336,ntmps336
 go_wp2_with(first|(go_at_call 177;refine(ud (m _ (ud b))).mono ?_;rintro e u ⟨rfl,d⟩;have i:=zd d;clear d))
 go_ret
 exact⟨rfl,(ud b).trans ((ud i).mono (ud b).size)⟩
theorem zbf{w:A}{b:Nat}{c:Cf}{a:Option Addr}{cap:Nat}{ep num:Int}{tb qb:Nat}{TL:List (Jk×Tsk)}{QL:List (Tok×Lse)}(h:zA w b c (.slice a c.n cap) ep num tb qb TL QL)(x:c.ok)(q:TS w a c.n c.F c.W c.K)(s:Sg)(se ti rest now:Int)(f: -1<=s.t)(g:s.t<c.n)(r:0<=s.wa/\s.wa<=100000)(U:0<=now/\now<=100000)(a4:0<=se/\se<=now)
  (i j:Nat) (l1:i<w.1.size) (l2:j<w.1.size) (R:w.cell? ⟨i,0,Q⟩=O (.pointer (O ⟨b,0,Q⟩))) (T:w.cell? ⟨j,0,Q⟩=O (I J now)):
  Calls prog 160 #[.agg #[.iface 195 (.agg #[I J s.t,I J s.sr,I J s.wa]),I J se,I J ti,I J rest],.pointer (O ⟨i,0,Q⟩),.pointer (O ⟨j,0,Q⟩)] w fun e w'=>e=.returned (I J ((s.wa+1)*c.wt s.t-(now-se)/4))/\D w.1.size w w':=by
 have a0:=h.lt
 have d:D w.1.size w (w.alloc (.cells #[.iface 195 (.agg #[I J s.t,I J s.sr,I J s.wa]),I J se,I J ti,I J rest] 177)):=(S _ _).alloc (E _) _
 have M:=zm w (.cells #[.iface 195 (.agg #[I J s.t,I J s.sr,I J s.wa]),I J se,I J ti,I J rest] 177)
 have P:=zL w (.cells #[.iface 195 (.agg #[I J s.t,I J s.sr,I J s.wa]),I J se,I J ti,I J rest] 177)
 have L:=fun W hW=>zd (zeM c x a cap s f g r W (q.below (w':=W) hW))
 have hm:=Yt s
 have hR:0<=(s.wa+1)*c.wt s.t/\(s.wa+1)*c.wt s.t<=1000000000:=by
  obtain⟨a5,H⟩:=x.wt f g
  obtain⟨a1,a2⟩:=x.keeps f g
  have h1:=Int.mul_nonneg (show 0<=s.wa+1 by omega) (show 0<=c.wt s.t by omega)
  have h2:=Int.mul_le_mul (show s.wa+1<=100001 by omega) H (by omega) (by omega)
  omega
 obtain⟨v,hv⟩:∃v,(s.wa+1)*c.wt s.t=v:=⟨_,rfl⟩
 simp only[hv]at L hR ⊢
 have hq:Int.tdiv (now-se) 4=(now-se)/4:=Int.tdiv_eq_ediv_of_nonneg (by omega)
 have a3:0<=(now-se)/4/\(now-se)/4<=100000:=by omega
 have V:=((h.later d)).head
 obtain⟨k0,k1,-⟩:=zc M
 have m1:=(d.cell (p:=⟨i,0,Q⟩) l1).trans R
 have m2:=(d.cell (p:=⟨j,0,Q⟩) l2).trans T
 obtain⟨y0,y1,y2,y3,y4,y5,y6,-⟩:=zc V
 have k:=zd d
 have Y:=zd P
 have Z:=zd hq
 clear h q x r R T V M P d hv
 go_enter func160,ntmps160
 go_wp2_with fail
 have q1:w.1.size<w.1.size+1:=by omega
 have q2:i<w.1.size+1:=by omega
 have q3:j<w.1.size+1:=by omega
 have q4:b<w.1.size+1:=by omega
 generalize(w.alloc (.cells #[.iface 195 (.agg #[I J s.t,I J s.sr,I J s.wa]),I J se,I J ti,I J rest] 177))=X at*
 generalize hN:w.1.size+1=N at*
 have C:Nonempty (zU N X):=zU.some _ _
 have B:=fun(u:zU N X) b o h=>u.cell b o h
 have m:N<=X.1.size:=by rw[ud Y];exact E _
 have y:=zd m
 have l:Hid (w.1.size<=N):=by show w.1.size<=N;omega
 clear m hN
 refine zv N (by kernel_rfl) (by kernel_rfl) ?_
 repeat(go_big_quiet_step (first
  |(go_at_call 333;exact Calls.later (ud y) (ud (L _ ((ud k).trans (Below.mono (Subtype.property _) (ud l))))))))
 refine wpQuiet_nil ?_
 rintro⟨w1,z⟩
 clear B C
 dsimp only
 go_wp2_with fail
 go_ret
 exact⟨by first|rfl|rw[ud Z],(ud k).trans (z.mono (ud l))⟩
theorem YB{w:A}{b:Nat}{c:Cf}{a:Option Addr}{cap:Nat}{ep num:Int}{tb qb:Nat}{TL:List (Jk×Tsk)}{QL:List (Tok×Lse)}(h:zA w b c (.slice a c.n cap) ep num tb qb TL QL)(x:c.ok)(q:TS w a c.n c.F c.W c.K)(s:Sg)(se ti rest now:Int)(f: -1<=s.t)(g:s.t<c.n)(r:0<=s.wa/\s.wa<=100000)(U:0<=now/\now<=100000)(a4:0<=se/\se<=now)
  (i j:Nat) (l1:i<w.1.size) (l2:j<w.1.size) (R:w.cell? ⟨i,0,Q⟩=O (.pointer (O ⟨b,0,Q⟩))) (T:w.cell? ⟨j,0,Q⟩=O (I J now)):
  Calls prog 160 #[.agg #[.iface 197 (.agg #[I J s.t,I J s.sr,I J s.wa]),I J se,I J ti,I J rest],.pointer (O ⟨i,0,Q⟩),.pointer (O ⟨j,0,Q⟩)] w fun e w'=>e=.returned (I J ((s.wa+1)*c.wt s.t+c.keep s.t-(now-se)/4))/\D w.1.size w w':=by
 have a0:=h.lt
 have d:D w.1.size w (w.alloc (.cells #[.iface 197 (.agg #[I J s.t,I J s.sr,I J s.wa]),I J se,I J ti,I J rest] 177)):=(S _ _).alloc (E _) _
 have M:=zm w (.cells #[.iface 197 (.agg #[I J s.t,I J s.sr,I J s.wa]),I J se,I J ti,I J rest] 177)
 have P:=zL w (.cells #[.iface 197 (.agg #[I J s.t,I J s.sr,I J s.wa]),I J se,I J ti,I J rest] 177)
 have L:=fun W hW=>zd (VQ c x a cap s f g r W (q.below (w':=W) hW))
 have hm:=ZU s
 have hR:0<=(s.wa+1)*c.wt s.t+c.keep s.t/\(s.wa+1)*c.wt s.t+c.keep s.t<=1000000000:=by
  obtain⟨a5,H⟩:=x.wt f g
  obtain⟨a1,a2⟩:=x.keeps f g
  have h1:=Int.mul_nonneg (show 0<=s.wa+1 by omega) (show 0<=c.wt s.t by omega)
  have h2:=Int.mul_le_mul (show s.wa+1<=100001 by omega) H (by omega) (by omega)
  omega
 obtain⟨v,hv⟩:∃v,(s.wa+1)*c.wt s.t+c.keep s.t=v:=⟨_,rfl⟩
 simp only[hv]at L hR ⊢
 have hq:Int.tdiv (now-se) 4=(now-se)/4:=Int.tdiv_eq_ediv_of_nonneg (by omega)
 have a3:0<=(now-se)/4/\(now-se)/4<=100000:=by omega
 have V:=((h.later d)).head
 obtain⟨k0,k1,-⟩:=zc M
 have m1:=(d.cell (p:=⟨i,0,Q⟩) l1).trans R
 have m2:=(d.cell (p:=⟨j,0,Q⟩) l2).trans T
 obtain⟨y0,y1,y2,y3,y4,y5,y6,-⟩:=zc V
 have k:=zd d
 have Y:=zd P
 have Z:=zd hq
 clear h q x r R T V M P d hv
 go_enter func160,ntmps160
 go_wp2_with fail
 have q1:w.1.size<w.1.size+1:=by omega
 have q2:i<w.1.size+1:=by omega
 have q3:j<w.1.size+1:=by omega
 have q4:b<w.1.size+1:=by omega
 generalize(w.alloc (.cells #[.iface 197 (.agg #[I J s.t,I J s.sr,I J s.wa]),I J se,I J ti,I J rest] 177))=X at*
 generalize hN:w.1.size+1=N at*
 have C:Nonempty (zU N X):=zU.some _ _
 have B:=fun(u:zU N X) b o h=>u.cell b o h
 have m:N<=X.1.size:=by rw[ud Y];exact E _
 have y:=zd m
 have l:Hid (w.1.size<=N):=by show w.1.size<=N;omega
 clear m hN
 refine zv N (by kernel_rfl) (by kernel_rfl) ?_
 repeat(go_big_quiet_step (first
  |(go_at_call 336;exact Calls.later (ud y) (ud (L _ ((ud k).trans (Below.mono (Subtype.property _) (ud l))))))))
 refine wpQuiet_nil ?_
 rintro⟨w1,z⟩
 clear B C
 dsimp only
 go_wp2_with fail
 go_ret
 exact⟨by first|rfl|rw[ud Z],(ud k).trans (z.mono (ud l))⟩
theorem Zd{c:Cf}(h:xU c.s c.le c.la c.wi c.ke c.qu c.n c.F c.W c.K=true):c.ok:=by
 unfold xU at h
 simp only[Bool.and_eq_true,kH,vX]at h
 obtain⟨⟨⟨⟨⟨⟨⟨⟨d,e⟩,f⟩,g⟩,j⟩,k⟩,m⟩,l⟩,o⟩:=h
 have b:∀i,i<c.n->(-1<=c.F i/\c.F i<=(c.n:Int)-1)/\(1<=c.W i/\c.W i<=1000)/\(0<=c.K i/\c.K i<=1000):=fun i a=>by
  have:=l i a
  unfold vU at this
  simp only[Bool.and_eq_true,kH]at this
  exact⟨this.1.1,this.1.2,this.2⟩
 exact⟨by omega,by omega,g.1,by omega,fun i a=>(b i a).2.1,fun i a=>by have:=(b i a).1;omega,fun i a=>(b i a).2.2,j,f,k,d,e⟩
structure kD(wi:Int)(k:Nat)(F W K:Nat->Int):Prop where
 tF:∀i,i<k-> -1<=F i/\F i<i
 tW:∀i,i<k->1<=W i/\W i<=1000
 tQ:∀i,i<k->∃q:Int,1<=q/\W i=zT wi W (F i)*q
 tK:∀i,i<k->0<=K i/\K i<=1000
def QY(F:Nat->Int)(k:Nat)(v:Int):Nat->Int:=fun j=>if j=k then v else F j
theorem ZE(F:Nat->Int)(k:Nat)(v:Int):QY F k v k=v:=by simp[QY]
theorem jV(F:Nat->Int){k j:Nat}(v:Int)(h:j≠k):QY F k v j=F j:=by simp[QY,h]
theorem Qf{wi:Int}{W:Nat->Int}{k:Nat}{v f:Int}(a: -1<=f)(b:f<k):zT wi (QY W k v) f=zT wi W f:=by
 unfold zT
 split
 ·rfl
 ·rw[jV];omega
theorem kD.none(wi:Int)(F W K:Nat->Int):kD wi 0 F W K:=⟨fun i h=>by omega,fun i h=>by omega,fun i h=>by omega,fun i h=>by omega⟩
theorem kD.more{wi:Int}{k:Nat}{F W K:Nat->Int}(h:kD wi k F W K){f q p:Int}(b: -1<=f)(c:f<k)(d:1<=q)(g:1<=zT wi W f*q)(j:zT wi W f*q<=1000)(l:0<=p/\p<=1000):
  kD wi (k+1) (QY F k f) (QY W k (zT wi W f*q)) (QY K k p):=by
 refine⟨fun i a=>?_,fun i a=>?_,fun i a=>?_,fun i a=>?_⟩
 ·by_cases e:i=k
  ·subst e;rw[ZE];exact⟨b,c⟩
  ·rw[jV _ _ e];exact h.tF i (by omega)
 ·by_cases e:i=k
  ·subst e;rw[ZE];exact⟨g,j⟩
  ·rw[jV _ _ e];exact h.tW i (by omega)
 ·by_cases e:i=k
  ·subst e;rw[ZE,ZE,Qf b c];exact⟨q,d,rfl⟩
  ·have m:=h.tF i (by omega)
   rw[jV _ _ e,jV _ _ e,Qf m.1 (by omega)];exact h.tQ i (by omega)
 ·by_cases e:i=k
  ·subst e;rw[ZE];exact l
  ·rw[jV _ _ e];exact h.tK i (by omega)
theorem kD.wt{wi:Int}{k:Nat}{F W K:Nat->Int}(h:kD wi k F W K)(a:1<=wi/\wi<=1000){f:Int}(b: -1<=f)(c:f<k):1<=zT wi W f/\zT wi W f<=1000:=by
 unfold zT
 split
 ·exact a
 ·exact h.tW _ (by omega)
theorem VP{F:Nat->Int}{n:Nat}(h:∀i,i<n-> -1<=F i/\F i<i):∀(k:Nat) (t:Int),0<=t->t<n->t<k->down F k t=true
 |0,t,a,b,c=>by omega
 |k+1,t,a,b,c=>by
  rw[down]
  have d:=h t.toNat (by omega)
  by_cases e:F t.toNat= -1
  ·simp[e]
  ·rw[VP h k (F t.toNat) (by omega) (by omega) (by omega)];simp
theorem YF{c:Cf}(p:1<=c.s/\c.s<=4)(f:1<=c.le/\c.le<=100)(e:0<=c.la/\c.la<=100)(k:1<=c.wi/\c.wi<=50)(d:0<=c.ke/\c.ke<=1000)(j:1<=c.qu/\c.qu<=400)(hn:1<=c.n/\c.n<=4)(h:kD c.wi c.n c.F c.W c.K):
  xU c.s c.le c.la c.wi c.ke c.qu c.n c.F c.W c.K=true/\c.fits:=by
 constructor
 ·unfold xU
  simp only[Bool.and_eq_true,kH,vX]
  refine⟨⟨⟨⟨⟨⟨⟨⟨p,f⟩,e⟩,k⟩,d⟩,j⟩,by omega⟩,fun i a=>?_⟩,fun i a=>?_⟩
  ·unfold vU
   simp only[Bool.and_eq_true,kH]
   have:=h.tF i a
   exact⟨⟨by omega,h.tW i a⟩,h.tK i a⟩
  ·unfold zbH
   simp only[Bool.and_eq_true,beq_iff_eq]
   obtain⟨q,_,g⟩:=h.tQ i a
   exact⟨by rw[g];exact Int.mul_emod_right _ _,VP h.tF c.n i (by omega) (by omega) (by omega)⟩
 ·have r:=h.tF 0 (by omega)
  obtain⟨m,l⟩:=Cf.b_of (c:=c) ⟨0,by omega,by omega⟩
  obtain⟨q,o,g⟩:=h.tQ c.b m
  exact⟨m,l,⟨q,o,by rw[g,l];simp[zT]⟩,fun i a=>by have:=h.tF i a;omega,h.tQ,fun i a=>VP h.tF c.n i (by omega) (by omega) (by omega)⟩
theorem Q6(k:Nat)(F W K:Nat->Int)(f w p:Int):jn (k+1) (QY F k f) (QY W k w) (QY K k p)=jn k F W K++[I J f,I J w,I J p]:=by
 have e:(k+1)*3=k*3+1+1+1:=by omega
 unfold jn
 rw[e,List.range_succ,List.range_succ,List.range_succ]
 simp only[List.map_append,List.map_cons,List.map_nil,List.append_assoc]
 have g:(List.range (k*3)).map (vI (QY F k f) (QY W k w) (QY K k p))=(List.range (k*3)).map (vI F W K):=by
  apply List.map_congr_left
  intro j h
  have i:j<k*3:=by simpa using h
  unfold vI
  have a:j/3≠k:=by omega
  simp only[jV _ _ a]
 rw[g]
 have b:k*3/3=k:=by omega
 have c:(k*3+1)/3=k:=by omega
 have d:(k*3+1+1)/3=k:=by omega
 have l:k*3%3=0:=by omega
 have m1:(k*3+1)%3=1:=by omega
 have m2:(k*3+1+1)%3=2:=by omega
 unfold vI
 simp[b,c,d,l,m1,m2,ZE]
def yr(now:Int)(TL:List (Jk×Tsk))(s:Sg):List (Jk×Tsk):=match zQ TL ⟨1,s⟩with|some _=>TL|none=>qq TL ⟨1,s⟩ ⟨true,s,now,0,0⟩
def yL(now:Int)(TL:List (Jk×Tsk))(s:Sg):List (Jk×Tsk):=match zQ TL ⟨2,s⟩with|some _=>TL|none=>qq TL ⟨2,s⟩ ⟨false,s,now,0,0⟩
section
variable {c:Cf} {now:Int} {L:LV}
structure vD(c:Cf)(now:Int)(L:LV)(TL T1:List (Jk×Tsk)):Prop where
 ok:∀p∈T1,zbN c now L p
 nt:(zy T1).Nodup
 old:∀k x,zQ TL k=O x->zQ T1 k=O x
theorem JU{TL a:List (Jk×Tsk)}(h:vD c now L TL a)(hn:0<=now){k:Jk}{x:Tsk}(f:zQ a k=Q)(g:zbN c now L (k,x)):vD c now L TL (qq a k x):=by
 refine⟨fun p b=>?_,qG h.nt,fun j y d=>?_⟩
 ·rcases qs b with rfl|⟨b,_⟩
  ·exact g
  ·exact h.ok p b
 ·have:=h.old j y d
  rw[vi h.nt,if_neg (fun e=>by rw[e,f]at this;cases this)];exact this
theorem zfq{TL a:List (Jk×Tsk)}(h:vD c now L TL a)(hn:0<=now){s:Sg}(d:s∈zr L)(f:c.clo now s)(g:(stL L s).st=2):vD c now L TL (yr now a s)/\∀k,k∈zy (yr now a s)↔k∈zy a\/k=⟨1,s⟩:=by
 unfold yr
 cases b:zQ a ⟨1,s⟩with
 |some x=>exact⟨h,fun k=>⟨.inl,fun e=>e.elim id (fun e=>by rw[e];exact List.mem_map.2 ⟨_,zO b,rfl⟩)⟩⟩
 |none=>exact⟨JU h hn b ⟨rfl,d,f,fun _=>g,fun e=>by simp at e,⟨hn,Int.le_refl _⟩,by dsimp only;omega⟩,fun k=>xw⟩
theorem zfp{TL a:List (Jk×Tsk)}(h:vD c now L TL a)(hn:0<=now){s:Sg}(d:s∈zr L)(f:c.clo now s)(g:(stL L s).st≠2):vD c now L TL (yL now a s)/\∀k,k∈zy (yL now a s)↔k∈zy a\/k=⟨2,s⟩:=by
 unfold yL
 cases b:zQ a ⟨2,s⟩with
 |some x=>exact⟨h,fun k=>⟨.inl,fun e=>e.elim id (fun e=>by rw[e];exact List.mem_map.2 ⟨_,zO b,rfl⟩)⟩⟩
 |none=>exact⟨JU h hn b ⟨rfl,d,f,fun e=>by simp at e,fun _=>g,⟨hn,Int.le_refl _⟩,by dsimp only;omega⟩,fun k=>xw⟩
theorem Vf(hn:0<=now):∀(b:List Sg) {TL a:List (Jk×Tsk)},vD c now L TL a->(∀s∈b,s∈zr L/\c.clo now s/\(stL L s).st=2)->vD c now L TL (b.foldl (yr now) a)/\∀k,k∈zy (b.foldl (yr now) a)↔k∈zy a\/∃s∈b,k=⟨1,s⟩
 |[],TL,a,h,_=>⟨h,fun k=>by simp⟩
 |s::b,TL,a,h,d=>by
  obtain⟨e,a2,a3⟩:=d s (by simp)
  obtain⟨f,g⟩:=zfq h hn e a2 a3
  obtain⟨i,j⟩:=Vf hn b f (fun x l=>d x (by simp[l]))
  refine⟨i,fun k=>?_⟩
  show k∈zy (b.foldl (yr now) (yr now a s))↔_
  rw[j k,g k];simp[or_assoc]
theorem Vd(hn:0<=now):∀(b:List Sg) {TL a:List (Jk×Tsk)},vD c now L TL a->(∀s∈b,s∈zr L/\c.clo now s/\(stL L s).st≠2)->vD c now L TL (b.foldl (yL now) a)/\∀k,k∈zy (b.foldl (yL now) a)↔k∈zy a\/∃s∈b,k=⟨2,s⟩
 |[],TL,a,h,_=>⟨h,fun k=>by simp⟩
 |s::b,TL,a,h,d=>by
  obtain⟨e,a2,a3⟩:=d s (by simp)
  obtain⟨f,g⟩:=zfp h hn e a2 a3
  obtain⟨i,j⟩:=Vd hn b f (fun x l=>d x (by simp[l]))
  refine⟨i,fun k=>?_⟩
  show k∈zy (b.foldl (yL now) (yL now a s))↔_
  rw[j k,g k];simp[or_assoc]
end
theorem zgQ{c:Cf}(m:c.ok)(n:c.fits){now:Int}{k:Sg}(o:k.t= -1)(h:c.clo now ⟨(c.b:Int),k.sr,k.wa*c.wi/c.W c.b⟩):c.clo now k:=by
 obtain⟨q,u,d⟩:=n.div0
 have p:=m.wi1
 have g:c.wt (c.b:Int)=c.W c.b:=by unfold Cf.wt zT;rw[if_neg (by omega)];simp
 have i:c.wt (-1)=c.wi:=by unfold Cf.wt zT;rw[if_pos rfl]
 unfold Cf.clo at*
 rw[g]at h
 rw[o,i]
 have f:0<c.W c.b:=by rw[d];exact Int.mul_pos (by omega) (by omega)
 have j:k.wa*c.wi<(k.wa*c.wi/c.W c.b+1)*c.W c.b:=Int.lt_ediv_add_one_mul_self _ f
 generalize k.wa*c.wi/c.W c.b=a at*
 have l:k.wa*c.wi<((a+1)*q)*c.wi:=by
  have e:(a+1)*c.W c.b=((a+1)*q)*c.wi:=by rw[d,Int.mul_comm c.wi q,<-Int.mul_assoc]
  rw[<-e];exact j
 have r:k.wa<(a+1)*q:=Int.lt_of_mul_lt_mul_right l (by omega)
 have s:(k.wa+1)*c.wi<=((a+1)*q)*c.wi:=Int.mul_le_mul_of_nonneg_right (by omega) (by omega)
 have e:(a+1)*c.W c.b=((a+1)*q)*c.wi:=by rw[d,Int.mul_comm c.wi q,<-Int.mul_assoc]
 rw[e]at h;omega
theorem zfC{c:Cf}(i:c.ok)(l:c.fits){now:Int}{L:LV}{Gl:List (Sg×Unit)}(h:ym c now L Gl){k:Sg}(u:k∈zr L)(m:vm c L now k=true):c.clo now k/\(stL L k).st≠2:=by
 have e:=xu u
 have hin:=h.inr _ e
 unfold vm at m
 simp only[Bool.and_eq_true,Bool.not_eq_true',beq_eq_false_iff_ne,ne_eq,decide_eq_true_eq]at m
 obtain⟨⟨o,C⟩,p⟩:=m
 refine⟨?_,o⟩
 by_cases f:k.t= -1
 ·have w:=i.n1
  have s:(⟨(c.b:Int),k.sr,k.wa*c.wi/c.W c.b⟩:Sg)∈kS c k:=by
   have n:c.wt k.t=c.wi:=by rw[f];unfold Cf.wt zT;rw[if_pos rfl]
   unfold kS Y7
   rw[n,List.map_map]
   exact List.mem_map.2 ⟨c.b,List.mem_filter.2 ⟨by simpa using l.bn,by simp[l.from0,f]⟩,rfl⟩
  have j:c.clo now ⟨(c.b:Int),k.sr,k.wa*c.wi/c.W c.b⟩:=by
   rcases h.above _ e f with g|g
   ·have d:=xu g
    rcases h.tier _ d (by show(0:Int)<=(c.b:Int);omega)with a|a
    ·exfalso
     unfold ZI at p
     have r:((kr c k).filter (fun x=>(stL L x.1).st==2)).length=0:=by
      have:=of_decide_eq_true (show decide ((((kr c k).filter (fun x=>(stL L x.1).st==2)).length:Int)=0)=true from by simpa using p)
      omega
     have v:=(vN i hin ⟨(c.b:Int),k.sr,k.wa*c.wi/c.W c.b⟩).2 s
     obtain⟨y,z,q⟩:=List.mem_map.1 v
     have:y∈(kr c k).filter (fun x=>(stL L x.1).st==2):=List.mem_filter.2 ⟨z,by rw[q];simpa using a⟩
     rw[List.eq_nil_of_length_eq_zero r]at this;simp at this
    ·exact h.pubc _ d a
   ·exact h.goc _ g
  exact zgQ i l f j
 ·rcases h.tier _ e (by have B: -1<=k.t:=hin.2.1;show 0<=k.t;omega)with a|a
  ·exact absurd a o
  ·exact h.pubc _ e a
theorem zfE{c:Cf}{now:Int}{L:LV}{b:List (Sg×Unit)}{k:Sg}(a:vx c b L now k=true):c.clo now k/\(stL L k).st=2:=by
 unfold vx at a
 simp only[Bool.and_eq_true,beq_iff_eq,decide_eq_true_eq]at a
 exact⟨a.2,a.1.2⟩
structure qv(c:Cf)(m:MS)(TL':List (Jk×Tsk)):Prop where
 to:∃(Bs:List (Sg×Unit)) (ys1 ys2:List Sg),(∀x,x∈zy Bs↔∃k,k∈zr m.L/\(stL m.L k).st=2/\x∈kS c k)/\(∀s,s∈ys1↔s∈zr m.L/\vx c Bs m.L m.now s=true)/\(∀s,s∈ys2↔s∈zr m.L/\vm c m.L m.now s=true)/\TL'=ys2.foldl (yL m.now) (ys1.foldl (yr m.now) m.TL)
theorem MOk.post{c:Cf}{ep:Int}{m:MS}(r:c.ok)(t:c.fits)(h:MOk c ep m){a:List (Jk×Tsk)}(v:qv c m a):
  MOk c ep {m with TL:=a}/\(∀k,k∈zy m.TL->k∈zy a)/\(∀s,s∈zr m.L->vm c m.L m.now s=true->(⟨2,s⟩:Jk)∈zy a):=by
 obtain⟨C,j,l,F,n,d,rfl⟩:=v.to
 have p:vD c m.now m.L m.TL m.TL:=⟨h.td,h.nt,fun _ _ e=>e⟩
 obtain⟨z,B⟩:=Vf h.now.1 j p (fun s b=>⟨((n s).1 b).1,zfE ((n s).1 b).2⟩)
 obtain⟨i,o⟩:=Vd h.now.1 l z (fun s b=>⟨((d s).1 b).1,zfC r t h.seg ((d s).1 b).1 ((d s).1 b).2⟩)
 refine⟨⟨h.now,h.seg,i.ok,i.nt,fun q w=>?_,h.nq,h.jobs,h.num⟩,fun k u=>(o k).2 (.inl ((B k).2 (.inl u))),fun s b g=>(o _).2 (.inr ⟨s,(d s).2 ⟨b,g⟩,rfl⟩)⟩
 have f:=h.leas q w
 obtain⟨x,y,g⟩:=f.job
 exact⟨⟨x,i.old _ _ y,g⟩,f.ep,f.num,f.til⟩
section
variable {c:Cf} {ep:Int} {m:MS}
theorem zfd{QL:List (Tok×Lse)}(hn:(QL.map (fun q=>q.2.job)).Nodup){p q:Tok×Lse}(l:p∈QL)(m:q∈QL)(e:p.2.job=q.2.job):p=q:=by
 have d:QL.Pairwise (fun a b=>a.2.job≠b.2.job):=List.pairwise_map.1 hn
 obtain⟨i,h,f⟩:=List.getElem_of_mem l
 obtain⟨j,k,g⟩:=List.getElem_of_mem m
 rcases Nat.lt_trichotomy i j with c|c|c
 ·have:=List.pairwise_iff_getElem.1 d i j h k c;rw[f,g]at this;exact absurd e this
 ·subst c;rw[<-f,g]
 ·have:=List.pairwise_iff_getElem.1 d j i k h c;rw[f,g]at this;exact absurd e.symm this
theorem Yl{QL:List (Tok×Lse)}(hn:(QL.map (fun q=>q.2.job)).Nodup)(t:Tok):((xe QL t).map (fun q=>q.2.job)).Nodup:=by
 unfold xe
 exact hn.sublist (List.Sublist.map _ (List.filter_sublist))
theorem KB{QL:List (Tok×Lse)}(hn:(QL.map (fun q=>q.2.job)).Nodup){t:Tok}{g:Lse}(c:(t,g)∈QL){q:Tok×Lse}(d:q∈xe QL t):q.2.job≠g.job:=fun e=>by
 obtain⟨a,b⟩:=xc.1 d
 exact b (by rw[zfd hn a c e])
theorem MOk.failed(h:MOk c ep m){t:Tok}{g:Lse}{x:Tsk}(n:zQ m.QL t=O g)(l:zQ m.TL g.job=O x):
  MOk c ep {m with TL:=qq m.TL g.job (x.failed m.now),QL:=xe m.QL t}:=by
 have b:=zO n
 have i:=zO l
 have o:x.rest<=m.now:=by
  obtain⟨y,j,f⟩:=(h.leas _ b).job
  have:y=x:=by have:=j.symm.trans l;injection this
  rw[<-this];exact f
 have r:=jP (x.ti+1).toNat
 have a:=h.td _ i
 refine⟨h.now,h.seg,fun p e=>?_,qG h.nt,fun q k=>?_,qo h.nq,Yl h.jobs t,h.num⟩
 ·rcases qs e with rfl|⟨e,_⟩
  ·exact⟨a.key,a.mem,a.clo,a.roll,a.recl,a.se,by have:=a.ti;simp only[Tsk.failed]at*;omega⟩
  ·exact h.td p e
 ·have d:=h.leas q (xc.1 k).1
  obtain⟨y,j,f⟩:=d.job
  refine⟨⟨y,?_,f⟩,d.ep,d.num,d.til⟩
  rw[vi h.nt,if_neg (KB h.jobs b k)];exact j
theorem MOk.picked(h:MOk c ep m)(r:c.ok){k:Jk}{x:Tsk}(o:zQ m.TL k=O x)(w:x.rest<=m.now)(l:kh m.QL x.key=false)(slot:Int):
  MOk c ep {m with num:=m.num+1,QL:=qq m.QL ⟨ep,m.num+1⟩ ⟨x.kd,x.s,slot,m.now+c.le⟩}/\(⟨ep,m.num+1⟩:Tok)∉zy m.QL/\(∀q∈m.QL,q.2.job≠x.key):=by
 have f:(⟨ep,m.num+1⟩:Tok)∉zy m.QL:=fun v=>by
  obtain⟨q,d,e⟩:=List.mem_map.1 v
  have:=(h.leas q d).num
  rw[e]at this;dsimp only at this;omega
 have i:∀q∈m.QL,q.2.job≠x.key:=fun q d e=>by
  unfold kh at l
  rw[List.any_eq_false]at l
  exact l q d (by simpa[Lse.job]using e)
 have j:qq m.QL ⟨ep,m.num+1⟩ ⟨x.kd,x.s,slot,m.now+c.le⟩=m.QL++[(⟨ep,m.num+1⟩,⟨x.kd,x.s,slot,m.now+c.le⟩)]:=by unfold qq;rw[if_neg f]
 have t:=(h.td _ (zO o)).key
 have u:=r.le
 refine⟨⟨h.now,h.seg,h.td,h.nt,fun q d=>?_,qG h.nq,?_,by have:=h.num;show 0<=m.num+1;omega⟩,f,i⟩
 ·rcases qs d with rfl|⟨d,_⟩
  ·refine⟨⟨x,?_,w⟩,rfl,⟨by have:=h.num;show 1<=m.num+1;omega,Int.le_refl _⟩,by show m.now<m.now+c.le;omega,Int.le_refl _⟩
   show zQ m.TL x.key=O x
   rw[<-t];exact o
  ·have g:=h.leas q d
   exact⟨g.job,g.ep,⟨g.num.1,by have:=g.num.2;show q.1.num<=m.num+1;omega⟩,g.til⟩
 ·show((qq m.QL ⟨ep,m.num+1⟩ ⟨x.kd,x.s,slot,m.now+c.le⟩).map (fun q=>q.2.job)).Nodup
  rw[j,List.map_append,List.nodup_append]
  refine⟨h.jobs,by simp,fun a p b n=>?_⟩
  obtain⟨q,d,rfl⟩:=List.mem_map.1 p
  simp only[List.map_cons,List.map_nil,List.mem_singleton]at n
  subst n
  exact i q d
theorem MOk.other_seg(h:MOk c ep m){k:Jk}{x:Tsk}(o:zQ m.TL k=O x){p:Jk×Tsk}(n:p∈xe m.TL k):p.2.s≠x.s:=fun e=>by
 obtain⟨l,d⟩:=xc.1 n
 have g:=h.td p l
 have j:=h.td _ (zO o)
 have b:k=x.key:=j.key
 cases i:p.2.rl with
 |true=>
  have a:=g.roll i
  rw[e]at a
  cases f:x.rl with
  |true=>exact d (by rw[g.key,b];simp[Tsk.key,Tsk.kd,i,f,e])
  |false=>exact j.recl f a
 |false=>
  have a:=g.recl i
  rw[e]at a
  cases f:x.rl with
  |true=>exact a (j.roll f)
  |false=>exact d (by rw[g.key,b];simp[Tsk.key,Tsk.kd,i,f,e])
theorem MOk.done_leas(h:MOk c ep m){t:Tok}{g:Lse}(d:zQ m.QL t=O g):∀q∈xe m.QL t,zgw c ep m.now m.num (xe m.TL g.job) q:=fun q b=>by
 have a:=h.leas q (xc.1 b).1
 obtain⟨y,f,e⟩:=a.job
 refine⟨⟨y,?_,e⟩,a.ep,a.num,a.til⟩
 rw[Yg h.nt,if_neg (KB h.jobs (zO d) b)];exact f
theorem QU{L:LV}(hn:(zr L).Nodup){s:Sg}{u v:SV}(a:(s,u)∈L)(f:SV->Int):qr ((qT L s v).map (fun p=>f p.2))=qr (L.map (fun p=>f p.2))-f u+f v:=by
 unfold qT
 rw[if_pos (show s∈zr L from List.mem_map.2 ⟨_,a,rfl⟩)]
 exact Qc f hn a
theorem zdQ{s:Sg}{u:SV}(f:SV->Int):∀{L:LV},(zr L).Nodup->(s,u)∈L->qr ((xe L s).map (fun p=>f p.2))=qr (L.map (fun p=>f p.2))-f u
 |[],_,h=>by simp at h
 |p::L,hn,h=>by
  obtain⟨b,c⟩:=List.nodup_cons.1 (show(p.1::zr L).Nodup from hn)
  rcases List.mem_cons.1 h with rfl|h
  ·have e:xe ((s,u)::L) s=L:=by
    unfold xe
    rw[List.filter_cons,if_neg (by simp)]
    refine List.filter_eq_self.2 (fun q d=>?_)
    simp only[decide_eq_true_eq]
    exact fun e=>b (List.mem_map.2 ⟨q,d,e⟩)
   rw[e];simp only[List.map_cons,qr];omega
  ·have a:p.1≠s:=fun e=>b (List.mem_map.2 ⟨_,h,e.symm⟩)
   have e:xe (p::L) s=p::xe L s:=by unfold xe;rw[List.filter_cons,if_pos (by simpa using a)]
   have g:=zdQ f c h
   rw[e];simp only[List.map_cons,qr,g];omega
theorem MOk.rolled(h:MOk c ep m){t:Tok}{g:Lse}{x:Tsk}(F:zQ m.QL t=O g)(B:zQ m.TL g.job=O x)(H:x.rl=true)(i:Cl):
  MOk c ep {m with L:=qT m.L x.s ⟨3,i⟩,TL:=xe m.TL g.job,QL:=xe m.QL t}/\(∀f:SV->Int,qr ((qT m.L x.s ⟨3,i⟩).map (fun p=>f p.2))=qr (m.L.map (fun p=>f p.2))-f (stL m.L x.s)+f ⟨3,i⟩)/\(stL m.L x.s).st=2/\x.s∈zr m.L:=by
 have q:=h.td _ (zO B)
 have u:(x.s,stL m.L x.s)∈m.L:=xu q.mem
 have z:(stL m.L x.s).st=2:=q.roll H
 have l:=fun f:SV->Int=>QU (v:=⟨3,i⟩) h.seg.nl u f
 have b:=h.seg
 have r:x.s.t≠ -1:=fun e=>by have M:(stL m.L x.s).st=1:=(b.raw _ u e).1;omega
 have d:∀k,k∈zr (qT m.L x.s ⟨3,i⟩)↔k∈zr m.L:=fun k=>by
  rw[xG];exact⟨fun e=>e.elim id (fun e=>e▸q.mem),.inl⟩
 refine⟨⟨h.now,⟨fun p a=>?_,yU b.nl,fun p a o=>?_,fun p a o=>?_,fun p a=>?_,b.ng,fun p a C=>?_,b.goc,fun p a o=>?_,?_⟩,fun p a=>?_,qo h.nt,h.done_leas F,qo h.nq,Yl h.jobs t,h.num⟩,l,z,q.mem⟩
 ·rcases qh a with rfl|⟨a,_⟩
  ·exact(show inR c x.s from b.inr _ u)
  ·exact b.inr p a
 ·rcases qh a with rfl|⟨a,_⟩
  ·exact absurd o r
  ·exact b.raw p a o
 ·rcases qh a with rfl|⟨a,_⟩
  ·exact .inr rfl
  ·exact b.tier p a o
 ·rcases qh a with rfl|⟨a,_⟩
  ·exact(show x.s∉zy m.Gl from b.disj _ u)
  ·exact b.disj p a
 ·rcases qh a with rfl|⟨a,_⟩
  ·exact q.clo
  ·exact b.pubc p a C
 ·rcases qh a with rfl|⟨a,_⟩
  ·exact absurd o r
  ·rcases b.above p a o with w|w
   ·exact .inl ((d _).2 w)
   ·exact .inr w
 ·have:=l qO
  have N:qO (stL m.L x.s)=2:=by unfold qO;rw[if_neg (by omega)]
  have K:qO ⟨3,i⟩=2:=by unfold qO;rw[if_neg (by dsimp only;omega)]
  have:=b.used
  show zp (qT m.L x.s ⟨3,i⟩)<=c.qu
  unfold zp at*;omega
 ·have y:=h.other_seg B a
  have n:=h.td p (xc.1 a).1
  have j:stL (qT m.L x.s ⟨3,i⟩) p.2.s=stL m.L p.2.s:=by rw[zdG b.nl,if_neg y]
  exact⟨n.key,(d _).2 n.mem,n.clo,fun e=>by show(stL (qT m.L x.s ⟨3,i⟩) p.2.s).st=2;rw[j];exact n.roll e,fun e=>by show(stL (qT m.L x.s ⟨3,i⟩) p.2.s).st≠2;rw[j];exact n.recl e,n.se,n.ti⟩
theorem MOk.reclaimed(h:MOk c ep m){t:Tok}{g:Lse}{x:Tsk}(H:zQ m.QL t=O g)(C:zQ m.TL g.job=O x)(K:x.rl=false):
  MOk c ep {m with L:=xe m.L x.s,Gl:=qq m.Gl x.s (),TL:=xe m.TL g.job,QL:=xe m.QL t}/\(∀f:SV->Int,qr ((xe m.L x.s).map (fun p=>f p.2))=qr (m.L.map (fun p=>f p.2))-f (stL m.L x.s))/\(stL m.L x.s).st≠2/\x.s∈zr m.L/\(qq m.Gl x.s ()).length=m.Gl.length+1:=by
 have v:=h.td _ (zO C)
 have y:(x.s,stL m.L x.s)∈m.L:=xu v.mem
 have B:(stL m.L x.s).st≠2:=v.recl K
 have q:=fun f:SV->Int=>zdQ f h.seg.nl y
 have j:=h.seg
 have z:x.s∉zy m.Gl:=j.disj _ y
 have a:∀p,p∈xe m.L x.s->p∈m.L/\p.1≠x.s:=fun p d=>xc.1 d
 have n:∀k,k∈zr m.L->k≠x.s->k∈zr (xe m.L x.s):=fun k l i=>by
  obtain⟨p,d,rfl⟩:=List.mem_map.1 (show k∈m.L.map (·.1)from l)
  exact List.mem_map.2 ⟨p,xc.2 ⟨d,i⟩,rfl⟩
 have u:∀k,k≠x.s->stL (xe m.L x.s) k=stL m.L k:=fun k i=>by
  unfold stL
  rw[show yy (xe m.L x.s) k=yy m.L k from by
   have:=Yg (L:=m.L) j.nl x.s k
   rw[if_neg i]at this;exact this]
 refine⟨⟨h.now,⟨fun p d=>j.inr p (a p d).1,qo (L:=m.L) j.nl,fun p d=>j.raw p (a p d).1,fun p d=>j.tier p (a p d).1,fun p d=>?_,qG j.ng,fun p d=>j.pubc p (a p d).1,fun k l=>?_,fun p d M=>?_,?_⟩,fun p d=>?_,qo h.nt,h.done_leas H,qo h.nq,Yl h.jobs t,h.num⟩,q,B,v.mem,?_⟩
 ·intro l
  rcases xw.1 l with l|l
  ·exact j.disj p (a p d).1 l
  ·exact(a p d).2 l
 ·rcases xw.1 l with l|rfl
  ·exact j.goc k l
  ·exact v.clo
 ·rcases j.above p (a p d).1 M with w|w
  ·by_cases e:(⟨(c.b:Int),p.1.sr,p.1.wa*c.wi/c.W c.b⟩:Sg)=x.s
   ·exact .inr (xw.2 (.inr e))
   ·exact .inl (n _ w e)
  ·exact .inr (xw.2 (.inl w))
 ·have N:=q qO
  have F:=j.use _ y
  have:=j.used
  show zp (xe m.L x.s)<=c.qu
  unfold zp at*;dsimp only at F;omega
 ·have i:=h.other_seg C d
  have r:=h.td p (xc.1 d).1
  have o:=u p.2.s i
  exact⟨r.key,n _ r.mem i,r.clo,fun e=>by show(stL (xe m.L x.s) p.2.s).st=2;rw[o];exact r.roll e,fun e=>by show(stL (xe m.L x.s) p.2.s).st≠2;rw[o];exact r.recl e,r.se,r.ti⟩
 ·rw[ki,if_neg z]
end
end Go.Proofs.YtndhpgciopcncaaGreatDoor
