import Derived.Test.YtndhpgciopcncaaGreatDoorPBrd1
import Derived.Deep.RegionHeld3
import Derived.Test.YtndhpgciopcncaaGreatDoorPJn2
open Option renaming some → J
open Nat renaming le_refl → E
open Go renaming World → S
open Go.RowKit.Below renaming refl → A
open Option renaming none → D
open Go.RowKit renaming Below → G
open Go renaming Value → R
open Nat renaming lt_of_lt_of_le → H
set_option linter.unusedVariables false
set_option maxRecDepth 20000
set_option maxHeartbeats 4000000
open Go.Proofs.Tryz
namespace Go.Proofs.YtndhpgciopcncaaGreatDoor
open Go.ChangeMaps (setBlock)
open Go.RowKit Go.Maps Go.Shelf
def Va(k:Nat):Nat:=2^min k 5
theorem Xp(k:Nat):1<=Va k/\Va k<=32:=by
 unfold Va
 have h:min k 5<=5:=Nat.min_le_right _ _
 generalize min k 5=j at*
 match j,h with
 |0,_=>simp
 |1,_=>simp
 |2,_=>simp
 |3,_=>simp
 |4,_=>simp
 |5,_=>simp
theorem zpB{k:Nat}(h:k<=5):((2:Int)^k<32↔k<5):=by
 match k,h with
 |0,_=>simp
 |1,_=>simp
 |2,_=>simp
 |3,_=>simp
 |4,_=>simp
 |5,_=>simp
theorem zpA{k:Nat}(h:k<=5):1<=(2:Int)^k/\(2:Int)^k<=32:=by
 match k,h with
 |0,_=>simp
 |1,_=>simp
 |2,_=>simp
 |3,_=>simp
 |4,_=>simp
 |5,_=>simp
theorem zlK(ti:Nat)(l:ti<=1000000000000)(w:S):
  Calls prog 115 #[I ti] w fun e w'=>e=.returned (I (Va ti))/\w'=w:=by
 go_enter func115,ntmps115
 go_wp2_with fail
 go_loopw [3,4] (fun x y wr=>∃(k:Nat),k<=5/\k<=ti/\x=I ((2:Int)^k)/\y=I k/\wr=w) (fun _ y _=>5-(intOf y).toNat)
 case atStart=>exact⟨0,by omega,Nat.zero_le _,by simp,rfl,rfl⟩
 case round=>
  obtain⟨k,a,g,rfl,rfl,rfl⟩:=hrel
  obtain⟨h,i⟩:=zpA a
  by_cases j:k<ti
  ·have d:(k:Int)<ti:=by omega
   by_cases f:k<5
   ·have b:(2:Int)^k<32:=(zpB a).2 f
    have c:Hid ((2:Int)^k*2=2^(k+1)):=by show(2:Int)^k*2=2^(k+1);rw[Int.pow_succ]
    obtain⟨v,hv⟩:∃v,(2:Int)^k=v:=⟨_,rfl⟩
    rw[hv]at c b h i ⊢
    clear hv
    go_wp2_with fail
    go_roundw
    case rel=>exact⟨k+1,by omega,by omega,by rw[<-ud c],by go_num,trivial⟩
    case measure=>simp[intOf];omega
   ·obtain rfl:k=5:=by omega
    go_wp2_with fail
    go_ret
    refine⟨?_,rfl⟩
    unfold Va
    rw[show min ti 5=5 by omega]
    rfl
  ·obtain rfl:k=ti:=by omega
   go_wp2_with fail
   go_ret
   refine⟨?_,rfl⟩
   unfold Va
   rw[show min k 5=k by omega]
   simp
theorem zhM(x:Lse)(W:S):(Instr.field 164 (.agg (lZz x)) 0).run prog W=.ok (.agg #[I x.kd,I x.s.t,I x.s.sr,I x.s.wn]) W:=by kernel_rfl
theorem Ju{X:S}{qb:Nat}{QL:List (Tok×Lse)}(h:xe xF X qb QL){t:Tok}(c:t.wf){g:Lse}(b:zD QL t=J g):(Instr.lookup 168 (.map (J qb)) (.agg #[I t.ep,I t.num]) false).run prog X=.ok (.agg (lZz g)) X:=by
 have a:=kt yi false h c
 rw[b]at a;exact a
theorem Jv{X:S}{tb:Nat}{TL:List (Jk×Tsk)}(h:xe xY X tb TL){k:Jk}(b:k.wf){x:Tsk}(c:zD TL k=J x):(Instr.lookup 169 (.map (J tb)) (.agg #[I k.kd,I k.s.t,I k.s.sr,I k.s.wn]) false).run prog X=.ok (.agg (tZz x)) X:=by
 have a:=kt yT false h b
 rw[c]at a;exact a
def Tsk.failed(x:Tsk)(now:Int):Tsk:=⟨x.rl,x.s,x.se,x.ti+1,now+Va (x.ti+1).toNat⟩
theorem zju{X:S}{tb:Nat}{TL:List (Jk×Tsk)}(h:xe xY X tb TL)(d:TL.length<maxLen){k:Jk}(c:k.wf)(x:Tsk)(b a:Int):
  ∃o,(Instr.mapUpdate 169 (.map (J tb)) (.agg #[I k.kd,I k.s.t,I k.s.sr,I k.s.wn]) (.agg #[(jZz x),I x.se,I b,I a])).run prog X=.ok () (setBlock X tb o)/\xe xY (setBlock X tb o) tb (xZ TL k ⟨x.rl,x.s,x.se,b,a⟩)/\zh (fun k=>k=tb) X (setBlock X tb o)/\o.isCells=false:=
 jr yT h d c (⟨x.rl,x.s,x.se,b,a⟩:Tsk)
theorem znu{X:S}{qb:Nat}{QL:List (Tok×Lse)}(h:xe xF X qb QL){t:Tok}(i:t.wf)(d:TypeId):
  ∃o,(Builtin.delete_ #[168,49] d #[.map (J qb),.agg #[I t.ep,I t.num]]).run prog X=.ok (.tuple #[]) (setBlock X qb o)/\xe xF (setBlock X qb o) qb (xa QL t)/\zh (fun k=>k=qb) X (setBlock X qb o):=by
 obtain⟨j,b,c,g⟩:=h
 obtain⟨a,e,f,l⟩:=Yw yi c g i d
 exact⟨.map a b,e,⟨a,b,xL (zd c) _,f⟩,xT _⟩
theorem zkF{X:S}{qb:Nat}{QL:List (Tok×Lse)}{c:Array MapEntry}{b:Nat}(d:X.1[qb]?=J (.map c b))(j:vK xF c b QL){t:Tok}(l:t.wf)(f:TypeId):
  ∃a,(Builtin.delete_ #[168,49] f #[.map (J qb),.agg #[I t.ep,I t.num]]).run prog X=.ok (.tuple #[]) (setBlock X qb (.map a b))/\(setBlock X qb (.map a b)).1[qb]?=J (.map a b)/\vK xF a b (xa QL t)/\(∀e,e∈a.toList↔e∈c.toList/\e.key≠yo t)/\zh (fun k=>k=qb) X (setBlock X qb (.map a b)):=by
 obtain⟨a,g,h,i⟩:=Yw yi d j l f
 exact⟨a,g,xL (zd d) _,h,i,xT _⟩
theorem zdI{w:S}{b:Nat}{c:Cf}{tv:R}{ep num:Int}{tb qb:Nat}{TL:List (Jk×Tsk)}{QL:List (Tok×Lse)}(h:zC w b c tv ep num tb qb TL QL)(t:Tok)(ht:t.wf){g:Lse}(hg:zD QL t=J g){x:Tsk}(aa:(⟨g.kd,g.s⟩:Jk).wf)(hx:zD TL ⟨g.kd,g.s⟩=J x)(now:Int)(aP:0<=now/\now<=100000)(aX:0<=x.ti/\x.ti<=1000000000)(aO:TL.length<=100000){es:Array MapEntry}{cl:Nat}(ae:w.1[qb]?=J (.map es cl))(af:vK xF es cl QL):
  Calls prog 56 #[(O b),.agg #[I t.ep,I t.num],I now] w fun e w'=>e=.returned (.tuple #[])/\zC w' b c tv ep num tb qb (xZ TL ⟨g.kd,g.s⟩ (x.failed now)) (xa QL t)/\zh (fun k=>k=tb\/k=qb) w w'/\∃N,w'.1[qb]?=J (.map N cl)/\vK xF N cl (xa QL t)/\∀e,e∈N.toList↔e∈es.toList/\e.key≠yo t:=by
 have av:=h.lt
 have y0:=zp w (.cells #[I t.ep,I t.num] 49)
 have yz:=zN w (.cells #[I t.ep,I t.num] 49)
 have a:G w.1.size w (w.alloc (.cells #[I t.ep,I t.num] 49)):=(A _ _).alloc (E _) _
 obtain⟨k0,k1,-⟩:=zc y0
 have aK:=(h.later a).cell10
 have HL:=fun X hX=>Ju (h.leases.later (w':=X) hX) ht hg
 have g0:=HL _ a
 have g1:=HL _ a.drew
 have g2:=fun o=>HL _ (a.alloc a.size o)
 have g3:=fun o=>HL _ (a.alloc a.size o).drew
 have g4:=fun o=>HL _ (a.drew.alloc a.drew.size o)
 have fl:=zhM g
 have a0:w.1.size<(w.alloc (.cells #[I t.ep,I t.num] 49)).1.size:=by rw[yz];omega
 have aN:b<(w.alloc (.cells #[I t.ep,I t.num] 49)).1.size:=by rw[yz];omega
 have K:=ze h
 have Y0:=ze y0
 have a3:=ze a
 have HT:=ze ht
 have a4:=ze aa
 have HG:=ze hg
 have HX:=ze hx
 have a8:=ze ae
 have am:=ze af
 clear h y0 yz a HL ht aa hg hx ae af
 go_enter func56,ntmps56
 go_wp2_with fail
 generalize(w.alloc (.cells #[I t.ep,I t.num] 49))=X at*
 go_region
 have P:G X.1.size X (X.alloc (.cells #[I g.kd,I g.s.t,I g.s.sr,I g.s.wn] 162)).drew:=((A _ _).alloc (E _) _).drew
 have T:(X.alloc (.cells #[I g.kd,I g.s.t,I g.s.sr,I g.s.wn] 162)).drew.1[X.1.size]?=J (.cells #[I g.kd,I g.s.t,I g.s.sr,I g.s.wn] 162 (0,0)):=zp _ _
 have ai:(X.alloc (.cells #[I g.kd,I g.s.t,I g.s.sr,I g.s.wn] 162)).drew.1.size=X.1.size+1:=zN _ _
 generalize(X.alloc (.cells #[I g.kd,I g.s.t,I g.s.sr,I g.s.wn] 162)).drew=Y at*
 have d:G w.1.size w Y:=(ud a3).trans (P.mono (ud a3).size)
 have y9:=((ud K).later d).cell9
 obtain⟨aC,aD,aE,aF,-⟩:=zc T
 have l:=fun V hV=>Jv (k:=⟨g.kd,g.s⟩) ((ud K).td.later (w':=V) hV) (ud a4) (ud HX)
 dsimp only at l
 clear g0 g1 g2 g3 g4 fl k0 k1 aK
 have g0:=l Y d
 have g1:=l Y.drew d.drew
 have g2:=fun o=>l (Y.alloc o) (d.alloc d.size o)
 have g3:=fun o=>l (Y.alloc o).drew (d.alloc d.size o).drew
 have g4:=fun o=>l (Y.drew.alloc o) (d.drew.alloc d.drew.size o)
 have aM:b<Y.1.size:=by omega
 have z:X.1.size<Y.1.size:=by omega
 have a5:=ze T
 have L:=ze d
 have aQ:=ze ai
 have au:=ze P
 clear T d ai P l
 go_wp2_with fail
 go_region
 have v:G Y.1.size Y (Y.alloc (.cells (tZz x) 177)).drew:=((A _ _).alloc (E _) _).drew
 have r:(Y.alloc (.cells (tZz x) 177)).drew.1[Y.1.size]?=J (.cells (tZz x) 177 (0,0)):=zp _ _
 have aY:(Y.alloc (.cells (tZz x) 177)).drew.1.size=Y.1.size+1:=zN _ _
 generalize(Y.alloc (.cells (tZz x) 177)).drew=Z at*
 have ah:G w.1.size w Z:=(ud L).trans (v.mono (ud L).size)
 obtain⟨t0,t1,t2,t3,-⟩:=zc r
 have tf:=fun j=>zv r j
 have aR:=zd r
 have B:=(v.block X.1.size z).trans (ud a5)
 have HR:∀W,Hid (Calls prog 115 #[I (x.ti+1)] W fun e w'=>e=.returned (I (Va (x.ti+1).toNat))/\w'=W):=fun W=>by
  have:=zlK (x.ti+1).toNat (by omega) W
  rw[Int.toNat_of_nonneg (by omega)]at this
  exact this
 obtain⟨q1,q2⟩:=Xp (x.ti+1).toNat
 obtain⟨F,y⟩:∃F:Nat,Va (x.ti+1).toNat=F:=⟨_,rfl⟩
 rw[y]at q1 q2
 simp only[y]at HR
 have an:=ze y
 have ap:=ze r
 have ar:=ze ah
 have al:=ze B
 have aj:=ze v
 clear g0 g1 g2 g3 g4 aC aD aE aF y9 r ah v B y
 go_wp2_with(first|(go_at_call 115;refine(ud (HR _)).mono ?_;rintro e Z2 ⟨rfl,rfl⟩))
 have hU:((Z.setCell (U Y.1.size 2) (I (x.ti+1))).setCell (U Y.1.size 3) (I (now+F))).1[Y.1.size]?=J (.cells #[(jZz x),I x.se,I (x.ti+1),I (now+F)] 177 (0,0)):=xy (i:=3) (xy (i:=2) (ud ap) (I (x.ti+1))) (I (now+F))
 have u:G Y.1.size Z ((Z.setCell (U Y.1.size 2) (I (x.ti+1))).setCell (U Y.1.size 3) (I (now+F))):=((A _ _).setCell (p:=(U Y.1.size 2)) (E _) _).setCell (p:=(U Y.1.size 3)) (E _) _
 generalize((Z.setCell (U Y.1.size 2) (I (x.ti+1))).setCell (U Y.1.size 3) (I (now+F)))=U9 at*
 have m:G w.1.size w U9:=(ud ar).trans (u.mono (ud L).size)
 have Q:=(u.block X.1.size z).trans (ud al)
 have a2:=(u.block w.1.size (by have:=a0;omega)).trans (((ud aj).block w.1.size (by have:=a0;omega)).trans (((ud au).block w.1.size a0).trans (ud Y0)))
 have u9:=((ud K).later m).cell9
 obtain⟨ay,az,aA,aB,-⟩:=zc Q
 obtain⟨aG,aH,aI,aJ,-⟩:=zc hU
 have aW:=zd hU
 have aT:=zd Q
 have aV:=zd a2
 have aL:b<U9.1.size:=H av m.size
 obtain⟨o,C,hm,hk,ho⟩:=zju (X:=U9.drew) (k:=⟨g.kd,g.s⟩) ((ud K).td.later m.drew) (by simp only[maxLen];omega) (ud a4) x (x.ti+1) (now+F)
 dsimp only at C
 have n:=((ud K).later m.drew).putTasks hm hk
 have a1:=hk.heap (k:=w.1.size) a2 (fun e=>by have:=(ud K).foot_lt tb (.inr (.inl rfl));omega)
 have aZ:=n.cell10
 obtain⟨b0,b1,-⟩:=zc a1
 have aU:=zd a1
 have aS:=n.lt
 have ad:(setBlock U9.drew tb o).1[qb]?=J (.map es cl):=hk.heap (k:=qb) ((m.block qb (zd (ud a8))).trans (ud a8)) (fun e=>(ud K).apart e.symm)
 obtain⟨a9,aw,ac,ab,ag,q⟩:=zkF (X:=(setBlock U9.drew tb o).drew) ad (ud am) (ud HT) 0
 have HP:=ze n
 have HK:=ze hk
 have a7:=ze ac
 have ao:=ze ag
 have a6:=ze ab
 have ak:=ze q
 have aq:=ze m
 clear t0 t1 t2 t3 tf hU u Q a2 m hm hk n a1 ab q ac ag ad
 go_region
 go_wp2_with fail
 generalize setBlock U9.drew tb o=M at*
 clear C u9 ay az aA aB aG aH aI aJ
 go_region
 go_wp2_with fail
 go_end0
 have hP:=ud HP
 have q:=ud ak
 have ax:zh (fun k=>k=tb\/k=qb) w M:=(zh.of_below (f:=fun k=>k=tb\/k=qb) (ud aq).drew).trans (ud HK) (fun _ _ e=> .inl e)
 refine⟨rfl,⟨q.heap hP.head (fun e=>hP.qb_ne e.symm),?_,⟨a9,cl,ud a7,ud a6⟩,hP.apart⟩,?_,a9,ud a7,ud a6,ud ao⟩
 ·have:=(hP.td.later (w':=M.drew) (A _ _).drew).kept q (fun e=>hP.apart e)
  unfold Tsk.failed
  rw[ud an]
  exact this
 ·exact(ax.drew).trans q (fun _ _ e=> .inr e)
theorem znv{X:S}{tb:Nat}{TL:List (Jk×Tsk)}(h:xe xY X tb TL){k:Jk}(i:k.wf)(d:TypeId):
  ∃o,(Builtin.delete_ #[169,162] d #[.map (J tb),.agg #[I k.kd,I k.s.t,I k.s.sr,I k.s.wn]]).run prog X=.ok (.tuple #[]) (setBlock X tb o)/\xe xY (setBlock X tb o) tb (xa TL k)/\zh (fun k=>k=tb) X (setBlock X tb o):=by
 obtain⟨j,b,c,g⟩:=h
 obtain⟨a,e,f,l⟩:=Yw yT c g i d
 exact⟨.map a b,e,⟨a,b,xL (zd c) _,f⟩,xT _⟩
theorem zkG{w:S}{b:Nat}{c:Cf}{tv:R}{ep num:Int}{tb qb:Nat}{TL:List (Jk×Tsk)}{QL:List (Tok×Lse)}(h:zC w b c tv ep num tb qb TL QL)(t:Tok)(v:t.wf){g:Lse}(C:zD QL t=J g)(n:(⟨g.kd,g.s⟩:Jk).wf):
  Calls prog 54 #[(O b),.agg #[I t.ep,I t.num]] w fun e w'=>e=.returned (.tuple #[])/\zC w' b c tv ep num tb qb (xa TL ⟨g.kd,g.s⟩) (xa QL t)/\zh (fun k=>k=tb\/k=qb) w w':=by
 have a0:=h.lt
 have L:=zp w (.cells #[I t.ep,I t.num] 49)
 have N:=zN w (.cells #[I t.ep,I t.num] 49)
 have a:G w.1.size w (w.alloc (.cells #[I t.ep,I t.num] 49)):=(A _ _).alloc (E _) _
 obtain⟨k0,k1,-⟩:=zc L
 have x9:=(h.later a).cell9
 have K:=(h.later a).cell10
 have W:=Ju ((h.later a).leases) v C
 have Y:=Ju ((h.later a.drew).leases) v C
 have V:=zhM g
 have a1:w.1.size<(w.alloc (.cells #[I t.ep,I t.num] 49)).1.size:=by rw[N];omega
 have P:b<(w.alloc (.cells #[I t.ep,I t.num] 49)).1.size:=by rw[N];omega
 obtain⟨o,i,Q,u⟩:=znv (X:=(w.alloc (.cells #[I t.ep,I t.num] 49)).drew) (k:=⟨g.kd,g.s⟩) ((h.later a.drew).td) n 0
 dsimp only at i
 have j:=(h.later a.drew).putTasks Q u
 have q:=u.heap (k:=w.1.size) (show(w.alloc (.cells #[I t.ep,I t.num] 49)).drew.1[w.1.size]?=_ from L) (fun e=>by have:=h.foot_lt tb (.inr (.inl rfl));omega)
 have HH:=ze h
 have x:=ze a
 have U:=ze v
 have r:=ze j
 have T:=ze u
 have l:=ze q
 clear h L N a n C v Q j u q
 go_enter func54,ntmps54
 go_wp2_with fail
 generalize(w.alloc (.cells #[I t.ep,I t.num] 49))=X at*
 go_region
 go_wp2_with fail
 generalize setBlock X.drew tb o=M at*
 have a3:=(ud r).cell10
 obtain⟨a4,a5,-⟩:=zc (ud l)
 have a2:=zd (ud l)
 have Z:=(ud r).lt
 obtain⟨o3,B,p,d⟩:=znu (X:=M.drew) (ud r).leases (ud U) 0
 have z:=ze p
 have y:=ze d
 clear W Y V k0 k1 x9 K i p d
 go_region
 go_wp2_with fail
 go_end0
 have m:=ud r
 have d:=ud y
 have F:zh (fun k=>k=tb\/k=qb) w M:=(zh.of_below (f:=fun k=>k=tb\/k=qb) (ud x).drew).trans (ud T) (fun _ _ e=> .inl e)
 refine⟨rfl,⟨d.heap m.head (fun e=>m.qb_ne e.symm),(m.td.later (w':=M.drew) (A _ _).drew).kept d (fun e=>m.apart e),ud z,m.apart⟩,(F.drew).trans d (fun _ _ e=> .inr e)⟩
def zmG(o:Option Tsk):R:=match o with
 |none=> .nilIface
 |some x=>(jZz x)
theorem zny(o:Option Tsk)(W:S):(Instr.field 177 (KP o) 0).run prog W=.ok (zmG o) W:=by
 cases o with
 |none=>kernel_rfl
 |some x=>kernel_rfl
def Tk.fail(now:Int)(x:Tk):Tk:={x with ti:=x.ti+1,rest:=now+Va (x.ti+1).toNat,ep:=0,num:=0,slot:= -1,till:=0}
def zkL(now:Int)(x:Tk):Tk:=if 0<=x.slot/\x.till<=now then x.fail now else x
def RM.tickL(m:RM)(n:Int):RM×Int:=if n<1\/1000<n\/100000<m.now+n then(m,5)else({m with now:=m.now+n,td:=m.td.map (zkL (m.now+n))}.settled,0)
theorem zjK{m:RM}{n:Int}(h:n<1\/1000<n\/100000<m.now+n):m.tickL n=(m,5):=by simp[RM.tickL,h]
theorem zmm{m:RM}{n:Int}(h:¬(n<1\/1000<n\/100000<m.now+n)):m.tickL n=({m with now:=m.now+n,td:=m.td.map (zkL (m.now+n))}.settled,0):=by unfold RM.tickL;rw[if_neg h]
def yP(o:Option Lse):Lse:=o.getD ⟨0,⟨0,0,0⟩,0,0⟩
theorem zir{X:S}{qb:Nat}{QL:List (Tok×Lse)}(h:xe xF X qb QL){t:Tok}(c:t.wf):(Instr.lookup 168 (.map (J qb)) (.agg #[I t.ep,I t.num]) true).run prog X=.ok (.tuple #[.agg #[I (yP (zD QL t)).kd,I (yP (zD QL t)).s.t,I (yP (zD QL t)).s.sr,I (yP (zD QL t)).s.wn,I (yP (zD QL t)).slot,I (yP (zD QL t)).til],.bool (zD QL t).isSome]) X:=by
 have a:=kt yi true h c
 cases b:zD QL t with
 |none=>rw[b]at a;exact a
 |some g=>rw[b]at a;exact a
theorem zis{X:S}{tb:Nat}{TL:List (Jk×Tsk)}(h:xe xY X tb TL){k:Jk}(c:k.wf):(Instr.lookup 169 (.map (J tb)) (.agg #[I k.kd,I k.s.t,I k.s.sr,I k.s.wn]) false).run prog X=.ok (KP (zD TL k)) X:=by
 have a:=kt yT false h c
 cases b:zD TL k with
 |none=>rw[b]at a;exact a
 |some g=>rw[b]at a;exact a
theorem jC{w:S}{b:Nat}{c:Cf}{tv:R}{ep num:Int}{tb qb:Nat}{TL:List (Jk×Tsk)}{QL:List (Tok×Lse)}(h:zC w b c tv ep num tb qb TL QL)(t:Tok)(K:t.wf)(q:(⟨(yP (zD QL t)).kd,(yP (zD QL t)).s⟩:Jk).wf):
  Calls prog 51 #[(O b),.agg #[I t.ep,I t.num]] w (Rz w (.tuple #[zmG (zD TL ⟨(yP (zD QL t)).kd,(yP (zD QL t)).s⟩),.bool (zD QL t).isSome])):=by
 have T:=h.lt
 have L:=zp w (.cells #[I t.ep,I t.num] 49)
 have z:=zN w (.cells #[I t.ep,I t.num] 49)
 have a:G w.1.size w (w.alloc (.cells #[I t.ep,I t.num] 49)):=(A _ _).alloc (E _) _
 obtain⟨W,Z,-⟩:=zc L
 have y:=(h.later a).cell10
 have f:=fun X n=>zir (h.leases.later (w':=X) n) K
 have d:=fun X n=>zis (h.td.later (w':=X) n) q
 dsimp only at d
 obtain⟨g,v⟩:∃g,yP (zD QL t)=g:=⟨_,rfl⟩
 obtain⟨ok,l⟩:∃ok,(zD QL t).isSome=ok:=⟨_,rfl⟩
 rw[v]at d ⊢
 rw[l]
 rw[v,l]at f
 obtain⟨x,r⟩:∃x,zD TL ⟨g.kd,g.s⟩=x:=⟨_,rfl⟩
 rw[r]at d ⊢
 have B:=f _ a
 have C:=f _ a.drew
 have N:=fun o=>f _ (a.alloc a.size o)
 have P:=fun o=>f _ (a.alloc a.size o).drew
 have Q:=fun o=>f _ (a.drew.alloc a.drew.size o)
 have U:w.1.size<(w.alloc (.cells #[I t.ep,I t.num] 49)).1.size:=by rw[z];omega
 have p:b<(w.alloc (.cells #[I t.ep,I t.num] 49)).1.size:=by rw[z];omega
 have M:=ze h
 have m:=ze a
 have i:=fun X n=>ze (d X n)
 clear h L z a f K q v l r d
 go_enter func51,ntmps51
 go_wp2_with fail
 generalize(w.alloc (.cells #[I t.ep,I t.num] 49))=X at*
 go_region
 have j:G X.1.size X (X.alloc (.cells (lZz g) 164)).drew:=((A _ _).alloc (E _) _).drew
 have k:(X.alloc (.cells (lZz g) 164)).drew.1[X.1.size]?=J (.cells (lZz g) 164 (0,0)):=zp _ _
 generalize(X.alloc (.cells (lZz g) 164)).drew=Y at*
 have e:G w.1.size w Y:=(ud m).trans (j.mono (ud m).size)
 have y9:=((ud M).later e).cell9
 obtain⟨a0,a1,a2,a3,-⟩:=zc k
 have V:=zd k
 have F:b<Y.1.size:=H p j.size
 clear B C N P Q W Z y
 have B:=ud (i Y e)
 have C:=ud (i Y.drew e.drew)
 have fl:=zny x
 have u:=ze e
 clear k e j i
 go_wp2_with fail
 go_region
 go_wp2_with fail
 go_ret2
 exact⟨rfl,(ud u).drew⟩
inductive zag (now:Int) (TL:List (Jk×Tsk)) (QL:List (Tok×Lse)):List (Jk×Tsk)->List (Tok×Lse)->Prop
 |nil:zag now TL QL TL QL
 |step {T1:List (Jk×Tsk)} {Q1:List (Tok×Lse)} {t:Tok} {g:Lse} {x:Tsk}:zag now TL QL T1 Q1->zD Q1 t=J g->g.til<=now->zD T1 ⟨g.kd,g.s⟩=J x->zag now TL QL (xZ T1 ⟨g.kd,g.s⟩ (x.failed now)) (xa Q1 t)
structure zmw(B:Int)(n:Nat)(TL:List (Jk×Tsk))(QL:List (Tok×Lse)):Prop where
 job:∀p,p∈QL->∃x,zD TL ⟨p.2.kd,p.2.s⟩=J x
 ti:∀p,p∈TL->0<=p.2.ti/\p.2.ti+QL.length<=B
 wfk:∀p,p∈TL->p.1.wf
 len:TL.length<=n
 tn:(zj TL).Nodup
 qn:(zj QL).Nodup
theorem znT{α β:Type}[DecidableEq α]{L:List (α×β)}{a:α}{v:β}(h:(a,v)∈L):(xa L a).length<L.length:=by
 unfold xa
 refine Nat.lt_of_le_of_ne (List.length_filter_le _ _) (fun e=>?_)
 have:=List.length_filter_eq_length_iff.1 e (a,v) h
 simp at this
theorem zmw.step{B:Int}{n:Nat}{e:List (Jk×Tsk)}{Q1:List (Tok×Lse)}(h:zmw B n e Q1)(now:Int){t:Tok}{g:Lse}{x:Tsk}(i:zD Q1 t=J g)(j:zD e ⟨g.kd,g.s⟩=J x):zmw B n (xZ e ⟨g.kd,g.s⟩ (x.failed now)) (xa Q1 t):=by
 have f:=zB i
 have d:=zB j
 have l:=znT f
 refine⟨fun p c=>?_,fun p c=>?_,fun p c=>?_,?_,qc h.tn,xU h.qn⟩
 ·obtain⟨y,k⟩:=h.job p (zT.1 c).1
  rw[kJ h.tn]
  split
  ·exact⟨_,rfl⟩
  ·exact⟨y,k⟩
 ·rcases qF c with rfl|⟨c,_⟩
  ·obtain⟨a,b⟩:=h.ti _ d
   dsimp only[Tsk.failed]at a b ⊢
   omega
  ·obtain⟨a,b⟩:=h.ti _ c
   omega
 ·rcases qF c with rfl|⟨c,_⟩
  ·exact h.wfk (_,x) d
  ·exact h.wfk _ c
 ·rw[vi,if_pos (show(⟨g.kd,g.s⟩:Jk)∈zj e from List.mem_map.2 ⟨(_,x),d,rfl⟩)];exact h.len
theorem zcJ{f:Array MapEntry}(h:(f.toList.map (·.born)).Nodup){a b:MapEntry}(n:a∈f.toList)(o:b∈f.toList)(e:a.born=b.born):a=b:=by
 obtain⟨i,l,g⟩:=List.getElem_of_mem n
 obtain⟨j,m,d⟩:=List.getElem_of_mem o
 have k:f.toList.Pairwise (fun a b=>a.born≠b.born):=List.pairwise_map.1 h
 rcases Nat.lt_trichotomy i j with c|c|c
 ·have:=List.pairwise_iff_getElem.1 k i j l m c;rw[g,d]at this;exact absurd e this
 ·subst c;rw[g]at d;exact d
 ·have:=List.pairwise_iff_getElem.1 k j i m l c;rw[g,d]at this;exact absurd e.symm this
theorem zhH{b:Array MapEntry}{a:Nat}{L:List (Tok×Lse)}(h:vK xF b a L){p:Tok×Lse}(g:p∈L):∃x∈b.toList,x.key=yo p.1/\x.val=vj p.2:=by
 have f:(xF.ke p.1,xF.ve p.2)∈b.toList.map (fun e=>(e.key,e.val)):=h.kv▸List.mem_map.2 ⟨p,g,rfl⟩
 obtain⟨x,i,e⟩:=List.mem_map.1 f
 injection e with c d
 exact⟨x,i,c,d⟩
theorem znS{a b:Lse}(h:vj a=vj b):a.til=b.til:=by
 unfold vj at h
 injection h with h
 simp at h
 exact h.2.2.2.2.2
theorem zeZ{w:S}{b:Nat}{c:Cf}{tv:R}{ep num:Int}{tb qb:Nat}{TL:List (Jk×Tsk)}{QL:List (Tok×Lse)}(h:zC w b c tv ep num tb qb TL QL)(now:Int)(am:0<=now/\now<=100000)(hI:zmw 1000000 100000 TL QL):
  Calls prog 59 #[(O b),I now] w fun e w'=>e=.returned (.tuple #[])/\∃ad QL',zC w' b c tv ep num tb qb ad QL'/\zh (fun k=>k=tb\/k=qb) w w'/\zag now TL QL ad QL'/\∀p∈QL',now<p.2.til:=by
 obtain⟨T,d,a6,ao⟩:=h.leases
 have aD:=h.lt
 have aw:=h.cell10
 have W:=run_range_map (P:=prog) w 168 _ _ qb T d underlying168 a6
 have HH:=ze h
 have av:=ze ao
 have a0:=ze a6
 clear h ao
 go_enter func59,ntmps59
 go_wp2_with fail
 go_loopw [4,5] (fun _ _ wr=>∃(j:Array Nat) (c0:Nat) (C:Array MapEntry) (T1:List (Jk×Tsk)) (Q1:List (Tok×Lse)),wr.1[w.1.size]?=J (.mapIter (J qb) d j c0)/\d<=c0/\wr.1[qb]?=J (.map C d)/\vK xF C d Q1/\(∀e∈C.toList,e∈T.toList)/\(∀e∈C.toList,e.born∈j.toList->∀g,e.val=vj g->now<g.til)/\zC wr b c tv ep num tb qb T1 Q1/\zh (fun k=>k=tb\/k=qb) w wr/\zag now TL QL T1 Q1/\zmw 1000000 100000 T1 Q1)
  (fun _ _ wr=>jR T w.1.size wr)
 case atStart=>
  have a2:G w.1.size w (w.alloc (.mapIter (J qb) d #[] d)):=(A _ _).alloc (E _) _
  exact⟨#[],d,T,TL,QL,zp _ _,E _,(a2.block _ (zd (ud a0))).trans (ud a0),ud av,fun _ h=>h,by simp,(ud HH).later a2,zh.of_below a2,.nil,hI⟩
 case round=>
  obtain⟨j,c0,C,T1,Q1,U,az,a7,f,q,n,hB,hK,Q,l⟩:=hrel
  have aE:=zd U
  clear W aw a6
  rcases run_next_at (P:=prog) wr 0 w.1.size qb d c0 j C d U a7 f.born az with⟨hz,B⟩|⟨e,a3,w1,Y,B⟩
  ·have HP:=ze (And.intro f (And.intro n (And.intro hB (And.intro hK (And.intro Q hz)))))
   clear hz f n hB hK Q l hI q
   go_wp2_with fail
   go_end0
   obtain⟨f,n,hB,hK,Q,hz⟩:=ud HP
   refine⟨rfl,T1,Q1,hB,hK,Q,fun p hp=>?_⟩
   obtain⟨x,Z,ek,ev⟩:∃x∈C.toList,x.key=yo p.1/\x.val=vj p.2:=zhH f hp
   refine n x Z ?_ p.2 ev
   by_cases r:x.born∈j.toList
   ·exact r
   ·have:x∈(leftOf C j).toList:=xw.2 ⟨Z,r⟩
    rw[Array.eq_empty_of_size_eq_zero hz]at this
    simp at this
  ·have a9:=ze a3
   obtain⟨m,aB⟩:=xw.1 a3
   have ap:w1.1[w.1.size]?=J (.mapIter (J qb) d j c0):=by rcases Y with rfl|rfl<;>exact U
   have an:w1.1[qb]?=J (.map C d):=by rcases Y with rfl|rfl<;>exact a7
   have al:qb≠w.1.size:=by have:=zd (ud a0);omega
   obtain⟨X,hX⟩:∃X,setBlock w1 w.1.size (.mapIter (J qb) d (j.push e.born) d)=X:=⟨_,rfl⟩
   have u:X.1[w.1.size]?=J (.mapIter (J qb) d (j.push e.born) d):=by rw[<-hX];exact xL (zd ap) _
   have o:X.1[qb]?=J (.map C d):=by rw[<-hX,xi al];exact an
   have a5:zh (fun k=>k=w.1.size) wr X:=by
    rw[<-hX];rcases Y with rfl|rfl
    ·exact xT _
    ·exact(zh.refl (fun k=>k=w.1.size) wr).drew.trans (xT _) (fun _ _ h=>h)
   have z:=hB.kept a5 (fun k hk e=>by have:=(ud HH).foot_lt k hk;omega)
   have F:zh (fun k=>k=tb\/k=qb) w X:=hK.trans a5 (fun i hi e=>by omega)
   rw[hX]at B
   have aj:=run_entry_at (P:=prog) X w.1.size qb d j C d e u o m f.once
   obtain⟨v,hk,hv⟩:=ZS yi f m
   obtain⟨⟨t,y⟩,au⟩:∃y,kj xF Q1 e=y:=⟨_,rfl⟩
   rw[au]at v hk hv
   have ab:=ze (And.intro v (And.intro hk hv))
   have L:e.key=yo t:=hk
   have N:e.val=vj y:=hv
   unfold yo at L
   unfold vj at N
   rw[L,N]at B aj
   have af:=zd u
   have aF:=z.lt
   have HP:=ze (And.intro f (And.intro n (And.intro z (And.intro F (And.intro Q (And.intro l (And.intro q (And.intro U (And.intro u (And.intro o m))))))))))
   have a4:zD Q1 t=J y:=xp f.nodup v
   have aa:=ze a4
   obtain⟨x,Z⟩:=l.job _ v
   have ac:=ze Z
   have a8:=l.ti _ (zB Z)
   dsimp only at Z a8
   have HF:∀V,G X.1.size X V->Hid (Calls prog 56 #[(O b),.agg #[I t.ep,I t.num],I now] V fun e w'=>e=.returned (.tuple #[])/\zC w' b c tv ep num tb qb (xZ T1 ⟨y.kd,y.s⟩ (x.failed now)) (xa Q1 t)/\zh (fun k=>k=tb\/k=qb) V w'/\∃a1,w'.1[qb]?=J (.map a1 d)/\vK xF a1 d (xa Q1 t)/\∀e,e∈a1.toList↔e∈C.toList/\e.key≠yo t):=fun V K=>
    zdI (z.later K) t (f.wf _ v) a4 (l.wfk _ (zB Z)) Z now am ⟨a8.1,by omega⟩ l.len ((K.block _ (zd o)).trans o) f
   clear f n hB hK Q l hI q U u o a5 z F ap an hX Y hk hv v au a3 m aB L N a7 a4 Z a8
   have K:G X.1.size X ((X.alloc (.cells #[I t.ep,I t.num] 49)).alloc (.cells (lZz y) 164)):=((A _ _).alloc (E _) _).alloc ((A _ _).alloc (E _) _).size _
   have HV:=ze K
   clear K
   by_cases ar:y.til<=now
   ·go_wp2_with(first|(go_at_call 56;refine(ud (HF _ (ud HV))).mono ?_;rintro e3 W3 ⟨rfl,h3⟩;have H3:=ze h3;clear h3))
    obtain⟨f,n,z,F,Q,l,q,U,u,o,m⟩:=ud HP
    obtain⟨ay,ae,ax,aC,aA,aq⟩:=ud H3
    obtain⟨v,ai,ak⟩:=ud ab
    have K:=ud HV
    have M:=ae.heap ((K.block _ af).trans u) (fun e=>by
     rcases e with e|e
     ·have:=(ud HH).foot_lt tb (.inr (.inl rfl));omega
     ·exact al e.symm)
    refine⟨⟨_,_,ax,_,_,M,E _,aC,aA,fun a ha=>q a ((aq a).1 ha).1,fun a ha r g hg=>?_,ay,(Zv F K).trans ae (fun _ _ h=>h),.step Q (ud aa) ar (ud ac),l.step now (ud aa) (ud ac)⟩,?_⟩
    ·obtain⟨ag,ah⟩:=(aq a).1 ha
     rw[Array.toList_push,List.mem_append]at r
     rcases r with r|r
     ·exact n a ag r g hg
     ·rw[List.mem_singleton]at r
      rw[zcJ f.once ag m r]at ah
      exact absurd ai ah
    ·rw[xn M,xn U];exact qI (xw.2 ⟨q e m,(xw.1 (ud a9)).2⟩)
   ·go_wp2_with fail
    obtain⟨f,n,z,F,Q,l,q,U,u,o,m⟩:=ud HP
    obtain⟨v,ai,ak⟩:=ud ab
    have K:=ud HV
    have M:=(K.block _ af).trans u
    refine⟨⟨_,_,C,_,_,M,E _,(K.block _ (zd o)).trans o,f,q,fun a ha r g hg=>?_,z.later K,Zv F K,Q,l⟩,?_⟩
    ·rw[Array.toList_push,List.mem_append]at r
     rcases r with r|r
     ·exact n a ha r g hg
     ·rw[List.mem_singleton]at r
      rw[zcJ f.once ha m r]at hg
      have:=znS (hg.symm.trans ak)
      dsimp only at this
      omega
    ·rw[xn M,xn U];exact qI (xw.2 ⟨q e m,(xw.1 (ud a9)).2⟩)
set_option maxRecDepth 20000
theorem vH(xs:Array R)(i:Nat)(v:R)(h:xs[i]?=J v)(w:S):(part 3 xs i).run prog w=.ok v w:=by simp[part,h]
theorem eqS1(d:Nat)(a b c e b' f:Int)(w:S):(Op.equalIn (d+2) 146 (.agg #[I a,I b,I c]) (.agg #[I e,I b',I f])).run prog w=.ok (a==e&&b==b'&&c==f) w:=by
 have j:∃g h i,(prog.fieldsOf 146).toList=[g,h,i]/\g.name≠ "_" /\h.name≠ "_" /\i.name≠ "_" /\g.type=3/\h.type=3/\i.type=3/\g.offset=0/\h.offset=1/\i.offset=2:=by
  refine⟨_,_,_,rfl,?_⟩
  decide
 obtain⟨g,h,i,j,n1,k,l,p,t2,t3,m,n,o⟩:=j
 rw[run_equalIn_struct w (d+1) 146 _ _ (by kernel_rfl) (by kernel_rfl),j]
 simp only[Op.eqFields,n1,k,l,p,t2,t3,m,n,o,ne_eq,not_false_eq_true,if_true,Sem.run_bind,Sem.run_ite,Sem.run_pure,
  vH #[I a,I b,I c] 0 (I a) rfl,vH #[I a,I b,I c] 1 (I b) rfl,vH #[I a,I b,I c] 2 (I c) rfl,
  vH #[I e,I b',I f] 0 (I e) rfl,vH #[I e,I b',I f] 1 (I b') rfl,vH #[I e,I b',I f] 2 (I f) rfl,
  Result.andThen_ok,run_equalIn_int _ _ _ _ _ _ _ underlying3]
 cases a==e<;>cases b==b'<;>cases c==f<;>rfl
theorem eqJ1(k a b c f g b' h:Int)(w:S):(Op.equal 162 (.agg #[I k,I a,I b,I c]) (.agg #[I f,I g,I b',I h])).run prog w=.ok (k==f&&(a==g&&b==b'&&c==h)) w:=by
 have i:∃d e,(prog.fieldsOf 162).toList=[d,e]/\d.name≠ "_" /\e.name≠ "_" /\d.type=3/\e.type=146/\d.offset=0/\e.offset=1:=by
  refine⟨_,_,rfl,?_⟩
  decide
 obtain⟨d,e,i,n1,l,o,t2,m,n⟩:=i
 have j:∀(k a b c:Int) (w:S),(part 146 #[I k,I a,I b,I c] 1).run prog w=.ok (.agg #[I a,I b,I c]) w:=fun k a b c w=>by kernel_rfl
 show(Op.equalIn (9999+1) 162 _ _).run prog w=_
 rw[run_equalIn_struct w 9999 162 _ _ (by kernel_rfl) (by kernel_rfl),i]
 simp only[Op.eqFields,n1,l,o,t2,m,n,ne_eq,not_false_eq_true,if_true,Sem.run_bind,Sem.run_ite,Sem.run_pure,
  vH #[I k,I a,I b,I c] 0 (I k) rfl,vH #[I f,I g,I b',I h] 0 (I f) rfl,j,
  Result.andThen_ok,show(9999:Nat)=9998+1 from rfl,run_equalIn_int _ _ _ _ _ _ _ underlying3]
 rw[show(9998+1:Nat)=9997+2 from rfl,eqS1]
 cases k==f<;>cases(a==g&&b==b'&&c==h)<;>rfl
theorem zhI(a b:Jk)(w:S):(binOp .eql 162 (.agg #[I a.kd,I a.s.t,I a.s.sr,I a.s.wn]) (.agg #[I b.kd,I b.s.t,I b.s.sr,I b.s.wn])).run prog w=.ok (.bool (decide (a=b))) w:=by
 have c:binOp .eql 162 (.agg #[I a.kd,I a.s.t,I a.s.sr,I a.s.wn]) (.agg #[I b.kd,I b.s.t,I b.s.sr,I b.s.wn])=(Op.equal 162 (.agg #[I a.kd,I a.s.t,I a.s.sr,I a.s.wn]) (.agg #[I b.kd,I b.s.t,I b.s.sr,I b.s.wn])>>=fun r=>pure (Value.bool r)):=by unfold binOp;rfl
 have d:(a.kd==b.kd&&(a.s.t==b.s.t&&a.s.sr==b.s.sr&&a.s.wn==b.s.wn))=decide (a=b):=by
  obtain⟨k,⟨t,s,w⟩⟩:=a
  obtain⟨e,⟨g,f,w'⟩⟩:=b
  rw[Bool.eq_iff_iff,decide_eq_true_iff]
  simp[and_assoc]
 rw[c,Sem.run_bind,eqJ1,d]
 rfl
def Tsk.kd(x:Tsk):Int:=if x.rl then 1 else 2
def Tsk.key(x:Tsk):Jk:=⟨x.kd,x.s⟩
theorem keyOf_any(x:Tsk)(w:S):Calls prog 102 #[(jZz x)] w (Rz w (.agg #[I x.kd,I x.s.t,I x.s.sr,I x.s.wn])):=by
 obtain⟨d,s,a,b,c⟩:=x
 cases d with
 |true=>exact keyOf_Roll s w
 |false=>exact keyOf_Reclaim s w
theorem zhn(x:Lse)(a:Nat)(k:Int)(w:S)(b:w.cell? (U a 0)=J (I k))(c:a<w.1.size):Calls prog 95 #[.agg (lZz x),(O a)] w (Rz w (.bool (x.slot==k))):=by
 go_enter func95,ntmps95
 go_wp2_with fail
 go_ret
 exact⟨rfl,(A _ _).alloc (E _) _⟩
theorem bsen:∀args w,(callFunc 95 args).run prog w=.ok (.enter 95 args) w:=enters_of func95 (by kernel_rfl) rfl
theorem zeH{α:Type}(p:α->Bool)(xs:List α):(decide (0<((xs.filter p).length:Int)))=xs.any p:=by
 rw[Bool.eq_iff_iff,decide_eq_true_iff,List.any_eq_true]
 constructor
 ·intro h
  have c:0<(xs.filter p).length:=by omega
  obtain⟨a,b⟩:=List.exists_mem_of_length_pos c
  exact⟨a,(List.mem_filter.1 b).1,(List.mem_filter.1 b).2⟩
 ·rintro⟨a,b,d⟩
  have:=List.length_pos_of_mem (List.mem_filter.2 ⟨b,d⟩)
  omega
theorem zkm{α:Type}(p:α->Bool){xs d:List α}(h:xs.Perm d):xs.any p=d.any p:=by
 rw[Bool.eq_iff_iff,List.any_eq_true,List.any_eq_true]
 constructor
 ·rintro⟨a,b,c⟩;exact⟨a,h.mem_iff.1 b,c⟩
 ·rintro⟨a,b,c⟩;exact⟨a,h.mem_iff.2 b,c⟩
theorem zha{α β:Type}(p:β->Bool){ps L:List (α×β)}(h:ps.Perm L):(decide (0<(((ps.map (fun q:α×β=>q.2)).filter p).length:Int)))=L.any (fun q=>p q.2):=by
 rw[zeH,<-zkm (fun q:α×β=>p q.2) h]
 induction ps generalizing L with
 |nil=>rfl
 |cons a r b=>simp only[List.map_cons,List.any_cons];rw[b (L:=r) (List.Perm.refl _)]
theorem zkv{w:S}{b:Nat}{c:Cf}{tv:R}{ep num:Int}{tb qb:Nat}{TL:List (Jk×Tsk)}{QL:List (Tok×Lse)}(h:zC w b c tv ep num tb qb TL QL)(slot:Int)(v:QL.length<=100000):
  Calls prog 47 #[(O b),I slot] w (Rz w (.bool (QL.any (fun p=>p.2.slot==slot)))):=by
 have l:=h.lt
 have i:=h.cell10
 have j:∀o,G w.1.size w (w.alloc o):=fun o=>(A _ _).alloc (E _) _
 obtain⟨g,q,a,r⟩:=box2 w (.cells #[I slot] 3) (.cells #[.map (J qb)] 168)
 have u:=ze (zhV qb (w.alloc (.cells #[I slot] 3)))
 have t:=ze (zhv 156 #[(O (w.1.size+1))] zmA 95 #[] #[(O w.1.size)] bsen (fun x=>x.slot==slot) _
  (fun x W n=>zhn x w.1.size slot W (by rw[xH ((n.block _ (zd g)).trans g)];rfl) (H (zd g) n.size))
  (zmF (ex:=fun _=>False) (w.1.size+1) qb QL _ (fun e=>e) (by rw[r];omega) (by rw[xH q];rfl) (h.leases.later a)) (fun xs ⟨ps,f,e⟩=>by rw[e,List.length_map,f.length_eq];omega))
 have d:=ze a
 have m:=((j (.cells #[I slot] 3)).cell (p:=(U b 10)) l).trans i
 clear h v g q a r
 go_enter func47,ntmps47
 go_wp2_with fail
 refine(ud u).mono ?_
 rintro e y ⟨rfl,rfl⟩
 go_wp2_with fail
 refine(ud t).mono ?_
 rintro e y ⟨xs,⟨ps,f,rfl⟩,rfl,k⟩
 have s:=ze (zha (fun x:Lse=>x.slot==slot) f)
 clear f
 go_wp2_with fail
 go_ret
 exact⟨by rw[<-ud s];rfl,(ud d).trans (k.mono (ud d).size)⟩
theorem zcA(g:Lse)(e:Nat)(x:Tsk)(w:S)(l:w.1[e]?=J (.cells (tZz x) 177 (0,0))):Calls prog 159 #[.agg (lZz g),(O e)] w (Rz w (.bool (decide ((⟨g.kd,g.s⟩:Jk)=x.key)))):=by
 have F:=zd l
 obtain⟨y,-⟩:=zc l
 have B:=fun W=>ze (keyOf_any x W)
 have a:G w.1.size w (w.alloc (.cells (lZz g) 164)):=(A _ _).alloc (E _) _
 have r:=zp w (.cells (lZz g) 164)
 have t:=zN w (.cells (lZz g) 164)
 have P:=(a.cell (p:=(U e 0)) F).trans y
 obtain⟨I,K,L,M,-⟩:=zc r
 have v:=fun W=>zhI ⟨g.kd,g.s⟩ x.key W
 obtain⟨d,m⟩:∃d,decide ((⟨g.kd,g.s⟩:Jk)=x.key)=d:=⟨_,rfl⟩
 rw[m]
 simp only[m]at v
 clear m
 dsimp only[Tsk.key]at v
 have f:=ze a
 have z:=ze t
 clear l r t a y
 go_enter func159,ntmps159
 go_wp2_with fail
 have Q:w.1.size<w.1.size+1:=by omega
 have T:e<w.1.size+1:=by omega
 generalize(w.alloc (.cells (lZz g) 164))=X at*
 generalize C:w.1.size+1=N at*
 have q:Nonempty (xc N X):=xc.some _ _
 have n:=fun(u:xc N X) b o h=>u.cell b o h
 have c:N<=X.1.size:=by rw[ud z];exact E _
 have j:=ze c
 have i:Hid (w.1.size<=N):=by show w.1.size<=N;omega
 clear c C
 refine zx N (by kernel_rfl) (by kernel_rfl) ?_
 repeat(go_big_quiet_step (first
  |(go_at_call 102;exact Calls.later (ud j) (ud (B _)))))
 refine wpQuiet_nil ?_
 rintro⟨V,k⟩
 clear n q
 dsimp only
 go_wp2_with fail
 go_ret
 exact⟨rfl,(ud f).trans (k.mono (ud i))⟩
theorem lsen:∀args w,(callFunc 159 args).run prog w=.ok (.enter 159 args) w:=enters_of func159 (by kernel_rfl) rfl
def k7(QL:List (Tok×Lse))(k:Jk):Bool:=QL.any (fun p=>decide ((⟨p.2.kd,p.2.s⟩:Jk)=k))
theorem zfn{w:S}{b:Nat}{c:Cf}{tv:R}{ep num:Int}{tb qb:Nat}{TL:List (Jk×Tsk)}{QL:List (Tok×Lse)}(h:zC w b c tv ep num tb qb TL QL)(x:Tsk)(z:QL.length<=100000):
  Calls prog 99 #[(O b),.agg (tZz x)] w (Rz w (.bool (k7 QL x.key))):=by
 have l:=h.lt
 have i:=h.cell10
 have j:∀o,G w.1.size w (w.alloc o):=fun o=>(A _ _).alloc (E _) _
 obtain⟨m,q,a,r⟩:=box2 w (.cells (tZz x) 177) (.cells #[.map (J qb)] 168)
 have v:=ze (zhV qb (w.alloc (.cells (tZz x) 177)))
 have u:=ze (zhv 156 #[(O (w.1.size+1))] zmA 159 #[] #[(O w.1.size)] lsen (fun g=>decide ((⟨g.kd,g.s⟩:Jk)=x.key)) _
  (fun g W y=>zcA g w.1.size x W ((y.block _ (zd m)).trans m))
  (zmF (ex:=fun _=>False) (w.1.size+1) qb QL _ (fun e=>e) (by rw[r];omega) (by rw[xH q];rfl) (h.leases.later a)) (fun xs ⟨ps,f,e⟩=>by rw[e,List.length_map,f.length_eq];omega))
 have d:=ze a
 have n:=((j (.cells (tZz x) 177)).cell (p:=(U b 10)) l).trans i
 clear h z m q a r
 go_enter func99,ntmps99
 go_wp2_with fail
 refine(ud v).mono ?_
 rintro e B ⟨rfl,rfl⟩
 go_wp2_with fail
 refine(ud u).mono ?_
 rintro e B ⟨xs,⟨ps,f,rfl⟩,rfl,k⟩
 have t:=ze (zha (fun g:Lse=>decide ((⟨g.kd,g.s⟩:Jk)=x.key)) f)
 clear f
 go_wp2_with fail
 go_ret
 refine⟨?_,(ud d).trans (k.mono (ud d).size)⟩
 unfold k7
 rw[<-ud t];rfl
def Tk.holds(ep num:Int)(x:Tk):Bool:=decide (0<=x.slot)&&(decide (x.ep=ep)&&decide (x.num=num))
structure MS where
 now:Int
 L:LV
 Gl:List (Sg×Unit)
 num:Int
 TL:List (Jk×Tsk)
 QL:List (Tok×Lse)
def Lse.job(g:Lse):Jk:=⟨g.kd,g.s⟩
def Cf.clo(c:Cf)(now:Int)(s:Sg):Prop:=(s.wn+1)*c.wh s.t<=now-c.la
def Cf.b(c:Cf):Nat:=((List.range c.n).find? (fun j:Nat=>decide (c.F j= -1))).getD 0
theorem Cf.b_of{c:Cf}(h:∃j:Nat,j<c.n/\c.F j= -1):c.b<c.n/\c.F c.b= -1:=by
 obtain⟨j,f,e⟩:=h
 unfold Cf.b
 cases a:(List.range c.n).find? (fun j:Nat=>decide (c.F j= -1))with
 |none=>exact absurd (decide_eq_true e) (List.find?_eq_none.1 a j (List.mem_range.2 f))
 |some i=>
  have d:=List.find?_some a
  exact⟨List.mem_range.1 (List.mem_of_find?_eq_some a),of_decide_eq_true d⟩
structure Cf.fits(c:Cf):Prop where
 bn:c.b<c.n
 from0:c.F c.b= -1
 div0:∃q:Int,1<=q/\c.W c.b=c.wi*q
 down:∀i:Nat,i<c.n-> -1<=c.F i/\c.F i<c.n
 quot:∀i:Nat,i<c.n->∃q:Int,1<=q/\c.W i=c.wh (c.F i)*q
 dn:∀i:Nat,i<c.n->Go.Proofs.YtndhpgciopcncaaGreatDoor.down c.F c.n (i:Int)=true
theorem Cf.clo_mono{c:Cf}{a b:Int}(h:a<=b){s:Sg}(d:c.clo a s):c.clo b s:=by unfold Cf.clo at*;omega
structure zgH(c:Cf)(now:Int)(L:LV)(p:Jk×Tsk):Prop where
 key:p.1=p.2.key
 mem:p.2.s∈zn L
 clo:c.clo now p.2.s
 roll:p.2.rl=true->(stL L p.2.s).st=2
 recl:p.2.rl=false->(stL L p.2.s).st≠2
 se:0<=p.2.se/\p.2.se<=now
 ti:0<=p.2.ti/\p.2.ti<=p.2.rest/\p.2.rest<=now+32
structure zmS(c:Cf)(ep now num:Int)(TL:List (Jk×Tsk))(q:Tok×Lse):Prop where
 job:∃x,zD TL q.2.job=J x/\x.rest<=now
 ep:q.1.ep=ep
 num:1<=q.1.num/\q.1.num<=num
 til:now<q.2.til/\q.2.til<=now+c.le
structure yd(c:Cf)(now:Int)(L:LV)(Gl:List (Sg×Unit)):Prop where
 inr:∀p∈L,inR c p.1
 nl:(zn L).Nodup
 raw:∀p∈L,p.1.t= -1->p.2.st=1/\1<=p.2.cl.cnt/\ -(p.2.cl.cnt*2147483648)<=p.2.cl.sum/\p.2.cl.sum<=p.2.cl.cnt*2147483648
 tier:∀p∈L,0<=p.1.t->p.2.st=2\/p.2.st=3
 disj:∀p∈L,p.1∉zj Gl
 ng:(zj Gl).Nodup
 pubc:∀p∈L,p.2.st=3->c.clo now p.1
 goc:∀k∈zj Gl,c.clo now k
 above:∀p∈L,p.1.t= -1->(⟨(c.b:Int),p.1.sr,p.1.wn*c.wi/c.W c.b⟩:Sg)∈zn L\/(⟨(c.b:Int),p.1.sr,p.1.wn*c.wi/c.W c.b⟩:Sg)∈zj Gl
 used:zJ L<=c.qu
structure MOk(c:Cf)(ep:Int)(m:MS):Prop where
 now:0<=m.now/\m.now<=100000
 seg:yd c m.now m.L m.Gl
 td:∀p∈m.TL,zgH c m.now m.L p
 nt:(zj m.TL).Nodup
 leas:∀q∈m.QL,zmS c ep m.now m.num m.TL q
 nq:(zj m.QL).Nodup
 jobs:(m.QL.map (fun q=>q.2.job)).Nodup
 num:0<=m.num
section
variable {c:Cf} {now:Int} {L:LV} {Gl:List (Sg×Unit)}
theorem yd.use{now:Int}(h:yd c now L Gl):∀p∈L,1<=qV p.2:=fun p a=>by
 have e:=h.inr p a
 by_cases f:p.1.t= -1
 ·obtain⟨b,d,_⟩:=h.raw p a f
  unfold qV;rw[if_pos b];exact d
 ·have:=h.tier p a (by have:=e.2.1;omega)
  unfold qV;rw[if_neg (by omega)];omega
theorem zjv:∀(l:List Int),(∀x∈l,1<=x)->(l.length:Int)<=qw l
 |[],_=>by simp[qw]
 |a::l,h=>by
  have c:=h a (by simp)
  have d:=zjv l (fun x b=>h x (by simp[b]))
  simp only[qw,List.length_cons];omega
theorem zex:∀(l:List Int) (a:Int),(∀x∈l,0<=x)->a∈l->a<=qw l
 |[],_,_,h=>by simp at h
 |b::l,a,h,d=>by
  have e:=h b (by simp)
  have i:0<=qw l:=by
   clear d e
   induction l with
   |nil=>simp[qw]
   |cons x l g=>
    have:=h x (by simp)
    have:=g (fun y c=>h y (by simp at c ⊢;rcases c with c|c<;>simp[c]))
    simp only[qw];omega
  rcases List.mem_cons.1 d with rfl|d
  ·simp only[qw];omega
  ·have:=zex l a (fun x f=>h x (by simp[f])) d
   simp only[qw];omega
theorem yd.len(h:yd c now L Gl):(L.length:Int)<=zJ L:=by
 have:=zjv (L.map (fun p=>qV p.2)) (fun x b=>by obtain⟨p,a,rfl⟩:=List.mem_map.1 b;exact h.use p a)
 simpa[zJ]using this
theorem yd.len400(h:yd c now L Gl)(a:c.ok):L.length<=400:=by
 have b:=h.len;have d:=h.used;have e:=a.qu;omega
theorem yd.cnt(h:yd c now L Gl)(d:c.ok):∀p∈L,p.1.t= -1->p.2.cl.cnt<=400:=fun p a f=>by
 obtain⟨b,i,_⟩:=h.raw p a f
 have j:qV p.2<=zJ L:=zex _ _ (fun x g=>by obtain⟨q,e,rfl⟩:=List.mem_map.1 g;have:=h.use q e;omega) (List.mem_map.2 ⟨p,a,rfl⟩)
 have k:qV p.2=p.2.cl.cnt:=by unfold qV;rw[if_pos b]
 have l:=h.used;have m:=d.qu;omega
theorem yd.u0(h:yd c now L Gl)(a:c.ok):0<=zJ L/\zJ L<=400:=by
 have b:=h.len;have d:=h.used;have e:=a.qu;omega
theorem yd.st(h:yd c now L Gl):∀p∈L,p.2.st≠0:=fun p a=>by
 have b:=h.inr p a
 by_cases d:p.1.t= -1
 ·obtain⟨e,_⟩:=h.raw p a d;omega
 ·have:=h.tier p a (by have:=b.2.1;omega);omega
end
theorem jE{α:Type}[DecidableEq α]:∀(l m:List α),l.Nodup->(∀x∈l,x∈m)->l.length<=m.length
 |[],_,_,_=>by simp
 |a::l,m,hn,c=>by
  have b:=c a (by simp)
  obtain⟨f,g⟩:=List.nodup_cons.1 hn
  have:=jE l (m.erase a) g (fun x d=>(List.mem_erase_of_ne (fun e=>f (by rw[<-e];exact d))).2 (c x (by simp[d])))
  rw[List.length_erase_of_mem b]at this
  have h:0<m.length:=List.length_pos_of_mem b
  simp only[List.length_cons];omega
section
variable {c:Cf} {ep:Int} {m:MS}
theorem MOk.tlen(h:MOk c ep m):m.TL.length<=2*m.L.length:=by
 have d:=jE (zj m.TL) ((zn m.L).map (fun s=>(⟨1,s⟩:Jk))++(zn m.L).map (fun s=>(⟨2,s⟩:Jk))) h.nt (fun k e=>by
  obtain⟨p,f,rfl⟩:=List.mem_map.1 (show k∈m.TL.map (·.1)from e)
  have a:=h.td p f
  rw[a.key]
  cases b:p.2.rl with
  |true=>exact List.mem_append_left _ (List.mem_map.2 ⟨p.2.s,a.mem,by simp[Tsk.key,Tsk.kd,b]⟩)
  |false=>exact List.mem_append_right _ (List.mem_map.2 ⟨p.2.s,a.mem,by simp[Tsk.key,Tsk.kd,b]⟩))
 simp[zj,zn]at d
 omega
theorem MOk.qlen(h:MOk c ep m):m.QL.length<=m.TL.length:=by
 have a:=jE (m.QL.map (fun q=>q.2.job)) (zj m.TL) h.jobs (fun k b=>by
  obtain⟨q,d,rfl⟩:=List.mem_map.1 b
  obtain⟨x,e,_⟩:=(h.leas q d).job
  exact List.mem_map.2 ⟨_,zB e,rfl⟩)
 simpa[zj]using a
theorem MOk.t800(h:MOk c ep m)(a:c.ok):m.TL.length<=800:=by have:=h.tlen;have:=h.seg.len400 a;omega
theorem MOk.q800(h:MOk c ep m)(a:c.ok):m.QL.length<=800:=by have:=h.t800 a;have:=h.qlen;omega
theorem MOk.mem_inR(h:MOk c ep m){s:Sg}(b:s∈zn m.L):inR c s:=by
 obtain⟨p,a,rfl⟩:=List.mem_map.1 (show s∈m.L.map (·.1)from b)
 exact h.seg.inr p a
theorem MOk.wfk(h:MOk c ep m):∀p∈m.TL,p.1.wf:=fun p b=>by
 have a:=h.td p b
 rw[a.key]
 refine⟨?_,(h.mem_inR a.mem).1⟩
 unfold Tsk.key Tsk.kd xg
 dsimp only
 split<;>omega
theorem MOk.binv(h:MOk c ep m)(b:c.ok):zmw 1000000 100000 m.TL m.QL:=by
 have e:=h.q800 b
 have hn:=h.now
 refine⟨fun p a=>?_,fun p a=>?_,h.wfk,by have:=h.t800 b;omega,h.nt,h.nq⟩
 ·obtain⟨x,d,_⟩:=(h.leas p a).job;exact⟨x,d⟩
 ·have:=(h.td p a).ti;omega
end
theorem zhQ{L:LV}(hn:(zn L).Nodup)(s k:Sg)(v:SV):yY (qT L s v) k=if k=s then J v else yY L k:=kJ (L:=L) hn s v k
theorem zjp{L:LV}(hn:(zn L).Nodup)(s k:Sg)(v:SV):stL (qT L s v) k=if k=s then v else stL L k:=by
 unfold stL;rw[zhQ hn];split<;>rfl
theorem zpD{L:LV}(hn:(zn L).Nodup){p:Sg×SV}(a:p∈L):stL L p.1=p.2:=by
 unfold stL;rw[show yY L p.1=J p.2 from xp (L:=L) hn a];rfl
theorem zU{L:LV}{s:Sg}(b:s∈zn L):(s,stL L s)∈L:=by
 obtain⟨v,hv,a⟩:=Ql b
 unfold stL;rw[hv];exact a
theorem Jd{c:Cf}{ep:Int}{now n':Int}{L:LV}{num:Int}{TL:List (Jk×Tsk)}{QL:List (Tok×Lse)}(u:now<=n')
  (ht:∀p∈TL,zgH c now L p) (nt:(zj TL).Nodup) (Z:∀q∈QL,zmS c ep now num TL q) (nq:(zj QL).Nodup) (jobs:(QL.map (fun q=>q.2.job)).Nodup)
  {m:List (Jk×Tsk)} {Q1:List (Tok×Lse)} (h:zag n' TL QL m Q1):
  (∀p∈m,zgH c n' L p)/\(zj m).Nodup/\(zj Q1).Nodup/\(Q1.map (fun q=>q.2.job)).Nodup/\(∀q∈Q1,q∈QL)/\(∀q∈QL,n'<q.2.til->q∈Q1)/\(∀q∈Q1,∃x,zD m q.2.job=J x/\x.rest<=now)/\(∀k,k∈zj m↔k∈zj TL):=by
 induction h with
 |nil=>
  refine⟨fun p v=>?_,nt,nq,jobs,fun q h=>h,fun q h _=>h,fun q h=>(Z q h).job,fun k=>Iff.rfl⟩
  have:=ht p v
  exact⟨this.key,this.mem,Cf.clo_mono u this.clo,this.roll,this.recl,⟨this.se.1,by have:=this.se;omega⟩,by have:=this.ti;omega⟩
 | @step m Q1 t g x _ O Y T ih=>
  obtain⟨U,i2,i3,i4,i5,V,W,X⟩:=ih
  have n:=zB O
  have z:=zB T
  have r:∀q∈xa Q1 t,q.2.job≠g.job:=fun q d e=>by
   obtain⟨I,K⟩:=zT.1 d
   have w:Q1.Pairwise (fun a b=>a.2.job≠b.2.job):=List.pairwise_map.1 i4
   obtain⟨i,P,F⟩:=List.getElem_of_mem I
   obtain⟨j,Q,B⟩:=List.getElem_of_mem n
   rcases Nat.lt_trichotomy i j with o|o|o
   ·have:=List.pairwise_iff_getElem.1 w i j P Q o;rw[F,B]at this;exact this e
   ·subst o;rw[F]at B;exact K (by rw[B])
   ·have:=List.pairwise_iff_getElem.1 w j i Q P o;rw[F,B]at this;exact this e.symm
  have a0:x.rest<=now:=by
   obtain⟨y,N,M⟩:=W _ n
   have:y=x:=by have:=N.symm.trans T;injection this
   rw[<-this];exact M
  refine⟨fun p v=>?_,qc i2,xU i3,?_,fun q d=>i5 q (zT.1 d).1,fun q d l=>?_,fun q d=>?_,fun k=>?_⟩
  ·rcases qF v with rfl|⟨v,_⟩
   ·have f:=U _ z
    have hb:=Xp (x.ti+1).toNat
    exact⟨f.key,f.mem,f.clo,f.roll,f.recl,f.se,by have:=f.ti;simp only[Tsk.failed]at*;omega⟩
   ·exact U p v
  ·unfold xa
   exact i4.sublist (List.Sublist.map _ (List.filter_sublist))
  ·refine zT.2 ⟨V q d l,fun e=>?_⟩
   have C:=xp i3 (V q d l)
   rw[e,O]at C;injection C with C;rw[<-C]at l;omega
  ·obtain⟨y,N,M⟩:=W q (zT.1 d).1
   refine⟨y,?_,M⟩
   rw[kJ i2,if_neg (show¬q.2.job=⟨g.kd,g.s⟩from r q d)];exact N
  ·rw[zY,X k]
   constructor
   ·rintro(h|rfl)
    ·exact h
    ·exact(X _).1 (List.mem_map.2 ⟨_,z,rfl⟩)
   ·exact .inl
theorem MOk.exps{c:Cf}{ep:Int}{m:MS}(h:MOk c ep m){n':Int}(hn:m.now<=n'/\n'<=100000){d:List (Jk×Tsk)}{QL':List (Tok×Lse)}(g:zag n' m.TL m.QL d QL')(l:∀p∈QL',n'<p.2.til):
  MOk c ep {m with now:=n',TL:=d,QL:=QL'}:=by
 obtain⟨o,i2,i3,i4,i5,t,r,u⟩:=Jd hn.1 h.td h.nt h.leas h.nq h.jobs g
 have a:=h.seg
 refine⟨⟨by have:=h.now;show 0<=n';omega,hn.2⟩,⟨a.inr,a.nl,a.raw,a.tier,a.disj,a.ng,fun p j f=>Cf.clo_mono hn.1 (a.pubc p j f),fun k i=>Cf.clo_mono hn.1 (a.goc k i),a.above,a.used⟩,o,i2,fun q b=>?_,i3,i4,h.num⟩
 have e:=h.leas q (i5 q b)
 obtain⟨x,n,s⟩:=r q b
 exact⟨⟨x,n,by show x.rest<=n';omega⟩,e.ep,e.num,l q b,by have:=e.til;show q.2.til<=n'+c.le;omega⟩
theorem zkI(c:Cf)(l:c.ok)(a:Option Addr)(cap:Nat)(s:Sg)(j: -1<=s.t)(k:s.t<c.n)(h:0<=s.wn/\s.wn<=100000)(w:S)(g:TS w a c.n c.F c.W c.K):
  Calls prog 333 #[.agg #[I s.t,I s.sr,I s.wn],(cZz c a cap)] w (Rz w (I ((s.wn+1)*c.wh s.t))):=by
 obtain⟨o,p,f,r⟩:=box2 w (.cells #[I s.t,I s.sr,I s.wn] 195) (.cells (aZz c a cap) 89)
 have m:=fun W q=>ze (Jr c l a cap s.t s.wn j k h W (g.below (w':=W) q))
 have b:=ze f
 clear g l h f o p
 go_enter func333,ntmps333
 go_wp2_with(first|(go_at_call 180;refine(ud (m _ (ud b))).mono ?_;rintro e u ⟨rfl,d⟩;have i:=ze d;clear d))
 go_ret
 exact⟨rfl,(ud b).trans ((ud i).mono (ud b).size)⟩
theorem zcn(c:Cf)(l:c.ok)(a:Option Addr)(cap:Nat)(s:Sg)(j: -1<=s.t)(k:s.t<c.n)(h:0<=s.wn/\s.wn<=100000)(w:S)(g:TS w a c.n c.F c.W c.K):
  Calls prog 336 #[.agg #[I s.t,I s.sr,I s.wn],(cZz c a cap)] w (Rz w (I ((s.wn+1)*c.wh s.t+c.keep s.t))):=by
 obtain⟨o,p,f,r⟩:=box2 w (.cells #[I s.t,I s.sr,I s.wn] 197) (.cells (aZz c a cap) 89)
 have m:=fun W q=>ze (zaV c l a cap s.t s.wn j k h W (g.below (w':=W) q))
 have b:=ze f
 clear g l h f o p
 go_enter func336,ntmps336
 go_wp2_with(first|(go_at_call 177;refine(ud (m _ (ud b))).mono ?_;rintro e u ⟨rfl,d⟩;have i:=ze d;clear d))
 go_ret
 exact⟨rfl,(ud b).trans ((ud i).mono (ud b).size)⟩
theorem zfI{w:S}{b:Nat}{c:Cf}{a:Option Addr}{cap:Nat}{ep num:Int}{tb qb:Nat}{TL:List (Jk×Tsk)}{QL:List (Tok×Lse)}(h:zC w b c (.slice a c.n cap) ep num tb qb TL QL)(r:c.ok)(m:TS w a c.n c.F c.W c.K)(s:Sg)(se ti rest now:Int)(e: -1<=s.t)(f:s.t<c.n)(q:0<=s.wn/\s.wn<=100000)(V:0<=now/\now<=100000)(a4:0<=se/\se<=now)
  (g i:Nat) (l1:g<w.1.size) (l2:i<w.1.size) (Q:w.cell? (U g 0)=J (O b)) (T:w.cell? (U i 0)=J (I now)):
  Calls prog 160 #[.agg #[.iface 195 (.agg #[I s.t,I s.sr,I s.wn]),I se,I ti,I rest],(O g),(O i)] w (Rz w (I ((s.wn+1)*c.wh s.t-(now-se)/4))):=by
 have a0:=h.lt
 have d:G w.1.size w (w.alloc (.cells #[.iface 195 (.agg #[I s.t,I s.sr,I s.wn]),I se,I ti,I rest] 177)):=(A _ _).alloc (E _) _
 have M:=zp w (.cells #[.iface 195 (.agg #[I s.t,I s.sr,I s.wn]),I se,I ti,I rest] 177)
 have P:=zN w (.cells #[.iface 195 (.agg #[I s.t,I s.sr,I s.wn]),I se,I ti,I rest] 177)
 have L:=fun W hW=>ze (zkI c r a cap s e f q W (m.below (w':=W) hW))
 have hm:=Jw s
 have hR:0<=(s.wn+1)*c.wh s.t/\(s.wn+1)*c.wh s.t<=1000000000:=by
  obtain⟨a5,C⟩:=r.wh e f
  obtain⟨a1,a2⟩:=r.keeps e f
  have h1:=Int.mul_nonneg (show 0<=s.wn+1 by omega) (show 0<=c.wh s.t by omega)
  have h2:=Int.mul_le_mul (show s.wn+1<=100001 by omega) C (by omega) (by omega)
  omega
 obtain⟨v,hv⟩:∃v,(s.wn+1)*c.wh s.t=v:=⟨_,rfl⟩
 simp only[hv]at L hR ⊢
 have hq:Int.tdiv (now-se) 4=(now-se)/4:=Int.tdiv_eq_ediv_of_nonneg (by omega)
 have a3:0<=(now-se)/4/\(now-se)/4<=100000:=by omega
 have Y:=((h.later d)).head
 obtain⟨k0,k1,-⟩:=zc M
 have m1:=(d.cell (p:=(U g 0)) l1).trans Q
 have m2:=(d.cell (p:=(U i 0)) l2).trans T
 obtain⟨y0,y1,y2,y3,y4,y5,y6,-⟩:=zc Y
 have j:=ze d
 have Z:=ze P
 have HQ:=ze hq
 clear h m r q Q T Y M P d hv
 go_enter func160,ntmps160
 go_wp2_with fail
 have q1:w.1.size<w.1.size+1:=by omega
 have q2:g<w.1.size+1:=by omega
 have q3:i<w.1.size+1:=by omega
 have q4:b<w.1.size+1:=by omega
 generalize(w.alloc (.cells #[.iface 195 (.agg #[I s.t,I s.sr,I s.wn]),I se,I ti,I rest] 177))=X at*
 generalize hN:w.1.size+1=N at*
 have B:Nonempty (xc N X):=xc.some _ _
 have z:=fun(u:xc N X) b o h=>u.cell b o h
 have l:N<=X.1.size:=by rw[ud Z];exact E _
 have x:=ze l
 have k:Hid (w.1.size<=N):=by show w.1.size<=N;omega
 clear l hN
 refine zx N (by kernel_rfl) (by kernel_rfl) ?_
 repeat(go_big_quiet_step (first
  |(go_at_call 333;exact Calls.later (ud x) (ud (L _ ((ud j).trans (Below.mono (Subtype.property _) (ud k))))))))
 refine wpQuiet_nil ?_
 rintro⟨w1,y⟩
 clear z B
 dsimp only
 go_wp2_with fail
 go_ret
 exact⟨by first|rfl|rw[ud HQ],(ud j).trans (y.mono (ud k))⟩
theorem JG{w:S}{b:Nat}{c:Cf}{a:Option Addr}{cap:Nat}{ep num:Int}{tb qb:Nat}{TL:List (Jk×Tsk)}{QL:List (Tok×Lse)}(h:zC w b c (.slice a c.n cap) ep num tb qb TL QL)(r:c.ok)(m:TS w a c.n c.F c.W c.K)(s:Sg)(se ti rest now:Int)(e: -1<=s.t)(f:s.t<c.n)(q:0<=s.wn/\s.wn<=100000)(V:0<=now/\now<=100000)(a4:0<=se/\se<=now)
  (g i:Nat) (l1:g<w.1.size) (l2:i<w.1.size) (Q:w.cell? (U g 0)=J (O b)) (T:w.cell? (U i 0)=J (I now)):
  Calls prog 160 #[.agg #[.iface 197 (.agg #[I s.t,I s.sr,I s.wn]),I se,I ti,I rest],(O g),(O i)] w (Rz w (I ((s.wn+1)*c.wh s.t+c.keep s.t-(now-se)/4))):=by
 have a0:=h.lt
 have d:G w.1.size w (w.alloc (.cells #[.iface 197 (.agg #[I s.t,I s.sr,I s.wn]),I se,I ti,I rest] 177)):=(A _ _).alloc (E _) _
 have M:=zp w (.cells #[.iface 197 (.agg #[I s.t,I s.sr,I s.wn]),I se,I ti,I rest] 177)
 have P:=zN w (.cells #[.iface 197 (.agg #[I s.t,I s.sr,I s.wn]),I se,I ti,I rest] 177)
 have L:=fun W hW=>ze (zcn c r a cap s e f q W (m.below (w':=W) hW))
 have hm:=Yh s
 have hR:0<=(s.wn+1)*c.wh s.t+c.keep s.t/\(s.wn+1)*c.wh s.t+c.keep s.t<=1000000000:=by
  obtain⟨a5,C⟩:=r.wh e f
  obtain⟨a1,a2⟩:=r.keeps e f
  have h1:=Int.mul_nonneg (show 0<=s.wn+1 by omega) (show 0<=c.wh s.t by omega)
  have h2:=Int.mul_le_mul (show s.wn+1<=100001 by omega) C (by omega) (by omega)
  omega
 obtain⟨v,hv⟩:∃v,(s.wn+1)*c.wh s.t+c.keep s.t=v:=⟨_,rfl⟩
 simp only[hv]at L hR ⊢
 have hq:Int.tdiv (now-se) 4=(now-se)/4:=Int.tdiv_eq_ediv_of_nonneg (by omega)
 have a3:0<=(now-se)/4/\(now-se)/4<=100000:=by omega
 have Y:=((h.later d)).head
 obtain⟨k0,k1,-⟩:=zc M
 have m1:=(d.cell (p:=(U g 0)) l1).trans Q
 have m2:=(d.cell (p:=(U i 0)) l2).trans T
 obtain⟨y0,y1,y2,y3,y4,y5,y6,-⟩:=zc Y
 have j:=ze d
 have Z:=ze P
 have HQ:=ze hq
 clear h m r q Q T Y M P d hv
 go_enter func160,ntmps160
 go_wp2_with fail
 have q1:w.1.size<w.1.size+1:=by omega
 have q2:g<w.1.size+1:=by omega
 have q3:i<w.1.size+1:=by omega
 have q4:b<w.1.size+1:=by omega
 generalize(w.alloc (.cells #[.iface 197 (.agg #[I s.t,I s.sr,I s.wn]),I se,I ti,I rest] 177))=X at*
 generalize hN:w.1.size+1=N at*
 have B:Nonempty (xc N X):=xc.some _ _
 have z:=fun(u:xc N X) b o h=>u.cell b o h
 have l:N<=X.1.size:=by rw[ud Z];exact E _
 have x:=ze l
 have k:Hid (w.1.size<=N):=by show w.1.size<=N;omega
 clear l hN
 refine zx N (by kernel_rfl) (by kernel_rfl) ?_
 repeat(go_big_quiet_step (first
  |(go_at_call 336;exact Calls.later (ud x) (ud (L _ ((ud j).trans (Below.mono (Subtype.property _) (ud k))))))))
 refine wpQuiet_nil ?_
 rintro⟨w1,y⟩
 clear z B
 dsimp only
 go_wp2_with fail
 go_ret
 exact⟨by first|rfl|rw[ud HQ],(ud j).trans (y.mono (ud k))⟩
theorem vJ{c:Cf}(h:xW c.s c.le c.la c.wi c.ke c.qu c.n c.F c.W c.K=true):c.ok:=by
 unfold xW at h
 simp only[Bool.and_eq_true,vQ,Zr]at h
 obtain⟨⟨⟨⟨⟨⟨⟨⟨d,e⟩,f⟩,g⟩,j⟩,k⟩,m⟩,l⟩,o⟩:=h
 have b:∀i,i<c.n->(-1<=c.F i/\c.F i<=(c.n:Int)-1)/\(1<=c.W i/\c.W i<=1000)/\(0<=c.K i/\c.K i<=1000):=fun i a=>by
  have:=l i a
  unfold Zm at this
  simp only[Bool.and_eq_true,vQ]at this
  exact⟨this.1.1,this.1.2,this.2⟩
 exact⟨by omega,by omega,g.1,by omega,fun i a=>(b i a).2.1,fun i a=>by have:=(b i a).1;omega,fun i a=>(b i a).2.2,j,f,k,d,e⟩
structure vL(wi:Int)(k:Nat)(F W K:Nat->Int):Prop where
 tF:∀i,i<k-> -1<=F i/\F i<i
 tW:∀i,i<k->1<=W i/\W i<=1000
 tQ:∀i,i<k->∃q:Int,1<=q/\W i=zP wi W (F i)*q
 tK:∀i,i<k->0<=K i/\K i<=1000
def Zp(F:Nat->Int)(k:Nat)(v:Int):Nat->Int:=fun j=>if j=k then v else F j
theorem QG(F:Nat->Int)(k:Nat)(v:Int):Zp F k v k=v:=by simp[Zp]
theorem Xv(F:Nat->Int){k j:Nat}(v:Int)(h:j≠k):Zp F k v j=F j:=by simp[Zp,h]
theorem KJ{wi:Int}{W:Nat->Int}{k:Nat}{v f:Int}(a: -1<=f)(b:f<k):zP wi (Zp W k v) f=zP wi W f:=by
 unfold zP
 split
 ·rfl
 ·rw[Xv];omega
theorem vL.none(wi:Int)(F W K:Nat->Int):vL wi 0 F W K:=⟨fun i h=>by omega,fun i h=>by omega,fun i h=>by omega,fun i h=>by omega⟩
theorem vL.more{wi:Int}{k:Nat}{F W K:Nat->Int}(h:vL wi k F W K){f q p:Int}(b: -1<=f)(c:f<k)(d:1<=q)(g:1<=zP wi W f*q)(j:zP wi W f*q<=1000)(l:0<=p/\p<=1000):
  vL wi (k+1) (Zp F k f) (Zp W k (zP wi W f*q)) (Zp K k p):=by
 refine⟨fun i a=>?_,fun i a=>?_,fun i a=>?_,fun i a=>?_⟩
 ·by_cases e:i=k
  ·subst e;rw[QG];exact⟨b,c⟩
  ·rw[Xv _ _ e];exact h.tF i (by omega)
 ·by_cases e:i=k
  ·subst e;rw[QG];exact⟨g,j⟩
  ·rw[Xv _ _ e];exact h.tW i (by omega)
 ·by_cases e:i=k
  ·subst e;rw[QG,QG,KJ b c];exact⟨q,d,rfl⟩
  ·have m:=h.tF i (by omega)
   rw[Xv _ _ e,Xv _ _ e,KJ m.1 (by omega)];exact h.tQ i (by omega)
 ·by_cases e:i=k
  ·subst e;rw[QG];exact l
  ·rw[Xv _ _ e];exact h.tK i (by omega)
theorem vL.wh{wi:Int}{k:Nat}{F W K:Nat->Int}(h:vL wi k F W K)(a:1<=wi/\wi<=1000){f:Int}(b: -1<=f)(c:f<k):1<=zP wi W f/\zP wi W f<=1000:=by
 unfold zP
 split
 ·exact a
 ·exact h.tW _ (by omega)
theorem zcm{F:Nat->Int}{n:Nat}(h:∀i,i<n-> -1<=F i/\F i<i):∀(k:Nat) (t:Int),0<=t->t<n->t<k->down F k t=true
 |0,t,a,b,c=>by omega
 |k+1,t,a,b,c=>by
  rw[down]
  have d:=h t.toNat (by omega)
  by_cases e:F t.toNat= -1
  ·simp[e]
  ·rw[zcm h k (F t.toNat) (by omega) (by omega) (by omega)];simp
theorem JN{c:Cf}(p:1<=c.s/\c.s<=4)(f:1<=c.le/\c.le<=100)(e:0<=c.la/\c.la<=100)(k:1<=c.wi/\c.wi<=50)(d:0<=c.ke/\c.ke<=1000)(j:1<=c.qu/\c.qu<=400)(hn:1<=c.n/\c.n<=4)(h:vL c.wi c.n c.F c.W c.K):
  xW c.s c.le c.la c.wi c.ke c.qu c.n c.F c.W c.K=true/\c.fits:=by
 constructor
 ·unfold xW
  simp only[Bool.and_eq_true,vQ,Zr]
  refine⟨⟨⟨⟨⟨⟨⟨⟨p,f⟩,e⟩,k⟩,d⟩,j⟩,by omega⟩,fun i a=>?_⟩,fun i a=>?_⟩
  ·unfold Zm
   simp only[Bool.and_eq_true,vQ]
   have:=h.tF i a
   exact⟨⟨by omega,h.tW i a⟩,h.tK i a⟩
  ·unfold zgz
   simp only[Bool.and_eq_true,beq_iff_eq]
   obtain⟨q,_,g⟩:=h.tQ i a
   exact⟨by rw[g];exact Int.mul_emod_right _ _,zcm h.tF c.n i (by omega) (by omega) (by omega)⟩
 ·have r:=h.tF 0 (by omega)
  obtain⟨m,l⟩:=Cf.b_of (c:=c) ⟨0,by omega,by omega⟩
  obtain⟨q,o,g⟩:=h.tQ c.b m
  exact⟨m,l,⟨q,o,by rw[g,l];simp[zP]⟩,fun i a=>by have:=h.tF i a;omega,h.tQ,fun i a=>zcm h.tF c.n i (by omega) (by omega) (by omega)⟩
theorem Kv(k:Nat)(F W K:Nat->Int)(f w p:Int):ZN (k+1) (Zp F k f) (Zp W k w) (Zp K k p)=ZN k F W K++[I f,I w,I p]:=by
 have e:(k+1)*3=k*3+1+1+1:=by omega
 unfold ZN
 rw[e,List.range_succ,List.range_succ,List.range_succ]
 simp only[List.map_append,List.map_cons,List.map_nil,List.append_assoc]
 have g:(List.range (k*3)).map (Z3 (Zp F k f) (Zp W k w) (Zp K k p))=(List.range (k*3)).map (Z3 F W K):=by
  apply List.map_congr_left
  intro j h
  have hj':j<k*3:=by simpa using h
  unfold Z3
  have a:j/3≠k:=by omega
  simp only[Xv _ _ a]
 rw[g]
 have b:k*3/3=k:=by omega
 have c:(k*3+1)/3=k:=by omega
 have d:(k*3+1+1)/3=k:=by omega
 have i:k*3%3=0:=by omega
 have l:(k*3+1)%3=1:=by omega
 have m2:(k*3+1+1)%3=2:=by omega
 unfold Z3
 simp[b,c,d,i,l,m2,QG]
def qJ(now:Int)(TL:List (Jk×Tsk))(s:Sg):List (Jk×Tsk):=match zD TL ⟨1,s⟩with|some _=>TL|none=>xZ TL ⟨1,s⟩ ⟨true,s,now,0,0⟩
def ya(now:Int)(TL:List (Jk×Tsk))(s:Sg):List (Jk×Tsk):=match zD TL ⟨2,s⟩with|some _=>TL|none=>xZ TL ⟨2,s⟩ ⟨false,s,now,0,0⟩
section
variable {c:Cf} {now:Int} {L:LV}
structure jW(c:Cf)(now:Int)(L:LV)(TL T1:List (Jk×Tsk)):Prop where
 ok:∀p∈T1,zgH c now L p
 nt:(zj T1).Nodup
 old:∀k x,zD TL k=J x->zD T1 k=J x
theorem zeb{TL a:List (Jk×Tsk)}(h:jW c now L TL a)(hn:0<=now){k:Jk}{x:Tsk}(f:zD a k=D)(g:zgH c now L (k,x)):jW c now L TL (xZ a k x):=by
 refine⟨fun p b=>?_,qc h.nt,fun j y d=>?_⟩
 ·rcases qF b with rfl|⟨b,_⟩
  ·exact g
  ·exact h.ok p b
 ·have:=h.old j y d
  rw[kJ h.nt,if_neg (fun e=>by rw[e,f]at this;cases this)];exact this
theorem zlu{TL a:List (Jk×Tsk)}(h:jW c now L TL a)(hn:0<=now){s:Sg}(d:s∈zn L)(f:c.clo now s)(g:(stL L s).st=2):jW c now L TL (qJ now a s)/\∀k,k∈zj (qJ now a s)↔k∈zj a\/k=⟨1,s⟩:=by
 unfold qJ
 cases b:zD a ⟨1,s⟩with
 |some x=>exact⟨h,fun k=>⟨.inl,fun e=>e.elim id (fun e=>by rw[e];exact List.mem_map.2 ⟨_,zB b,rfl⟩)⟩⟩
 |none=>exact⟨zeb h hn b ⟨rfl,d,f,fun _=>g,fun e=>by simp at e,⟨hn,Int.le_refl _⟩,by dsimp only;omega⟩,fun k=>zY⟩
theorem zlt{TL a:List (Jk×Tsk)}(h:jW c now L TL a)(hn:0<=now){s:Sg}(d:s∈zn L)(f:c.clo now s)(g:(stL L s).st≠2):jW c now L TL (ya now a s)/\∀k,k∈zj (ya now a s)↔k∈zj a\/k=⟨2,s⟩:=by
 unfold ya
 cases b:zD a ⟨2,s⟩with
 |some x=>exact⟨h,fun k=>⟨.inl,fun e=>e.elim id (fun e=>by rw[e];exact List.mem_map.2 ⟨_,zB b,rfl⟩)⟩⟩
 |none=>exact⟨zeb h hn b ⟨rfl,d,f,fun e=>by simp at e,fun _=>g,⟨hn,Int.le_refl _⟩,by dsimp only;omega⟩,fun k=>zY⟩
theorem zbp(hn:0<=now):∀(b:List Sg) {TL a:List (Jk×Tsk)},jW c now L TL a->(∀s∈b,s∈zn L/\c.clo now s/\(stL L s).st=2)->jW c now L TL (b.foldl (qJ now) a)/\∀k,k∈zj (b.foldl (qJ now) a)↔k∈zj a\/∃s∈b,k=⟨1,s⟩
 |[],TL,a,h,_=>⟨h,fun k=>by simp⟩
 |s::b,TL,a,h,d=>by
  obtain⟨e,a2,a3⟩:=d s (by simp)
  obtain⟨f,g⟩:=zlu h hn e a2 a3
  obtain⟨i,j⟩:=zbp hn b f (fun x l=>d x (by simp[l]))
  refine⟨i,fun k=>?_⟩
  show k∈zj (b.foldl (qJ now) (qJ now a s))↔_
  rw[j k,g k];simp[or_assoc]
theorem zbn(hn:0<=now):∀(b:List Sg) {TL a:List (Jk×Tsk)},jW c now L TL a->(∀s∈b,s∈zn L/\c.clo now s/\(stL L s).st≠2)->jW c now L TL (b.foldl (ya now) a)/\∀k,k∈zj (b.foldl (ya now) a)↔k∈zj a\/∃s∈b,k=⟨2,s⟩
 |[],TL,a,h,_=>⟨h,fun k=>by simp⟩
 |s::b,TL,a,h,d=>by
  obtain⟨e,a2,a3⟩:=d s (by simp)
  obtain⟨f,g⟩:=zlt h hn e a2 a3
  obtain⟨i,j⟩:=zbn hn b f (fun x l=>d x (by simp[l]))
  refine⟨i,fun k=>?_⟩
  show k∈zj (b.foldl (ya now) (ya now a s))↔_
  rw[j k,g k];simp[or_assoc]
end
theorem zno{c:Cf}(m:c.ok)(n:c.fits){now:Int}{k:Sg}(o:k.t= -1)(h:c.clo now ⟨(c.b:Int),k.sr,k.wn*c.wi/c.W c.b⟩):c.clo now k:=by
 obtain⟨q,u,d⟩:=n.div0
 have p:=m.wi1
 have g:c.wh (c.b:Int)=c.W c.b:=by unfold Cf.wh zP;rw[if_neg (by omega)];simp
 have i:c.wh (-1)=c.wi:=by unfold Cf.wh zP;rw[if_pos rfl]
 unfold Cf.clo at*
 rw[g]at h
 rw[o,i]
 have f:0<c.W c.b:=by rw[d];exact Int.mul_pos (by omega) (by omega)
 have j:k.wn*c.wi<(k.wn*c.wi/c.W c.b+1)*c.W c.b:=Int.lt_ediv_add_one_mul_self _ f
 generalize k.wn*c.wi/c.W c.b=a at*
 have l:k.wn*c.wi<((a+1)*q)*c.wi:=by
  have e:(a+1)*c.W c.b=((a+1)*q)*c.wi:=by rw[d,Int.mul_comm c.wi q,<-Int.mul_assoc]
  rw[<-e];exact j
 have r:k.wn<(a+1)*q:=Int.lt_of_mul_lt_mul_right l (by omega)
 have s:(k.wn+1)*c.wi<=((a+1)*q)*c.wi:=Int.mul_le_mul_of_nonneg_right (by omega) (by omega)
 have e:(a+1)*c.W c.b=((a+1)*q)*c.wi:=by rw[d,Int.mul_comm c.wi q,<-Int.mul_assoc]
 rw[e]at h;omega
theorem zeg{c:Cf}(j:c.ok)(m:c.fits){now:Int}{L:LV}{Gl:List (Sg×Unit)}(h:yd c now L Gl){k:Sg}(v:k∈zn L)(n:yQ c L now k=true):c.clo now k/\(stL L k).st≠2:=by
 have f:=zU v
 have e:=h.inr _ f
 unfold yQ at n
 simp only[Bool.and_eq_true,Bool.not_eq_true',beq_eq_false_iff_ne,ne_eq,decide_eq_true_eq]at n
 obtain⟨⟨p,F⟩,q⟩:=n
 refine⟨?_,p⟩
 by_cases g:k.t= -1
 ·have z:=j.n1
  have u:(⟨(c.b:Int),k.sr,k.wn*c.wi/c.W c.b⟩:Sg)∈yI c k:=by
   have o:c.wh k.t=c.wi:=by rw[g];unfold Cf.wh zP;rw[if_pos rfl]
   unfold yI Vk
   rw[o,List.map_map]
   exact List.mem_map.2 ⟨c.b,List.mem_filter.2 ⟨by simpa using m.bn,by simp[m.from0,g]⟩,rfl⟩
  have l:c.clo now ⟨(c.b:Int),k.sr,k.wn*c.wi/c.W c.b⟩:=by
   rcases h.above _ f g with i|i
   ·have d:=zU i
    rcases h.tier _ d (by show(0:Int)<=(c.b:Int);omega)with a|a
    ·exfalso
     unfold Za at q
     have s:((kB c k).filter (fun x=>(stL L x.1).st==2)).length=0:=by
      have:=of_decide_eq_true (show decide ((((kB c k).filter (fun x=>(stL L x.1).st==2)).length:Int)=0)=true from by simpa using q)
      omega
     have w:=(jg j e ⟨(c.b:Int),k.sr,k.wn*c.wi/c.W c.b⟩).2 u
     obtain⟨y,B,r⟩:=List.mem_map.1 w
     have:y∈(kB c k).filter (fun x=>(stL L x.1).st==2):=List.mem_filter.2 ⟨B,by rw[r];simpa using a⟩
     rw[List.eq_nil_of_length_eq_zero s]at this;simp at this
    ·exact h.pubc _ d a
   ·exact h.goc _ i
  exact zno j m g l
 ·rcases h.tier _ f (by have C: -1<=k.t:=e.2.1;show 0<=k.t;omega)with a|a
  ·exact absurd a p
  ·exact h.pubc _ f a
theorem zej{c:Cf}{now:Int}{L:LV}{b:List (Sg×Unit)}{k:Sg}(a:yR c b L now k=true):c.clo now k/\(stL L k).st=2:=by
 unfold yR at a
 simp only[Bool.and_eq_true,beq_iff_eq,decide_eq_true_eq]at a
 exact⟨a.2,a.1.2⟩
structure xA(c:Cf)(m:MS)(TL':List (Jk×Tsk)):Prop where
 to:∃(Bs:List (Sg×Unit)) (ys1 ys2:List Sg),(∀x,x∈zj Bs↔∃k,k∈zn m.L/\(stL m.L k).st=2/\x∈yI c k)/\(∀s,s∈ys1↔s∈zn m.L/\yR c Bs m.L m.now s=true)/\(∀s,s∈ys2↔s∈zn m.L/\yQ c m.L m.now s=true)/\TL'=ys2.foldl (ya m.now) (ys1.foldl (qJ m.now) m.TL)
theorem MOk.post{c:Cf}{ep:Int}{m:MS}(p:c.ok)(r:c.fits)(h:MOk c ep m){a:List (Jk×Tsk)}(u:xA c m a):
  MOk c ep {m with TL:=a}/\(∀k,k∈zj m.TL->k∈zj a)/\(∀s,s∈zn m.L->yQ c m.L m.now s=true->(⟨2,s⟩:Jk)∈zj a):=by
 obtain⟨z,j,l,B,n,d,rfl⟩:=u.to
 have o:jW c m.now m.L m.TL m.TL:=⟨h.td,h.nt,fun _ _ e=>e⟩
 obtain⟨y,q1⟩:=zbp h.now.1 j o (fun s b=>⟨((n s).1 b).1,zej ((n s).1 b).2⟩)
 obtain⟨i,q2⟩:=zbn h.now.1 l y (fun s b=>⟨((d s).1 b).1,zeg p r h.seg ((d s).1 b).1 ((d s).1 b).2⟩)
 refine⟨⟨h.now,h.seg,i.ok,i.nt,fun q v=>?_,h.nq,h.jobs,h.num⟩,fun k t=>(q2 k).2 (.inl ((q1 k).2 (.inl t))),fun s b g=>(q2 _).2 (.inr ⟨s,(d s).2 ⟨b,g⟩,rfl⟩)⟩
 have f:=h.leas q v
 obtain⟨x,w,g⟩:=f.job
 exact⟨⟨x,i.old _ _ w,g⟩,f.ep,f.num,f.til⟩
section
variable {c:Cf} {ep:Int} {m:MS}
theorem zlb{QL:List (Tok×Lse)}(hn:(QL.map (fun q=>q.2.job)).Nodup){p q:Tok×Lse}(l:p∈QL)(m:q∈QL)(e:p.2.job=q.2.job):p=q:=by
 have d:QL.Pairwise (fun a b=>a.2.job≠b.2.job):=List.pairwise_map.1 hn
 obtain⟨i,h,f⟩:=List.getElem_of_mem l
 obtain⟨j,k,g⟩:=List.getElem_of_mem m
 rcases Nat.lt_trichotomy i j with c|c|c
 ·have:=List.pairwise_iff_getElem.1 d i j h k c;rw[f,g]at this;exact absurd e this
 ·subst c;rw[<-f,g]
 ·have:=List.pairwise_iff_getElem.1 d j i k h c;rw[f,g]at this;exact absurd e.symm this
theorem Zu{QL:List (Tok×Lse)}(hn:(QL.map (fun q=>q.2.job)).Nodup)(t:Tok):((xa QL t).map (fun q=>q.2.job)).Nodup:=by
 unfold xa
 exact hn.sublist (List.Sublist.map _ (List.filter_sublist))
theorem Zd{QL:List (Tok×Lse)}(hn:(QL.map (fun q=>q.2.job)).Nodup){t:Tok}{g:Lse}(c:(t,g)∈QL){q:Tok×Lse}(d:q∈xa QL t):q.2.job≠g.job:=fun e=>by
 obtain⟨a,b⟩:=zT.1 d
 exact b (by rw[zlb hn a c e])
theorem MOk.failed(h:MOk c ep m){t:Tok}{g:Lse}{x:Tsk}(n:zD m.QL t=J g)(l:zD m.TL g.job=J x):
  MOk c ep {m with TL:=xZ m.TL g.job (x.failed m.now),QL:=xa m.QL t}:=by
 have b:=zB n
 have i:=zB l
 have o:x.rest<=m.now:=by
  obtain⟨y,j,f⟩:=(h.leas _ b).job
  have:y=x:=by have:=j.symm.trans l;injection this
  rw[<-this];exact f
 have r:=Xp (x.ti+1).toNat
 have a:=h.td _ i
 refine⟨h.now,h.seg,fun p e=>?_,qc h.nt,fun q k=>?_,xU h.nq,Zu h.jobs t,h.num⟩
 ·rcases qF e with rfl|⟨e,_⟩
  ·exact⟨a.key,a.mem,a.clo,a.roll,a.recl,a.se,by have:=a.ti;simp only[Tsk.failed]at*;omega⟩
  ·exact h.td p e
 ·have d:=h.leas q (zT.1 k).1
  obtain⟨y,j,f⟩:=d.job
  refine⟨⟨y,?_,f⟩,d.ep,d.num,d.til⟩
  rw[kJ h.nt,if_neg (Zd h.jobs b k)];exact j
theorem MOk.picked(h:MOk c ep m)(r:c.ok){k:Jk}{x:Tsk}(o:zD m.TL k=J x)(w:x.rest<=m.now)(l:k7 m.QL x.key=false)(slot:Int):
  MOk c ep {m with num:=m.num+1,QL:=xZ m.QL ⟨ep,m.num+1⟩ ⟨x.kd,x.s,slot,m.now+c.le⟩}/\(⟨ep,m.num+1⟩:Tok)∉zj m.QL/\(∀q∈m.QL,q.2.job≠x.key):=by
 have f:(⟨ep,m.num+1⟩:Tok)∉zj m.QL:=fun v=>by
  obtain⟨q,d,e⟩:=List.mem_map.1 v
  have:=(h.leas q d).num
  rw[e]at this;dsimp only at this;omega
 have i:∀q∈m.QL,q.2.job≠x.key:=fun q d e=>by
  unfold k7 at l
  rw[List.any_eq_false]at l
  exact l q d (by simpa[Lse.job]using e)
 have j:xZ m.QL ⟨ep,m.num+1⟩ ⟨x.kd,x.s,slot,m.now+c.le⟩=m.QL++[(⟨ep,m.num+1⟩,⟨x.kd,x.s,slot,m.now+c.le⟩)]:=by unfold xZ;rw[if_neg f]
 have t:=(h.td _ (zB o)).key
 have u:=r.le
 refine⟨⟨h.now,h.seg,h.td,h.nt,fun q d=>?_,qc h.nq,?_,by have:=h.num;show 0<=m.num+1;omega⟩,f,i⟩
 ·rcases qF d with rfl|⟨d,_⟩
  ·refine⟨⟨x,?_,w⟩,rfl,⟨by have:=h.num;show 1<=m.num+1;omega,Int.le_refl _⟩,by show m.now<m.now+c.le;omega,Int.le_refl _⟩
   show zD m.TL x.key=J x
   rw[<-t];exact o
  ·have g:=h.leas q d
   exact⟨g.job,g.ep,⟨g.num.1,by have:=g.num.2;show q.1.num<=m.num+1;omega⟩,g.til⟩
 ·show((xZ m.QL ⟨ep,m.num+1⟩ ⟨x.kd,x.s,slot,m.now+c.le⟩).map (fun q=>q.2.job)).Nodup
  rw[j,List.map_append,List.nodup_append]
  refine⟨h.jobs,by simp,fun a p b n=>?_⟩
  obtain⟨q,d,rfl⟩:=List.mem_map.1 p
  simp only[List.map_cons,List.map_nil,List.mem_singleton]at n
  subst n
  exact i q d
theorem MOk.other_seg(h:MOk c ep m){k:Jk}{x:Tsk}(o:zD m.TL k=J x){p:Jk×Tsk}(n:p∈xa m.TL k):p.2.s≠x.s:=fun e=>by
 obtain⟨l,d⟩:=zT.1 n
 have g:=h.td p l
 have j:=h.td _ (zB o)
 have b:k=x.key:=j.key
 cases i:p.2.rl with
 |true=>
  have a:=g.roll i
  rw[e]at a
  cases f:x.rl with
  |true=>exact d (by rw[g.key,b];simp[Tsk.key,Tsk.kd,i,f,e])
  |false=>exact j.recl f a
 |false=>
  have a:=g.recl i
  rw[e]at a
  cases f:x.rl with
  |true=>exact a (j.roll f)
  |false=>exact d (by rw[g.key,b];simp[Tsk.key,Tsk.kd,i,f,e])
theorem MOk.done_leas(h:MOk c ep m){t:Tok}{g:Lse}(d:zD m.QL t=J g):∀q∈xa m.QL t,zmS c ep m.now m.num (xa m.TL g.job) q:=fun q b=>by
 have a:=h.leas q (zT.1 b).1
 obtain⟨y,f,e⟩:=a.job
 refine⟨⟨y,?_,e⟩,a.ep,a.num,a.til⟩
 rw[jB h.nt,if_neg (Zd h.jobs (zB d) b)];exact f
theorem VY{L:LV}(hn:(zn L).Nodup){s:Sg}{u v:SV}(a:(s,u)∈L)(f:SV->Int):qw ((qT L s v).map (fun p=>f p.2))=qw (L.map (fun p=>f p.2))-f u+f v:=by
 unfold qT
 rw[if_pos (show s∈zn L from List.mem_map.2 ⟨_,a,rfl⟩)]
 exact KF f hn a
theorem zjz{s:Sg}{u:SV}(f:SV->Int):∀{L:LV},(zn L).Nodup->(s,u)∈L->qw ((xa L s).map (fun p=>f p.2))=qw (L.map (fun p=>f p.2))-f u
 |[],_,h=>by simp at h
 |p::L,hn,h=>by
  obtain⟨b,c⟩:=List.nodup_cons.1 (show(p.1::zn L).Nodup from hn)
  rcases List.mem_cons.1 h with rfl|h
  ·have e:xa ((s,u)::L) s=L:=by
    unfold xa
    rw[List.filter_cons,if_neg (by simp)]
    refine List.filter_eq_self.2 (fun q d=>?_)
    simp only[decide_eq_true_eq]
    exact fun e=>b (List.mem_map.2 ⟨q,d,e⟩)
   rw[e];simp only[List.map_cons,qw];omega
  ·have a:p.1≠s:=fun e=>b (List.mem_map.2 ⟨_,h,e.symm⟩)
   have e:xa (p::L) s=p::xa L s:=by unfold xa;rw[List.filter_cons,if_pos (by simpa using a)]
   have g:=zjz f c h
   rw[e];simp only[List.map_cons,qw,g];omega
theorem MOk.rolled(h:MOk c ep m){t:Tok}{g:Lse}{x:Tsk}(F:zD m.QL t=J g)(B:zD m.TL g.job=J x)(I:x.rl=true)(i:Cl):
  MOk c ep {m with L:=qT m.L x.s ⟨3,i⟩,TL:=xa m.TL g.job,QL:=xa m.QL t}/\(∀f:SV->Int,qw ((qT m.L x.s ⟨3,i⟩).map (fun p=>f p.2))=qw (m.L.map (fun p=>f p.2))-f (stL m.L x.s)+f ⟨3,i⟩)/\(stL m.L x.s).st=2/\x.s∈zn m.L:=by
 have q:=h.td _ (zB B)
 have u:(x.s,stL m.L x.s)∈m.L:=zU q.mem
 have z:(stL m.L x.s).st=2:=q.roll I
 have l:=fun f:SV->Int=>VY (v:=⟨3,i⟩) h.seg.nl u f
 have b:=h.seg
 have r:x.s.t≠ -1:=fun e=>by have M:(stL m.L x.s).st=1:=(b.raw _ u e).1;omega
 have d:∀k,k∈zn (qT m.L x.s ⟨3,i⟩)↔k∈zn m.L:=fun k=>by
  rw[xJ];exact⟨fun e=>e.elim id (fun e=>e▸q.mem),.inl⟩
 refine⟨⟨h.now,⟨fun p a=>?_,qY b.nl,fun p a o=>?_,fun p a o=>?_,fun p a=>?_,b.ng,fun p a C=>?_,b.goc,fun p a o=>?_,?_⟩,fun p a=>?_,xU h.nt,h.done_leas F,xU h.nq,Zu h.jobs t,h.num⟩,l,z,q.mem⟩
 ·rcases qr a with rfl|⟨a,_⟩
  ·exact(show inR c x.s from b.inr _ u)
  ·exact b.inr p a
 ·rcases qr a with rfl|⟨a,_⟩
  ·exact absurd o r
  ·exact b.raw p a o
 ·rcases qr a with rfl|⟨a,_⟩
  ·exact .inr rfl
  ·exact b.tier p a o
 ·rcases qr a with rfl|⟨a,_⟩
  ·exact(show x.s∉zj m.Gl from b.disj _ u)
  ·exact b.disj p a
 ·rcases qr a with rfl|⟨a,_⟩
  ·exact q.clo
  ·exact b.pubc p a C
 ·rcases qr a with rfl|⟨a,_⟩
  ·exact absurd o r
  ·rcases b.above p a o with w|w
   ·exact .inl ((d _).2 w)
   ·exact .inr w
 ·have:=l qV
  have N:qV (stL m.L x.s)=2:=by unfold qV;rw[if_neg (by omega)]
  have K:qV ⟨3,i⟩=2:=by unfold qV;rw[if_neg (by dsimp only;omega)]
  have:=b.used
  show zJ (qT m.L x.s ⟨3,i⟩)<=c.qu
  unfold zJ at*;omega
 ·have y:=h.other_seg B a
  have n:=h.td p (zT.1 a).1
  have j:stL (qT m.L x.s ⟨3,i⟩) p.2.s=stL m.L p.2.s:=by rw[zjp b.nl,if_neg y]
  exact⟨n.key,(d _).2 n.mem,n.clo,fun e=>by show(stL (qT m.L x.s ⟨3,i⟩) p.2.s).st=2;rw[j];exact n.roll e,fun e=>by show(stL (qT m.L x.s ⟨3,i⟩) p.2.s).st≠2;rw[j];exact n.recl e,n.se,n.ti⟩
theorem MOk.reclaimed(h:MOk c ep m){t:Tok}{g:Lse}{x:Tsk}(I:zD m.QL t=J g)(C:zD m.TL g.job=J x)(K:x.rl=false):
  MOk c ep {m with L:=xa m.L x.s,Gl:=xZ m.Gl x.s (),TL:=xa m.TL g.job,QL:=xa m.QL t}/\(∀f:SV->Int,qw ((xa m.L x.s).map (fun p=>f p.2))=qw (m.L.map (fun p=>f p.2))-f (stL m.L x.s))/\(stL m.L x.s).st≠2/\x.s∈zn m.L/\(xZ m.Gl x.s ()).length=m.Gl.length+1:=by
 have v:=h.td _ (zB C)
 have y:(x.s,stL m.L x.s)∈m.L:=zU v.mem
 have B:(stL m.L x.s).st≠2:=v.recl K
 have q:=fun f:SV->Int=>zjz f h.seg.nl y
 have j:=h.seg
 have z:x.s∉zj m.Gl:=j.disj _ y
 have a:∀p,p∈xa m.L x.s->p∈m.L/\p.1≠x.s:=fun p d=>zT.1 d
 have n:∀k,k∈zn m.L->k≠x.s->k∈zn (xa m.L x.s):=fun k l i=>by
  obtain⟨p,d,rfl⟩:=List.mem_map.1 (show k∈m.L.map (·.1)from l)
  exact List.mem_map.2 ⟨p,zT.2 ⟨d,i⟩,rfl⟩
 have u:∀k,k≠x.s->stL (xa m.L x.s) k=stL m.L k:=fun k i=>by
  unfold stL
  rw[show yY (xa m.L x.s) k=yY m.L k from by
   have:=jB (L:=m.L) j.nl x.s k
   rw[if_neg i]at this;exact this]
 refine⟨⟨h.now,⟨fun p d=>j.inr p (a p d).1,xU (L:=m.L) j.nl,fun p d=>j.raw p (a p d).1,fun p d=>j.tier p (a p d).1,fun p d=>?_,qc j.ng,fun p d=>j.pubc p (a p d).1,fun k l=>?_,fun p d M=>?_,?_⟩,fun p d=>?_,xU h.nt,h.done_leas I,xU h.nq,Zu h.jobs t,h.num⟩,q,B,v.mem,?_⟩
 ·intro l
  rcases zY.1 l with l|l
  ·exact j.disj p (a p d).1 l
  ·exact(a p d).2 l
 ·rcases zY.1 l with l|rfl
  ·exact j.goc k l
  ·exact v.clo
 ·rcases j.above p (a p d).1 M with w|w
  ·by_cases e:(⟨(c.b:Int),p.1.sr,p.1.wn*c.wi/c.W c.b⟩:Sg)=x.s
   ·exact .inr (zY.2 (.inr e))
   ·exact .inl (n _ w e)
  ·exact .inr (zY.2 (.inl w))
 ·have N:=q qV
  have F:=j.use _ y
  have:=j.used
  show zJ (xa m.L x.s)<=c.qu
  unfold zJ at*;dsimp only at F;omega
 ·have i:=h.other_seg C d
  have r:=h.td p (zT.1 d).1
  have o:=u p.2.s i
  exact⟨r.key,n _ r.mem i,r.clo,fun e=>by show(stL (xa m.L x.s) p.2.s).st=2;rw[o];exact r.roll e,fun e=>by show(stL (xa m.L x.s) p.2.s).st≠2;rw[o];exact r.recl e,r.se,r.ti⟩
 ·rw[vi,if_neg z]
end
theorem Ky{w:S}{base size n:Nat}{e:TypeId}{v:R}{xs:List R}(h:w.ownsRow base e size v n xs):w.drew.ownsRow base e size v n xs:=h
theorem QS{w w':S}{a:Option Nat}(h:w.drew.grownBy w' a):w.grownBy w' a:=⟨h.os,h.tape,h.output,h.size,h.block⟩
theorem Ku(w:S)(o:Obj):(w.alloc o).drew.1[w.1.size]?=J o:=zp w o
theorem zgZ(a:S)(o:Obj):a.1.size<=(a.alloc o).drew.1.size:=by show a.1.size<=(a.alloc o).1.size;rw[zN];omega
theorem zdD(a b:Int)(c:1<=b)(d:b<=a):0<a/b:=Int.le_ediv_of_mul_le (by omega) (by omega)
theorem zom{w:S}{g:Nat}{a b c d e f i:R}{t:TypeId}{n:Nat×Nat}(h:w.1[g]?=J (.cells #[a,b,c,d,e,f,i] t n))(j k l m o p q:R):(((((((w.setCell (U g 0) j).setCell (U g 1) k).setCell (U g 2) l).setCell (U g 3) m).setCell (U g 4) o).setCell (U g 5) p).setCell (U g 6) q).1[g]?=J (.cells #[j,k,l,m,o,p,q] t n):=by
 have r:(w.setCell (U g 0) j).1[g]?=J (.cells #[j,b,c,d,e,f,i] t n):=xy (i:=0) h j
 have s:((w.setCell (U g 0) j).setCell (U g 1) k).1[g]?=J (.cells #[j,k,c,d,e,f,i] t n):=xy (i:=1) r k
 have u:(((w.setCell (U g 0) j).setCell (U g 1) k).setCell (U g 2) l).1[g]?=J (.cells #[j,k,l,d,e,f,i] t n):=xy (i:=2) s l
 have v:((((w.setCell (U g 0) j).setCell (U g 1) k).setCell (U g 2) l).setCell (U g 3) m).1[g]?=J (.cells #[j,k,l,m,e,f,i] t n):=xy (i:=3) u m
 have x:(((((w.setCell (U g 0) j).setCell (U g 1) k).setCell (U g 2) l).setCell (U g 3) m).setCell (U g 4) o).1[g]?=J (.cells #[j,k,l,m,o,f,i] t n):=xy (i:=4) v o
 have y:((((((w.setCell (U g 0) j).setCell (U g 1) k).setCell (U g 2) l).setCell (U g 3) m).setCell (U g 4) o).setCell (U g 5) p).1[g]?=J (.cells #[j,k,l,m,o,p,i] t n):=xy (i:=5) x p
 have z:(((((((w.setCell (U g 0) j).setCell (U g 1) k).setCell (U g 2) l).setCell (U g 3) m).setCell (U g 4) o).setCell (U g 5) p).setCell (U g 6) q).1[g]?=J (.cells #[j,k,l,m,o,p,q] t n):=xy (i:=6) y q
 exact z
def zgE(now:Int)(x:Tsk):Prop:=x.se=now/\x.ti=0/\x.rest=0
theorem newR{now:Int}{T:List (Jk×Tsk)}(h:∀p∈T,zgE now p.2)(s:Sg):∀p∈qJ now T s,zgE now p.2:=fun p a=>by
 unfold qJ at a
 split at a
 ·exact h p a
 ·rcases qF a with rfl|⟨a,_⟩
  ·exact⟨rfl,rfl,rfl⟩
  ·exact h p a
theorem newC{now:Int}{T:List (Jk×Tsk)}(h:∀p∈T,zgE now p.2)(s:Sg):∀p∈ya now T s,zgE now p.2:=fun p a=>by
 unfold ya at a
 split at a
 ·exact h p a
 ·rcases qF a with rfl|⟨a,_⟩
  ·exact⟨rfl,rfl,rfl⟩
  ·exact h p a
theorem zpt{now:Int}:∀(a:List Sg) {T:List (Jk×Tsk)},(∀p∈T,zgE now p.2)->∀p∈a.foldl (qJ now) T,zgE now p.2
 |[],_,h=>h
 |s::a,T,h=>zpt a (T:=qJ now T s) (newR h s)
theorem zps{now:Int}:∀(a:List Sg) {T:List (Jk×Tsk)},(∀p∈T,zgE now p.2)->∀p∈a.foldl (ya now) T,zgE now p.2
 |[],_,h=>h
 |s::a,T,h=>zps a (T:=ya now T s) (newC h s)
theorem xA.new{c:Cf}{m:MS}{a:List (Jk×Tsk)}(h:xA c m a)(e:m.TL=[]):∀p∈a,zgE m.now p.2:=by
 obtain⟨g,b,d,k,i,j,rfl⟩:=h.to
 rw[e]
 exact zps d (zpt b (fun p f=>by cases f))
def yV(v:SV):Int:=if v.st=1 then v.cl.cnt else 0
def Xh(L:LV):Int:=qw (L.map (fun p=>yV p.2))
section
variable {c:Cf} {L:LV}
theorem jZ(x:Nm):∀(k:Nat) (L:LV) {p:Sg×SV},p∈kw c x k L->p∈L\/∃j:Nat,j<k/\p=(zF c (j:Int) x,⟨2,qt⟩)/\zF c (j:Int) x∉zn L
 |0,L,p,h=> .inl h
 |k+1,L,p,h=>by
  have d:p∈qd c x k (kw c x k L):=h
  unfold qd at d
  split at d
  ·rcases jZ x k L d with a|⟨j,a,b⟩
   ·exact .inl a
   ·exact .inr ⟨j,by omega,b⟩
  ·rename_i hn
   rcases qr d with rfl|⟨d,_⟩
   ·refine .inr ⟨k,by omega,rfl,fun f=>hn ?_⟩
    clear h d hn
    have keep:∀(k:Nat) (s:Sg),s∈zn L->s∈zn (kw c x k L):=fun k=>by
     induction k with
     |zero=>exact fun s h=>h
     |succ k e=>intro s h;show s∈zn (qd c x k _);unfold qd;split;exact e s h;exact xJ.2 (.inl (e s h))
    exact keep k _ f
   ·rcases jZ x k L d with a|⟨j,a,b⟩
    ·exact .inl a
    ·exact .inr ⟨j,by omega,b⟩
theorem ja(x:Nm):∀(k:Nat) (L:LV) {p:Sg×SV},p∈L->p∈kw c x k L
 |0,L,p,h=>h
 |k+1,L,p,h=>by
  have a:=ja x k L h
  show p∈qd c x k (kw c x k L)
  unfold qd
  split
  ·exact a
  ·rename_i hn
   unfold qT;rw[if_neg hn];exact List.mem_append_left _ a
theorem Xa(x:Nm):∀(k:Nat) (L:LV),(zn L).Nodup->(zn (kw c x k L)).Nodup
 |0,L,h=>h
 |k+1,L,h=>by
  show(zn (qd c x k (kw c x k L))).Nodup
  unfold qd
  split
  ·exact Xa x k L h
  ·exact qY (Xa x k L h)
theorem XD(x:Nm):∀(k:Nat) (L:LV) (j:Nat),j<k->zF c (j:Int) x∈zn (kw c x k L)
 |k+1,L,j,h=>by
  show _∈zn (qd c x k (kw c x k L))
  unfold qd
  split
  ·rename_i hm
   by_cases e:j=k
   ·subst e;exact hm
   ·exact XD x k L j (by omega)
  ·by_cases e:j=k
   ·subst e;exact xJ.2 (.inr rfl)
   ·exact xJ.2 (.inl (XD x k L j (by omega)))
theorem jH{now:Int}(d:c.ok){x:Nm}{t:Int}(a: -1<=t)(b:t<c.n)(f:now-c.la<=x.tm):¬c.clo now (zF c t x):=by
 obtain⟨e,_⟩:=d.wh a b
 have:x.tm<(x.tm/c.wh t+1)*c.wh t:=Int.lt_ediv_add_one_mul_self _ (by omega)
 unfold Cf.clo zF
 dsimp only
 omega
theorem zjj(d:c.ok){x:Nm}(h:0<=x.sr/\x.sr<4)(e:0<=x.tm/\x.tm<=100000){t:Int}(a: -1<=t)(b:t<c.n):inR c (zF c t x):=by
 obtain⟨i,_⟩:=d.wh a b
 have hn:=d.n4
 have f:0<=x.tm/c.wh t:=Int.ediv_nonneg e.1 (by omega)
 have g:x.tm/c.wh t<=x.tm:=Int.ediv_le_self _ e.1
 refine⟨⟨?_,?_,?_⟩,a,b,f,?_⟩
 ·show xg t;unfold xg;omega
 ·show xg x.sr;unfold xg;omega
 ·show xg (x.tm/c.wh t);unfold xg;omega
 ·show x.tm/c.wh t<=100000;omega
theorem zji(f:c.ok)(g:c.fits){x:Nm}(j:0<=x.tm):(⟨(c.b:Int),x.sr,(xm c x).wn*c.wi/c.W c.b⟩:Sg)=zF c (c.b:Int) x:=by
 obtain⟨q,i,e⟩:=g.div0
 have h:=f.wi1
 have a:c.wh (c.b:Int)=c.W c.b:=by unfold Cf.wh zP;rw[if_neg (by omega)];simp
 have d:c.wh (-1)=c.wi:=by unfold Cf.wh zP;rw[if_pos rfl]
 unfold xm zF
 rw[a,d]
 dsimp only
 have:x.tm/c.wi*c.wi/c.W c.b=x.tm/c.W c.b:=by
  rw[e,Int.mul_comm c.wi q,Int.mul_ediv_mul_of_pos_left _ _ (by omega),Int.ediv_ediv_of_nonneg (by omega),Int.mul_comm c.wi q]
 rw[this]
end
section
variable {c:Cf} {ep:Int} {m:MS}
theorem MOk.rawAt(h:yd c m.now m.L m.Gl)(f:c.ok){x:Nm}{v:SV}(hv:yY m.L (xm c x)=J v):v.st=1/\1<=v.cl.cnt/\v.cl.cnt<=400/\ -(v.cl.cnt*2147483648)<=v.cl.sum/\v.cl.sum<=v.cl.cnt*2147483648:=by
 have e:=vF hv
 obtain⟨a,b,d⟩:=h.raw _ e rfl
 exact⟨a,b,h.cnt f _ e rfl,d⟩
theorem zjA(h:yd c m.now m.L m.Gl)(i:c.ok)(x:Nm)(f:SV->Int)(a:∀d:Cl,f ⟨1,d⟩=d.cnt):qw ((qN c m.L x).map (fun p=>f p.2))=qw (m.L.map (fun p=>f p.2))+1:=by
 unfold qN
 cases b:yY m.L (xm c x)with
 |none=>rw[Xs f (qR.1 b),a];simp[qM]
 |some v=>
  obtain⟨g,_⟩:=MOk.rawAt h i b
  rw[VY h.nl (vF b) f,a]
  have:f v=v.cl.cnt:=by
   have e:v=⟨1,v.cl⟩:=by cases v;simp at g;subst g;rfl
   rw[e,a]
  rw[this];simp[qM];omega
theorem zjB(x:Nm)(f:SV->Int)(a:f ⟨2,qt⟩=0):∀(k:Nat) (L:LV),qw ((kw c x k L).map (fun p=>f p.2))=qw (L.map (fun p=>f p.2))
 |0,L=>rfl
 |k+1,L=>by
  show qw ((qd c x k (kw c x k L)).map (fun p=>f p.2))=_
  unfold qd
  split
  ·exact zjB x f a k L
  ·rename_i hn
   rw[Xs f hn,zjB x f a k L,a];omega
theorem zbR(h:yd c m.now m.L m.Gl)(a:c.ok)(x:Nm):zJ (yu c m.L x)=zJ m.L+1+2*qO c m.L x c.n:=by
 unfold yu;rw[zoD]
 have:=zjA h a x qV (fun b=>by simp[qV])
 unfold zJ at*;omega
theorem zhR(h:yd c m.now m.L m.Gl)(a:c.ok)(x:Nm):Xh (yu c m.L x)=Xh m.L+1:=by
 unfold yu Xh
 rw[zjB x yV (by simp[yV]) c.n]
 exact zjA h a x yV (fun b=>by simp[yV])
theorem MOk.added(h:MOk c ep m)(z:c.ok)(P:c.fits){x:Nm}(hs:0<=x.sr/\x.sr<4)(T:0<=x.tm/\x.tm<=m.now)(V:m.now-c.la<=x.tm)(hv: -2147483648<=x.val/\x.val<=2147483647)(hu:zJ m.L+1+2*qO c m.L x c.n<=c.qu):
  MOk c ep {m with L:=yu c m.L x}:=by
 have g:=h.seg
 have Q:=h.now
 have Y:=z.n1
 have l:=fun(t:Int) (i: -1<=t) (B:t<c.n)=>jH z i B V
 have F:=fun(t:Int) (i: -1<=t) (B:t<c.n)=>zjj z hs ⟨T.1,by omega⟩ i B (x:=x)
 have f:∀p,p∈yu c m.L x->(p∈m.L/\p.1≠xm c x)\/p=(xm c x,⟨1,qM x.val ((yY m.L (xm c x)).map (·.cl))⟩)\/∃j:Nat,j<c.n/\p=(zF c (j:Int) x,⟨2,qt⟩)/\zF c (j:Int) x∉zn m.L:=fun p a=>by
  rcases jZ x c.n _ a with a|⟨j,i,B,C⟩
  ·rcases qr a with rfl|a
   ·exact .inr (.inl rfl)
   ·exact .inl a
  ·exact .inr (.inr ⟨j,i,B,fun X=>C (xJ.2 (.inl X))⟩)
 have u:∀p,p∈m.L->p.1≠xm c x->p∈yu c m.L x:=fun p a o=>ja x c.n _ (by
  unfold qN qT
  split
  ·exact List.mem_map.2 ⟨p,a,by rw[if_neg o]⟩
  ·exact List.mem_append_left _ a)
 have K:(zn (yu c m.L x)).Nodup:=Xa x c.n _ (qY g.nl)
 have M:xm c x∈zn (yu c m.L x):=by
  have:(xm c x,(⟨1,qM x.val ((yY m.L (xm c x)).map (·.cl))⟩:SV))∈yu c m.L x:=ja x c.n _ (by
   have q:xm c x∈zn (qN c m.L x):=xJ.2 (.inr rfl)
   have:=zU q
   have e:stL (qN c m.L x) (xm c x)=⟨1,qM x.val ((yY m.L (xm c x)).map (·.cl))⟩:=by unfold qN;rw[zjp g.nl,if_pos rfl]
   rw[e]at this;exact this)
  exact List.mem_map.2 ⟨_,this,rfl⟩
 have r:∀k,k∈zn m.L->k∈zn (yu c m.L x):=fun k q=>by
  by_cases e:k=xm c x
  ·rw[e];exact M
  ·obtain⟨p,a,rfl⟩:=List.mem_map.1 (show k∈m.L.map (·.1)from q)
   exact List.mem_map.2 ⟨p,u p a e,rfl⟩
 have O:∀k,k∈zn m.L->k≠xm c x->stL (yu c m.L x) k=stL m.L k:=fun k q o=>zpD K (u _ (zU q) o)
 have Z:(xm c x).t= -1:=rfl
 refine⟨h.now,⟨fun p a=>?_,K,fun p a y=>?_,fun p a y=>?_,fun p a=>?_,g.ng,fun p a C=>?_,g.goc,fun p a y=>?_,?_⟩,fun p a=>?_,h.nt,h.leas,h.nq,h.jobs,h.num⟩
 ·rcases f p a with⟨a,_⟩|rfl|⟨j,I,rfl,_⟩
  ·exact g.inr p a
  ·exact F (-1) (by omega) (by omega)
  ·exact F j (by omega) (by omega)
 ·rcases f p a with⟨a,_⟩|rfl|⟨j,I,rfl,_⟩
  ·exact g.raw p a y
  ·refine⟨rfl,?_⟩
   dsimp only
   cases U:yY m.L (xm c x)with
   |none=>simp[qM];omega
   |some v=>obtain⟨_,b,_,d,e⟩:=MOk.rawAt g z U;simp only[Option.map_some,qM];omega
  ·have:((j:Int))= -1:=y
   omega
 ·rcases f p a with⟨a,_⟩|rfl|⟨j,I,rfl,_⟩
  ·exact g.tier p a y
  ·have:0<=(xm c x).t:=y
   omega
  ·exact .inl rfl
 ·rcases f p a with⟨a,_⟩|rfl|⟨j,I,rfl,_⟩
  ·exact g.disj p a
  ·exact fun q=>l (-1) (by omega) (by omega) (g.goc _ q)
  ·exact fun q=>l j (by omega) (by omega) (g.goc _ q)
 ·rcases f p a with⟨a,_⟩|rfl|⟨j,I,rfl,_⟩
  ·exact g.pubc p a C
  ·simp at C
  ·simp at C
 ·rcases f p a with⟨a,_⟩|rfl|⟨j,I,rfl,_⟩
  ·rcases g.above p a y with N|N
   ·exact .inl (r _ N)
   ·exact .inr N
  ·left
   show(⟨(c.b:Int),x.sr,(xm c x).wn*c.wi/c.W c.b⟩:Sg)∈_
   rw[zji z P T.1]
   exact XD x c.n _ c.b P.bn
  ·have:((j:Int))= -1:=y
   omega
 ·show zJ (yu c m.L x)<=c.qu
  rw[zbR g z];exact hu
 ·have i:=h.td p a
  have o:p.2.s≠xm c x:=fun e=>by
   have:=i.clo
   rw[e]at this
   exact l (-1) (by omega) (by omega) this
  have w:=O _ i.mem o
  exact⟨i.key,r _ i.mem,i.clo,fun e=>by show(stL (yu c m.L x) p.2.s).st=2;rw[w];exact i.roll e,fun e=>by show(stL (yu c m.L x) p.2.s).st≠2;rw[w];exact i.recl e,i.se,i.ti⟩
theorem MOk.not_gone(h:MOk c ep m)(d:c.ok){x:Nm}(f:m.now-c.la<=x.tm){t:Int}(a: -1<=t)(b:t<c.n):zD m.Gl (zF c t x)=D:=
 xr.2 (fun e=>jH d a b f (h.seg.goc _ e))
theorem MOk.small(h:MOk c ep m)(g:c.ok):∀p∈m.L,p.1.t= -1->0<=p.2.cl.cnt/\p.2.cl.cnt<=1000000000000/\ -1000000000000000000<=p.2.cl.sum/\p.2.cl.sum<=1000000000000000000:=fun p e f=>by
 obtain⟨_,a,b,d⟩:=h.seg.raw p e f
 have:=h.seg.cnt g p e f
 omega
end
section
variable {c:Cf} {now:Int} {L:LV} {Gl:List (Sg×Unit)}
theorem J0:∀(L:LV),(∀p∈L,p.2.st=1\/p.2.st=2\/p.2.st=3)->zJ L=Xh L+2*(xR L 2+xR L 3)
 |[],_=>by simp[zJ,Xh,xR,qw]
 |p::L,h=>by
  have b:=J0 L (fun q a=>h q (by simp[a]))
  unfold zJ Xh xR at*
  simp only[List.map_cons,qw]
  have:=h p (by simp)
  unfold qV yV zaN
  rcases this with e|e|e<;>simp[e]<;>unfold qV yV zaN at b<;>omega
theorem yd.sts(h:yd c now L Gl):∀p∈L,p.2.st=1\/p.2.st=2\/p.2.st=3:=fun p a=>by
 have b:=h.inr p a
 by_cases d:p.1.t= -1
 ·exact .inl (h.raw p a d).1
 ·exact .inr (h.tier p a (by have:=b.2.1;omega))
theorem yd.held1(h:yd c now L Gl):∀p∈L,p.2.st=1->1<=p.2.cl.cnt:=fun p a e=>by
 have b:=h.inr p a
 by_cases d:p.1.t= -1
 ·exact(h.raw p a d).2.1
 ·have:=h.tier p a (by have:=b.2.1;omega);omega
end
def X8(c:Cf)(m:MS):Prop:=∃a:List (Sg×Unit),(∀x,x∈zj a↔∃k,k∈zn m.L/\(stL m.L k).st=2/\x∈yI c k)/\(∀s,s∈zn m.L->yR c a m.L m.now s=true->(⟨1,s⟩:Jk)∈zj m.TL)/\(∀s,s∈zn m.L->yQ c m.L m.now s=true->(⟨2,s⟩:Jk)∈zj m.TL)
theorem VS{now:Int}:∀(c:List Sg) {T:List (Jk×Tsk)},(∀k,k∈zj T->k∈zj (c.foldl (qJ now) T))/\∀s∈c,(⟨1,s⟩:Jk)∈zj (c.foldl (qJ now) T)
 |[],T=>⟨fun _ h=>h,fun s b=>by cases b⟩
 |y::c,T=>by
  have d:∀k,k∈zj T\/k=⟨1,y⟩->k∈zj (qJ now T y):=fun k a=>by
   unfold qJ
   split
   ·rename_i x hx
    rcases a with a|rfl
    ·exact a
    ·exact List.mem_map.2 ⟨_,zB hx,rfl⟩
   ·exact zY.2 a
  obtain⟨e,f⟩:=VS c (T:=qJ now T y)
  refine⟨fun k a=>e k (d k (.inl a)),fun s b=>?_⟩
  rcases List.mem_cons.1 b with rfl|b
  ·exact e _ (d _ (.inr rfl))
  ·exact f s b
theorem Qy{now:Int}:∀(c:List Sg) {T:List (Jk×Tsk)},(∀k,k∈zj T->k∈zj (c.foldl (ya now) T))/\∀s∈c,(⟨2,s⟩:Jk)∈zj (c.foldl (ya now) T)
 |[],T=>⟨fun _ h=>h,fun s b=>by cases b⟩
 |y::c,T=>by
  have d:∀k,k∈zj T\/k=⟨2,y⟩->k∈zj (ya now T y):=fun k a=>by
   unfold ya
   split
   ·rename_i x hx
    rcases a with a|rfl
    ·exact a
    ·exact List.mem_map.2 ⟨_,zB hx,rfl⟩
   ·exact zY.2 a
  obtain⟨e,f⟩:=Qy c (T:=ya now T y)
  refine⟨fun k a=>e k (d k (.inl a)),fun s b=>?_⟩
  rcases List.mem_cons.1 b with rfl|b
  ·exact e _ (d _ (.inr rfl))
  ·exact f s b
section
variable {c:Cf} {ep:Int} {m:MS} {ns:List Nm}
theorem X8.of{a:List (Jk×Tsk)}(k:xA c m a):X8 c {m with TL:=a}:=by
 obtain⟨g,f,b,j,h,i,rfl⟩:=k.to
 exact⟨g,j,fun s e d=>(Qy b).1 _ ((VS f).2 s ((h s).2 ⟨e,d⟩)),fun s e d=>(Qy b).2 s ((i s).2 ⟨e,d⟩)⟩
end
def RM.fail(m:RM)(ep num:Int):RM×Int:=match m.td.findIdx? (Tk.holds ep num)with
 |some i=>({m with td:=m.td.modify i (Tk.fail m.now)},0)
 |none=>(m,8)
noncomputable def zah (wi:Int) (a c b:Nat->Int):Nat->(Nat->Int)×(Nat->Int)×(Nat->Int)
 |0=>(fun _=>0,fun _=>0,fun _=>0)
 |k+1=>(Zp (zah wi a c b k).1 k (pkV (a k) ((k:Int)+1)-1),Zp (zah wi a c b k).2.1 k (zP wi (zah wi a c b k).2.1 (pkV (a k) ((k:Int)+1)-1)*(1+pkV (c k) (1000/zP wi (zah wi a c b k).2.1 (pkV (a k) ((k:Int)+1)-1)))),Zp (zah wi a c b k).2.2 k (pkV (b k) 1001))
theorem zaz{wi:Int}{a d c F W K:Nat->Int}{k:Nat}{f g b q r i l j:Int}(h:zah wi a d c k=(F,W,K))(m:a k=i)(n:d k=l)(o:c k=j)(s:pkV i ((k:Int)+1)=g)(e:g-1=f)(p:zP wi W f=b)(t:pkV l (1000/b)=q)(u:pkV j 1001=r):
  zah wi a d c (k+1)=(Zp F k f,Zp W k (b*(1+q)),Zp K k r):=by
 show(Zp (zah wi a d c k).1 k (pkV (a k) ((k:Int)+1)-1),Zp (zah wi a d c k).2.1 k (zP wi (zah wi a d c k).2.1 (pkV (a k) ((k:Int)+1)-1)*(1+pkV (d k) (1000/zP wi (zah wi a d c k).2.1 (pkV (a k) ((k:Int)+1)-1)))),Zp (zah wi a d c k).2.2 k (pkV (c k) 1001))=_
 rw[h,m,n,o,s,e]
 dsimp only
 rw[p,t,u]
noncomputable def znn (s le la wi ke qu:Int) (n:Nat) (a c b:Nat->Int):Cf:=
 if min n 4=0 then⟨1+pkV s 4,1+pkV le 100,pkV la 101,1+pkV wi 50,pkV ke 1001,1+pkV qu 400,0+1,Zp (fun _=>0) 0 (-1),Zp (fun _=>0) 0 (1+pkV wi 50),Zp (fun _=>0) 0 0⟩
 else⟨1+pkV s 4,1+pkV le 100,pkV la 101,1+pkV wi 50,pkV ke 1001,1+pkV qu 400,min n 4,(zah (1+pkV wi 50) a c b (min n 4)).1,(zah (1+pkV wi 50) a c b (min n 4)).2.1,(zah (1+pkV wi 50) a c b (min n 4)).2.2⟩
theorem zhr{s le la wi ke qu:Int}{n:Nat}{c e d F W K:Nat->Int}{k:Nat}{f g h b i j:Int}(l:pkV s 4=f)(m:pkV le 100=g)(o:pkV la 101=h)(p:pkV wi 50=b)(q:pkV ke 1001=i)(r:pkV qu 400=j)(u:min n 4=k)(a:¬k=0)(t:zah (1+b) c e d k=(F,W,K)):
  (⟨1+f,1+g,h,1+b,i,1+j,k,F,W,K⟩:Cf)=znn s le la wi ke qu n c e d:=by
 unfold znn
 rw[u,if_neg a,l,m,o,p,q,r,t]
theorem zkw{s le la wi ke qu:Int}{n:Nat}{c f d F W K:Nat->Int}{g h i a j k:Int}(o:pkV s 4=g)(p:pkV le 100=h)(q:pkV la 101=i)(r:pkV wi 50=a)(t:pkV ke 1001=j)(u:pkV qu 400=k)(w:min n 4=0)(v:zah (1+a) c f d 0=(F,W,K)):
  (⟨1+g,1+h,i,1+a,j,1+k,0+1,Zp F 0 (-1),Zp W 0 (1+a),Zp K 0 0⟩:Cf)=znn s le la wi ke qu n c f d:=by
 have e:((fun _=>0,fun _=>0,fun _=>0):(Nat->Int)×(Nat->Int)×(Nat->Int))=(F,W,K):=v
 injection e with l b
 injection b with b m
 subst l b m
 unfold znn
 rw[w,if_pos rfl,o,p,q,r,t,u]
def zpc(C:Cf)(w:S)(e:Ending)(w':S):Prop:=∃(c:Cf) (g a:Nat),c=C/\xW c.s c.le c.la c.wi c.ke c.qu c.n c.F c.W c.K=true/\c.fits/\e=.returned ((cZz c (J (U g 0)) a))/\w'.ownsRow w.1.size 80 3 (.slice (J (U g 0)) c.n a) c.n (ZN c.n c.F c.W c.K)/\G w.1.size w w'
def jN(QL:List (Tok×Lse))(t:Tok):Int:=match zD QL t with|some g=>g.til|none=>0
def Zn(ep:Int)(k:Nat):List Tok:=(List.range k).map (fun j:Nat=>(⟨ep,(j:Int)+1⟩:Tok))
def yK(ep:Int)(QL:List (Tok×Lse))(k:Nat):List Int:=(List.range k).map (fun j:Nat=>jN QL ⟨ep,(j:Int)+1⟩)
theorem zK(ep:Int)(k:Nat):(Zn ep k).length=k:=by simp[Zn]
theorem xd(ep:Int)(QL:List (Tok×Lse))(k:Nat):(yK ep QL k).length=k:=by simp[yK]
theorem vw(ep:Int)(k j:Nat)(h:j<k):(Zn ep k)[j]?=J ⟨ep,(j:Int)+1⟩:=by simp[Zn,h]
theorem vV(ep:Int)(QL:List (Tok×Lse))(k j:Nat)(h:j<k):(yK ep QL k)[j]?=J (jN QL ⟨ep,(j:Int)+1⟩):=by simp[yK,h]
theorem zjL(ep:Int)(k:Nat):Zn ep (k+1)=Zn ep k++[⟨ep,(k:Int)+1⟩]:=by simp[Zn,List.range_succ]
theorem zjP(ep:Int)(QL:List (Tok×Lse))(k:Nat):yK ep QL (k+1)=yK ep QL k++[jN QL ⟨ep,(k:Int)+1⟩]:=by simp[yK,List.range_succ]
theorem zgu{ep:Int}{Q Q':List (Tok×Lse)}{k:Nat}(h:∀j:Nat,j<k->jN Q ⟨ep,(j:Int)+1⟩=jN Q' ⟨ep,(j:Int)+1⟩):yK ep Q k=yK ep Q' k:=by
 unfold yK
 exact List.map_congr_left (fun j a=>h j (by simpa using a))
def zon(s:Sg):Nat:=((s.t+1)*400004+s.sr*100001+s.wn).toNat
def QB(s:Sg):Prop:=0<=s.sr/\s.sr<4
theorem zjn{c:Cf}(a:c.ok){s:Sg}(h:inR c s)(b:QB s):zon s<2000020:=by
 obtain⟨_,d,e,f,g⟩:=h
 obtain⟨i,j⟩:=b
 have:=a.n4
 unfold zon;omega
theorem zeq{c:Cf}{s a:Sg}(h:inR c s)(j:QB s)(i:inR c a)(b:QB a)(e:zon s=zon a):s=a:=by
 obtain⟨_,w,x,y,z⟩:=h
 obtain⟨B,C⟩:=j
 obtain⟨_,n,o,p,q⟩:=i
 obtain⟨u,g6⟩:=b
 obtain⟨t,r,v⟩:=s
 obtain⟨l,k,m⟩:=a
 unfold zon at e
 dsimp only at*
 have d:t=l:=by omega
 have f:r=k:=by omega
 have g:v=m:=by omega
 rw[d,f,g]
structure SOk(c:Cf)(ep:Int)(m:MS)(nn:Nat):Prop where
 ok:MOk c ep m
 gin:∀k∈zj m.Gl,inR c k/\QB k
 lin:∀k∈zn m.L,QB k
 held:Xh m.L<=nn
section
variable {c:Cf} {ep:Int} {m:MS} {nn:Nat}
theorem SOk.gl(h:SOk c ep m nn)(n:c.ok):m.Gl.length<=2000020:=by
 have k:=jE ((zj m.Gl).map zon) (List.range 2000020) ?_ ?_
 ·simpa[zj]using k
 ·have hn:=h.ok.seg.ng
  have d:=h.gin
  generalize zj m.Gl=l at*
  rw[List.nodup_iff_pairwise_ne,List.pairwise_map]
  refine(List.nodup_iff_pairwise_ne.1 hn).imp_of_mem ?_
  intro a b g i f e
  exact f (zeq (d a g).1 (d a g).2 (d b i).1 (d b i).2 e)
 ·intro x o
  obtain⟨s,j,rfl⟩:=List.mem_map.1 o
  exact List.mem_range.2 (zjn n (h.gin s j).1 (h.gin s j).2)
theorem MOk.unt_pos(h:MOk c ep m){t:Tok}{g:Lse}(a:zD m.QL t=J g):jN m.QL t=g.til/\0<g.til:=by
 have b:=(h.leas _ (zB a)).til
 have d:=h.now
 refine⟨by unfold jN;rw[a],by dsimp only at b;omega⟩
theorem MOk.unt_none{t:Tok}(a:zD m.QL t=D):jN m.QL t=0:=by unfold jN;rw[a]
theorem zoB{QL:List (Tok×Lse)}(hn:(zj QL).Nodup)(t k:Tok):jN (xa QL t) k=if k=t then 0 else jN QL k:=by
 unfold jN;rw[jB hn]
 by_cases e:k=t
 ·rw[if_pos e,if_pos e]
 ·rw[if_neg e,if_neg e]
theorem zjQ{QL:List (Tok×Lse)}(hn:(zj QL).Nodup)(t k:Tok)(g:Lse):jN (xZ QL t g) k=if k=t then g.til else jN QL k:=by
 unfold jN;rw[kJ hn]
 by_cases e:k=t
 ·rw[if_pos e,if_pos e]
 ·rw[if_neg e,if_neg e]
theorem zad{QL:List (Tok×Lse)}(hn:(zj QL).Nodup)(k j:Nat):yK ep (xa QL ⟨ep,(j:Int)+1⟩) k=(yK ep QL k).set j 0:=by
 apply List.ext_getElem?
 intro i
 rw[List.getElem?_set]
 by_cases a:i<k
 ·rw[vV _ _ _ _ a,zoB hn,vV _ _ _ _ a,xd]
  by_cases e:j=i
  ·subst e;simp[a]
  ·rw[if_neg (by intro h;injection h with _ h;omega),if_neg e]
 ·have b:(yK ep (xa QL ⟨ep,(j:Int)+1⟩) k)[i]?=D:=List.getElem?_eq_none (by rw[xd];omega)
  have c:(yK ep QL k)[i]?=D:=List.getElem?_eq_none (by rw[xd];omega)
  rw[b,c]
  split
  ·rename_i e;subst e;rw[if_neg (by rw[xd];exact a)]
  ·rfl
theorem zbQ{QL:List (Tok×Lse)}(k j:Nat)(h:jN QL ⟨ep,(j:Int)+1⟩=0):(yK ep QL k).set j 0=yK ep QL k:=by
 apply List.ext_getElem?
 intro i
 rw[List.getElem?_set]
 by_cases a:i<k
 ·rw[vV _ _ _ _ a,xd]
  by_cases e:j=i
  ·subst e;simp[a,h]
  ·rw[if_neg e]
 ·have b:(yK ep QL k)[i]?=D:=List.getElem?_eq_none (by rw[xd];omega)
  rw[b]
  split
  ·rename_i e;subst e;rw[if_neg (by rw[xd];exact a)]
  ·rfl
theorem zmr{QL:List (Tok×Lse)}(hn:(zj QL).Nodup)(k:Nat)(g:Lse):yK ep (xZ QL ⟨ep,(k:Int)+1⟩ g) (k+1)=yK ep QL k++[g.til]:=by
 rw[zjP,zjQ hn,if_pos rfl]
 congr 1
 exact zgu (fun j a=>by rw[zjQ hn,if_neg (by intro h;injection h with _ h;omega)])
def zgy(n:Int)(u:Int):Int:=if u<=n then 0 else u
theorem SOk.tick(w:c.ok)(x:c.fits)(h:SOk c ep m nn){n:Int}(hn:1<=n)(i:m.now+n<=100000){e d:List (Jk×Tsk)}{a:List (Tok×Lse)}(q:zag (m.now+n) m.TL m.QL e a)(s:∀p∈a,m.now+n<p.2.til)
  (y:xA c {m with now:=m.now+n,TL:=e,QL:=a} d):
  SOk c ep {m with now:=m.now+n,TL:=d,QL:=a} nn/\∀k,yK ep a k=(yK ep m.QL k).map (zgy (m.now+n)):=by
 have u:=h.ok.exps (n':=m.now+n) ⟨by omega,i⟩ q s
 obtain⟨v,_,_⟩:=MOk.post w x u y
 refine⟨⟨v,h.gin,h.lin,h.held⟩,fun k=>?_⟩
 obtain⟨_,_,i3,_,i5,B,_,_⟩:=Jd (ep:=ep) (c:=c) (L:=m.L) (num:=m.num) (show m.now<=m.now+n by omega) h.ok.td h.ok.nt h.ok.leas h.ok.nq h.ok.jobs q
 have z:∀t,jN a t=zgy (m.now+n) (jN m.QL t):=fun t=>by
  have o:=h.ok.now
  unfold zgy
  cases f:zD m.QL t with
  |none=>
   have:zD a t=D:=by
    cases b:zD a t with
    |none=>rfl
    |some g=>exact absurd (xp h.ok.nq (i5 _ (zB b))) (by rw[f];simp)
   rw[MOk.unt_none f,show jN a t=0 from by unfold jN;rw[this]];split<;>rfl
  |some g=>
   rw[(h.ok.unt_pos f).1]
   by_cases r:g.til<=m.now+n
   ·rw[if_pos r]
    have:zD a t=D:=by
     cases b:zD a t with
     |none=>rfl
     |some C=>
      have l:=xp h.ok.nq (i5 _ (zB b))
      rw[f]at l;injection l with l
      have a2:=s _ (zB b)
      rw[<-l]at a2
      dsimp only at a2;omega
    unfold jN;rw[this]
   ·rw[if_neg r]
    have:=xp i3 (B _ (zB f) (by dsimp only;omega))
    unfold jN;rw[this]
 unfold yK
 rw[List.map_map]
 exact List.map_congr_left (fun j _=>z _)
theorem SOk.take(b:c.ok)(h:SOk c ep m nn){p:Jk×Tsk}(e:p∈m.TL)(f:p.2.rest<=m.now)(d:k7 m.QL p.2.key=false)(slot:Int):
  SOk c ep {m with num:=m.num+1,QL:=xZ m.QL ⟨ep,m.num+1⟩ ⟨p.2.kd,p.2.s,slot,m.now+c.le⟩} nn:=by
 have a:=(h.ok.picked b (k:=p.1) (x:=p.2) (xp h.ok.nt e) f d slot).1
 exact⟨a,h.gin,h.lin,h.held⟩
theorem SOk.fail(h:SOk c ep m nn){t:Tok}{g:Lse}{x:Tsk}(a:zD m.QL t=J g)(b:zD m.TL g.job=J x):
  SOk c ep {m with TL:=xZ m.TL g.job (x.failed m.now),QL:=xa m.QL t} nn:=⟨h.ok.failed a b,h.gin,h.lin,h.held⟩
theorem SOk.job(h:SOk c ep m nn)(q:c.ok){t:Tok}{g:Lse}(l:zD m.QL t=J g):∃x,zD m.TL g.job=J x/\g.job.wf/\inR c x.s/\(x.rl=true->∃k:Nat,x.s.t=k)/\0<=x.ti/\x.ti<=1000000:=by
 obtain⟨x,i,r⟩:=(h.ok.leas _ (zB l)).job
 have f:=zB i
 have b:=h.ok.td _ f
 have a:=h.ok.mem_inR b.mem
 refine⟨x,i,h.ok.wfk _ f,a,fun e=>?_,?_⟩
 ·have d:=b.roll e
  have n:=zU b.mem
  refine⟨x.s.t.toNat,?_⟩
  have o: -1<=x.s.t:=a.2.1
  have p:x.s.t≠ -1:=fun j=>by
   have:=(h.ok.seg.raw _ n j).1
   dsimp only at this d;omega
  omega
 ·have d:=b.ti
  have:=h.ok.now
  dsimp only at d;omega
theorem zaM(h:yd c m.now m.L m.Gl){s:Sg}(b:s∈zn m.L):0<=yV (stL m.L s):=by
 have a:=zU b
 unfold yV
 split
 ·rename_i h1;have:=h.held1 _ a h1;dsimp only at this;omega
 ·exact Int.le_refl _
theorem SOk.roll(q:c.ok)(r:c.fits)(h:SOk c ep m nn){t:Tok}{g:Lse}{s:Sg}{se ti rest:Int}(u:zD m.QL t=J g)(w:zD m.TL g.job=J ⟨true,s,se,ti,rest⟩)(a:Cl){b:List (Jk×Tsk)}
  (v:xA c {m with L:=qT m.L s ⟨3,a⟩,Gl:=m.Gl,TL:=xa m.TL g.job,QL:=xa m.QL t} b):
  SOk c ep {m with L:=qT m.L s ⟨3,a⟩,Gl:=m.Gl,TL:=b,QL:=xa m.QL t} nn/\xR (qT m.L s ⟨3,a⟩) 2=xR m.L 2-1:=by
 obtain⟨j,f,l,n⟩:=h.ok.rolled u w rfl a
 dsimp only at j f l n
 have o:=(MOk.post q r j v).1
 refine⟨⟨o,h.gin,fun k i=>?_,?_⟩,?_⟩
 ·rcases xJ.1 i with i|rfl
  ·exact h.lin k i
  ·exact h.lin _ n
 ·have:=f yV
  have x:=h.held
  have d:yV (stL m.L s)=0:=by unfold yV;rw[if_neg (by omega)]
  have e:yV ⟨3,a⟩=0:=by simp[yV]
  rw[d,e]at this
  unfold Xh at*
  show qw ((qT m.L s ⟨3,a⟩).map (fun p=>yV p.2))<=_
  omega
 ·have:=f (zaN 2)
  have d:zaN 2 (stL m.L s)=1:=by unfold zaN;rw[if_pos l]
  have e:zaN 2 ⟨3,a⟩=0:=by simp[zaN]
  rw[d,e]at this
  unfold xR
  omega
theorem SOk.reclaim(o:c.ok)(q:c.fits)(h:SOk c ep m nn){t:Tok}{g:Lse}{s:Sg}{se ti rest:Int}(r:zD m.QL t=J g)(u:zD m.TL g.job=J ⟨false,s,se,ti,rest⟩){a:List (Jk×Tsk)}
  (e:xA c {m with L:=xa m.L s,Gl:=xZ m.Gl s (),TL:=xa m.TL g.job,QL:=xa m.QL t} a):
  SOk c ep {m with L:=xa m.L s,Gl:=xZ m.Gl s (),TL:=a,QL:=xa m.QL t} nn/\(xZ m.Gl s ()).length=m.Gl.length+1:=by
 obtain⟨f,i,l,d,j⟩:=h.ok.reclaimed r u rfl
 dsimp only at f i l d j
 have n:=(MOk.post o q f e).1
 refine⟨⟨n,fun k b=>?_,fun k b=>?_,?_⟩,j⟩
 ·rcases zY.1 b with b|rfl
  ·exact h.gin k b
  ·exact⟨h.ok.mem_inR d,h.lin _ d⟩
 ·obtain⟨p,e,rfl⟩:=List.mem_map.1 (show k∈(xa m.L s).map (·.1)from b)
  exact h.lin _ (List.mem_map.2 ⟨p,(zT.1 e).1,rfl⟩)
 ·have:=i yV
  have v:=h.held
  have w:=zaM h.ok.seg d
  unfold Xh at*
  show qw ((xa m.L s).map (fun p=>yV p.2))<=_
  omega
theorem zkj{x:Nm}(b:0<=x.sr/\x.sr<4){L:LV}(h:∀k∈zn L,QB k):∀k∈zn (yu c L x),QB k:=fun k d=>by
 obtain⟨p,a,rfl⟩:=List.mem_map.1 (show k∈(yu c L x).map (·.1)from d)
 rcases jZ x c.n _ a with a|⟨j,e,rfl,f⟩
 ·rcases qr a with rfl|⟨a,_⟩
  ·exact b
  ·exact h _ (List.mem_map.2 ⟨p,a,rfl⟩)
 ·exact b
theorem SOk.ingest(a:c.ok)(d:c.fits)(h:SOk c ep m nn){x:Nm}(b:0<=x.sr/\x.sr<4)(f:0<=x.tm/\x.tm<=m.now)(e:m.now-c.la<=x.tm)(hv: -2147483648<=x.val/\x.val<=2147483647)(j:zJ m.L+(1+2*qO c m.L x c.n)<=c.qu):
  SOk c ep {m with L:=yu c m.L x} (nn+1)/\zJ (yu c m.L x)=zJ m.L+1+2*qO c m.L x c.n:=by
 refine⟨⟨h.ok.added a d b f e hv (by omega),h.gin,zkj b h.lin,?_⟩,zbR h.ok.seg a x⟩
 have g:=zhR h.ok.seg a x
 have i:=h.held
 show Xh (yu c m.L x)<=((nn+1:Nat):Int)
 omega
theorem SOk.new(a:c.ok):SOk c ep ⟨0,[],[],0,[],[]⟩ 0:=by
 have b:=a.qu
 refine⟨⟨by dsimp only;omega,⟨by simp,by simp[zn],by simp,by simp,by simp,by simp[zj],by simp,by simp[zj],by simp,?_⟩,by simp,by simp[zj],by simp,by simp[zj],by simp,by dsimp only;omega⟩,by simp[zj],by simp[zn],?_⟩
 ·show zJ []<=c.qu
  simp[zJ,qw];omega
 ·simp[Xh,qw]
end
def RM.done(m:RM)(kind:Int)(s:Sg):RM:=if kind=1 then{m with pub:=m.pub++[s]}.settled else{m with gone:=m.gone++[s]}.settled
def RM.commit(m:RM)(ep num:Int):RM×Int:=match m.td.findIdx? (Tk.holds ep num)with
 |some i=>(m.done ((m.td[i]?).getD ⟨0,⟨0,0,0⟩,0,0,0,0,0,0,0⟩).kind ((m.td[i]?).getD ⟨0,⟨0,0,0⟩,0,0,0,0,0,0,0⟩).s,0)
 |none=>(m,8)
def RM.due(m:RM)(x:Tk):Int:=if x.kind=2 then m.c.end x.s+m.c.keep x.s.t else m.c.end x.s
theorem Vw{c:Cf}(g:c.ok){L:LV}{k:Sg}(i:inR c k):Za c L k=true↔∀x∈yI c k,(stL L x).st≠2:=by
 have b:=jg g i
 unfold Za
 constructor
 ·intro h x j e
  have f:((kB c k).filter (fun x=>(stL L x.1).st==2)).length=0:=by
   have:=of_decide_eq_true (show decide ((((kB c k).filter (fun x=>(stL L x.1).st==2)).length:Int)=0)=true from by simpa using h)
   omega
  obtain⟨y,a,d⟩:=List.mem_map.1 ((b x).2 j)
  have:y∈(kB c k).filter (fun x=>(stL L x.1).st==2):=List.mem_filter.2 ⟨a,by rw[d];simpa using e⟩
  rw[List.eq_nil_of_length_eq_zero f]at this;simp at this
 ·intro h
  have:(kB c k).filter (fun x=>(stL L x.1).st==2)=[]:=List.filter_eq_nil_iff.2 (fun y a e=>h y.1 ((b y.1).1 (List.mem_map.2 ⟨y,a,rfl⟩)) (by simpa using e))
  rw[this];rfl
theorem zdH{n:Int}{T:List (Jk×Tsk)}{Q:List (Tok×Lse)}(h:zag n [] [] T Q):T=[]/\Q=[]:=by
 induction h with
 |nil=>exact⟨rfl,rfl⟩
 |step _ a _ _ b=>rw[b.2]at a;simp[zD]at a
theorem zaF{α β:Type}(f:β->α->β)(a:α)(b b':β)(g:f b a=b')(i:f b' a=b'):∀(l:List α),(∀x∈l,x=a)->a∈l->l.foldl f b=b'
 |[],_,h=>by cases h
 |x::l,d,_=>by
  have e:=d x (by simp)
  subst e
  show l.foldl f (f b x)=b'
  rw[g]
  have:∀(l:List α),(∀y∈l,y=x)->l.foldl f b'=b':=fun l=>by
   induction l with
   |nil=>intro _;rfl
   |cons y l k=>intro c;have e:=c y (by simp);subst e;show l.foldl f (f b' y)=b';rw[i];exact k (fun z j=>c z (by simp[j]))
  exact this l (fun y c=>d y (by simp[c]))
theorem ziz{α:Type}{l:List α}(h:∀x,x∉l):l=[]:=by
 cases l with
 |nil=>rfl
 |cons a l=>exact absurd (by simp) (h a)
def awC:Cf:=⟨1,9,0,2,4,9,1,fun _=> -1,fun _=>2,fun _=>100⟩
theorem zar:xW awC.s awC.le awC.la awC.wi awC.ke awC.qu awC.n awC.F awC.W awC.K=true:=by decide
theorem ZQ:awC.ok:=vJ zar
theorem zko:awC.fits:=⟨by decide,rfl,⟨1,by omega,rfl⟩,fun i a=>⟨by show(-1:Int)<= -1;omega,by show(-1:Int)<((1:Nat):Int);omega⟩,fun i a=>⟨1,by omega,rfl⟩,fun i a=>by
 have e:i=0:=by have:awC.n=1:=rfl;omega
 subst e;rfl⟩
def awR:Sg:=⟨-1,1,0⟩
def awT:Sg:=⟨0,1,0⟩
def zpJ:Cl:=⟨1,7,7,7⟩
def zhe:LV:=[(awR,⟨1,zpJ⟩),(awT,⟨2,qt⟩)]
def zka:LV:=[(awR,⟨1,zpJ⟩),(awT,⟨3,zpJ⟩)]
def zoV:LV:=[(awT,⟨3,zpJ⟩)]
theorem zhh:qT zhe awT ⟨3,xv (xo awC zhe 1 0 0)⟩=zka:=by kernel_rfl
theorem Vl:inR awC awR:=by unfold inR Sg.wf xg awR awC;dsimp only;omega
theorem zas:inR awC awT:=by unfold inR Sg.wf xg awT awC;dsimp only;omega
theorem zoW:yI awC awR=[awT]:=by rfl
theorem zpU:yI awC awT=[]:=by rfl
def zpK:List (Jk×Tsk):=[(⟨1,awT⟩,⟨true,awT,6,0,0⟩)]
def zpL:List (Jk×Tsk):=[(⟨2,awR⟩,⟨false,awR,6,0,0⟩)]
def zpQ:MS:=⟨0,zhe,[],0,[],[]⟩
def zpR:MS:=⟨6,zhe,[],0,zpK,[]⟩
def awQ1:List (Tok×Lse):=[(⟨1,1⟩,⟨1,awT,0,15⟩)]
def zoQ:MS:=⟨6,zhe,[],1,zpK,awQ1⟩
def zpS:MS:=⟨6,zka,[],1,zpL,[]⟩
def awQ2:List (Tok×Lse):=[(⟨1,2⟩,⟨2,awR,0,15⟩)]
def zpT:MS:=⟨6,zka,[],2,zpL,awQ2⟩
theorem zkr{d:List (Jk×Tsk)}(h:xA awC ⟨6,zhe,[],0,[],[]⟩ d):d=zpK:=by
 obtain⟨i,c,g,q,j,p,rfl⟩:=h.to
 dsimp only at*
 have r:zj i=[]:=ziz (fun x f=>by
  obtain⟨k,a,e,f⟩:=(q x).1 f
  simp[zhe,zn]at a
  rcases a with rfl|rfl
  ·exact absurd e (by decide)
  ·rw[zpU]at f;cases f)
 have l:∀k,zD i k=D:=fun k=>xr.2 (by rw[r];simp)
 have m:∀s∈c,s=awT:=fun s e=>by
  obtain⟨a,b⟩:=(j s).1 e
  simp[zhe,zn]at a
  rcases a with rfl|rfl
  ·unfold yR at b;rw[l]at b;exact absurd b (by decide)
  ·rfl
 have n:awT∈c:=(j awT).2 ⟨by simp[zhe,zn],by unfold yR;rw[l];decide⟩
 have o:g=[]:=ziz (fun s e=>by
  obtain⟨a,b⟩:=(p s).1 e
  simp[zhe,zn]at a
  unfold yQ at b
  simp only[Bool.and_eq_true]at b
  rcases a with rfl|rfl
  ·exact(Vw ZQ Vl).1 b.2 awT (by rw[zoW];simp) (by decide)
  ·exact absurd b.1.1 (by decide))
 rw[o]
 exact zaF (qJ 6) awT [] zpK (by rfl) (by rfl) c m n
theorem zks{num:Int}{c:List (Jk×Tsk)}(h:xA awC ⟨6,zka,[],num,[],[]⟩ c):c=zpL:=by
 obtain⟨n,g,b,o,m,i,rfl⟩:=h.to
 dsimp only at*
 have j:g=[]:=ziz (fun s e=>by
  obtain⟨d,a⟩:=(m s).1 e
  simp[zka,zn]at d
  unfold yR at a
  simp only[Bool.and_eq_true]at a
  rcases d with rfl|rfl
  ·exact absurd a.1.2 (by decide)
  ·exact absurd a.1.2 (by decide))
 have k:∀s∈b,s=awR:=fun s e=>by
  obtain⟨d,a⟩:=(i s).1 e
  simp[zka,zn]at d
  unfold yQ at a
  simp only[Bool.and_eq_true]at a
  rcases d with rfl|rfl
  ·rfl
  ·exact absurd a.1.2 (by decide)
 have l:awR∈b:=(i awR).2 ⟨by simp[zka,zn],by
  unfold yQ
  simp only[Bool.and_eq_true]
  refine⟨⟨by decide,by decide⟩,(Vw ZQ Vl).2 (fun x f=>?_)⟩
  rw[zoW]at f
  simp at f
  subst f
  decide⟩
 rw[j]
 exact zaF (ya 6) awR [] zpL (by rfl) (by rfl) b k l
end Go.Proofs.YtndhpgciopcncaaGreatDoor
