import Derived.Test.YtpbimdkclnekeaaGreatVSrt0
open Go.Value renaming int → I
open Go.IntKind renaming i64 → J
open Option renaming none → K
open Option renaming some → O
open Go.RowKit.Below renaming refl → E
open Nat renaming le_refl → Q
open Nat renaming lt_of_lt_of_le → U
set_option linter.unusedVariables false
set_option maxRecDepth 8000
set_option maxHeartbeats 8000000
open Go.Proofs.Tryz
namespace Go.Proofs.YtpbimdkclnekeaaGreat
open Go.RowKit
theorem zJ.addPick{B:Nat}{w:World}{p:Nat}{m:RM}{tv nv pv gv kv:Value}(h:zJ B w p m tv nv pv gv kv)(n:Int):zJ B (w.setCell ⟨p,13,K⟩ (I J n)) p {m with picks:=n} tv nv pv gv kv/\zk (fun k=>k=p) w (w.setCell ⟨p,13,K⟩ (I J n)):=by
 have a:zk (fun k=>k=p) w (w.setCell ⟨p,13,K⟩ (I J n)):=zn (zk.refl _ _) rfl
 exact⟨⟨xm (i:=13) h.head (I J n),h.base,zi h.trow a (zt h.head h.trow (by decide)),zi h.nrow a (zt h.head h.nrow (by decide)),zi h.prow a (zt h.head h.prow (by decide)),zi h.grow a (zt h.head h.grow (by decide)),zi h.krow a (zt h.head h.krow (by decide))⟩,a⟩
theorem zkO{B:Nat}{w:World}{p g cap:Nat}{m:RM}{tv nv pv gv:Value}{l:List Tk}(h:zJ B w p {m with tg:=l} tv nv pv gv (.slice (O ⟨g,0,K⟩) l.length cap)){i:Nat}{x:Tk}(s:l[i]?=O x)(ep num slot:Int):
  zJ B (((w.setCell ⟨g,i*11+7,K⟩ (I J ep)).setCell ⟨g,i*11+7+1,K⟩ (I J num)).setCell ⟨g,i*11+9,K⟩ (I J slot)).drew p {m with tg:=l.set i {x with ep:=ep,num:=num,slot:=slot}} tv nv pv gv (.slice (O ⟨g,0,K⟩) (l.set i {x with ep:=ep,num:=num,slot:=slot}).length cap)/\(l.set i {x with ep:=ep,num:=num,slot:=slot})[i]?=O {x with ep:=ep,num:=num,slot:=slot}/\zk (fun k=>k=g) w (((w.setCell ⟨g,i*11+7,K⟩ (I J ep)).setCell ⟨g,i*11+7+1,K⟩ (I J num)).setCell ⟨g,i*11+9,K⟩ (I J slot)).drew:=by
 obtain⟨c,j,o⟩:=h.putTask' s 7 {x with ep:=ep} (I J ep) (by omega) rfl
 obtain⟨d,n,q⟩:=c.putTask' j 8 {x with ep:=ep,num:=num} (I J num) (by omega) rfl
 obtain⟨f,b,r⟩:=d.putTask' n 9 {x with ep:=ep,num:=num,slot:=slot} (I J slot) (by omega) rfl
 have a:=f.later (E _ _).drew
 simp only[List.set_set]at a b
 exact⟨a,b,((o.trans q (fun _ _ e=>e)).trans r (fun _ _ e=>e)).drew⟩
theorem XM{w:World}{B size n:Nat}{e:TypeId}{v:Value}{xs:List Value}(h:w.ownsRow B e size v n xs):∀k,v.ownBlock=O k->k<w.1.size:=fun k c=>by
 obtain⟨a,b⟩:=zO h c
 exact zd b
theorem zJ.rlt{B:Nat}{w:World}{p:Nat}{m:RM}{tv nv pv gv kv:Value}(h:zJ B w p m tv nv pv gv kv):∀k,vP p tv nv pv gv kv k->k<w.1.size:=fun k a=>by
 rcases a with rfl|e|e|e|e|e
 ·exact h.lt
 ·exact XM h.trow k e
 ·exact XM h.nrow k e
 ·exact XM h.prow k e
 ·exact XM h.grow k e
 ·exact XM h.krow k e
theorem zhX{B:Nat}{w wr j l c V T:World}{p:Nat}{m m':RM}{tv nv pv gv kv b:Value}{g:Nat}(h:zJ B w p m tv nv pv gv kv)(n:kv.ownBlock=O g)(i:∀k,b.ownBlock=O k->kv.ownBlock=O k)(x:Below w.1.size w wr)(y:zk (fun k=>k=p) wr j)(z:zk (fun k=>k=g) j l)(A:zk (fun k=>k=g) l c)(v:zJ B c p m' tv nv pv gv b)(hv:Below c.1.size c V)(o:zk (fun k=>k=w.1.size) V T):
  zJ B T p m' tv nv pv gv b/\zk (fun k=>k=p\/kv.ownBlock=O k) w T:=by
 refine⟨(v.later hv).kept o (fun k d e=>?_),?_⟩
 ·have:vP p tv nv pv gv kv k:=by
   rcases d with a|a|a|a|a|a
   ·exact .inl a
   ·exact .inr (.inl a)
   ·exact .inr (.inr (.inl a))
   ·exact .inr (.inr (.inr (.inl a)))
   ·exact .inr (.inr (.inr (.inr (.inl a))))
   ·exact .inr (.inr (.inr (.inr (.inr (i k a)))))
  have:=h.rlt k this
  omega
 ·have q:zk (fun k=>k=p\/kv.ownBlock=O k) w wr:=zk.of_below x
  have r:=q.trans y (fun k _ e=> .inl e)
  have s:=r.trans z (fun k _ e=> .inr (by rw[e];exact n))
  have t:=s.trans A (fun k _ e=> .inr (by rw[e];exact n))
  have u:=t.trans (zk.of_below (f:=fun _=>False) hv) (fun k _ e=>e.elim)
  exact u.trans o (fun k d e=>absurd d (by omega))
def zex:Option Nat->Int
 |none=> -1
 |some j=>j
theorem Yq{m:RM}{slot:Int}{x:Tk}(a:¬(slot<0\/m.c.s<=slot))(d:x∈m.tg)(b:x.slot=slot):m.pick slot=(m,ju,6):=by
 unfold RM.pick
 rw[if_neg a,if_pos]
 exact List.any_eq_true.2 ⟨x,d,by simp[b]⟩
theorem zjJ{m:RM}{slot:Int}(b:¬(slot<0\/m.c.s<=slot))(d:∀j,j<m.tg.length->∀x,m.tg[j]?=O x->¬x.slot=slot):m.pick slot=match m.bestI m.tg.length with
 |none=>(m,ju,7)
 |some j=>({m with picks:=m.picks+1,tg:=m.tg.modify j (Tk.leased m.epoch (m.picks+1) slot (m.now+m.c.le))},Tk.leased m.epoch (m.picks+1) slot (m.now+m.c.le) ((m.tg[j]?).getD ju),0):=by
 have hn:¬m.tg.any (fun x=>x.slot==slot)=true:=fun h=>by
  obtain⟨x,g,f⟩:=List.any_eq_true.1 h
  obtain⟨j,a,e⟩:=List.getElem_of_mem g
  exact d j a x (by rw[List.getElem?_eq_getElem a,e]) (by simpa using f)
 unfold RM.pick
 rw[if_neg b,if_neg hn]
 rfl
theorem zgi{B:Nat}{w:World}{p:Nat}{m:RM}{tv nv pv gv kv:Value}(h:zJ B w p m tv nv pv gv kv)(hc:m.c.ok)(bq:m.nu.length<=100000000)(bD:m.gone.length<=1000000000)(bI:m.tg.length<=1000000000)(br:∀x∈m.nu,x.ok)(hu:m.used<=1000000000000000000)(aw:0<=m.now/\m.now<=100000)(aX:∀x∈m.tg,zgr m.c x.s/\0<=x.si/\x.si<=m.now)(bO:0<=m.picks/\m.picks<=1000000000000000)(slot:Int):
  Calls prog 154 #[.pointer (O ⟨p,0,K⟩),I J slot] w fun e w'=>e=.returned (.tuple #[tkA (m.pick slot).2.1,I J (m.pick slot).2.2])/\zJ B w' p (m.pick slot).1 tv nv pv gv kv/\zk (fun k=>k=p\/kv.ownBlock=O k) w w':=by
 obtain⟨ak,ck,bp⟩:=zq h.krow
 subst bp
 have d:Below w.1.size w (w.alloc (.cells #[I J 0,I J 0,I J 0,I J 0,I J 0,I J 0,I J 0,I J 0,I J 0,I J 0,I J 0] 51)):=(E _ _).alloc (Q _) _
 have HQ:=ze (zo w (.cells #[I J 0,I J 0,I J 0,I J 0,I J 0,I J 0,I J 0,I J 0,I J 0,I J 0,I J 0] 51))
 have hX:=h.later d
 have aO:=ze (zah hX hc bq (by omega) br hu)
 obtain⟨c0,-⟩:=hX.conf
 have r:=hX.lt
 have HX:=ze hX
 have ag:=ze d
 have aF:=zd (ud HQ)
 have H:=ze h
 clear h hX d
 go_enter func154,ntmps154
 by_cases h1:slot<0
 ·have HP:Hid (m.pick slot=(m,ju,6)):=by show m.pick slot=_;unfold RM.pick;rw[if_pos (.inl h1)]
  rw[ud HP]
  go_wp2_with fail
  refine bodyPost_ret (zj results154 _ _ w.1.size _ _ _ _ _ rfl rfl (ud HQ) underlying51 rfl (by kernel_rfl)) rfl ?_
  exact⟨rfl,ud HX,zk.of_below (ud ag)⟩
 by_cases h2:m.c.s<=slot
 ·have HP:Hid (m.pick slot=(m,ju,6)):=by show m.pick slot=_;unfold RM.pick;rw[if_pos (.inr h2)]
  rw[ud HP]
  have aU:decide (slot<0)=false:=by simp;omega
  go_wp2_with fail
  refine bodyPost_ret (zj results154 _ _ w.1.size _ _ _ _ _ rfl rfl (ud HQ) underlying51 rfl (by kernel_rfl)) rfl ?_
  exact⟨rfl,ud HX,zk.of_below (ud ag)⟩
 have aU:decide (slot<0)=false:=by simp;omega
 have bk:decide (m.c.s<=slot)=false:=by simp;omega
 have az:Hid (¬(slot<0\/m.c.s<=slot)):=by show¬_;omega
 go_wp2_with fail
 refine(ud aO).mono ?_
 rintro e w1 ⟨rfl,aj⟩
 have ao:=ze ((aj.block _ aF).trans (ud HQ))
 have am:=U aF aj.size
 have aR:=ze ((ud HX).later aj)
 have af:=ze ((ud ag).trans (aj.mono (ud ag).size))
 clear aj aO HQ HX ag aF c0 r
 go_wp2_with fail
 go_loopw [8,9] (fun y _ wr=>∃(k:Nat),k<=m.tg.length/\y=I J k/\(∀j,j<k->∀x,m.tg[j]?=O x->¬x.slot=slot)/\Below w1.1.size w1 wr) (fun y _ _=>m.tg.length-(intOf y).toNat)
 case atStart=>exact⟨0,Nat.zero_le _,rfl,fun j hj=>absurd hj (Nat.not_lt_zero _),E _ _⟩
 case round=>
  obtain⟨k,hk,rfl,ha,hb⟩:=hrel
  have HA:=ze ha
  have HB:=ze hb
  have A:=(ud aR).later hb
  obtain⟨-,-,-,-,N,-,-⟩:=A.rest
  have r:=A.lt
  have aA:=ze ((hb.block _ am).trans (ud ao))
  clear ha
  by_cases aE:k<m.tg.length
  ·obtain⟨x,P⟩:=xr aE
   obtain⟨g,L,hv,_,ad,y0,y1,y2,y3,y4,y5,y6,y7,y8,y9,F⟩:=Zd A.krow P
   injection hv with a M v
   subst a v
   have HX:=ze P
   have bJ:(k:Int)<m.tg.length:=by omega
   have q1:=zo wr (.cells #[I J x.kind,I J x.s.t,I J x.s.se,I J x.s.we,I J x.si,I J x.tc,I J x.rest,I J x.ep,I J x.num,I J x.slot,I J x.till] 239)
   obtain⟨-,-,-,-,-,-,-,-,-,z9,-⟩:=zc q1
   have zl:=zd q1
   have q:=ze (hb.alloc hb.size (.cells #[I J x.kind,I J x.s.t,I J x.s.se,I J x.s.we,I J x.si,I J x.tc,I J x.rest,I J x.ep,I J x.num,I J x.slot,I J x.till] 239))
   clear P A M hb q1
   by_cases hs:x.slot=slot
   ·have HP:=ze (Yq (ud az) (List.mem_of_getElem? (ud HX)) hs)
    subst hs
    have aq:=ze (((E wr.1.size wr).alloc (Q _) (.cells #[I J x.kind,I J x.s.t,I J x.s.se,I J x.s.we,I J x.si,I J x.tc,I J x.rest,I J x.ep,I J x.num,I J x.slot,I J x.till] 239)|>.block _ (U am (ud HB).size)).trans (ud aA))
    have HW:=ze ((ud af).trans ((ud q).mono (ud af).size))
    obtain⟨b0,b1,b2,b3,b4,b5,b6,b7,b8,b9,aS⟩:=z11 (ud aq)
    have bf:=fun j=>zD (ud aq) j
    have bl:=zd (ud aq)
    go_wp2_with fail
    have hf:=kH (ud aq) (I J 0) (I J 0) (I J 0) (I J 0) (I J 0) (I J 0) (I J 0) (I J 0) (I J 0) (I J 0) (I J 0)
    refine bodyPost_ret (zj results154 _ _ w.1.size _ _ _ _ _ rfl rfl hf underlying51 rfl (by kernel_rfl)) rfl ?_
    have kT:=(ud HW).trans ((qH (w:=(wr.alloc (.cells #[I J x.kind,I J x.s.t,I J x.s.se,I J x.s.we,I J x.si,I J x.tc,I J x.rest,I J x.ep,I J x.num,I J x.slot,I J x.till] 239))) (g:=w.1.size) (I J 0) (I J 0) (I J 0) (I J 0) (I J 0) (I J 0) (I J 0) (I J 0) (I J 0) (I J 0) (I J 0)).below (ud HW).size (fun k e=>by omega))
    rw[ud HP]
    exact⟨rfl,(ud H).later kT,zk.of_below kT⟩
   ·have aN:Hid (∀j,j<k+1->∀y,m.tg[j]?=O y->¬y.slot=slot):=fun j hj y hj'=>by
     by_cases e:j=k
     ·subst e;rw[ud HX]at hj';cases hj';exact hs
     ·exact ud HA j (by omega) y hj'
    go_wp2_with fail
    go_roundw
    case rel=>exact⟨k+1,by omega,by go_num,ud aN,ud q⟩
    case measure=>simp[intOf];omega
  ·have ab:=ze (zjJ (ud az) (fun j hj x P=>ud HA j (by omega) x P))
   have ax:=ze ((ud af).trans (hb.mono (ud af).size))
   have bj:=ze A
   have bR:=(ud ax).size
   clear HA HB A hb aR af ao am az aU bk hk
   obtain⟨w2,rfl⟩:∃w2,w2=wr:=⟨_,rfl⟩
   go_wp2_with fail
   clear N r
   go_loopw [7,10,11,12] (fun z y _ _ W=>∃(k:Nat),k<=m.tg.length/\y=I J k/\z=I J (zex (m.bestI k))/\Below w2.1.size w2 W) (fun _ y _ _ _=>m.tg.length-(intOf y).toNat)
   case atStart=>exact⟨0,Nat.zero_le _,rfl,rfl,E _ _⟩
   case round=>
    obtain⟨i,hi,rfl,rfl,X⟩:=hrel
    have A:=(ud bj).later X
    obtain⟨r7,-,-,-,N,-,-⟩:=A.rest
    have r:=A.lt
    have aH:=ze X
    have R:=ze (jQ m i)
    have an:=fun j=>ze (ZT m i (j:=j))
    by_cases aE:i<m.tg.length
    ·obtain⟨x,P⟩:=xr aE
     obtain⟨g,L,hv,_,ad,y0,y1,y2,y3,y4,y5,y6,y7,y8,y9,F⟩:=Zd A.krow P
     injection hv with a M v
     subst a v
     have HX:=ze P
     have aP:=ze (aX x (List.mem_of_getElem? P))
     have bF:(i:Int)<m.tg.length:=by omega
     have q1:=zo wr (.cells #[I J x.kind,I J x.s.t,I J x.s.se,I J x.s.we,I J x.si,I J x.tc,I J x.rest,I J x.ep,I J x.num,I J x.slot,I J x.till] 239)
     obtain⟨z0,z1,z2,z3,z4,z5,z6,z7,z8,z9,bx⟩:=xG (f:=x) q1
     have zl:=zd q1
     have d:=(E wr.1.size wr).alloc (Q _) (.cells #[I J x.kind,I J x.s.t,I J x.s.se,I J x.s.we,I J x.si,I J x.tc,I J x.rest,I J x.ep,I J x.num,I J x.slot,I J x.till] 239)
     have bh:=ze (A.later d)
     have v7:=(d.cell (p:=⟨p,7,K⟩) r).trans r7
     have bw:=(d.cell (p:=⟨p,11,K⟩) r).trans N
     have vp:=U r d.size
     have q:=ze ((ud aH).trans (d.mono (ud aH).size))
     have ao:=ze q1
     clear P M q1 A X d
     generalize ae:m.bestI i=ob at*
     by_cases hs:0<=x.slot
     ·have HB:=ze (QK (b:=ob) (ud HX) (by unfold RM.freeT;simp;omega))
      go_wp2_with fail
      generalize(wr.alloc (.cells #[I J x.kind,I J x.s.t,I J x.s.se,I J x.s.we,I J x.si,I J x.tc,I J x.rest,I J x.ep,I J x.num,I J x.slot,I J x.till] 239))=Y at*
      have D:Nonempty (zm Y.1.size Y):=zm.some _ _
      have C:=fun(u:zm Y.1.size Y) b o h=>u.cell b o h
      refine zh Y.1.size (by kernel_rfl) (by kernel_rfl) ?_
      repeat(go_big_quiet_step (fail))
      refine wpQuiet_nil ?_
      rintro⟨V,n⟩
      dsimp only
      clear C D
      have G:=ze ((ud q).trans (n.mono (ud q).size))
      clear n
      go_wp2_with fail
      go_roundw
      case rel=>exact⟨i+1,by omega,by go_num,by rw[ud R,ud HB],ud G⟩
      case measure=>simp[intOf];omega
     ·have bQ:decide (0<=x.slot)=false:=by simp;omega
      by_cases hr:m.now<x.rest
      ·have HB:=ze (QK (b:=ob) (ud HX) (by unfold RM.freeT;simp;omega))
       go_wp2_with fail
       generalize(wr.alloc (.cells #[I J x.kind,I J x.s.t,I J x.s.se,I J x.s.we,I J x.si,I J x.tc,I J x.rest,I J x.ep,I J x.num,I J x.slot,I J x.till] 239))=Y at*
       have D:Nonempty (zm Y.1.size Y):=zm.some _ _
       have C:=fun(u:zm Y.1.size Y) b o h=>u.cell b o h
       refine zh Y.1.size (by kernel_rfl) (by kernel_rfl) ?_
       repeat(go_big_quiet_step (fail))
       refine wpQuiet_nil ?_
       rintro⟨V,n⟩
       dsimp only
       clear C D
       have G:=ze ((ud q).trans (n.mono (ud q).size))
       clear n
       go_wp2_with fail
       go_roundw
       case rel=>exact⟨i+1,by omega,by go_num,by rw[ud R,ud HB],ud G⟩
       case measure=>simp[intOf];omega
      ·have bP:decide (m.now<x.rest)=false:=by simp;omega
       have aI:Hid (m.freeT x=true):=by show m.freeT x=true;unfold RM.freeT;simp;omega
       cases ob with
       |none=>
        have HB:=ze (jC (ud HX) (ud aI))
        go_wp2_with fail
        generalize(wr.alloc (.cells #[I J x.kind,I J x.s.t,I J x.s.se,I J x.s.we,I J x.si,I J x.tc,I J x.rest,I J x.ep,I J x.num,I J x.slot,I J x.till] 239))=Y at*
        have D:Nonempty (zm Y.1.size Y):=zm.some _ _
        have C:=fun(u:zm Y.1.size Y) b o h=>u.cell b o h
        refine zh Y.1.size (by kernel_rfl) (by kernel_rfl) ?_
        repeat(go_big_quiet_step (fail))
        refine wpQuiet_nil ?_
        rintro⟨V,n⟩
        dsimp only
        clear C D
        have G:=ze ((ud q).trans (n.mono (ud q).size))
        clear n
        dsimp only[zex]
        go_wp2_with fail
        go_roundw
        case rel=>exact⟨i+1,by omega,by go_num,by rw[ud R,ud HB];rfl,ud G⟩
        case measure=>simp[intOf];omega
       |some j=>
        obtain⟨bG,y,hy,bv⟩:=ud (an j) rfl
        have HB:=ze (K7 (ud HX) (ud aI) hy)
        have aQ:=ze (aX y (List.mem_of_getElem? hy))
        have HY:=ze hy
        have bo:(j:Int)<m.tg.length:=by omega
        clear hy bv
        go_wp2_with fail
        generalize(wr.alloc (.cells #[I J x.kind,I J x.s.t,I J x.s.se,I J x.s.we,I J x.si,I J x.tc,I J x.rest,I J x.ep,I J x.num,I J x.slot,I J x.till] 239))=Y at*
        have D:Nonempty (zm Y.1.size Y):=zm.some _ _
        have C:=fun(u:zm Y.1.size Y) b o h=>u.cell b o h
        refine zh Y.1.size (by kernel_rfl) (by kernel_rfl) ?_
        repeat(go_big_quiet_step (fail))
        refine wpQuiet_nil ?_
        rintro⟨V,n⟩
        dsimp only
        clear C D
        have G:=ze ((ud q).trans (n.mono (ud q).size))
        have ai:=(ud bh).later n
        have aG:=fun W (hW:Below V.1.size V W)=>ze (zdF (ai.later hW) hc aw x y (ud aP).1 (ud aQ).1 (ud aP).2 (ud aQ).2 m.tight)
        have q2:=(n.block _ zl).trans (ud ao)
        obtain⟨d0,d1,d2,d3,d4,d5,d6,d7,d8,d9,bB⟩:=xG (f:=x) q2
        have dl:=zd q2
        obtain⟨-,-,-,-,bT,-,-⟩:=ai.rest
        have ul:=ai.lt
        obtain⟨g',L,hv,_,bz,e0,e1,e2,e3,e4,e5,e6,e7,e8,e9,bC⟩:=Zd ai.krow (ud HY)
        injection hv with a M v
        injection a with a
        injection a with a
        subst a v
        have bn:decide ((j:Int)<0)=false:=by simp
        clear M q2 n z0 z1 z2 z3 z4 z5 z6 z7 z8 z9 bx y0 y1 y2 y3 y4 y5 y6 y7 y8 y9 F ai v7 bw vp zl
        dsimp only[zex]
        generalize bm:m.aheadB m.tight x y=fb at*
        go_wp2_with fail
        have D:Nonempty (zm V.1.size V):=zm.some _ _
        have C:=fun(u:zm V.1.size V) b o h=>u.cell b o h
        refine zh V.1.size (by kernel_rfl) (by kernel_rfl) ?_
        repeat(go_big_quiet_step (first
         |(go_at_call 201;exact Calls.later (Q _) (ud (aG _ (Subtype.property _))))))
        refine wpQuiet_nil ?_
        rintro⟨V2,av⟩
        dsimp only
        clear C D aG
        have au:=ze ((ud G).trans (av.mono (ud G).size))
        clear av bm
        cases fb with
        |true=>
         go_wp2_with fail
         go_roundw
         case rel=>exact⟨i+1,by omega,by go_num,by rw[ud R,ud HB];rfl,ud au⟩
         case measure=>simp[intOf];omega
        |false=>
         go_wp2_with fail
         go_roundw
         case rel=>exact⟨i+1,by omega,by go_num,by rw[ud R,ud HB];rfl,ud au⟩
         case measure=>simp[intOf];omega
    ·obtain rfl:i=m.tg.length:=by omega
     have bt:w.1.size<w2.1.size:=zd (ud aA)
     have ah:=ze ((X.block _ bt).trans (ud aA))
     have ay:=ze ((ud ax).trans (X.mono (ud ax).size))
     have bN:decide ((m.tg.length:Int)<m.tg.length)=false:=by simp
     cases ae:m.bestI m.tg.length with
     |none=>
      rw[ae]at ab
      dsimp only at ab
      obtain⟨b0,b1,b2,b3,b4,b5,b6,b7,b8,b9,aS⟩:=z11 (ud ah)
      have bf:=fun j=>zD (ud ah) j
      have bl:=zd (ud ah)
      clear ae A X R an
      dsimp only[zex]
      go_wp2_with fail
      have hf:=kH (ud ah) (I J 0) (I J 0) (I J 0) (I J 0) (I J 0) (I J 0) (I J 0) (I J 0) (I J 0) (I J 0) (I J 0)
      refine bodyPost_ret (zj results154 _ _ w.1.size _ _ _ _ _ rfl rfl hf underlying51 rfl (by kernel_rfl)) rfl ?_
      have kT:=(ud ay).trans ((qH (w:=wr) (g:=w.1.size) (I J 0) (I J 0) (I J 0) (I J 0) (I J 0) (I J 0) (I J 0) (I J 0) (I J 0) (I J 0) (I J 0)).below (ud ay).size (fun k e=>by omega))
      rw[ud ab]
      exact⟨rfl,(ud H).later kT,zk.of_below kT⟩
     |some j=>
      rw[ae]at ab
      dsimp only at ab
      obtain⟨bH,x,P,bu⟩:=ud (an j) ae
      obtain⟨c0,c1,-⟩:=A.conf
      obtain⟨-,-,-,-,-,Z,aa⟩:=A.rest
      have rf:=fun j=>zD A.head j
      have bn:decide ((j:Int)<0)=false:=by simp
      have bo:(j:Int)<m.tg.length:=by omega
      have aL:=ze (zJ.addPick A (m.picks+1))
      obtain⟨g,L,hv,_,ad,y0,y1,y2,y3,y4,y5,y6,y7,y8,y9,F⟩:=Zd A.krow P
      injection hv with a M v
      subst a v
      have bs:¬p=g:=fun e=>zt A.head A.krow (by decide) g rfl e.symm
      have bE:¬g=p:=fun e=>bs e.symm
      have gf:∀j,wr.frozen? ⟨g,j,K⟩=false:=fun j=>by
       obtain⟨aT,hc⟩:=zO A.krow (k:=g) rfl
       exact zD hc j
      clear ae X R an bu
      dsimp only[zex]
      go_wp2_with fail
      generalize(wr.setCell ⟨p,13,K⟩ (I J (m.picks+1)))=W3 at*
      obtain⟨S,aB⟩:=ud aL
      have ba:=ze aB
      have bd:=ze (aB.heap (ud ah) (fun e=>by have:=(ud H).lt;omega))
      clear y0 y1 y2 y3 y4 y5 y6 y7 y8 y9 F r7 N Z aa c0 c1 rf gf A r ad
      obtain⟨c0,c1,-⟩:=S.conf
      obtain⟨r7,-,-,-,N,Z,aa⟩:=S.rest
      have r:=S.lt
      obtain⟨g',L,hv,_,ad,y0,y1,y2,y3,y4,y5,y6,y7,y8,y9,F⟩:=Zd S.krow P
      injection hv with a M v
      injection a with a
      injection a with a
      subst a v
      have gf:∀j,W3.frozen? ⟨g,j,K⟩=false:=fun j=>by
       obtain⟨aT,hc⟩:=zO S.krow (k:=g) rfl
       exact zD hc j
      have aM:=ze S
      have aW:=XM (ud H).krow g rfl
      dsimp only at r7 Z aa c0 c1
      clear S aB aL
      refine xH 12 (by kernel_rfl) (by kernel_rfl) ?_
      simp only[List.take_succ_cons,List.take_zero,List.drop_succ_cons,List.drop_zero]
      repeat still_step
      refine wpStill_nil ?_
      go_wp2_with fail
      obtain⟨T,aZ,aC⟩:=zkO (m:={m with picks:=m.picks+1}) (l:=m.tg) (ud aM) P m.epoch (m.picks+1) slot
      have be:=ze (aC.heap (ud bd) (fun e=>by have:=aW;omega))
      have bb:=ze aC
      generalize(((W3.setCell ⟨g,j*11+7,K⟩ (I J m.epoch)).setCell ⟨g,j*11+7+1,K⟩ (I J (m.picks+1))).setCell ⟨g,j*11+9,K⟩ (I J slot)).drew=W4 at*
      clear y0 y1 y2 y3 y4 y5 y6 y7 y8 y9 F r7 N Z aa c0 c1 gf r ad aC
      obtain⟨c0,c1,-⟩:=T.conf
      obtain⟨r7,-,-,-,N,Z,aa⟩:=T.rest
      have r:=T.lt
      obtain⟨g',L,hv,_,ad,y0,y1,y2,y3,y4,y5,y6,y7,y8,y9,F⟩:=Zd T.krow aZ
      injection hv with a M v
      injection a with a
      injection a with a
      subst a v
      have gf:∀j,W4.frozen? ⟨g,j,K⟩=false:=fun j=>by
       obtain⟨aT,hc⟩:=zO T.krow (k:=g) rfl
       exact zD hc j
      dsimp only at r7 Z aa c0 c1 y0 y1 y2 y3 y4 y5 y6 y7 y8 y9 F
      obtain⟨aV,bS,aD⟩:=T.putTask' aZ 10 {x with ep:=m.epoch,num:=m.picks+1,slot:=slot,till:=m.now+m.c.le} (I J (m.now+m.c.le)) (by omega) rfl
      have bg:=ze aV
      have bc:=ze aD
      have aJ:=ze (aD.heap (ud be) (fun e=>by have:=aW;omega))
      have bi:=fun W=>ze (zcC {x with ep:=m.epoch,num:=m.picks+1,slot:=slot,till:=m.now+m.c.le} W)
      have bK:=hc.le
      obtain⟨bL,bM⟩:=aw
      clear T aV aD
      refine xH 13 (by kernel_rfl) (by kernel_rfl) ?_
      simp only[List.take_succ_cons,List.take_zero,List.drop_succ_cons,List.drop_zero]
      repeat still_step
      refine wpStill_nil ?_
      go_wp2_with fail
      refine(ud (bi _)).mono ?_
      rintro e w6 ⟨rfl,ac⟩
      have ar:Below (W4.setCell ⟨g,j*11+10,K⟩ (I J (m.now+m.c.le))).1.size (W4.setCell ⟨g,j*11+10,K⟩ (I J (m.now+m.c.le))) w6:=⟨ac.os,ac.tape,ac.output,ac.size,ac.block⟩
      have aY:w.1.size<(W4.setCell ⟨g,j*11+10,K⟩ (I J (m.now+m.c.le))).1.size:=zd (ud aJ)
      have aK:=ze ((ar.block _ aY).trans (ud aJ))
      have q6:=zo w6 (.cells #[I J x.kind,I J x.s.t,I J x.s.se,I J x.s.we,I J x.si,I J x.tc,I J x.rest,I J m.epoch,I J (m.picks+1),I J slot,I J (m.now+m.c.le)] 51)
      have d:=(E w6.1.size w6).alloc (Q _) (.cells #[I J x.kind,I J x.s.t,I J x.s.se,I J x.s.we,I J x.si,I J x.tc,I J x.rest,I J m.epoch,I J (m.picks+1),I J slot,I J (m.now+m.c.le)] 51)
      have HV:=ze (ar.trans (d.mono ar.size))
      have ap:=ze ((d.block _ (zd (ud aK))).trans (ud aK))
      obtain⟨a0,a1,a2,a3,a4,a5,a6,a7,a8,a9,bA⟩:=z11 q6
      have al:=zd q6
      obtain⟨b0,b1,b2,b3,b4,b5,b6,b7,b8,b9,aS⟩:=z11 (ud ap)
      have bf:=fun j=>zD (ud ap) j
      have bl:=zd (ud ap)
      clear ac ar q6 d y0 y1 y2 y3 y4 y5 y6 y7 y8 y9 F r7 N Z aa c0 c1 gf aY
      dsimp only[tkA]
      go_wp2_with fail
      have hf:=kH (ud ap) (I J x.kind) (I J x.s.t) (I J x.s.se) (I J x.s.we) (I J x.si) (I J x.tc) (I J x.rest) (I J m.epoch) (I J (m.picks+1)) (I J slot) (I J (m.now+m.c.le))
      refine bodyPost_ret (zj results154 _ _ w.1.size _ _ _ _ _ rfl rfl hf underlying51 rfl (by kernel_rfl)) rfl ?_
      obtain⟨e1,e2⟩:=zhX (ud H) (g:=g) rfl (by intro k hk;exact hk) (ud ay) (ud ba) (ud bb) (ud bc) (ud bg) (ud HV) (qH (w:=(w6.alloc (.cells #[I J x.kind,I J x.s.t,I J x.s.se,I J x.s.we,I J x.si,I J x.tc,I J x.rest,I J m.epoch,I J (m.picks+1),I J slot,I J (m.now+m.c.le)] 51))) (g:=w.1.size) (I J x.kind) (I J x.s.t) (I J x.s.se) (I J x.s.we) (I J x.si) (I J x.tc) (I J x.rest) (I J m.epoch) (I J (m.picks+1)) (I J slot) (I J (m.now+m.c.le)))
      rw[ud ab]
      refine⟨?_,?_,e2⟩
      ·simp only[P,Option.getD_some];rfl
      ·dsimp only
       rw[Kt _ P]
       simp only[List.set_set,List.length_set]at e1
       exact e1
end Go.Proofs.YtpbimdkclnekeaaGreat
