import Derived.Test.YtpbimdkclnekeaaGreatVRef8
open Go.Value renaming int → I
open Go.IntKind renaming i64 → J
open Go.RowKit renaming Below → K
open Go renaming World → O
open Option renaming some → E
open Nat renaming le_refl → Q
open Option renaming none → U
open Go.RowKit.Below renaming refl → Y
set_option linter.unusedVariables false
set_option maxRecDepth 8000
set_option maxHeartbeats 8000000
namespace Go.Proofs.YtpbimdkclnekeaaGreat
open Go.RowKit
def zgr(c:Cf)(s:Sg):Prop:= -1<=s.t/\s.t<c.n/\0<=s.we/\s.we<=100000
def kz(m:RM)(s:Sg):Bool:=!(s.t== -1)&&!je s m.pub&&!je s m.gone&&!decide (m.now-m.c.la<m.c.end s)
def qM(m:RM)(s:Sg):Bool:=!je s m.gone&&!(decide (0<=s.t)&&!je s m.pub)&&!decide (m.now<m.c.end s+m.c.keep s.t)
def Qp(m:RM)(s x:Sg):Bool:=onB m.c s x&&decide (0<=x.t)&&!je x m.pub
def Xx(m:RM)(s x:Sg):Bool:=onB m.c x s&&!je x m.pub&&!je x m.gone
def qE(m:RM)(s:Sg)(l:List Sg):Bool:=kz m s&&l.all (fun x=>!Qp m s x)
def qX(m:RM)(s:Sg)(l:List Sg):Bool:=qM m s&&l.all (fun x=>!Xx m s x)
theorem K6{p:Sg->Bool}{l:List Sg}(h:∀j x,j<l.length->l[j]?=E x->p x=true):l.all p=true:=by
 rw[List.all_eq_true];intro x b
 obtain⟨j,a⟩:=List.getElem?_of_mem b
 exact h j x (List.getElem?_eq_some_iff.1 a).1 a
theorem zes{p:Sg->Bool}{l:List Sg}{i:Nat}{x:Sg}(h:l[i]?=E x)(b:p x=false):l.all p=false:=by
 rw[Bool.eq_false_iff];intro a;rw[List.all_eq_true]at a
 rw[a x (List.mem_of_getElem? h)]at b;cases b
theorem Z0{p:Sg->Bool}{l:List Sg}{i:Nat}{x:Sg}(h:∀j y,j<i->l[j]?=E y->p y=true)(c:l[i]?=E x)(b:p x=true):∀j y,j<i+1->l[j]?=E y->p y=true:=fun j y d a=>by
 by_cases e:j=i
 ·subst e;rw[c]at a;cases a;exact b
 ·exact h j y (by omega) a
theorem zdI{B B2:Nat}{w:O}{p:Nat}{m:RM}{tv nv pv gv kv:Value}(h:zJ B w p m tv nv pv gv kv)(hc:m.c.ok)(aV:m.gone.length<=1000000000000)(b2:m.pub.length<=1000000000000)(ar:0<=m.now/\m.now<=100000)(s:Sg)(hs:zgr m.c s)(l:List Sg)(v:Value)(hl:l.length<=10000000000)(a6:w.ownsRow B2 232 3 v l.length (l.flatMap sgV))(aI:∀x∈l,zgr m.c x):
  Calls Tryz.prog 221 #[.pointer (E ⟨p,0,U⟩),I J 1,.agg #[I J s.t,I J s.se,I J s.we],v] w fun e w'=>e=.returned (.bool (qE m s l))/\K w.1.size w w':=by
 obtain⟨Z,a0,ae,af⟩:=hs
 obtain⟨al,cl,hv⟩:=zq a6
 subst hv
 obtain⟨ag,cg,aG⟩:=zq h.grow
 subst aG
 obtain⟨ap,cp,aJ⟩:=zq h.prow
 subst aJ
 obtain⟨aR,aS⟩:=hc.la
 obtain⟨b0,b1⟩:=ar
 obtain⟨aY,aZ⟩:=hc.keeps Z a0
 obtain⟨aT,aU⟩:=hc.ends Z a0 ae af
 have y0:=zo w (.cells #[I J s.t,I J s.se,I J s.we] 232)
 have V:K w.1.size w (w.alloc (.cells #[I J s.t,I J s.se,I J s.we] 232)):=(Y _ _).alloc (Q _) _
 have aL:=zF w (.cells #[I J s.t,I J s.se,I J s.we] 232)
 have H:=ze h
 have ak:=ze a6
 clear h a6
 go_enter Tryz.func221,Tryz.ntmps221
 go_wp2_with fail
 generalize(w.alloc (.cells #[I J s.t,I J s.se,I J s.we] 232))=W at*
 have G:=ze (fun(u:O) (A:K W.1.size W u)=>(ud H).later (V.trans (A.mono V.size)))
 have aE:=ze (fun(u:O) (A:K W.1.size W u)=>xv (ud ak) (V.trans (A.mono V.size)))
 have HF:Hid (∀(u:O),K W.1.size W u->u.cell? ⟨p,9,U⟩=E (.slice ap m.pub.length cp)/\u.cell? ⟨p,10,U⟩=E (.slice ag m.gone.length cg)/\u.cell? ⟨p,7,U⟩=E (I J m.now)/\u.cell? ⟨p,2,U⟩=E (I J m.c.la)/\u.cell? ⟨w.1.size,0,U⟩=E (I J s.t)/\u.cell? ⟨w.1.size,1,U⟩=E (I J s.se)/\u.cell? ⟨w.1.size,2,U⟩=E (I J s.we)/\p<u.1.size/\w.1.size<u.1.size):=fun u A=>by
  have hr:=ud G u A
  obtain⟨q7,q8,q9,aO,b3,b4,b5⟩:=hr.rest
  obtain⟨c0,c1,c2,c3,c4,c5,c6⟩:=hr.conf
  have hb:=(A.block w.1.size (by omega)).trans y0
  exact⟨q9,aO,q7,c2,by rw[zN hb];rfl,by rw[zN hb];rfl,by rw[zN hb];rfl,hr.lt,zd hb⟩
 have z:=ze V
 have a7:=ze (Y W.1.size W)
 have HP:=ze (fun(u:O) (A:K W.1.size W u)=>xT B m.pub _ s u (by omega) (ud G u A).prow)
 have HG:=ze (fun(u:O) (A:K W.1.size W u)=>xT B m.gone _ s u (by omega) (ud G u A).grow)
 have HE:=ze (fun(u:O) (A:K W.1.size W u)=>Vb (ud G u A) hc s Z a0 ae af)
 have HK:=ze (fun(u:O) (A:K W.1.size W u)=>Vk (ud G u A) hc s.t Z a0)
 clear y0 V aL
 obtain⟨N,k,M,L,P,R,S,d,f⟩:=ud HF W (Y _ _)
 have q:Nonempty (zm W.1.size W):=zm.some _ _
 have n:=fun(u:zm W.1.size W) b o h=>u.cell b o h
 go_wp2_with fail
 refine zh W.1.size (by kernel_rfl) (by kernel_rfl) ?_
 repeat(go_big_quiet_step (first|(go_at_call 159;exact Calls.later (Q _) (ud HP _ ((ud a7).trans (Below.mono (Subtype.property _) (ud a7).size))))))
 refine wpQuiet_nil ?_
 rintro⟨w1,a⟩
 dsimp only
 clear n q
 have a1:=ze ((ud a7).trans (a.mono (ud a7).size))
 clear a
 clear N k M L P R S d f
 obtain⟨N,k,M,L,P,R,S,d,f⟩:=ud HF w1 (ud a1)
 have q:Nonempty (zm w1.1.size w1):=zm.some _ _
 have n:=fun(u:zm w1.1.size w1) b o h=>u.cell b o h
 go_wp2_with fail
 refine zh w1.1.size (by kernel_rfl) (by kernel_rfl) ?_
 repeat(go_big_quiet_step (first|(go_at_call 159;exact Calls.later (Q _) (ud HG _ ((ud a1).trans (Below.mono (Subtype.property _) (ud a1).size))))))
 refine wpQuiet_nil ?_
 rintro⟨w2,a⟩
 dsimp only
 clear n q
 have a8:=ze ((ud a1).trans (a.mono (ud a1).size))
 clear a
 clear N k M L P R S d f
 obtain⟨N,k,M,L,P,R,S,d,f⟩:=ud HF w2 (ud a8)
 go_wp2_with fail
 refine(ud HE w2 (ud a8)).mono ?_
 rintro e r ⟨rfl,a⟩
 have C:=ze ((ud a8).trans (a.mono (ud a8).size))
 clear a
 clear N k M L P R S d f
 obtain⟨N,k,M,L,P,R,S,d,f⟩:=ud HF r (ud C)
 have aP:=ze (show True from trivial)
 generalize aq:m.c.end s=en at*
 have aj:=ze aq
 clear aq
 cases e0:(s.t== -1)
 case true=>
  have HR:=ze (show qE m s l=false by simp[qE,kz,e0])
  try rw[e0]
  have q:Nonempty (zm r.1.size r):=zm.some _ _
  have n:=fun(u:zm r.1.size r) b o h=>u.cell b o h
  go_wp2_with fail
  refine zh r.1.size (by kernel_rfl) (by kernel_rfl) ?_
  repeat(go_big_quiet_step (fail))
  refine wpQuiet_nil ?_
  rintro⟨w4,a⟩
  dsimp only
  clear n q
  have F:=ze ((ud C).trans (a.mono (ud C).size))
  clear a
  go_wp2_with fail
  go_ret
  exact⟨zL (ud HR).symm,(ud z).trans ((ud F).mono (ud z).size)⟩
 cases e1:je s m.pub
 case true=>
  have HR:=ze (show qE m s l=false by simp[qE,kz,e1])
  try rw[e1]
  have q:Nonempty (zm r.1.size r):=zm.some _ _
  have n:=fun(u:zm r.1.size r) b o h=>u.cell b o h
  go_wp2_with fail
  refine zh r.1.size (by kernel_rfl) (by kernel_rfl) ?_
  repeat(go_big_quiet_step (fail))
  refine wpQuiet_nil ?_
  rintro⟨w4,a⟩
  dsimp only
  clear n q
  have F:=ze ((ud C).trans (a.mono (ud C).size))
  clear a
  go_wp2_with fail
  go_ret
  exact⟨zL (ud HR).symm,(ud z).trans ((ud F).mono (ud z).size)⟩
 cases e2:je s m.gone
 case true=>
  have HR:=ze (show qE m s l=false by simp[qE,kz,e2])
  try rw[e2]
  have q:Nonempty (zm r.1.size r):=zm.some _ _
  have n:=fun(u:zm r.1.size r) b o h=>u.cell b o h
  go_wp2_with fail
  refine zh r.1.size (by kernel_rfl) (by kernel_rfl) ?_
  repeat(go_big_quiet_step (fail))
  refine wpQuiet_nil ?_
  rintro⟨w4,a⟩
  dsimp only
  clear n q
  have F:=ze ((ud C).trans (a.mono (ud C).size))
  clear a
  go_wp2_with fail
  go_ret
  exact⟨zL (ud HR).symm,(ud z).trans ((ud F).mono (ud z).size)⟩
 by_cases e3:m.now-m.c.la<en
 case pos=>
  have HR:=ze (show qE m s l=false by simp[qE,kz,ud aj,e3])
  try rw[e1]
  try rw[e2]
  have q:Nonempty (zm r.1.size r):=zm.some _ _
  have n:=fun(u:zm r.1.size r) b o h=>u.cell b o h
  go_wp2_with fail
  refine zh r.1.size (by kernel_rfl) (by kernel_rfl) ?_
  repeat(go_big_quiet_step (fail))
  refine wpQuiet_nil ?_
  rintro⟨w4,a⟩
  dsimp only
  clear n q
  have F:=ze ((ud C).trans (a.mono (ud C).size))
  clear a
  go_wp2_with fail
  go_ret
  exact⟨zL (ud HR).symm,(ud z).trans ((ud F).mono (ud z).size)⟩
 have aD:=ze (show kz m s=true by simp[kz,e0,e1,e2,ud aj,e3])
 try rw[e1]
 try rw[e2]
 have q:Nonempty (zm r.1.size r):=zm.some _ _
 have n:=fun(u:zm r.1.size r) b o h=>u.cell b o h
 go_wp2_with fail
 refine zh r.1.size (by kernel_rfl) (by kernel_rfl) ?_
 repeat(go_big_quiet_step (fail))
 refine wpQuiet_nil ?_
 rintro⟨w4,a⟩
 dsimp only
 clear n q
 have F:=ze ((ud C).trans (a.mono (ud C).size))
 clear a
 clear N k M L P R S d f
 go_wp2_with fail
 go_loopw [12,13,14,15,16,17] (fun y _ _ _ _ _ wr=>∃(i:Nat),i<=l.length/\y=I J i/\(∀j x,j<i->l[j]?=E x->(!Qp m s x)=true)/\K W.1.size W wr) (fun y _ _ _ _ _ _=>l.length-(intOf y).toNat)
 case atStart=>exact⟨0,Nat.zero_le _,rfl,fun j x hj=>absurd hj (Nat.not_lt_zero _),ud F⟩
 case round=>
  obtain⟨i,hi,rfl,ha,ao⟩:=hrel
  have HA:=ze ha
  have a4:=ze ao
  clear ha ao
  obtain⟨N,k,M,L,P,R,S,d,f⟩:=ud HF wr (ud a4)
  by_cases aH:i<l.length
  ·obtain⟨x,hx⟩:=xr aH
   obtain⟨ax,ay,aM,aN⟩:=aI x (List.mem_of_getElem? hx)
   obtain⟨g,aQ,aK,_,aW,x0,x1,x2⟩:=zbn (ud aE wr (ud a4)) hx
   injection aK with au av aw
   subst au
   have aX:(i:Int)<l.length:=by omega
   have HX:=ze hx
   clear hx av aw
   go_wp2_with fail
   have aF:=zF wr (.cells #[I J x.t,I J x.se,I J x.we] 232)
   have an:=zo wr (.cells #[I J x.t,I J x.se,I J x.we] 232)
   have D:=ze ((ud a4).alloc (ud a4).size (.cells #[I J x.t,I J x.se,I J x.we] 232))
   generalize(wr.alloc (.cells #[I J x.t,I J x.se,I J x.we] 232))=X at*
   have a5:Hid (∀(u:O),K X.1.size X u->u.cell? ⟨wr.1.size,0,U⟩=E (I J x.t)/\u.cell? ⟨wr.1.size,1,U⟩=E (I J x.se)/\u.cell? ⟨wr.1.size,2,U⟩=E (I J x.we)/\wr.1.size<u.1.size):=fun u A=>by
    have hb:=(A.block wr.1.size (by omega)).trans an
    exact⟨by rw[zN hb];rfl,by rw[zN hb];rfl,by rw[zN hb];rfl,zd hb⟩
   have aC:=ze (fun(u:O) (A:K W.1.size W u)=>xT B m.pub _ x u (by omega) (ud G u A).prow)
   have az:=ze (fun(u:O) (A:K W.1.size W u)=>xT B m.gone _ x u (by omega) (ud G u A).grow)
   have aA:=ze (fun(u:O) (A:K W.1.size W u)=>zcd (ud G u A) hc s x Z a0 ax ay aM aN)
   have aB:=ze (fun(u:O) (A:K W.1.size W u)=>zcd (ud G u A) hc x s ax ay Z a0 ae af)
   have ad:=ze (Y X.1.size X)
   clear aF an x0 x1 x2
   clear N k M L P R S d f
   obtain⟨N,k,M,L,P,R,S,d,f⟩:=ud HF X (ud D)
   obtain⟨x0,x1,x2,T⟩:=ud a5 X (ud ad)
   have q:Nonempty (zm X.1.size X):=zm.some _ _
   have n:=fun(u:zm X.1.size X) b o h=>u.cell b o h
   go_wp2_with fail
   refine zh X.1.size (by kernel_rfl) (by kernel_rfl) ?_
   repeat(go_big_quiet_step (first|(go_at_call 159;exact Calls.later (Q _) (ud aC _ ((ud D).trans (Below.mono (Subtype.property _) (ud D).size))))))
   refine wpQuiet_nil ?_
   rintro⟨w5,a⟩
   dsimp only
   clear n q
   have a9:=ze ((ud ad).trans (a.mono (ud ad).size))
   clear a
   have ac:=ze ((ud D).trans ((ud a9).mono (ud D).size))
   clear x0 x1 x2 T
   clear N k M L P R S d f
   obtain⟨N,k,M,L,P,R,S,d,f⟩:=ud HF w5 (ud ac)
   obtain⟨x0,x1,x2,T⟩:=ud a5 w5 (ud a9)
   have q:Nonempty (zm w5.1.size w5):=zm.some _ _
   have n:=fun(u:zm w5.1.size w5) b o h=>u.cell b o h
   go_wp2_with fail
   refine zh w5.1.size (by kernel_rfl) (by kernel_rfl) ?_
   repeat(go_big_quiet_step (first|(go_at_call 159;exact Calls.later (Q _) (ud az _ ((ud ac).trans (Below.mono (Subtype.property _) (ud ac).size))))))
   refine wpQuiet_nil ?_
   rintro⟨w6,a⟩
   dsimp only
   clear n q
   have aa:=ze ((ud a9).trans (a.mono (ud a9).size))
   clear a
   have ah:=ze ((ud D).trans ((ud aa).mono (ud D).size))
   clear x0 x1 x2 T
   clear N k M L P R S d f
   obtain⟨N,k,M,L,P,R,S,d,f⟩:=ud HF w6 (ud ah)
   obtain⟨x0,x1,x2,T⟩:=ud a5 w6 (ud aa)
   go_wp2_with fail
   refine(ud aA w6 (ud ah)).mono ?_
   rintro e w7 ⟨rfl,a⟩
   have ab:=ze ((ud aa).trans (a.mono (ud aa).size))
   have ai:=ze ((ud D).trans ((ud ab).mono (ud D).size))
   clear a x0 x1 x2 T
   clear N k M L P R S d f
   obtain⟨N,k,M,L,P,R,S,d,f⟩:=ud HF w7 (ud ai)
   obtain⟨x0,x1,x2,T⟩:=ud a5 w7 (ud ab)
   go_wp2_with fail
   refine(ud aB w7 (ud ai)).mono ?_
   rintro e w8 ⟨rfl,a⟩
   have am:=ze ((ud ab).trans (a.mono (ud ab).size))
   have a2:=ze ((ud D).trans ((ud am).mono (ud D).size))
   clear a x0 x1 x2 T
   clear N k M L P R S d f
   obtain⟨N,k,M,L,P,R,S,d,f⟩:=ud HF w8 (ud a2)
   obtain⟨x0,x1,x2,T⟩:=ud a5 w8 (ud am)
   cases o1:onB m.c s x
   case false=>
    have a3:=ze (show(!Qp m s x)=true by simp[Qp,o1])
    clear o1
    go_wp2_with fail
    go_roundw
    case rel=>exact⟨i+1,by omega,by go_num,Z0 (ud HA) (ud HX) (ud a3),ud a2⟩
    case measure=>simp[intOf];omega
   by_cases o2:0<=x.t
   case neg=>
    have a3:=ze (show(!Qp m s x)=true by simp[Qp,o2])
    clear o1
    go_wp2_with fail
    go_roundw
    case rel=>exact⟨i+1,by omega,by go_num,Z0 (ud HA) (ud HX) (ud a3),ud a2⟩
    case measure=>simp[intOf];omega
   cases o3:je x m.pub
   case true=>
    have a3:=ze (show(!Qp m s x)=true by simp[Qp,o3])
    clear o1 o3
    go_wp2_with fail
    go_roundw
    case rel=>exact⟨i+1,by omega,by go_num,Z0 (ud HA) (ud HX) (ud a3),ud a2⟩
    case measure=>simp[intOf];omega
   have HR:=ze (show qE m s l=false by unfold qE;rw[zes (ud HX) (by simp[Qp,o1,o2,o3])];simp)
   clear o1 o3
   go_wp2_with fail
   go_ret
   exact⟨zL (ud HR).symm,(ud z).trans ((ud a2).mono (ud z).size)⟩
  ·have HR:=ze (show qE m s l=true by unfold qE;rw[ud aD,K6 (fun j x hj hx=>ud HA j x (by omega) hx)];rfl)
   go_wp2_with fail
   go_ret
   exact⟨zL (ud HR).symm,(ud z).trans ((ud a4).mono (ud z).size)⟩
theorem zdK{B B2:Nat}{w:O}{p:Nat}{m:RM}{tv nv pv gv kv:Value}(h:zJ B w p m tv nv pv gv kv)(hc:m.c.ok)(aZ:m.gone.length<=1000000000000)(b6:m.pub.length<=1000000000000)(ar:0<=m.now/\m.now<=100000)(s:Sg)(hs:zgr m.c s)(l:List Sg)(v:Value)(hl:l.length<=10000000000)(a6:w.ownsRow B2 232 3 v l.length (l.flatMap sgV))(aK:∀x∈l,zgr m.c x):
  Calls Tryz.prog 221 #[.pointer (E ⟨p,0,U⟩),I J 2,.agg #[I J s.t,I J s.se,I J s.we],v] w fun e w'=>e=.returned (.bool (qX m s l))/\K w.1.size w w':=by
 obtain⟨Z,a0,ae,af⟩:=hs
 obtain⟨al,cl,hv⟩:=zq a6
 subst hv
 obtain⟨ag,cg,aI⟩:=zq h.grow
 subst aI
 obtain⟨ap,cp,aL⟩:=zq h.prow
 subst aL
 obtain⟨aT,aU⟩:=hc.la
 obtain⟨b4,b5⟩:=ar
 obtain⟨b2,b3⟩:=hc.keeps Z a0
 obtain⟨aX,aY⟩:=hc.ends Z a0 ae af
 have y0:=zo w (.cells #[I J s.t,I J s.se,I J s.we] 232)
 have V:K w.1.size w (w.alloc (.cells #[I J s.t,I J s.se,I J s.we] 232)):=(Y _ _).alloc (Q _) _
 have aN:=zF w (.cells #[I J s.t,I J s.se,I J s.we] 232)
 have H:=ze h
 have ak:=ze a6
 clear h a6
 go_enter Tryz.func221,Tryz.ntmps221
 go_wp2_with fail
 generalize(w.alloc (.cells #[I J s.t,I J s.se,I J s.we] 232))=W at*
 have G:=ze (fun(u:O) (C:K W.1.size W u)=>(ud H).later (V.trans (C.mono V.size)))
 have aE:=ze (fun(u:O) (C:K W.1.size W u)=>xv (ud ak) (V.trans (C.mono V.size)))
 have HF:Hid (∀(u:O),K W.1.size W u->u.cell? ⟨p,9,U⟩=E (.slice ap m.pub.length cp)/\u.cell? ⟨p,10,U⟩=E (.slice ag m.gone.length cg)/\u.cell? ⟨p,7,U⟩=E (I J m.now)/\u.cell? ⟨p,2,U⟩=E (I J m.c.la)/\u.cell? ⟨w.1.size,0,U⟩=E (I J s.t)/\u.cell? ⟨w.1.size,1,U⟩=E (I J s.se)/\u.cell? ⟨w.1.size,2,U⟩=E (I J s.we)/\p<u.1.size/\w.1.size<u.1.size):=fun u C=>by
  have hr:=ud G u C
  obtain⟨q7,q8,q9,aQ,b7,b8,b9⟩:=hr.rest
  obtain⟨c0,c1,c2,c3,c4,c5,c6⟩:=hr.conf
  have hb:=(C.block w.1.size (by omega)).trans y0
  exact⟨q9,aQ,q7,c2,by rw[zN hb];rfl,by rw[zN hb];rfl,by rw[zN hb];rfl,hr.lt,zd hb⟩
 have A:=ze V
 have a7:=ze (Y W.1.size W)
 have HP:=ze (fun(u:O) (C:K W.1.size W u)=>xT B m.pub _ s u (by omega) (ud G u C).prow)
 have HG:=ze (fun(u:O) (C:K W.1.size W u)=>xT B m.gone _ s u (by omega) (ud G u C).grow)
 have HE:=ze (fun(u:O) (C:K W.1.size W u)=>Vb (ud G u C) hc s Z a0 ae af)
 have HK:=ze (fun(u:O) (C:K W.1.size W u)=>Vk (ud G u C) hc s.t Z a0)
 clear y0 V aN
 obtain⟨N,n,M,L,P,R,S,f,k⟩:=ud HF W (Y _ _)
 have r:Nonempty (zm W.1.size W):=zm.some _ _
 have q:=fun(u:zm W.1.size W) b o h=>u.cell b o h
 go_wp2_with fail
 refine zh W.1.size (by kernel_rfl) (by kernel_rfl) ?_
 repeat(go_big_quiet_step (first|(go_at_call 159;exact Calls.later (Q _) (ud HP _ ((ud a7).trans (Below.mono (Subtype.property _) (ud a7).size))))))
 refine wpQuiet_nil ?_
 rintro⟨w1,a⟩
 dsimp only
 clear q r
 have a1:=ze ((ud a7).trans (a.mono (ud a7).size))
 clear a
 clear N n M L P R S f k
 obtain⟨N,n,M,L,P,R,S,f,k⟩:=ud HF w1 (ud a1)
 have r:Nonempty (zm w1.1.size w1):=zm.some _ _
 have q:=fun(u:zm w1.1.size w1) b o h=>u.cell b o h
 go_wp2_with fail
 refine zh w1.1.size (by kernel_rfl) (by kernel_rfl) ?_
 repeat(go_big_quiet_step (first|(go_at_call 159;exact Calls.later (Q _) (ud HG _ ((ud a1).trans (Below.mono (Subtype.property _) (ud a1).size))))))
 refine wpQuiet_nil ?_
 rintro⟨w2,a⟩
 dsimp only
 clear q r
 have a8:=ze ((ud a1).trans (a.mono (ud a1).size))
 clear a
 clear N n M L P R S f k
 obtain⟨N,n,M,L,P,R,S,f,k⟩:=ud HF w2 (ud a8)
 go_wp2_with fail
 refine(ud HE w2 (ud a8)).mono ?_
 rintro e z ⟨rfl,a⟩
 have d:=ze ((ud a8).trans (a.mono (ud a8).size))
 clear a
 clear N n M L P R S f k
 obtain⟨N,n,M,L,P,R,S,f,k⟩:=ud HF z (ud d)
 have aR:=ze (show True from trivial)
 generalize aq:m.c.end s=en at*
 have aj:=ze aq
 clear aq
 cases e0:je s m.gone
 case true=>
  have HR:=ze (show qX m s l=false by simp[qX,qM,e0])
  try rw[e0]
  have r:Nonempty (zm z.1.size z):=zm.some _ _
  have q:=fun(u:zm z.1.size z) b o h=>u.cell b o h
  go_wp2_with fail
  refine zh z.1.size (by kernel_rfl) (by kernel_rfl) ?_
  repeat(go_big_quiet_step (first|(go_at_call 230;exact Calls.later_same (ud HK _ ((ud d).trans (Below.mono (Subtype.property _) (ud d).size))))))
  refine wpQuiet_nil ?_
  rintro⟨w4,a⟩
  dsimp only
  clear q r
  have F:=ze ((ud d).trans (a.mono (ud d).size))
  clear a
  go_wp2_with fail
  go_ret
  exact⟨zL (ud HR).symm,(ud A).trans ((ud F).mono (ud A).size)⟩
 cases e1:(decide (0<=s.t)&&!je s m.pub)
 case true=>
  have HR:=ze (show qX m s l=false by simp[qX,qM,e1])
  rw[Bool.and_eq_true,decide_eq_true_eq,Bool.not_eq_true']at e1
  obtain⟨aW,aF⟩:=e1
  try rw[e0]
  try rw[aF]
  have r:Nonempty (zm z.1.size z):=zm.some _ _
  have q:=fun(u:zm z.1.size z) b o h=>u.cell b o h
  go_wp2_with fail
  refine zh z.1.size (by kernel_rfl) (by kernel_rfl) ?_
  repeat(go_big_quiet_step (first|(go_at_call 230;exact Calls.later_same (ud HK _ ((ud d).trans (Below.mono (Subtype.property _) (ud d).size))))))
  refine wpQuiet_nil ?_
  rintro⟨w4,a⟩
  dsimp only
  clear q r
  have F:=ze ((ud d).trans (a.mono (ud d).size))
  clear a
  go_wp2_with fail
  go_ret
  exact⟨zL (ud HR).symm,(ud A).trans ((ud F).mono (ud A).size)⟩
 rw[Bool.and_eq_false_iff,decide_eq_false_iff_not,Bool.not_eq_false']at e1
 by_cases e3:m.now<en+m.c.keep s.t
 case pos=>
  have HR:=ze (show qX m s l=false by simp[qX,qM,ud aj,e3])
  try rw[e0]
  by_cases e4:0<=s.t
  case pos=>
   rw[e1.resolve_left (fun h=>h e4)]
   have r:Nonempty (zm z.1.size z):=zm.some _ _
   have q:=fun(u:zm z.1.size z) b o h=>u.cell b o h
   go_wp2_with fail
   refine zh z.1.size (by kernel_rfl) (by kernel_rfl) ?_
   repeat(go_big_quiet_step (first|(go_at_call 230;exact Calls.later_same (ud HK _ ((ud d).trans (Below.mono (Subtype.property _) (ud d).size))))))
   refine wpQuiet_nil ?_
   rintro⟨w4,a⟩
   dsimp only
   clear q r
   have F:=ze ((ud d).trans (a.mono (ud d).size))
   clear a
   go_wp2_with fail
   go_ret
   exact⟨zL (ud HR).symm,(ud A).trans ((ud F).mono (ud A).size)⟩
  case neg=>
   have aG:decide (0<=s.t)=false:=by simpa using e4
   have r:Nonempty (zm z.1.size z):=zm.some _ _
   have q:=fun(u:zm z.1.size z) b o h=>u.cell b o h
   go_wp2_with fail
   refine zh z.1.size (by kernel_rfl) (by kernel_rfl) ?_
   repeat(go_big_quiet_step (first|(go_at_call 230;exact Calls.later_same (ud HK _ ((ud d).trans (Below.mono (Subtype.property _) (ud d).size))))))
   refine wpQuiet_nil ?_
   rintro⟨w4,a⟩
   dsimp only
   clear q r
   have F:=ze ((ud d).trans (a.mono (ud d).size))
   clear a
   go_wp2_with fail
   go_ret
   exact⟨zL (ud HR).symm,(ud A).trans ((ud F).mono (ud A).size)⟩
 have aD:=ze (show qM m s=true by rcases e1 with e1|e1<;>simp[qM,e0,e1,ud aj,e3])
 try rw[e0]
 have aV:Hid (∀(b:Bool),True):=fun _=>trivial
 by_cases e4:0<=s.t
 case' pos=>
  rw[e1.resolve_left (fun h=>h e4)]
 case' neg=>
  have aG:decide (0<=s.t)=false:=by simpa using e4
 all_goals
  have r:Nonempty (zm z.1.size z):=zm.some _ _
  have q:=fun(u:zm z.1.size z) b o h=>u.cell b o h
  go_wp2_with fail
  refine zh z.1.size (by kernel_rfl) (by kernel_rfl) ?_
  repeat(go_big_quiet_step (first|(go_at_call 230;exact Calls.later_same (ud HK _ ((ud d).trans (Below.mono (Subtype.property _) (ud d).size))))))
  refine wpQuiet_nil ?_
  rintro⟨w4,a⟩
  dsimp only
  clear q r
  have F:=ze ((ud d).trans (a.mono (ud d).size))
  clear a
  clear N n M L P R S f k
  go_wp2_with fail
  go_loopw [12,13,14,15,16,17] (fun y _ _ _ _ _ wr=>∃(i:Nat),i<=l.length/\y=I J i/\(∀j x,j<i->l[j]?=E x->(!Xx m s x)=true)/\K W.1.size W wr) (fun y _ _ _ _ _ _=>l.length-(intOf y).toNat)
  case atStart=>exact⟨0,Nat.zero_le _,rfl,fun j x hj=>absurd hj (Nat.not_lt_zero _),ud F⟩
  case round=>
   obtain⟨i,hi,rfl,ha,ao⟩:=hrel
   have HA:=ze ha
   have a4:=ze ao
   clear ha ao
   obtain⟨N,n,M,L,P,R,S,f,k⟩:=ud HF wr (ud a4)
   by_cases aJ:i<l.length
   ·obtain⟨x,hx⟩:=xr aJ
    obtain⟨ax,ay,aO,aP⟩:=aK x (List.mem_of_getElem? hx)
    obtain⟨g,aS,aM,_,b0,x0,x1,x2⟩:=zbn (ud aE wr (ud a4)) hx
    injection aM with au av aw
    subst au
    have b1:(i:Int)<l.length:=by omega
    have HX:=ze hx
    clear hx av aw
    go_wp2_with fail
    have aH:=zF wr (.cells #[I J x.t,I J x.se,I J x.we] 232)
    have an:=zo wr (.cells #[I J x.t,I J x.se,I J x.we] 232)
    have D:=ze ((ud a4).alloc (ud a4).size (.cells #[I J x.t,I J x.se,I J x.we] 232))
    generalize(wr.alloc (.cells #[I J x.t,I J x.se,I J x.we] 232))=X at*
    have a5:Hid (∀(u:O),K X.1.size X u->u.cell? ⟨wr.1.size,0,U⟩=E (I J x.t)/\u.cell? ⟨wr.1.size,1,U⟩=E (I J x.se)/\u.cell? ⟨wr.1.size,2,U⟩=E (I J x.we)/\wr.1.size<u.1.size):=fun u C=>by
     have hb:=(C.block wr.1.size (by omega)).trans an
     exact⟨by rw[zN hb];rfl,by rw[zN hb];rfl,by rw[zN hb];rfl,zd hb⟩
    have aC:=ze (fun(u:O) (C:K W.1.size W u)=>xT B m.pub _ x u (by omega) (ud G u C).prow)
    have az:=ze (fun(u:O) (C:K W.1.size W u)=>xT B m.gone _ x u (by omega) (ud G u C).grow)
    have aA:=ze (fun(u:O) (C:K W.1.size W u)=>zcd (ud G u C) hc s x Z a0 ax ay aO aP)
    have aB:=ze (fun(u:O) (C:K W.1.size W u)=>zcd (ud G u C) hc x s ax ay Z a0 ae af)
    have ad:=ze (Y X.1.size X)
    clear aH an x0 x1 x2
    clear N n M L P R S f k
    obtain⟨N,n,M,L,P,R,S,f,k⟩:=ud HF X (ud D)
    obtain⟨x0,x1,x2,T⟩:=ud a5 X (ud ad)
    have r:Nonempty (zm X.1.size X):=zm.some _ _
    have q:=fun(u:zm X.1.size X) b o h=>u.cell b o h
    go_wp2_with fail
    refine zh X.1.size (by kernel_rfl) (by kernel_rfl) ?_
    repeat(go_big_quiet_step (first|(go_at_call 159;exact Calls.later (Q _) (ud aC _ ((ud D).trans (Below.mono (Subtype.property _) (ud D).size))))))
    refine wpQuiet_nil ?_
    rintro⟨w5,a⟩
    dsimp only
    clear q r
    have a9:=ze ((ud ad).trans (a.mono (ud ad).size))
    clear a
    have ac:=ze ((ud D).trans ((ud a9).mono (ud D).size))
    clear x0 x1 x2 T
    clear N n M L P R S f k
    obtain⟨N,n,M,L,P,R,S,f,k⟩:=ud HF w5 (ud ac)
    obtain⟨x0,x1,x2,T⟩:=ud a5 w5 (ud a9)
    have r:Nonempty (zm w5.1.size w5):=zm.some _ _
    have q:=fun(u:zm w5.1.size w5) b o h=>u.cell b o h
    go_wp2_with fail
    refine zh w5.1.size (by kernel_rfl) (by kernel_rfl) ?_
    repeat(go_big_quiet_step (first|(go_at_call 159;exact Calls.later (Q _) (ud az _ ((ud ac).trans (Below.mono (Subtype.property _) (ud ac).size))))))
    refine wpQuiet_nil ?_
    rintro⟨w6,a⟩
    dsimp only
    clear q r
    have aa:=ze ((ud a9).trans (a.mono (ud a9).size))
    clear a
    have ah:=ze ((ud D).trans ((ud aa).mono (ud D).size))
    clear x0 x1 x2 T
    clear N n M L P R S f k
    obtain⟨N,n,M,L,P,R,S,f,k⟩:=ud HF w6 (ud ah)
    obtain⟨x0,x1,x2,T⟩:=ud a5 w6 (ud aa)
    go_wp2_with fail
    refine(ud aA w6 (ud ah)).mono ?_
    rintro e w7 ⟨rfl,a⟩
    have ab:=ze ((ud aa).trans (a.mono (ud aa).size))
    have ai:=ze ((ud D).trans ((ud ab).mono (ud D).size))
    clear a x0 x1 x2 T
    clear N n M L P R S f k
    obtain⟨N,n,M,L,P,R,S,f,k⟩:=ud HF w7 (ud ai)
    obtain⟨x0,x1,x2,T⟩:=ud a5 w7 (ud ab)
    go_wp2_with fail
    refine(ud aB w7 (ud ai)).mono ?_
    rintro e w8 ⟨rfl,a⟩
    have am:=ze ((ud ab).trans (a.mono (ud ab).size))
    have a2:=ze ((ud D).trans ((ud am).mono (ud D).size))
    clear a x0 x1 x2 T
    clear N n M L P R S f k
    obtain⟨N,n,M,L,P,R,S,f,k⟩:=ud HF w8 (ud a2)
    obtain⟨x0,x1,x2,T⟩:=ud a5 w8 (ud am)
    cases o1:onB m.c x s
    case false=>
     have a3:=ze (show(!Xx m s x)=true by simp[Xx,o1])
     clear o1
     go_wp2_with fail
     go_roundw
     case rel=>exact⟨i+1,by omega,by go_num,Z0 (ud HA) (ud HX) (ud a3),ud a2⟩
     case measure=>simp[intOf];omega
    cases o2:je x m.pub
    case true=>
     have a3:=ze (show(!Xx m s x)=true by simp[Xx,o2])
     clear o1 o2
     go_wp2_with fail
     go_roundw
     case rel=>exact⟨i+1,by omega,by go_num,Z0 (ud HA) (ud HX) (ud a3),ud a2⟩
     case measure=>simp[intOf];omega
    cases o3:je x m.gone
    case true=>
     have a3:=ze (show(!Xx m s x)=true by simp[Xx,o3])
     clear o1 o2 o3
     go_wp2_with fail
     go_roundw
     case rel=>exact⟨i+1,by omega,by go_num,Z0 (ud HA) (ud HX) (ud a3),ud a2⟩
     case measure=>simp[intOf];omega
    have HR:=ze (show qX m s l=false by unfold qX;rw[zes (ud HX) (by simp[Xx,o1,o2,o3])];simp)
    clear o1 o2 o3
    go_wp2_with fail
    go_ret
    exact⟨zL (ud HR).symm,(ud A).trans ((ud a2).mono (ud A).size)⟩
   ·have HR:=ze (show qX m s l=true by unfold qX;rw[ud aD,K6 (fun j x hj hx=>ud HA j x (by omega) hx)];rfl)
    go_wp2_with fail
    go_ret
    exact⟨zL (ud HR).symm,(ud A).trans ((ud a4).mono (ud A).size)⟩
end Go.Proofs.YtpbimdkclnekeaaGreat
