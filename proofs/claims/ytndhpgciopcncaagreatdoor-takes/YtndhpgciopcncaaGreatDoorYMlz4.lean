import Derived.Test.YtndhpgciopcncaaGreatDoorYAdd3
import Derived.Test.YtndhpgciopcncaaGreatDoorYRnw0
open Go.Value renaming int → I
open Go.IntKind renaming i64 → J
open Go.IntKind renaming i32 → K
open Option renaming none → O
open Nat renaming le_refl → E
open Nat renaming lt_of_lt_of_le → Q
set_option linter.unusedVariables false
set_option maxRecDepth 20000
set_option maxHeartbeats 8000000
open Go.Proofs.Tryz
namespace Go.Proofs.YtndhpgciopcncaaGreatDoor
open Go.ChangeMaps (setBlock)
open Go.RowKit Go.Maps Go.Shelf
theorem vg(n:Int)(w:World)(h:0<=n/\n<4):Calls prog 60 #[I J n] w fun e w'=>e=.returned (.bool true)/\w'=w:=by
 obtain⟨a,b⟩:=h
 go_enter func60,ntmps60
 go_wp2_with fail
 go_ret
 exact⟨rfl,rfl⟩
theorem zcC{dn:Bool}{w:World}{i:Ids}{c:Cf}{ep:Int}{m:MS}(h:xP dn w i c ep m)(z:c.ok)(se tm val:Int)(l:0<=se/\se<4)(s:0<=tm/\tm<=m.now)(a9:m.now-c.la<=tm)(a0:m.now<=100000)(a1: -2147483648<=val/\val<=2147483647)(hu:0<=zU m.L/\zU m.L<=1000)(T:zjc m.L)(S:∀k:Nat,k<c.n->zS m.Gl (xZ c se tm k)=O)(a6:c.qu<zU m.L+(1+2*qK c m.L ⟨se,tm,val⟩ c.n)):
  Calls prog 27 #[.pointer (some ⟨i.x,0,O⟩),I J se,I J tm,I K val] w fun e w'=>e=.returned (I J 4)/\Below w.1.size w w':=by
 obtain⟨a,cap,Z,Y⟩:=h.ts
 obtain⟨c0,c1,c2,c3,c4,c5,F,c7,c8,c9,-⟩:=h.cells
 rw[Z]at F
 have f:=h.lt
 obtain⟨ac,ad⟩:=z.qu
 obtain⟨a7,a8⟩:=z.la
 have aa:=kN c m.L ⟨se,tm,val⟩ c.n
 have ab:=z.n4
 have HU:=fun W R=>zd (ZI ((h.later (w':=W) R).set) (by unfold xR;omega))
 have A:=fun W R=>zd (J0 ((h.later (w':=W) R).set) z se tm val l ⟨s.1,by omega⟩ T S)
 have HQ:=fun W=>zd (Xg c a cap W)
 have C:=fun W=>zd (Q5 c a cap W)
 have B:=fun W=>zd (vg se W l)
 obtain⟨ae,af⟩:=hu
 have a3:decide (tm<0)=false:=by simp;omega
 have a4:decide (m.now<tm)=false:=by simp;omega
 have a5:decide (tm<m.now-c.la)=false:=by simp;omega
 have H:=zd h
 generalize P:zU m.L=U at*
 generalize N:qK c m.L ⟨se,tm,val⟩ c.n=M at*
 obtain⟨V,X⟩:=s
 have s:0<=tm/\tm<=m.now:=⟨V,X⟩
 clear h Y P N
 go_enter func27,ntmps27
 go_wp2_with(first|(go_at_call 60;refine(ud (B _)).mono ?_;rintro e W9 ⟨rfl,h9⟩;have G:=h9.symm;subst G))
 have v:Nonempty (zj w.1.size w):=zj.some _ _
 have t:=fun(u:zj w.1.size w) b o h=>u.cell b o h
 refine ze w.1.size (by kernel_rfl) (by kernel_rfl) ?_
 repeat(go_big_quiet_step (first
  |(go_at_call 61;exact Calls.later (E _) (ud (C _)))))
 refine wpQuiet_nil ?_
 rintro⟨y,d⟩
 dsimp only
 clear t v
 go_wp2_with fail
 have d0:=(d.cell (p:=⟨i.x,0,O⟩) f).trans c0
 have d1:=(d.cell (p:=⟨i.x,1,O⟩) f).trans c1
 have d2:=(d.cell (p:=⟨i.x,2,O⟩) f).trans c2
 have d3:=(d.cell (p:=⟨i.x,3,O⟩) f).trans c3
 have d4:=(d.cell (p:=⟨i.x,4,O⟩) f).trans c4
 have d5:=(d.cell (p:=⟨i.x,5,O⟩) f).trans c5
 have d6:=(d.cell (p:=⟨i.x,6,O⟩) f).trans F
 have d7:=(d.cell (p:=⟨i.x,7,O⟩) f).trans c7
 have d8:=(d.cell (p:=⟨i.x,8,O⟩) f).trans c8
 have d9:=(d.cell (p:=⟨i.x,9,O⟩) f).trans c9
 have a2:=Q f d.size
 have g:=zd d
 clear c0 c1 c2 c3 c4 c5 F c7 c8 c9 d
 have r:Nonempty (zj y.1.size y):=zj.some _ _
 have q:=fun(u:zj y.1.size y) b o h=>u.cell b o h
 refine ze y.1.size (by kernel_rfl) (by kernel_rfl) ?_
 repeat(go_big_quiet_step (first
  |(go_at_call 43;exact Calls.later (E _) (ud (HU _ ((ud g).trans (Below.mono (Subtype.property _) (ud g).size)))))
  |(go_at_call 62;exact Calls.later (E _) (ud (A _ ((ud g).trans (Below.mono (Subtype.property _) (ud g).size)))))
  |(go_at_call 63;exact Calls.later (E _) (ud (HQ _)))))
 refine wpQuiet_nil ?_
 rintro⟨w2,j⟩
 dsimp only
 clear q r
 have D:=zd ((ud g).trans (j.mono (ud g).size))
 clear j d0 d1 d2 d3 d4 d5 d6 d7 d8 d9
 go_wp2_with fail
 go_ret
 exact⟨rfl,ud D⟩
theorem Yc{w':World}{i:Ids}{c:Cf}{ep:Int}{m:MS}{q:JM}{now:Int}{xs:List SX}{e:Ending}(h:vP w' i c ep m q now xs e):∃r:Int,e=.returned (I J r):=by
 rcases h with⟨_,h,_⟩|⟨_,h,_⟩<;>exact⟨_,h⟩
theorem Jj{w':World}{i:Ids}{c:Cf}{ep:Int}{m:MS}{q:JM}{now:Int}{xs:List SX}{e:Ending}(h:vP w' i c ep m q now xs e):∃m' a,zR w' i c ep m' a/\(m'=m\/m'=m.took now xs):=by
 rcases h with⟨_,_,h⟩|⟨_,_,⟨_,h⟩|⟨_,b,_,h⟩⟩
 ·exact⟨_,_,h,.inl rfl⟩
 ·exact⟨_,_,h,.inr rfl⟩
 ·exact⟨_,_,h,.inr rfl⟩
theorem Jl{w':World}{i:Ids}{c:Cf}{ep:Int}{m:MS}{q:JM}{xs:List SX}{e:Ending}(h:vP w' i c ep m q m.now xs e):w'.cell? ⟨i.x,8,O⟩=some (I J m.now)/\w'.cell? ⟨i.x,9,O⟩=some (.pointer (some ⟨i.s,0,O⟩)):=by
 obtain⟨m',g,d,f⟩:=Jj h
 obtain⟨a,b,-⟩:=d.cells
 refine⟨?_,b⟩
 rw[a]
 rcases f with rfl|rfl<;>rfl
theorem zkB{w:World}{i:Ids}{c:Cf}{ep:Int}{m:MS}{q:JM}(h:zR w i c ep m q)(hc:c.ok)(se tm val:Int)(z:0<=se/\se<4)(D:0<=tm/\tm<=m.now)(aD:m.now-c.la<=tm)(ar:m.now<=100000)(ab: -2147483648<=val/\val<=2147483647)(hu:0<=zU m.L/\zU m.L<=1000)(am:zjc m.L)(ak:∀k:Nat,k<c.n->zS m.Gl (xZ c se tm k)=O)(aA:zU m.L+(1+2*qK c m.L ⟨se,tm,val⟩ c.n)<=c.qu)(aa:∀p∈m.L,p.1.t= -1->p.2.cl.small)
  (a9:∀x∈km c m.Gl m.L ⟨se,tm,val⟩,okX x) (G:∀x∈Xq (m.took m.now (km c m.Gl m.L ⟨se,tm,val⟩)).L (m.took m.now (km c m.Gl m.L ⟨se,tm,val⟩)).Gl,okX x) (aj:(km c m.Gl m.L ⟨se,tm,val⟩).length<=1000) (ai:m.L.length<=900000) (ah:m.Gl.length<=49000000) (N:Nat) (hN:N<=900000000000) (hd:DOk q.S N) (al:0<=q.st/\q.st<=1099511627776):
  Calls prog 27 #[.pointer (some ⟨i.x,0,O⟩),I J se,I J tm,I K val] w fun e w'=>vP w' i c ep m q m.now (km c m.Gl m.L ⟨se,tm,val⟩) e/\Kx i w w':=by
 obtain⟨a,cap,aq,ap⟩:=h.own.ts
 obtain⟨c0,c1,c2,c3,c4,c5,c6,c7,c8,c9,-⟩:=h.own.cells
 rw[aq]at c6
 have f:=h.lt
 obtain⟨aG,aH⟩:=hc.qu
 obtain⟨aB,aC⟩:=hc.la
 have aE:=kN c m.L ⟨se,tm,val⟩ c.n
 have aF:=hc.n4
 have HU:=fun W X=>zd (ZI ((h.later (w':=W) X).set) (by unfold xR;omega))
 have a4:=fun W X=>zd (J0 ((h.later (w':=W) X).set) hc se tm val z ⟨D.1,by omega⟩ am ak)
 have HQ:=fun W=>zd (Xg c a cap W)
 have a6:=fun W=>zd (Q5 c a cap W)
 have a5:=fun W=>zd (vg se W z)
 obtain⟨aI,aJ⟩:=hu
 have aw:decide (tm<0)=false:=by simp;omega
 have ax:decide (m.now<tm)=false:=by simp;omega
 have ay:decide (tm<m.now-c.la)=false:=by simp;omega
 have H:=zd h
 have P:=fun W X=>zd (zcQ ((h.later (w':=W) X).set) hc se tm val z ⟨D.1,by omega⟩ ab aa)
 generalize az:km c m.Gl m.L ⟨se,tm,val⟩=xs at*
 have R:=fun W (X:Below w.1.size w W) base v hv=>zd (QQ (h.later X) m.now (by unfold xR;omega) xs a9 G aj ai ah N hN hd al base v hv)
 clear a9 G aa hd
 generalize ag:zU m.L=U at*
 generalize af:qK c m.L ⟨se,tm,val⟩ c.n=M at*
 obtain⟨an,ao⟩:=D
 have D:0<=tm/\tm<=m.now:=⟨an,ao⟩
 clear h ap ag af
 go_enter func27,ntmps27
 go_wp2_with(first|(go_at_call 60;refine(ud (a5 _)).mono ?_;rintro e W9 ⟨rfl,h9⟩;have ae:=h9.symm;subst ae))
 have a8:Nonempty (zj w.1.size w):=zj.some _ _
 have a7:=fun(u:zj w.1.size w) b o h=>u.cell b o h
 refine ze w.1.size (by kernel_rfl) (by kernel_rfl) ?_
 repeat(go_big_quiet_step (first
  |(go_at_call 61;exact Calls.later (E _) (ud (a6 _)))))
 refine wpQuiet_nil ?_
 rintro⟨w1,d⟩
 dsimp only
 clear a7 a8
 go_wp2_with fail
 have d0:=(d.cell (p:=⟨i.x,0,O⟩) f).trans c0
 have d1:=(d.cell (p:=⟨i.x,1,O⟩) f).trans c1
 have d2:=(d.cell (p:=⟨i.x,2,O⟩) f).trans c2
 have d3:=(d.cell (p:=⟨i.x,3,O⟩) f).trans c3
 have d4:=(d.cell (p:=⟨i.x,4,O⟩) f).trans c4
 have d5:=(d.cell (p:=⟨i.x,5,O⟩) f).trans c5
 have d6:=(d.cell (p:=⟨i.x,6,O⟩) f).trans c6
 have d7:=(d.cell (p:=⟨i.x,7,O⟩) f).trans c7
 have d8:=(d.cell (p:=⟨i.x,8,O⟩) f).trans c8
 have d9:=(d.cell (p:=⟨i.x,9,O⟩) f).trans c9
 have au:=Q f d.size
 have g:=zd d
 clear c0 c1 c2 c3 c4 c5 c6 c7 c8 c9 d
 have Z:Nonempty (zj w1.1.size w1):=zj.some _ _
 have Y:=fun(u:zj w1.1.size w1) b o h=>u.cell b o h
 refine ze w1.1.size (by kernel_rfl) (by kernel_rfl) ?_
 repeat(go_big_quiet_step (first
  |(go_at_call 43;exact Calls.later (E _) (ud (HU _ ((ud g).trans (Below.mono (Subtype.property _) (ud g).size)))))
  |(go_at_call 62;exact Calls.later (E _) (ud (a4 _ ((ud g).trans (Below.mono (Subtype.property _) (ud g).size)))))
  |(go_at_call 63;exact Calls.later (E _) (ud (HQ _)))))
 refine wpQuiet_nil ?_
 rintro⟨w2,F⟩
 dsimp only
 clear Y Z
 have l:=zd ((ud g).trans (F.mono (ud g).size))
 clear F d0 d1 d2 d3 d4 d5 d6 d7 d8 d9
 have A:=(ud H).later (ud l)
 obtain⟨-,-,-,-,-,-,-,-,e8,e9,-⟩:=A.own.cells
 have a0:=A.lt
 have a1:=P w2 (ud l)
 have a2:=P w2.drew (ud l).drew
 have av:=zd A
 clear A P a4 HU HQ a6 a5
 go_wp2_with fail
 go_region_held3 (fun w'=>w'.cell? ⟨i.x,8,O⟩=some (I J m.now)/\w'.cell? ⟨i.x,9,O⟩=some (.pointer (some ⟨i.s,0,O⟩))) (go_keep) (first
  |(go_at_call 64;(first|(with_reducible refine(ud a1).mono ?_)|(with_reducible refine(ud a2).mono ?_));rintro e V ⟨v,rfl,y,j⟩;have hv:Below w2.1.size w2 V:=⟨j.os,j.tape,j.output,j.size,j.block⟩;clear j;have v8:=(hv.cell (p:=⟨i.x,8,O⟩) a0).trans e8;have v9:=(hv.cell (p:=⟨i.x,9,O⟩) a0).trans e9;have aK:=Q a0 hv.size;have C:=(ud l).trans (hv.mono (ud l).size);have ac:=R V C _ v y;have ad:=R V.drew C.drew _ v (zM y (Below.refl _ _).drew);have a3:=zd C;clear hv C y R a1 a2)
  |(go_at_call 52;(with_reducible refine(ud ac).mono ?_);rintro e T ⟨B,hK⟩;obtain⟨t8,t9⟩:=Jl B;obtain⟨r,rfl⟩:=Yc B;have HS:=zd B;have HK:=zd ((Kx.below (ud a3) (ud H).dlt).trans hK);clear B hK)
  |(go_at_call 52;(with_reducible refine(ud ad).mono ?_);rintro e T ⟨B,hK⟩;obtain⟨t8,t9⟩:=Jl B;obtain⟨r,rfl⟩:=Yc B;have HS:=zd B;have HK:=zd ((Kx.below (ud a3).drew (ud H).dlt).trans hK);clear B hK))
 all_goals go_wp2_with fail
 all_goals go_ret
 all_goals exact⟨ud HS,ud HK⟩
def qA(v:SV):Cl×Int:=if v.st=0 then(qC,10)else if v.st=2 then(qC,11)else if v.st=4 then(qC,12)else(v.cl,0)
def qk(c:Cf)(now:Int)(Gl:List (Sg×Unit))(L:LV)(t se wn:Int):Cl×Int:=
 if now-c.la<(wn+1)*c.wh t then(qC,9)else qA (stG Gl L ⟨t,se,wn⟩)
theorem ziH{dn:Bool}{w:World}{i:Ids}{c:Cf}{ep:Int}{m:MS}(h:xP dn w i c ep m)(hc:c.ok)(P:0<=m.now/\m.now<=100000)(t se wn:Int)(ht: -1<=t/\t<c.n)(R:0<=se/\se<4)(U:0<=wn/\wn<=100000):
  Calls prog 57 #[.pointer (some ⟨i.x,0,O⟩),I J t,I J se,I J wn] w fun e w'=>e=.returned (.tuple #[.agg #[I J (qk c m.now m.Gl m.L t se wn).1.cnt,I J (qk c m.now m.Gl m.L t se wn).1.sum,I K (qk c m.now m.Gl m.L t se wn).1.mn,I K (qk c m.now m.Gl m.L t se wn).1.mx],I J (qk c m.now m.Gl m.L t se wn).2])/\Below w.1.size w w':=by
 obtain⟨a,cap,a4,S⟩:=h.ts
 have a8:=h.lt
 have z:Below w.1.size w (w.alloc (.cells #[I J 0,I J 0,I K 0,I K 0] 115)):=(Below.refl _ _).alloc (E _) _
 obtain⟨c0,c1,c2,c3,c4,c5,c6,-,c8,c9,-⟩:=(h.later z).cells
 rw[a4]at c6
 have s:=zd z
 have d:=zd (zr w (.cells #[I J 0,I J 0,I K 0,I K 0] 115))
 have b:w.1.size<(w.alloc (.cells #[I J 0,I J 0,I K 0,I K 0] 115)).1.size:=by rw[zG];omega
 have r:i.x<(w.alloc (.cells #[I J 0,I J 0,I K 0,I K 0] 115)).1.size:=by rw[zG];omega
 have HH:=zd (zbz c hc a cap t (w.alloc (.cells #[I J 0,I J 0,I K 0,I K 0] 115)))
 have a6:=hc.n4
 rw[show inB t (-1) ((c.n:Int)-1)=true from by rw[qG];omega]at HH
 have HS:=fun W=>zd (vg se W R)
 have a9:decide (wn<0)=false:=by simp;omega
 have aa:decide (100000<wn)=false:=by simp;omega
 have X:=fun(W:World) (hb:Below (w.alloc (.cells #[I J 0,I J 0,I K 0,I K 0] 115)).1.size (w.alloc (.cells #[I J 0,I J 0,I K 0,I K 0] 115)) W)=>zd (QH c hc a cap t wn m.now ht.1 ht.2 U P W.drew (S.below (z.trans (hb.mono z.size)).drew))
 have T:(⟨t,se,wn⟩:Sg).wf:=by refine⟨?_,?_,?_⟩<;>unfold xR<;>simp only<;>omega
 have M:=fun(W:World) (hb:Below (w.alloc (.cells #[I J 0,I J 0,I K 0,I K 0] 115)).1.size (w.alloc (.cells #[I J 0,I J 0,I K 0,I K 0] 115)) W)=>zd (J1 ((h.later z).later hb).set ⟨t,se,wn⟩ T)
 have K9:=c9
 clear z h S T
 by_cases Y:m.now-c.la<(wn+1)*c.wh t
 case' pos=>
  rw[show qk c m.now m.Gl m.L t se wn=(qC,9)from by unfold qk;rw[if_pos Y]]
  rw[show decide ((wn+1)*c.wh t<=m.now-c.la)=false from by simp;omega]at X
  clear Y
 case' neg=>
  rw[show qk c m.now m.Gl m.L t se wn=qA (stG m.Gl m.L ⟨t,se,wn⟩)from by unfold qk;rw[if_neg Y]]
  rw[show decide ((wn+1)*c.wh t<=m.now-c.la)=true from by simp;omega]at X
  unfold clV at M
  dsimp only at M
  generalize stG m.Gl m.L ⟨t,se,wn⟩=v at*
  clear Y
  by_cases A:v.st=0
  case' pos=>
   rw[show qA v=(qC,10)from by unfold qA;rw[if_pos A]]
   have q6:(v.st==0)=true:=by simp[A]
   clear A
  case' neg=>
   have q6:(v.st==0)=false:=by simp[A]
   by_cases G:v.st=2
   case' pos=>
    rw[show qA v=(qC,11)from by unfold qA;rw[if_neg A,if_pos G]]
    have q7:(v.st==2)=true:=by simp[G]
    clear A G
   case' neg=>
    have q7:(v.st==2)=false:=by simp[G]
    by_cases H:v.st=4
    case' pos=>
     rw[show qA v=(qC,12)from by unfold qA;rw[if_neg A,if_neg G,if_pos H]]
     have q8:(v.st==4)=true:=by simp[H]
     clear A G H
    case' neg=>
     have q8:(v.st==4)=false:=by simp[H]
     rw[show qA v=(v.cl,0)from by unfold qA;rw[if_neg A,if_neg G,if_neg H]]
     clear A G H
 all_goals
  go_enter func57,ntmps57
  go_wp2_with(first|(go_at_call 116;refine(ud HH).mono ?_;rintro e w1 ⟨rfl,f⟩;have m0:=(f.cell (p:=⟨i.x,0,O⟩) r).trans c0;have m1:=(f.cell (p:=⟨i.x,1,O⟩) r).trans c1;have m2:=(f.cell (p:=⟨i.x,2,O⟩) r).trans c2;have m3:=(f.cell (p:=⟨i.x,3,O⟩) r).trans c3;have m4:=(f.cell (p:=⟨i.x,4,O⟩) r).trans c4;have m5:=(f.cell (p:=⟨i.x,5,O⟩) r).trans c5;have m6:=(f.cell (p:=⟨i.x,6,O⟩) r).trans c6;have m8:=(f.cell (p:=⟨i.x,8,O⟩) r).trans c8;have m9:=(f.cell (p:=⟨i.x,9,O⟩) r).trans c9;obtain⟨Z,y1,y2,y3,-⟩:=zc (((f.block w.1.size b).trans (ud d)));have yf:=fun j=>zH ((f.block w.1.size b).trans (ud d)) j;have C:=zd f)|(go_at_call 60;refine(ud (HS _)).mono ?_;rintro e W9 ⟨rfl,h9⟩;have a2:=h9.symm;subst a2))
  have a0:=X w1 (ud C)
  have a5:=Q r (ud C).size
  clear Z y1 y2 y3 yf f c0 c1 c2 c3 c4 c5 c6 c8 c9 X HS HH
  refine Y7 10 (by kernel_rfl) (by kernel_rfl) ?_
  simp only[List.take_succ_cons,List.take_zero,List.drop_succ_cons,List.drop_zero]
  repeat still_step
  refine wpStill_nil ?_
  go_wp2_with(first|(go_at_call 117;refine(ud a0).mono ?_;rintro e w3 ⟨rfl,a3⟩;have y:Below _ _ w3:=(ud C).trans ((zku a3).mono (ud C).size);have n9:=(y.cell (p:=⟨i.x,9,O⟩) r).trans K9;obtain⟨Z,y1,y2,y3,-⟩:=zc (((y.block w.1.size b).trans (ud d)));have yf:=fun j=>zH ((y.block w.1.size b).trans (ud d)) j;have u:=zd y))
 rotate_right
 ·clear M
  have D:=((ud u).block w.1.size b).trans (ud d)
  have F:=Ya D (I J 0) (I J 0) (I K 0) (I K 0)
  refine bodyPost_ret (v:=.tuple #[.agg #[I J 0,I J 0,I K 0,I K 0],I J 9]) (zp results57 _ _ w.1.size _ _ _ _ _ rfl rfl F underlying115 rfl (by kernel_rfl)) rfl ?_
  exact⟨rfl,(ud s).trans (((ud u).mono (ud s).size).trans (below4 (E _) _ _ _ _))⟩
 all_goals
  have a1:=M w3 (ud u)
  clear M Z y1 y2 y3 yf
  refine(ud a1).mono ?_
  rintro e V ⟨rfl,N⟩
  have l:=(ud u).trans (N.mono (ud u).size)
  obtain⟨Z,-⟩:=zc (((l.block w.1.size b).trans (ud d)))
  obtain⟨-,y1,-⟩:=zc (((l.block w.1.size b).trans (ud d)))
  obtain⟨-,-,y2,-⟩:=zc (((l.block w.1.size b).trans (ud d)))
  obtain⟨-,-,-,y3,-⟩:=zc (((l.block w.1.size b).trans (ud d)))
  have yf:=fun j=>zH ((l.block w.1.size b).trans (ud d)) j
  have a7:w.1.size<V.1.size:=Q b l.size
  have k:=zd l
  clear N l
  go_wp2_with fail
 ·skip
  have D:=((ud k).block w.1.size b).trans (ud d)
  have q:=Ya D (I J v.cl.cnt) (I J v.cl.sum) (I K v.cl.mn) (I K v.cl.mx)
  have F:=(Below.heap_alloc _ (.cells #[I J v.cl.cnt,I J v.cl.sum,I K v.cl.mn,I K v.cl.mx] 115) _ (zb q)).trans q
  have o:=(ud s).trans (((ud k).mono (ud s).size).trans (below4 (w:=V) (g:=w.1.size) (B:=w.1.size) (E _) (I J v.cl.cnt) (I J v.cl.sum) (I K v.cl.mn) (I K v.cl.mx)))
  refine bodyPost_ret (v:=.tuple #[.agg #[I J v.cl.cnt,I J v.cl.sum,I K v.cl.mn,I K v.cl.mx],I J 0]) (zp results57 _ _ w.1.size _ _ _ _ _ rfl rfl F underlying115 rfl (by kernel_rfl)) rfl ?_
  exact⟨rfl,o.alloc o.size _⟩
 ·skip
  have D:=((ud k).block w.1.size b).trans (ud d)
  have q:=Ya D (I J 0) (I J 0) (I K 0) (I K 0)
  have F:=(Below.heap_alloc _ (.cells #[I J v.cl.cnt,I J v.cl.sum,I K v.cl.mn,I K v.cl.mx] 115) _ (zb q)).trans q
  have o:=(ud s).trans (((ud k).mono (ud s).size).trans (below4 (w:=V) (g:=w.1.size) (B:=w.1.size) (E _) (I J 0) (I J 0) (I K 0) (I K 0)))
  refine bodyPost_ret (v:=.tuple #[.agg #[I J 0,I J 0,I K 0,I K 0],I J 12]) (zp results57 _ _ w.1.size _ _ _ _ _ rfl rfl F underlying115 rfl (by kernel_rfl)) rfl ?_
  exact⟨rfl,o.alloc o.size _⟩
 ·skip
  have D:=((ud k).block w.1.size b).trans (ud d)
  have q:=Ya D (I J 0) (I J 0) (I K 0) (I K 0)
  have F:=(Below.heap_alloc _ (.cells #[I J v.cl.cnt,I J v.cl.sum,I K v.cl.mn,I K v.cl.mx] 115) _ (zb q)).trans q
  have o:=(ud s).trans (((ud k).mono (ud s).size).trans (below4 (w:=V) (g:=w.1.size) (B:=w.1.size) (E _) (I J 0) (I J 0) (I K 0) (I K 0)))
  refine bodyPost_ret (v:=.tuple #[.agg #[I J 0,I J 0,I K 0,I K 0],I J 11]) (zp results57 _ _ w.1.size _ _ _ _ _ rfl rfl F underlying115 rfl (by kernel_rfl)) rfl ?_
  exact⟨rfl,o.alloc o.size _⟩
 ·skip
  have D:=((ud k).block w.1.size b).trans (ud d)
  have q:=Ya D (I J 0) (I J 0) (I K 0) (I K 0)
  have F:=(Below.heap_alloc _ (.cells #[I J v.cl.cnt,I J v.cl.sum,I K v.cl.mn,I K v.cl.mx] 115) _ (zb q)).trans q
  have o:=(ud s).trans (((ud k).mono (ud s).size).trans (below4 (w:=V) (g:=w.1.size) (B:=w.1.size) (E _) (I J 0) (I J 0) (I K 0) (I K 0)))
  refine bodyPost_ret (v:=.tuple #[.agg #[I J 0,I J 0,I K 0,I K 0],I J 10]) (zp results57 _ _ w.1.size _ _ _ _ _ rfl rfl F underlying115 rfl (by kernel_rfl)) rfl ?_
  exact⟨rfl,o.alloc o.size _⟩
end Go.Proofs.YtndhpgciopcncaaGreatDoor
