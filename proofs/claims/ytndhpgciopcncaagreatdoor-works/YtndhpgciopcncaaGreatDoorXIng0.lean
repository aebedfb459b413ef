import Derived.Test.YtndhpgciopcncaaGreatDoorXMlz4
import Derived.Test.YtndhpgciopcncaaGreatDoorXJrn3
import Derived.Test.YtndhpgciopcncaaGreatDoorXPst0
import Derived.Test.YtndhpgciopcncaaGreatDoorXMod3
import Derived.Test.YtndhpgciopcncaaGreatDoorXKpk0
open Option renaming some → J
open Go.RowKit renaming Below → E
open Go.RowKit.Below renaming refl → Q
open Nat renaming lt_of_lt_of_le → Y
open Nat renaming le_refl → A
set_option linter.unusedVariables false
set_option maxRecDepth 20000
set_option maxHeartbeats 8000000
open Go.Proofs.Tryz
namespace Go.Proofs.YtndhpgciopcncaaGreatDoor
open Go.ChangeMaps (setBlock)
open Go.RowKit Go.Maps Go.Shelf
variable {cs:Array Value} {c:Cf} {e:Ending} {i:Ids} {ep now:Int} {q:JM} {ns':List Nm} {xs:List SX} {m m':MS} {d g k:Nat} {f:Nat->Prop} {fr:Nat×Nat} {W w w':World}
theorem Ve(h:Zm w' i c ep m q now xs e):∃r:Int,e=.returned (I r):=by
 rcases h with⟨_,h,_⟩|⟨_,h,_⟩<;>exact⟨_,h⟩
theorem zcj(h:Zm w' i c ep m q now xs e):∃m' a,xe w' i c ep m' a/\(m'=m\/m'=m.took now xs):=by
 rcases h with⟨_,_,h⟩|⟨_,_,⟨_,h⟩|⟨_,b,_,h⟩⟩
 ·exact⟨_,_,h,.inl rfl⟩
 ·exact⟨_,_,h,.inr rfl⟩
 ·exact⟨_,_,h,.inr rfl⟩
theorem Qs(h:Zm w' i c ep m q m.now xs e):w'.cell? (U i.x 8)=J (I m.now)/\w'.cell? (U i.x 9)=J (O i.s):=by
 obtain⟨m',g,d,f⟩:=zcj h;obtain⟨a,b,-⟩:=d.cells;refine⟨?_,b⟩;rw[a];rcases f with rfl|rfl<;>rfl
theorem zqo(h:xe w i c ep m q)(hc:c.ok)(se tm val:Int)(z:0<=se/\se<4)(F:0<=tm/\tm<=m.now)(aE:m.now-c.la<=tm)(au:m.now<=100000)(ac: -2147483648<=val/\val<=2147483647)(hu:0<=xh m.L/\xh m.L<=1000)(an:zox m.L)(al:∀k:Nat,k<c.n->zU m.Gl (qK c se tm k)=none)(aB:xh m.L+(1+2*yv c m.L ⟨se,tm,val⟩ c.n)<=c.qu)(ab:∀p∈m.L,p.1.t= -1->p.2.cl.small)(aa:∀x∈yI c m.Gl m.L ⟨se,tm,val⟩,okX x)(K:∀x∈XU (m.took m.now (yI c m.Gl m.L ⟨se,tm,val⟩)).L (m.took m.now (yI c m.Gl m.L ⟨se,tm,val⟩)).Gl,okX x)(ak:(yI c m.Gl m.L ⟨se,tm,val⟩).length<=1000)(aj:m.L.length<=900000)(ai:m.Gl.length<=49000000)(N:Nat)(hN:N<=900000000000)(hd:DOk q.S N)(am:0<=q.st/\q.st<=1099511627776):
  Calls prog 27 #[(O i.x),I se,I tm,i_ val] w fun e w'=>Zm w' i c ep m q m.now (yI c m.Gl m.L ⟨se,tm,val⟩) e/\Kx i w w':=by
 obtain⟨a,cap,ar,aq⟩:=h.own.ts;obtain⟨c0,c1,c2,c3,c4,c5,c6,c7,c8,c9,-⟩:=h.own.cells;rw[ar]at c6;have f:=h.lt;obtain⟨aH,aI⟩:=hc.qu;obtain⟨aC,aD⟩:=hc.la;have aF:=jm c m.L ⟨se,tm,val⟩ c.n;have aG:=hc.n4;have HU:=fun W X=>ze (Ql ((h.later (w':=W) X).set) (by unfold xX;omega));have a5:=fun W X=>ze (zbN ((h.later (w':=W) X).set) hc se tm val z ⟨F.1,by omega⟩ an al);have HQ:=fun W=>ze (QR c a cap W);have a7:=fun W=>ze (YN c a cap W);have a6:=fun W=>ze (jF se W z);obtain⟨aJ,aK⟩:=hu;have ax:decide (tm<0)=false:=by simp;omega
 have ay:decide (m.now<tm)=false:=by simp;omega
 have az:decide (tm<m.now-c.la)=false:=by simp;omega
 have H:=ze h;have P:=fun W X=>ze (zgt ((h.later (w':=W) X).set) hc se tm val z ⟨F.1,by omega⟩ ac ab);generalize aA:yI c m.Gl m.L ⟨se,tm,val⟩=xs at*;have R:=fun W (X:B_ w W) base v hv=>ze (XD (h.later X) m.now (by unfold xX;omega) xs aa K ak aj ai N hN hd am base v hv);clear aa K ab hd;generalize ah:xh m.L=U9 at*;generalize ag:yv c m.L ⟨se,tm,val⟩ c.n=M at*;obtain⟨ao,ap⟩:=F;have F:0<=tm/\tm<=m.now:=⟨ao,ap⟩;clear h aq ah ag;go_in;go_wp2_with(first|(go_at_call 60;refine(a6 _).mono ?_;rintro e W9 ⟨rfl,h9⟩;have af:=h9.symm;subst af));have a9:Nonempty (zm w.1.size w):=zm.some _ _;have a8:=fun(u:zm w.1.size w) b o h=>u.cell b o h;refine zh w.1.size (by kernel_rfl) (by kernel_rfl) ?_;repeat(go_big_quiet_step (first
  |(go_at_call 61;exact Calls.later (A _) (a7 _))))
 refine wpQuiet_nil ?_;rintro⟨w1,d⟩;dsimp only;clear a8 a9;go_wp2_with fail;have d0:=(d.cell (p:=(U i.x 0)) f).trans c0;have d1:=(d.cell (p:=(U i.x 1)) f).trans c1;have d2:=(d.cell (p:=(U i.x 2)) f).trans c2;have d3:=(d.cell (p:=(U i.x 3)) f).trans c3;have d4:=(d.cell (p:=(U i.x 4)) f).trans c4;have d5:=(d.cell (p:=(U i.x 5)) f).trans c5;have d6:=(d.cell (p:=(U i.x 6)) f).trans c6;have d7:=(d.cell (p:=(U i.x 7)) f).trans c7;have d8:=(d.cell (p:=(U i.x 8)) f).trans c8;have d9:=(d.cell (p:=(U i.x 9)) f).trans c9;have av:=Y f d.size;have g:=ze d;clear c0 c1 c2 c3 c4 c5 c6 c7 c8 c9 d;have a0:Nonempty (zm w1.1.size w1):=zm.some _ _;have Z:=fun(u:zm w1.1.size w1) b o h=>u.cell b o h;refine zh w1.1.size (by kernel_rfl) (by kernel_rfl) ?_;repeat(go_big_quiet_step (first
  |(go_at_call 43;exact Calls.later (A _) (ud (HU _ (g.trans (Below.mono (Subtype.property _) g.size)))))
  |(go_at_call 62;exact Calls.later (A _) (ud (a5 _ (g.trans (Below.mono (Subtype.property _) g.size)))))
  |(go_at_call 63;exact Calls.later (A _) (HQ _))))
 refine wpQuiet_nil ?_;rintro⟨w2,G⟩;dsimp only;clear Z a0;have l:=ze (g.trans (G.mono g.size));clear G d0 d1 d2 d3 d4 d5 d6 d7 d8 d9;have B:=H.later l;obtain⟨-,-,-,-,-,-,-,-,e8,e9,-⟩:=B.own.cells;have a1:=B.lt;have a2:=P w2 l;have a3:=P w2.drew l.drew;have aw:=ze B;clear B P a5 HU HQ a7 a6;go_wp2_with fail;go_region_held3 (fun w'=>w'.cell? (U i.x 8)=J (I m.now)/\w'.cell? (U i.x 9)=J (O i.s)) (go_keep) (first
  |(go_at_call 64;(first|(with_reducible refine(ud a2).mono ?_)|(with_reducible refine(ud a3).mono ?_));rintro e V ⟨v,rfl,y,j⟩;have hv:B_ w2 V:=⟨j.os,j.tape,j.output,j.size,j.block⟩;clear j;have v8:=(hv.cell (p:=(U i.x 8)) a1).trans e8;have v9:=(hv.cell (p:=(U i.x 9)) a1).trans e9;have aL:=Y a1 hv.size;have D:=l.trans (hv.mono l.size);have ad:=R V D _ v y;have ae:=R V.drew D.drew _ v (zY y (Q _ _).drew);have a4:=ze D;clear hv D y R a2 a3)
  |(go_at_call 52;(with_reducible refine(ud ad).mono ?_);rintro e T ⟨C,hK⟩;obtain⟨t8,t9⟩:=Qs C;obtain⟨r,rfl⟩:=Ve C;have HS:=ze C;have HK:=ze ((Kx.below a4 H.dlt).trans hK);clear C hK)
  |(go_at_call 52;(with_reducible refine(ud ae).mono ?_);rintro e T ⟨C,hK⟩;obtain⟨t8,t9⟩:=Qs C;obtain⟨r,rfl⟩:=Ve C;have HS:=ze C;have HK:=ze ((Kx.below a4.drew H.dlt).trans hK);clear C hK))
 all_goals go_wp2_with fail
 all_goals go_ret
 all_goals exact⟨HS,HK⟩
theorem zge{dn:Bool}(h:qk dn w i c ep m)(n:Int)(hn:n<1\/1000<n\/100000<m.now+n)(a:0<=m.now/\m.now<=100000):
  Calls prog 26 #[(O i.x),I n] w (Rz w (I 5)):=by
 obtain⟨-,-,-,-,-,-,-,-,l,-,-⟩:=h.cells;have k:=h.lt;obtain⟨g,j⟩:=a;clear h;by_cases b:n<1
 ·clear hn;go_in;go_wp2_with fail;go_ret;exact⟨rfl,Q _ _⟩
 ·have d:decide (n<1)=false:=by simpa using b
  by_cases e:1000<n
  ·clear hn;go_in;go_wp2_with fail;go_ret;exact⟨rfl,Q _ _⟩
  ·have f:decide (1000<n)=false:=(by simpa using e);have o:100000<m.now+n:=(by omega);clear hn;go_in;go_wp2_with fail;go_ret;exact⟨rfl,Q _ _⟩
def VK(m':MS)(q a:JM)(now:Int)(xs:List SX):Prop:=
 (zaf (zcF q.S (qD now xs)) q.st=false/\a=X6 q (qD now xs))\/(zaf (zcF q.S (qD now xs)) q.st=true/\∃b:List SX,b.Perm (XU m'.L m'.Gl)/\a=zqp (X6 q (qD now xs)) (qD now b))
theorem ZX(h:Zm w' i c ep m q now xs e)(f:Zh q.S (qD now xs)=false):e=.returned (I 13)/\xe w' i c ep m {X6 q (qD now xs)with dn:=true}:=by
 rcases h with⟨_,b,d⟩|⟨a,_⟩
 ·exact⟨b,d⟩
 ·rw[f]at a;cases a
theorem vU(h:Zm w' i c ep m q now xs e)(k:Zh q.S (qD now xs)=true):e=.returned (I 0)/\∃g,VK (m.took now xs) q g now xs/\xe w' i c ep (m.took now xs) g:=by
 rcases h with⟨d,_⟩|⟨_,f,⟨a,b⟩|⟨a,l,b,j⟩⟩
 ·rw[k]at d;cases d
 ·exact⟨f,_,.inl ⟨a,rfl⟩,b⟩
 ·exact⟨f,_,.inr ⟨a,l,b,rfl⟩,j⟩
def zpX(w':World)(i:Ids)(c:Cf)(ep:Int)(m:MS)(q:JM)(n:Int)(e:Ending):Prop:=
 (Zh q.S (qD (m.now+n) [])=false/\e=.returned (I 13)/\xe w' i c ep m {X6 q (qD (m.now+n) [])with dn:=true})
 \/(Zh q.S (qD (m.now+n) [])=true/\e=.returned (I 0)/\∃d b a TL',VK (m.took (m.now+n) []) q d (m.now+n) []/\xe w' i c ep {m with now:=m.now+n,TL:=TL',QL:=a} d/\zcC (m.now+n) m.TL m.QL b a/\(∀p∈a,m.now+n<p.2.til)/\qN c {m with now:=m.now+n,TL:=b,QL:=a} TL')
theorem zmo(w:World)(base:Nat):Zd w base (.slice none 0 0) []:=by
 unfold Zd;exact World.ownsRow_nil _ _ _ _
theorem zpD(h:xe w i c ep m q)(hc:c.ok)(n:Int)(hn:1<=n/\n<=1000)(Z:0<=m.now/\m.now+n<=100000)(hI:zmH 1000000 100000 m.TL m.QL)(hL:∀p∈m.L,inR c p.1)(X:m.L.length<=2000)(a1:∀TL' QL',zcC (m.now+n) m.TL m.QL TL' QL'->TL'.length<=50000)(s:∀x∈XU m.L m.Gl,okX x)(ae:m.Gl.length<=49000000)(N:Nat)(hN:N<=900000000000)(hd:DOk q.S N)(af:0<=q.st/\q.st<=1099511627776):
  Calls prog 26 #[(O i.x),I n] w fun e w'=>zpX w' i c ep m q n e/\Kx i w w':=by
 obtain⟨-,-,-,-,-,-,-,-,c8,-,-⟩:=h.own.cells;have ao:=h.lt;obtain⟨ak,al⟩:=hn;obtain⟨am,a2⟩:=Z;have ah:decide (n<1)=false:=by simp;omega
 have ai:decide (1000<n)=false:=by simp;omega
 have aj:decide (100000<m.now+n)=false:=by simp;omega
 have o:=fun W (t:B_ w W)=>XD (h.later t) (m.now+n) (by unfold xX;omega) [] (by simp) s (by simp) (by omega) ae N hN hd af 0 (.slice none 0 0) (zmo _ _);have ag:=ze h.dlt;clear s hd;cases d:Zh q.S (qD (m.now+n) [])
 ·have f:=fun W (t:B_ w W)=>ze ((o W t).mono (fun e T u=>(⟨(ZX u.1 d).1,(ZX u.1 d).2,u.2⟩:e=.returned (I 13)/\xe T i c ep m {X6 q (qD (m.now+n) [])with dn:=true}/\Kx i W T)));have l:=f w (Q _ _);clear h o f hI hL a1;go_in;go_wp2_with fail;refine l.mono ?_;rintro e T ⟨rfl,g,G⟩;have HM:=ze g;have HK:=ze G;clear g G;go_wp2_with fail;go_ret;exact⟨.inl ⟨d,rfl,HM⟩,HK⟩
 ·have f:=fun W (t:B_ w W)=>ze ((o W t).mono (fun e T u=>(⟨(vU u.1 d).1,(vU u.1 d).2,u.2⟩:e=.returned (I 0)/\(∃q',VK (m.took (m.now+n) []) q q' (m.now+n) []/\xe T i c ep (m.took (m.now+n) []) q')/\Kx i W T)));have l:=f w (Q _ _);clear h o f;go_in;go_wp2_with fail;refine l.mono ?_;rintro e T ⟨rfl,⟨q',hA,M⟩,G⟩;have g:xe T i c ep {m with now:=m.now+n} q':=M;obtain⟨-,-,-,-,-,-,-,-,d8,-,C⟩:=g.own.cells;dsimp only at d8;have a3:=g.lt;have HE:=fun W (t:B_ T W)=>ze (zfD ((g.later t).board) (m.now+n) ⟨by omega,a2⟩ hI);have y:=HE T (Q _ _);have j:=HE T.drew (Q _ _).drew;have v:∀k,(k=i.tb\/k=i.qb)->¬i.x=k:=fun k e e'=>by
   rcases e with e|e
   ·exact g.x_board k (.inr (.inl e)) e'.symm
   ·exact g.x_board k (.inr (.inr e)) e'.symm
  have B:Hid (¬(i.x=i.tb\/i.x=i.qb)):=fun e=>by
   rcases e with e|e
   ·exact v i.tb (.inl rfl) e
   ·exact v i.qb (.inr rfl) e
  have HM:=ze g;have HK:=ze G;have HA:=ze hA;clear M g G hA HE v l;go_wp2_with fail;go_region_held3 (fun w'=>w'.cell? (U i.x 8)=J (I (m.now+n))/\w'.cell? (U i.x 10)=J (O i.b)) (go_keep) (first
   |(go_at_call 59;(first|(with_reducible refine(ud y).mono ?_)|(with_reducible refine(ud j).mono ?_));rintro e V1 ⟨rfl,ac,ab,D,a,F,a0⟩;have hK1:zj (fun k=>k=i.tb\/k=i.qb) T V1:=⟨a.os,a.tape,a.output,a.size,a.block⟩;clear a;have g8:=(zD (i:=8) hK1 B a3).trans d8;have ad:=(zD (i:=10) hK1 B a3).trans C;have a4:=ze D;have a5:=ze hK1;have j:=ze F;have aa:=ze a0;clear D hK1 F a0 y))
  all_goals(
   have V:zj (Ze i.b i.tb i.qb) T V1:=a5.mono (fun k _ e=> .inr e)
   obtain⟨r,H⟩:=HM.putBoard a4 V
   have a9:=ze (zap r.own hc hL X ⟨by show 0<=m.now+n;omega,a2⟩ (a1 _ _ j))
   have a7:=ze r
   have a6:=ze (HK.trans H)
   have an:=r.lt
   clear V r H d8 C g8 ad
   go_wp2_with(first|(go_at_call 55;refine a9.mono ?_;rintro e V3 ⟨rfl,TL',P,K,R⟩;have z:=ze (a7.put P K (fun k e=> .inr (.inr (.inr (.inl e)))));have a8:=ze R;clear P K R))
   go_ret
   exact⟨.inr ⟨d,rfl,q',ac,ab,TL',HA,z.1,j,aa,a8⟩,a6.trans z.2⟩)
theorem zbm(h:xe w i c ep m q)(b:B_ w W):∀k,xm W i k->xm w i k:=by
 rintro k (e|e)
 ·exact .inl e
 ·right;have a:fsB W i.d=fsB w i.d:=by unfold fsB;rw[b.cell (p:=(U i.d 0)) h.dlt]
  rw[<-a];exact e
theorem JR(h:xe w i c ep m q)(a:B_ w W):¬xm W i w.1.size:=fun e=>absurd (h.foot_lt _ (zbm h a _ e)) (Nat.lt_irrefl _)
def zhm(w':World)(i:Ids)(c:Cf)(ep:Int)(m:MS)(q:JM)(t:Tok)(g:Lse)(xs:List SX)(e:Ending):Prop:=
 (Zh q.S (qD m.now xs)=false/\e=.returned (I 13)/\xe w' i c ep m {X6 q (qD m.now xs)with dn:=true})
 \/(Zh q.S (qD m.now xs)=true/\e=.returned (I 0)/\∃a TL',VK (m.took m.now xs) q a m.now xs/\xe w' i c ep {m.took m.now xs with TL:=TL',QL:=xB m.QL t} a/\qN c {m.took m.now xs with TL:=xB m.TL g.job,QL:=xB m.QL t} TL')
theorem zhP(h:xe w i c ep m q)(hc:c.ok)(t:Tok)(ht:t.wf){g:Lse}(hg:zU m.QL t=J g)(hj:g.job.wf)(x:Tsk)(hx:zU m.TL g.job=J x)(xs:List SX)(f:∀W,B_ w W->Hid (Calls prog 53 #[(O i.x),zmR (J x)] W fun e w'=>∃v,e=.returned v/\Zd w' W.1.size v xs/\B_ W w'))(ar:0<=m.now/\m.now<=100000)(aN:m.TL.length<=50000)(au:∀x∈xs,okX x)(a4:∀x∈XU (m.took m.now xs).L (m.took m.now xs).Gl,okX x)(aG:xs.length<=1000)(aF:m.L.length<=900000)(aE:m.Gl.length<=49000000)(N:Nat)(hN:N<=900000000000)(hd:DOk q.S N)(aH:0<=q.st/\q.st<=1099511627776)(am:∀p∈(m.took m.now xs).L,inR c p.1)(Z:(m.took m.now xs).L.length<=2000):
  Calls prog 20 #[(O i.x),.agg #[I t.ep,I t.num]] w fun e w'=>zhm w' i c ep m q t g xs e/\Kx i w w':=by
 have aa:B_ w (w.alloc (.cells #[I t.ep,I t.num] 49)):=(Q _ _).alloc (A _) _;have q0:=zo w (.cells #[I t.ep,I t.num] 49);have qz:=zE w (.cells #[I t.ep,I t.num] 49);have hX:=h.later aa;obtain⟨-,-,-,-,-,-,-,-,c8,-,ah⟩:=hX.own.cells;have aP:=hX.lt;have aM:=zd q0;obtain⟨k0,k1,-⟩:=zc q0;have aq:(⟨(yU (zU m.QL t)).kd,(yU (zU m.QL t)).s⟩:Jk).wf:=by rw[hg];exact hj
 have HL:∀W,B_ w W->Hid (Calls prog 51 #[(O i.b),.agg #[I t.ep,I t.num]] W (Rz W (.tuple #[zmR (J x),.bool true]))):=fun W hW=>by
  have:=jW ((h.later (w':=W) hW).board) t ht aq;rw[hg]at this;have e1:zU m.TL ⟨(yU (J g)).kd,(yU (J g)).s⟩=J x:=hx;rw[e1]at this;exact this
 have a2:=fun W (hW:B_ w W) base v hv=>XD (h.later hW) m.now (by unfold xX;omega) xs au a4 aG aF aE N hN hd aH base v hv;generalize zmR (J x)=JV at HL f;have a1:=ze aa;have QZ:=ze qz;have H:=ze h;have Q0:=ze q0;have HG:=ze hg;have aK:=ze hx;have ad:=ze ar;clear h hX aa q0 qz aq hg hx au a4 hd;unfold zhm;cases a3:Zh q.S (qD m.now xs)
 ·have y:=fun W (hW:B_ w W) base v hv=>ze ((a2 W hW base v hv).mono (fun e T hh=>(⟨(ZX hh.1 a3).1,(Qs hh.1).1,(ZX hh.1 a3).2,hh.2⟩:e=.returned (I 13)/\T.cell? (U i.x 8)=J (I m.now)/\xe T i c ep m {X6 q (qD m.now xs)with dn:=true}/\Kx i W T)));clear a2 am Z;go_in;go_wp2_with fail;have p1:w.1.size<w.1.size+1:=by omega
  have p2:i.x<w.1.size+1:=by have:=ud QZ;omega
  generalize(w.alloc (.cells #[I t.ep,I t.num] 49))=X at*;generalize hN:w.1.size+1=N at*;have ac:Nonempty (zm N X):=zm.some _ _;have ab:=fun(u:zm N X) b o h=>u.cell b o h;have R:N<=X.1.size:=by rw[ud QZ];exact A _
  have a5:=ze R;have K:Hid (w.1.size<=N):=by show w.1.size<=N;omega
  have HN:=ze hN;clear R hN;refine zh N (by kernel_rfl) (by kernel_rfl) ?_;repeat(go_big_quiet_step (first
   |(go_at_call 51;exact Calls.later a5 (ud (HL _ (a1.trans (Below.mono (Subtype.property _) K)))))))
  refine wpQuiet_nil ?_;rintro⟨w1,C⟩;clear ab ac;dsimp only;have j:=a1.trans (C.mono K);have z:=H.later j;obtain⟨-,-,-,-,-,-,-,-,e8,-,-⟩:=z.own.cells;have a0:=z.lt;have D:=f w1 j;have F:=f w1.drew j.drew;have G:=ze j;clear f k0 k1 c8 ah C j HL z;go_wp2_with fail;go_region_held3 (fun w'=>w'.cell? (U i.x 8)=J (I m.now)) (go_keep) (first
   |(go_at_call 53;(first|(with_reducible refine(ud D).mono ?_)|(with_reducible refine(ud F).mono ?_));rintro e V ⟨v,rfl,l,d⟩;have hv:B_ w1 V:=⟨d.os,d.tape,d.output,d.size,d.block⟩;clear d;have v8:=(hv.cell (p:=(U i.x 8)) a0).trans e8;have aI:=Y a0 hv.size;have n:=G.trans (hv.mono G.size);have a7:=y V n _ v l;have a8:=y V.drew n.drew _ v (zY l (Q _ _).drew);have r:=ze n;clear hv n l y D F)
   |(go_at_call 52;(with_reducible refine(ud a7).mono ?_);rintro e T ⟨rfl,t8,M,B⟩;have HM:=ze M;have HK:=ze ((Kx.below r H.dlt).trans B);clear M B)
   |(go_at_call 52;(with_reducible refine(ud a8).mono ?_);rintro e T ⟨rfl,t8,M,B⟩;have HM:=ze M;have HK:=ze ((Kx.below r.drew H.dlt).trans B);clear M B))
  all_goals go_wp2_with fail
  all_goals go_ret
  all_goals exact⟨.inl ⟨trivial,rfl,HM⟩,HK⟩
 ·have y:=fun W (hW:B_ w W) base v hv=>ze ((a2 W hW base v hv).mono (fun e T hh=>(⟨(vU hh.1 a3).1,(Qs hh.1).1,(vU hh.1 a3).2,hh.2⟩:e=.returned (I 0)/\T.cell? (U i.x 8)=J (I m.now)/\(∃q',VK (m.took m.now xs) q q' m.now xs/\xe T i c ep (m.took m.now xs) q')/\Kx i W T)));clear a2;go_in;go_wp2_with fail;have p1:w.1.size<w.1.size+1:=by omega
  have p2:i.x<w.1.size+1:=by have:=ud QZ;omega
  generalize(w.alloc (.cells #[I t.ep,I t.num] 49))=X at*;generalize hN:w.1.size+1=N at*;have ac:Nonempty (zm N X):=zm.some _ _;have ab:=fun(u:zm N X) b o h=>u.cell b o h;have R:N<=X.1.size:=by rw[ud QZ];exact A _
  have a5:=ze R;have K:Hid (w.1.size<=N):=by show w.1.size<=N;omega
  have HN:=ze hN;clear R hN;refine zh N (by kernel_rfl) (by kernel_rfl) ?_;repeat(go_big_quiet_step (first
   |(go_at_call 51;exact Calls.later a5 (ud (HL _ (a1.trans (Below.mono (Subtype.property _) K)))))))
  refine wpQuiet_nil ?_;rintro⟨w1,C⟩;clear ab ac;dsimp only;have j:=a1.trans (C.mono K);have z:=H.later j;obtain⟨-,-,-,-,-,-,-,-,e8,-,-⟩:=z.own.cells;have a0:=z.lt;have av:=(C.block _ (show w.1.size<N by have:=ud HN;omega)).trans Q0;have ae:=ze av;have D:=f w1 j;have F:=f w1.drew j.drew;have G:=ze j;clear f k0 k1 c8 ah C j HL z av;go_wp2_with fail;go_region_held3 (fun w'=>w'.cell? (U i.x 8)=J (I m.now)) (go_keep) (first
   |(go_at_call 53;(first|(with_reducible refine(ud D).mono ?_)|(with_reducible refine(ud F).mono ?_));rintro e V ⟨v,rfl,l,d⟩;have hv:B_ w1 V:=⟨d.os,d.tape,d.output,d.size,d.block⟩;clear d;have v8:=(hv.cell (p:=(U i.x 8)) a0).trans e8;have aI:=Y a0 hv.size;have n:=G.trans (hv.mono G.size);have af:=ze ((hv.block _ (zd ae)).trans ae);have a7:=y V n _ v l;have a8:=y V.drew n.drew _ v (zY l (Q _ _).drew);have r:=ze n;clear hv n l y D F)
   |(go_at_call 52;(with_reducible refine(ud a7).mono ?_);rintro e T ⟨rfl,t8,⟨q',hA,M⟩,B⟩;have a6:=ze (B.kept.heap af (JR H r));have HA:=ze hA;have HM:=ze M;have HK:=ze ((Kx.below r H.dlt).trans B);clear M B hA)
   |(go_at_call 52;(with_reducible refine(ud a8).mono ?_);rintro e T ⟨rfl,t8,⟨q',hA,M⟩,B⟩;have a6:=ze (B.kept.heap (k:=w.1.size) af (JR H r.drew));have HA:=ze hA;have HM:=ze M;have HK:=ze ((Kx.below r.drew H.dlt).trans B);clear M B hA))
  all_goals(
   have P:xe T i c ep {m with L:=(m.took m.now xs).L,Gl:=(m.took m.now xs).Gl} q':=ud HM
   obtain⟨-,-,-,-,-,-,-,-,-,-,aL⟩:=P.own.cells
   have aO:=P.lt
   obtain⟨t0,t1,-⟩:=zc a6
   have aJ:=zd a6
   have aw:=ze (zlc ((P.later (Q _ _).drew).board) t ht HG hj)
   have az:=ze P
   clear P
   go_wp2_with fail
   refine qP 5 (by kernel_rfl) (by kernel_rfl) ?_
   simp only[List.take_succ_cons,List.take_zero,List.drop_succ_cons,List.drop_zero]
   repeat still_step
   refine wpStill_nil ?_
   go_wp2_with(first|(go_at_call 54;refine aw.mono ?_;rintro e V2 ⟨rfl,ai,aj⟩;have aD:=ze ai;have ax:=ze aj;clear ai aj))
   have ap:zj (Ze i.b i.tb i.qb) T V2:=((zj.refl (Ze i.b i.tb i.qb) T).drew).trans (ax.mono (fun k _ e=> .inr e)) (fun _ _ e=>e)
   obtain⟨a9,ak⟩:=az.putBoard aD ap
   have aC:=ze (zap a9.own hc am Z ad (by have:=Vy (L:=m.TL) (a:=g.job);show(xB m.TL g.job).length<=50000;omega))
   have aA:=ze a9
   have ay:=ze (HK.trans ak)
   clear ap a9 ak
   go_wp2_with(first|(go_at_call 55;refine aC.mono ?_;rintro e V3 ⟨rfl,TL',an,al,ao⟩;have ag:=ze (aA.put an al (fun k e=> .inr (.inr (.inr (.inl e)))));have aB:=ze ao;clear an al ao))
   go_ret
   exact⟨.inr ⟨trivial,rfl,q',TL',HA,ag.1,aB⟩,ay.trans ag.2⟩)
def ms0:MS:=⟨0,[],[],0,[],[]⟩
def okN(x:SX):Prop:=x.2.st=2\/x.2.st=4->x.2.cl=qL
inductive zcD (c:Cf) (ep:Int):MS->List Nm->ByteArray->Prop
 |start (m:MS) (ns:List Nm) (txt:ByteArray) (hf:c.fits) (hs:SOk c ep m ns.length) (ho:∀x∈XU m.L m.Gl,okX x) (hn0:∀x∈XU m.L m.Gl,okN x) (h1:ep=1->m=ms0/\ns=[]/\txt=qD 0 []++nl):zcD c ep m ns txt
 |laid (m:MS) (ns:List Nm) (txt:ByteArray) (m':MS) (ns':List Nm) (xs:List SX) (h:zcD c ep m ns txt) (ha:VJ c ep m ns m' ns') (hx:∀x∈xs,okX x) (hL:m'.L=(vj (m.Gl,m.L) xs).2) (hG:m'.Gl=(vj (m.Gl,m.L) xs).1) (hxn:∀x∈xs,okN x) (hnd:(xs.map (·.1)).Nodup) (hxl:xs.length<=1000):zcD c ep m' ns' (txt++(qD m'.now xs++nl))
 |quiet (m:MS) (ns:List Nm) (txt:ByteArray) (m':MS) (ns':List Nm) (h:zcD c ep m ns txt) (ha:VJ c ep m ns m' ns') (hn:m'.now=m.now) (hL:m'.L=m.L) (hG:m'.Gl=m.Gl):zcD c ep m' ns' txt
 |anew (m:MS) (ns:List Nm) (txt:ByteArray) (ys:List SX) (h:zcD c ep m ns txt) (hp:ys.Perm (XU m.L m.Gl)):zcD c ep m ns (qD m.now ys++nl)
theorem Qm:∀(xs:List SX) (G:List (Sg×Unit)) (L:LV),(∀x∈XU L G,okX x)->(∀x∈xs,okX x)->∀x∈XU (vj (G,L) xs).2 (vj (G,L) xs).1,okX x
 |[],G,L,h,_=>h
 |y::xs,G,L,h,d=>by
  have f:=d y (by simp);have b:∀x∈XU (YE (G,L) y).2 (YE (G,L) y).1,okX x:=fun x a=>by
   unfold YE XU at a;split at a
   ·rcases List.mem_append.1 a with a|a
    ·exact h x (List.mem_append_left _ (xg.1 a).1)
    ·obtain⟨g,c,rfl⟩:=List.mem_map.1 a;rcases yB c with rfl|⟨c,_⟩
     ·exact⟨f.key,by show xX 4;unfold xX;omega,by show xX 0;unfold xX;omega,by show xX 0;unfold xX;omega,by show(-2147483648:Int)<=0/\(0:Int)<=2147483647;omega,by show(-2147483648:Int)<=0/\(0:Int)<=2147483647;omega⟩
     ·exact h _ (List.mem_append_right _ (List.mem_map.2 ⟨g,c,rfl⟩))
   ·rcases List.mem_append.1 a with a|a
    ·rcases qG a with rfl|⟨a,_⟩
     ·exact f
     ·exact h x (List.mem_append_left _ a)
    ·exact h x (List.mem_append_right _ a)
  have e:vj (G,L) (y::xs)=vj ((YE (G,L) y).1,(YE (G,L) y).2) xs:=rfl;rw[e];exact Qm xs _ _ b (fun x a=>d x (by simp[a]))
section
variable {c:Cf} {ep:Int} {m:MS} {ns:List Nm} {txt:ByteArray}
theorem zcD.fits(h:zcD c ep m ns txt):c.fits:=by
 induction h with
 |start m ns txt f p n g l=>exact f
 |laid m ns txt m' ns' xs h e q d b k i j a=>exact a
 |quiet m ns txt m' ns' h e hn d b a=>exact a
 |anew m ns txt r h o a=>exact a
theorem zcD.sok(h:zcD c ep m ns txt)(e:c.ok):SOk c ep m ns.length:=by
 have d:=h.fits;induction h with
 |start m ns txt d k p i o=>exact k
 |laid m ns txt m' ns' xs h b r g f n j l a=>exact b.ok e d a
 |quiet m ns txt m' ns' h b hn g f a=>exact b.ok e d a
 |anew m ns txt s h q a=>exact a
theorem zcD.okA(h:zcD c ep m ns txt):∀x∈XU m.L m.Gl,okX x:=by
 induction h with
 |start m ns txt o q i f n=>exact i
 |laid m ns txt m' ns' xs h e j d b l g k a=>rw[d,b];exact Qm xs _ _ a j
 |quiet m ns txt m' ns' h e hn d b a=>rw[d,b];exact a
 |anew m ns txt r h p a=>exact a
end
structure YX(w:World)(i:Ids)(c:Cf)(ep:Int)(m:MS)(q:JM)(txt:ByteArray)(ns:List Nm):Prop where
 at_:xe w i c ep m q
 up:q.dn=false
 dsk:q.S=jS ep.toNat txt
 e1:1<=ep/\ep<=1000000000
 st:0<=q.st/\q.st<=100000000000
 tx:(txt.size:Int)<=2*q.st+4096
 hist:zcD c ep m ns txt
def zF(w:World)(i:Ids)(c:Cf)(ep:Int)(m:MS):Prop:=∃q txt ns,YX w i c ep m q txt ns
section
variable {w w':World} {i:Ids} {c:Cf} {ep:Int} {m:MS} {q:JM} {txt:ByteArray} {ns:List Nm}
theorem zF.own(h:zF w i c ep m):qk false w i c ep m:=by
 obtain⟨q,txt,ns,h⟩:=h;have:=h.at_.own;rw[h.up]at this;exact this
theorem zF.head(h:zF w i c ep m):w.1[i.x]?=J (.cells #[I c.s,I c.le,I c.la,I c.wi,I c.ke,I c.qu,i.tv,I ep,I m.now,(O i.s),(O i.b),(O i.j),.bool false] 94 (0,0)):=h.own.head
theorem zF.set(h:zF w i c ep m):xK w i.s c i.tv i.lb i.gb m.Gl m.L:=h.own.set
theorem zF.board(h:zF w i c ep m):zN w i.b c i.tv ep m.num i.tb i.qb m.TL m.QL:=h.own.board
theorem zF.lt(h:zF w i c ep m):i.x<w.1.size:=zd h.head
theorem zF.dlt(h:zF w i c ep m):i.d<w.1.size:=by obtain⟨q,txt,ns,h⟩:=h;exact h.at_.dlt
theorem zF.tab(h:zF w i c ep m):Yz w:=by obtain⟨q,txt,ns,h⟩:=h;exact h.at_.tab
theorem zF.ts(h:zF w i c ep m):∃a cap,i.tv=.slice a c.n cap/\TS w a c.n c.F c.W c.K:=h.own.ts
theorem zF.cells(h:zF w i c ep m):w.cell? (U i.x 0)=J (I c.s)/\w.cell? (U i.x 1)=J (I c.le)/\w.cell? (U i.x 2)=J (I c.la)/\w.cell? (U i.x 3)=J (I c.wi)/\w.cell? (U i.x 4)=J (I c.ke)/\w.cell? (U i.x 5)=J (I c.qu)/\w.cell? (U i.x 6)=J i.tv/\w.cell? (U i.x 7)=J (I ep)/\w.cell? (U i.x 8)=J (I m.now)/\w.cell? (U i.x 9)=J (O i.s)/\w.cell? (U i.x 10)=J (O i.b):=h.own.cells
theorem zF.kept(h:zF w i c ep m)(a:zj f w w')(hn:∀k,xm w i k->¬f k)(b:¬f Qt):zF w' i c ep m:=by
 obtain⟨q,txt,ns,h⟩:=h;exact⟨q,txt,ns,h.at_.kept a hn b,h.up,h.dsk,h.e1,h.st,h.tx,h.hist⟩
theorem zF.later(h:zF w i c ep m)(b:B_ w w'):zF w' i c ep m:=h.kept (f:=fun _=>False) (zj.of_below b) (fun _ _ a=>a) (fun a=>a)
theorem zF.foot_lt(h:zF w i c ep m):∀k,xm w i k->k<w.1.size:=by obtain⟨q,txt,ns,h⟩:=h;exact h.at_.foot_lt
theorem zF.tn(h:zF w i c ep m):∀k,xm w i k->k≠Qt:=by obtain⟨q,txt,ns,h⟩:=h;exact h.at_.tn
theorem zF.below(h:zF w i c ep m)(a:B_ w w'):Kx i w w':=Kx.below a h.dlt
def ziF(t:TypeId):Bool:=t==94||t==155||t==80||t==171||t==216||t==111||t==113
theorem xe.tagQ(h:xe w i c ep m q){t:TypeId}(o:w.1[k]?=J (.cells cs t fr))(r:ziF t=false):¬xm w i k:=fun v=>by
 unfold ziF at r;simp only[Bool.or_eq_false_iff,beq_eq_false_iff_ne]at r;obtain⟨⟨⟨⟨⟨⟨y,t2⟩,t3⟩,t4⟩,t5⟩,z⟩,B⟩:=r;obtain⟨fs,s⟩:=h.jrn;have p:¬X7 i k:=fun e=>by
  rcases h.otag k e with⟨l,x,n,f,g⟩|⟨es,cl,u⟩
  ·have b:=kK o f;rcases g with a|a|a|a
   ·exact y (b.trans a)
   ·exact t2 (b.trans a)
   ·exact t3 (b.trans a)
   ·exact t4 (b.trans a)
  ·rw[o]at u;cases u
 have hn:¬Zg i.j i.d fs k:=fun e=>by
  obtain⟨l,x,n,f,g⟩:=s.tag k e;have b:=kK o f;rcases g with a|a|a
  ·exact t5 (b.trans a)
  ·exact z (b.trans a)
  ·exact B (b.trans a)
 rcases v with(e|e|e|e|e)|e
 ·exact p (.inl e)
 ·exact p (.inr (.inl e))
 ·exact p (.inr (.inr e))
 ·exact hn (.inl e)
 ·exact hn (.inr (.inl e))
 ·exact hn (.inr (.inr (s.fsB▸e)))
theorem zF.tag(h:zF w i c ep m){t:TypeId}(a:w.1[k]?=J (.cells cs t fr))(b:ziF t=false):¬xm w i k:=by
 obtain⟨q,txt,ns,h⟩:=h;exact h.at_.tagQ a b
theorem YX.dok(h:YX w i c ep m q txt ns):DOk q.S 400000000000:=by
 rw[h.dsk];have a:=h.tx;have b:=h.st;have d:=h.e1;exact zoZ (by omega) (by omega) (by omega)
theorem YX.lens(h:YX w i c ep m q txt ns)(a:c.ok):m.L.length<=400/\m.Gl.length<=2000020:=⟨(h.hist.sok a).ok.seg.len400 a,(h.hist.sok a).gl a⟩
theorem YX.lay(h:YX w i c ep m q txt ns)(a:ByteArray):Zh q.S a=true:=by rw[h.dsk];exact(zmT _ _ _).2
theorem YX.after(h:YX w i c ep m q txt ns)(k:c.ok)(B:VJ c ep m ns m' ns')(n:∀x∈xs,okX x)(p:∀x∈xs,okN x)(l:(xs.map (·.1)).Nodup)(o:xs.length<=1000)(hn:m'.now=now)(s:m'.L=(m.took now xs).L)(r:m'.Gl=(m.took now xs).Gl){y:JM}(z:VK (m.took now xs) q y now xs)(u:xe w' i c ep m' y):zF w' i c ep m':=by
 subst hn;have d:zcD c ep m' ns' (txt++(qD m'.now xs++nl)):=.laid m ns txt m' ns' xs h.hist B n s r p l o;have j:=d.sok k;have f:=(zmT ep.toNat txt (qD m'.now xs)).1;have C:=h.st;rcases z with⟨e,rfl⟩|⟨e,a,g,rfl⟩
 ·refine⟨_,_,_,u,h.up,?_,h.e1,h.st,?_,d⟩
  ·show zcF q.S (qD m'.now xs)=_;rw[h.dsk,f]
  ·show((txt++(qD m'.now xs++nl)).size:Int)<=2*q.st+4096;unfold zaf at e;rw[h.dsk,f,zok]at e;have:=of_decide_eq_false e;omega
 ·rw[<-s,<-r]at g;obtain⟨F,_,G⟩:=zpL ep.toNat (txt++(qD m'.now xs++nl)) (qD m'.now a);have v:=j.ok.now;have t:=Qo (now:=m'.now) (xs:=a) (by unfold xX;omega) (fun x n=>d.okA x (g.mem_iff.1 n));have H:=j.ok.seg.len400 k;have I:=j.gl k;have K:a.length=m'.L.length+m'.Gl.length:=by rw[g.length_eq];unfold XU;rw[List.length_append,List.length_map]
  have D:(qD m'.now a).size<=1000000000:=by rw[Qn];omega
  have b:(zqp (X6 q (qD m'.now xs)) (qD m'.now a)).st=(qD m'.now a).size+1:=by
   show zeR (zcF q.S (qD m'.now xs)) (qD m'.now a) q.st=_;unfold zeR;rw[h.dsk,f,G];rfl
  refine⟨_,_,_,u,h.up,?_,h.e1,?_,?_,zcD.anew m' ns' _ a d g⟩
  ·show zgP (zcF q.S (qD m'.now xs)) (qD m'.now a)=_;rw[h.dsk,f,F]
  ·rw[b];omega
  ·rw[b,KM];omega
theorem YX.quiet(h:YX w i c ep m q txt ns)(j:VJ c ep m ns m' ns')(hn:m'.now=m.now)(g:m'.L=m.L)(f:m'.Gl=m.Gl)(l:qk false w' i c ep m')(k:zj (X7 i) w w'):zF w' i c ep m'/\Kx i w w':=by
 have a:qk q.dn w' i c ep m':=by rw[h.up];exact l
 obtain⟨b,d⟩:=h.at_.put a k (fun _ e=>e);exact⟨⟨q,txt,ns',b,h.up,h.dsk,h.e1,h.st,h.tx,.quiet m ns txt m' ns' h.hist j hn g f⟩,d⟩
end
structure FLt(w:World)(i:Ids):Prop where
 foot:∀k,xm w i k->k<w.1.size
 d:i.d<w.1.size
 tab:Qt<w.1.size
section
variable {w w' X V Z:World} {i:Ids} {c:Cf} {ep:Int} {m m':MS}
theorem zF.flt(h:zF w i c ep m):FLt w i:=⟨h.foot_lt,h.dlt,h.tab.lt⟩
theorem ji(b:zj f w w')(a:d<w.1.size)(hn:¬f d):fsB w' d=fsB w d:=by
 unfold fsB World.cell?;simp only[b.block _ a hn]
theorem Qb(a:B_ w X)(b:d<w.1.size):fsB X d=fsB w d:=by
 unfold fsB World.cell?;simp only[a.block _ b]
theorem FLt.same(h:FLt w i)(a:B_ w X):xm X i k↔xm w i k:=by
 unfold xm;rw[Qb a h.d]
theorem FLt.kept(h:FLt w i)(a:B_ w X)(b:Kx i X V):zj (xm w i) X V:=b.kept.mono (fun k _ e=>(h.same a).1 e)
theorem FLt.kx(h:FLt w i)(a:B_ w X)(b:Kx i X V):Kx i w V:=(Kx.below a h.d).trans b
theorem znL(h:Kx i w w')(b:xm w' i k):xm w i k\/w.1.size<=k:=by
 rcases b with e|e
 ·exact .inl (.inl e)
 ·rcases h.fs k e with a|a
  ·exact .inl (.inr a)
  ·exact .inr a
theorem zdm(h:Kx i X.drew V):Kx i X V:=⟨⟨h.kept.os,h.kept.tape,h.kept.output,h.kept.size,h.kept.block⟩,h.fs⟩
theorem FLt.close(h:FLt w i)(m:B_ w X)(r:zF V i c ep m')(n:Kx i X V)(a:zj (fun k=>k=g) V Z)(p:w.1.size<=g)(q:g<X.1.size):zF Z i c ep m'/\Kx i w Z:=by
 have j:=h.kx m n;have o:=h.d;have hn:¬i.d=g:=by omega
 have f:i.d<V.1.size:=Y o j.size;refine⟨r.kept a (fun k b e=>?_) (fun e=>?_),⟨j.kept.trans a (fun k b e=>?_),fun k b=>?_⟩⟩
 ·have e:k=g:=e;rcases znL n b with l|l
  ·have:=h.foot k ((h.same m).1 l);omega
  ·omega
 ·have e:Qt=g:=e;have:=h.tab;omega
 ·have e:k=g:=e;omega
 ·rw[ji a f hn]at b;exact j.fs k b
theorem FLt.close3(h:FLt w i)(l:zF V i c ep m')(j:Kx i w V){t:TypeId}(o:V.1[g]?=J (.cells cs t fr))(p:ziF t=false)(a:zj (fun k=>k=g) V Z)(n:w.1.size<=g):zF Z i c ep m'/\Kx i w Z:=by
 have m:=h.d;have hn:¬i.d=g:=by omega
 have f:i.d<V.1.size:=Y m j.size;refine⟨l.kept a (fun k b e=>l.tag o p (e▸b)) (fun e=>?_),⟨j.kept.trans a (fun k b e=>?_),fun k b=>?_⟩⟩
 ·have e:Qt=g:=e;have:=h.tab;omega
 ·have e:k=g:=e;omega
 ·rw[ji a f hn]at b;exact j.fs k b
theorem zF.not_row(h:zF w i c ep m){B size n:Nat}{e:TypeId}{v:Value}{xs:List Value}(g:w.ownsRow B e size v n xs)(d:ziF e=false)(f:v.ownBlock=J k):¬xm w i k:=by
 obtain⟨a,b⟩:=zG g f;exact h.tag b d
theorem zF.not_post(h:zF w i c ep m){po x:Nat}{b:Cf}{ct mv td:Value}{eo:Int}(a:w.1[po]?=J (zL x d b ct mv td eo)):¬xm w i po:=by
 unfold zL at a;exact h.tag a (by decide)
theorem zF.ne_d(h:zF w i c ep m)(a:¬xm w i k):¬i.d=k:=fun e=>a (.inl (.inr (.inr (.inr (.inr e.symm)))))
theorem zF.tier(h:zF w i c ep m)(a:w.1[k]?=J (.cells cs 80 fr))(r:xm w i k):i.tv.ownBlock=J k:=by
 have hn:¬(k=i.j\/k=i.d\/fsB w i.d=J k):=fun e=>by
  obtain⟨q,txt,ns,h⟩:=h;obtain⟨fs,n⟩:=h.at_.jrn;have b:Zg i.j i.d fs k:=by
   rcases e with e|e|e
   ·exact .inl e
   ·exact .inr (.inl e)
   ·exact .inr (.inr (n.fsB▸e))
  obtain⟨o,s,p,g,l⟩:=n.tag k b;have f:=kK a g;rcases l with b|b|b
  ·exact absurd (f.trans b) (by decide)
  ·exact absurd (f.trans b) (by decide)
  ·exact absurd (f.trans b) (by decide)
 rcases r with(e|e|e|e|e)|e
 ·exact absurd (kK a (e▸h.head)) (by decide)
 ·rcases e with e|e|e|e
  ·exact absurd (kK a (e▸h.set.head)) (by decide)
  ·exact e
  ·exact absurd e.symm (xE (qF.1 h.set.live) a)
  ·exact absurd e.symm (xE h.set.gone a)
 ·rcases e with e|e|e
  ·exact absurd (kK a (e▸h.board.head)) (by decide)
  ·exact absurd e.symm (xE h.board.tg a)
  ·exact absurd e.symm (xE h.board.leases a)
 ·exact absurd (.inl e) hn
 ·exact absurd (.inr (.inl e)) hn
 ·exact absurd (.inr (.inr e)) hn
theorem zF.stopped(h:zF w i c ep m):Calls prog 32 #[(O i.d)] w fun e w'=>e=.returned (.bool false)/\w'=w:=by
 obtain⟨q,txt,ns,h⟩:=h;obtain⟨fs,f⟩:=h.at_.jrn;have a:=yH 0 i.d q.S fs w f.disk;have b:zt q.S=false:=by rw[h.dsk];exact(yY rfl rfl).1
 rw[b]at a;exact a
