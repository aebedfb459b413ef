import Derived.Test.YtpbimdkclnekeaaGreatVJn2
import Derived.Test.YtpbimdkclnekeaaGreatVBrd1
open Go.Value renaming int → I
open Go.IntKind renaming i64 → K
open Option renaming some → O
open Option renaming none → E
open Nat renaming le_refl → S
open Go.RowKit.Below renaming refl → D
open Nat renaming lt_of_lt_of_le → G
open Go renaming World → T
open Go.RowKit renaming Below → C
open Go renaming Value → d
open Go.IntKind (i32)
set_option linter.unusedVariables false
set_option maxRecDepth 20000
set_option maxHeartbeats 4000000
open Go.Proofs.Tryz
namespace Go.Proofs.YtpbimdkclnekeaaGreat
open Go.ChangeMaps (setBlock)
open Go.RowKit Go.Maps Go.Shelf
theorem zjI{w:T}{base:Nat}{e:TypeId}{size:Nat}{v:d}{n:Nat}{xs:List d}(h:w.ownsRow base e size v n xs):∀k,v.ownBlock=O k->base<=k:=fun k a=>by
 rcases h.2 with⟨rfl,_⟩|⟨g,cap,b,rfl,c,_⟩
 ·simp[Value.ownBlock]at a
 ·simp[Value.ownBlock]at a;subst a;exact c
def qJ(L:LV)(f se a:Int)(j:Nat):List Cl:=(List.range j).filterMap (fun i:Nat=>(kV L ⟨f,se,a+i⟩).map (·.cl))
theorem Yz(L:LV)(f se a:Int)(j:Nat):qJ L f se a (j+1)=qJ L f se a j++(match kV L ⟨f,se,a+j⟩with|some v=>[v.cl]|none=>[]):=by
 unfold qJ
 rw[List.range_succ,List.filterMap_append]
 congr 1
 cases h:kV L ⟨f,se,a+j⟩<;>simp[h]
theorem KM(L:LV)(f se a:Int)(j:Nat):(qJ L f se a j).length<=j:=by
 have:=List.length_filterMap_le (fun i:Nat=>(kV L ⟨f,se,a+i⟩).map (·.cl)) (List.range j)
 simpa[qJ]using this
def qk(c:Cf)(L:LV)(se we:Int)(k:Nat):List Cl:=qJ L (c.F k) se (we*xW c k) (xW c k).toNat
theorem zdW{w:T}{s:Nat}{c:Cf}{tv:d}{lb gb:Nat}{Gl:List (Sg×Unit)}{L:LV}(h:xJ w s c tv lb gb Gl L)(hc:c.ok)(k:Nat)(hk:k<c.n)(se we:Int)(ah:yS se)(a6:0<=we/\we<=100000):
  Calls prog 142 #[.pointer (O ⟨s,0,E⟩),.agg #[I K k,I K se,I K we]] w fun e w'=>∃ad g cap,e=.returned (.slice ad (qk c L se we k).length cap)/\(qk c L se we k≠[]->ad=O ⟨g,0,E⟩)/\g<w'.1.size/\CAt w' g (qk c L se we k)/\C w.1.size w w':=by
 obtain⟨a,cap,rfl⟩:=zq h.trow
 have m:=h.lt
 have ai:=TS.of_owns h.trow
 obtain⟨c0,c1,c2,c3,c4,c5,c6,c7,-⟩:=h.cells
 obtain⟨af,aA⟩:=ZD hc hk
 obtain⟨f1,f2⟩:=hc.F k hk
 have aN:=hc.n4
 have aP:0<=we*xW c k/\we*xW c k<=100000000:=⟨Int.mul_nonneg a6.1 af,by have:=Int.mul_le_mul a6.2 aA af (by omega);omega⟩
 have ag:(we+1)*xW c k=we*xW c k+xW c k:=by rw[Int.add_mul,Int.one_mul]
 have Q:∀j:Nat,j<=(xW c k).toNat->(qJ L (c.F k) se (we*xW c k) j).length<=1000:=fun j hj=>by have:=KM L (c.F k) se (we*xW c k) j;omega
 have a0:=fun W hW=>ze (zcZ c hc a cap k hk we a6 W (ai.below (w':=W) hW))
 rw[show qk c L se we k=qJ L (c.F k) se (we*xW c k) (xW c k).toNat from rfl]
 simp only[ag]at a0
 generalize we*xW c k=A at*
 generalize xW c k=M at*
 have a7:=ze Q
 clear Q ag
 have i:C w.1.size w (w.alloc (.cells #[I K k,I K se,I K we] 137)):=(D _ _).alloc (S _) _
 have q0:=zo w (.cells #[I K k,I K se,I K we] 137)
 have qz:=zF w (.cells #[I K k,I K se,I K we] 137)
 obtain⟨k0,k1,k2,-⟩:=zc q0
 have d0:=(i.cell (p:=⟨s,0,E⟩) m).trans c0
 have d1:=(i.cell (p:=⟨s,1,E⟩) m).trans c1
 have d2:=(i.cell (p:=⟨s,2,E⟩) m).trans c2
 have d3:=(i.cell (p:=⟨s,3,E⟩) m).trans c3
 have d4:=(i.cell (p:=⟨s,4,E⟩) m).trans c4
 have d5:=(i.cell (p:=⟨s,5,E⟩) m).trans c5
 have d6:=(i.cell (p:=⟨s,6,E⟩) m).trans c6
 have V:=ze i
 have H:=ze h
 have Q0:=ze q0
 have BZ:=ze qz
 clear h ai i q0 c0 c1 c2 c3 c4 c5 c6
 go_enter func142,ntmps142
 go_wp2_with fail
 have q1:w.1.size<w.1.size+1:=by omega
 have q2:s<w.1.size+1:=by omega
 generalize(w.alloc (.cells #[I K k,I K se,I K we] 137))=X at*
 generalize hN:w.1.size+1=N at*
 have aB:Nonempty (zm N X):=zm.some _ _
 have ay:=fun(u:zm N X) b o h=>u.cell b o h
 have aa:N<=X.1.size:=by rw[ud BZ];exact S _
 have a8:=ze aa
 have a1:Hid (w.1.size<=N):=by show w.1.size<=N;omega
 have HN:=ze hN
 clear aa hN
 refine zh N (by kernel_rfl) (by kernel_rfl) ?_
 repeat(go_big_quiet_step (first
  |(go_at_call 190;exact Calls.later (ud a8) (ud (a0 _ ((ud V).trans (Below.mono (Subtype.property _) (ud a1))))))))
 refine wpQuiet_nil ?_
 rintro⟨w1,a2⟩
 clear ay aB
 dsimp only
 go_wp2_with fail
 have t:C w.1.size w w1:=(ud V).trans (a2.mono (ud a1))
 have a4:w1.1[w.1.size]?=O (.cells #[I K k,I K se,I K we] 137 (0,0)):=(a2.block _ (by have:=ud HN;omega)).trans (ud Q0)
 have al:=zd a4
 have a9:=ze ((ud H).later t)
 have HQ:=ze a4
 have P:=ze t
 have a3:=((ud a9).foot_lt)
 have aJ:=ze a3
 have ax:lb<w1.1.size:=a3 lb (.inr (.inr (.inl rfl)))
 clear a4 t a3 a2 V a0 a8 a1 HN BZ Q0 k0 k1 k2 d0 d1 d2 d3 d4 d5 d6 q1 q2 c7
 go_loopw [5,9,10,11] (fun cv wv _ _ wr=>∃j:Nat,j<=M.toNat/\wv=I K (A+j)/\wr.ownsRow w1.1.size 114 4 cv (qJ L (c.F k) se A j).length ((qJ L (c.F k) se A j).flatMap jD)/\C w1.1.size w1 wr)
  (fun _ wv _ _ _=>(A+M-intOf wv).toNat)
 case atStart=>exact⟨0,Nat.zero_le _,by simp,World.ownsRow_nil _ _ _ _,D _ _⟩
 case round=>
  obtain⟨j,hj,rfl,hv,hb⟩:=hrel
  obtain⟨ad,cp,aj⟩:=zq hv
  have aL:=ud a7 j hj
  by_cases aM:j<M.toNat
  ·have aF:A+j<A+M:=by omega
   have l:=(ud a9).later hb
   obtain⟨-,-,-,-,-,-,-,x7,-⟩:=l.cells
   have aI:=l.lt
   have a5:=(hb.block _ al).trans (ud HQ)
   obtain⟨-,y1,-⟩:=zc a5
   have aH:=zd a5
   have r:(⟨c.F k,se,A+j⟩:Sg).wf:=⟨by unfold yS;dsimp only;omega,ah,by unfold yS;dsimp only;omega⟩
   obtain⟨f,J⟩:∃f,stL L ⟨c.F k,se,A+j⟩=f:=⟨_,rfl⟩
   obtain⟨ok,B⟩:∃ok,(kV L ⟨c.F k,se,A+j⟩).isSome=ok:=⟨_,rfl⟩
   have g0:=Zl (X:=wr) l.live (D _ _) r
   have g1:=Zl (X:=wr.drew) l.live (D _ _).drew r
   have g2:=fun o=>Zl (X:=wr.alloc o) l.live ((D _ _).alloc (S _) o) r
   have g3:=fun o=>Zl (X:=(wr.alloc o).drew) l.live ((D _ _).alloc (S _) o).drew r
   have g4:=fun o=>Zl (X:=wr.drew.alloc o) l.live ((D _ _).drew.alloc (S _) o) r
   rw[J,B]at g0 g1
   simp only[J,B]at g2 g3 g4
   have HV:=ze hv
   have HB:=ze hb
   have av:=ze J
   have ar:=ze B
   subst aj
   clear hv hb l a5 r J B
   go_wp2_with fail
   go_region
   have ab:C wr.1.size wr ((wr.alloc (.cells #[I K f.st,I K f.cl.cnt,I K f.cl.sum,I i32 f.cl.mn,I i32 f.cl.mx] 131)).drew):=((D _ _).alloc (S _) _).drew
   have ae:((wr.alloc (.cells #[I K f.st,I K f.cl.cnt,I K f.cl.sum,I i32 f.cl.mn,I i32 f.cl.mx] 131)).drew).1[wr.1.size]?=O (.cells #[I K f.st,I K f.cl.cnt,I K f.cl.sum,I i32 f.cl.mn,I i32 f.cl.mx] 131):=zo _ _
   have ao:((wr.alloc (.cells #[I K f.st,I K f.cl.cnt,I K f.cl.sum,I i32 f.cl.mn,I i32 f.cl.mx] 131)).drew).1.size=wr.1.size+1:=zF _ _
   generalize((wr.alloc (.cells #[I K f.st,I K f.cl.cnt,I K f.cl.sum,I i32 f.cl.mn,I i32 f.cl.mx] 131)).drew)=Y at*
   have z:=ze ab
   have aq:=ze ae
   have aw:=ze ao
   clear g0 g1 g2 g3 g4 x7 y1 ab ae ao
   have hg:qJ L (c.F k) se A (j+1)=qJ L (c.F k) se A j++(if ok then[f.cl]else[]):=by
    rw[Yz]
    have h1:=ud ar
    have h2:=ud av
    unfold stL at h2
    cases ac:kV L ⟨c.F k,se,A+j⟩with
    |none=>rw[ac]at h1;simp at h1;subst h1;simp
    |some v=>rw[ac]at h1 h2;simp at h1 h2;subst h1 h2;simp
   have ak:=(ud HB).size
   cases ok with
   |false=>
    have HG:=ze (show qJ L (c.F k) se A (j+1)=qJ L (c.F k) se A j by rw[hg];simp)
    clear hg
    go_wp2_with fail
    go_roundw
    case rel=>
     refine⟨j+1,by omega,by simp;omega,?_,(ud HB).trans ((ud z).mono ak)⟩
     rw[ud HG]
     exact xv (ud HV) (ud z)
    case measure=>simp[intOf];omega
   |true=>
    have HG:=ze (show qJ L (c.F k) se A (j+1)=qJ L (c.F k) se A j++[f.cl] by rw[hg];simp)
    clear hg
    obtain⟨-,o1,o2,o3,o4,-⟩:=zc (ud aq)
    have aQ:wr.1.size<Y.1.size:=by rw[ud aw];omega
    have au:=ze (xv (ud HV) (ud z))
    go_wp2_with(first|(at_builtin;refine zga rfl _ _ rfl w1.1.size (.slice ad (qJ L (c.F k) se A j).length cp) (qJ L (c.F k) se A j) f.cl rfl ((ud au).alloc _) Y.1.size rfl (zo _ _) ?hll ?hbb ?_;(case hll=>omega);(case hbb=>(rw[zF];omega));intro g aE Z U y aG;have ap:=ze y;have HO:=ze U;clear y U)|go_in)
    go_roundw
    case rel=>
     have an:=(ud HB).trans ((ud z).mono ak)
     have am:=an.alloc an.size (.cells #[I K f.cl.cnt,I K f.cl.sum,I i32 f.cl.mn,I i32 f.cl.mx] 114)
     refine⟨j+1,by omega,by simp;omega,?_,am.grown (ud ap) am.size (fun q e=>?_)⟩
     ·rw[ud HG];have:=ud HO;rw[List.length_append,List.length_singleton]at this ⊢;exact this
     ·exact zjI (ud HV) q e
    case measure=>simp[intOf];omega
  ·obtain rfl:j=M.toNat:=by omega
   have aO:decide (A+(M.toNat:Int)<A+M)=false:=by simp;omega
   subst aj
   have HV:=ze hv
   have HB:=ze hb
   clear hv hb
   go_wp2_with fail
   go_ret
   have hv:=ud HV
   have hB:=(ud P).trans ((ud HB).mono (ud P).size)
   by_cases h0:0<(qJ L (c.F k) se A M.toNat).length
   ·obtain⟨g,aD,aC,aK,az⟩:=hv.form h0
    cases aC
    exact⟨_,g,_,rfl,fun _=>rfl,az,CAt.of_owns hv,hB⟩
   ·have R:qJ L (c.F k) se A M.toNat=[]:=List.eq_nil_of_length_eq_zero (by omega)
    exact⟨_,s,_,rfl,fun hh=>absurd R hh,by have:=(ud H).lt;have:=hB.size;omega,by rw[R];intro j x hx;simp at hx,hB⟩
def yB(P:Nm->Prop)[DecidablePred P]:List Nm->Int
 |[]=>0
 |x::r=>(if P x then 1 else 0)+yB P r
def J0(P:Nm->Prop)[DecidablePred P]:List Nm->Int
 |[]=>0
 |x::r=>(if P x then x.val else 0)+J0 P r
structure IsC(P:Nm->Prop)[DecidablePred P](ns:List Nm)(a:Cl):Prop where
 cnt:a.cnt=yB P ns
 sum:a.sum=wrap64 (J0 P ns)
 none:yB P ns=0->a.mn=0/\a.mx=0
 mn:yB P ns≠0->(∃x∈ns,P x/\x.val=a.mn)/\∀x∈ns,P x->a.mn<=x.val
 mx:yB P ns≠0->(∃x∈ns,P x/\x.val=a.mx)/\∀x∈ns,P x->x.val<=a.mx
section
variable {P Q:Nm->Prop} [DecidablePred P] [DecidablePred Q] {ns:List Nm}
theorem yR:∀ns:List Nm,0<=yB P ns/\yB P ns<=ns.length
 |[]=>by simp[yB]
 |x::r=>by
  have:=yR r
  simp only[yB,List.length_cons]
  split<;>omega
theorem qw:∀{ns:List Nm},yB P ns=0↔∀x∈ns,¬P x
 |[]=>by simp[yB]
 |x::r=>by
  have f:=yR (P:=P) r
  have b:=qw (ns:=r)
  simp only[yB,List.mem_cons,forall_eq_or_imp]
  constructor
  ·intro h
   by_cases a:P x
   ·rw[if_pos a]at h;omega
   ·rw[if_neg a]at h;exact⟨a,b.1 (by omega)⟩
  ·rintro⟨c,e⟩
   rw[if_neg c,b.2 e];rfl
theorem zad:∀{ns:List Nm},(∀x∈ns,¬P x)->J0 P ns=0
 |[],_=>by simp[J0]
 |x::r,h=>by
  have a:=zad (ns:=r) (fun y b=>h y (by simp[b]))
  simp only[J0]
  rw[if_neg (h x (by simp)),a];rfl
theorem jS:∀{ns:List Nm},(∀x∈ns,P x↔Q x)->yB P ns=yB Q ns/\J0 P ns=J0 Q ns
 |[],_=>by simp[yB,J0]
 |x::r,h=>by
  have a:=jS (ns:=r) (fun y c=>h y (by simp[c]))
  have b:=h x (by simp)
  simp only[yB,J0,b,a.1,a.2,and_self]
theorem zeF{R:Nm->Prop}[DecidablePred R]:∀{ns:List Nm},(∀x∈ns,R x↔P x\/Q x)->(∀x∈ns,¬(P x/\Q x))->yB R ns=yB P ns+yB Q ns/\J0 R ns=J0 P ns+J0 Q ns
 |[],_,_=>by simp[yB,J0]
 |x::r,h,hn=>by
  have c:=zeF (ns:=r) (fun y b=>h y (by simp[b])) (fun y b=>hn y (by simp[b]))
  have a:=h x (by simp)
  have e:=hn x (by simp)
  simp only[yB,J0,c.1,c.2]
  by_cases p:P x
  ·have q:¬Q x:=fun q=>e ⟨p,q⟩
   simp only[a,p,q,true_or,if_true,if_false];constructor<;>omega
  ·by_cases q:Q x
   ·simp only[a,p,q,or_true,if_true,if_false];constructor<;>omega
   ·simp only[a,p,q,or_self,if_false];constructor<;>omega
theorem IsC.congr{a:Cl}(h:IsC P ns a)(c:∀x∈ns,P x↔Q x):IsC Q ns a:=by
 obtain⟨g,l⟩:=jS c
 refine⟨by rw[h.cnt,g],by rw[h.sum,l],fun b=>h.none (by rw[g];exact b),fun b=>?_,fun b=>?_⟩
 ·obtain⟨⟨x,e,j,ex⟩,i⟩:=h.mn (by rw[g];exact b)
  exact⟨⟨x,e,(c x e).1 j,ex⟩,fun y f k=>i y f ((c y f).2 k)⟩
 ·obtain⟨⟨x,e,j,ex⟩,i⟩:=h.mx (by rw[g];exact b)
  exact⟨⟨x,e,(c x e).1 j,ex⟩,fun y f k=>i y f ((c y f).2 k)⟩
theorem IsC.one{a b:Cl}(h:IsC P ns a)(k:IsC P ns b):a=b:=by
 obtain⟨R,U,o,p⟩:=a
 obtain⟨V,W,q,r⟩:=b
 have g:=h.cnt.trans k.cnt.symm
 have i:=h.sum.trans k.sum.symm
 simp only at g i
 subst g i
 by_cases c:yB P ns=0
 ·obtain⟨l,e⟩:=h.none c
  obtain⟨m,f⟩:=k.none c
  simp only at l e m f
  subst l e m f;rfl
 ·obtain⟨⟨x,F,M,ex⟩,e⟩:=h.mn c
  obtain⟨⟨y,H,N,w⟩,f⟩:=k.mn c
  obtain⟨⟨z,J,Q,A⟩,n⟩:=h.mx c
  obtain⟨⟨u,B,L,v⟩,j⟩:=k.mx c
  simp only at ex w A v e f n j
  have:=e y H N;have:=f x F M;have:=n u B L;have:=j z J Q
  have s:o=q:=by omega
  have t:p=r:=by omega
  subst s t;rfl
theorem IsC.zero(h:∀x∈ns,¬P x):IsC P ns qP:=by
 have b:=qw.2 h
 have c:=zad h
 exact⟨by rw[b];rfl,by rw[c];show(0:Int)=wrap64 0;unfold wrap64;omega,fun _=>⟨rfl,rfl⟩,fun a=>absurd b a,fun a=>absurd b a⟩
theorem ZY(x:Nm):∀ns:List Nm,yB P (ns++[x])=yB P ns+(if P x then 1 else 0)/\J0 P (ns++[x])=J0 P ns+(if P x then x.val else 0)
 |[]=>by simp[yB,J0]
 |y::r=>by
  have h:=ZY x r
  simp only[List.cons_append,yB,J0,h.1,h.2]
  constructor<;>omega
theorem IsC.skip{a:Cl}{x:Nm}(h:IsC P ns a)(i:¬P x):IsC P (ns++[x]) a:=by
 obtain⟨c,m⟩:=ZY (P:=P) x ns
 rw[if_neg i,Int.add_zero]at c m
 refine⟨by rw[h.cnt,c],by rw[h.sum,m],fun e=>h.none (by rw[<-c];exact e),fun e=>?_,fun e=>?_⟩
 ·obtain⟨⟨y,j,k,g⟩,l⟩:=h.mn (by rw[<-c];exact e)
  refine⟨⟨y,by simp[j],k,g⟩,fun z b f=>?_⟩
  rcases List.mem_append.1 b with b|b
  ·exact l z b f
  ·rw[List.mem_singleton]at b;subst b;exact absurd f i
 ·obtain⟨⟨y,j,k,g⟩,l⟩:=h.mx (by rw[<-c];exact e)
  refine⟨⟨y,by simp[j],k,g⟩,fun z b f=>?_⟩
  rcases List.mem_append.1 b with b|b
  ·exact l z b f
  ·rw[List.mem_singleton]at b;subst b;exact absurd f i
def ziU(a:Cl)(v:Int):Cl:=⟨a.cnt+1,wrap64 (a.sum+v),if a.cnt=0\/v<a.mn then v else a.mn,if a.cnt=0\/a.mx<v then v else a.mx⟩
theorem IsC.add{a:Cl}{x:Nm}(h:IsC P ns a)(f:P x):IsC P (ns++[x]) (ziU a x.val):=by
 obtain⟨q,o⟩:=ZY (P:=P) x ns
 rw[if_pos f]at q o
 have hn:=yR (P:=P) ns
 have r:=h.cnt
 refine⟨by show a.cnt+1=_;omega,by show wrap64 (a.sum+x.val)=_;rw[h.sum,zhb,o],fun p=>by omega,fun p=>?_,fun p=>?_⟩
 ·by_cases g:yB P ns=0
  ·have e:=qw.1 g
   refine⟨⟨x,by simp,f,?_⟩,fun z b c=>?_⟩
   ·show x.val=if a.cnt=0\/x.val<a.mn then x.val else a.mn
    rw[if_pos (.inl (by omega))]
   ·show(if a.cnt=0\/x.val<a.mn then x.val else a.mn)<=z.val
    rw[if_pos (.inl (by omega))]
    rcases List.mem_append.1 b with b|b
    ·exact absurd c (e z b)
    ·rw[List.mem_singleton]at b;subst b;omega
  ·obtain⟨⟨y,l,n,j⟩,i⟩:=h.mn g
   have m:¬a.cnt=0:=by omega
   show(∃z∈ns++[x],P z/\z.val=(if a.cnt=0\/x.val<a.mn then x.val else a.mn))/\∀z∈ns++[x],P z->(if a.cnt=0\/x.val<a.mn then x.val else a.mn)<=z.val
   by_cases k:x.val<a.mn
   ·rw[if_pos (.inr k)]
    refine⟨⟨x,by simp,f,rfl⟩,fun z b c=>?_⟩
    rcases List.mem_append.1 b with b|b
    ·have:=i z b c;omega
    ·rw[List.mem_singleton]at b;subst b;omega
   ·rw[if_neg (by omega)]
    refine⟨⟨y,by simp[l],n,j⟩,fun z b c=>?_⟩
    rcases List.mem_append.1 b with b|b
    ·exact i z b c
    ·rw[List.mem_singleton]at b;subst b;omega
 ·by_cases g:yB P ns=0
  ·have e:=qw.1 g
   refine⟨⟨x,by simp,f,?_⟩,fun z b c=>?_⟩
   ·show x.val=if a.cnt=0\/a.mx<x.val then x.val else a.mx
    rw[if_pos (.inl (by omega))]
   ·show z.val<=(if a.cnt=0\/a.mx<x.val then x.val else a.mx)
    rw[if_pos (.inl (by omega))]
    rcases List.mem_append.1 b with b|b
    ·exact absurd c (e z b)
    ·rw[List.mem_singleton]at b;subst b;omega
  ·obtain⟨⟨y,l,n,j⟩,i⟩:=h.mx g
   have m:¬a.cnt=0:=by omega
   show(∃z∈ns++[x],P z/\z.val=(if a.cnt=0\/a.mx<x.val then x.val else a.mx))/\∀z∈ns++[x],P z->z.val<=(if a.cnt=0\/a.mx<x.val then x.val else a.mx)
   by_cases k:a.mx<x.val
   ·rw[if_pos (.inr k)]
    refine⟨⟨x,by simp,f,rfl⟩,fun z b c=>?_⟩
    rcases List.mem_append.1 b with b|b
    ·have:=i z b c;omega
    ·rw[List.mem_singleton]at b;subst b;omega
   ·rw[if_neg (by omega)]
    refine⟨⟨y,by simp[l],n,j⟩,fun z b c=>?_⟩
    rcases List.mem_append.1 b with b|b
    ·exact i z b c
    ·rw[List.mem_singleton]at b;subst b;omega
end
theorem IsC.join{P Q R:Nm->Prop}[DecidablePred P][DecidablePred Q][DecidablePred R]{ns:List Nm}{zs:List Cl}{z:Cl}(h:IsC P ns (xQ zs))(B:zs=[]↔yB P ns=0)(k:IsC Q ns z)(W:yB Q ns≠0)(i:∀x∈ns,R x↔P x\/Q x)(hn:∀x∈ns,¬(P x/\Q x))(hl:(ns.length:Int)<9223372036854775808):
  IsC R ns (xQ (zs++[z]))/\yB R ns≠0:=by
 obtain⟨Z,e2⟩:=zeF i hn
 have b1:=yR (P:=P) ns
 have b2:=yR (P:=Q) ns
 have b3:=yR (P:=R) ns
 have V:yB R ns≠0:=by omega
 have X:=h.cnt
 have Y:=h.sum
 have jc:(xQ (zs++[z])).cnt=wrap64 ((xQ zs).cnt+z.cnt):=by simp only[xQ,List.map_append,List.map_cons,List.map_nil,Xt]
 have js:(xQ (zs++[z])).sum=wrap64 ((xQ zs).sum+z.sum):=by simp only[xQ,List.map_append,List.map_cons,List.map_nil,Xt]
 have k1:=k.cnt
 have k2:=k.sum
 obtain⟨⟨F,p,y,u⟩,M⟩:=k.mn W
 obtain⟨⟨H,q,A,v⟩,U⟩:=k.mx W
 have J:(∃x∈ns,R x/\x.val=(xQ (zs++[z])).mn)/\∀x∈ns,R x->(xQ (zs++[z])).mn<=x.val:=by
  simp only[xQ,kK]
  cases b:yy YH zs with
  |none=>
   have f:zs=[]:=by
    rcases List.eq_nil_or_concat zs with h|⟨l,x,rfl⟩
    ·exact h
    ·rw[List.concat_eq_append,kK]at b;unfold jj at b;split at b<;>(try split at b)<;>cases b
   have c:=qw.1 (B.1 f)
   simp only[jj,Option.getD_some]
   exact⟨⟨F,p,(i F p).2 (.inr y),u⟩,fun x a o=>((i x a).1 o).elim (fun t=>absurd t (c x a)) (M x a)⟩
  |some g=>
   have f:zs≠[]:=fun e=>by rw[e]at b;cases b
   have c:yB P ns≠0:=fun e=>f (B.2 e)
   obtain⟨⟨w,n,s,j⟩,r⟩:=h.mn c
   simp only[xQ,b,Option.getD_some]at j r
   simp only[jj,YH,zcM]
   by_cases m:z.mn<g.mn
   ·simp only[m,if_true,show(-1:Int)<0 by omega,Option.getD_some]
    refine⟨⟨F,p,(i F p).2 (.inr y),u⟩,fun x a o=>((i x a).1 o).elim (fun t=>?_) (M x a)⟩
    have:=r x a t;omega
   ·have:¬(if z.mn<g.mn then(-1:Int)else if g.mn<z.mn then 1 else 0)<0:=by rw[if_neg m];split<;>omega
    simp only[this,if_false,Option.getD_some]
    refine⟨⟨w,n,(i w n).2 (.inl s),j⟩,fun x a o=>((i x a).1 o).elim (r x a) (fun N=>?_)⟩
    have:=M x a N;omega
 have L:(∃x∈ns,R x/\x.val=(xQ (zs++[z])).mx)/\∀x∈ns,R x->x.val<=(xQ (zs++[z])).mx:=by
  simp only[xQ,kK]
  cases b:yy YI zs with
  |none=>
   have f:zs=[]:=by
    rcases List.eq_nil_or_concat zs with h|⟨l,x,rfl⟩
    ·exact h
    ·rw[List.concat_eq_append,kK]at b;unfold jj at b;split at b<;>(try split at b)<;>cases b
   have c:=qw.1 (B.1 f)
   simp only[jj,Option.getD_some]
   exact⟨⟨H,q,(i H q).2 (.inr A),v⟩,fun x a o=>((i x a).1 o).elim (fun t=>absurd t (c x a)) (U x a)⟩
  |some g=>
   have f:zs≠[]:=fun e=>by rw[e]at b;cases b
   have c:yB P ns≠0:=fun e=>f (B.2 e)
   obtain⟨⟨w,n,s,j⟩,r⟩:=h.mx c
   simp only[xQ,b,Option.getD_some]at j r
   simp only[jj,YI,zcM]
   by_cases m:g.mx<z.mx
   ·simp only[m,if_true,show(-1:Int)<0 by omega,Option.getD_some]
    refine⟨⟨H,q,(i H q).2 (.inr A),v⟩,fun x a o=>((i x a).1 o).elim (fun t=>?_) (U x a)⟩
    have:=r x a t;omega
   ·have:¬(if g.mx<z.mx then(-1:Int)else if z.mx<g.mx then 1 else 0)<0:=by rw[if_neg m];split<;>omega
    simp only[this,if_false,Option.getD_some]
    refine⟨⟨w,n,(i w n).2 (.inl s),j⟩,fun x a o=>((i x a).1 o).elim (r x a) (fun N=>?_)⟩
    have:=U x a N;omega
 refine⟨⟨?_,?_,fun h0=>absurd h0 V,fun _=>J,fun _=>L⟩,V⟩
 ·rw[jc,X,k1,<-Z];unfold wrap64;omega
 ·rw[js,Y,k2,e2];unfold wrap64;omega
theorem zab{L:LV}{wd f se a:Int}{ns:List Nm}(q:(ns.length:Int)<9223372036854775808):∀j:Nat,
  (∀i:Nat,i<j->(∀v,kV L ⟨f,se,a+i⟩=O v->IsC (fun x:Nm=>x.se=se/\x.tm/wd=a+i) ns v.cl/\yB (fun x:Nm=>x.se=se/\x.tm/wd=a+i) ns≠0)/\(kV L ⟨f,se,a+i⟩=E->∀x∈ns,¬(x.se=se/\x.tm/wd=a+i)))->
  IsC (fun x:Nm=>x.se=se/\a<=x.tm/wd/\x.tm/wd<a+j) ns (xQ (qJ L f se a j))/\(qJ L f se a j=[]↔yB (fun x:Nm=>x.se=se/\a<=x.tm/wd/\x.tm/wd<a+j) ns=0)
 |0,_=>by
  have n:∀x∈ns,¬(x.se=se/\a<=x.tm/wd/\x.tm/wd<a+(0:Nat)):=fun x _ ⟨_,b,c⟩=>by
   have:((0:Nat):Int)=0:=rfl
   omega
  exact⟨IsC.zero n,by simp only[qJ,List.range_zero,List.filterMap_nil,true_iff];exact qw.2 n⟩
 |j+1,h=>by
  obtain⟨r,s⟩:=zab q j (fun i F=>h i (by omega))
  obtain⟨t,u⟩:=h j (by omega)
  have k:((j+1:Nat):Int)=(j:Int)+1:=by omega
  rw[Yz]
  cases p:kV L ⟨f,se,a+j⟩with
  |none=>
   have l:=u p
   have o:∀x∈ns,(x.se=se/\a<=x.tm/wd/\x.tm/wd<a+j)↔(x.se=se/\a<=x.tm/wd/\x.tm/wd<a+(j+1:Nat)):=fun x m=>by
    have:=l x m
    constructor
    ·rintro⟨b,c,g⟩;exact⟨b,c,by omega⟩
    ·rintro⟨b,c,g⟩
     refine⟨b,c,?_⟩
     have:x.tm/wd≠a+j:=fun e=>this ⟨b,e⟩
     omega
   simp only[List.append_nil]
   exact⟨r.congr o,by rw[s,(jS o).1]⟩
  |some v=>
   obtain⟨A,B⟩:=t v p
   obtain⟨y,z⟩:=IsC.join (R:=fun x:Nm=>x.se=se/\a<=x.tm/wd/\x.tm/wd<a+(j+1:Nat)) r s A B (fun x m=>by
    constructor
    ·rintro⟨b,c,g⟩
     by_cases w:x.tm/wd=a+j
     ·exact .inr ⟨b,w⟩
     ·exact .inl ⟨b,c,by omega⟩
    ·rintro(⟨b,c,g⟩|⟨b,c⟩)
     ·exact⟨b,c,by omega⟩
     ·exact⟨b,by omega,by omega⟩) (fun x m ⟨⟨_,_,b⟩,_,c⟩=>by omega) q
   exact⟨y,by simp only[List.append_eq_nil_iff,List.cons_ne_nil,and_false,false_iff];exact z⟩
theorem zhr{X:T}{lb:Nat}{L:LV}(h:xh vD X lb L){k:Sg}(j:k.wf)(e:TypeId):
  ∃o,(Builtin.delete_ #[135,137] e #[.map (O lb),.agg #[I K k.t,I K k.se,I K k.we]]).run prog X=.ok (.tuple #[]) (setBlock X lb o)/\xh vD (setBlock X lb o) lb (xt L k)/\zk (fun k=>k=lb) X (setBlock X lb o):=by
 obtain⟨l,b,c,i⟩:=h
 obtain⟨a,f,g,m⟩:=QF Yk c i j e
 exact⟨.map a b,f,⟨a,b,xN (zd c) _,g⟩,qd _⟩
theorem xJ.putLive{w w':T}{s:Nat}{c:Cf}{tv:d}{lb gb:Nat}{Gl:List (Sg×Unit)}{L g:LV}(h:xJ w s c tv lb gb Gl L)(m:xh vD w' lb g)(b:zk (fun k=>k=lb) w w'):xJ w' s c tv lb gb Gl g:=by
 have a:∀{k:Nat} {cs:Array d} {t:TypeId} {j:Nat×Nat},w.1[k]?=O (.cells cs t j)->¬k=lb:=fun b e=>by
  obtain⟨o,n,l,_⟩:=h.live;rw[e,l]at b;cases b
 refine⟨b.heap h.head (a h.head),zi h.trow b (fun k b=>?_),yW.2 m,h.gone.kept b h.apart,h.apart⟩
 obtain⟨i,f⟩:=zO h.trow b
 exact a f
theorem xJ.putGone{w w':T}{s:Nat}{c:Cf}{tv:d}{lb gb:Nat}{Gl f:List (Sg×Unit)}{L:LV}(h:xJ w s c tv lb gb Gl L)(m:xh XD w' gb f)(b:zk (fun k=>k=gb) w w'):xJ w' s c tv lb gb f L:=by
 have a:∀{k:Nat} {cs:Array d} {t:TypeId} {j:Nat×Nat},w.1[k]?=O (.cells cs t j)->¬k=gb:=fun b e=>by
  obtain⟨o,n,l,_⟩:=h.gone;rw[e,l]at b;cases b
 refine⟨b.heap h.head (a h.head),zi h.trow b (fun k b=>?_),h.live.kept b (fun e=>h.apart e.symm),m,h.apart⟩
 obtain⟨i,g⟩:=zO h.trow b
 exact a g
theorem zbi{w:T}{s:Nat}{c:Cf}{tv:d}{lb gb:Nat}{Gl:List (Sg×Unit)}{L:LV}(h:xJ w s c tv lb gb Gl L)(k:Sg)(hk:k.wf)(a2:Gl.length<=1000000000):
  Calls prog 93 #[.pointer (O ⟨s,0,E⟩),.agg #[I K k.t,I K k.se,I K k.we]] w fun e w'=>e=.returned (.tuple #[])/\xJ w' s c tv lb gb (qt Gl k ()) (xt L k)/\zk (fun k=>k=lb\/k=gb) w w':=by
 have J:=h.lt
 obtain⟨-,-,-,-,-,-,-,c7,c8⟩:=h.cells
 have b:C w.1.size w (w.alloc (.cells #[I K k.t,I K k.se,I K k.we] 137)):=(D _ _).alloc (S _) _
 have M:=zo w (.cells #[I K k.t,I K k.se,I K k.we] 137)
 have g:=h.later b
 have U:=g.live.lt
 have R:=g.gone.lt
 have F:=h.foot_lt
 have x7:=(b.cell (p:=⟨s,7,E⟩) J).trans c7
 have x8:=(b.cell (p:=⟨s,8,E⟩) J).trans c8
 have A:s<(w.alloc (.cells #[I K k.t,I K k.se,I K k.we] 137)).1.size:=g.lt
 have l:=ze b
 obtain⟨X,n⟩:∃X,(w.alloc (.cells #[I K k.t,I K k.se,I K k.we] 137))=X:=⟨_,rfl⟩
 have P:=ze n
 rw[n]at M g U R x7 x8 A l
 have m:C X.1.size X X.drew:=(D _ _).drew
 obtain⟨o,H,v,a⟩:=zhr (X:=X.drew) (yW.1 (g.later m).live) hk 0
 obtain⟨Y,r⟩:∃Y,setBlock X.drew lb o=Y:=⟨_,rfl⟩
 rw[r]at H v a
 have Q:=(g.later m).putLive v a
 have q:C Y.1.size Y Y.drew:=(D _ _).drew
 obtain⟨o2,z,x,j,_⟩:=zkT (X:=Y.drew) (Q.later q).gone (by simp only[maxLen];omega) hk
 obtain⟨Z,u⟩:∃Z,setBlock Y.drew gb o2=Z:=⟨_,rfl⟩
 rw[u]at z x j
 have hZ:=(Q.later q).putGone x j
 have V:s≠lb:=fun e=>by obtain⟨es,cl,hb,_⟩:=g.live;have:=g.head;rw[e,hb]at this;cases this
 have y:w.1.size≠lb:=fun e=>by have:=F lb (.inr (.inr (.inl rfl)));omega
 have N:=zd M
 obtain⟨W,a0,a1,-⟩:=zc M
 have a7:Y.cell? ⟨w.1.size,0,E⟩=O (I K k.t):=(zr (i:=0) a y N).trans W
 have a8:Y.cell? ⟨w.1.size,1,E⟩=O (I K k.se):=(zr (i:=1) a y N).trans a0
 have a9:Y.cell? ⟨w.1.size,2,E⟩=O (I K k.we):=(zr (i:=2) a y N).trans a1
 have y8:Y.cell? ⟨s,8,E⟩=O (.map (O gb)):=(zr (i:=8) a V A).trans x8
 have B:Hid (xJ Z s c tv lb gb (qt Gl k ()) (xt L k)/\zk (fun k=>k=lb\/k=gb) w Z):=
  ⟨hZ,((((zk.of_below (f:=fun k=>k=lb\/k=gb) (ud l)).drew).trans (a.mono (fun k _ e=> .inl e)) (fun _ _ e=>e)).drew).trans (j.mono (fun k _ e=> .inr e)) (fun _ _ e=>e)⟩
 have a6:s<Y.1.size:=G A a.size
 have a5:w.1.size<Y.1.size:=G N a.size
 have a3:=ze r
 have a4:=ze u
 clear h g Q hZ v x a j F b M n r u c7 c8 l m q
 go_enter func93,ntmps93
 go_wp2_with fail
 rw[ud P]
 go_region
 go_wp2_with fail
 go_region
 go_wp2_with fail
 go_end0
 exact⟨rfl,ud B⟩
theorem zbf{w:T}{s:Nat}{c:Cf}{tv:d}{lb gb:Nat}{Gl:List (Sg×Unit)}{L:LV}(h:xJ w s c tv lb gb Gl L)(hc:c.ok)(k:Nat)(hk:k<c.n)(se we:Int)(B:yS se)(ai:0<=we/\we<=100000)(ak:L.length<=1000000):
  Calls prog 92 #[.pointer (O ⟨s,0,E⟩),.agg #[I K k,I K se,I K we]] w fun e w'=>e=.returned (.tuple #[])/\xJ w' s c tv lb gb Gl (yi L ⟨k,se,we⟩ ⟨3,xQ (qk c L se we k)⟩)/\zk (fun k=>k=lb) w w':=by
 have ah:=h.lt
 obtain⟨-,-,-,-,-,-,-,c7,-⟩:=h.cells
 have al:=hc.n4
 have a2:(⟨(k:Int),se,we⟩:Sg).wf:=⟨by unfold yS;dsimp only;omega,B,by unfold yS;dsimp only;omega⟩
 have x:C w.1.size w (w.alloc (.cells #[I K k,I K se,I K we] 137)):=(D _ _).alloc (S _) _
 have q0:=zo w (.cells #[I K k,I K se,I K we] 137)
 have hX:=h.later x
 have a1:=h.foot_lt
 have M:=fun W hW=>ze (zdW (h.later (w':=W) hW) hc k hk se we B ai)
 have aj:(qk c L se we k).length<=1000:=by have:=KM L (c.F k) se (we*xW c k) (xW c k).toNat;have:=ZD hc hk;show(qJ L (c.F k) se (we*xW c k) (xW c k).toNat).length<=1000;omega
 have R:=fun ad b cap ha W hb ae=>ze (Vj ad b cap (qk c L se we k) ha aj W hb ae)
 have x7:=(x.cell (p:=⟨s,7,E⟩) ah).trans c7
 obtain⟨a6,a7,a8,-⟩:=zc q0
 generalize qk c L se we k=zs at*
 obtain⟨jc,af⟩:∃jc,xQ zs=jc:=⟨_,rfl⟩
 unfold clV at R
 rw[af]at R ⊢
 have a3:¬s=lb:=fun e=>by
  obtain⟨es,cl,hb,_⟩:=h.live
  have hh:=h.head
  rw[e,hb]at hh;cases hh
 have t:¬w.1.size=lb:=fun e=>by have:=a1 lb (.inr (.inr (.inl rfl)));omega
 have v:=ze x
 have HX:=ze hX
 have ac:=ze a2
 have qz:=zd q0
 have a4:=hX.lt
 have y:L.length<maxLen:=by simp only[maxLen];omega
 have p0:=a6
 have p1:=a7
 have p2:=a8
 have p3:=x7
 clear h x q0 hX a2 a1 a6 a7 a8 x7 c7
 go_enter func92,ntmps92
 go_wp2_with fail
 generalize(w.alloc (.cells #[I K k,I K se,I K we] 137))=X at*
 have Z:=M X (ud v)
 have a0:=M X.drew (ud v).drew
 clear M
 go_region_held3 (fun w'=>w'.cell? ⟨w.1.size,0,E⟩=O (I K k)/\w'.cell? ⟨w.1.size,1,E⟩=O (I K se)/\w'.cell? ⟨w.1.size,2,E⟩=O (I K we)/\w'.cell? ⟨s,7,E⟩=O (.map (O lb))) (go_keep) (first
  |(go_at_call 142;(first|refine(ud Z).mono ?_|refine(ud a0).mono ?_);rintro e V ⟨ad,g,cap,rfl,ha,hg,r,j⟩;have m:C X.1.size X V:=⟨j.os,j.tape,j.output,j.size,j.block⟩;clear j;have v0:V.cell? ⟨w.1.size,0,E⟩=O (I K k):=(m.cell (p:=⟨w.1.size,0,E⟩) qz).trans p0;have v1:V.cell? ⟨w.1.size,1,E⟩=O (I K se):=(m.cell (p:=⟨w.1.size,1,E⟩) qz).trans p1;have v2:V.cell? ⟨w.1.size,2,E⟩=O (I K we):=(m.cell (p:=⟨w.1.size,2,E⟩) qz).trans p2;have v3:V.cell? ⟨s,7,E⟩=O (.map (O lb)):=(m.cell (p:=⟨s,7,E⟩) a4).trans p3;have z:=G qz m.size;have H:=G a4 m.size;have a9:=R ad g cap ha V hg r;have aa:=R ad g cap ha V.drew hg r;have Q:=ze m;clear m ha hg r R)
  |(go_at_call 141;(first|refine(ud a9).mono ?_|refine(ud aa).mono ?_);rintro e J ⟨rfl,a⟩;have l:C V.1.size V J:=⟨a.os,a.tape,a.output,a.size,a.block⟩;clear a;have j0:J.cell? ⟨w.1.size,0,E⟩=O (I K k):=(l.cell (p:=⟨w.1.size,0,E⟩) z).trans v0;have j1:J.cell? ⟨w.1.size,1,E⟩=O (I K se):=(l.cell (p:=⟨w.1.size,1,E⟩) z).trans v1;have j2:J.cell? ⟨w.1.size,2,E⟩=O (I K we):=(l.cell (p:=⟨w.1.size,2,E⟩) z).trans v2;have j3:J.cell? ⟨s,7,E⟩=O (.map (O lb)):=(l.cell (p:=⟨s,7,E⟩) H).trans v3;have P:=G z l.size;have a5:=G H l.size;have N:=(ud Q).trans (l.mono (ud Q).size);obtain⟨o,A,u,q,ag⟩:=Z6 ((ud HX).later N) y (ud ac) ⟨3,jc⟩;dsimp only at A;obtain⟨U,hU⟩:∃U,setBlock J lb o=U:=⟨_,rfl⟩;rw[hU]at A u q;have u0:U.cell? ⟨w.1.size,0,E⟩=O (I K k):=(zr (i:=0) q t P).trans j0;have u1:U.cell? ⟨w.1.size,1,E⟩=O (I K se):=(zr (i:=1) q t P).trans j1;have u2:U.cell? ⟨w.1.size,2,E⟩=O (I K we):=(zr (i:=2) q t P).trans j2;have u3:U.cell? ⟨s,7,E⟩=O (.map (O lb)):=(zr (i:=7) q a3 a5).trans j3;have Y:=ze u;have ab:=ze ((zk.of_below (f:=fun k=>k=lb) ((ud v).trans (N.mono (ud v).size))).trans q (fun _ _ h=>h));clear u q l hU ag N))
 all_goals go_wp2_with fail
 all_goals go_end0
 all_goals exact⟨rfl,ud Y,ud ab⟩
def jv(k:Nat):Nat:=2^min k 5
theorem ZG(k:Nat):1<=jv k/\jv k<=32:=by
 unfold jv
 have h:min k 5<=5:=Nat.min_le_right _ _
 generalize min k 5=j at*
 match j,h with
 |0,_=>simp
 |1,_=>simp
 |2,_=>simp
 |3,_=>simp
 |4,_=>simp
 |5,_=>simp
theorem ziJ{k:Nat}(h:k<=5):((2:Int)^k<32↔k<5):=by
 match k,h with
 |0,_=>simp
 |1,_=>simp
 |2,_=>simp
 |3,_=>simp
 |4,_=>simp
 |5,_=>simp
theorem ziI{k:Nat}(h:k<=5):1<=(2:Int)^k/\(2:Int)^k<=32:=by
 match k,h with
 |0,_=>simp
 |1,_=>simp
 |2,_=>simp
 |3,_=>simp
 |4,_=>simp
 |5,_=>simp
theorem zig(tc:Nat)(m:tc<=1000000000000)(w:T):
  Calls prog 97 #[I K tc] w fun e w'=>e=.returned (I K (jv tc))/\w'=w:=by
 go_enter func97,ntmps97
 go_wp2_with fail
 go_loopw [3,4] (fun x y wr=>∃(k:Nat),k<=5/\k<=tc/\x=I K ((2:Int)^k)/\y=I K k/\wr=w) (fun _ y _=>5-(intOf y).toNat)
 case atStart=>exact⟨0,by omega,Nat.zero_le _,by simp,rfl,rfl⟩
 case round=>
  obtain⟨k,a,h,rfl,rfl,rfl⟩:=hrel
  obtain⟨i,j⟩:=ziI a
  by_cases l:k<tc
  ·have f:(k:Int)<tc:=by omega
   by_cases g:k<5
   ·have b:(2:Int)^k<32:=(ziJ a).2 g
    have c:Hid ((2:Int)^k*2=2^(k+1)):=by show(2:Int)^k*2=2^(k+1);rw[Int.pow_succ]
    obtain⟨v,hv⟩:∃v,(2:Int)^k=v:=⟨_,rfl⟩
    rw[hv]at c b i j ⊢
    clear hv
    go_wp2_with fail
    go_roundw
    case rel=>exact⟨k+1,by omega,by omega,by rw[<-ud c],by go_num,trivial⟩
    case measure=>simp[intOf];omega
   ·obtain rfl:k=5:=by omega
    go_wp2_with fail
    go_ret
    refine⟨?_,rfl⟩
    unfold jv
    rw[show min tc 5=5 by omega]
    rfl
  ·obtain rfl:k=tc:=by omega
   go_wp2_with fail
   go_ret
   refine⟨?_,rfl⟩
   unfold jv
   rw[show min k 5=k by omega]
   simp
theorem zeQ(x:Lse)(W:T):(Instr.field 149 (.agg #[I K x.kd,I K x.s.t,I K x.s.se,I K x.s.we,I K x.slot,I K x.til]) 0).run prog W=.ok (.agg #[I K x.kd,I K x.s.t,I K x.s.se,I K x.s.we]) W:=by kernel_rfl
theorem Vo{X:T}{qb:Nat}{QL:List (Tok×Lse)}(h:xh xz X qb QL){t:Tok}(c:t.wf){g:Lse}(b:zV QL t=O g):(Instr.lookup 153 (.map (O qb)) (.agg #[I K t.ep,I K t.num]) false).run prog X=.ok (.agg #[I K g.kd,I K g.s.t,I K g.s.se,I K g.s.we,I K g.slot,I K g.til]) X:=by
 have a:=km qZ false h c
 rw[b]at a;exact a
theorem zhM{X:T}{tb:Nat}{TL:List (Jk×Tsk)}(h:xh xO X tb TL){k:Jk}(b:k.wf){x:Tsk}(c:zV TL k=O x):(Instr.lookup 154 (.map (O tb)) (.agg #[I K k.kd,I K k.s.t,I K k.s.se,I K k.s.we]) false).run prog X=.ok (.agg #[.iface x.jt (.agg #[I K x.s.t,I K x.s.se,I K x.s.we]),I K x.si,I K x.tc,I K x.rest]) X:=by
 have a:=km yL false h b
 rw[c]at a;exact a
def Tsk.failed(x:Tsk)(now:Int):Tsk:=⟨x.rl,x.s,x.si,x.tc+1,now+jv (x.tc+1).toNat⟩
theorem zgA{X:T}{tb:Nat}{TL:List (Jk×Tsk)}(h:xh xO X tb TL)(e:TL.length<maxLen){k:Jk}(c:k.wf)(x:Tsk)(b a:Int):
  ∃o,(Instr.mapUpdate 154 (.map (O tb)) (.agg #[I K k.kd,I K k.s.t,I K k.s.se,I K k.s.we]) (.agg #[.iface x.jt (.agg #[I K x.s.t,I K x.s.se,I K x.s.we]),I K x.si,I K b,I K a])).run prog X=.ok () (setBlock X tb o)/\xh xO (setBlock X tb o) tb (qt TL k ⟨x.rl,x.s,x.si,b,a⟩)/\zk (fun k=>k=tb) X (setBlock X tb o)/\o.isCells=false:=
 vQ yL h e c (⟨x.rl,x.s,x.si,b,a⟩:Tsk)
theorem zjg{X:T}{qb:Nat}{QL:List (Tok×Lse)}(h:xh xz X qb QL){t:Tok}(j:t.wf)(e:TypeId):
  ∃o,(Builtin.delete_ #[153,49] e #[.map (O qb),.agg #[I K t.ep,I K t.num]]).run prog X=.ok (.tuple #[]) (setBlock X qb o)/\xh xz (setBlock X qb o) qb (xt QL t)/\zk (fun k=>k=qb) X (setBlock X qb o):=by
 obtain⟨l,b,c,i⟩:=h
 obtain⟨a,f,g,m⟩:=QF qZ c i j e
 exact⟨.map a b,f,⟨a,b,xN (zd c) _,g⟩,qd _⟩
theorem zhs{X:T}{qb:Nat}{QL:List (Tok×Lse)}{c:Array MapEntry}{b:Nat}(f:X.1[qb]?=O (.map c b))(l:vA xz c b QL){t:Tok}(m:t.wf)(g:TypeId):
  ∃a,(Builtin.delete_ #[153,49] g #[.map (O qb),.agg #[I K t.ep,I K t.num]]).run prog X=.ok (.tuple #[]) (setBlock X qb (.map a b))/\(setBlock X qb (.map a b)).1[qb]?=O (.map a b)/\vA xz a b (xt QL t)/\(∀e,e∈a.toList↔e∈c.toList/\e.key≠yd t)/\zk (fun k=>k=qb) X (setBlock X qb (.map a b)):=by
 obtain⟨a,h,i,j⟩:=QF qZ f l m g
 exact⟨a,h,xN (zd f) _,i,j,qd _⟩
theorem zbL{w:T}{b:Nat}{c:Cf}{tv:d}{ep num:Int}{tb qb:Nat}{TL:List (Jk×Tsk)}{QL:List (Tok×Lse)}(h:zM w b c tv ep num tb qb TL QL)(t:Tok)(ht:t.wf){g:Lse}(hg:zV QL t=O g){x:Tsk}(aa:(⟨g.kd,g.s⟩:Jk).wf)(hx:zV TL ⟨g.kd,g.s⟩=O x)(now:Int)(aP:0<=now/\now<=100000)(aX:0<=x.tc/\x.tc<=1000000000)(aO:TL.length<=100000){es:Array MapEntry}{cl:Nat}(ae:w.1[qb]?=O (.map es cl))(af:vA xz es cl QL):
  Calls prog 45 #[.pointer (O ⟨b,0,E⟩),.agg #[I K t.ep,I K t.num],I K now] w fun e w'=>e=.returned (.tuple #[])/\zM w' b c tv ep num tb qb (qt TL ⟨g.kd,g.s⟩ (x.failed now)) (xt QL t)/\zk (fun k=>k=tb\/k=qb) w w'/\∃N,w'.1[qb]?=O (.map N cl)/\vA xz N cl (xt QL t)/\∀e,e∈N.toList↔e∈es.toList/\e.key≠yd t:=by
 have av:=h.lt
 have y0:=zo w (.cells #[I K t.ep,I K t.num] 49)
 have yz:=zF w (.cells #[I K t.ep,I K t.num] 49)
 have a:C w.1.size w (w.alloc (.cells #[I K t.ep,I K t.num] 49)):=(D _ _).alloc (S _) _
 obtain⟨k0,k1,-⟩:=zc y0
 have aK:=(h.later a).cell10
 have HL:=fun X hX=>Vo (h.leases.later (w':=X) hX) ht hg
 have g0:=HL _ a
 have g1:=HL _ a.drew
 have g2:=fun o=>HL _ (a.alloc a.size o)
 have g3:=fun o=>HL _ (a.alloc a.size o).drew
 have g4:=fun o=>HL _ (a.drew.alloc a.drew.size o)
 have fl:=zeQ g
 have a0:w.1.size<(w.alloc (.cells #[I K t.ep,I K t.num] 49)).1.size:=by rw[yz];omega
 have aN:b<(w.alloc (.cells #[I K t.ep,I K t.num] 49)).1.size:=by rw[yz];omega
 have J:=ze h
 have Y0:=ze y0
 have a3:=ze a
 have HT:=ze ht
 have a4:=ze aa
 have HG:=ze hg
 have HX:=ze hx
 have a8:=ze ae
 have am:=ze af
 clear h y0 yz a HL ht aa hg hx ae af
 go_enter func45,ntmps45
 go_wp2_with fail
 generalize(w.alloc (.cells #[I K t.ep,I K t.num] 49))=X at*
 go_region
 have P:C X.1.size X (X.alloc (.cells #[I K g.kd,I K g.s.t,I K g.s.se,I K g.s.we] 147)).drew:=((D _ _).alloc (S _) _).drew
 have R:(X.alloc (.cells #[I K g.kd,I K g.s.t,I K g.s.se,I K g.s.we] 147)).drew.1[X.1.size]?=O (.cells #[I K g.kd,I K g.s.t,I K g.s.se,I K g.s.we] 147 (0,0)):=zo _ _
 have ai:(X.alloc (.cells #[I K g.kd,I K g.s.t,I K g.s.se,I K g.s.we] 147)).drew.1.size=X.1.size+1:=zF _ _
 generalize(X.alloc (.cells #[I K g.kd,I K g.s.t,I K g.s.se,I K g.s.we] 147)).drew=Y at*
 have l:C w.1.size w Y:=(ud a3).trans (P.mono (ud a3).size)
 have y9:=((ud J).later l).cell9
 obtain⟨aC,aD,aE,aF,-⟩:=zc R
 have m:=fun V hV=>zhM (k:=⟨g.kd,g.s⟩) ((ud J).tg.later (w':=V) hV) (ud a4) (ud HX)
 dsimp only at m
 clear g0 g1 g2 g3 g4 fl k0 k1 aK
 have g0:=m Y l
 have g1:=m Y.drew l.drew
 have g2:=fun o=>m (Y.alloc o) (l.alloc l.size o)
 have g3:=fun o=>m (Y.alloc o).drew (l.alloc l.size o).drew
 have g4:=fun o=>m (Y.drew.alloc o) (l.drew.alloc l.drew.size o)
 have aM:b<Y.1.size:=by omega
 have A:X.1.size<Y.1.size:=by omega
 have a5:=ze R
 have L:=ze l
 have aQ:=ze ai
 have au:=ze P
 clear R l ai P m
 go_wp2_with fail
 go_region
 have y:C Y.1.size Y (Y.alloc (.cells #[.iface x.jt (.agg #[I K x.s.t,I K x.s.se,I K x.s.we]),I K x.si,I K x.tc,I K x.rest] 162)).drew:=((D _ _).alloc (S _) _).drew
 have u:(Y.alloc (.cells #[.iface x.jt (.agg #[I K x.s.t,I K x.s.se,I K x.s.we]),I K x.si,I K x.tc,I K x.rest] 162)).drew.1[Y.1.size]?=O (.cells #[.iface x.jt (.agg #[I K x.s.t,I K x.s.se,I K x.s.we]),I K x.si,I K x.tc,I K x.rest] 162 (0,0)):=zo _ _
 have aY:(Y.alloc (.cells #[.iface x.jt (.agg #[I K x.s.t,I K x.s.se,I K x.s.we]),I K x.si,I K x.tc,I K x.rest] 162)).drew.1.size=Y.1.size+1:=zF _ _
 generalize(Y.alloc (.cells #[.iface x.jt (.agg #[I K x.s.t,I K x.s.se,I K x.s.we]),I K x.si,I K x.tc,I K x.rest] 162)).drew=Z at*
 have ah:C w.1.size w Z:=(ud L).trans (y.mono (ud L).size)
 obtain⟨t0,t1,t2,t3,-⟩:=zc u
 have tf:=fun j=>zD u j
 have aR:=zd u
 have B:=(y.block X.1.size A).trans (ud a5)
 have HR:∀W,Hid (Calls prog 97 #[I K (x.tc+1)] W fun e w'=>e=.returned (I K (jv (x.tc+1).toNat))/\w'=W):=fun W=>by
  have:=zig (x.tc+1).toNat (by omega) W
  rw[Int.toNat_of_nonneg (by omega)]at this
  exact this
 obtain⟨q1,q2⟩:=ZG (x.tc+1).toNat
 obtain⟨H,z⟩:∃H:Nat,jv (x.tc+1).toNat=H:=⟨_,rfl⟩
 rw[z]at q1 q2
 simp only[z]at HR
 have an:=ze z
 have ap:=ze u
 have ar:=ze ah
 have al:=ze B
 have aj:=ze y
 clear g0 g1 g2 g3 g4 aC aD aE aF y9 u ah y B z
 go_wp2_with(first|(go_at_call 97;refine(ud (HR _)).mono ?_;rintro e Z2 ⟨rfl,rfl⟩))
 have hU:((Z.setCell ⟨Y.1.size,2,E⟩ (I K (x.tc+1))).setCell ⟨Y.1.size,3,E⟩ (I K (now+H))).1[Y.1.size]?=O (.cells #[.iface x.jt (.agg #[I K x.s.t,I K x.s.se,I K x.s.we]),I K x.si,I K (x.tc+1),I K (now+H)] 162 (0,0)):=xm (i:=3) (xm (i:=2) (ud ap) (I K (x.tc+1))) (I K (now+H))
 have v:C Y.1.size Z ((Z.setCell ⟨Y.1.size,2,E⟩ (I K (x.tc+1))).setCell ⟨Y.1.size,3,E⟩ (I K (now+H))):=((D _ _).setCell (p:=⟨Y.1.size,2,E⟩) (S _) _).setCell (p:=⟨Y.1.size,3,E⟩) (S _) _
 generalize((Z.setCell ⟨Y.1.size,2,E⟩ (I K (x.tc+1))).setCell ⟨Y.1.size,3,E⟩ (I K (now+H)))=U at*
 have n:C w.1.size w U:=(ud ar).trans (v.mono (ud L).size)
 have Q:=(v.block X.1.size A).trans (ud al)
 have a2:=(v.block w.1.size (by have:=a0;omega)).trans (((ud aj).block w.1.size (by have:=a0;omega)).trans (((ud au).block w.1.size a0).trans (ud Y0)))
 have u9:=((ud J).later n).cell9
 obtain⟨ay,az,aA,aB,-⟩:=zc Q
 obtain⟨aG,aH,aI,aJ,-⟩:=zc hU
 have aW:=zd hU
 have aT:=zd Q
 have aV:=zd a2
 have aL:b<U.1.size:=G av n.size
 obtain⟨o,F,hm,hk,ho⟩:=zgA (X:=U.drew) (k:=⟨g.kd,g.s⟩) ((ud J).tg.later n.drew) (by simp only[maxLen];omega) (ud a4) x (x.tc+1) (now+H)
 dsimp only at F
 have q:=((ud J).later n.drew).putTasks hm hk
 have a1:=hk.heap (k:=w.1.size) a2 (fun e=>by have:=(ud J).foot_lt tb (.inr (.inl rfl));omega)
 have aZ:=q.cell10
 obtain⟨b0,b1,-⟩:=zc a1
 have aU:=zd a1
 have aS:=q.lt
 have ad:(setBlock U.drew tb o).1[qb]?=O (.map es cl):=hk.heap (k:=qb) ((n.block qb (zd (ud a8))).trans (ud a8)) (fun e=>(ud J).apart e.symm)
 obtain⟨a9,aw,ac,ab,ag,r⟩:=zhs (X:=(setBlock U.drew tb o).drew) ad (ud am) (ud HT) 0
 have HP:=ze q
 have HK:=ze hk
 have a7:=ze ac
 have ao:=ze ag
 have a6:=ze ab
 have ak:=ze r
 have aq:=ze n
 clear t0 t1 t2 t3 tf hU v Q a2 n hm hk q a1 ab r ac ag ad
 go_region
 go_wp2_with fail
 generalize setBlock U.drew tb o=M at*
 clear F u9 ay az aA aB aG aH aI aJ
 go_region
 go_wp2_with fail
 go_end0
 have hP:=ud HP
 have r:=ud ak
 have ax:zk (fun k=>k=tb\/k=qb) w M:=(zk.of_below (f:=fun k=>k=tb\/k=qb) (ud aq).drew).trans (ud HK) (fun _ _ e=> .inl e)
 refine⟨rfl,⟨r.heap hP.head (fun e=>hP.qb_ne e.symm),?_,⟨a9,cl,ud a7,ud a6⟩,hP.apart⟩,?_,a9,ud a7,ud a6,ud ao⟩
 ·have:=(hP.tg.later (w':=M.drew) (D _ _).drew).kept r (fun e=>hP.apart e)
  unfold Tsk.failed
  rw[ud an]
  exact this
 ·exact(ax.drew).trans r (fun _ _ e=> .inr e)
theorem zjh{X:T}{tb:Nat}{TL:List (Jk×Tsk)}(h:xh xO X tb TL){k:Jk}(j:k.wf)(e:TypeId):
  ∃o,(Builtin.delete_ #[154,147] e #[.map (O tb),.agg #[I K k.kd,I K k.s.t,I K k.s.se,I K k.s.we]]).run prog X=.ok (.tuple #[]) (setBlock X tb o)/\xh xO (setBlock X tb o) tb (xt TL k)/\zk (fun k=>k=tb) X (setBlock X tb o):=by
 obtain⟨l,b,c,i⟩:=h
 obtain⟨a,f,g,m⟩:=QF yL c i j e
 exact⟨.map a b,f,⟨a,b,xN (zd c) _,g⟩,qd _⟩
theorem zbG{w:T}{b:Nat}{c:Cf}{tv:d}{ep num:Int}{tb qb:Nat}{TL:List (Jk×Tsk)}{QL:List (Tok×Lse)}(h:zM w b c tv ep num tb qb TL QL)(t:Tok)(x:t.wf){g:Lse}(F:zV QL t=O g)(p:(⟨g.kd,g.s⟩:Jk).wf):
  Calls prog 43 #[.pointer (O ⟨b,0,E⟩),.agg #[I K t.ep,I K t.num]] w fun e w'=>e=.returned (.tuple #[])/\zM w' b c tv ep num tb qb (xt TL ⟨g.kd,g.s⟩) (xt QL t)/\zk (fun k=>k=tb\/k=qb) w w':=by
 have a0:=h.lt
 have L:=zo w (.cells #[I K t.ep,I K t.num] 49)
 have N:=zF w (.cells #[I K t.ep,I K t.num] 49)
 have a:C w.1.size w (w.alloc (.cells #[I K t.ep,I K t.num] 49)):=(D _ _).alloc (S _) _
 obtain⟨k0,k1,-⟩:=zc L
 have x9:=(h.later a).cell9
 have J:=(h.later a).cell10
 have W:=Vo ((h.later a).leases) x F
 have Y:=Vo ((h.later a.drew).leases) x F
 have V:=zeQ g
 have a1:w.1.size<(w.alloc (.cells #[I K t.ep,I K t.num] 49)).1.size:=by rw[N];omega
 have P:b<(w.alloc (.cells #[I K t.ep,I K t.num] 49)).1.size:=by rw[N];omega
 obtain⟨o,j,Q,v⟩:=zjh (X:=(w.alloc (.cells #[I K t.ep,I K t.num] 49)).drew) (k:=⟨g.kd,g.s⟩) ((h.later a.drew).tg) p 0
 dsimp only at j
 have l:=(h.later a.drew).putTasks Q v
 have r:=v.heap (k:=w.1.size) (show(w.alloc (.cells #[I K t.ep,I K t.num] 49)).drew.1[w.1.size]?=_ from L) (fun e=>by have:=h.foot_lt tb (.inr (.inl rfl));omega)
 have HH:=ze h
 have y:=ze a
 have U:=ze x
 have u:=ze l
 have R:=ze v
 have m:=ze r
 clear h L N a p F x Q l v r
 go_enter func43,ntmps43
 go_wp2_with fail
 generalize(w.alloc (.cells #[I K t.ep,I K t.num] 49))=X at*
 go_region
 go_wp2_with fail
 generalize setBlock X.drew tb o=M at*
 have a3:=(ud u).cell10
 obtain⟨a4,a5,-⟩:=zc (ud m)
 have a2:=zd (ud m)
 have Z:=(ud u).lt
 obtain⟨o3,B,q,i⟩:=zjg (X:=M.drew) (ud u).leases (ud U) 0
 have A:=ze q
 have z:=ze i
 clear W Y V k0 k1 x9 J j q i
 go_region
 go_wp2_with fail
 go_end0
 have n:=ud u
 have i:=ud z
 have H:zk (fun k=>k=tb\/k=qb) w M:=(zk.of_below (f:=fun k=>k=tb\/k=qb) (ud y).drew).trans (ud R) (fun _ _ e=> .inl e)
 refine⟨rfl,⟨i.heap n.head (fun e=>n.qb_ne e.symm),(n.tg.later (w':=M.drew) (D _ _).drew).kept i (fun e=>n.apart e),ud A,n.apart⟩,(H.drew).trans i (fun _ _ e=> .inr e)⟩
def zkL(o:Option Tsk):d:=match o with
 |none=> .nilIface
 |some x=> .iface x.jt (.agg #[I K x.s.t,I K x.s.se,I K x.s.we])
theorem zjl(o:Option Tsk)(W:T):(Instr.field 162 (YQ o) 0).run prog W=.ok (zkL o) W:=by
 cases o with
 |none=>kernel_rfl
 |some x=>kernel_rfl
theorem kr{w:T}{B g size n cap:Nat}{e:TypeId}{xs:List d}(h:w.ownsRow B e size (.slice (O ⟨g,0,E⟩) n cap) n xs){i:Nat}(s:i<n*size)(u:d):(w.setCell ⟨g,i,E⟩ u).ownsRow B e size (.slice (O ⟨g,0,E⟩) n cap) n (xs.set i u):=by
 refine⟨by simpa using h.1,?_⟩
 rcases h.2 with⟨k,_⟩|⟨r,j,c,hv,l,b,hn,m,q,o⟩
 ·cases k
 ·injection hv with a p f
  injection a with a
  injection a with a
  subst a f
  refine .inr ⟨g,cap,c.setIfInBounds i u,rfl,l,xm b u,hn,m,by simpa using q,?_⟩
  rw[Array.toList_setIfInBounds,List.take_set,o]
theorem qR{α:Type}{f:α->List d}{k:Nat}(c:∀a,(f a).length=k){a a':α}{j:Nat}{v:d}(e:j<k)(hv:(f a).set j v=f a'):∀(l:List α) (i:Nat),l[i]?=O a->(l.flatMap f).set (i*k+j) v=(l.set i a').flatMap f
 |[],i,h=>by simp at h
 |b::l,0,h=>by
  have g:b=a:=by simpa using h
  subst g
  simp only[List.flatMap_cons,List.set_cons_zero,Nat.zero_mul,Nat.zero_add]
  rw[List.set_append_left _ _ (by rw[c];exact e),hv]
 |b::l,i+1,h=>by
  have m:=qR c e hv l i (by simpa using h)
  simp only[List.flatMap_cons,List.set_cons_succ]
  rw[List.set_append_right _ _ (by rw[c,Nat.add_mul];omega),c,<-m]
  congr 2
  rw[Nat.add_mul];omega
theorem zJ.putTask{B:Nat}{w:T}{p g cap:Nat}{m:RM}{tv nv pv gv:d}(h:zJ B w p m tv nv pv gv (.slice (O ⟨g,0,E⟩) m.tg.length cap)){i j:Nat}{x x':Tk}{v:d}(n:m.tg[i]?=O x)(q:j<11)(hv:(tkV x).set j v=tkV x'):
  zJ B (w.setCell ⟨g,i*11+j,E⟩ v) p {m with tg:=m.tg.set i x'} tv nv pv gv (.slice (O ⟨g,0,E⟩) (m.tg.set i x').length cap)/\zk (fun k=>k=g) w (w.setCell ⟨g,i*11+j,E⟩ v):=by
 have o:i<m.tg.length:=(List.getElem?_eq_some_iff.1 n).1
 have c:zk (fun k=>k=g) w (w.setCell ⟨g,i*11+j,E⟩ v):=zn (zk.refl _ _) rfl
 have l:=kr h.krow (i:=i*11+j) (by omega) v
 rw[qR qG q hv _ _ n]at l
 have f:(m.tg.set i x').length=m.tg.length:=List.length_set ..
 refine⟨⟨?_,h.base,zi h.trow c (fun k a b=>xK h.trow h.krow (by decide) k a (by rw[b];rfl)),zi h.nrow c (fun k a b=>xK h.nrow h.krow (by decide) k a (by rw[b];rfl)),zi h.prow c (fun k a b=>xK h.prow h.krow (by decide) k a (by rw[b];rfl)),zi h.grow c (fun k a b=>xK h.grow h.krow (by decide) k a (by rw[b];rfl)),?_⟩,c⟩
 ·rw[f];exact c.heap h.head (fun e=>zt h.head h.krow (by decide) g rfl e.symm)
 ·rw[f];exact l
def Tk.fail(now:Int)(x:Tk):Tk:={x with tc:=x.tc+1,rest:=now+jv (x.tc+1).toNat,ep:=0,num:=0,slot:= -1,till:=0}
theorem zJ.putTask'{B:Nat}{w:T}{p g cap:Nat}{m:RM}{tv nv pv gv:d}{l:List Tk}(h:zJ B w p {m with tg:=l} tv nv pv gv (.slice (O ⟨g,0,E⟩) l.length cap)){i:Nat}{x:Tk}(b:l[i]?=O x)(j:Nat)(x':Tk)(v:d)(f:j<11)(hv:(tkV x).set j v=tkV x'):
  zJ B (w.setCell ⟨g,i*11+j,E⟩ v) p {m with tg:=l.set i x'} tv nv pv gv (.slice (O ⟨g,0,E⟩) (l.set i x').length cap)/\(l.set i x')[i]?=O x'/\zk (fun k=>k=g) w (w.setCell ⟨g,i*11+j,E⟩ v):=by
 have a:i<l.length:=(List.getElem?_eq_some_iff.1 b).1
 obtain⟨c,e⟩:=zJ.putTask (m:={m with tg:=l}) h b f hv
 exact⟨c,by rw[List.getElem?_set_self a],e⟩
theorem Jc{B:Nat}{w:T}{p g cap:Nat}{m:RM}{tv nv pv gv:d}{l:List Tk}(h:zJ B w p {m with tg:=l} tv nv pv gv (.slice (O ⟨g,0,E⟩) l.length cap)){i:Nat}{x:Tk}(A:l[i]?=O x)(r:Int):
  zJ B (((((w.setCell ⟨g,i*11+6,E⟩ (I K r)).setCell ⟨g,i*11+7,E⟩ (I K 0)).setCell ⟨g,i*11+7+1,E⟩ (I K 0)).setCell ⟨g,i*11+9,E⟩ (I K (-1))).setCell ⟨g,i*11+10,E⟩ (I K 0)) p {m with tg:=l.set i {x with rest:=r,ep:=0,num:=0,slot:= -1,till:=0}} tv nv pv gv (.slice (O ⟨g,0,E⟩) l.length cap)/\
  zk (fun k=>k=g) w (((((w.setCell ⟨g,i*11+6,E⟩ (I K r)).setCell ⟨g,i*11+7,E⟩ (I K 0)).setCell ⟨g,i*11+7+1,E⟩ (I K 0)).setCell ⟨g,i*11+9,E⟩ (I K (-1))).setCell ⟨g,i*11+10,E⟩ (I K 0)):=by
 obtain⟨b,n,t⟩:=h.putTask' A 6 {x with rest:=r} (I K r) (by omega) rfl
 obtain⟨c,o,u⟩:=b.putTask' n 7 {x with rest:=r,ep:=0} (I K 0) (by omega) rfl
 obtain⟨f,q,v⟩:=c.putTask' o 8 {x with rest:=r,ep:=0,num:=0} (I K 0) (by omega) rfl
 obtain⟨j,s,y⟩:=f.putTask' q 9 {x with rest:=r,ep:=0,num:=0,slot:= -1} (I K (-1)) (by omega) rfl
 obtain⟨a,F,z⟩:=j.putTask' s 10 {x with rest:=r,ep:=0,num:=0,slot:= -1,till:=0} (I K 0) (by omega) rfl
 refine⟨?_,(((t.trans u (fun _ _ e=>e)).trans v (fun _ _ e=>e)).trans y (fun _ _ e=>e)).trans z (fun _ _ e=>e)⟩
 simp only[List.set_set,List.length_set]at a
 exact a
theorem fend{B:Nat}{w W Z:T}{p g cap q:Nat}{m:RM}{tv nv pv gv:d}{i:Nat}{x:Tk}(c:x.tc+1=q)(b:zk (fun k=>k=g) w W)(h:zJ B Z p {m with tg:=(m.tg.set i {x with tc:=(q:Int)}).set i {x with tc:=(q:Int),rest:=m.now+(jv q:Nat),ep:=0,num:=0,slot:= -1,till:=0}} tv nv pv gv (.slice (O ⟨g,0,E⟩) (m.tg.set i {x with tc:=(q:Int)}).length cap)/\zk (fun k=>k=g) W Z):
  zJ B Z p {m with tg:=m.tg.set i (x.fail m.now)} tv nv pv gv (.slice (O ⟨g,0,E⟩) m.tg.length cap)/\zk (fun k=>k=g) w Z:=by
 refine⟨?_,b.trans h.2 (fun _ _ e=>e)⟩
 have a:=h.1
 simp only[List.set_set,List.length_set]at a
 have e:x.fail m.now={x with tc:=(q:Int),rest:=m.now+(jv q:Nat),ep:=0,num:=0,slot:= -1,till:=0}:=by
  unfold Tk.fail
  rw[c,Int.toNat_natCast]
 rw[e];exact a
theorem KI{B:Nat}{w:T}{p g cap:Nat}{m:RM}{tv nv pv gv:d}(h:zJ B w p m tv nv pv gv (.slice (O ⟨g,0,E⟩) m.tg.length cap))(a4:m.tg.length<=1000000000){i:Nat}{x:Tk}(Q:m.tg[i]?=O x)(ht:0<=x.tc/\x.tc<=1000000000)(s:0<=m.now/\m.now<=100000):
  Calls prog 200 #[.pointer (O ⟨p,0,E⟩),I K i] w fun e w'=>e=.returned (.tuple #[])/\zJ B w' p {m with tg:=m.tg.set i (x.fail m.now)} tv nv pv gv (.slice (O ⟨g,0,E⟩) m.tg.length cap)/\zk (fun k=>k=g) w w':=by
 have M:i<m.tg.length:=(List.getElem?_eq_some_iff.1 Q).1
 have a1:(i:Int)<m.tg.length:=by omega
 obtain⟨t0,t1⟩:=ht
 obtain⟨w1,w2⟩:=s
 obtain⟨q,hq⟩:∃q:Nat,x.tc+1=q:=⟨(x.tc+1).toNat,by omega⟩
 obtain⟨V,-,-,-,l,-,-⟩:=h.rest
 have hp:=h.lt
 obtain⟨g',o,hv,J,a3,-,-,-,-,-,y5,-,-,-,-,-⟩:=Zd h.krow Q
 injection hv with a P c
 injection a with a
 injection a with a
 subst a c
 have rf:∀j,w.frozen? ⟨g,j,E⟩=false:=fun j=>by
  obtain⟨A,L⟩:=zO h.krow (k:=g) rfl
  exact zD L j
 have a7:¬p=g:=fun e=>zt h.head h.krow (by decide) g rfl e.symm
 have H:=ze h
 have X:=ze (h.putTask (j:=5) (v:=I K q) (x':={x with tc:=q}) Q (by omega) rfl)
 have f:(m.tg.set i {x with tc:=(q:Int)})[i]?=O {x with tc:=(q:Int)}:=by rw[List.getElem?_set_self M]
 have a8:(q:Int)<=1000000001:=by omega
 have Z:=ze hq
 clear h J
 go_enter func200,ntmps200
 go_wp2_with fail
 generalize(w.setCell ⟨g,i*11+5,E⟩ (I K q))=W at*
 obtain⟨b,hK⟩:=ud X
 obtain⟨V,-,-,-,l,-,-⟩:=b.rest
 have a6:=b.lt
 have N:(m.tg.set i {x with tc:=(q:Int)}).length=m.tg.length:=List.length_set ..
 clear V l y5 rf
 obtain⟨V,-,-,-,l,-,-⟩:=b.rest
 obtain⟨g',o,hv,J,a0,-,-,-,-,-,y5,y6,y7,y8,y9,a9⟩:=Zd b.krow f
 injection hv with a P c
 injection a with a
 injection a with a
 subst a c
 have rf:∀j,W.frozen? ⟨g,j,E⟩=false:=fun j=>by
  obtain⟨A,L⟩:=zO b.krow (k:=g) rfl
  exact zD L j
 have HR:=ze b
 have Y:=ze hK
 clear b hK X J H N
 go_loopw [5,6] (fun x y wr=>∃(k:Nat),k<=5/\k<=q/\x=I K ((2:Int)^k)/\y=I K k/\wr=W) (fun _ y _=>5-(intOf y).toNat)
 case atStart=>exact⟨0,by omega,Nat.zero_le _,by simp,rfl,rfl⟩
 case round=>
  obtain⟨k,r,a5,rfl,rfl,rfl⟩:=hrel
  obtain⟨R,U⟩:=ziI r
  by_cases h1:k<q
  ·have a2:(k:Int)<q:=by omega
   by_cases h2:k<5
   ·have F:(2:Int)^k<32:=(ziJ r).2 h2
    have z:Hid (2*(2:Int)^k=2^(k+1)):=by show 2*(2:Int)^k=2^(k+1);rw[Int.pow_succ];omega
    obtain⟨v,hv⟩:∃v,(2:Int)^k=v:=⟨_,rfl⟩
    rw[hv]at z F R U ⊢
    clear hv
    go_wp2_with fail
    go_roundw
    case rel=>exact⟨k+1,by omega,by omega,by rw[<-ud z],by go_num,trivial⟩
    case measure=>simp[intOf];omega
   ·obtain rfl:k=5:=by omega
    have n:((2:Int)^5)=(jv q:Nat):=by unfold jv;rw[show min q 5=5 by omega];rfl
    have u:=ze (Jc (ud HR) f (m.now+(jv q:Nat)))
    obtain⟨v,hv⟩:∃v,(2:Int)^5=v:=⟨_,rfl⟩
    rw[hv]at n ⊢
    rw[<-n]at u
    have t:v=32:=by rw[<-hv];rfl
    subst t
    have z:=ze n
    clear hv n R U
    go_wp2_with fail
    go_end0
    refine⟨rfl,fend (ud Z) (ud Y) ?_⟩
    rw[<-ud z]
    exact ud u
  ·obtain rfl:k=q:=by omega
   have n:((2:Int)^k)=(jv k:Nat):=by unfold jv;rw[show min k 5=k by omega];simp
   rw[n]at R U ⊢
   have hd:decide ((k:Int)<k)=false:=by simp
   have u:=ze (Jc (ud HR) f (m.now+(jv k:Nat)))
   go_wp2_with fail
   go_end0
   exact⟨rfl,fend (ud Z) (ud Y) (ud u)⟩
def qV(o:Option Lse):Lse:=o.getD ⟨0,⟨0,0,0⟩,0,0⟩
theorem zfq{X:T}{qb:Nat}{QL:List (Tok×Lse)}(h:xh xz X qb QL){t:Tok}(c:t.wf):(Instr.lookup 153 (.map (O qb)) (.agg #[I K t.ep,I K t.num]) true).run prog X=.ok (.tuple #[.agg #[I K (qV (zV QL t)).kd,I K (qV (zV QL t)).s.t,I K (qV (zV QL t)).s.se,I K (qV (zV QL t)).s.we,I K (qV (zV QL t)).slot,I K (qV (zV QL t)).til],.bool (zV QL t).isSome]) X:=by
 have a:=km qZ true h c
 cases b:zV QL t with
 |none=>rw[b]at a;exact a
 |some g=>rw[b]at a;exact a
theorem zfr{X:T}{tb:Nat}{TL:List (Jk×Tsk)}(h:xh xO X tb TL){k:Jk}(c:k.wf):(Instr.lookup 154 (.map (O tb)) (.agg #[I K k.kd,I K k.s.t,I K k.s.se,I K k.s.we]) false).run prog X=.ok (YQ (zV TL k)) X:=by
 have a:=km yL false h c
 cases b:zV TL k with
 |none=>rw[b]at a;exact a
 |some g=>rw[b]at a;exact a
theorem kX{w:T}{b:Nat}{c:Cf}{tv:d}{ep num:Int}{tb qb:Nat}{TL:List (Jk×Tsk)}{QL:List (Tok×Lse)}(h:zM w b c tv ep num tb qb TL QL)(t:Tok)(L:t.wf)(u:(⟨(qV (zV QL t)).kd,(qV (zV QL t)).s⟩:Jk).wf):
  Calls prog 41 #[.pointer (O ⟨b,0,E⟩),.agg #[I K t.ep,I K t.num]] w fun e w'=>e=.returned (.tuple #[zkL (zV TL ⟨(qV (zV QL t)).kd,(qV (zV QL t)).s⟩),.bool (zV QL t).isSome])/\C w.1.size w w':=by
 have U:=h.lt
 have M:=zo w (.cells #[I K t.ep,I K t.num] 49)
 have B:=zF w (.cells #[I K t.ep,I K t.num] 49)
 have a:C w.1.size w (w.alloc (.cells #[I K t.ep,I K t.num] 49)):=(D _ _).alloc (S _) _
 obtain⟨Z,k1,-⟩:=zc M
 have A:=(h.later a).cell10
 have j:=fun X q=>zfq (h.leases.later (w':=X) q) L
 have f:=fun X q=>zfr (h.tg.later (w':=X) q) u
 dsimp only at f
 obtain⟨g,y⟩:∃g,qV (zV QL t)=g:=⟨_,rfl⟩
 obtain⟨ok,n⟩:∃ok,(zV QL t).isSome=ok:=⟨_,rfl⟩
 rw[y]at f ⊢
 rw[n]
 rw[y,n]at j
 obtain⟨z,v⟩:∃z,zV TL ⟨g.kd,g.s⟩=z:=⟨_,rfl⟩
 rw[v]at f ⊢
 have F:=j _ a
 have H:=j _ a.drew
 have P:=fun o=>j _ (a.alloc a.size o)
 have Q:=fun o=>j _ (a.alloc a.size o).drew
 have R:=fun o=>j _ (a.drew.alloc a.drew.size o)
 have V:w.1.size<(w.alloc (.cells #[I K t.ep,I K t.num] 49)).1.size:=by rw[B];omega
 have r:b<(w.alloc (.cells #[I K t.ep,I K t.num] 49)).1.size:=by rw[B];omega
 have N:=ze h
 have p:=ze a
 have k:=fun X q=>ze (f X q)
 clear h M B a j L u y n v f
 go_enter func41,ntmps41
 go_wp2_with fail
 generalize(w.alloc (.cells #[I K t.ep,I K t.num] 49))=X at*
 go_region
 have l:C X.1.size X (X.alloc (.cells #[I K g.kd,I K g.s.t,I K g.s.se,I K g.s.we,I K g.slot,I K g.til] 149)).drew:=((D _ _).alloc (S _) _).drew
 have m:(X.alloc (.cells #[I K g.kd,I K g.s.t,I K g.s.se,I K g.s.we,I K g.slot,I K g.til] 149)).drew.1[X.1.size]?=O (.cells #[I K g.kd,I K g.s.t,I K g.s.se,I K g.s.we,I K g.slot,I K g.til] 149 (0,0)):=zo _ _
 generalize(X.alloc (.cells #[I K g.kd,I K g.s.t,I K g.s.se,I K g.s.we,I K g.slot,I K g.til] 149)).drew=Y at*
 have i:C w.1.size w Y:=(ud p).trans (l.mono (ud p).size)
 have y9:=((ud N).later i).cell9
 obtain⟨a0,a1,a2,a3,-⟩:=zc m
 have W:=zd m
 have J:b<Y.1.size:=G r l.size
 clear F H P Q R Z k1 A
 have F:=ud (k Y i)
 have H:=ud (k Y.drew i.drew)
 have fl:=zjl z
 have x:=ze i
 clear m i l k
 go_wp2_with fail
 go_region
 go_wp2_with fail
 go_ret2
 exact⟨rfl,(ud x).drew⟩
inductive zbz (now:Int) (TL:List (Jk×Tsk)) (QL:List (Tok×Lse)):List (Jk×Tsk)->List (Tok×Lse)->Prop
 |nil:zbz now TL QL TL QL
 |step {T1:List (Jk×Tsk)} {Q1:List (Tok×Lse)} {t:Tok} {g:Lse} {x:Tsk}:zbz now TL QL T1 Q1->zV Q1 t=O g->g.til<=now->zV T1 ⟨g.kd,g.s⟩=O x->zbz now TL QL (qt T1 ⟨g.kd,g.s⟩ (x.failed now)) (xt Q1 t)
structure ziP(B:Int)(n:Nat)(TL:List (Jk×Tsk))(QL:List (Tok×Lse)):Prop where
 job:∀p,p∈QL->∃x,zV TL ⟨p.2.kd,p.2.s⟩=O x
 tc:∀p,p∈TL->0<=p.2.tc/\p.2.tc+QL.length<=B
 wfk:∀p,p∈TL->p.1.wf
 len:TL.length<=n
 tn:(zv TL).Nodup
 qn:(zv QL).Nodup
theorem zjx{α β:Type}[DecidableEq α]{L:List (α×β)}{a:α}{v:β}(h:(a,v)∈L):(xt L a).length<L.length:=by
 unfold xt
 refine Nat.lt_of_le_of_ne (List.length_filter_le _ _) (fun e=>?_)
 have:=List.length_filter_eq_length_iff.1 e (a,v) h
 simp at this
theorem ziP.step{B:Int}{n:Nat}{f:List (Jk×Tsk)}{Q1:List (Tok×Lse)}(h:ziP B n f Q1)(now:Int){t:Tok}{g:Lse}{x:Tsk}(j:zV Q1 t=O g)(k:zV f ⟨g.kd,g.s⟩=O x):ziP B n (qt f ⟨g.kd,g.s⟩ (x.failed now)) (xt Q1 t):=by
 have i:=zK j
 have e:=zK k
 have m:=zjx i
 refine⟨fun p c=>?_,fun p c=>?_,fun p c=>?_,?_,qC h.tn,qr h.qn⟩
 ·obtain⟨y,l⟩:=h.job p (zZ.1 c).1
  rw[ja h.tn]
  split
  ·exact⟨_,rfl⟩
  ·exact⟨y,l⟩
 ·rcases yD c with rfl|⟨c,_⟩
  ·obtain⟨a,b⟩:=h.tc _ e
   dsimp only[Tsk.failed]at a b ⊢
   omega
  ·obtain⟨a,b⟩:=h.tc _ c
   omega
 ·rcases yD c with rfl|⟨c,_⟩
  ·exact h.wfk (_,x) e
  ·exact h.wfk _ c
 ·rw[kY,if_pos (show(⟨g.kd,g.s⟩:Jk)∈zv f from List.mem_map.2 ⟨(_,x),e,rfl⟩)];exact h.len
theorem zba{g:Array MapEntry}(h:(g.toList.map (·.born)).Nodup){a b:MapEntry}(o:a∈g.toList)(p:b∈g.toList)(e:a.born=b.born):a=b:=by
 obtain⟨i,m,k⟩:=List.getElem_of_mem o
 obtain⟨j,n,f⟩:=List.getElem_of_mem p
 have l:g.toList.Pairwise (fun a b=>a.born≠b.born):=List.pairwise_map.1 h
 rcases Nat.lt_trichotomy i j with c|c|c
 ·have:=List.pairwise_iff_getElem.1 l i j m n c;rw[k,f]at this;exact absurd e this
 ·subst c;rw[k]at f;exact f
 ·have:=List.pairwise_iff_getElem.1 l j i n m c;rw[k,f]at this;exact absurd e.symm this
theorem zeK{b:Array MapEntry}{a:Nat}{L:List (Tok×Lse)}(h:vA xz b a L){p:Tok×Lse}(i:p∈L):∃x∈b.toList,x.key=yd p.1/\x.val=kZ p.2:=by
 have g:(xz.ke p.1,xz.ve p.2)∈b.toList.map (fun e=>(e.key,e.val)):=h.kv▸List.mem_map.2 ⟨p,i,rfl⟩
 obtain⟨x,j,e⟩:=List.mem_map.1 g
 injection e with c f
 exact⟨x,j,c,f⟩
theorem zjw{a b:Lse}(h:kZ a=kZ b):a.til=b.til:=by
 unfold kZ at h
 injection h with h
 simp at h
 exact h.2.2.2.2.2
theorem zcP{w:T}{b:Nat}{c:Cf}{tv:d}{ep num:Int}{tb qb:Nat}{TL:List (Jk×Tsk)}{QL:List (Tok×Lse)}(h:zM w b c tv ep num tb qb TL QL)(now:Int)(am:0<=now/\now<=100000)(hI:ziP 1000000 100000 TL QL):
  Calls prog 76 #[.pointer (O ⟨b,0,E⟩),I K now] w fun e w'=>e=.returned (.tuple #[])/\∃ad QL',zM w' b c tv ep num tb qb ad QL'/\zk (fun k=>k=tb\/k=qb) w w'/\zbz now TL QL ad QL'/\∀p∈QL',now<p.2.til:=by
 obtain⟨R,f,a6,ao⟩:=h.leases
 have aD:=h.lt
 have aw:=h.cell10
 have W:=run_range_map (P:=prog) w 153 _ _ qb R f underlying153 a6
 have HH:=ze h
 have av:=ze ao
 have a0:=ze a6
 clear h ao
 go_enter func76,ntmps76
 go_wp2_with fail
 go_loopw [4,5] (fun _ _ wr=>∃(l:Array Nat) (c0:Nat) (F:Array MapEntry) (T1:List (Jk×Tsk)) (Q1:List (Tok×Lse)),wr.1[w.1.size]?=O (.mapIter (O qb) f l c0)/\f<=c0/\wr.1[qb]?=O (.map F f)/\vA xz F f Q1/\(∀e∈F.toList,e∈R.toList)/\(∀e∈F.toList,e.born∈l.toList->∀g,e.val=kZ g->now<g.til)/\zM wr b c tv ep num tb qb T1 Q1/\zk (fun k=>k=tb\/k=qb) w wr/\zbz now TL QL T1 Q1/\ziP 1000000 100000 T1 Q1)
  (fun _ _ wr=>Zj R w.1.size wr)
 case atStart=>
  have a2:C w.1.size w (w.alloc (.mapIter (O qb) f #[] f)):=(D _ _).alloc (S _) _
  exact⟨#[],f,R,TL,QL,zo _ _,S _,(a2.block _ (zd (ud a0))).trans (ud a0),ud av,fun _ h=>h,by simp,(ud HH).later a2,zk.of_below a2,.nil,hI⟩
 case round=>
  obtain⟨l,c0,F,T1,Q1,U,az,a7,j,r,o,hB,hK,Q,m⟩:=hrel
  have aE:=zd U
  clear W aw a6
  rcases run_next_at (P:=prog) wr 0 w.1.size qb f c0 l F f U a7 j.born az with⟨hz,B⟩|⟨e,a3,w1,Y,B⟩
  ·have HP:=ze (And.intro j (And.intro o (And.intro hB (And.intro hK (And.intro Q hz)))))
   clear hz j o hB hK Q m hI r
   go_wp2_with fail
   go_end0
   obtain⟨j,o,hB,hK,Q,hz⟩:=ud HP
   refine⟨rfl,T1,Q1,hB,hK,Q,fun p hp=>?_⟩
   obtain⟨x,Z,ek,ev⟩:∃x∈F.toList,x.key=yd p.1/\x.val=kZ p.2:=zeK j hp
   refine o x Z ?_ p.2 ev
   by_cases u:x.born∈l.toList
   ·exact u
   ·have:x∈(leftOf F l).toList:=xC.2 ⟨Z,u⟩
    rw[Array.eq_empty_of_size_eq_zero hz]at this
    simp at this
  ·have a9:=ze a3
   obtain⟨n,aB⟩:=xC.1 a3
   have ap:w1.1[w.1.size]?=O (.mapIter (O qb) f l c0):=by rcases Y with rfl|rfl<;>exact U
   have an:w1.1[qb]?=O (.map F f):=by rcases Y with rfl|rfl<;>exact a7
   have al:qb≠w.1.size:=by have:=zd (ud a0);omega
   obtain⟨X,hX⟩:∃X,setBlock w1 w.1.size (.mapIter (O qb) f (l.push e.born) f)=X:=⟨_,rfl⟩
   have v:X.1[w.1.size]?=O (.mapIter (O qb) f (l.push e.born) f):=by rw[<-hX];exact xN (zd ap) _
   have q:X.1[qb]?=O (.map F f):=by rw[<-hX,xw al];exact an
   have a5:zk (fun k=>k=w.1.size) wr X:=by
    rw[<-hX];rcases Y with rfl|rfl
    ·exact qd _
    ·exact(zk.refl (fun k=>k=w.1.size) wr).drew.trans (qd _) (fun _ _ h=>h)
   have A:=hB.kept a5 (fun k hk e=>by have:=(ud HH).foot_lt k hk;omega)
   have H:zk (fun k=>k=tb\/k=qb) w X:=hK.trans a5 (fun i hi e=>by omega)
   rw[hX]at B
   have aj:=run_entry_at (P:=prog) X w.1.size qb f l F f e v q n j.once
   obtain⟨z,hk,hv⟩:=XY qZ j n
   obtain⟨⟨t,y⟩,au⟩:∃y,vK xz Q1 e=y:=⟨_,rfl⟩
   rw[au]at z hk hv
   have ab:=ze (And.intro z (And.intro hk hv))
   have L:e.key=yd t:=hk
   have N:e.val=kZ y:=hv
   unfold yd at L
   unfold kZ at N
   rw[L,N]at B aj
   have af:=zd v
   have aF:=A.lt
   have HP:=ze (And.intro j (And.intro o (And.intro A (And.intro H (And.intro Q (And.intro m (And.intro r (And.intro U (And.intro v (And.intro q n))))))))))
   have a4:zV Q1 t=O y:=xu j.nodup z
   have aa:=ze a4
   obtain⟨x,Z⟩:=m.job _ z
   have ac:=ze Z
   have a8:=m.tc _ (zK Z)
   dsimp only at Z a8
   have HF:∀V,C X.1.size X V->Hid (Calls prog 45 #[.pointer (O ⟨b,0,E⟩),.agg #[I K t.ep,I K t.num],I K now] V fun e w'=>e=.returned (.tuple #[])/\zM w' b c tv ep num tb qb (qt T1 ⟨y.kd,y.s⟩ (x.failed now)) (xt Q1 t)/\zk (fun k=>k=tb\/k=qb) V w'/\∃a1,w'.1[qb]?=O (.map a1 f)/\vA xz a1 f (xt Q1 t)/\∀e,e∈a1.toList↔e∈F.toList/\e.key≠yd t):=fun V J=>
    zbL (A.later J) t (j.wf _ z) a4 (m.wfk _ (zK Z)) Z now am ⟨a8.1,by omega⟩ m.len ((J.block _ (zd q)).trans q) j
   clear j o hB hK Q m hI r U v q a5 A H ap an hX Y hk hv z au a3 n aB L N a7 a4 Z a8
   have J:C X.1.size X ((X.alloc (.cells #[I K t.ep,I K t.num] 49)).alloc (.cells #[I K y.kd,I K y.s.t,I K y.s.se,I K y.s.we,I K y.slot,I K y.til] 149)):=((D _ _).alloc (S _) _).alloc ((D _ _).alloc (S _) _).size _
   have HV:=ze J
   clear J
   by_cases ar:y.til<=now
   ·go_wp2_with(first|(go_at_call 45;refine(ud (HF _ (ud HV))).mono ?_;rintro e3 W3 ⟨rfl,h3⟩;have H3:=ze h3;clear h3))
    obtain⟨j,o,A,H,Q,m,r,U,v,q,n⟩:=ud HP
    obtain⟨ay,ae,ax,aC,aA,aq⟩:=ud H3
    obtain⟨z,ai,ak⟩:=ud ab
    have J:=ud HV
    have M:=ae.heap ((J.block _ af).trans v) (fun e=>by
     rcases e with e|e
     ·have:=(ud HH).foot_lt tb (.inr (.inl rfl));omega
     ·exact al e.symm)
    refine⟨⟨_,_,ax,_,_,M,S _,aC,aA,fun a ha=>r a ((aq a).1 ha).1,fun a ha u g hg=>?_,ay,(qS H J).trans ae (fun _ _ h=>h),.step Q (ud aa) ar (ud ac),m.step now (ud aa) (ud ac)⟩,?_⟩
    ·obtain⟨ag,ah⟩:=(aq a).1 ha
     rw[Array.toList_push,List.mem_append]at u
     rcases u with u|u
     ·exact o a ag u g hg
     ·rw[List.mem_singleton]at u
      rw[zba j.once ag n u]at ah
      exact absurd ai ah
    ·rw[xy M,xy U];exact ya (xC.2 ⟨r e n,(xC.1 (ud a9)).2⟩)
   ·go_wp2_with fail
    obtain⟨j,o,A,H,Q,m,r,U,v,q,n⟩:=ud HP
    obtain⟨z,ai,ak⟩:=ud ab
    have J:=ud HV
    have M:=(J.block _ af).trans v
    refine⟨⟨_,_,F,_,_,M,S _,(J.block _ (zd q)).trans q,j,r,fun a ha u g hg=>?_,A.later J,qS H J,Q,m⟩,?_⟩
    ·rw[Array.toList_push,List.mem_append]at u
     rcases u with u|u
     ·exact o a ha u g hg
     ·rw[List.mem_singleton]at u
      rw[zba j.once ha n u]at hg
      have:=zjw (hg.symm.trans ak)
      dsimp only at this
      omega
    ·rw[xy M,xy U];exact ya (xC.2 ⟨r e n,(xC.1 (ud a9)).2⟩)
end Go.Proofs.YtpbimdkclnekeaaGreat
