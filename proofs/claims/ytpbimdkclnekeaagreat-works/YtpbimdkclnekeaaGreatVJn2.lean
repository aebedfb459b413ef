import Derived.Test.YtpbimdkclnekeaaGreatVZet3
import Derived.Deep.RegionHeld3
open Go.Value renaming int → I
open Go.IntKind renaming i64 → J
open Option renaming none → O
open Go.IntKind renaming i32 → E
open Option renaming some → U
open Nat renaming lt_of_lt_of_le → S
open Go.RowKit renaming Below → D
open Nat renaming le_refl → G
open Go renaming World → T
open Go.RowKit.Below renaming refl → M
open Nat renaming le_of_lt → H
set_option linter.unusedVariables false
set_option maxRecDepth 8000
set_option maxHeartbeats 8000000
open Go.Proofs.Tryz
namespace Go.Proofs.YtpbimdkclnekeaaGreat
open Go.ChangeMaps (setBlock)
open Go.RowKit Go.Maps Go.Shelf
def xQ(zs:List Cl):Cl:=⟨vn (zs.map (·.cnt)),vn (zs.map (·.sum)),((yy YH zs).getD qP).mn,((yy YI zs).getD qP).mx⟩
section
variable {b cap:Nat} {ad:Option Addr} {zs:List Cl} {Y:T}
theorem Qw(a:zs≠[]->ad=U ⟨b,0,O⟩)(e:zs.length<=1000)(c:b<Y.1.size)(d:CAt Y b zs):SeqStopsK Fence.wide 6 prog 218 #[.pointer (U ⟨Y.1.size,0,O⟩)] (fun x:Cl=>#[.agg #[I J x.cnt,I J x.sum,I E x.mn,I E x.mx]]) (D (Y.alloc (.cells #[.slice ad zs.length cap] 219)).1.size) (fun xs=>xs=zs) (fun _=>True) zs.length (Y.alloc (.cells #[.slice ad zs.length cap] 219)):=
 Va 6 (by omega) Y.1.size _ b cap ad zs a e (by simp;omega) _ (G _) (by simp) (by rw[zN (zo _ _)];rfl) (d.below ((M _ _).alloc (G _) _) c)
theorem QH{w':T}{o:Obj}(h:D (Y.alloc o).1.size (Y.alloc o) w'):D Y.1.size Y w':=((M _ _).alloc (G _) o).trans (h.mono (by simp))
theorem zio(V:Int)(a:vn (zs.map (·.cnt))=V)(c:zs≠[]->ad=U ⟨b,0,O⟩)(g:zs.length<=1000)(d:b<Y.1.size)(f:CAt Y b zs):Calls prog 186 #[.func (.func 218) #[] #[.pointer (U ⟨Y.1.size,0,O⟩)],.func (.func 187) #[] #[]] (Y.alloc (.cells #[.slice ad zs.length cap] 219)) fun e w'=>e=.returned (I J V)/\D Y.1.size Y w':=by
 refine(zjX _ _ X7 (·.cnt) _ (kC _) (fun x W _=>zff x W) (Qw c g d f)).mono ?_
 rintro e w' ⟨xs,rfl,rfl,h⟩
 exact⟨by rw[a],QH h⟩
theorem ziq(V:Int)(a:vn (zs.map (·.sum))=V)(c:zs≠[]->ad=U ⟨b,0,O⟩)(g:zs.length<=1000)(d:b<Y.1.size)(f:CAt Y b zs):Calls prog 188 #[.func (.func 218) #[] #[.pointer (U ⟨Y.1.size,0,O⟩)],.func (.func 189) #[] #[]] (Y.alloc (.cells #[.slice ad zs.length cap] 219)) fun e w'=>e=.returned (I J V)/\D Y.1.size Y w':=by
 refine(zjY _ _ X7 (·.sum) _ (kC _) (fun x W _=>zfg x W) (Qw c g d f)).mono ?_
 rintro e w' ⟨xs,rfl,rfl,h⟩
 exact⟨by rw[a],QH h⟩
theorem zfp(f:Cl)(s:Bool)(g:(yy YH zs).getD qP=f)(i:(yy YH zs).isSome=s)(a:zs≠[]->ad=U ⟨b,0,O⟩)(j:zs.length<=1000)(c:b<Y.1.size)(d:CAt Y b zs):Calls prog 181 #[.func (.func 218) #[] #[.pointer (U ⟨Y.1.size,0,O⟩)],.func (.func 183) #[] #[]] (Y.alloc (.cells #[.slice ad zs.length cap] 219)) fun e w'=>e=.returned (.tuple #[.agg #[I J f.cnt,I J f.sum,I E f.mn,I E f.mx],.bool s])/\D Y.1.size Y w':=by
 refine(zcQ _ _ X7 _ (kC _) (Qw a j c d)).mono ?_
 rintro e w' ⟨xs,rfl,rfl,h⟩
 exact⟨by rw[g,i];rfl,QH h⟩
theorem Ji(f:Cl)(s:Bool)(g:(yy YI zs).getD qP=f)(i:(yy YI zs).isSome=s)(a:zs≠[]->ad=U ⟨b,0,O⟩)(j:zs.length<=1000)(c:b<Y.1.size)(d:CAt Y b zs):Calls prog 181 #[.func (.func 218) #[] #[.pointer (U ⟨Y.1.size,0,O⟩)],.func (.func 185) #[] #[]] (Y.alloc (.cells #[.slice ad zs.length cap] 219)) fun e w'=>e=.returned (.tuple #[.agg #[I J f.cnt,I J f.sum,I E f.mn,I E f.mx],.bool s])/\D Y.1.size Y w':=by
 refine(zcR _ _ X7 _ (kC _) (Qw a j c d)).mono ?_
 rintro e w' ⟨xs,rfl,rfl,h⟩
 exact⟨by rw[g,i];rfl,QH h⟩
end
theorem Vj(ad:Option Addr)(b cap:Nat)(zs:List Cl)(ha:zs≠[]->ad=U ⟨b,0,O⟩)(hz:zs.length<=1000)(w:T)(u:b<w.1.size)(q:CAt w b zs):
  Calls prog 141 #[.slice ad zs.length cap] w fun e w'=>e=.returned (clV (xQ zs))/\D w.1.size w w':=by
 obtain⟨c,R⟩:∃f,(yy YH zs).getD qP=f:=⟨_,rfl⟩
 obtain⟨s1,ac⟩:∃f,(yy YH zs).isSome=f:=⟨_,rfl⟩
 obtain⟨a,V⟩:∃f,(yy YI zs).getD qP=f:=⟨_,rfl⟩
 obtain⟨s2,ae⟩:∃f,(yy YI zs).isSome=f:=⟨_,rfl⟩
 obtain⟨X,y⟩:∃f,vn (zs.map (·.cnt))=f:=⟨_,rfl⟩
 obtain⟨v2,z⟩:∃f,vn (zs.map (·.sum))=f:=⟨_,rfl⟩
 have hj:clV (xQ zs)=.agg #[I J X,I J v2,I E c.mn,I E a.mx]:=by unfold xQ clV;rw[R,V,y,z]
 rw[hj]
 clear hj
 have aI:=ze y
 have aJ:=ze z
 have N:D w.1.size w (w.alloc (.cells #[I J 0,I J 0,I E 0,I E 0] 114)):=(M _ _).alloc (G _) _
 have a9:=zo w (.cells #[I J 0,I J 0,I E 0,I E 0] 114)
 have ag:=zF w (.cells #[I J 0,I J 0,I E 0,I E 0] 114)
 have L:=fun Y=>ze (zaK ad zs.length cap Y)
 have aw:=fun(Y:T) (u:b<Y.1.size) (q:CAt Y b zs)=>ze (zfp (cap:=cap) (Y:=Y) c s1 R ac ha hz u q)
 have ao:=fun(Y:T) (u:b<Y.1.size) (q:CAt Y b zs)=>ze (Ji (cap:=cap) (Y:=Y) a s2 V ae ha hz u q)
 have ax:=fun(Y:T) (u:b<Y.1.size) (q:CAt Y b zs)=>ze (zio (cap:=cap) (Y:=Y) X y ha hz u q)
 have a0:=fun(Y:T) (u:b<Y.1.size) (q:CAt Y b zs)=>ze (ziq (cap:=cap) (Y:=Y) v2 z ha hz u q)
 clear R ac V ae y z hz ha
 go_enter func141,ntmps141
 go_wp2_with fail
 have P:=q.below N u
 generalize(w.alloc (.cells #[I J 0,I J 0,I E 0,I E 0] 114))=X0 at*
 have a5:b<X0.1.size:=by omega
 have aB:w.1.size<X0.1.size:=by omega
 have aK:=ze ag
 clear ag
 have a1:=L X0
 refine(ud a1).mono ?_
 rintro e x1 ⟨rfl,rfl⟩
 go_wp2_with fail
 have aq:=aw X0 a5 P
 refine(ud aq).mono ?_
 rintro e i ⟨rfl,a3⟩
 have K:=ze a3
 clear a3
 go_wp2_with fail
 have o:=(ud K).alloc (ud K).size (.cells #[I J c.cnt,I J c.sum,I E c.mn,I E c.mx] 114)
 have aa:=zo i (.cells #[I J c.cnt,I J c.sum,I E c.mn,I E c.mx] 114)
 have al:=zF i (.cells #[I J c.cnt,I J c.sum,I E c.mn,I E c.mx] 114)
 have Q:=P.below o (by omega)
 generalize(i.alloc (.cells #[I J c.cnt,I J c.sum,I E c.mn,I E c.mx] 114))=XA at*
 have aF:=o.size
 have a6:b<XA.1.size:=by omega
 have aC:w.1.size<XA.1.size:=by omega
 have aO:i.1.size<XA.1.size:=by omega
 have aL:=ze al
 clear al
 have a2:=L XA
 refine(ud a2).mono ?_
 rintro e x1 ⟨rfl,rfl⟩
 go_wp2_with fail
 have ar:=ao XA a6 Q
 refine(ud ar).mono ?_
 rintro e l ⟨rfl,a4⟩
 have r:=ze a4
 clear a4
 go_wp2_with fail
 have m:=(ud r).alloc (ud r).size (.cells #[I J a.cnt,I J a.sum,I E a.mn,I E a.mx] 114)
 have ab:=zo l (.cells #[I J a.cnt,I J a.sum,I E a.mn,I E a.mx] 114)
 have aE:=zF l (.cells #[I J a.cnt,I J a.sum,I E a.mn,I E a.mx] 114)
 have a8:=Q.below m (by omega)
 have C:=(m.block i.1.size (by omega)).trans aa
 have k:=(m.block w.1.size (by omega)).trans ((o.block w.1.size (by omega)).trans a9)
 have af:D w.1.size w (l.alloc (.cells #[I J a.cnt,I J a.sum,I E a.mn,I E a.mx] 114)):=N.trans ((o.mono (H aB)).trans (m.mono (H aC)))
 have aG:=m.size
 have aH:=(ud r).size
 generalize(l.alloc (.cells #[I J a.cnt,I J a.sum,I E a.mn,I E a.mx] 114))=t at*
 obtain⟨-,-,l1,-⟩:=zc C
 obtain⟨-,-,-,l2,-⟩:=zc ab
 obtain⟨r0,r1,r2,r3,-⟩:=zc k
 have rf:=fun j=>zD k j
 have ap:=ze k
 have ay:=ze af
 have ah:i.1.size<t.1.size:=by omega
 have ai:l.1.size<t.1.size:=by omega
 have W:w.1.size<t.1.size:=by omega
 have hbb:b<t.1.size:=by omega
 clear a9 aa C ab k o m af Q P q aF aG aH aE N
 have az:¬i.1.size=w.1.size:=by have:=(ud K).size;omega
 have aA:¬l.1.size=w.1.size:=by have:=(ud r).size;omega
 have aM:¬w.1.size=i.1.size:=fun h=>az h.symm
 have aN:¬w.1.size=l.1.size:=fun h=>aA h.symm
 have Z:Hid (Calls prog 186 #[.func (.func 218) #[] #[.pointer (U ⟨t.1.size,0,O⟩)],.func (.func 187) #[] #[]] (t.alloc (.cells #[.slice ad zs.length cap] 219)).drew fun e w'=>e=.returned (I J X)/\D t.1.size t w'):=ze ((ud (ax t.drew hbb a8)).mono fun e w' h=>⟨h.1,⟨h.2.os,h.2.tape,h.2.output,h.2.size,h.2.block⟩⟩)
 go_region_held3 (fun w'=>w'.cell? ⟨i.1.size,2,O⟩=U (I E c.mn)/\w'.cell? ⟨l.1.size,3,O⟩=U (I E a.mx)) (go_keep) (first
  |(go_at_call 182;refine(ud (L _)).mono ?_;rintro e x1 ⟨rfl,rfl⟩)
  |(go_at_call 186;refine(ud Z).mono ?_;rintro e s ⟨rfl,d⟩;have m1:s.cell? ⟨i.1.size,2,O⟩=U (I E c.mn):=(d.cell (p:=⟨i.1.size,2,O⟩) ah).trans l1;have m2:s.cell? ⟨l.1.size,3,O⟩=U (I E a.mx):=(d.cell (p:=⟨l.1.size,3,O⟩) ai).trans l2;have A:b<s.1.size:=S hbb d.size;have a7:CAt s b zs:=a8.below d hbb;have aj:i.1.size<s.1.size:=S ah d.size;have ak:l.1.size<s.1.size:=S ai d.size;have F:w.1.size<s.1.size:=S W d.size;have au:=ze ((d.block w.1.size W).trans (ud ap));have am:=ze d;clear d)
  |(go_at_call 188;(first|refine(ud (a0 s A a7)).mono ?_|refine(ud (a0 s.drew A a7)).mono ?_);rintro e X4 ⟨rfl,n⟩;have n1:X4.cell? ⟨i.1.size,2,O⟩=U (I E c.mn):=(n.cell (p:=⟨i.1.size,2,O⟩) aj).trans m1;have n2:X4.cell? ⟨l.1.size,3,O⟩=U (I E a.mx):=(n.cell (p:=⟨l.1.size,3,O⟩) ak).trans m2;have x:=(n.block w.1.size F).trans (ud au);obtain⟨q0,q1,q2,q3,-⟩:=zc x;have qf:=fun j=>zD x j;have av:=ze x;have an:=ze n;clear x n))
 go_wp2_with fail
 have hf:=Qs (ud av) (I J X) (I J v2) (I E c.mn) (I E a.mx)
 have aD:=(ud ay).trans (((ud am).mono (H W)).trans (((ud an).mono (H F)).trans (below4 (w:=X4) (B:=w.1.size) (g:=w.1.size) (G _) (I J X) (I J v2) (I E c.mn) (I E a.mx))))
 refine bodyPost_ret (v:=.agg #[I J X,I J v2,I E c.mn,I E a.mx]) (results_cell_row results141 _ _ w.1.size _ _ _ _ rfl hf underlying114 rfl (by kernel_rfl)) rfl ?_
 exact⟨rfl,aD⟩
def kh(v:Int):Cl:=⟨1,v,v,v⟩
def Cl.small(x:Cl):Prop:=0<=x.cnt/\x.cnt<=1000000000000/\ -1000000000000000000<=x.sum/\x.sum<=1000000000000000000
theorem zhG(v:Int)(hv: -2147483648<=v/\v<=2147483647):xQ [kh v]=qD v O:=by
 unfold xQ
 have a:vn ([kh v].map (·.cnt))=1:=by rw[kO]<;>simp[xX,kh]
 have b:vn ([kh v].map (·.sum))=v:=by rw[kO]<;>simp[xX,kh];omega
 rw[a,b]
 simp[yy,jj,kh,qD]
theorem zeE(a b:Int):zcM a b<0↔a<b:=by
 unfold zcM;split
 ·simp[*]
 ·split<;>simp[*]
theorem zhH(v:Int)(hv: -2147483648<=v/\v<=2147483647)(o:Cl)(e:o.small):xQ [kh v,o]=qD v (U o):=by
 obtain⟨f,g,h,i⟩:=e
 unfold xQ
 have c:vn ([kh v,o].map (·.cnt))=1+o.cnt:=by rw[kO]<;>simp[xX,kh];omega
 have d:vn ([kh v,o].map (·.sum))=v+o.sum:=by rw[kO]<;>simp[xX,kh];omega
 rw[c,d]
 have a:((yy YH [kh v,o]).getD qP).mn=if o.mn<v then o.mn else v:=by
  simp only[yy,List.foldl_cons,List.foldl_nil,jj,YH,zeE,kh]
  split<;>simp
 have b:((yy YI [kh v,o]).getD qP).mx=if v<o.mx then o.mx else v:=by
  simp only[yy,List.foldl_cons,List.foldl_nil,jj,YI,zeE,kh]
  split<;>simp
 rw[a,b];rfl
def YV(L:LV)(x:WSg):LV:=if(stL L x.1).st=0 then yi L x.1 ⟨2,qP⟩else L
def XU(L:LV)(l:List WSg):LV:=l.foldl YV L
theorem zau(L:LV)(l:List WSg)(x:WSg):XU L (l++[x])=YV (XU L l) x:=by simp[XU]
theorem Vx(L:LV)(s:Sg)(v:SV):(yi L s v).length<=L.length+1:=by unfold yi;split<;>simp
theorem zle(L:LV)(x:WSg):(YV L x).length<=L.length+1:=by unfold YV;split;exact Vx _ _ _;omega
def zgu(L:LV):Prop:=∀p∈L,p.2.st≠0
theorem zcs{L:LV}{s:Sg}{v:SV}(h:zgu L)(hv:v.st≠0):zgu (yi L s v):=fun p a=>by
 rcases qm a with rfl|⟨a,_⟩
 ·exact hv
 ·exact h p a
theorem zcb{L:LV}(h:zgu L)(s:Sg):(stL L s).st=0↔s∉zx L:=by
 constructor
 ·intro a b
  obtain⟨v,hv,c⟩:=Vf b
  unfold stL at a;rw[hv]at a;exact h _ c a
 ·intro b;unfold stL;rw[yC.2 b];rfl
theorem zil{L:LV}(h:zgu L)(x:WSg):zgu (YV L x):=by
 unfold YV;split
 ·exact zcs h (by simp)
 ·exact h
theorem J4:∀(l:List WSg) {L:LV} (h:zgu L),zgu (XU L l)
 |[],L,h=>h
 |x::l,L,h=>J4 l (zil h x)
theorem XV{c:Cf}(g:c.ok){se tm val:Int}(a:0<=se/\se<4)(d:0<=tm/\tm<=100000){L:LV}(h:zgu L):∀k,k<=c.n->XU L ((qK c se tm k).map zeh)=vI c ⟨se,tm,val⟩ k L
 |0,_=>rfl
 |k+1,l=>by
  have j:=XV g (val:=val) a d h k (by omega)
  have b:=J4 ((qK c se tm k).map zeh) h
  rw[jk,List.map_append,List.map_singleton,zau]
  rw[j]at b ⊢
  show _=qh c ⟨se,tm,val⟩ k _
  unfold YV qh
  rw[Xr (Zb g a d (by omega))]
  have e:zI c (k:Int) ⟨se,tm,val⟩=qs c se tm k:=rfl
  rw[e]
  by_cases f:qs c se tm k∈zx (vI c ⟨se,tm,val⟩ k L)
  ·rw[if_pos f,if_neg (fun i=>(zcb b _).1 i f)]
  ·rw[if_neg f,if_pos ((zcb b _).2 f)]
theorem zce{w:T}{base g size n:Nat}{e:TypeId}{xs:List Value}(h:w.1[g]?=U (.cells xs.toArray e (0,0)))(a:xs.length=n*size)(hn:0<n)(c:n<=maxLen)(b:base<=g):w.ownsRow base e size (.slice (U ⟨g,0,O⟩) n n) n xs:=
 ⟨a,.inr ⟨g,n,_,rfl,b,h,⟨G _,c,by simp[a],by
  show List.take (n*size) xs=xs
  exact List.take_of_length_le (by omega)⟩⟩⟩
def jD(x:Cl):List Value:=[I J x.cnt,I J x.sum,I E x.mn,I E x.mx]
theorem CAt.of_owns{w:T}{base g cap:Nat}{e:TypeId}{zs:List Cl}(h:w.ownsRow base e 4 (.slice (U ⟨g,0,O⟩) zs.length cap) zs.length (zs.flatMap jD)):CAt w g zs:=fun j x b=>by
 have d:j<zs.length:=(List.getElem?_eq_some_iff.1 b).1
 have a:=fun i c=>ql (f:=jD) (k:=4) (fun _=>rfl) zs j x i b c
 refine⟨?_,?_,?_,?_⟩
 ·rw[h.cellAt (j*4) (by omega)];exact a 0 (by omega)
 ·rw[h.cellAt (j*4+1) (by omega)];exact a 1 (by omega)
 ·rw[h.cellAt (j*4+2) (by omega)];exact a 2 (by omega)
 ·rw[h.cellAt (j*4+3) (by omega)];exact a 3 (by omega)
theorem Z6{X:T}{s lb gb:Nat}{c:Cf}{tv:Value}{Gl:List (Sg×Unit)}{L:LV}(h:xJ X s c tv lb gb Gl L)(b:L.length<maxLen){k:Sg}(d:k.wf)(v:SV):
  ∃o,(Instr.mapUpdate 135 (.map (U lb)) (.agg #[I J k.t,I J k.se,I J k.we]) (.agg #[I J v.st,I J v.cl.cnt,I J v.cl.sum,I E v.cl.mn,I E v.cl.mx])).run prog X=.ok () (setBlock X lb o)/\xJ (setBlock X lb o) s c tv lb gb Gl (yi L k v)/\zk (fun k=>k=lb) X (setBlock X lb o)/\o.isCells=false:=by
 obtain⟨o,l,m,g,n⟩:=JX h.live b d v
 have a:∀{k:Nat} {cs:Array Value} {t:TypeId} {j:Nat×Nat},X.1[k]?=U (.cells cs t j)->¬k=lb:=fun d e=>by
  obtain⟨r,q,p,_⟩:=h.live;rw[e,p]at d;cases d
 refine⟨o,l,⟨g.heap h.head (a h.head),zi h.trow g (fun k d=>?_),m,h.gone.kept g h.apart,h.apart⟩,g,n⟩
 obtain⟨i,f⟩:=zO h.trow d
 exact a f
def Qt(Gl:List (Sg×Unit))(L:LV)(x:WSg):LV:=if(stG Gl L x.1).st=0 then yi L x.1 ⟨2,qP⟩else L
def yA(Gl:List (Sg×Unit))(L:LV)(l:List WSg):LV:=l.foldl (Qt Gl) L
theorem J3(Gl:List (Sg×Unit))(L:LV)(l:List WSg)(x:WSg):yA Gl L (l++[x])=Qt Gl (yA Gl L l) x:=by simp[yA]
theorem zgw(Gl:List (Sg×Unit))(L:LV)(x:WSg):(Qt Gl L x).length<=L.length+1:=by unfold Qt;split;exact Vx _ _ _;omega
theorem zat(Gl:List (Sg×Unit))(L:LV):∀l:List WSg,(yA Gl L l).length<=L.length+l.length:=by
 intro l
 induction l generalizing L with
 |nil=>simp[yA]
 |cons x l a=>have:=zgw Gl L x;have b:=a (Qt Gl L x);simp only[yA,List.foldl_cons,List.length_cons]at*;omega
theorem K5(Gl:List (Sg×Unit)):∀(l:List WSg) (L:LV),(∀x∈l,zV Gl x.1=O)->yA Gl L l=XU L l
 |[],_,_=>rfl
 |x::l,L,h=>by
  have e:Qt Gl L x=YV L x:=by unfold Qt YV stG;rw[h x (by simp)]
  show yA Gl (Qt Gl L x) l=XU (YV L x) l
  rw[e];exact K5 Gl l _ (fun y a=>h y (by simp[a]))
theorem Zl{w X:T}{lb:Nat}{L:LV}{s:Sg}(b:yj w lb L)(a:D w.1.size w X)(c:s.wf):(Instr.lookup 135 (.map (U lb)) (.agg #[I J s.t,I J s.se,I J s.we]) true).run prog X=.ok (.tuple #[.agg #[I J (stL L s).st,I J (stL L s).cl.cnt,I J (stL L s).cl.sum,I E (stL L s).cl.mn,I E (stL L s).cl.mx],.bool (kV L s).isSome]) X:=by
 have:=zcl true (b.later a) c
 have e:zaU true (vs ⟨0,qP⟩) L s=.tuple #[vs (stL L s),.bool (kV L s).isSome]:=by
  unfold zaU stL;cases kV L s<;>rfl
 rw[e]at this
 exact this
theorem Tryz.infoCell:(prog.info? 114).map (fun i=>(i.zero,i.size,i.bytes))=U (U (.agg #[I J 0,I J 0,I E 0,I E 0]),4,24):=by kernel_rfl
theorem zga{w:T}{ops:Array Oper}{rest:List Oper}{o:Oper}{a:Act}{Q:Exit->Act->T->Prop}(i:o.guard=O)(s x:Operand)
  (p:o.op=.call {callee:=.builtin .append,args:=#[s,x],argTypes:=#[219,219]}) (base:Nat) (v:Value) (l:List Cl) (f:Cl) (q:a.eval s=v) (c:w.ownsRow base 114 4 v l.length (l.flatMap jD))
  (d:Nat) (r:a.eval x=.slice (U ⟨d,0,O⟩) 1 1) (e:w.1[d]?=U (.cells #[I J f.cnt,I J f.sum,I E f.mn,I E f.mx] 114 (0,0))) (t:l.length<=1000000000) (b:base<=w.1.size)
  (h:∀g cap w',w'.ownsRow base 114 4 (.slice (U ⟨g,0,O⟩) (l.length+1) cap) (l++[f]).length ((l++[f]).flatMap jD)->w.grownBy w' v.ownBlock->g<w'.1.size->wpList prog ops Q rest (a.put o.dst (.slice (U ⟨g,0,O⟩) (l.length+1) cap)) w'):wpList prog ops Q (o::rest) a w:=
 zP i s x 219 p base 114 _ 4 24 underlying219 Tryz.infoCell rfl (by decide) v l.length (l.flatMap jD) q c ⟨d,0,O⟩ 1 1 [I J f.cnt,I J f.sum,I E f.mn,I E f.mx] r rfl
  (World.news_of_block (cs:=#[I J f.cnt,I J f.sum,I E f.mn,I E f.mx]) e) (by intro u j;simp at j;rcases j with rfl|rfl|rfl|rfl<;>rfl) (by decide) (by simp only[maxLen];omega) (by omega) b
  fun g cap w' k _ m _ n=>h g cap w' (by rw[Y6,List.length_append,List.length_singleton];exact k) m n
theorem zr{f:Nat->Prop}{A B:T}(h:zk f A B){k i:Nat}(hn:¬f k)(a:k<A.1.size):B.cell? ⟨k,i,O⟩=A.cell? ⟨k,i,O⟩:=by
 simp only[World.cell?,h.block k a hn]
theorem yv{V:T}{z a i:Nat}(hn:¬a=z)(b:a<V.1.size)(c d e g:Value):((((V.setCell ⟨z,0,O⟩ c).setCell ⟨z,1,O⟩ d).setCell ⟨z,2,O⟩ e).setCell ⟨z,3,O⟩ g).cell? ⟨a,i,O⟩=V.cell? ⟨a,i,O⟩:=
 zr (f:=fun k=>k=z) (zn (zn (zn (zn (zk.refl _ _) rfl) rfl) rfl) rfl) hn b
structure AQq(w Y:T)(z:Nat)(op:Obj)(Q1 Q2 Q3 Q4:Int):Prop where
 below:D w.1.size w Y
 low:w.1.size+3<=z
 cell:Y.1[z]?=U (.cells #[I J Q1,I J Q2,I E Q3,I E Q4] 114)
 op:Y.1[w.1.size]?=U op
 res:Y.1[w.1.size+1]?=U (.cells #[I J 0,I J 0,I E 0,I E 0] 114)
theorem ziW{w:T}{g:Nat}{a b c d:Value}{t:TypeId}(h:w.1[g]?=U (.cells #[a,b,c,d] t))(e f j k:Value):((((w.setCell ⟨g,0,O⟩ e).setCell ⟨g,1,O⟩ f).setCell ⟨g,2,O⟩ j).setCell ⟨g,3,O⟩ k).1[g]?=U (.cells #[e,f,j,k] t):=by
 have l:(w.setCell ⟨g,0,O⟩ e).1[g]?=U (.cells #[e,b,c,d] t):=xm (i:=0) h e
 have m:((w.setCell ⟨g,0,O⟩ e).setCell ⟨g,1,O⟩ f).1[g]?=U (.cells #[e,f,c,d] t):=xm (i:=1) l f
 have n:(((w.setCell ⟨g,0,O⟩ e).setCell ⟨g,1,O⟩ f).setCell ⟨g,2,O⟩ j).1[g]?=U (.cells #[e,f,j,d] t):=xm (i:=2) m j
 exact xm (i:=3) n k
theorem zfi{w:T}{g:Nat}(a b c d:Value):zk (fun k=>k=g) w ((((w.setCell ⟨g,0,O⟩ a).setCell ⟨g,1,O⟩ b).setCell ⟨g,2,O⟩ c).setCell ⟨g,3,O⟩ d):=
 zn (zn (zn (zn (zk.refl _ _) rfl) rfl) rfl) rfl
theorem AQq.ahead{w X V:T}{c:Obj}{Q1 Q2 Q3 Q4:Int}(f:D w.1.size w X)(j:X.1.size=w.1.size+3)(d:X.1[w.1.size]?=U c)(e:X.1[w.1.size+1]?=U (.cells #[I J 0,I J 0,I E 0,I E 0] 114))(hv:D X.1.size X V)(h:V.1[X.1.size]?=U (.cells #[I J 0,I J 0,I E 0,I E 0] 114)):
  AQq w ((((V.setCell ⟨X.1.size,0,O⟩ (I J Q1)).setCell ⟨X.1.size,1,O⟩ (I J Q2)).setCell ⟨X.1.size,2,O⟩ (I E Q3)).setCell ⟨X.1.size,3,O⟩ (I E Q4)) X.1.size c Q1 Q2 Q3 Q4:=by
 have b:=zfi (w:=V) (g:=X.1.size) (I J Q1) (I J Q2) (I E Q3) (I E Q4)
 have i:=hv.size
 have a:D X.1.size X _:=hv.trans (b.below i (fun k b=>by omega))
 exact⟨f.trans (a.mono (by omega)),by omega,ziW h _ _ _ _,(a.block w.1.size (by omega)).trans d,(a.block (w.1.size+1) (by omega)).trans e⟩
theorem AQq.behind{w X V:T}{b:Obj}{Q1 Q2 Q3 Q4:Int}(e:D w.1.size w X)(g:X.1.size=w.1.size+3)(c:X.1[w.1.size]?=U b)(d:X.1[w.1.size+1]?=U (.cells #[I J 0,I J 0,I E 0,I E 0] 114))(hv:D X.1.size X V):
  AQq w (V.alloc (.cells #[I J Q1,I J Q2,I E Q3,I E Q4] 114)) V.1.size b Q1 Q2 Q3 Q4:=by
 have f:=hv.size
 have a:=hv.alloc f (.cells #[I J Q1,I J Q2,I E Q3,I E Q4] 114)
 exact⟨e.trans (a.mono (by omega)),by omega,zo V _,(a.block w.1.size (by omega)).trans c,(a.block (w.1.size+1) (by omega)).trans d⟩
structure ARq(w Y:T)(z:Nat)(Q1 Q2 Q3 Q4:Int):Prop where
 below:D w.1.size w Y
 cell:Y.1[z]?=U (.cells #[I J Q1,I J Q2,I E Q3,I E Q4] 114)
theorem ARq.ahead{X V:T}{Q1 Q2 Q3 Q4:Int}(hv:D X.1.size X V)(b:V.1[X.1.size]?=U (.cells #[I J 0,I J 0,I E 0,I E 0] 114)):
  ARq X ((((V.setCell ⟨X.1.size,0,O⟩ (I J Q1)).setCell ⟨X.1.size,1,O⟩ (I J Q2)).setCell ⟨X.1.size,2,O⟩ (I E Q3)).setCell ⟨X.1.size,3,O⟩ (I E Q4)) X.1.size Q1 Q2 Q3 Q4:=by
 have a:=zfi (w:=V) (g:=X.1.size) (I J Q1) (I J Q2) (I E Q3) (I E Q4)
 exact⟨hv.trans (a.below hv.size (fun k a=>by omega)),ziW b _ _ _ _⟩
theorem ARq.behind{X V:T}{Q1 Q2 Q3 Q4:Int}(hv:D X.1.size X V):
  ARq X (V.alloc (.cells #[I J Q1,I J Q2,I E Q3,I E Q4] 114)) V.1.size Q1 Q2 Q3 Q4:=⟨hv.alloc hv.size _,zo V _⟩
theorem zay{w:T}{wb s x d r:Nat}{c:Cf}{ct mv td:Value}{ep:Int}(aK:w.1[s]?=U (zw x d c ct mv td ep))(ag:w.ownsRow 0 108 1 mv 1 [.pointer (U ⟨r,0,O⟩)])(o:Ops){Q1 Q2 Q3 Q4 QE:Int}
  (aD:∀V,D w.1.size w V->Calls prog 60 #[.pointer (U ⟨x,0,O⟩),I J o.a,I J o.b,I J o.c] V fun e V'=>e=.returned (.tuple #[.agg #[I J Q1,I J Q2,I E Q3,I E Q4],I J QE])/\D V.1.size V V')
  (aE:∀V,D w.1.size w V->Calls prog 107 #[.pointer (U ⟨r,0,O⟩),I J o.a,I J o.b,I J o.c] V fun e V'=>e=.returned (.tuple #[.agg #[I J Q1,I J Q2,I E Q3,I E Q4],I J QE])/\D V.1.size V V'):
  Calls prog 56 #[.pointer (U ⟨wb,0,O⟩),.pointer (U ⟨s,0,O⟩),.agg #[I J 4,I J o.on,I J o.a,I J o.b,I J o.c,I E o.v,I J o.te,I J o.tn,I J o.fs,I J o.fe,I J o.fd,I J o.fw,I J o.fk,I J o.fq,.slice o.fa o.fn o.fc]] w fun e w'=>e=.returned (.bool true)/\∃(Z:T) (g cap:Nat),w'=Z.setCell ⟨s,9,O⟩ (.slice (U ⟨g,0,O⟩) 1 cap)/\D w.1.size w Z/\Z.ownsRow 0 108 1 (.slice (U ⟨g,0,O⟩) 1 cap) 1 [.pointer (U ⟨r,0,O⟩)]/\w.1.size<=g:=by
 have aw:=zd aK
 obtain⟨y0,y1,y2,L,yz⟩:=jr w (.cells #[I J 4,I J o.on,I J o.a,I J o.b,I J o.c,I E o.v,I J o.te,I J o.tn,I J o.fs,I J o.fe,I J o.fd,I J o.fw,I J o.fk,I J o.fq,.slice o.fa o.fn o.fc] 68) (.cells #[I J 0,I J 0,I E 0,I E 0] 114) (.cells #[I J 0,I J 0,I J 0,I J 0,I J 0,I J 0,I J 0,I J 0] 37)
 have am:=fun(V:T) (f:D w.1.size w V)=>ze (aD V f)
 have an:=fun(V:T) (f:D w.1.size w V)=>ze (aE V f)
 obtain⟨mb,bg,aL,_,ah⟩:=ag.form (by omega)
 have aU:Hid (w.cell? ⟨mb,0,O⟩=U (.pointer (U ⟨r,0,O⟩))):=by
  have:=ag
  rw[aL]at this
  show _=_
  rw[this.cellAt 0 (by omega)];rfl
 have ak:=ze aK
 go_enter func56,ntmps56
 clear aD aE
 go_wp2_with fail
 generalize(((w.alloc (.cells #[I J 4,I J o.on,I J o.a,I J o.b,I J o.c,I E o.v,I J o.te,I J o.tn,I J o.fs,I J o.fe,I J o.fd,I J o.fw,I J o.fk,I J o.fq,.slice o.fa o.fn o.fc] 68)).alloc (.cells #[I J 0,I J 0,I E 0,I E 0] 114)).alloc (.cells #[I J 0,I J 0,I J 0,I J 0,I J 0,I J 0,I J 0,I J 0] 37))=X at*
 have aa:=zo X (.cells #[I J 0,I J 0,I E 0,I E 0] 114)
 have A:D X.1.size X (X.alloc (.cells #[I J 0,I J 0,I E 0,I E 0] 114)):=(M _ _).alloc (G _) _
 have ay:(X.alloc (.cells #[I J 0,I J 0,I E 0,I E 0] 114)).1.size=X.1.size+1:=zF X _
 have ab:X.1.size<(X.alloc (.cells #[I J 0,I J 0,I E 0,I E 0] 114)).drew.1.size:=by show X.1.size<(X.alloc (.cells #[I J 0,I J 0,I E 0,I E 0] 114)).1.size;omega
 have y:=ze A.drew
 have R:=am _ (L.trans (A.drew.mono L.size))
 have Q:=am _ L.drew
 clear am
 have ax:=(L.block s aw).trans (ud ak)
 have z0:X.cell? ⟨s,0,O⟩=U (.pointer (U ⟨x,0,O⟩)):=by unfold zw at ax;rw[zN ax];rfl
 obtain⟨-,-,z2,z3,z4,-⟩:=zc y0
 have a6:s<X.1.size:=by omega
 have q:w.1.size<X.1.size:=by omega
 have Y0:=ze y0
 have Y1:=ze y1
 have Y3:=ze aa
 have aj:=ze L
 have YZ:=ze yz
 have b8:¬s=X.1.size:=by omega
 have aB:¬w.1.size=X.1.size:=by omega
 clear y0 y1 y2 L yz ax aa ay A
 go_region_held3 (fun w'=>w'.cell? ⟨s,0,O⟩=U (.pointer (U ⟨x,0,O⟩))/\w'.cell? ⟨w.1.size,2,O⟩=U (I J o.a)/\w'.cell? ⟨w.1.size,3,O⟩=U (I J o.b)/\w'.cell? ⟨w.1.size,4,O⟩=U (I J o.c)) (first|go_keep|exact⟨(yv (by assumption) (by assumption) _ _ _ _).trans (by assumption),(yv (by assumption) (by assumption) _ _ _ _).trans (by assumption),(yv (by assumption) (by assumption) _ _ _ _).trans (by assumption),(yv (by assumption) (by assumption) _ _ _ _).trans (by assumption)⟩) (first
  |(go_at_call 60;refine(ud R).mono ?_;rintro e V ⟨rfl,i⟩;have hz:=(i.block X.1.size ab).trans (ud Y3);have f:D X.1.size X V:=(ud y).trans (i.mono (ud y).size);clear i;have aP:s<V.1.size:=S a6 f.size;have a7:w.1.size<V.1.size:=S q f.size;have v0:=(f.cell (p:=⟨s,0,O⟩) a6).trans z0;have v2:=(f.cell (p:=⟨w.1.size,2,O⟩) q).trans z2;have v3:=(f.cell (p:=⟨w.1.size,3,O⟩) q).trans z3;have v4:=(f.cell (p:=⟨w.1.size,4,O⟩) q).trans z4;obtain⟨n0,n1,n2,n3,-⟩:=zc hz;have nf:=fun j=>zD hz j;have HZ:=ze hz;have n:=ze f;clear f hz)
  |(go_at_call 60;refine(ud Q).mono ?_;rintro e V ⟨rfl,i⟩;have f:D X.1.size X V:=⟨i.os,i.tape,i.output,i.size,i.block⟩;clear i;have aP:s<V.1.size:=S a6 f.size;have a7:w.1.size<V.1.size:=S q f.size;have v0:=(f.cell (p:=⟨s,0,O⟩) a6).trans z0;have v2:=(f.cell (p:=⟨w.1.size,2,O⟩) q).trans z2;have v3:=(f.cell (p:=⟨w.1.size,3,O⟩) q).trans z3;have v4:=(f.cell (p:=⟨w.1.size,4,O⟩) q).trans z4;have b7:¬s=V.1.size:=(by have:=f.size;omega);have aA:¬w.1.size=V.1.size:=(by have:=f.size;omega);have n:=ze f;clear f))
 all_goals(first
  |(have m:=AQq.ahead (Q1:=Q1) (Q2:=Q2) (Q3:=Q3) (Q4:=Q4) (ud aj) (ud YZ) (ud Y0) (ud Y1) (ud n) (ud HZ);clear n0 n1 n2 n3 nf HZ;generalize((((V.setCell ⟨X.1.size,0,O⟩ (I J Q1)).setCell ⟨X.1.size,1,O⟩ (I J Q2)).setCell ⟨X.1.size,2,O⟩ (I E Q3)).setCell ⟨X.1.size,3,O⟩ (I E Q4))=Y at m ⊢;generalize X.1.size=z at m ⊢)
  |(have m:=AQq.behind (Q1:=Q1) (Q2:=Q2) (Q3:=Q3) (Q4:=Q4) (ud aj) (ud YZ) (ud Y0) (ud Y1) (ud n);clear b7 aA;generalize(V.alloc (.cells #[I J Q1,I J Q2,I E Q3,I E Q4] 114))=Y at m ⊢;generalize V.1.size=z at m ⊢))
 all_goals
  clear v0 v2 v3 v4 aP a7 n z0 z2 z3 z4 a6 q Y0 Y1 Y3 aj YZ y R Q ab b8 aB
  have bb:=zd m.cell
  have b9:=zd m.res
  have aM:¬w.1.size+1=z:=by have:=m.low;omega
  obtain⟨a0,a1,a2,a3,-⟩:=zc m.cell
  obtain⟨b0,b1,b2,b3,-⟩:=zc m.res
  have bf:=fun j=>zD m.res j
  have HP:=ze m
  clear m
  go_wp2_with(go_at_call 98;refine(ZE _ _).mono ?_;rintro e V1 ⟨rfl,aI⟩;rw[aI];clear aI)
 all_goals
  have m:=ud HP
  have au:=zfi (w:=Y) (g:=w.1.size+1) (I J Q1) (I J Q2) (I E Q3) (I E Q4)
  have aR:=ziW m.res (I J Q1) (I J Q2) (I E Q3) (I E Q4)
  have aO:=au.heap m.op (by omega)
  have a9:D w.1.size w ((((Y.setCell ⟨w.1.size+1,0,O⟩ (I J Q1)).setCell ⟨w.1.size+1,1,O⟩ (I J Q2)).setCell ⟨w.1.size+1,2,O⟩ (I E Q3)).setCell ⟨w.1.size+1,3,O⟩ (I E Q4)):=m.below.trans (au.below m.below.size (fun k hk=>by omega))
  have aG:=ze (YG (w:=((((Y.setCell ⟨w.1.size+1,0,O⟩ (I J Q1)).setCell ⟨w.1.size+1,1,O⟩ (I J Q2)).setCell ⟨w.1.size+1,2,O⟩ (I E Q3)).setCell ⟨w.1.size+1,3,O⟩ (I E Q4))) (by rw[<-aL];exact(a9.block s aw).trans (ud ak)) ((a9.cell (p:=⟨mb,0,O⟩) ah).trans (ud aU)) (S ah a9.size))
  have ao:=ze aR
  have aq:=ze a9
  have al:=ze aO
  clear m HP au aR aO a9 a0 a1 a2 a3 b0 b1 b2 b3 bf bb b9 aM
  generalize((((Y.setCell ⟨w.1.size+1,0,O⟩ (I J Q1)).setCell ⟨w.1.size+1,1,O⟩ (I J Q2)).setCell ⟨w.1.size+1,2,O⟩ (I E Q3)).setCell ⟨w.1.size+1,3,O⟩ (I E Q4))=X8 at*
  refine(ud aG).mono ?_
  rintro e l ⟨F,bc,rfl,B,ac⟩
  have ad:=(ac.block w.1.size (zd (ud al))).trans (ud al)
  have a8:=(ud aq).trans (ac.mono (ud aq).size)
  obtain⟨q0,-,q2,q3,q4,-⟩:=zc ad
  have g0:l.cell? ⟨F,0,O⟩=U (.pointer (U ⟨r,0,O⟩)):=by rw[B.cellAt 0 (by omega)];rfl
  have N:F<l.1.size:=vw B F rfl
  have t:=zd ad
  have aa:=zo l (.cells #[I J 0,I J 0,I E 0,I E 0] 114)
  have A:D l.1.size l (l.alloc (.cells #[I J 0,I J 0,I E 0,I E 0] 114)):=(M _ _).alloc (G _) _
  have ay:(l.alloc (.cells #[I J 0,I J 0,I E 0,I E 0] 114)).1.size=l.1.size+1:=zF l _
  have ab:l.1.size<(l.alloc (.cells #[I J 0,I J 0,I E 0,I E 0] 114)).drew.1.size:=by show l.1.size<(l.alloc (.cells #[I J 0,I J 0,I E 0,I E 0] 114)).1.size;omega
  have R:=an _ (a8.trans (A.drew.mono a8.size))
  have Q:=an _ a8.drew
  have aZ:¬F=l.1.size:=by omega
  have aB:¬w.1.size=l.1.size:=by omega
  have y:=ze A.drew
  have Y3:=ze aa
  have aF:=ze ((ac.block (w.1.size+1) (zd (ud ao))).trans (ud ao))
  have aC:=ze ad
  have ap:=ze a8
  clear ad a8 B ac aG an ay A aa ao aq al
  go_wp2_with fail
  refine wp_loop_rounds 2 ?_
  rw[rounds_succ]
  go_wp2_with fail
  go_region_held3 (fun w'=>w'.cell? ⟨F,0,O⟩=U (.pointer (U ⟨r,0,O⟩))/\w'.cell? ⟨w.1.size,2,O⟩=U (I J o.a)/\w'.cell? ⟨w.1.size,3,O⟩=U (I J o.b)/\w'.cell? ⟨w.1.size,4,O⟩=U (I J o.c)) (first|go_keep|exact⟨(yv (by assumption) (by assumption) _ _ _ _).trans (by assumption),(yv (by assumption) (by assumption) _ _ _ _).trans (by assumption),(yv (by assumption) (by assumption) _ _ _ _).trans (by assumption),(yv (by assumption) (by assumption) _ _ _ _).trans (by assumption)⟩) (first
   |(go_at_call 107;refine(ud R).mono ?_;rintro e V ⟨rfl,i⟩;have hz:=(i.block l.1.size ab).trans (ud Y3);have f:D l.1.size l V:=(ud y).trans (i.mono (ud y).size);clear i;have aJ:F<V.1.size:=S N f.size;have a7:w.1.size<V.1.size:=S t f.size;have v0:=(f.cell (p:=⟨F,0,O⟩) N).trans g0;have v2:=(f.cell (p:=⟨w.1.size,2,O⟩) t).trans q2;have v3:=(f.cell (p:=⟨w.1.size,3,O⟩) t).trans q3;have v4:=(f.cell (p:=⟨w.1.size,4,O⟩) t).trans q4;obtain⟨n0,n1,n2,n3,-⟩:=zc hz;have nf:=fun j=>zD hz j;have HZ:=ze hz;have n:=ze f;clear f hz)
   |(go_at_call 107;refine(ud Q).mono ?_;rintro e V ⟨rfl,i⟩;have f:D l.1.size l V:=⟨i.os,i.tape,i.output,i.size,i.block⟩;clear i;have aJ:F<V.1.size:=S N f.size;have a7:w.1.size<V.1.size:=S t f.size;have v0:=(f.cell (p:=⟨F,0,O⟩) N).trans g0;have v2:=(f.cell (p:=⟨w.1.size,2,O⟩) t).trans q2;have v3:=(f.cell (p:=⟨w.1.size,3,O⟩) t).trans q3;have v4:=(f.cell (p:=⟨w.1.size,4,O⟩) t).trans q4;have aY:¬F=V.1.size:=(by have:=f.size;omega);have aA:¬w.1.size=V.1.size:=(by have:=f.size;omega);have n:=ze f;clear f))
 all_goals(first
  |(have m:=ARq.ahead (Q1:=Q1) (Q2:=Q2) (Q3:=Q3) (Q4:=Q4) (ud n) (ud HZ);clear n0 n1 n2 n3 nf HZ;generalize((((V.setCell ⟨l.1.size,0,O⟩ (I J Q1)).setCell ⟨l.1.size,1,O⟩ (I J Q2)).setCell ⟨l.1.size,2,O⟩ (I E Q3)).setCell ⟨l.1.size,3,O⟩ (I E Q4))=U1 at m ⊢;obtain⟨K,a4⟩:=m;generalize ba:l.1.size=z2 at a4 ⊢;clear ba)
  |(have m:=ARq.behind (Q1:=Q1) (Q2:=Q2) (Q3:=Q3) (Q4:=Q4) (ud n);clear aY aA;generalize(V.alloc (.cells #[I J Q1,I J Q2,I E Q3,I E Q4] 114))=U1 at m ⊢;obtain⟨K,a4⟩:=m;generalize V.1.size=z2 at a4 ⊢))
 all_goals
  clear v0 v2 v3 v4 aJ a7 n q2 q3 q4 y R Q ab aZ aB Y3
  have g2:U1.cell? ⟨F,0,O⟩=U (.pointer (U ⟨r,0,O⟩)):=(K.cell (p:=⟨F,0,O⟩) N).trans g0
  have aQ:=(K.block (w.1.size+1) (zd (ud aF))).trans (ud aF)
  obtain⟨s0,s1,s2,s3,-⟩:=zc aQ
  obtain⟨a0,a1,a2,a3,-⟩:=zc a4
  have b4:0<1:=by decide
  have b5:0+1<=maxLen:=by simp[maxLen]
  have b6:(0+1)*8<=140737488355328:=by omega
  have bi:F<U1.1.size:=S N K.size
  have ai:=ze K
  clear aQ K a4
  go_wp2_with(first|(at_builtin;refine zP rfl _ _ 104 rfl 0 108 _ 1 8 underlying104 Tryz.infoRefP rfl (by decide) (.slice O 0 0) 0 [] rfl (World.ownsRow_nil _ _ _ _) ⟨U1.1.size,0,O⟩ 1 1 [.pointer (U ⟨r,0,O⟩)] rfl rfl (World.news_of_block (cs:=#[.pointer (U ⟨r,0,O⟩)]) (zo U1 _)) (by intro u hu;simp at hu;subst hu;rfl) b4 b5 b6 (Nat.zero_le _) ?_;intro g aH W4 a5 av C ae bd;have aV:=ze a5;have aT:=ze C;have aS:=ze ae;clear a5 av C ae)|go_in)
  have ar:D U1.1.size U1 (U1.alloc (.cells #[.pointer (U ⟨r,0,O⟩)] 108)):=(M _ _).alloc (G _) _
  have af:D U1.1.size U1 W4:=ar.grown (show(U1.alloc (.cells #[.pointer (U ⟨r,0,O⟩)] 108)).grownBy W4 O from ud aT) ar.size (fun k e=>by cases e)
  have W:D l.1.size l W4:=(ud ai).trans (af.mono (ud ai).size)
  have az:D w.1.size w W4:=(ud ap).trans (W.mono (ud ap).size)
  have P:=(az.block s aw).trans (ud ak)
  have aN:=(W.block w.1.size (zd (ud aC))).trans (ud aC)
  have k9:W4.cell? ⟨s,9,O⟩=U mv:=by have hq:=P;unfold zw at hq;rw[zN hq];rfl
  have bj:W4.cell? ⟨s,13,O⟩=U (.bool false):=by have hq:=P;unfold zw at hq;rw[zN hq];rfl
  have bk:∀j,W4.frozen? ⟨s,j,O⟩=false:=fun j=>by have hq:=P;unfold zw at hq;exact zD hq j
  obtain⟨k0,-⟩:=zc aN
  have be:=zd P
  have bh:=ze P
  have aW:=ze az
  clear ar af W az P aN s0 s1 s2 s3 a0 a1 a2 a3 g0 g2 q0
  rw[rounds_succ]
  go_wp2_with fail
  go_ret
  have aX:w.1.size<=g:=by
   rcases ud aS with h|h
   ·cases h
   ·rw[h]
    have z1:=(ud ai).size;have z2:=(ud ap).size;rw[zF];omega
  exact⟨rfl,_,g,aH,rfl,ud aW,ud aV,aX⟩
theorem TS.keptb{w w':T}{g c n:Nat}{F W K:Nat->Int}{f:Nat->Prop}(h:TS w (U ⟨g,c,O⟩) n F W K)(d:zk f w w')(hn:¬f g):TS w' (U ⟨g,c,O⟩) n F W K:=fun k=>by
 obtain⟨b,j,e,a,l⟩:=h k
 cases e
 refine⟨g,c,rfl,S a d.size,fun i m=>?_⟩
 rw[zr d hn a,zr d hn a,zr d hn a]
 exact l i m
def zas(w:T)(g N:Nat):Prop:=∃cs t,w.1[g]?=U (.cells cs t (0,0))/\cs.size=N
theorem zas.set{w:T}{g N:Nat}(h:zas w g N)(i:Nat)(v:Value):zas (w.setCell ⟨g,i,O⟩ v) g N:=by
 obtain⟨cs,t,a,b⟩:=h
 exact⟨_,t,xm a v,by simpa using b⟩
theorem zas.kept{w w':T}{g N:Nat}{f:Nat->Prop}(h:zas w g N)(b:zk f w w')(hn:¬f g):zas w' g N:=by
 obtain⟨cs,t,a,c⟩:=h
 exact⟨cs,t,(b.block g (zd a) hn).trans a,c⟩
theorem zas.cell{w:T}{g N:Nat}(h:zas w g N)(i:Nat)(b:i<N):∃v,w.cell? ⟨g,i,O⟩=U v:=by
 obtain⟨cs,t,a,c⟩:=h
 rw[ZX a]
 exact⟨_,Array.getElem?_eq_getElem (by omega)⟩
theorem zas.free{w:T}{g N:Nat}(h:zas w g N)(i:Nat):w.frozen? ⟨g,i,O⟩=false:=by
 obtain⟨cs,t,a,b⟩:=h
 exact vU a i
theorem zas.lt{w:T}{g N:Nat}(h:zas w g N):g<w.1.size:=by
 obtain⟨cs,t,a,b⟩:=h
 exact zd a
theorem CF.kept{w w':T}{g:Nat}{s e d j ke i:Int}{a:Option Addr}{n cap:Nat}{f:Nat->Prop}(h:CF w g s e d j ke i a n cap)(b:zk f w w')(hn:¬f g):CF w' g s e d j ke i a n cap:=by
 obtain⟨c,k,l,m,o,p,q,r⟩:=h
 exact⟨S c b.size,(zr b hn c).trans k,(zr b hn c).trans l,(zr b hn c).trans m,(zr b hn c).trans o,(zr b hn c).trans p,(zr b hn c).trans q,(zr b hn c).trans r⟩
theorem JD(s le Z wi ke qu:Int)(a:Option Addr)(n cap:Nat)(F W K:Nat->Int)(aV:24*(n+1)<=281474976710656)(w:T)(p:Nat)(f:Nat->Prop)(hf:∀k,f k->k<w.1.size)(V:∀w',zk f w w'->TS w' a n F W K)
  (R:Option Addr->Int->T->Prop) (hR:∀xo m A B,zk (fun k=>k=w.1.size+1) A B->R xo m A->R xo m B)
  (HO:∀w4,D w.1.size w w4->w.1.size+3=w4.1.size->(∀w',zk f w4 w'->TS w' (U ⟨w.1.size+1,0,O⟩) n F W K)->Calls prog 26 #[.agg #[I J s,I J le,I J Z,I J wi,I J ke,I J qu,.slice (U ⟨w.1.size+1,0,O⟩) n (n+1)],.pointer (U ⟨p,0,O⟩)] w4 fun e w5=>∃xo m,e=.returned (.tuple #[.pointer xo,I J m])/\zk f w4 w5/\R xo m w5):
  Calls prog 48 #[.agg #[I J s,I J le,I J Z,I J wi,I J ke,I J qu,.slice a n cap],.pointer (U ⟨p,0,O⟩)] w fun e w'=>∃xo m,e=.returned (.tuple #[.pointer xo,I J m,.bool true])/\zk f w w'/\R xo m w':=by
 have h:=V w (zk.refl _ _)
 have aS:=zdg n aV
 have b7:(n:Int)<(n:Int)+1:=by omega
 have aa:TS ((w.alloc (.cells #[I J s,I J le,I J Z,I J wi,I J ke,I J qu,.slice a n cap] 27)).alloc (.cells (yX n) 66)) a n F W K:=
  h.below (((M _ _).alloc (G _) _).alloc (by simp) _)
 obtain⟨c,aM,HR,a8,HZ⟩:∃c,(Builtin.copy_ #[25,25] 3 #[.slice (U ⟨w.1.size+1,0,O⟩) (n+1) (n+1),.slice a n cap]).run prog ((w.alloc (.cells #[I J s,I J le,I J Z,I J wi,I J ke,I J qu,.slice a n cap] 27)).alloc (.cells (yX n) 66))=.ok (I J n) c/\
   Hid (c.1[w.1.size+1]?=U (.cells (Xk n F W K++(yX n).toList.drop (n*3)).toArray 66 (0,0)))/\D (w.1.size+1) ((w.alloc (.cells #[I J s,I J le,I J Z,I J wi,I J ke,I J qu,.slice a n cap] 27)).alloc (.cells (yX n) 66)) c/\c.1.size=w.1.size+2:=by
  generalize hW:(w.alloc (.cells #[I J s,I J le,I J Z,I J wi,I J ke,I J qu,.slice a n cap] 27))=X at aa
  have al:X.1.size=w.1.size+1:=by rw[<-hW];simp
  have hg:(X.alloc (.cells (yX n) 66)).1[w.1.size+1]?=U (.cells (yX n) 66 (0,0)):=by rw[<-al];exact heap_alloc_last _ _
  have hr:=Xl (P:=prog) (X.alloc (.cells (yX n) 66)) 25 25 3 66 3 (w.1.size+1) (n+1) (n+1) a n cap (yX n) 66 (Xk n F W K) underlying25 (by kernel_rfl) hg
   (by rw[xl];simp) aa.cells (by rw[xl,ji];omega) (VG n F W K)
  have hm:Nat.min n (n+1)=n:=by simp
  rw[hm,xl]at hr
  refine⟨_,hr,setRow_heap _ _ _ _ _ _ hg,below_setRow (M _ _) (G _) _,?_⟩
  simp[World.setRow,al]
 have HS:Hid (c.1.size=w.1.size+2):=HZ
 clear HZ
 have hx:∀j,j<3->∃v,c.cell? ⟨w.1.size+1,n*3+j,O⟩=U v:=fun j hj=>by
  rw[ZX HR.out]
  exact⟨_,Array.getElem?_eq_getElem (by simp[xl,ji];omega)⟩
 obtain⟨v0,x0⟩:=hx 0 (by omega)
 obtain⟨v1,x1⟩:=hx 1 (by omega)
 obtain⟨v2,x2⟩:=hx 2 (by omega)
 have x0:c.cell? ⟨w.1.size+1,n*3,O⟩=U v0:=x0
 clear hx
 have an:∀o,c.frozen? ⟨w.1.size+1,o,O⟩=false:=fun o=>vU HR.out o
 obtain⟨_,c0,c1,c2,c3,c4,c5,c6⟩:=((CF.made w 27 (0,0) s le Z wi ke qu a n cap).below (((M (w.1.size+1) _).alloc (by simp) _)) (by omega)).below a8 (by omega)
 have ar:TS c (U ⟨w.1.size+1,0,O⟩) n F W K:=TS.of_row HR.out
 have aX:w.1.size+1<c.1.size:=by have:=HS.out;omega
 have a4:D w.1.size w c:=(((M _ _).alloc (G _) _).alloc (by simp) _).trans (a8.mono (by omega))
 have hm:∀(C:Array Value) (t:TypeId),TS ((((c.setCell ⟨w.1.size+1,n*3,O⟩ (I J (-77))).setCell ⟨w.1.size+1,n*3+1,O⟩ (I J 0)).setCell ⟨w.1.size+1,n*3+2,O⟩ (I J 0)).alloc (.cells C t)) (U ⟨w.1.size+1,0,O⟩) n F W K/\
   ((((c.setCell ⟨w.1.size+1,n*3,O⟩ (I J (-77))).setCell ⟨w.1.size+1,n*3+1,O⟩ (I J 0)).setCell ⟨w.1.size+1,n*3+2,O⟩ (I J 0)).alloc (.cells C t)).cell? ⟨w.1.size+1,n*3,O⟩=U (I J (-77))/\
   D (w.1.size+1) c ((((c.setCell ⟨w.1.size+1,n*3,O⟩ (I J (-77))).setCell ⟨w.1.size+1,n*3+1,O⟩ (I J 0)).setCell ⟨w.1.size+1,n*3+2,O⟩ (I J 0)).alloc (.cells C t))/\
   ((((c.setCell ⟨w.1.size+1,n*3,O⟩ (I J (-77))).setCell ⟨w.1.size+1,n*3+1,O⟩ (I J 0)).setCell ⟨w.1.size+1,n*3+2,O⟩ (I J 0)).alloc (.cells C t)).1.size=c.1.size+1:=by
  intro C t
  have hs:(((c.setCell ⟨w.1.size+1,n*3,O⟩ (I J (-77))).setCell ⟨w.1.size+1,n*3+1,O⟩ (I J 0)).setCell ⟨w.1.size+1,n*3+2,O⟩ (I J 0)).1.size=c.1.size:=by simp[World.setCell]
  have hB:D (w.1.size+1) c (((c.setCell ⟨w.1.size+1,n*3,O⟩ (I J (-77))).setCell ⟨w.1.size+1,n*3+1,O⟩ (I J 0)).setCell ⟨w.1.size+1,n*3+2,O⟩ (I J 0)):=
   (((M (w.1.size+1) c).setCell (p:=⟨w.1.size+1,n*3,O⟩) (G (w.1.size+1)) (I J (-77))).setCell (p:=⟨w.1.size+1,n*3+1,O⟩) (G (w.1.size+1)) (I J 0)).setCell (p:=⟨w.1.size+1,n*3+2,O⟩) (G (w.1.size+1)) (I J 0)
  have hx:(((c.setCell ⟨w.1.size+1,n*3,O⟩ (I J (-77))).setCell ⟨w.1.size+1,n*3+1,O⟩ (I J 0)).setCell ⟨w.1.size+1,n*3+2,O⟩ (I J 0)).cell? ⟨w.1.size+1,n*3,O⟩=U (I J (-77)):=by
   rw[World.cell?_setCell_other _ _ _ _ (by simp),World.cell?_setCell_other _ _ _ _ (by simp)]
   exact World.cell?_setCell_same _ _ _ x0
  have ht:=((ar.setCell (n*3) (I J (-77)) (by omega)).setCell (n*3+1) (I J 0) (by omega)).setCell (n*3+2) (I J 0) (by omega)
  generalize(((c.setCell ⟨w.1.size+1,n*3,O⟩ (I J (-77))).setCell ⟨w.1.size+1,n*3+1,O⟩ (I J 0)).setCell ⟨w.1.size+1,n*3+2,O⟩ (I J 0))=Y at hs hB hx ht ⊢
  have hA:D Y.1.size Y (Y.alloc (.cells C t)):=(M _ _).alloc (G _) _
  exact⟨ht.below hA,(hA.cell (p:=⟨w.1.size+1,n*3,O⟩) (show w.1.size+1<_ by rw[hs];omega)).trans hx,hB.trans (hA.mono (by omega)),by simp[hs]⟩
 have a1:¬f (w.1.size+1):=fun e=>by have:=hf _ e;omega
 have aN:¬f w.1.size:=fun e=>by have:=hf _ e;omega
 obtain⟨a9,aw,a0,Q⟩:=hm #[I J s,I J le,I J Z,I J wi,I J ke,I J qu,.slice (U ⟨w.1.size+1,0,O⟩) n (n+1)] 27
 have q:=a4.trans (a0.mono (by omega))
 have ae:=ze (HO _ q (by rw[Q,HS.out]) (fun w' hk=>a9.keptb hk a1))
 have a5:zas c (w.1.size+1) ((n+1)*3):=⟨_,_,HR.out,by simp[xl,ji];omega⟩
 have a6:zas ((((c.setCell ⟨w.1.size+1,n*3,O⟩ (I J (-77))).setCell ⟨w.1.size+1,n*3+1,O⟩ (I J 0)).setCell ⟨w.1.size+1,n*3+2,O⟩ (I J 0)).alloc (.cells #[I J s,I J le,I J Z,I J wi,I J ke,I J qu,.slice (U ⟨w.1.size+1,0,O⟩) n (n+1)] 27)) (w.1.size+1) ((n+1)*3):=(((a5.set (n*3) (I J (-77))).set (n*3+1) (I J 0)).set (n*3+2) (I J 0)).kept (f:=fun _=>False) (zk.of_below ((M _ _).alloc (G _) _)) (fun h=>h)
 have af:=ze a6
 have ac:=ze ((show CF c w.1.size s le Z wi ke qu a n cap from⟨by omega,c0,c1,c2,c3,c4,c5,c6⟩).below a0 (by omega))
 clear a5 a6
 have ai:=ze a9
 have aj:=ze aw
 have ax:=ze a0
 have a2:=ze q
 have ah:=ze Q
 clear hm a9 aw a0 Q q HO
 have HH:=ze h
 go_enter func48,ntmps48
 go_wp2_with fail
 generalize((((c.setCell ⟨w.1.size+1,n*3,O⟩ (I J (-77))).setCell ⟨w.1.size+1,n*3+1,O⟩ (I J 0)).setCell ⟨w.1.size+1,n*3+2,O⟩ (I J 0)).alloc (.cells #[I J s,I J le,I J Z,I J wi,I J ke,I J qu,.slice (U ⟨w.1.size+1,0,O⟩) n (n+1)] 27))=W4 at*
 refine(ud ae).mono ?_
 rintro e w5 ⟨xo,m,rfl,g,aq⟩
 have Q:W4.1.size=c.1.size+1:=ud ah
 have aU:c.1.size=w.1.size+2:=HS.out
 have aY:=(zr g a1 (show w.1.size+1<W4.1.size by omega)).trans (ud aj)
 have au:=(ud ai).keptb g a1
 have L:zk f w w5:=(zk.of_below (f:=f) (ud a2)).trans g (fun _ _ h=>h)
 have av:=V w5 L
 have N:=(ud af).kept g a1
 have r:=(ud ac).kept g aN
 obtain⟨ab,aC,aD,aE,aF,aG,aH,aI⟩:=id r
 have az:=ze L
 have a3:=ze N
 have l:=ze r
 have aA:=ze aq
 have b3:w.1.size+1<w5.1.size:=N.lt
 clear af ac ai aj ax a2 ah L N r aq aM aS x0 x1 x2 an ar a4 aa HR HS a8 aX ae aU Q g V c0 c1 c2 c3 c4 c5 c6
 go_wp2_with fail
 go_loopw [12,13] (fun x y wr=>∃(k:Nat),k<=n/\x=.bool true/\y=I J k/\D w5.1.size w5 wr) (fun _ y _=>n-(intOf y).toNat)
 case atStart=>exact⟨0,Nat.zero_le _,rfl,rfl,M _ _⟩
 case round=>
  obtain⟨k,hk,rfl,rfl,hb⟩:=hrel
  obtain⟨_,c0,c1,c2,c3,c4,c5,c6⟩:=(ud l).below hb ab
  have b9:w.1.size<wr.1.size:=S ab hb.size
  by_cases ap:k<n
  ·have aW:=au.below hb
   have aK:=av.below hb
   obtain⟨b0,b2,e0,ba,am⟩:=aW (by omega)
   cases e0
   obtain⟨b,bb,rfl,b5,hc⟩:=aK (by omega)
   obtain⟨g1,g2,g3⟩:=am k ap
   simp only[Nat.zero_add]at g1 g2 g3
   obtain⟨h1,h2,h3⟩:=hc k ap
   have aQ:(k:Int)<n:=by omega
   have b1:(k:Int)<(n:Int)+1:=by omega
   clear hc am
   have aT:Nonempty (zm wr.1.size wr):=zm.some _ _
   have aR:=fun(u:zm wr.1.size wr) b o h=>u.cell b o h
   go_wp2_with fail
   refine zh wr.1.size (by kernel_rfl) (by kernel_rfl) ?_
   repeat(go_big_quiet_step (fail))
   refine wpQuiet_nil ?_
   rintro⟨w1,aL⟩
   clear aR aT
   dsimp only
   go_wp2_with fail
   go_roundw
   case rel=>exact⟨k+1,by omega,rfl,by go_num,hb.trans (aL.mono hb.size)⟩
   case measure=>simp[intOf];omega
  ·have ay:=ze hb
   have ag:=ze ((ud a3).kept (zk.of_below (f:=fun _=>False) hb) (fun h=>h))
   have ad:=ze ((ud l).below hb ab)
   have aQ:¬(k:Int)<n:=by omega
   clear hb c0 c1 c2 c3 c4 c5 c6 aC aD aE aF aG aH aI a3 l aY au av
   go_wp2_with fail
   go_loopw [14] (fun y wq=>∃(k:Nat),k<=n+1/\y=I J k/\zk (fun j=>j=w.1.size+1) wr wq/\zas wq (w.1.size+1) ((n+1)*3)) (fun y _=>n+1-(intOf y).toNat)
   case atStart=>exact⟨0,Nat.zero_le _,rfl,zk.refl _ _,ud ag⟩
   case round=>
    obtain⟨j,hj,rfl,z,d⟩:=hrel
    obtain⟨b8,c0,c1,c2,c3,c4,c5,c6⟩:=(ud ad).kept z (by omega)
    by_cases b6:j<=n
    ·obtain⟨v0,x0⟩:=d.cell (j*3) (by omega)
     obtain⟨v1,x1⟩:=d.cell (j*3+1) (by omega)
     obtain⟨v2,x2⟩:=d.cell (j*3+2) (by omega)
     have an:=fun o=>d.free o
     have aO:(j:Int)<=n:=by omega
     have aZ:(j:Int)<(n:Int)+1:=by omega
     have b4:=d.lt
     have a7:=ze z
     have aB:=ze d
     clear z d
     go_wp2_with fail
     go_roundw
     case rel=>exact⟨j+1,by omega,by go_num,zn (zn (zn (ud a7) rfl) rfl) rfl,(((ud aB).set _ _).set _ _).set _ _⟩
     case measure=>simp[intOf];omega
    ·have aO:¬(j:Int)<=n:=by omega
     have a7:=ze z
     clear z d c0 c1 c2 c3 c4 c5 c6
     go_wp2_with(go_at_call 98;refine(ZE _ _).mono ?_;rintro e V1 ⟨rfl,ak⟩;rw[ak];clear ak)
     have ao:zk (fun j=>j=w.1.size+1) w5 wr:=(zk.of_below (f:=fun j=>j=w.1.size+1) (ud ay)).trans (ud a7) (fun _ _ h=>h)
     have aP:zk f w wr:=(ud az).trans ao (fun i hi e=>by omega)
     have aJ:=hR xo m w5 wr ao (ud aA)
     (try simp only[Exit.inBlock,Exit.then])
     refine bodyPost_ret (results_tmp3 rfl _ _ _) rfl ?_
     exact⟨xo,m,rfl,aP,aJ⟩
end Go.Proofs.YtpbimdkclnekeaaGreat
