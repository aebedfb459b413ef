import Derived.Test.YtndhpgciopcncaaGreatDoorVCmp0
import Derived.Deep.RegionHeld3
import Derived.Lib.AppendIntMem
import Derived.Lib.ItoaLen
import Derived.Lib.Slices
import Derived.Lib.Hide
import Derived.Laws.IdiomStrings
import Derived.OwnWalk
import Derived.WalkKit
import Derived.BigCall
import Derived.Maps.OwnIn
import Derived.OwnWalkIn
import Derived.Sort.Statements
import Derived.Shelf.SlSortCmp.WholeK
import Derived.Shelf.SlSortCmp.NoneTotal
open Go.Value renaming int → I
open Go.IntKind renaming i64 → O
open Option renaming none → E
open Option renaming some → U
open Go.IntKind renaming i32 → G
open Go renaming World → R
open Nat renaming le_refl → T
open Go.RowKit renaming Below → C
open Go renaming Value → z0
open Nat renaming lt_of_lt_of_le → z1
open Go.RowKit.Below renaming refl → z2
open Nat renaming le_of_lt → z8
set_option linter.unusedVariables false
set_option maxRecDepth 100000
set_option maxHeartbeats 8000000
open Go.Proofs.Tryz
namespace Go.Proofs.YtndhpgciopcncaaGreatDoor
open Go.ChangeMaps (setBlock)
open Go.RowKit Go.Maps Go.Shelf
def xz(zs:List Cl):Cl:=⟨kq (zs.map (·.cnt)),kq (zs.map (·.sum)),((qt Q5 zs).getD qc).mn,((qt Q6 zs).getD qc).mx⟩
section
variable {b cap:Nat} {ad:Option Addr} {zs:List Cl} {Y:R}
theorem Xj(a:zs≠[]->ad=U ⟨b,0,E⟩)(e:zs.length<=1000)(c:b<Y.1.size)(d:CAt Y b zs):SeqStopsK Fence.wide 6 prog 238 #[.pointer (U ⟨Y.1.size,0,E⟩)] (fun x:Cl=>#[.agg #[I O x.cnt,I O x.sum,I G x.mn,I G x.mx]]) (C (Y.alloc (.cells #[.slice ad zs.length cap] 208)).1.size) (fun xs=>xs=zs) (fun _=>True) zs.length (Y.alloc (.cells #[.slice ad zs.length cap] 208)):=
 Yp 6 (by omega) Y.1.size _ b cap ad zs a e (by simp;omega) _ (T _) (by simp) (by rw[xD (zk _ _)];rfl) (d.below ((z2 _ _).alloc (T _) _) c)
theorem Xp{w':R}{o:Obj}(h:C (Y.alloc o).1.size (Y.alloc o) w'):C Y.1.size Y w':=((z2 _ _).alloc (T _) o).trans (h.mono (by simp))
theorem zgA(V:Int)(a:kq (zs.map (·.cnt))=V)(c:zs≠[]->ad=U ⟨b,0,E⟩)(g:zs.length<=1000)(d:b<Y.1.size)(f:CAt Y b zs):Calls prog 190 #[.func (.func 238) #[] #[.pointer (U ⟨Y.1.size,0,E⟩)],.func (.func 191) #[] #[]] (Y.alloc (.cells #[.slice ad zs.length cap] 208)) fun e w'=>e=.returned (I O V)/\C Y.1.size Y w':=by
 refine(ziM _ _ Zd (·.cnt) _ (yK _) (fun x W _=>zdf x W) (Xj c g d f)).mono ?_
 rintro e w' ⟨xs,rfl,rfl,h⟩
 exact⟨by rw[a],Xp h⟩
theorem zgB(V:Int)(a:kq (zs.map (·.sum))=V)(c:zs≠[]->ad=U ⟨b,0,E⟩)(g:zs.length<=1000)(d:b<Y.1.size)(f:CAt Y b zs):Calls prog 192 #[.func (.func 238) #[] #[.pointer (U ⟨Y.1.size,0,E⟩)],.func (.func 193) #[] #[]] (Y.alloc (.cells #[.slice ad zs.length cap] 208)) fun e w'=>e=.returned (I O V)/\C Y.1.size Y w':=by
 refine(ziN _ _ Zd (·.sum) _ (yK _) (fun x W _=>zdg x W) (Xj c g d f)).mono ?_
 rintro e w' ⟨xs,rfl,rfl,h⟩
 exact⟨by rw[a],Xp h⟩
theorem zdp(f:Cl)(s:Bool)(g:(qt Q5 zs).getD qc=f)(i:(qt Q5 zs).isSome=s)(a:zs≠[]->ad=U ⟨b,0,E⟩)(j:zs.length<=1000)(c:b<Y.1.size)(d:CAt Y b zs):Calls prog 185 #[.func (.func 238) #[] #[.pointer (U ⟨Y.1.size,0,E⟩)],.func (.func 187) #[] #[]] (Y.alloc (.cells #[.slice ad zs.length cap] 208)) fun e w'=>e=.returned (.tuple #[.agg #[I O f.cnt,I O f.sum,I G f.mn,I G f.mx],.bool s])/\C Y.1.size Y w':=by
 refine(zaM _ _ Zd _ (yK _) (Xj a j c d)).mono ?_
 rintro e w' ⟨xs,rfl,rfl,h⟩
 exact⟨by rw[g,i];rfl,Xp h⟩
theorem KF(f:Cl)(s:Bool)(g:(qt Q6 zs).getD qc=f)(i:(qt Q6 zs).isSome=s)(a:zs≠[]->ad=U ⟨b,0,E⟩)(j:zs.length<=1000)(c:b<Y.1.size)(d:CAt Y b zs):Calls prog 185 #[.func (.func 238) #[] #[.pointer (U ⟨Y.1.size,0,E⟩)],.func (.func 189) #[] #[]] (Y.alloc (.cells #[.slice ad zs.length cap] 208)) fun e w'=>e=.returned (.tuple #[.agg #[I O f.cnt,I O f.sum,I G f.mn,I G f.mx],.bool s])/\C Y.1.size Y w':=by
 refine(zaN _ _ Zd _ (yK _) (Xj a j c d)).mono ?_
 rintro e w' ⟨xs,rfl,rfl,h⟩
 exact⟨by rw[g,i];rfl,Xp h⟩
end
theorem Yy(ad:Option Addr)(b cap:Nat)(zs:List Cl)(ha:zs≠[]->ad=U ⟨b,0,E⟩)(hz:zs.length<=1000)(w:R)(u:b<w.1.size)(q:CAt w b zs):
  Calls prog 123 #[.slice ad zs.length cap] w fun e w'=>e=.returned (clV (xz zs))/\C w.1.size w w':=by
 obtain⟨c,N⟩:∃f,(qt Q5 zs).getD qc=f:=⟨_,rfl⟩
 obtain⟨s1,a9⟩:∃f,(qt Q5 zs).isSome=f:=⟨_,rfl⟩
 obtain⟨a,P⟩:∃f,(qt Q6 zs).getD qc=f:=⟨_,rfl⟩
 obtain⟨s2,aa⟩:∃f,(qt Q6 zs).isSome=f:=⟨_,rfl⟩
 obtain⟨S,y⟩:∃f,kq (zs.map (·.cnt))=f:=⟨_,rfl⟩
 obtain⟨v2,z⟩:∃f,kq (zs.map (·.sum))=f:=⟨_,rfl⟩
 have hj:clV (xz zs)=.agg #[I O S,I O v2,I G c.mn,I G a.mx]:=by unfold xz clV;rw[N,P,y,z]
 rw[hj]
 clear hj
 have aF:=zd y
 have aG:=zd z
 have K:C w.1.size w (w.alloc (.cells #[I O 0,I O 0,I G 0,I G 0] 115)):=(z2 _ _).alloc (T _) _
 have a6:=zk w (.cells #[I O 0,I O 0,I G 0,I G 0] 115)
 have ac:=zI w (.cells #[I O 0,I O 0,I G 0,I G 0] 115)
 have J:=fun Y=>zd (J1 ad zs.length cap Y)
 have ar:=fun(Y:R) (u:b<Y.1.size) (q:CAt Y b zs)=>zd (zdp (cap:=cap) (Y:=Y) c s1 N a9 ha hz u q)
 have al:=fun(Y:R) (u:b<Y.1.size) (q:CAt Y b zs)=>zd (KF (cap:=cap) (Y:=Y) a s2 P aa ha hz u q)
 have au:=fun(Y:R) (u:b<Y.1.size) (q:CAt Y b zs)=>zd (zgA (cap:=cap) (Y:=Y) S y ha hz u q)
 have W:=fun(Y:R) (u:b<Y.1.size) (q:CAt Y b zs)=>zd (zgB (cap:=cap) (Y:=Y) v2 z ha hz u q)
 clear N a9 P aa y z hz ha
 go_enter func123,ntmps123
 go_wp2_with fail
 have L:=q.below K u
 generalize(w.alloc (.cells #[I O 0,I O 0,I G 0,I G 0] 115))=X0 at*
 have a2:b<X0.1.size:=by omega
 have ay:w.1.size<X0.1.size:=by omega
 have aH:=zd ac
 clear ac
 have X:=J X0
 refine(ud X).mono ?_
 rintro e x1 ⟨rfl,rfl⟩
 go_wp2_with fail
 have an:=ar X0 a2 L
 refine(ud an).mono ?_
 rintro e i ⟨rfl,a0⟩
 have H:=zd a0
 clear a0
 go_wp2_with fail
 have o:=(ud H).alloc (ud H).size (.cells #[I O c.cnt,I O c.sum,I G c.mn,I G c.mx] 115)
 have a7:=zk i (.cells #[I O c.cnt,I O c.sum,I G c.mn,I G c.mx] 115)
 have ai:=zI i (.cells #[I O c.cnt,I O c.sum,I G c.mn,I G c.mx] 115)
 have M:=L.below o (by omega)
 generalize(i.alloc (.cells #[I O c.cnt,I O c.sum,I G c.mn,I G c.mx] 115))=XA at*
 have aC:=o.size
 have a3:b<XA.1.size:=by omega
 have az:w.1.size<XA.1.size:=by omega
 have aL:i.1.size<XA.1.size:=by omega
 have aI:=zd ai
 clear ai
 have Z:=J XA
 refine(ud Z).mono ?_
 rintro e x1 ⟨rfl,rfl⟩
 go_wp2_with fail
 have ao:=al XA a3 M
 refine(ud ao).mono ?_
 rintro e l ⟨rfl,a1⟩
 have r:=zd a1
 clear a1
 go_wp2_with fail
 have m:=(ud r).alloc (ud r).size (.cells #[I O a.cnt,I O a.sum,I G a.mn,I G a.mx] 115)
 have a8:=zk l (.cells #[I O a.cnt,I O a.sum,I G a.mn,I G a.mx] 115)
 have aB:=zI l (.cells #[I O a.cnt,I O a.sum,I G a.mn,I G a.mx] 115)
 have a5:=M.below m (by omega)
 have D:=(m.block i.1.size (by omega)).trans a7
 have k:=(m.block w.1.size (by omega)).trans ((o.block w.1.size (by omega)).trans a6)
 have ab:C w.1.size w (l.alloc (.cells #[I O a.cnt,I O a.sum,I G a.mn,I G a.mx] 115)):=K.trans ((o.mono (z8 ay)).trans (m.mono (z8 az)))
 have aD:=m.size
 have aE:=(ud r).size
 generalize(l.alloc (.cells #[I O a.cnt,I O a.sum,I G a.mn,I G a.mx] 115))=t at*
 obtain⟨-,-,l1,-⟩:=zc D
 obtain⟨-,-,-,l2,-⟩:=zc a8
 obtain⟨r0,r1,r2,r3,-⟩:=zc k
 have rf:=fun j=>zC k j
 have am:=zd k
 have av:=zd ab
 have ae:i.1.size<t.1.size:=by omega
 have af:l.1.size<t.1.size:=by omega
 have Q:w.1.size<t.1.size:=by omega
 have hbb:b<t.1.size:=by omega
 clear a6 a7 D a8 k o m ab M L q aC aD aE aB K
 have aw:¬i.1.size=w.1.size:=by have:=(ud H).size;omega
 have ax:¬l.1.size=w.1.size:=by have:=(ud r).size;omega
 have aJ:¬w.1.size=i.1.size:=fun h=>aw h.symm
 have aK:¬w.1.size=l.1.size:=fun h=>ax h.symm
 have V:Hid (Calls prog 190 #[.func (.func 238) #[] #[.pointer (U ⟨t.1.size,0,E⟩)],.func (.func 191) #[] #[]] (t.alloc (.cells #[.slice ad zs.length cap] 208)).drew fun e w'=>e=.returned (I O S)/\C t.1.size t w'):=zd ((ud (au t.drew hbb a5)).mono fun e w' h=>⟨h.1,⟨h.2.os,h.2.tape,h.2.output,h.2.size,h.2.block⟩⟩)
 go_region_held3 (fun w'=>w'.cell? ⟨i.1.size,2,E⟩=U (I G c.mn)/\w'.cell? ⟨l.1.size,3,E⟩=U (I G a.mx)) (go_keep) (first
  |(go_at_call 186;refine(ud (J _)).mono ?_;rintro e x1 ⟨rfl,rfl⟩)
  |(go_at_call 190;refine(ud V).mono ?_;rintro e s ⟨rfl,d⟩;have m1:s.cell? ⟨i.1.size,2,E⟩=U (I G c.mn):=(d.cell (p:=⟨i.1.size,2,E⟩) ae).trans l1;have m2:s.cell? ⟨l.1.size,3,E⟩=U (I G a.mx):=(d.cell (p:=⟨l.1.size,3,E⟩) af).trans l2;have A:b<s.1.size:=z1 hbb d.size;have a4:CAt s b zs:=a5.below d hbb;have ag:i.1.size<s.1.size:=z1 ae d.size;have ah:l.1.size<s.1.size:=z1 af d.size;have F:w.1.size<s.1.size:=z1 Q d.size;have ap:=zd ((d.block w.1.size Q).trans (ud am));have aj:=zd d;clear d)
  |(go_at_call 192;(first|refine(ud (W s A a4)).mono ?_|refine(ud (W s.drew A a4)).mono ?_);rintro e X4 ⟨rfl,n⟩;have n1:X4.cell? ⟨i.1.size,2,E⟩=U (I G c.mn):=(n.cell (p:=⟨i.1.size,2,E⟩) ag).trans m1;have n2:X4.cell? ⟨l.1.size,3,E⟩=U (I G a.mx):=(n.cell (p:=⟨l.1.size,3,E⟩) ah).trans m2;have x:=(n.block w.1.size F).trans (ud ap);obtain⟨q0,q1,q2,q3,-⟩:=zc x;have qf:=fun j=>zC x j;have aq:=zd x;have ak:=zd n;clear x n))
 go_wp2_with fail
 have hf:=YY (ud aq) (I O S) (I O v2) (I G c.mn) (I G a.mx)
 have aA:=(ud av).trans (((ud aj).mono (z8 Q)).trans (((ud ak).mono (z8 F)).trans (below4 (w:=X4) (B:=w.1.size) (g:=w.1.size) (T _) (I O S) (I O v2) (I G c.mn) (I G a.mx))))
 refine bodyPost_ret (v:=.agg #[I O S,I O v2,I G c.mn,I G a.mx]) (results_cell_row results123 _ _ w.1.size _ _ _ _ rfl hf underlying115 rfl (by kernel_rfl)) rfl ?_
 exact⟨rfl,aA⟩
def yt(v:Int):Cl:=⟨1,v,v,v⟩
def Cl.small(x:Cl):Prop:=0<=x.cnt/\x.cnt<=1000000000000/\ -1000000000000000000<=x.sum/\x.sum<=1000000000000000000
theorem zfI(v:Int)(hv: -2147483648<=v/\v<=2147483647):xz [yt v]=qp v E:=by
 unfold xz
 have a:kq ([yt v].map (·.cnt))=1:=by rw[yV]<;>simp[qq,yt]
 have b:kq ([yt v].map (·.sum))=v:=by rw[yV]<;>simp[qq,yt];omega
 rw[a,b]
 simp[qt,kL,yt,qp]
theorem zcC(a b:Int):zaD a b<0↔a<b:=by
 unfold zaD;split
 ·simp[*]
 ·split<;>simp[*]
theorem zfJ(v:Int)(hv: -2147483648<=v/\v<=2147483647)(o:Cl)(e:o.small):xz [yt v,o]=qp v (U o):=by
 obtain⟨f,g,h,i⟩:=e
 unfold xz
 have c:kq ([yt v,o].map (·.cnt))=1+o.cnt:=by rw[yV]<;>simp[qq,yt];omega
 have d:kq ([yt v,o].map (·.sum))=v+o.sum:=by rw[yV]<;>simp[qq,yt];omega
 rw[c,d]
 have a:((qt Q5 [yt v,o]).getD qc).mn=if o.mn<v then o.mn else v:=by
  simp only[qt,List.foldl_cons,List.foldl_nil,kL,Q5,zcC,yt]
  split<;>simp
 have b:((qt Q6 [yt v,o]).getD qc).mx=if v<o.mx then o.mx else v:=by
  simp only[qt,List.foldl_cons,List.foldl_nil,kL,Q6,zcC,yt]
  split<;>simp
 rw[a,b];rfl
theorem zfY(L:LV)(s:Sg)(v:SV):(ya L s v).length<=L.length+1:=by unfold ya;split<;>simp
def ziK(L:LV):Prop:=∀p∈L,p.2.st≠0
theorem zfR{L:LV}(h:ziK L)(s:Sg):(stL L s).st=0↔s∉zt L:=by
 constructor
 ·intro a b
  obtain⟨v,hv,c⟩:=Yr b
  unfold stL at a;rw[hv]at a;exact h _ c a
 ·intro b;unfold stL;rw[kh.2 b];rfl
theorem Xl{w:R}{base g size n:Nat}{e:TypeId}{xs:List z0}(h:w.1[g]?=U (.cells xs.toArray e (0,0)))(a:xs.length=n*size)(hn:0<n)(c:n<=maxLen)(b:base<=g):w.ownsRow base e size (.slice (U ⟨g,0,E⟩) n n) n xs:=
 ⟨a,.inr ⟨g,n,_,rfl,b,h,⟨T _,c,by simp[a],by
  show List.take (n*size) xs=xs
  exact List.take_of_length_le (by omega)⟩⟩⟩
def vK(x:Cl):List z0:=[I O x.cnt,I O x.sum,I G x.mn,I G x.mx]
theorem CAt.of_owns{w:R}{base g cap:Nat}{e:TypeId}{zs:List Cl}(h:w.ownsRow base e 4 (.slice (U ⟨g,0,E⟩) zs.length cap) zs.length (zs.flatMap vK)):CAt w g zs:=fun j x b=>by
 have d:j<zs.length:=(List.getElem?_eq_some_iff.1 b).1
 have a:=fun i c=>yJ (f:=vK) (k:=4) (fun _=>rfl) zs j x i b c
 refine⟨?_,?_,?_,?_⟩
 ·rw[h.cellAt (j*4) (by omega)];exact a 0 (by omega)
 ·rw[h.cellAt (j*4+1) (by omega)];exact a 1 (by omega)
 ·rw[h.cellAt (j*4+2) (by omega)];exact a 2 (by omega)
 ·rw[h.cellAt (j*4+3) (by omega)];exact a 3 (by omega)
theorem zbB{X:R}{s lb gb:Nat}{c:Cf}{tv:z0}{Gl:List (Sg×Unit)}{L:LV}(h:xt X s c tv lb gb Gl L)(b:L.length<maxLen){k:Sg}(d:k.wf)(v:SV):
  ∃o,(Instr.mapUpdate 152 (.map (U lb)) (.agg #[I O k.t,I O k.sr,I O k.wa]) (.agg #[I O k.t,I O k.sr,I O k.wa,I O v.st,I O v.cl.cnt,I O v.cl.sum,I G v.cl.mn,I G v.cl.mx])).run prog X=.ok () (setBlock X lb o)/\xt (setBlock X lb o) s c tv lb gb Gl (ya L k v)/\zo (fun k=>k=lb) X (setBlock X lb o)/\o.isCells=false:=by
 obtain⟨o,l,m,g,n⟩:=Vv h.live b d v
 have a:∀{k:Nat} {cs:Array z0} {t:TypeId} {j:Nat×Nat},X.1[k]?=U (.cells cs t j)->¬k=lb:=fun d e=>by
  obtain⟨r,q,p,_⟩:=h.live;rw[e,p]at d;cases d
 refine⟨o,l,⟨g.heap h.head (a h.head),zg h.trow g (fun k d=>?_),m,h.gone.kept g h.apart,h.apart⟩,g,n⟩
 obtain⟨i,f⟩:=zH h.trow d
 exact a f
theorem jD{w X:R}{lb:Nat}{L:LV}{s:Sg}(b:qP w lb L)(a:C w.1.size w X)(c:s.wf):(Instr.lookup 152 (.map (U lb)) (.agg #[I O s.t,I O s.sr,I O s.wa]) true).run prog X=.ok (.tuple #[.agg #[I O (stX L s).1.t,I O (stX L s).1.sr,I O (stX L s).1.wa,I O (stX L s).2.st,I O (stX L s).2.cl.cnt,I O (stX L s).2.cl.sum,I G (stX L s).2.cl.mn,I G (stX L s).2.cl.mx],.bool (yA L s).isSome]) X:=by
 have:=zaj true (b.later a) c
 have e:Je true (yO zX) L s=.tuple #[yO (stX L s),.bool (yA L s).isSome]:=by
  unfold Je stX;cases yA L s<;>rfl
 rw[e]at this
 exact this
theorem Tryz.infoCell:(prog.info? 115).map (fun i=>(i.zero,i.size,i.bytes))=U (U (.agg #[I O 0,I O 0,I G 0,I G 0]),4,24):=by kernel_rfl
theorem zdK{w:R}{ops:Array Oper}{rest:List Oper}{o:Oper}{a:Act}{Q:Exit->Act->R->Prop}(e:o.guard=E)(s x:Operand)
  (n:o.op=.call {callee:=.builtin .append,args:=#[s,x],argTypes:=#[208,208]}) (base:Nat) (v:z0) (l:List Cl) (f:Cl) (p:a.eval s=v) (b:w.ownsRow base 115 4 v l.length (l.flatMap vK))
  (c:Nat) (q:a.eval x=.slice (U ⟨c,0,E⟩) 1 1) (d:w.1[c]?=U (.cells #[I O f.cnt,I O f.sum,I G f.mn,I G f.mx] 115 (0,0))) (r:l.length<=1000000000) (hbase:base<=w.1.size)
  (h:∀g cap w',w'.ownsRow base 115 4 (.slice (U ⟨g,0,E⟩) (l.length+1) cap) (l++[f]).length ((l++[f]).flatMap vK)->w.grownBy w' v.ownBlock->g<w'.1.size->wpList prog ops Q rest (a.put o.dst (.slice (U ⟨g,0,E⟩) (l.length+1) cap)) w'):wpList prog ops Q (o::rest) a w:=
 xx e s x 208 n base 115 _ 4 24 underlying208 Tryz.infoCell rfl (by decide) v l.length (l.flatMap vK) p b ⟨c,0,E⟩ 1 1 [I O f.cnt,I O f.sum,I G f.mn,I G f.mx] q rfl
  (World.news_of_block (cs:=#[I O f.cnt,I O f.sum,I G f.mn,I G f.mx]) d) (by intro u i;simp at i;rcases i with rfl|rfl|rfl|rfl<;>rfl) (by decide) (by simp only[maxLen];omega) (by omega) hbase
  fun g cap w' j _ k _ m=>h g cap w' (by rw[KC,List.length_append,List.length_singleton];exact j) k m
theorem zN{f:Nat->Prop}{A B:R}(h:zo f A B){k i:Nat}(hn:¬f k)(a:k<A.1.size):B.cell? ⟨k,i,E⟩=A.cell? ⟨k,i,E⟩:=by
 simp only[World.cell?,h.block k a hn]
def Xe(q:List (Sg×Unit)×LV)(x:SX):List (Sg×Unit)×LV:=if x.2.st=4 then(qr q.1 x.1 (),xq q.2 x.1)else(q.1,ya q.2 x.1 x.2)
def yC(q:List (Sg×Unit)×LV)(xs:List SX):List (Sg×Unit)×LV:=xs.foldl Xe q
theorem ZM(q:List (Sg×Unit)×LV)(xs:List SX)(x:SX):yC q (xs++[x])=Xe (yC q xs) x:=by simp[yC]
def zgY(c:Cf)(L:LV)(x:Nm):SX:=(xk c x,⟨1,qp x.val ((yA L (xk c x)).map (·.cl))⟩)
def XY(c:Cf)(Gl:List (Sg×Unit))(L:LV)(x:Nm)(k:Nat):List SX:=((qi c x.sr x.tm k).filter (fun s=>(stG Gl L s).st==0)).map (fun s=>(s,(⟨2,qc⟩:SV)))
def yZ(c:Cf)(Gl:List (Sg×Unit))(L:LV)(x:Nm):List SX:=zgY c L x::XY c Gl L x c.n
theorem QQ(c:Cf)(x:Nm):∀(k:Nat) (L:LV) (s:Sg),s∈zt (yx c x k L)↔s∈zt L\/∃j:Nat,j<k/\s=zG c (j:Int) x
 |0,L,s=>by simp[yx]
 |k+1,L,s=>by
  have f:=QQ c x k L
  show s∈zt (xN c x k (yx c x k L))↔_
  unfold xN
  by_cases d:zG c (k:Int) x∈zt (yx c x k L)
  ·rw[if_pos d,f]
   constructor
   ·rintro(h|⟨j,b,e⟩)
    ·exact .inl h
    ·exact .inr ⟨j,by omega,e⟩
   ·rintro(h|⟨j,b,e⟩)
    ·exact .inl h
    ·by_cases a:j=k
     ·subst a;subst e;exact(f _).1 d
     ·exact .inr ⟨j,by omega,e⟩
  ·rw[if_neg d,xF,f]
   constructor
   ·rintro((h|⟨j,b,e⟩)|e)
    ·exact .inl h
    ·exact .inr ⟨j,by omega,e⟩
    ·exact .inr ⟨k,by omega,e⟩
   ·rintro(h|⟨j,b,e⟩)
    ·exact .inl (.inl h)
    ·by_cases a:j=k
     ·subst a;exact .inr e
     ·exact .inl (.inr ⟨j,by omega,e⟩)
theorem Vp{c:Cf}{Gl:List (Sg×Unit)}{L:LV}{x:Nm}(d:ziK L)(b:∀k:Nat,k<c.n->zY Gl (zG c (k:Int) x)=E):∀k:Nat,k<=c.n->yC (Gl,qs c L x) (XY c Gl L x k)=(Gl,yx c x k (qs c L x))
 |0,_=>rfl
 |k+1,o=>by
  have i:=Vp d b k (by omega)
  have l:xX c x.sr x.tm k=zG c (k:Int) x:=rfl
  have g:(stG Gl L (zG c (k:Int) x)).st=0↔zG c (k:Int) x∉zt L:=by unfold stG;rw[b k (by omega)];exact zfR d _
  have a:zG c (k:Int) x∈zt (yx c x k (qs c L x))↔zG c (k:Int) x∈zt L:=by
   rw[QQ]
   unfold qs
   rw[xF]
   constructor
   ·rintro((h|h)|⟨j,m,e⟩)
    ·exact h
    ·exact absurd h (zdX (by omega))
    ·exact absurd e (zdX (by omega))
   ·exact fun h=> .inl (.inl h)
  have e:XY c Gl L x (k+1)=XY c Gl L x k++(if zG c (k:Int) x∈zt L then[]else[(zG c (k:Int) x,(⟨2,qc⟩:SV))]):=by
   unfold XY
   rw[yP,List.filter_append,List.map_append,l]
   congr 1
   by_cases h:zG c (k:Int) x∈zt L
   ·rw[if_pos h,List.filter_cons,if_neg (by simpa using fun f=>g.1 f h)];rfl
   ·rw[if_neg h,List.filter_cons,if_pos (by simpa using g.2 h)];rfl
  rw[e]
  show _=(Gl,xN c x k (yx c x k (qs c L x)))
  unfold xN
  by_cases h:zG c (k:Int) x∈zt L
  ·rw[if_pos h,if_pos (a.2 h),List.append_nil,i]
  ·rw[if_neg h,if_neg (fun f=>h (a.1 f)),ZM,i]
   rfl
theorem zbr{c:Cf}{Gl:List (Sg×Unit)}{L:LV}{x:Nm}(b:ziK L)(a:∀k:Nat,k<c.n->zY Gl (zG c (k:Int) x)=E):yC (Gl,L) (yZ c Gl L x)=(Gl,kN c L x):=by
 have h:=Vp b a c.n (T _)
 unfold kN
 rw[<-h];rfl
theorem zio{w:R}{base:Nat}{e:TypeId}{size:Nat}{v:z0}{n:Nat}{xs:List z0}(h:w.ownsRow base e size v n xs):∀k,v.ownBlock=U k->base<=k:=fun k a=>by
 rcases h.2 with⟨rfl,_⟩|⟨g,cap,b,rfl,c,_⟩
 ·simp[Value.ownBlock]at a
 ·simp[Value.ownBlock]at a;subst a;exact c
def ql(L:LV)(f sr a:Int)(j:Nat):List Cl:=(List.range j).filterMap (fun i:Nat=>(yA L ⟨f,sr,a+i⟩).map (·.cl))
theorem Qi(L:LV)(f sr a:Int)(j:Nat):ql L f sr a (j+1)=ql L f sr a j++(match yA L ⟨f,sr,a+j⟩with|some v=>[v.cl]|none=>[]):=by
 unfold ql
 rw[List.range_succ,List.filterMap_append]
 congr 1
 cases h:yA L ⟨f,sr,a+j⟩<;>simp[h]
theorem Y9(L:LV)(f sr a:Int)(j:Nat):(ql L f sr a j).length<=j:=by
 have:=List.length_filterMap_le (fun i:Nat=>(yA L ⟨f,sr,a+i⟩).map (·.cl)) (List.range j)
 simpa[ql]using this
def xp(c:Cf)(L:LV)(sr wa:Int)(k:Nat):List Cl:=ql L (c.F k) sr (wa*xM c k) (xM c k).toNat
theorem zbI{w:R}{s:Nat}{c:Cf}{tv:z0}{lb gb:Nat}{Gl:List (Sg×Unit)}{L:LV}(h:xt w s c tv lb gb Gl L)(hc:c.ok)(k:Nat)(hk:k<c.n)(sr wa:Int)(ag:xg sr)(a5:0<=wa/\wa<=100000):
  Calls prog 171 #[.pointer (U ⟨s,0,E⟩),.agg #[I O k,I O sr,I O wa]] w fun e w'=>∃ad g cap,e=.returned (.slice ad (xp c L sr wa k).length cap)/\(xp c L sr wa k≠[]->ad=U ⟨g,0,E⟩)/\g<w'.1.size/\CAt w' g (xp c L sr wa k)/\C w.1.size w w':=by
 obtain⟨a,cap,rfl⟩:=zL h.trow
 have l:=h.lt
 have ah:=TS.of_owns h.trow
 obtain⟨c0,c1,c2,c3,c4,c5,c6,c7,-⟩:=h.cells
 obtain⟨ae,az⟩:=jV hc hk
 obtain⟨f1,f2⟩:=hc.F k hk
 have aM:=hc.n4
 have aO:0<=wa*xM c k/\wa*xM c k<=100000000:=⟨Int.mul_nonneg a5.1 ae,by have:=Int.mul_le_mul a5.2 az ae (by omega);omega⟩
 have af:(wa+1)*xM c k=wa*xM c k+xM c k:=by rw[Int.add_mul,Int.one_mul]
 have K:∀j:Nat,j<=(xM c k).toNat->(ql L (c.F k) sr (wa*xM c k) j).length<=1000:=fun j hj=>by have:=Y9 L (c.F k) sr (wa*xM c k) j;omega
 have V:=fun W hW=>zd (zaX c hc a cap k hk wa a5 W (ah.below (w':=W) hW))
 rw[show xp c L sr wa k=ql L (c.F k) sr (wa*xM c k) (xM c k).toNat from rfl]
 simp only[af]at V
 generalize wa*xM c k=A at*
 generalize xM c k=M at*
 have a6:=zd K
 clear K af
 have f:C w.1.size w (w.alloc (.cells #[I O k,I O sr,I O wa] 146)):=(z2 _ _).alloc (T _) _
 have q0:=zk w (.cells #[I O k,I O sr,I O wa] 146)
 have qz:=zI w (.cells #[I O k,I O sr,I O wa] 146)
 obtain⟨k0,k1,k2,-⟩:=zc q0
 have d0:=(f.cell (p:=⟨s,0,E⟩) l).trans c0
 have d1:=(f.cell (p:=⟨s,1,E⟩) l).trans c1
 have d2:=(f.cell (p:=⟨s,2,E⟩) l).trans c2
 have d3:=(f.cell (p:=⟨s,3,E⟩) l).trans c3
 have d4:=(f.cell (p:=⟨s,4,E⟩) l).trans c4
 have d5:=(f.cell (p:=⟨s,5,E⟩) l).trans c5
 have d6:=(f.cell (p:=⟨s,6,E⟩) l).trans c6
 have S:=zd f
 have H:=zd h
 have Q0:=zd q0
 have BZ:=zd qz
 clear h ah f q0 c0 c1 c2 c3 c4 c5 c6
 go_enter func171,ntmps171
 go_wp2_with fail
 have q1:w.1.size<w.1.size+1:=by omega
 have q2:s<w.1.size+1:=by omega
 generalize(w.alloc (.cells #[I O k,I O sr,I O wa] 146))=X at*
 generalize hN:w.1.size+1=N at*
 have aA:Nonempty (zS N X):=zS.some _ _
 have ax:=fun(u:zS N X) b o h=>u.cell b o h
 have a9:N<=X.1.size:=by rw[ud BZ];exact T _
 have a7:=zd a9
 have a0:Hid (w.1.size<=N):=by show w.1.size<=N;omega
 have HN:=zd hN
 clear a9 hN
 refine zv N (by kernel_rfl) (by kernel_rfl) ?_
 repeat(go_big_quiet_step (first
  |(go_at_call 232;exact Calls.later (ud a7) (ud (V _ ((ud S).trans (Below.mono (Subtype.property _) (ud a0))))))))
 refine wpQuiet_nil ?_
 rintro⟨w1,a1⟩
 clear ax aA
 dsimp only
 go_wp2_with fail
 have r:C w.1.size w w1:=(ud S).trans (a1.mono (ud a0))
 have a3:w1.1[w.1.size]?=U (.cells #[I O k,I O sr,I O wa] 146 (0,0)):=(a1.block _ (by have:=ud HN;omega)).trans (ud Q0)
 have ak:=za a3
 have a8:=zd ((ud H).later r)
 have HQ:=zd a3
 have J:=zd r
 have a2:=((ud a8).foot_lt)
 have aI:=zd a2
 have aw:lb<w1.1.size:=a2 lb (.inr (.inr (.inl rfl)))
 clear a3 r a2 a1 S V a7 a0 HN BZ Q0 k0 k1 k2 d0 d1 d2 d3 d4 d5 d6 q1 q2 c7
 go_loopw [5,9,10,11] (fun cv wv _ _ wr=>∃j:Nat,j<=M.toNat/\wv=I O (A+j)/\wr.ownsRow w1.1.size 115 4 cv (ql L (c.F k) sr A j).length ((ql L (c.F k) sr A j).flatMap vK)/\C w1.1.size w1 wr)
  (fun _ wv _ _ _=>(A+M-intOf wv).toNat)
 case atStart=>exact⟨0,Nat.zero_le _,by simp,World.ownsRow_nil _ _ _ _,z2 _ _⟩
 case round=>
  obtain⟨j,hj,rfl,hv,hb⟩:=hrel
  obtain⟨ad,cp,ai⟩:=zL hv
  have aK:=ud a6 j hj
  by_cases aL:j<M.toNat
  ·have aE:A+j<A+M:=by omega
   have i:=(ud a8).later hb
   obtain⟨-,-,-,-,-,-,-,x7,-⟩:=i.cells
   have aH:=i.lt
   have a4:=(hb.block _ ak).trans (ud HQ)
   obtain⟨-,y1,-⟩:=zc a4
   have aG:=za a4
   have m:(⟨c.F k,sr,A+j⟩:Sg).wf:=⟨by unfold xg;dsimp only;omega,ag,by unfold xg;dsimp only;omega⟩
   obtain⟨d,D⟩:∃d,stX L ⟨c.F k,sr,A+j⟩=d:=⟨_,rfl⟩
   obtain⟨ok,B⟩:∃ok,(yA L ⟨c.F k,sr,A+j⟩).isSome=ok:=⟨_,rfl⟩
   have g0:=jD (X:=wr) i.live (z2 _ _) m
   have g1:=jD (X:=wr.drew) i.live (z2 _ _).drew m
   have g2:=fun o=>jD (X:=wr.alloc o) i.live ((z2 _ _).alloc (T _) o) m
   have g3:=fun o=>jD (X:=(wr.alloc o).drew) i.live ((z2 _ _).alloc (T _) o).drew m
   have g4:=fun o=>jD (X:=wr.drew.alloc o) i.live ((z2 _ _).drew.alloc (T _) o) m
   rw[D,B]at g0 g1
   simp only[D,B]at g2 g3 g4
   have HV:=zd hv
   have HB:=zd hb
   have au:=zd D
   have aq:=zd B
   subst ai
   clear hv hb i a4 m D B
   go_wp2_with fail
   go_region
   have aa:C wr.1.size wr ((wr.alloc (.cells #[I O d.1.t,I O d.1.sr,I O d.1.wa,I O d.2.st,I O d.2.cl.cnt,I O d.2.cl.sum,I G d.2.cl.mn,I G d.2.cl.mx] 148)).drew):=((z2 _ _).alloc (T _) _).drew
   have ac:((wr.alloc (.cells #[I O d.1.t,I O d.1.sr,I O d.1.wa,I O d.2.st,I O d.2.cl.cnt,I O d.2.cl.sum,I G d.2.cl.mn,I G d.2.cl.mx] 148)).drew).1[wr.1.size]?=U (.cells #[I O d.1.t,I O d.1.sr,I O d.1.wa,I O d.2.st,I O d.2.cl.cnt,I O d.2.cl.sum,I G d.2.cl.mn,I G d.2.cl.mx] 148):=zk _ _
   have an:((wr.alloc (.cells #[I O d.1.t,I O d.1.sr,I O d.1.wa,I O d.2.st,I O d.2.cl.cnt,I O d.2.cl.sum,I G d.2.cl.mn,I G d.2.cl.mx] 148)).drew).1.size=wr.1.size+1:=zI _ _
   generalize((wr.alloc (.cells #[I O d.1.t,I O d.1.sr,I O d.1.wa,I O d.2.st,I O d.2.cl.cnt,I O d.2.cl.sum,I G d.2.cl.mn,I G d.2.cl.mx] 148)).drew)=Y at*
   have z:=zd aa
   have ap:=zd ac
   have av:=zd an
   clear g0 g1 g2 g3 g4 x7 y1 aa ac an
   have hg:ql L (c.F k) sr A (j+1)=ql L (c.F k) sr A j++(if ok then[d.2.cl]else[]):=by
    rw[Qi]
    have h1:=ud aq
    have h2:=ud au
    unfold stX at h2
    cases ab:yA L ⟨c.F k,sr,A+j⟩with
    |none=>rw[ab]at h1;simp at h1;subst h1;simp
    |some v=>rw[ab]at h1 h2;simp at h1;subst h1;subst h2;simp
   have aj:=(ud HB).size
   cases ok with
   |false=>
    have HG:=zd (show ql L (c.F k) sr A (j+1)=ql L (c.F k) sr A j by rw[hg];simp)
    clear hg
    go_wp2_with fail
    go_roundw
    case rel=>
     refine⟨j+1,by omega,by simp;omega,?_,(ud HB).trans ((ud z).mono aj)⟩
     rw[ud HG]
     exact xm (ud HV) (ud z)
    case measure=>simp[intOf];omega
   |true=>
    have HG:=zd (show ql L (c.F k) sr A (j+1)=ql L (c.F k) sr A j++[d.2.cl] by rw[hg];simp)
    clear hg
    obtain⟨-,-,-,-,o1,o2,o3,o4,-⟩:=zc (ud ap)
    have aP:wr.1.size<Y.1.size:=by rw[ud av];omega
    have ar:=zd (xm (ud HV) (ud z))
    go_wp2_with(first|(at_builtin;refine zdK rfl _ _ rfl w1.1.size (.slice ad (ql L (c.F k) sr A j).length cp) (ql L (c.F k) sr A j) d.2.cl rfl ((ud ar).alloc _) Y.1.size rfl (zk _ _) ?hll ?hbb ?_;(case hll=>omega);(case hbb=>(rw[zI];omega));intro g aD Z Q y aF;have ao:=zd y;have HO:=zd Q;clear y Q)|go_in)
    go_roundw
    case rel=>
     have am:=(ud HB).trans ((ud z).mono aj)
     have al:=am.alloc am.size (.cells #[I O d.2.cl.cnt,I O d.2.cl.sum,I G d.2.cl.mn,I G d.2.cl.mx] 115)
     refine⟨j+1,by omega,by simp;omega,?_,al.grown (ud ao) al.size (fun q e=>?_)⟩
     ·rw[ud HG];have:=ud HO;rw[List.length_append,List.length_singleton]at this ⊢;exact this
     ·exact zio (ud HV) q e
    case measure=>simp[intOf];omega
  ·obtain rfl:j=M.toNat:=by omega
   have aN:decide (A+(M.toNat:Int)<A+M)=false:=by simp;omega
   subst ai
   have HV:=zd hv
   have HB:=zd hb
   clear hv hb
   go_wp2_with fail
   go_ret
   have hv:=ud HV
   have hB:=(ud J).trans ((ud HB).mono (ud J).size)
   by_cases h0:0<(ql L (c.F k) sr A M.toNat).length
   ·obtain⟨g,aC,aB,aJ,ay⟩:=hv.form h0
    cases aB
    exact⟨_,g,_,rfl,fun _=>rfl,ay,CAt.of_owns hv,hB⟩
   ·have P:ql L (c.F k) sr A M.toNat=[]:=List.eq_nil_of_length_eq_zero (by omega)
    exact⟨_,s,_,rfl,fun hh=>absurd P hh,by have:=(ud H).lt;have:=hB.size;omega,by rw[P];intro j x hx;simp at hx,hB⟩
def vm(l:List Int):List UInt8:=l.flatMap (fun n=>32::Lib.itoa n)
def Yt(st:Int):Bool:=st==1||st==3
def zgZ(x:SX):List Int:=[x.1.t,x.1.sr,x.1.wa,x.2.st]
def zht(x:SX):List Int:=[x.2.cl.cnt,x.2.cl.sum,x.2.cl.mn,x.2.cl.mx]
def ziy(x:SX):List UInt8:=vm (zgZ x)++(if Yt x.2.st then vm (zht x)else[])
def VQ(now:Int)(xs:List SX):List UInt8:=Lib.itoa now++xs.flatMap ziy
theorem zhD(u:Nat):0<(Lib.decDigits u).length:=by
 unfold Lib.decDigits
 split<;>simp
theorem zfE(n:Int):0<(Lib.itoa n).length:=by
 unfold Lib.itoa
 split
 ·simp
 ·exact zhD _
theorem zbf(l:List Int)(n:Int):vm (l++[n])=vm l++32::Lib.itoa n:=by simp[vm]
theorem vP:∀(l:List Int),(∀n∈l,xg n)->(vm l).length<=22*l.length
 |[],_=>by simp[vm]
 |n::l,h=>by
  have b:=vP l (fun m a=>h m (by simp[a]))
  have c:=Lib.itoa_length_le n (h n (by simp)).1 (h n (by simp)).2
  simp only[vm,List.flatMap_cons,List.length_append,List.length_cons]at*
  omega
structure okX(x:SX):Prop where
 key:x.1.wf
 st:xg x.2.st
 cnt:xg x.2.cl.cnt
 sum:xg x.2.cl.sum
 mn: -2147483648<=x.2.cl.mn/\x.2.cl.mn<=2147483647
 mx: -2147483648<=x.2.cl.mx/\x.2.cl.mx<=2147483647
theorem okX.seg{x:SX}(h:okX x):∀n∈zgZ x,xg n:=fun n hn=>by
 simp only[zgZ,List.mem_cons,List.not_mem_nil,or_false]at hn
 rcases hn with rfl|rfl|rfl|rfl
 ·exact h.key.1
 ·exact h.key.2.1
 ·exact h.key.2.2
 ·exact h.st
theorem okX.cel{x:SX}(h:okX x):∀n∈zht x,xg n:=fun n hn=>by
 have a:=h.mn
 have b:=h.mx
 simp only[zht,List.mem_cons,List.not_mem_nil,or_false]at hn
 rcases hn with rfl|rfl|rfl|rfl
 ·exact h.cnt
 ·exact h.sum
 ·unfold xg;omega
 ·unfold xg;omega
theorem zgp{x:SX}(h:okX x):(ziy x).length<=176:=by
 have c:=vP (zgZ x) h.seg
 have d:=vP (zht x) h.cel
 have a:(zgZ x).length=4:=rfl
 have b:(zht x).length=4:=rfl
 unfold ziy
 rw[List.length_append]
 split
 ·omega
 ·simp;omega
theorem Vq(now:Int)(xs:List SX)(x:SX):VQ now (xs++[x])=VQ now xs++ziy x:=by simp[VQ]
theorem zak:∀(xs:List SX),(∀x∈xs,okX x)->(xs.flatMap ziy).length<=176*xs.length
 |[],_=>by simp
 |x::xs,h=>by
  have b:=zak xs (fun y a=>h y (by simp[a]))
  have c:=zgp (h x (by simp))
  simp only[List.flatMap_cons,List.length_append,List.length_cons];omega
theorem Zp{now:Int}{xs:List SX}(hn:xg now)(h:∀x∈xs,okX x):(VQ now xs).length<=21+176*xs.length:=by
 have a:=Lib.itoa_length_le now hn.1 hn.2
 have b:=zak xs h
 unfold VQ;rw[List.length_append];omega
abbrev zkd(B:Nat)(w:R):Prop:=Lib.TabBelow prog B w "internal/strconv.uint64pow10" .u64 Lib.pow10Tab
theorem Kn(B n:Nat)(i:Int)(g:xg i)(f:z0)(xs:List z0)(w:R)(b:w.ownsRow B 5 1 f n xs)(d:B<=w.1.size)(a:n+21<=140737488355328)(c:zkd B w):
  Calls prog 167 #[f,I O i,I O 10] w fun e w'=>∃h,e=.returned h/\w'.ownsRow B 5 1 h (n+(Lib.itoa i).length) (xs++Lib.byteCells (Lib.itoa i))/\C B w w'/\Lib.OthersKept 5 E w w':=
 Any.strconv_AppendInt_10 Tryz.layAI B n i g.1 g.2 f xs w b d a c
theorem Tryz.infoByte:(prog.info? 5).map (fun i=>(i.zero,i.size,i.bytes))=U (U (.int .u8 0),1,1):=by kernel_rfl
def Ke(w:R)(B:Nat)(v:z0)(a:List UInt8):Prop:=w.ownsRow B 5 1 v a.length (Lib.byteCells a)
theorem Ke.push{w:R}{B:Nat}{v:z0}{a cs:List UInt8}(h:w.ownsRow B 5 1 v (a.length+cs.length) (Lib.byteCells a++Lib.byteCells cs)):Ke w B v (a++cs):=by
 unfold Ke;rw[List.length_append,Lib.byteCells_append];exact h
theorem zhL{l:List Int}{k:Nat}(h:k<l.length):∃x,l[k]?=U x:=⟨_,List.getElem?_eq_getElem h⟩
theorem zbO{l:List Int}{k:Nat}{x:Int}(h:l[k]?=U x):l.take (k+1)=l.take k++[x]:=by
 rw[List.take_add_one,h];rfl
theorem zbg(l:List Int)(a:∀m∈l,xg m)(k:Nat):(vm (l.take k)).length<=22*l.length:=by
 have c:=vP (l.take k) (fun m b=>a m (List.mem_of_mem_take b))
 have d:(l.take k).length<=l.length:=List.length_take_le' _ _
 omega
theorem zaw(B g:Nat)(l:List Int)(hl:∀m∈l,xg m)(a3:l.length<=100)(sv:z0)(o:List UInt8)(w:R)(d:Ke w B sv o)(Q:B<=w.1.size)(a0:o.length<=70368744177664)(f:zkd B w)
  (hg:w.1[g]?=U (.cells (l.map (fun n=>I O n)).toArray 2 (0,0))):
  Calls prog 168 #[sv,.slice (U ⟨g,0,E⟩) l.length l.length] w fun e w'=>∃v',e=.returned v'/\Ke w' B v' (o++vm l)/\C B w w'/\Lib.OthersKept 5 E w w':=by
 obtain⟨i0,hi,X,Y,Z⟩:=info_parts Tryz.infoByte
 have HT:=zd f
 have HW:=zd d
 have HG:=zd hg
 have z:=zd hl
 clear f d hg hl
 go_enter func168,ntmps168
 go_wp2_with fail
 go_loopw [0,9] (fun v i wr=>∃k:Nat,k<=l.length/\i=I O k/\Ke wr B v (o++vm (l.take k))/\C B w wr/\Lib.OthersKept 5 E w wr) (fun _ i _=>l.length-(intOf i).toNat)
 case atStart=>exact⟨0,Nat.zero_le _,rfl,by simpa[vm]using ud HW,z2 _ _,Lib.OthersKept.refl _ _ _⟩
 case round=>
  obtain⟨k,hk,rfl,hv,A,b⟩:=hrel
  have D:=zbg l (ud z) k
  have r:=b g _ (ud HG) (by simp) (fun c fz e=>by cases e)
  have hbs:=A.size
  by_cases V:k<l.length
  ·obtain⟨m,M⟩:=zhL V
   have F:=ud z m (List.mem_of_getElem? M)
   have x0:wr.cell? ⟨g,k,E⟩=U (I O m):=by rw[xD r];simp[M]
   have a2:(k:Int)<l.length:=by omega
   have HM:=zd M
   have P:=zd A
   have h:=zd b
   have y:=zd hv
   have W:(o++vm (l.take k)).length<=70368744177664+22*100:=by rw[List.length_append];omega
   obtain⟨zs,x⟩:∃zs,o++vm (l.take k)=zs:=⟨_,rfl⟩
   have HZ:=zd x
   rw[x]at y W
   clear M A b hv r x
   go_wp2_with(at_builtin;refine wpList_append_own _ rfl _ _ 250 rfl B 5 i0 (.int .u8 0) 1 1 underlying250 hi X Y Z rfl (by decide) _ _ _ rfl ((ud y).alloc _) ⟨wr.1.size,0,E⟩ 1 1 [Value.int .u8 32] rfl rfl (by intro j u' L;match j,L with|0,L=>simp at L;subst L;simp[Addr.add]) (by intro u' K;simp at K;subst K;rfl) (by unfold maxLen;omega) (by omega) (by simp;omega) ?_)
   intro v2 N s a _
   have p:C B w N:=((ud P).alloc (Nat.le_trans Q hbs) _).grown a (by simp;omega) (fun k hk=>(World.ownsRow.lt (ud y) k hk).1)
   have H:Lib.OthersKept 5 E w N:=((ud h).alloc _).grown a (fun q hq=>by
    obtain⟨a1,hc⟩:=zH ((ud y).alloc _) hq
    exact⟨_,_,hc⟩)
   have t:Ke N B v2 (zs++[32]):=by
    unfold Ke;rw[List.length_append,Lib.byteCells_append];exact s
   go_wp2_with(go_at_call 167;refine(Kn B _ m F v2 _ N t (by have:=p.size;omega) (by rw[List.length_append];simp;omega) ((ud HT).on p)).mono ?_;rintro e w3 ⟨v3,rfl,u,S,J⟩)
   go_roundw
   case rel=>
    refine⟨k+1,by omega,by go_num,?_,p.trans S,H.trans J⟩
    have e:o++vm (l.take (k+1))=(zs++[32])++Lib.itoa m:=by
     rw[zbO (ud HM),zbf,<-ud HZ];simp
    rw[e]
    exact Ke.push u
   case measure=>simp[intOf];omega
  ·obtain rfl:k=l.length:=by omega
   rw[List.take_length]at hv
   have y:=zd hv
   have P:=zd A
   have h:=zd b
   clear hv A b r D
   go_wp2_with fail
   go_ret
   exact⟨_,rfl,ud y,ud P,ud h⟩
theorem XM(st:Int)(w:R):Calls prog 169 #[I O st] w fun e w'=>e=.returned (.bool (Yt st))/\w'=w:=by
 unfold Yt
 cases a:(st==1)
 ·cases b:(st==3)
  ·go_enter func169,ntmps169
   go_wp2_with fail
   go_ret
   exact⟨rfl,rfl⟩
  ·go_enter func169,ntmps169
   go_wp2_with fail
   go_ret
   exact⟨rfl,rfl⟩
 ·go_enter func169,ntmps169
  go_wp2_with fail
  go_ret
  exact⟨rfl,rfl⟩
theorem zfh{X:R}{lb:Nat}{L:LV}(h:zW qO X lb (kr L)){k:Sg}(j:k.wf)(f:TypeId):
  ∃o,(Builtin.delete_ #[152,146] f #[.map (U lb),.agg #[I O k.t,I O k.sr,I O k.wa]]).run prog X=.ok (.tuple #[]) (setBlock X lb o)/\zW qO (setBlock X lb o) lb (kr (xq L k))/\zo (fun k=>k=lb) X (setBlock X lb o):=by
 obtain⟨l,b,d,i⟩:=h
 obtain⟨a,g,c,m⟩:=Xo jU d i j f
 have e:xq (kr L) k=kr (xq L k):=by
  unfold xq kr;rw[List.filter_map];rfl
 rw[e]at c
 exact⟨.map a b,g,⟨a,b,xw (za d) _,c⟩,xH _⟩
theorem xt.putLive{w w':R}{s:Nat}{c:Cf}{tv:z0}{lb gb:Nat}{Gl:List (Sg×Unit)}{L f:LV}(h:xt w s c tv lb gb Gl L)(l:zW qO w' lb (kr f))(b:zo (fun k=>k=lb) w w'):xt w' s c tv lb gb Gl f:=by
 have a:∀{k:Nat} {cs:Array z0} {t:TypeId} {i:Nat×Nat},w.1[k]?=U (.cells cs t i)->¬k=lb:=fun b e=>by
  obtain⟨n,m,j,_⟩:=h.live;rw[e,j]at b;cases b
 refine⟨b.heap h.head (a h.head),zg h.trow b (fun k b=>?_),xY.2 l,h.gone.kept b h.apart,h.apart⟩
 obtain⟨g,d⟩:=zH h.trow b
 exact a d
theorem xt.putGone{w w':R}{s:Nat}{c:Cf}{tv:z0}{lb gb:Nat}{Gl d:List (Sg×Unit)}{L:LV}(h:xt w s c tv lb gb Gl L)(l:zW kV w' gb d)(b:zo (fun k=>k=gb) w w'):xt w' s c tv lb gb d L:=by
 have a:∀{k:Nat} {cs:Array z0} {t:TypeId} {i:Nat×Nat},w.1[k]?=U (.cells cs t i)->¬k=gb:=fun b e=>by
  obtain⟨n,m,j,_⟩:=h.gone;rw[e,j]at b;cases b
 refine⟨b.heap h.head (a h.head),zg h.trow b (fun k b=>?_),h.live.kept b (fun e=>h.apart e.symm),l,h.apart⟩
 obtain⟨g,f⟩:=zH h.trow b
 exact a f
def xe(x:SX):List z0:=[I O x.1.t,I O x.1.sr,I O x.1.wa,I O x.2.st,I O x.2.cl.cnt,I O x.2.cl.sum,I G x.2.cl.mn,I G x.2.cl.mx]
def vy(w:R)(base:Nat)(v:z0)(xs:List SX):Prop:=w.ownsRow base 148 8 v xs.length (xs.flatMap xe)
theorem vy.slice{w:R}{base:Nat}{v:z0}{xs:List SX}(h:vy w base v xs):∃a cap,v=.slice a xs.length cap:=zL h
theorem vy.at{w:R}{base g cap:Nat}{xs:List SX}(h:vy w base (.slice (U ⟨g,0,E⟩) xs.length cap) xs){j:Nat}{x:SX}(b:xs[j]?=U x):
  w.cell? ⟨g,j*8,E⟩=U (I O x.1.t)/\w.cell? ⟨g,j*8+1,E⟩=U (I O x.1.sr)/\w.cell? ⟨g,j*8+2,E⟩=U (I O x.1.wa)/\w.cell? ⟨g,j*8+3,E⟩=U (I O x.2.st)/\
  w.cell? ⟨g,j*8+4,E⟩=U (I O x.2.cl.cnt)/\w.cell? ⟨g,j*8+5,E⟩=U (I O x.2.cl.sum)/\w.cell? ⟨g,j*8+6,E⟩=U (I G x.2.cl.mn)/\w.cell? ⟨g,j*8+7,E⟩=U (I G x.2.cl.mx):=by
 have d:j<xs.length:=(List.getElem?_eq_some_iff.1 b).1
 have a:=fun i c=>yJ (f:=xe) (k:=8) (fun _=>rfl) xs j x i b c
 refine⟨?_,?_,?_,?_,?_,?_,?_,?_⟩
 ·rw[h.cellAt (j*8) (by omega)];exact a 0 (by omega)
 ·rw[h.cellAt (j*8+1) (by omega)];exact a 1 (by omega)
 ·rw[h.cellAt (j*8+2) (by omega)];exact a 2 (by omega)
 ·rw[h.cellAt (j*8+3) (by omega)];exact a 3 (by omega)
 ·rw[h.cellAt (j*8+4) (by omega)];exact a 4 (by omega)
 ·rw[h.cellAt (j*8+5) (by omega)];exact a 5 (by omega)
 ·rw[h.cellAt (j*8+6) (by omega)];exact a 6 (by omega)
 ·rw[h.cellAt (j*8+7) (by omega)];exact a 7 (by omega)
theorem vy.form{w:R}{base:Nat}{a:Option Addr}{n cap:Nat}{xs:List SX}(h:vy w base (.slice a n cap) xs)(e:0<xs.length):∃g,a=U ⟨g,0,E⟩/\n=xs.length/\g<w.1.size:=by
 obtain⟨g,d,c,j,b⟩:=World.ownsRow.form h e
 injection c with f i k
 exact⟨g,f,i,b⟩
theorem zgT{l:List SX}{k:Nat}(h:k<l.length):∃x,l[k]?=U x:=⟨_,List.getElem?_eq_getElem h⟩
theorem Zv{l:List SX}{k:Nat}{x:SX}(h:l[k]?=U x):l.take (k+1)=l.take k++[x]:=by
 rw[List.take_add_one,h];rfl
theorem zga(q:List (Sg×Unit)×LV)(x:SX):(Xe q x).1.length<=q.1.length+1/\(Xe q x).2.length<=q.2.length+1:=by
 unfold Xe
 split
 ·refine⟨?_,?_⟩
  ·show(qr q.1 x.1 ()).length<=_
   unfold qr;split<;>simp
  ·show(xq q.2 x.1).length<=_
   have:=List.length_filter_le (fun p:Sg×SV=>decide (p.1≠x.1)) q.2
   unfold xq;omega
 ·exact⟨Nat.le_succ _,zfY _ _ _⟩
theorem Qb:∀(xs:List SX) (q:List (Sg×Unit)×LV),(yC q xs).1.length<=q.1.length+xs.length/\(yC q xs).2.length<=q.2.length+xs.length
 |[],q=>by simp[yC]
 |x::xs,q=>by
  have a:=Qb xs (Xe q x)
  have b:=zga q x
  simp only[yC,List.foldl_cons,List.length_cons]at*
  omega
theorem zgc{X:R}{s lb gb:Nat}{c:Cf}{tv:z0}{q:List (Sg×Unit)×LV}(h:xt X s c tv lb gb q.1 q.2)(a:q.2.length<maxLen){x:SX}(i:x.1.wf)(g:(x.2.st==4)=false):
  ∃o,(Instr.mapUpdate 152 (.map (U lb)) (.agg #[I O x.1.t,I O x.1.sr,I O x.1.wa]) (.agg #[I O x.1.t,I O x.1.sr,I O x.1.wa,I O x.2.st,I O x.2.cl.cnt,I O x.2.cl.sum,I G x.2.cl.mn,I G x.2.cl.mx])).run prog X=.ok () (setBlock X lb o)/\xt (setBlock X lb o) s c tv lb gb (Xe q x).1 (Xe q x).2/\zo (fun k=>k=lb\/k=gb) X (setBlock X lb o):=by
 obtain⟨o,b,d,f,-⟩:=zbB h a i x.2
 have e:Xe q x=(q.1,ya q.2 x.1 x.2):=by unfold Xe;rw[if_neg (by simpa using g)]
 refine⟨o,b,by rw[e];exact d,f.mono (fun k _ e=> .inl e)⟩
theorem zgb{X:R}{s lb gb:Nat}{c:Cf}{tv:z0}{q:List (Sg×Unit)×LV}(h:xt X s c tv lb gb q.1 q.2)(a:q.1.length<maxLen){x:SX}(p:x.1.wf)(u:(x.2.st==4)=true)(r:TypeId):
  ∃o j,(Builtin.delete_ #[152,146] r #[.map (U lb),.agg #[I O x.1.t,I O x.1.sr,I O x.1.wa]]).run prog X=.ok (.tuple #[]) (setBlock X lb o)/\xt (setBlock X lb o) s c tv lb gb q.1 (xq q.2 x.1)/\zo (fun k=>k=lb) X (setBlock X lb o)/\
   (Instr.mapUpdate 153 (.map (U gb)) (.agg #[I O x.1.t,I O x.1.sr,I O x.1.wa]) (.agg #[])).run prog (setBlock X lb o).drew=.ok () (setBlock (setBlock X lb o).drew gb j)/\xt (setBlock (setBlock X lb o).drew gb j) s c tv lb gb (Xe q x).1 (Xe q x).2/\zo (fun k=>k=gb) (setBlock X lb o).drew (setBlock (setBlock X lb o).drew gb j):=by
 obtain⟨o,i,m,f⟩:=zfh (X:=X) (xY.1 h.live) p r
 have l:=h.putLive m f
 have d:C (setBlock X lb o).1.size (setBlock X lb o) (setBlock X lb o).drew:=(z2 _ _).drew
 obtain⟨j,b,n,g,_⟩:=zjE (X:=(setBlock X lb o).drew) (l.later d).gone a p
 have e:Xe q x=(qr q.1 x.1 (),xq q.2 x.1):=by unfold Xe;rw[if_pos (by simpa using u)]
 exact⟨o,j,i,l,f,b,by rw[e];exact(l.later d).putGone n g,g⟩
theorem vJ{α β:Type}{M:MK α β}{w:R}{b:Nat}{L:List (α×β)}(h:zW M w b L){k:Nat}{cs:Array z0}{t:TypeId}{c:Nat×Nat}(a:w.1[k]?=U (.cells cs t c)):¬k=b:=fun e=>by
 obtain⟨g,f,d,_⟩:=h;rw[e,d]at a;cases a
theorem zfV{w:R}{s:Nat}{c:Cf}{tv:z0}{lb gb:Nat}{Gl:List (Sg×Unit)}{L:LV}(h:xt w s c tv lb gb Gl L)(xs:List SX)(a2:∀x∈xs,x.1.wf)(a9:Gl.length+xs.length<=1000000000)(aa:L.length+xs.length<=1000000000)(base:Nat)(v:z0)(hv:vy w base v xs):
  Calls prog 170 #[.pointer (U ⟨s,0,E⟩),v] w fun e w'=>e=.returned (.tuple #[])/\xt w' s c tv lb gb (yC (Gl,L) xs).1 (yC (Gl,L) xs).2/\zo (fun k=>k=lb\/k=gb) w w':=by
 obtain⟨ad,cap,rfl⟩:=hv.slice
 have a1:∀k,(Value.slice ad xs.length cap).ownBlock=U k->¬(k=lb\/k=gb):=fun k hk e=>by
  obtain⟨a6,hc⟩:=zH hv hk
  rcases e with e|e
  ·exact vJ (xY.1 h.live) hc e
  ·exact vJ h.gone hc e
 have aj:¬s=lb:=vJ (xY.1 h.live) h.head
 have ai:¬s=gb:=vJ h.gone h.head
 have HS:=zd h
 have HV:=zd hv
 have a3:=zd a1
 have a4:=zd a2
 have ac:xs.length<=1000000000:=by omega
 clear h hv a1 a2
 go_enter func170,ntmps170
 go_wp2_with fail
 go_loopw [8] (fun i wr=>∃k:Nat,k<=xs.length/\i=I O k/\xt wr s c tv lb gb (yC (Gl,L) (xs.take k)).1 (yC (Gl,L) (xs.take k)).2/\zo (fun k=>k=lb\/k=gb) w wr) (fun i _=>xs.length-(intOf i).toNat)
 case atStart=>exact⟨0,Nat.zero_le _,rfl,by simpa[yC]using ud HS,zo.refl _ _⟩
 case round=>
  obtain⟨k,hk,rfl,V,m⟩:=hrel
  by_cases a5:k<xs.length
  ·obtain⟨x,hx⟩:=zgT a5
   have K:vy wr base (.slice ad xs.length cap) xs:=zg (ud HV) m (ud a3)
   obtain⟨g,rfl,-,a7⟩:=K.form (by omega)
   obtain⟨x0,x1,x2,x3,x4,x5,x6,x7⟩:=K.at hx
   have hq:=Qb (xs.take k) (Gl,L)
   rw[List.length_take]at hq
   obtain⟨q,J⟩:∃q,yC (Gl,L) (xs.take k)=q:=⟨_,rfl⟩
   have HQ:=zd J
   rw[J]at V hq
   have M:=ud a4 x (List.mem_of_getElem? hx)
   have HX:=zd hx
   obtain⟨X,n⟩:∃X,(wr.alloc (.cells #[I O x.1.t,I O x.1.sr,I O x.1.wa,I O x.2.st,I O x.2.cl.cnt,I O x.2.cl.sum,I G x.2.cl.mn,I G x.2.cl.mx] 148))=X:=⟨_,rfl⟩
   have B:C wr.1.size wr X:=by rw[<-n];exact(z2 _ _).alloc (T _) _
   have p:X.1[wr.1.size]?=U (.cells #[I O x.1.t,I O x.1.sr,I O x.1.wa,I O x.2.st,I O x.2.cl.cnt,I O x.2.cl.sum,I G x.2.cl.mn,I G x.2.cl.mx] 148 (0,0)):=by rw[<-n];exact zk _ _
   have j:=V.later B
   obtain⟨-,-,-,-,-,-,-,c7,c8⟩:=j.cells
   obtain⟨y0,y1,y2,y3,y4,y5,y6,y7,-⟩:=zc p
   have A:C X.1.size X X.drew:=(z2 _ _).drew
   have F:zo (fun k=>k=lb\/k=gb) w X.drew:=(m.trans (zo.of_below (f:=fun _=>False) B) (fun _ _ e=>e.elim)).drew
   have ag:=j.lt
   have H:=za p
   have ab:=j.live.lt
   have S:¬wr.1.size=lb:=vJ (xY.1 j.live) p
   have a8:(k:Int)<xs.length:=by omega
   have W:=zd n
   obtain⟨P,Q⟩:=hq
   cases he:(x.2.st==4)
   ·obtain⟨o,u,z,N⟩:=zgc (X:=X.drew) (j.later A) (by simp only[maxLen];dsimp only at Q;omega) M he
    obtain⟨Y,r⟩:∃Y,setBlock X.drew lb o=Y:=⟨_,rfl⟩
    rw[r]at u z N
    have d:Hid (xt Y s c tv lb gb (Xe q x).1 (Xe q x).2/\zo (fun k=>k=lb\/k=gb) w Y):=⟨z,F.trans N (fun _ _ e=>e)⟩
    clear z N F A j p B n K V m hx M J r P Q
    go_wp2_with fail
    rw[ud W]
    go_wp2_with fail
    go_region
    go_wp2_with fail
    go_roundw
    case rel=>exact⟨k+1,by omega,by go_num,by rw[Zv (ud HX),ZM,ud HQ];exact(ud d).1,(ud d).2⟩
    case measure=>simp[intOf];omega
   ·obtain⟨o,o2,u,a,l,y,b,D⟩:=zgb (X:=X.drew) (j.later A) (by simp only[maxLen];dsimp only at P;omega) M he 0
    obtain⟨Y,r⟩:∃Y,setBlock X.drew lb o=Y:=⟨_,rfl⟩
    rw[r]at u a l y b D
    obtain⟨Z,a0⟩:∃Z,setBlock Y.drew gb o2=Z:=⟨_,rfl⟩
    rw[a0]at y b D
    obtain⟨-,-,-,-,-,-,-,-,d8⟩:=a.cells
    have ak:Y.cell? ⟨wr.1.size,0,E⟩=U (I O x.1.t):=(zN (i:=0) l S H).trans y0
    have al:Y.cell? ⟨wr.1.size,1,E⟩=U (I O x.1.sr):=(zN (i:=1) l S H).trans y1
    have am:Y.cell? ⟨wr.1.size,2,E⟩=U (I O x.1.wa):=(zN (i:=2) l S H).trans y2
    have ah:=a.lt
    have af:wr.1.size<Y.1.size:=z1 H l.size
    have d:Hid (xt Z s c tv lb gb (Xe q x).1 (Xe q x).2/\zo (fun k=>k=lb\/k=gb) w Z):=⟨b,((F.trans (l.mono (fun k _ e=> .inl e)) (fun _ _ e=>e)).drew).trans (D.mono (fun k _ e=> .inr e)) (fun _ _ e=>e)⟩
    clear a b l D F A j p B n K V m hx M J r a0 P Q
    go_wp2_with fail
    rw[ud W]
    go_wp2_with fail
    go_region
    go_wp2_with fail
    go_region
    go_wp2_with fail
    go_roundw
    case rel=>exact⟨k+1,by omega,by go_num,by rw[Zv (ud HX),ZM,ud HQ];exact(ud d).1,(ud d).2⟩
    case measure=>simp[intOf];omega
  ·obtain rfl:k=xs.length:=by omega
   have ae:decide ((xs.length:Int)<xs.length)=false:=by simp
   rw[List.take_length]at V
   have HR:=zd V
   have HK:=zd m
   clear V m
   go_wp2_with fail
   go_end0
   exact⟨rfl,ud HR,ud HK⟩
attribute [local go_sem] Oper.semAt_some
theorem zch:(prog.info? 148).map (fun i=>(i.zero,i.size,i.bytes))=U (U (.agg #[I O 0,I O 0,I O 0,I O 0,I O 0,I O 0,I G 0,I G 0]),8,56):=by kernel_rfl
theorem JL:∃i:TypeInfo,prog.info? 148=U i/\i.zero=U (.agg #[I O 0,I O 0,I O 0,I O 0,I O 0,I O 0,I G 0,I G 0])/\i.size=8/\i.bytes=56:=by
 have h:=zch
 cases a:prog.info? 148 with
 |none=>simp[a]at h
 |some i=>
  simp only[a,Option.map_some,Option.some.injEq,Prod.mk.injEq]at h
  exact⟨i,rfl,h.1,h.2.1,h.2.2⟩
theorem vt(x:SX):∀v∈xe x,v.oneCell'=true:=fun v hv=>by
 simp only[xe,List.mem_cons,List.not_mem_nil,or_false]at hv
 rcases hv with rfl|rfl|rfl|rfl|rfl|rfl|rfl|rfl<;>rfl
theorem zer{w:R}{base:Nat}{e:TypeId}{v:z0}{l:List SX}{f:SX}(h:w.ownsRow base e 8 v (l.length+1) (l.flatMap xe++xe f)):w.ownsRow base e 8 v (l++[f]).length ((l++[f]).flatMap xe):=by
 rw[List.length_append,List.flatMap_append];simpa using h
def zjW(w:R)(a:List SX)(W:R):Prop:=∃v,W.1[w.1.size]?=U (.cells #[v] 105 (0,0))/\W.ownsRow w.1.size 148 8 v a.length (a.flatMap xe)/\C w.1.size w W
theorem zjW.later{w:R}{a:List SX}{W c:R}(h:zjW w a W)(b:C W.1.size W c):zjW w a c:=by
 obtain⟨v,d,i,g⟩:=h
 exact⟨v,(b.block _ (za d)).trans d,zg i (zo.of_below (f:=fun _=>False) b) (fun _ _ e=>e),g.trans (b.mono g.size)⟩
theorem XJ{W c:R}{base:Nat}{e:TypeId}{size:Nat}{v:z0}{n:Nat}{xs:List z0}(i:W.ownsRow base e size v n xs)(d:W.grownBy c v.ownBlock)(B:Nat):KeepsFrom B W c/\KeepsWalks W c:=by
 have key:∀(k:Nat) (o:Obj),W.1[k]?=U o->o.isCells=false->c.1[k]?=U o:=fun k o a b=>(d.block k (za a) (fun e=>by
  rcases i.2 with⟨rfl,_⟩|⟨g,cap,h,rfl,_,f,_⟩
  ·simp[Value.ownBlock]at e
  ·have:k=g:=by simpa[Value.ownBlock]using e
   subst this;rw[f]at a;cases a;cases b)).trans a
 exact⟨⟨d.size,fun k o _ a b=>key k o a b⟩,⟨d.size,fun k o a b=>key k o a (Obj.not_cells_of_walk b)⟩⟩
theorem zdL{F:Fence}{n:Nat}{W:R}{ops:Array Oper}{rest:List Oper}{o:Oper}{a:Act}{Q:Exit->Act->R->Prop}(m:o.guard=E)(s x:Operand)
  (B:o.op=.call {callee:=.builtin .append,args:=#[s,x],argTypes:=#[105,105]}) (base:Nat) (v:z0) (l:List SX) (f:SX) (D:a.eval s=v) (e:W.ownsRow base 148 8 v l.length (l.flatMap xe))
  (i:Nat) (H:a.eval x=.slice (U ⟨i,0,E⟩) 1 1) (j:W.1[i]?=U (.cells #[I O f.1.t,I O f.1.sr,I O f.1.wa,I O f.2.st,I O f.2.cl.cnt,I O f.2.cl.sum,I G f.2.cl.mn,I G f.2.cl.mx] 148 (0,0))) (K:l.length<=1000000) (hbase:base<=W.1.size)
  (h:∀g cap w',w'.ownsRow base 148 8 (.slice (U ⟨g,0,E⟩) (l.length+1) cap) (l++[f]).length ((l++[f]).flatMap xe)->W.grownBy w' v.ownBlock->g<w'.1.size->wpListIn F n prog ops Q rest (a.put o.dst (.slice (U ⟨g,0,E⟩) (l.length+1) cap)) w'):wpListIn F n prog ops Q (o::rest) a W:=by
 obtain⟨i0,A,p,q,r⟩:=JL
 refine wpListIn_append_own_at W m s x 105 B base 148 i0 (.agg #[I O 0,I O 0,I O 0,I O 0,I O 0,I O 0,I G 0,I G 0]) 8 56 underlying105 A p q r rfl (by decide) v l.length _ D e ⟨i,0,E⟩ 1 1 (xe f) H rfl (World.news_of_block (cs:=(xe f).toArray) j) (vt f) (by simp only[maxLen];omega) (by omega) hbase ?_
 intro L J b k u y
 obtain⟨z,c,rfl,w,d⟩:=b.form (by omega)
 exact h z c J (zer b) k d
theorem zax(gf:Nat)(lb:Array z0)(eg:∀args w,(callFunc gf args).run prog w=.ok (.enter gf args) w){N:Nat}{S:List SX->Prop}(w:R)(hN:N<=1000000)
  (q:X9 Fence.wide 6 prog gf lb (fun x:SX=>#[.agg #[I O x.1.t,I O x.1.sr,I O x.1.wa,I O x.2.st,I O x.2.cl.cnt,I O x.2.cl.sum,I G x.2.cl.mn,I G x.2.cl.mx]]) KeepsWalks S (fun _=>True) N 0 w):
  Calls prog 245 #[.slice E 0 0,.func (.func gf) #[] lb] w fun e w'=>∃xs v,S xs/\e=.returned v/\w'.ownsRow w.1.size 148 8 v xs.length (xs.flatMap xe)/\C w.1.size w w':=by
 have Q:=zd q
 have a2:=zd eg
 have b1:=zk w (.cells #[.slice E 0 0] 105)
 have bz:=zI w (.cells #[.slice E 0 0] 105)
 have a0:C w.1.size w (w.alloc (.cells #[.slice E 0 0] 105)):=(z2 _ _).alloc (T _) _
 clear q eg
 refine(callsIn_wide (n:=7)).1 ?_
 refine callsIn_of_wp_marks func245 rfl trivial ?_ rfl
 simp only[ntmps245,List.size_toArray,List.length_cons,List.length_nil,Nat.reduceAdd,Nat.reduceSub,Array.replicate_succ,Array.replicate_zero,List.push_toArray,List.append_toArray,List.nil_append,List.cons_append]
 have B1:=zd b1
 have u:=zd a0
 have BZ:=zd bz
 clear b1 a0 bz
 gi_wp2
 obtain⟨W0,Z⟩:∃W0,(w.alloc (.cells #[.slice E 0 0] 105))=W0:=⟨_,rfl⟩
 rw[Z]at B1 u BZ ⊢
 clear Z
 have hz:W0.1.size=w.1.size+1:=ud BZ
 refine qv (F:=Fence.wide) (n:=7) rfl (by omega) (gf:=gf) (lb:=lb) rfl trivial (ud a2) (ud Q) (by omega) (fun h k=>h.trans k) (fun W o o' h hc hw=>KeepsWalks.putObj _ h hw) (ud u) (fun _=>rfl)
  (zjW w) (fun _ _ _=>False)
  (fun s A B a9 hs z H=>by
   obtain⟨v,X,h2,Y⟩:=hs
   exact⟨v,zr X z (fun r e=>(H r e).2),jd h2 z (fun r e=>(H r e).2),Y.grown z Y.size (fun k e=>by have:=(H k e).1;omega)⟩)
  (fun _ _ _ _ _ hs _ _=>hs)
  ⟨_,ud B1,⟨rfl,.inl ⟨rfl,rfl⟩⟩,ud u⟩
  (fun x a' W=>∃J,w.1.size+1<=J/\W.1[J]?=U (.cells #[I O x.1.t,I O x.1.sr,I O x.1.wa,I O x.2.st,I O x.2.cl.cnt,I O x.2.cl.sum,I G x.2.cl.mn,I G x.2.cl.mx] 148 (0,0))/\a'={tmps:=#[.slice E 0 0,.func (.func gf) #[] lb,.pointer (U ⟨w.1.size,0,E⟩),undef,.slice E 0 0,.pointer (U ⟨J,0,E⟩),.func (.func gf) #[] lb,.agg #[I O x.1.t,I O x.1.sr,I O x.1.wa,I O x.2.st,I O x.2.cl.cnt,I O x.2.cl.sum,I G x.2.cl.mn,I G x.2.cl.mx],undef,undef,undef,undef,undef],defers:=[]})
  (fun x a' s A B a9 hs z H=>by
   obtain⟨J,X,h2,Y⟩:=hs
   exact⟨J,X,zr h2 z (fun r e=>(H r e).2),Y⟩) ?assign ?body ?done ?stop
 case assign=>
  rintro l d x W K hI L
  have HK:=zd L
  have HI:=zd hI
  clear L hI
  gi_wp2
  have g:=(z2 W.1.size W).alloc (T _) (.cells #[I O x.1.t,I O x.1.sr,I O x.1.wa,I O x.2.st,I O x.2.cl.cnt,I O x.2.cl.sum,I G x.2.cl.mn,I G x.2.cl.mx] 148)
  have af:w.1.size<W.1.size:=by obtain⟨v,X,h2,Y⟩:=ud HI;exact za X
  exact ud HK _ _ (zi g) (KeepsWalks.alloc _ _) ((ud HI).later g) ⟨W.1.size,by omega,zk _ _,rfl⟩
 case body=>
  rintro l d x a' W hl ⟨r,H⟩ ⟨v,i1,i2,i3⟩ ⟨J,ad,hx,rfl⟩ ae
  obtain⟨va,vc,rfl⟩:=zL i2
  have a8:=za i1
  have ag:=za hx
  obtain⟨c1,-⟩:=zc i1
  obtain⟨x0,x1,x2,x3,x4,x5,x6,x7,-⟩:=zc hx
  have P:=zd i1
  have a:=zd i2
  have y:=zd i3
  have HX:=zd hx
  clear i1 i2 i3 hx H
  gi_wp2_with (first
   |(gi_at_builtin;refine zdL rfl _ _ rfl w.1.size _ d x rfl ((ud a).alloc _) W.1.size rfl (zk _ _) (by omega) (by rw[zI];omega) ?_;intro g' aa w3 b j ab
     have a1:=XJ ((ud a).alloc (.cells #[I O x.1.t,I O x.1.sr,I O x.1.wa,I O x.2.st,I O x.2.cl.cnt,I O x.2.cl.sum,I G x.2.cl.mn,I G x.2.cl.mx] 148)) j W0.1.size
     have V:w3.1[w.1.size]?=U (.cells #[.slice va d.length vc] 105 (0,0)):=(j.block w.1.size (by rw[zI];omega) (fun e=>zu (ud P) (ud a) (by decide) w.1.size e.symm rfl)).trans ((Below.heap_alloc _ _ _ a8).trans (ud P))
     obtain⟨d1,-⟩:=zc V
     have f1:w3.frozen? ⟨w.1.size,0,E⟩=false:=zC V 0
     have ac:=za V
     have a5:=zd b
     have a3:=zd j
     have a4:=zd a1
     have M:=zd V
     clear b j a1 V
     go_frame)
   |gi_in)
  have hk:=ud a4
  have z:(W.alloc (.cells #[I O x.1.t,I O x.1.sr,I O x.1.wa,I O x.2.st,I O x.2.cl.cnt,I O x.2.cl.sum,I G x.2.cl.mn,I G x.2.cl.mx] 148)).grownBy w3 (Value.slice va d.length vc).ownBlock:=ud a3
  have m:=ud a5
  have hb:=ud y
  have g:=(z2 W.1.size W).alloc (T _) (.cells #[I O x.1.t,I O x.1.sr,I O x.1.wa,I O x.2.st,I O x.2.cl.cnt,I O x.2.cl.sum,I G x.2.cl.mn,I G x.2.cl.mx] 148)
  have a6:C w.1.size w w3:=(hb.alloc hb.size _).grown z (by have:=hb.size;rw[zI];omega) (fun k e=>((ud a).lt k e).1)
  refine⟨((zi g).trans hk.1).trans ((KeepsOthers.setCell w3 ⟨w.1.size,0,E⟩ _).from _),((KeepsWalks.alloc _ _).trans hk.2).trans (KeepsWalks.setCell _ _ _),?_⟩
  exact⟨_,xy (i:=0) (ud M) _,zg m (zn (f:=fun k=>k=w.1.size) (zo.refl _ _) rfl) (fun k a7 e=>zu (ud M) m (by decide) k a7 e),a6.setCell (p:=⟨w.1.size,0,E⟩) (T _) _⟩
 case done=>
  rintro D xs W hD hS ⟨v,i1,i2,i3⟩ L
  obtain⟨va,vc,rfl⟩:=zL i2
  obtain⟨c2,-⟩:=zc i1
  have a:=zd i2
  have y:=zd i3
  clear i1 i2 i3
  gi_wp2
  refine⟨by simp,.inl ⟨_,_,rfl,run_takeDeferred L,?_⟩⟩
  exact⟨_,results_tmp rfl _ _ _,xs,_,hS,rfl,jd (ud a) (grownBy_putObj' _ _ _) (fun r e=>by cases e;exact⟨_,L,rfl⟩),xi (ud y) (T _) (by omega) L _⟩
 case stop=>
  rintro D c d W _ _ h _
  exact h.elim
theorem Kt(gf:Nat)(lb:Array z0)(b:∀args w,(callFunc gf args).run prog w=.ok (.enter gf args) w){N:Nat}{S:List SX->Prop}(w:R)(j:N<=1000000)
  (a:X9 Fence.wide 6 prog gf lb (fun x:SX=>#[.agg #[I O x.1.t,I O x.1.sr,I O x.1.wa,I O x.2.st,I O x.2.cl.cnt,I O x.2.cl.sum,I G x.2.cl.mn,I G x.2.cl.mx]]) KeepsWalks S (fun _=>True) N 0 w):
  Calls prog 208 #[.func (.func gf) #[] lb] w fun e w'=>∃xs v,S xs/\e=.returned v/\vy w' w.1.size v xs/\C w.1.size w w':=by
 have h:=zd (zax gf lb b w j a)
 clear a b
 go_enter func208,ntmps208
 go_wp2_with(go_at_call 245;refine(ud h).mono ?_;rintro e k ⟨xs,v,c,rfl,f,d⟩;have i:=zd c;have HR:=zd f;have g:=zd d;clear c f d)
 go_ret
 exact⟨xs,v,ud i,rfl,ud HR,ud g⟩
def zac(x y:Sg):Int:=orL [kw x.t y.t,kw x.sr y.sr,kw x.wa y.wa]
theorem ZO(x y:Sg)(w:R):Calls prog 166 #[.agg #[I O x.t,I O x.sr,I O x.wa],.agg #[I O y.t,I O y.sr,I O y.wa]] w fun e w'=>e=.returned (I O (zac x y))/\Dr.Below w.1.size w w':=by
 obtain⟨i,j,g,r⟩:=Dr.box2 w (.cells #[I O x.t,I O x.sr,I O x.wa] 146) (.cells #[I O y.t,I O y.sr,I O y.wa] 146)
 obtain⟨Y,f⟩:∃Y,((w.alloc (.cells #[I O x.t,I O x.sr,I O x.wa] 146)).alloc (.cells #[I O y.t,I O y.sr,I O y.wa] 146))=Y:=⟨_,rfl⟩
 rw[f]at i j g r
 obtain⟨M,N,P,-⟩:=zc i
 obtain⟨Q,S,X,-⟩:=zc j
 have m:=fun(a b:Int) W=>zd (yI a b W)
 have d:∀W:R,W.1[Y.1.size]?=U (.cells #[I O (kw x.t y.t),I O (kw x.sr y.sr),I O (kw x.wa y.wa)] 3)->Hid (Calls prog 163 #[.slice (U ⟨Y.1.size,0,E⟩) 3 3] W fun e w'=>e=.returned (I O (zac x y))/\w'=W):=fun W z=>
  zdB [kw x.t y.t,kw x.sr y.sr,kw x.wa y.wa] (by simp) W Y.1.size (fun k v c=>by
   rw[xD z]
   match k,c with
   |0,c=>simp at c;subst c;rfl
   |1,c=>simp at c;subst c;rfl
   |2,c=>simp at c;subst c;rfl)
 have n:=d (Y.alloc (.cells #[I O (kw x.t y.t),I O (kw x.sr y.sr),I O (kw x.wa y.wa)] 3)) (zk _ _)
 have o:=d (Y.alloc (.cells #[I O (kw x.t y.t),I O (kw x.sr y.sr),I O (kw x.wa y.wa)] 3)).drew (zk _ _)
 have p:=d (Y.drew.alloc (.cells #[I O (kw x.t y.t),I O (kw x.sr y.sr),I O (kw x.wa y.wa)] 3)) (zk Y.drew _)
 have D:=za i
 have F:=za j
 have l:=zd g
 have q:=zd f
 clear i j d g f r
 generalize h:zac x y=H at*
 have u:=zd h
 clear h
 generalize A:kw x.t y.t=J at*
 generalize B:kw x.sr y.sr=K at*
 generalize hc2:kw x.wa y.wa=L at*
 go_enter func166,ntmps166
 go_wp2_with fail
 rw[ud q]
 go_region_held3 (fun w'=>w'.cell? ⟨w.1.size,0,E⟩=U (I O x.t)/\w'.cell? ⟨w.1.size,1,E⟩=U (I O x.sr)/\w'.cell? ⟨w.1.size,2,E⟩=U (I O x.wa)/\w'.cell? ⟨w.1.size+1,0,E⟩=U (I O y.t)/\w'.cell? ⟨w.1.size+1,1,E⟩=U (I O y.sr)/\w'.cell? ⟨w.1.size+1,2,E⟩=U (I O y.wa)) (go_keep) (first
  |(go_at_call 162;(with_reducible refine(ud (m _ _ _)).mono ?_);rintro e V ⟨rfl,rfl⟩)
  |(go_at_call 163;(first|(with_reducible refine(ud n).mono ?_)|(with_reducible refine(ud o).mono ?_)|(with_reducible refine(ud p).mono ?_));rintro e V ⟨rfl,rfl⟩))
 go_wp2_with fail
 go_ret
 have s:=ud l
 exact⟨rfl,(s.alloc s.size _).drew⟩
theorem zeV(x y:SX)(w:R):Calls prog 210 #[.agg #[I O x.1.t,I O x.1.sr,I O x.1.wa,I O x.2.st,I O x.2.cl.cnt,I O x.2.cl.sum,I G x.2.cl.mn,I G x.2.cl.mx],.agg #[I O y.1.t,I O y.1.sr,I O y.1.wa,I O y.2.st,I O y.2.cl.cnt,I O y.2.cl.sum,I G y.2.cl.mn,I G y.2.cl.mx]] w fun e w'=>e=.returned (I O (zac x.1 y.1))/\Dr.Below w.1.size w w':=by
 obtain⟨d,f,b,h⟩:=Dr.box2 w (.cells #[I O x.1.t,I O x.1.sr,I O x.1.wa,I O x.2.st,I O x.2.cl.cnt,I O x.2.cl.sum,I G x.2.cl.mn,I G x.2.cl.mx] 148) (.cells #[I O y.1.t,I O y.1.sr,I O y.1.wa,I O y.2.st,I O y.2.cl.cnt,I O y.2.cl.sum,I G y.2.cl.mn,I G y.2.cl.mx] 148)
 obtain⟨Y,a⟩:∃Y,((w.alloc (.cells #[I O x.1.t,I O x.1.sr,I O x.1.wa,I O x.2.st,I O x.2.cl.cnt,I O x.2.cl.sum,I G x.2.cl.mn,I G x.2.cl.mx] 148)).alloc (.cells #[I O y.1.t,I O y.1.sr,I O y.1.wa,I O y.2.st,I O y.2.cl.cnt,I O y.2.cl.sum,I G y.2.cl.mn,I G y.2.cl.mx] 148))=Y:=⟨_,rfl⟩
 rw[a]at d f b h
 obtain⟨n,o,p,-⟩:=zc d
 obtain⟨q,r,s,-⟩:=zc f
 have j:=zd (ZO x.1 y.1 Y)
 have l:=za d
 have m:=za f
 have c:=zd b
 have g:=zd a
 clear d f b a h
 go_enter func210,ntmps210
 go_wp2_with fail
 rw[ud g]
 go_wp2_with(go_at_call 166;refine(ud j).mono ?_;rintro e V ⟨rfl,i⟩;have k:=zd i;clear i)
 go_ret
 exact⟨rfl,(ud c).trans ((ud k).mono (ud c).size)⟩
theorem Jm(x y:Sg):zac x y<0↔(x.t<y.t\/x.t=y.t/\(x.sr<y.sr\/x.sr=y.sr/\x.wa<y.wa)):=by
 unfold zac
 simp only[orL,kw]
 repeat' split
 all_goals omega
theorem zfS:Go.Sort.SWO (fun x y:SX=>decide (zac x.1 y.1<0)) where
 irrefl x:=by simp only[decide_eq_false_iff_not,Jm];omega
 trans x y z h1 h2:=by simp only[decide_eq_true_eq,Jm]at*;omega
 ntrans x y z h1 h2:=by simp only[decide_eq_false_iff_not,Jm]at*;omega
def zkB(w:R)(g:Nat)(a0 a b a3 a4 a5 c d:z0):R:=((((((((w.setCell ⟨g,0,E⟩ a0).setCell ⟨g,1,E⟩ a).setCell ⟨g,2,E⟩ b).setCell ⟨g,3,E⟩ a3).setCell ⟨g,4,E⟩ a4).setCell ⟨g,5,E⟩ a5).setCell ⟨g,6,E⟩ c).setCell ⟨g,7,E⟩ d)
theorem zjb{w:R}{g:Nat}{b0 o n m l j f d:z0}{t:TypeId}{c:Nat×Nat}(h:w.1[g]?=U (.cells #[b0,o,n,m,l,j,f,d] t c))(a0 a b a3 a4 a5 e k:z0):(zkB w g a0 a b a3 a4 a5 e k).1[g]?=U (.cells #[a0,a,b,a3,a4,a5,e,k] t c):=by
 have p:(w.setCell ⟨g,0,E⟩ a0).1[g]?=U (.cells #[a0,o,n,m,l,j,f,d] t c):=xy (i:=0) h a0
 have q:((w.setCell ⟨g,0,E⟩ a0).setCell ⟨g,1,E⟩ a).1[g]?=U (.cells #[a0,a,n,m,l,j,f,d] t c):=xy (i:=1) p a
 have r:(((w.setCell ⟨g,0,E⟩ a0).setCell ⟨g,1,E⟩ a).setCell ⟨g,2,E⟩ b).1[g]?=U (.cells #[a0,a,b,m,l,j,f,d] t c):=xy (i:=2) q b
 have s:((((w.setCell ⟨g,0,E⟩ a0).setCell ⟨g,1,E⟩ a).setCell ⟨g,2,E⟩ b).setCell ⟨g,3,E⟩ a3).1[g]?=U (.cells #[a0,a,b,a3,l,j,f,d] t c):=xy (i:=3) r a3
 have u:(((((w.setCell ⟨g,0,E⟩ a0).setCell ⟨g,1,E⟩ a).setCell ⟨g,2,E⟩ b).setCell ⟨g,3,E⟩ a3).setCell ⟨g,4,E⟩ a4).1[g]?=U (.cells #[a0,a,b,a3,a4,j,f,d] t c):=xy (i:=4) s a4
 have v:((((((w.setCell ⟨g,0,E⟩ a0).setCell ⟨g,1,E⟩ a).setCell ⟨g,2,E⟩ b).setCell ⟨g,3,E⟩ a3).setCell ⟨g,4,E⟩ a4).setCell ⟨g,5,E⟩ a5).1[g]?=U (.cells #[a0,a,b,a3,a4,a5,f,d] t c):=xy (i:=5) u a5
 have x:(((((((w.setCell ⟨g,0,E⟩ a0).setCell ⟨g,1,E⟩ a).setCell ⟨g,2,E⟩ b).setCell ⟨g,3,E⟩ a3).setCell ⟨g,4,E⟩ a4).setCell ⟨g,5,E⟩ a5).setCell ⟨g,6,E⟩ e).1[g]?=U (.cells #[a0,a,b,a3,a4,a5,e,d] t c):=xy (i:=6) v e
 have y:((((((((w.setCell ⟨g,0,E⟩ a0).setCell ⟨g,1,E⟩ a).setCell ⟨g,2,E⟩ b).setCell ⟨g,3,E⟩ a3).setCell ⟨g,4,E⟩ a4).setCell ⟨g,5,E⟩ a5).setCell ⟨g,6,E⟩ e).setCell ⟨g,7,E⟩ k).1[g]?=U (.cells #[a0,a,b,a3,a4,a5,e,k] t c):=xy (i:=7) x k
 exact y
theorem zbR{B:Nat}{w:R}{g:Nat}(h:B<=g)(a0 a b a3 a4 a5 c d:z0):C B w (zkB w g a0 a b a3 a4 a5 c d):=(((((((((z2 _ _).setCell (p:=⟨g,0,E⟩) h _).setCell (p:=⟨g,1,E⟩) h _).setCell (p:=⟨g,2,E⟩) h _).setCell (p:=⟨g,3,E⟩) h _).setCell (p:=⟨g,4,E⟩) h _).setCell (p:=⟨g,5,E⟩) h _).setCell (p:=⟨g,6,E⟩) h _).setCell (p:=⟨g,7,E⟩) h _)
theorem ZN{V:R}{z a i:Nat}(hn:¬a=z)(a0 b c a3 a4 a5 d e:z0):((((((((V.setCell ⟨z,0,E⟩ a0).setCell ⟨z,1,E⟩ b).setCell ⟨z,2,E⟩ c).setCell ⟨z,3,E⟩ a3).setCell ⟨z,4,E⟩ a4).setCell ⟨z,5,E⟩ a5).setCell ⟨z,6,E⟩ d).setCell ⟨z,7,E⟩ e).cell? ⟨a,i,E⟩=V.cell? ⟨a,i,E⟩:=by
 simp only[World.cell?,Below.heap_setCell _ _ _ _ (show a≠(⟨z,_,E⟩:Addr).block from hn)]
theorem zbA{w:R}{s:Nat}{c:Cf}{tv:z0}{lb gb:Nat}{Gl:List (Sg×Unit)}{L:LV}(h:xt w s c tv lb gb Gl L)(hc:c.ok)(k:Nat)(hk:k<c.n)(sr wa:Int)(H:xg sr)(a3:0<=wa/\wa<=100000)(l:Cl)(D:xz (xp c L sr wa k)=l):
  Calls prog 111 #[.pointer (U ⟨s,0,E⟩),.agg #[I O k,I O sr,I O wa]] w fun e w'=>e=.returned (.agg #[I O k,I O sr,I O wa,I O 3,I O l.cnt,I O l.sum,I G l.mn,I G l.mx])/\C w.1.size w w':=by
 obtain⟨P,Q,m,yz⟩:=box2 w (.cells #[I O k,I O sr,I O wa] 146) (.cells #[I O 0,I O 0,I O 0,I O 0,I O 0,I O 0,I G 0,I G 0] 148)
 have r:=fun W hW=>zd (zbI (h.later (w':=W) hW) hc k hk sr wa H a3)
 have a4:(xp c L sr wa k).length<=1000:=by have:=Y9 L (c.F k) sr (wa*xM c k) (xM c k).toNat;have:=jV hc hk;show(ql L (c.F k) sr (wa*xM c k) (xM c k).toNat).length<=1000;omega
 have y:=fun ad b cap B W M a2=>zd (Yy ad b cap (xp c L sr wa k) B a4 W M a2)
 obtain⟨X,t⟩:∃X,((w.alloc (.cells #[I O k,I O sr,I O wa] 146)).alloc (.cells #[I O 0,I O 0,I O 0,I O 0,I O 0,I O 0,I G 0,I G 0] 148))=X:=⟨_,rfl⟩
 rw[t]at P Q m yz
 obtain⟨p0,p1,p2,-⟩:=zc P
 have PB:=zd Q
 unfold clV at y
 rw[D]at y
 generalize xp c L sr wa k=zs at*
 have z:=r X m
 have A:=r X.drew m.drew
 have u:=zd m
 have a0:=zd t
 have S:=za P
 have qg:=za Q
 have a5:¬w.1.size=w.1.size+1:=by omega
 clear h m P Q r t D yz
 go_enter func111,ntmps111
 go_wp2_with fail
 rw[ud a0]
 go_region_held3 (fun w'=>w'.cell? ⟨w.1.size,0,E⟩=U (I O k)/\w'.cell? ⟨w.1.size,1,E⟩=U (I O sr)/\w'.cell? ⟨w.1.size,2,E⟩=U (I O wa)) (first|go_keep|(with_reducible exact⟨(ZN (by assumption) _ _ _ _ _ _ _ _).trans (by assumption),(ZN (by assumption) _ _ _ _ _ _ _ _).trans (by assumption),(ZN (by assumption) _ _ _ _ _ _ _ _).trans (by assumption)⟩)) (first
  |(go_at_call 171;(first|(with_reducible refine(ud z).mono ?_)|(with_reducible refine(ud A).mono ?_));rintro e V ⟨ad,g,cap,rfl,B,hg,o,d⟩;have i:C X.1.size X V:=⟨d.os,d.tape,d.output,d.size,d.block⟩;clear d;have v0:V.cell? ⟨w.1.size,0,E⟩=U (I O k):=(i.cell (p:=⟨w.1.size,0,E⟩) S).trans p0;have v1:V.cell? ⟨w.1.size,1,E⟩=U (I O sr):=(i.cell (p:=⟨w.1.size,1,E⟩) S).trans p1;have v2:V.cell? ⟨w.1.size,2,E⟩=U (I O wa):=(i.cell (p:=⟨w.1.size,2,E⟩) S).trans p2;have vb:=(i.block _ qg).trans (ud PB);have q:=z1 S i.size;have K:=z1 qg i.size;have Y:=y ad g cap B V hg o;have Z:=y ad g cap B V.drew hg o;have x:=zd i;have VB:=zd vb;clear i B hg o y vb)
  |(go_at_call 123;(first|(with_reducible refine(ud Y).mono ?_)|(with_reducible refine(ud Z).mono ?_));rintro e J ⟨rfl,a⟩;have f:C V.1.size V J:=⟨a.os,a.tape,a.output,a.size,a.block⟩;clear a;have j0:J.cell? ⟨w.1.size,0,E⟩=U (I O k):=(f.cell (p:=⟨w.1.size,0,E⟩) q).trans v0;have j1:J.cell? ⟨w.1.size,1,E⟩=U (I O sr):=(f.cell (p:=⟨w.1.size,1,E⟩) q).trans v1;have j2:J.cell? ⟨w.1.size,2,E⟩=U (I O wa):=(f.cell (p:=⟨w.1.size,2,E⟩) q).trans v2;have N:=(f.block _ K).trans (ud VB);obtain⟨a6,a7,a8,a9,aa,ab,ac,ae,-⟩:=zc N;have jf:=fun j=>zC N j;have ag:=z1 q f.size;have af:=z1 K f.size;have JB:=zd N;have a1:=zd ((ud u).trans (((ud x).trans (f.mono (ud x).size)).mono (ud u).size));clear N f))
 all_goals go_wp2_with fail
 all_goals have hf:=zjb (ud JB) (I O k) (I O sr) (I O wa) (I O 3) (I O l.cnt) (I O l.sum) (I G l.mn) (I G l.mx)
 all_goals have M:=(ud a1).trans (zbR (w:=J) (g:=w.1.size+1) (Nat.le_succ _) (I O k) (I O sr) (I O wa) (I O 3) (I O l.cnt) (I O l.sum) (I G l.mn) (I G l.mx))
 all_goals unfold zkB at hf M
 all_goals refine bodyPost_ret (v:=.agg #[I O k,I O sr,I O wa,I O 3,I O l.cnt,I O l.sum,I G l.mn,I G l.mx]) (results_cell_row results111 _ _ (w.1.size+1) _ _ _ _ rfl hf underlying148 rfl (by kernel_rfl)) rfl ?_
 all_goals exact⟨rfl,M⟩
def XAt(w:R)(g j:Nat)(x:SX):Prop:=
  w.cell? ⟨g,j*8,E⟩=U (I O x.1.t)/\w.cell? ⟨g,j*8+1,E⟩=U (I O x.1.sr)/\w.cell? ⟨g,j*8+2,E⟩=U (I O x.1.wa)/\w.cell? ⟨g,j*8+3,E⟩=U (I O x.2.st)/\
  w.cell? ⟨g,j*8+4,E⟩=U (I O x.2.cl.cnt)/\w.cell? ⟨g,j*8+5,E⟩=U (I O x.2.cl.sum)/\w.cell? ⟨g,j*8+6,E⟩=U (I G x.2.cl.mn)/\w.cell? ⟨g,j*8+7,E⟩=U (I G x.2.cl.mx)
def SRd(w:R)(v:z0)(xs:List SX):Prop:=∃a cap,v=.slice a xs.length cap/\(0<xs.length->∃g,a=U ⟨g,0,E⟩/\g<w.1.size/\∀j x,xs[j]?=U x->XAt w g j x)
theorem vy.rd{w:R}{base:Nat}{v:z0}{xs:List SX}(h:vy w base v xs):SRd w v xs:=by
 obtain⟨a,cap,rfl⟩:=h.slice
 refine⟨a,cap,rfl,fun b=>?_⟩
 obtain⟨g,rfl,-,c⟩:=h.form b
 exact⟨g,rfl,c,fun j x d=>h.at d⟩
theorem XAt.later{w w':R}{g j:Nat}{x:SX}(h:XAt w g j x)(n:C w.1.size w w')(o:g<w.1.size):XAt w' g j x:=by
 obtain⟨a,b,c,d,f,k,l,m⟩:=h
 have e:=fun i=>n.cell (p:=⟨g,i,E⟩) o
 exact⟨(e _).trans a,(e _).trans b,(e _).trans c,(e _).trans d,(e _).trans f,(e _).trans k,(e _).trans l,(e _).trans m⟩
theorem SRd.later{w w':R}{v:z0}{xs:List SX}(h:SRd w v xs)(b:C w.1.size w w'):SRd w' v xs:=by
 obtain⟨a,cap,e,h⟩:=h
 refine⟨a,cap,e,fun f=>?_⟩
 obtain⟨g,d,c,k⟩:=h f
 exact⟨g,d,z1 c b.size,fun j x i=>(k j x i).later b c⟩
theorem SRd.slice{w:R}{v:z0}{xs:List SX}(h:SRd w v xs):∃a cap,v=.slice a xs.length cap:=by
 obtain⟨a,cap,e,-⟩:=h;exact⟨a,cap,e⟩
theorem SRd.form{w:R}{a:Option Addr}{n cap:Nat}{xs:List SX}(h:SRd w (.slice a n cap) xs)(i:0<xs.length):∃g,a=U ⟨g,0,E⟩/\n=xs.length/\g<w.1.size/\∀j x,xs[j]?=U x->XAt w g j x:=by
 obtain⟨m,b,e,h⟩:=h
 obtain⟨g,c,k,l⟩:=h i
 injection e with d f o
 exact⟨g,d.trans c,f,k,l⟩
theorem zcg(B g:Nat)(a b c d:Int)(p:∀m∈[a,b,c,d],xg m)(l:z0)(j:List UInt8)(w:R)(h:Ke w B l j)(k:B<=w.1.size)(f:j.length<=70368744177664)(i:zkd B w)
  (o:w.1[g]?=U (.cells #[I O a,I O b,I O c,I O d] 2 (0,0))):
  Calls prog 168 #[l,.slice (U ⟨g,0,E⟩) 4 4] w fun e w'=>∃n,e=.returned n/\Ke w' B n (j++vm [a,b,c,d])/\C B w w'/\Lib.OthersKept 5 E w w':=
 zaw B g [a,b,c,d] p (by simp) l j w h k f i o
theorem VG{w w':R}(h:Lib.TabIs prog w "internal/strconv.uint64pow10" .u64 Lib.pow10Tab)(a:C w.1.size w w'):Lib.TabIs prog w' "internal/strconv.uint64pow10" .u64 Lib.pow10Tab:=Lib.tabBelow_of_tabIs h _ a
theorem Ke.alloc{w:R}{B:Nat}{v:z0}{a:List UInt8}(h:Ke w B v a)(o:Obj):Ke (w.alloc o) B v a:=World.ownsRow.alloc h o
theorem VM(now:Int)(D:xg now)(xs:List SX)(J:∀x∈xs,okX x)(ar:xs.length<=100000000)(v:z0)(w:R)(hv:SRd w v xs)(H:Lib.TabIs prog w "internal/strconv.uint64pow10" .u64 Lib.pow10Tab):
  Calls prog 108 #[.agg #[I O now,v]] w fun e w'=>e=.returned (.string ⟨(VQ now xs).toArray⟩)/\C w.1.size w w':=by
 obtain⟨ad,cap,rfl⟩:=hv.slice
 have a:C w.1.size w (w.alloc (.cells #[I O now,.slice ad xs.length cap] 190)):=(z2 _ _).alloc (T _) _
 have u:=zk w (.cells #[I O now,.slice ad xs.length cap] 190)
 have ae:=zI w (.cells #[I O now,.slice ad xs.length cap] 190)
 have F:=fun k=>Zp D (xs:=xs.take k) (fun x h=>J x (List.mem_of_mem_take h))
 have b:=hv.later a
 have y:=Lib.tabBelow_of_tabIs (VG H a)
 obtain⟨X,hX⟩:∃X,(w.alloc (.cells #[I O now,.slice ad xs.length cap] 190))=X:=⟨_,rfl⟩
 rw[hX]at a u ae b y
 obtain⟨k0,-⟩:=zc u
 have M:=zd (Kn X.1.size 0 now D (.slice E 0 0) [] X (World.ownsRow_nil _ _ _ _) (T _) (by omega) y)
 have al:=zd hX
 have a1:=zd a
 have ah:=zd u
 have ak:=zd b
 have a5:=zd y
 have aj:=zd J
 have a4:=zd F
 have aq:w.1.size<X.1.size:=by omega
 clear hX a u b y J F hv H ae
 go_enter func108,ntmps108
 go_wp2_with fail
 rw[ud al]
 go_wp2_with(go_at_call 167;refine(ud M).mono ?_;rintro e W ⟨v0,rfl,q,V,-⟩;have c1:W.cell? ⟨w.1.size,1,E⟩=U (.slice ad xs.length cap):=(V.cell (p:=⟨w.1.size,1,E⟩) aq).trans (by rw[xD (ud ah)];rfl))
 have HO:=zd q
 have af:=zd V
 clear q V c1 k0
 go_loopw [3,12] (fun v i wr=>∃k:Nat,k<=xs.length/\i=I O k/\Ke wr X.1.size v (VQ now (xs.take k))/\C X.1.size X wr) (fun _ i _=>xs.length-(intOf i).toNat)
 case atStart=>exact⟨0,Nat.zero_le _,rfl,by
  have h:=ud HO
  rw[Nat.zero_add,List.nil_append]at h
  have e:VQ now (xs.take 0)=Lib.itoa now:=by simp[VQ]
  rw[e];exact h,ud af⟩
 case round=>
  obtain⟨k,hk,rfl,hv,hb⟩:=hrel
  have hbs:=hb.size
  have hr:=ud a4 k
  rw[List.length_take]at hr
  by_cases ap:k<xs.length
  ·obtain⟨x,J⟩:=zgT ap
   have o:=ud aj x (List.mem_of_getElem? J)
   have ac:=(ud ak).later hb
   obtain⟨g,rfl,-,ax,a8⟩:=ac.form (by omega)
   obtain⟨x0,x1,x2,x3,x4,x5,x6,x7⟩:=a8 k x J
   clear a8
   have ay:(k:Int)<xs.length:=by omega
   obtain⟨az,aA⟩:=o.mn
   obtain⟨aB,aC⟩:=o.mx
   have m:=o.seg
   have B:=o.cel
   unfold zgZ at m
   unfold zht at B
   obtain⟨Y,hY⟩:∃Y,(wr.alloc (.cells #[I O x.1.t,I O x.1.sr,I O x.1.wa,I O x.2.st,I O x.2.cl.cnt,I O x.2.cl.sum,I G x.2.cl.mn,I G x.2.cl.mx] 148))=Y:=⟨_,rfl⟩
   have Z:C X.1.size X Y:=by rw[<-hY];exact hb.alloc hbs _
   have S:Y.1[wr.1.size]?=U (.cells #[I O x.1.t,I O x.1.sr,I O x.1.wa,I O x.2.st,I O x.2.cl.cnt,I O x.2.cl.sum,I G x.2.cl.mn,I G x.2.cl.mx] 148 (0,0)):=by rw[<-hY];exact zk _ _
   have ao:Y.1.size=wr.1.size+1:=by rw[<-hY];exact zI _ _
   have z:=Ke.alloc hv (.cells #[I O x.1.t,I O x.1.sr,I O x.1.wa,I O x.2.st,I O x.2.cl.cnt,I O x.2.cl.sum,I G x.2.cl.mn,I G x.2.cl.mx] 148)
   rw[hY]at z
   obtain⟨zs,a0⟩:∃zs,VQ now (xs.take k)=zs:=⟨_,rfl⟩
   rw[a0]at z hr
   have HZ:=zd a0
   have HX:=zd J
   have aE:zs.length<=20000000000:=by omega
   obtain⟨y0,y1,y2,y3,y4,y5,y6,y7,-⟩:=zc S
   obtain⟨n0,s,a7⟩:∃n0:Nat,C X.1.size X (Y.alloc (.cells #[I O x.1.t,I O x.1.sr,I O x.1.wa,I O x.2.st] 2))/\(Y.alloc (.cells #[I O x.1.t,I O x.1.sr,I O x.1.wa,I O x.2.st] 2)).1[Y.1.size]?=U (.cells #[I O x.1.t,I O x.1.sr,I O x.1.wa,I O x.2.st] 2 (0,0)):=⟨0,Z.alloc Z.size _,zk _ _⟩
   have L:=zd (zcg X.1.size Y.1.size x.1.t x.1.sr x.1.wa x.2.st m _ zs _ (Ke.alloc z _) (Nat.le_trans s.size (T _)) (by omega) ((ud a5).on s) a7)
   have ai:=zd (vP [x.1.t,x.1.sr,x.1.wa,x.2.st] m)
   have r:=zd S
   have a6:=zd hY
   have a2:=zd s
   have an:=zd ao
   clear hb hv ac o hY Z S z a0 J s a7 m
   rw[ud an]at L
   cases hc:Yt x.2.st
   ·have N:Hid (∀W:R,Calls prog 169 #[I O x.2.st] W fun e w'=>e=.returned (.bool false)/\w'=W):=fun W=>by rw[<-hc];exact XM _ W
    go_wp2_with fail
    rw[ud a6]
    go_wp2_with(first
     |(go_at_call 168;refine(ud L).mono ?_;rintro e W1 ⟨v1,rfl,b,a,d⟩;have h1:=d wr.1.size _ ((Below.heap_alloc _ _ _ (za (ud r))).trans (ud r)) (by simp) (fun c fz e=>by cases e);obtain⟨-,-,-,z3,-⟩:=zc h1;have Q:=zd b;have K:=zd a;clear b a d h1)
     |(go_at_call 169;refine(ud N _).mono ?_;rintro e w2 ⟨rfl,rfl⟩))
    go_roundw
    case rel=>
     refine⟨k+1,by omega,by go_num,?_,(ud a2).trans (ud K)⟩
     have e:VQ now (xs.take (k+1))=zs++vm [x.1.t,x.1.sr,x.1.wa,x.2.st]:=by
      rw[Zv (ud HX),Vq,ud HZ];simp[ziy,hc,zgZ]
     rw[e];exact ud Q
    case measure=>simp[intOf];omega
   ·have N:Hid (∀W:R,Calls prog 169 #[I O x.2.st] W fun e w'=>e=.returned (.bool true)/\w'=W):=fun W=>by rw[<-hc];exact XM _ W
    go_wp2_with fail
    rw[ud a6]
    go_wp2_with(first
     |(go_at_call 168;refine(ud L).mono ?_;rintro e W1 ⟨v1,rfl,b,a,d⟩;have h1:=d wr.1.size _ ((Below.heap_alloc _ _ _ (za (ud r))).trans (ud r)) (by simp) (fun c fz e=>by cases e);refine Hid.out ?_)
     |fail)
    refine Lib.hid ?_
    obtain⟨-,-,-,z3,z4,z5,z6,z7,-⟩:=zc h1
    have n:=(ud a2).trans a
    have aa:=ud ai
    obtain⟨ys,A⟩:∃ys,zs++vm [x.1.t,x.1.sr,x.1.wa,x.2.st]=ys:=⟨_,rfl⟩
    have aF:ys.length<=30000000000:=by rw[<-A,List.length_append];simp only[List.length_cons,List.length_nil]at aa;omega
    rw[A]at b
    have am:=zd A
    have f:C X.1.size X (W1.alloc (.cells #[I O x.2.cl.cnt,I O x.2.cl.sum,I O x.2.cl.mn,I O x.2.cl.mx] 2)):=n.alloc n.size _
    have ag:=zd (zcg X.1.size W1.1.size x.2.cl.cnt x.2.cl.sum x.2.cl.mn x.2.cl.mx B v1 ys _ (Ke.alloc b _) f.size (by omega) ((ud a5).on f) (zk _ _))
    have a3:=zd f
    clear h1 a d b n aa A f
    go_wp2_with(first
     |(go_at_call 169;refine(ud N _).mono ?_;rintro e w2 ⟨rfl,rfl⟩)
     |(go_at_call 168;refine(ud ag).mono ?_;rintro e W2 ⟨v2,rfl,ab,a9,-⟩;have Q:=zd ab;have K:=zd a9;clear ab a9))
    go_roundw
    case rel=>
     refine⟨k+1,by omega,by go_num,?_,(ud a3).trans (ud K)⟩
     have e:VQ now (xs.take (k+1))=ys++vm [x.2.cl.cnt,x.2.cl.sum,x.2.cl.mn,x.2.cl.mx]:=by
      rw[Zv (ud HX),Vq,ud HZ,<-ud am];simp[ziy,hc,zgZ,zht]
     rw[e];exact ud Q
    case measure=>simp[intOf];omega
  ·obtain rfl:k=xs.length:=by omega
   rw[List.take_length]at hv
   have aD:decide ((xs.length:Int)<xs.length)=false:=by simp
   obtain⟨l,hl⟩:∃l,VQ now xs=l:=⟨_,rfl⟩
   rw[hl]at hv
   have au:0<l.length:=by rw[<-hl];unfold VQ;rw[List.length_append];have:=zfE now;omega
   have HL:=zd hl
   have HB:=zd ((ud a1).trans (hb.mono (ud a1).size))
   clear hb hl hr
   rcases hv.2 with⟨-,h0⟩|⟨g,cp,av,rfl,-⟩
   ·omega
   ·have aw:=run_convert_bytes_back (P:=prog) wr 250 9 5 ⟨g,0,E⟩ cp l underlying250 underlying5 underlying9 (fun j hj=>World.ownsRow.cells hv (g:=g) rfl j _ (by simp[Lib.byteCells,hj]))
    clear hv
    go_wp2_with fail
    go_ret
    rw[ud HL]
    exact⟨rfl,ud HB⟩
end Go.Proofs.YtndhpgciopcncaaGreatDoor
namespace Go.Proofs.YtndhpgciopcncaaGreatDoor
open Go.ChangeMaps (setBlock)
open Go.RowKit Go.Maps Go.Shelf Go.Sort
theorem zgC{α:Type}[Inhabited α](enc:α->List z0)(k:Nat)(w:R)(a b n:Nat)(d:Array α)(os:Array Obj):zo (fun j=>j=a) w (sortWorldK enc k w a b n d os) where
 os:=rfl
 tape:=rfl
 output:=rfl
 size:=size_sortWorldK_c enc k w a b n d os
 block j hj hn:=by
  unfold sortWorldK putRowK
  rw[heap_grow_old _ _ (by rw[size_putRow];exact hj)]
  unfold putRow mapBlock
  show((Sort.ahead w n).heap.modify a _)[j]?=_
  rw[Array.getElem?_modify,if_neg (fun e=>hn e.symm)]
  rfl
theorem zhG:∀args w,(callFunc 210 args).run prog w=.ok (.enter 210 args) w:=enters_of func210 (by kernel_rfl) rfl
theorem Z3(x:SX):(xe x).length=8:=rfl
theorem ziP(a b size:Nat)(w:R):CmpLays prog 210 #[] xe 8 (fun x y:SX=>zac x.1 y.1) a b size w:=
 fun m os f g x y=>(zeV x y _).mono fun e w' ⟨d,c⟩=>⟨d,c.lays⟩
theorem zgw(a cap:Nat)(xs:List SX)(w:R)(i:HoldsK xe 8 w a 0 xs.toArray)(c:a<w.1.size)(g:xs.length<4611686018427387904):
  Calls prog 209 #[.slice (U ⟨a,0,E⟩) xs.length cap,.func (.func 210) #[] #[]] w fun e w'=>e=.returned (.tuple #[])/\∃m:List SX,m.Perm xs/\HoldsK xe 8 w' a 0 m.toArray/\zo (fun j=>j=a) w w':=by
 have f:=AnyQ.slices_SortFunc Tryz.sortSeg 8 Tryz.isAgg148 Tryz.sizeOf148 xe Z3 vt (fun x y:SX=>zac x.1 y.1) zfS 210 #[] a 0 cap xs.toArray w zhG (ziP a 0 _ w) i c (by simpa using g)
 have b:Calls prog 209 #[.slice (U ⟨a,0,E⟩) xs.toArray.size cap,.func (.func 210) #[] #[]] w _:=f
 rw[List.size_toArray]at b
 refine b.mono ?_
 rintro e w' ⟨rfl,d,n,os,⟨l,_,k⟩,q,rfl⟩
 have h:d.size=xs.length:=by rw[l,List.size_toArray]
 refine⟨rfl,d.toList,?_,?_,zgC _ _ _ _ _ _ _ _⟩
 ·have o:d.extract 0 xs.length=d:=by rw[<-h];exact Array.extract_size
  have p:xs.toArray.extract 0 xs.length=xs.toArray:=by simp
  rw[o,p]at k
  exact k
 ·have:=holdsK_sortWorldK_c xe 8 w a 0 xs.toArray d n os i c l
  simpa using this
theorem ziC(a:Option Addr)(cap:Nat)(w:R):
  Calls prog 209 #[.slice a 0 cap,.func (.func 210) #[] #[]] w fun e w'=>e=.returned (.tuple #[])/\w'=w:=
 AnyF.slices_SortFunc_none (P:=prog) Tryz.sortSeg a cap (.func (.func 210) #[] #[]) w
theorem zfy{w:R}{base g cap:Nat}{xs:List SX}(h:vy w base (.slice (U ⟨g,0,E⟩) xs.length cap) xs):HoldsK xe 8 w g 0 xs.toArray:=fun j d=>by
 have a:j<xs.length*8:=by simpa[size_flatK]using d
 rw[Nat.zero_add]
 refine⟨?_,World.ownsRow.frozenAt h j⟩
 rw[World.ownsRow.cellAt h j a,get_flatK _ _ _ _ (by simpa using a)]
 have c:j/8<xs.length:=by omega
 have:=yJ Z3 xs (j/8) xs[j/8] (j%8) (by simp[c]) (by omega)
 rw[show j/8*8+j%8=j by omega]at this
 rw[this,getElem!_pos xs.toArray (j/8) (by simpa using c)]
 have b:j%8<(xe xs[j/8]).length:=by rw[Z3];omega
 simp only[id,List.getElem_toArray]
 rw[getElem!_pos (xe xs[j/8]) (j%8) b,List.getElem?_eq_getElem b]
theorem zfw{w:R}{g:Nat}{xs:List SX}(h:HoldsK xe 8 w g 0 xs.toArray){j:Nat}{x:SX}(f:xs[j]?=U x):XAt w g j x:=by
 obtain⟨d,ex⟩:=List.getElem?_eq_some_iff.1 f
 have key:∀(i:Nat) (v:z0),i<8->(xe x)[i]?=U v->w.cell? ⟨g,j*8+i,E⟩=U v:=fun i v k hv=>by
  have a:j*8+i<xs.length*8:=by omega
  obtain⟨b,-⟩:=h (j*8+i) (by simpa[size_flatK]using a)
  rw[Nat.zero_add]at b
  rw[b,get_flatK _ _ _ _ (by simpa using a)]
  rw[show(j*8+i)/8=j by omega,show(j*8+i)%8=i by omega,getElem!_pos xs.toArray j (by simpa using d)]
  simp only[id,List.getElem_toArray,ex]
  obtain⟨e,c⟩:=List.getElem?_eq_some_iff.1 hv
  rw[getElem!_pos (xe x) i e,c]
 exact⟨key 0 _ (by omega) rfl,key 1 _ (by omega) rfl,key 2 _ (by omega) rfl,key 3 _ (by omega) rfl,key 4 _ (by omega) rfl,key 5 _ (by omega) rfl,key 6 _ (by omega) rfl,key 7 _ (by omega) rfl⟩
theorem Tryz.infoSeg:(prog.info? 148).map (fun i=>(i.zero,i.size,i.bytes))=U (U (.agg #[I O 0,I O 0,I O 0,I O 0,I O 0,I O 0,I G 0,I G 0]),8,56):=by kernel_rfl
theorem zir{w:R}{ops:Array Oper}{rest:List Oper}{o:Oper}{a:Act}{Q:Exit->Act->R->Prop}(e:o.guard=E)(s x:Operand)
  (m:o.op=.call {callee:=.builtin .append,args:=#[s,x],argTypes:=#[105,105]}) (base:Nat) (v:z0) (l:List SX) (f:SX) (n:a.eval s=v) (b:vy w base v l)
  (c:Nat) (p:a.eval x=.slice (U ⟨c,0,E⟩) 1 1) (d:w.1[c]?=U (.cells #[I O f.1.t,I O f.1.sr,I O f.1.wa,I O f.2.st,I O f.2.cl.cnt,I O f.2.cl.sum,I G f.2.cl.mn,I G f.2.cl.mx] 148 (0,0))) (q:l.length<=1000000000) (hbase:base<=w.1.size)
  (h:∀g cap w',vy w' base (.slice (U ⟨g,0,E⟩) (l.length+1) cap) (l++[f])->w.grownBy w' v.ownBlock->g<w'.1.size->wpList prog ops Q rest (a.put o.dst (.slice (U ⟨g,0,E⟩) (l.length+1) cap)) w'):wpList prog ops Q (o::rest) a w:=
 xx e s x 105 m base 148 _ 8 56 underlying105 Tryz.infoSeg rfl (by decide) v l.length (l.flatMap xe) n b ⟨c,0,E⟩ 1 1 (xe f) p rfl
  (World.news_of_block (cs:=(xe f).toArray) d) (vt f) (by decide) (by simp only[maxLen];omega) (by omega) hbase
  fun g cap w' i _ j _ k=>h g cap w' (zer i) j k
def Qt(p:Sg×Unit):SX:=(p.1,⟨4,qc⟩)
def Zy(L:LV)(Gl:List (Sg×Unit)):List SX:=L++Gl.map Qt
theorem jj{w:R}{base:Nat}{v:z0}{xs:List SX}(h:vy w base v xs){k:Nat}{o:Obj}(a:w.1[k]?=U o)(d:o.isCells=false):v.ownBlock≠U k:=fun e=>by
 obtain⟨b,c⟩:=zH h e
 rw[c]at a;cases a;cases d
theorem zhi{w:R}{s:Nat}{c:Cf}{tv:z0}{lb gb:Nat}{Gl:List (Sg×Unit)}{L:LV}(h:xt w s c tv lb gb Gl L)(aG:L.length<=1000000)(aL:Gl.length<=100000000):
  Calls prog 134 #[.pointer (U ⟨s,0,E⟩)] w fun e w'=>∃xs v,xs.Perm (Zy L Gl)/\e=.returned v/\SRd w' v xs/\C w.1.size w w':=by
 obtain⟨Y,b,a6,ak⟩:=h.gone
 obtain⟨-,-,-,-,-,-,-,c7,c8⟩:=h.cells
 have aq:=h.lt
 have a4:C w.1.size w (w.alloc (.cells #[.map (U lb)] 152)):=(z2 _ _).alloc (T _) _
 have au:=zI w (.cells #[.map (U lb)] 152)
 have HV:=zd (Yv lb w)
 have HC:=zd (Kt _ _ J4 (w.alloc (.cells #[.map (U lb)] 152)) aG (zfF w.1.size lb L _ (by rw[au];omega) (by rw[xD (zk _ _)];rfl) (xY.1 (h.later a4).live)))
 have a7:=za a6
 have ae:=zd a6
 have o:=zd ak
 have ab:=zd a4
 clear h a6 ak a4
 go_enter func134,ntmps134
 go_wp2_with(first
  |(go_at_call 88;refine(ud HV).mono ?_;rintro e w1 ⟨rfl,rfl⟩)
  |(go_at_call 208;refine(ud HC).mono ?_;rintro e l ⟨z,v0,am,rfl,ao,ah⟩;have f:C w.1.size w l:=(ud ab).trans (ah.mono (ud ab).size);have d8:l.cell? ⟨s,8,E⟩=U (.map (U gb)):=(f.cell (p:=⟨s,8,E⟩) aq).trans c8;have S:=run_range_map (P:=prog) l 153 _ _ gb Y b underlying153 ((f.block _ a7).trans (ud ae));have aJ:s<l.1.size:=z1 aq f.size;have af:=zd am;have ay:=zd ao;have aa:=zd f;clear am ao f ah))
 go_loopw [3] (fun v wr=>∃(d:Array Nat) (c0:Nat) (ps:List MapEntry),wr.1[l.1.size]?=U (.mapIter (U gb) b d c0)/\b<=c0/\wr.1[gb]?=U (.map Y b)/\JH Y d ps/\vy wr w.1.size v (z++(ps.map (yo kV Gl)).map Qt)/\C w.1.size w wr)
  (fun _ wr=>vw Y l.1.size wr)
 case atStart=>
  have f:=ud aa
  have ai:C l.1.size l (l.alloc (.mapIter (U gb) b #[] b)):=(z2 _ _).alloc (T _) _
  exact⟨#[],b,[],zk _ _,T _,(ai.block _ (z1 a7 f.size)).trans ((f.block _ a7).trans (ud ae)),⟨by simp,by simp,by simp⟩,by
   have:=xm (yu (b':=w.1.size) (ud ay) (by rw[au];omega)) ai
   simpa[vy]using this,f.alloc f.size _⟩
 case round=>
  obtain⟨d,c0,ps,hr,aE,Q,hC,hv,Z⟩:=hrel
  have aM:=za hr
  have aN:=(ud aa).size
  clear S d8 HC HV
  rcases run_next_at (P:=prog) wr 0 l.1.size gb b c0 d Y b hr Q (ud o).born aE with⟨hz,m⟩|⟨e,N,w1,V,m⟩
  ·have n:(z++(ps.map (yo kV Gl)).map Qt).Perm (Zy L Gl):=(ud af).append ((vh jP (ud o) (hC.all (ud o).once hz)).map Qt)
   generalize z++(ps.map (yo kV Gl)).map Qt=xs at*
   have a0:xs.length<=200000000:=by rw[n.length_eq];unfold Zy;rw[List.length_append,List.length_map];omega
   obtain⟨a,cap,rfl⟩:=hv.slice
   have ag:=zd n
   have HB:=zd Z
   clear hz hC Q n Z
   by_cases h0:xs.length=0
   ·have al:xs=[]:=List.length_eq_zero_iff.1 h0
    subst al
    have az:=zd (ziC a cap wr)
    clear hv
    go_wp2_with(go_at_call 209;refine(ud az).mono ?_;rintro e W ⟨rfl,rfl⟩)
    go_ret
    exact⟨[],_,ud ag,rfl,⟨_,_,rfl,fun h=>absurd h (by simp)⟩,ud HB⟩
   ·obtain⟨g,rfl,-,hg⟩:=hv.form (by omega)
    have aK:=(World.ownsRow.lt hv g rfl).1
    have HS:=zd (zgw g cap xs wr (zfy hv) hg (by omega))
    clear hv
    go_wp2_with(go_at_call 209;refine(ud HS).mono ?_;rintro e W ⟨rfl,ys,H,hH,D⟩;have ax:=zd H;have HH:=zd hH;have HK:=zd D;clear H hH D)
    go_ret
    have H:=ud ax
    have D:=ud HK
    have Z:=ud HB
    refine⟨ys,.slice (U ⟨g,0,E⟩) xs.length cap,H.trans (ud ag),rfl,⟨U ⟨g,0,E⟩,cap,by rw[H.length_eq],fun _=>⟨g,rfl,z1 hg D.size,fun j x hx=>zfw (ud HH) hx⟩⟩,Z.trans (D.below Z.size (fun j e=>by omega))⟩
  ·have ad:=zd N
   obtain⟨a5,-⟩:=xj.1 N
   have ap:w1.1[l.1.size]?=U (.mapIter (U gb) b d c0):=by rcases V with rfl|rfl<;>exact hr
   have an:w1.1[gb]?=U (.map Y b):=by rcases V with rfl|rfl<;>exact Q
   have aH:gb≠l.1.size:=by omega
   obtain⟨X,hX⟩:∃X,setBlock w1 l.1.size (.mapIter (U gb) b (d.push e.born) b)=X:=⟨_,rfl⟩
   have K:X.1[l.1.size]?=U (.mapIter (U gb) b (d.push e.born) b):=by rw[<-hX];exact xw (za ap) _
   have J:X.1[gb]?=U (.map Y b):=by rw[<-hX,zZ aH];exact an
   have a8:zo (fun k=>k=l.1.size) wr X:=by
    rw[<-hX];rcases V with rfl|rfl
    ·exact xH _
    ·exact(zo.refl (fun k=>k=l.1.size) wr).drew.trans (xH _) (fun _ _ h=>h)
   have M:C w.1.size w X:=Z.trans (a8.below Z.size (fun j e=>by omega))
   have ar:=zg hv a8 (fun k D e=>jj hv hr rfl (by rw[<-e];exact D))
   rw[hX]at m
   have aj:=run_entry_at (P:=prog) X l.1.size gb b d Y b e K J a5 (ud o).once
   obtain⟨aF,D,i⟩:=jA jP (ud o) a5
   obtain⟨⟨k,u⟩,a9⟩:∃y,yo kV Gl e=y:=⟨_,rfl⟩
   have aA:=zd a9
   rw[a9]at D i
   have F:e.key=yE k:=D
   have i:e.val=.agg #[]:=i
   unfold yE at F
   rw[F,i]at m aj
   have aD:=za K
   obtain⟨y0,y1,A,yz⟩:=box2 X (.cells #[I O k.t,I O k.sr,I O k.wa] 146) (.cells #[I O k.t,I O k.sr,I O k.wa,I O 4,I O 0,I O 0,I G 0,I G 0] 148)
   have a0:(z++(ps.map (yo kV Gl)).map Qt).length<=1000000000:=by
    have h1:=(ud af).length_eq
    have h2:=hC.lt N
    have h3:=(ud o).count
    rw[List.length_append,List.length_map,List.length_map];omega
   have a2:=zd (xm ar A)
   have aB:=zd y1
   have r:=zd ((A.block _ aD).trans K)
   have a3:=zd ((A.block _ (za J)).trans J)
   have ac:=zd (M.trans (A.mono M.size))
   have HC:=zd hC
   have HR:=zd hr
   have aw:=zd M.size
   clear hv Z Q hC hr K J a8 M ar ap an hX V N a5 aF D F i a9 y0 y1 A
   generalize av:z++(ps.map (yo kV Gl)).map Qt=zs at*
   have aC:=zd av
   clear av
   go_wp2_with(first
    |(at_builtin;refine zir rfl _ _ rfl w.1.size _ zs (Qt (k,u)) rfl (ud a2) (X.1.size+1) rfl (ud aB) a0 (by have:=ud aw;rw[yz];omega) ?_;intro g cap W a1 B aI;have HO:=zd a1;have HG:=zd B;clear a1 B)
    |fail)
   go_roundw
   case rel=>
    have hg:=ud HG
    have hv:=ud a2
    refine⟨d.push e.born,b,ps++[e],(hg.block _ (za (ud r)) (fun e=>jj hv (ud r) rfl e.symm)).trans (ud r),T _,(hg.block _ (za (ud a3)) (fun e=>jj hv (ud a3) rfl e.symm)).trans (ud a3),(ud HC).step (ud ad),?_,(ud ac).grown hg (ud ac).size (fun q hq=>(World.ownsRow.lt hv q hq).1)⟩
    have e:z++((ps++[e]).map (yo kV Gl)).map Qt=zs++[Qt (k,u)]:=by
     rw[List.map_append,List.map_append,<-List.append_assoc,ud aC,List.map_singleton,List.map_singleton,ud aA]
    rw[e]
    have h:=ud HO
    unfold vy at h ⊢
    rw[List.length_append,List.length_singleton]at h ⊢
    exact h
   case measure=>
    have hg:=ud HG
    rw[xa ((hg.block _ (za (ud r)) (fun e=>jj (ud a2) (ud r) rfl e.symm)).trans (ud r)),xa (ud HR)];exact qk (ud ad)
end Go.Proofs.YtndhpgciopcncaaGreatDoor
