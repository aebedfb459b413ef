import Derived.Test.YtndhpgciopcncaaGreatDoorUCmp0
import Derived.Deep.RegionHeld3
import Derived.Lib.AppendIntMem
import Derived.Lib.ItoaLen
import Derived.Lib.Slices
import Derived.Lib.Hide
import Derived.Laws.IdiomStrings
import Derived.OwnWalk
import Derived.WalkKit
import Derived.BigCall
import Derived.Maps.OwnIn
import Derived.OwnWalkIn
import Derived.Sort.Statements
import Derived.Shelf.SlSortCmp.WholeK
import Derived.Shelf.SlSortCmp.NoneTotal
open Go.Value renaming int → I
open Go.IntKind renaming i64 → O
open Option renaming none → E
open Option renaming some → U
open Go.IntKind renaming i32 → G
open Go renaming World → T
open Nat renaming le_refl → C
open Go.RowKit renaming Below → z0
open Go renaming Value → z1
open Nat renaming lt_of_lt_of_le → z9
open Go.RowKit.Below renaming refl → zb
open List renaming mem_cons → zf
open Nat renaming le_of_lt → zl
set_option linter.unusedVariables false
set_option maxRecDepth 100000
set_option maxHeartbeats 8000000
open Go.Proofs.Tryz
namespace Go.Proofs.YtndhpgciopcncaaGreatDoor
open Go.ChangeMaps (setBlock)
open Go.RowKit Go.Maps Go.Shelf
def xi(zs:List Cl):Cl:=⟨kq (zs.map (·.cnt)),kq (zs.map (·.sum)),((qA XR zs).getD xY).mn,((qA XS zs).getD xY).mx⟩
section
variable {b cap:Nat} {ad:Option Addr} {zs:List Cl} {Y:T}
theorem X7(a:zs≠[]->ad=U ⟨b,0,E⟩)(e:zs.length<=1000)(c:b<Y.1.size)(d:CAt Y b zs):SeqStopsK Fence.wide 6 prog 238 #[.pointer (U ⟨Y.1.size,0,E⟩)] (fun x:Cl=>#[.agg #[I O x.cnt,I O x.sum,I G x.mn,I G x.mx]]) (z0 (Y.alloc (.cells #[.slice ad zs.length cap] 208)).1.size) (fun xs=>xs=zs) (fun _=>True) zs.length (Y.alloc (.cells #[.slice ad zs.length cap] 208)):=
 Yc 6 (by omega) Y.1.size _ b cap ad zs a e (by simp;omega) _ (C _) (by simp) (by rw[xD (zm _ _)];rfl) (d.below ((zb _ _).alloc (C _) _) c)
theorem Xf{w':T}{o:Obj}(h:z0 (Y.alloc o).1.size (Y.alloc o) w'):z0 Y.1.size Y w':=((zb _ _).alloc (C _) o).trans (h.mono (by simp))
theorem zfP(V:Int)(a:kq (zs.map (·.cnt))=V)(c:zs≠[]->ad=U ⟨b,0,E⟩)(g:zs.length<=1000)(d:b<Y.1.size)(f:CAt Y b zs):Calls prog 190 #[.func (.func 238) #[] #[.pointer (U ⟨Y.1.size,0,E⟩)],.func (.func 191) #[] #[]] (Y.alloc (.cells #[.slice ad zs.length cap] 208)) fun e w'=>e=.returned (I O V)/\z0 Y.1.size Y w':=by
 refine(zig _ _ Z0 (·.cnt) _ (yK _) (fun x W _=>zcJ x W) (X7 c g d f)).mono ?_
 rintro e w' ⟨xs,rfl,rfl,h⟩
 exact⟨by rw[a],Xf h⟩
theorem zfQ(V:Int)(a:kq (zs.map (·.sum))=V)(c:zs≠[]->ad=U ⟨b,0,E⟩)(g:zs.length<=1000)(d:b<Y.1.size)(f:CAt Y b zs):Calls prog 192 #[.func (.func 238) #[] #[.pointer (U ⟨Y.1.size,0,E⟩)],.func (.func 193) #[] #[]] (Y.alloc (.cells #[.slice ad zs.length cap] 208)) fun e w'=>e=.returned (I O V)/\z0 Y.1.size Y w':=by
 refine(zih _ _ Z0 (·.sum) _ (yK _) (fun x W _=>zcK x W) (X7 c g d f)).mono ?_
 rintro e w' ⟨xs,rfl,rfl,h⟩
 exact⟨by rw[a],Xf h⟩
theorem zcT(f:Cl)(s:Bool)(g:(qA XR zs).getD xY=f)(i:(qA XR zs).isSome=s)(a:zs≠[]->ad=U ⟨b,0,E⟩)(j:zs.length<=1000)(c:b<Y.1.size)(d:CAt Y b zs):Calls prog 185 #[.func (.func 238) #[] #[.pointer (U ⟨Y.1.size,0,E⟩)],.func (.func 187) #[] #[]] (Y.alloc (.cells #[.slice ad zs.length cap] 208)) fun e w'=>e=.returned (.tuple #[.agg #[I O f.cnt,I O f.sum,I G f.mn,I G f.mx],.bool s])/\z0 Y.1.size Y w':=by
 refine(zaB _ _ Z0 _ (yK _) (X7 a j c d)).mono ?_
 rintro e w' ⟨xs,rfl,rfl,h⟩
 exact⟨by rw[g,i];rfl,Xf h⟩
theorem Ku(f:Cl)(s:Bool)(g:(qA XS zs).getD xY=f)(i:(qA XS zs).isSome=s)(a:zs≠[]->ad=U ⟨b,0,E⟩)(j:zs.length<=1000)(c:b<Y.1.size)(d:CAt Y b zs):Calls prog 185 #[.func (.func 238) #[] #[.pointer (U ⟨Y.1.size,0,E⟩)],.func (.func 189) #[] #[]] (Y.alloc (.cells #[.slice ad zs.length cap] 208)) fun e w'=>e=.returned (.tuple #[.agg #[I O f.cnt,I O f.sum,I G f.mn,I G f.mx],.bool s])/\z0 Y.1.size Y w':=by
 refine(zaC _ _ Z0 _ (yK _) (X7 a j c d)).mono ?_
 rintro e w' ⟨xs,rfl,rfl,h⟩
 exact⟨by rw[g,i];rfl,Xf h⟩
end
theorem Ym(ad:Option Addr)(b cap:Nat)(zs:List Cl)(ha:zs≠[]->ad=U ⟨b,0,E⟩)(hz:zs.length<=1000)(w:T)(u:b<w.1.size)(q:CAt w b zs):
  Calls prog 123 #[.slice ad zs.length cap] w fun e w'=>e=.returned (clV (xi zs))/\z0 w.1.size w w':=by
 obtain⟨c,N⟩:∃f,(qA XR zs).getD xY=f:=⟨_,rfl⟩
 obtain⟨s1,a9⟩:∃f,(qA XR zs).isSome=f:=⟨_,rfl⟩
 obtain⟨a,P⟩:∃f,(qA XS zs).getD xY=f:=⟨_,rfl⟩
 obtain⟨s2,aa⟩:∃f,(qA XS zs).isSome=f:=⟨_,rfl⟩
 obtain⟨R,y⟩:∃f,kq (zs.map (·.cnt))=f:=⟨_,rfl⟩
 obtain⟨v2,z⟩:∃f,kq (zs.map (·.sum))=f:=⟨_,rfl⟩
 have hj:clV (xi zs)=.agg #[I O R,I O v2,I G c.mn,I G a.mx]:=by unfold xi clV;rw[N,P,y,z]
 rw[hj]
 clear hj
 have aF:=zd y
 have aG:=zd z
 have K:z0 w.1.size w (w.alloc (.cells #[I O 0,I O 0,I G 0,I G 0] 115)):=(zb _ _).alloc (C _) _
 have a6:=zm w (.cells #[I O 0,I O 0,I G 0,I G 0] 115)
 have ac:=zL w (.cells #[I O 0,I O 0,I G 0,I G 0] 115)
 have J:=fun Y=>zd (VO ad zs.length cap Y)
 have ar:=fun(Y:T) (u:b<Y.1.size) (q:CAt Y b zs)=>zd (zcT (cap:=cap) (Y:=Y) c s1 N a9 ha hz u q)
 have al:=fun(Y:T) (u:b<Y.1.size) (q:CAt Y b zs)=>zd (Ku (cap:=cap) (Y:=Y) a s2 P aa ha hz u q)
 have au:=fun(Y:T) (u:b<Y.1.size) (q:CAt Y b zs)=>zd (zfP (cap:=cap) (Y:=Y) R y ha hz u q)
 have V:=fun(Y:T) (u:b<Y.1.size) (q:CAt Y b zs)=>zd (zfQ (cap:=cap) (Y:=Y) v2 z ha hz u q)
 clear N a9 P aa y z hz ha
 go_enter func123,ntmps123
 go_wp2_with fail
 have L:=q.below K u
 generalize(w.alloc (.cells #[I O 0,I O 0,I G 0,I G 0] 115))=X0 at*
 have a2:b<X0.1.size:=by omega
 have ay:w.1.size<X0.1.size:=by omega
 have aH:=zd ac
 clear ac
 have W:=J X0
 refine(ud W).mono ?_
 rintro e x1 ⟨rfl,rfl⟩
 go_wp2_with fail
 have an:=ar X0 a2 L
 refine(ud an).mono ?_
 rintro e i ⟨rfl,a0⟩
 have H:=zd a0
 clear a0
 go_wp2_with fail
 have o:=(ud H).alloc (ud H).size (.cells #[I O c.cnt,I O c.sum,I G c.mn,I G c.mx] 115)
 have a7:=zm i (.cells #[I O c.cnt,I O c.sum,I G c.mn,I G c.mx] 115)
 have ai:=zL i (.cells #[I O c.cnt,I O c.sum,I G c.mn,I G c.mx] 115)
 have M:=L.below o (by omega)
 generalize(i.alloc (.cells #[I O c.cnt,I O c.sum,I G c.mn,I G c.mx] 115))=Z at*
 have aC:=o.size
 have a3:b<Z.1.size:=by omega
 have az:w.1.size<Z.1.size:=by omega
 have aL:i.1.size<Z.1.size:=by omega
 have aI:=zd ai
 clear ai
 have X:=J Z
 refine(ud X).mono ?_
 rintro e x1 ⟨rfl,rfl⟩
 go_wp2_with fail
 have ao:=al Z a3 M
 refine(ud ao).mono ?_
 rintro e l ⟨rfl,a1⟩
 have r:=zd a1
 clear a1
 go_wp2_with fail
 have m:=(ud r).alloc (ud r).size (.cells #[I O a.cnt,I O a.sum,I G a.mn,I G a.mx] 115)
 have a8:=zm l (.cells #[I O a.cnt,I O a.sum,I G a.mn,I G a.mx] 115)
 have aB:=zL l (.cells #[I O a.cnt,I O a.sum,I G a.mn,I G a.mx] 115)
 have a5:=M.below m (by omega)
 have D:=(m.block i.1.size (by omega)).trans a7
 have k:=(m.block w.1.size (by omega)).trans ((o.block w.1.size (by omega)).trans a6)
 have ab:z0 w.1.size w (l.alloc (.cells #[I O a.cnt,I O a.sum,I G a.mn,I G a.mx] 115)):=K.trans ((o.mono (zl ay)).trans (m.mono (zl az)))
 have aD:=m.size
 have aE:=(ud r).size
 generalize(l.alloc (.cells #[I O a.cnt,I O a.sum,I G a.mn,I G a.mx] 115))=t at*
 obtain⟨-,-,l1,-⟩:=zc D
 obtain⟨-,-,-,l2,-⟩:=zc a8
 obtain⟨r0,r1,r2,r3,-⟩:=zc k
 have rf:=fun j=>zE k j
 have am:=zd k
 have av:=zd ab
 have ae:i.1.size<t.1.size:=by omega
 have af:l.1.size<t.1.size:=by omega
 have Q:w.1.size<t.1.size:=by omega
 have hbb:b<t.1.size:=by omega
 clear a6 a7 D a8 k o m ab M L q aC aD aE aB K
 have aw:¬i.1.size=w.1.size:=by have:=(ud H).size;omega
 have ax:¬l.1.size=w.1.size:=by have:=(ud r).size;omega
 have aJ:¬w.1.size=i.1.size:=fun h=>aw h.symm
 have aK:¬w.1.size=l.1.size:=fun h=>ax h.symm
 have S:Hid (Calls prog 190 #[.func (.func 238) #[] #[.pointer (U ⟨t.1.size,0,E⟩)],.func (.func 191) #[] #[]] (t.alloc (.cells #[.slice ad zs.length cap] 208)).drew fun e w'=>e=.returned (I O R)/\z0 t.1.size t w'):=zd ((ud (au t.drew hbb a5)).mono fun e w' h=>⟨h.1,⟨h.2.os,h.2.tape,h.2.output,h.2.size,h.2.block⟩⟩)
 go_region_held3 (fun w'=>w'.cell? ⟨i.1.size,2,E⟩=U (I G c.mn)/\w'.cell? ⟨l.1.size,3,E⟩=U (I G a.mx)) (go_keep) (first
  |(go_at_call 186;refine(ud (J _)).mono ?_;rintro e x1 ⟨rfl,rfl⟩)
  |(go_at_call 190;refine(ud S).mono ?_;rintro e s ⟨rfl,d⟩;have m1:s.cell? ⟨i.1.size,2,E⟩=U (I G c.mn):=(d.cell (p:=⟨i.1.size,2,E⟩) ae).trans l1;have m2:s.cell? ⟨l.1.size,3,E⟩=U (I G a.mx):=(d.cell (p:=⟨l.1.size,3,E⟩) af).trans l2;have A:b<s.1.size:=z9 hbb d.size;have a4:CAt s b zs:=a5.below d hbb;have ag:i.1.size<s.1.size:=z9 ae d.size;have ah:l.1.size<s.1.size:=z9 af d.size;have F:w.1.size<s.1.size:=z9 Q d.size;have ap:=zd ((d.block w.1.size Q).trans (ud am));have aj:=zd d;clear d)
  |(go_at_call 192;(first|refine(ud (V s A a4)).mono ?_|refine(ud (V s.drew A a4)).mono ?_);rintro e X4 ⟨rfl,n⟩;have n1:X4.cell? ⟨i.1.size,2,E⟩=U (I G c.mn):=(n.cell (p:=⟨i.1.size,2,E⟩) ag).trans m1;have n2:X4.cell? ⟨l.1.size,3,E⟩=U (I G a.mx):=(n.cell (p:=⟨l.1.size,3,E⟩) ah).trans m2;have x:=(n.block w.1.size F).trans (ud ap);obtain⟨q0,q1,q2,q3,-⟩:=zc x;have qf:=fun j=>zE x j;have aq:=zd x;have ak:=zd n;clear x n))
 go_wp2_with fail
 have hf:=YL (ud aq) (I O R) (I O v2) (I G c.mn) (I G a.mx)
 have aA:=(ud av).trans (((ud aj).mono (zl Q)).trans (((ud ak).mono (zl F)).trans (below4 (w:=X4) (B:=w.1.size) (g:=w.1.size) (C _) (I O R) (I O v2) (I G c.mn) (I G a.mx))))
 refine bodyPost_ret (v:=.agg #[I O R,I O v2,I G c.mn,I G a.mx]) (results_cell_row results123 _ _ w.1.size _ _ _ _ rfl hf underlying115 rfl (by kernel_rfl)) rfl ?_
 exact⟨rfl,aA⟩
def yq(v:Int):Cl:=⟨1,v,v,v⟩
def Cl.small(x:Cl):Prop:=0<=x.cnt/\x.cnt<=1000000000000/\ -1000000000000000000<=x.sum/\x.sum<=1000000000000000000
theorem zfe(v:Int)(hv: -2147483648<=v/\v<=2147483647):xi [yq v]=qp v E:=by
 unfold xi
 have a:kq ([yq v].map (·.cnt))=1:=by rw[yV]<;>simp[qr,yq]
 have b:kq ([yq v].map (·.sum))=v:=by rw[yV]<;>simp[qr,yq];omega
 rw[a,b]
 simp[qA,kJ,yq,qp]
theorem zcj(a b:Int):zar a b<0↔a<b:=by
 unfold zar;split
 ·simp[*]
 ·split<;>simp[*]
theorem zff(v:Int)(hv: -2147483648<=v/\v<=2147483647)(o:Cl)(e:o.small):xi [yq v,o]=qp v (U o):=by
 obtain⟨f,g,h,i⟩:=e
 unfold xi
 have c:kq ([yq v,o].map (·.cnt))=1+o.cnt:=by rw[yV]<;>simp[qr,yq];omega
 have d:kq ([yq v,o].map (·.sum))=v+o.sum:=by rw[yV]<;>simp[qr,yq];omega
 rw[c,d]
 have a:((qA XR [yq v,o]).getD xY).mn=if o.mn<v then o.mn else v:=by
  simp only[qA,List.foldl_cons,List.foldl_nil,kJ,XR,zcj,yq]
  split<;>simp
 have b:((qA XS [yq v,o]).getD xY).mx=if v<o.mx then o.mx else v:=by
  simp only[qA,List.foldl_cons,List.foldl_nil,kJ,XS,zcj,yq]
  split<;>simp
 rw[a,b];rfl
theorem zft(L:LV)(s:Sg)(v:SV):(qT L s v).length<=L.length+1:=by unfold qT;split<;>simp
def zie(L:LV):Prop:=∀p∈L,p.2.st≠0
theorem zfm{L:LV}(h:zie L)(s:Sg):(stL L s).st=0↔s∉zr L:=by
 constructor
 ·intro a b
  obtain⟨v,hv,c⟩:=Yf b
  unfold stL at a;rw[hv]at a;exact h _ c a
 ·intro b;unfold stL;rw[yp.2 b];rfl
theorem X9{w:T}{base g size n:Nat}{e:TypeId}{xs:List z1}(h:w.1[g]?=U (.cells xs.toArray e (0,0)))(a:xs.length=n*size)(hn:0<n)(c:n<=maxLen)(b:base<=g):w.ownsRow base e size (.slice (U ⟨g,0,E⟩) n n) n xs:=
 ⟨a,.inr ⟨g,n,_,rfl,b,h,⟨C _,c,by simp[a],by
  show List.take (n*size) xs=xs
  exact List.take_of_length_le (by omega)⟩⟩⟩
def vK(x:Cl):List z1:=[I O x.cnt,I O x.sum,I G x.mn,I G x.mx]
theorem CAt.of_owns{w:T}{base g cap:Nat}{e:TypeId}{zs:List Cl}(h:w.ownsRow base e 4 (.slice (U ⟨g,0,E⟩) zs.length cap) zs.length (zs.flatMap vK)):CAt w g zs:=fun j x b=>by
 have d:j<zs.length:=(List.getElem?_eq_some_iff.1 b).1
 have a:=fun i c=>vh (f:=vK) (k:=4) (fun _=>rfl) zs j x i b c
 refine⟨?_,?_,?_,?_⟩
 ·rw[h.cellAt (j*4) (by omega)];exact a 0 (by omega)
 ·rw[h.cellAt (j*4+1) (by omega)];exact a 1 (by omega)
 ·rw[h.cellAt (j*4+2) (by omega)];exact a 2 (by omega)
 ·rw[h.cellAt (j*4+3) (by omega)];exact a 3 (by omega)
theorem zbr{X:T}{s lb gb:Nat}{c:Cf}{tv:z1}{Gl:List (Sg×Unit)}{L:LV}(h:xt X s c tv lb gb Gl L)(b:L.length<maxLen){k:Sg}(d:k.wf)(v:SV):
  ∃o,(Instr.mapUpdate 152 (.map (U lb)) (.agg #[I O k.t,I O k.sr,I O k.wa]) (.agg #[I O k.t,I O k.sr,I O k.wa,I O v.st,I O v.cl.cnt,I O v.cl.sum,I G v.cl.mn,I G v.cl.mx])).run prog X=.ok () (setBlock X lb o)/\xt (setBlock X lb o) s c tv lb gb Gl (qT L k v)/\zo (fun k=>k=lb) X (setBlock X lb o)/\o.isCells=false:=by
 obtain⟨o,l,m,g,n⟩:=Vl h.live b d v
 have a:∀{k:Nat} {cs:Array z1} {t:TypeId} {j:Nat×Nat},X.1[k]?=U (.cells cs t j)->¬k=lb:=fun d e=>by
  obtain⟨r,q,p,_⟩:=h.live;rw[e,p]at d;cases d
 refine⟨o,l,⟨g.heap h.head (a h.head),zk h.trow g (fun k d=>?_),m,h.gone.kept g h.apart,h.apart⟩,g,n⟩
 obtain⟨i,f⟩:=zG h.trow d
 exact a f
theorem jv{w X:T}{lb:Nat}{L:LV}{s:Sg}(b:qQ w lb L)(a:z0 w.1.size w X)(c:s.wf):(Instr.lookup 152 (.map (U lb)) (.agg #[I O s.t,I O s.sr,I O s.wa]) true).run prog X=.ok (.tuple #[.agg #[I O (stX L s).1.t,I O (stX L s).1.sr,I O (stX L s).1.wa,I O (stX L s).2.st,I O (stX L s).2.cl.cnt,I O (stX L s).2.cl.sum,I G (stX L s).2.cl.mn,I G (stX L s).2.cl.mx],.bool (yy L s).isSome]) X:=by
 have:=zaa true (b.later a) c
 have e:J0 true (yP zX) L s=.tuple #[yP (stX L s),.bool (yy L s).isSome]:=by
  unfold J0 stX;cases yy L s<;>rfl
 rw[e]at this
 exact this
theorem Tryz.infoCell:(prog.info? 115).map (fun i=>(i.zero,i.size,i.bytes))=U (U (.agg #[I O 0,I O 0,I G 0,I G 0]),4,24):=by kernel_rfl
theorem zdo{w:T}{ops:Array Oper}{rest:List Oper}{o:Oper}{a:Act}{Q:Exit->Act->T->Prop}(e:o.guard=E)(s x:Operand)
  (n:o.op=.call {callee:=.builtin .append,args:=#[s,x],argTypes:=#[208,208]}) (base:Nat) (v:z1) (l:List Cl) (f:Cl) (p:a.eval s=v) (b:w.ownsRow base 115 4 v l.length (l.flatMap vK))
  (c:Nat) (q:a.eval x=.slice (U ⟨c,0,E⟩) 1 1) (d:w.1[c]?=U (.cells #[I O f.cnt,I O f.sum,I G f.mn,I G f.mx] 115 (0,0))) (r:l.length<=1000000000) (hbase:base<=w.1.size)
  (h:∀g cap w',w'.ownsRow base 115 4 (.slice (U ⟨g,0,E⟩) (l.length+1) cap) (l++[f]).length ((l++[f]).flatMap vK)->w.grownBy w' v.ownBlock->g<w'.1.size->wpList prog ops Q rest (a.put o.dst (.slice (U ⟨g,0,E⟩) (l.length+1) cap)) w'):wpList prog ops Q (o::rest) a w:=
 xJ e s x 208 n base 115 _ 4 24 underlying208 Tryz.infoCell rfl (by decide) v l.length (l.flatMap vK) p b ⟨c,0,E⟩ 1 1 [I O f.cnt,I O f.sum,I G f.mn,I G f.mx] q rfl
  (World.news_of_block (cs:=#[I O f.cnt,I O f.sum,I G f.mn,I G f.mx]) d) (by intro u i;simp at i;rcases i with rfl|rfl|rfl|rfl<;>rfl) (by decide) (by simp only[maxLen];omega) (by omega) hbase
  fun g cap w' j _ k _ m=>h g cap w' (by rw[Kr,List.length_append,List.length_singleton];exact j) k m
theorem zM{f:Nat->Prop}{A B:T}(h:zo f A B){k i:Nat}(hn:¬f k)(a:k<A.1.size):B.cell? ⟨k,i,E⟩=A.cell? ⟨k,i,E⟩:=by
 simp only[World.cell?,h.block k a hn]
def ZW(q:List (Sg×Unit)×LV)(x:SX):List (Sg×Unit)×LV:=if x.2.st=4 then(qq q.1 x.1 (),xe q.2 x.1)else(q.1,qT q.2 x.1 x.2)
def yB(q:List (Sg×Unit)×LV)(xs:List SX):List (Sg×Unit)×LV:=xs.foldl ZW q
theorem ZA(q:List (Sg×Unit)×LV)(xs:List SX)(x:SX):yB q (xs++[x])=ZW (yB q xs) x:=by simp[yB]
def zgp(c:Cf)(L:LV)(x:Nm):SX:=(xk c x,⟨1,qp x.val ((yy L (xk c x)).map (·.cl))⟩)
def XO(c:Cf)(Gl:List (Sg×Unit))(L:LV)(x:Nm)(k:Nat):List SX:=((qi c x.sr x.tm k).filter (fun s=>(stG Gl L s).st==0)).map (fun s=>(s,(⟨2,xY⟩:SV)))
def yZ(c:Cf)(Gl:List (Sg×Unit))(L:LV)(x:Nm):List SX:=zgp c L x::XO c Gl L x c.n
theorem QC(c:Cf)(x:Nm):∀(k:Nat) (L:LV) (s:Sg),s∈zr (yw c x k L)↔s∈zr L\/∃j:Nat,j<k/\s=zB c (j:Int) x
 |0,L,s=>by simp[yw]
 |k+1,L,s=>by
  have f:=QC c x k L
  show s∈zr (xL c x k (yw c x k L))↔_
  unfold xL
  by_cases d:zB c (k:Int) x∈zr (yw c x k L)
  ·rw[if_pos d,f]
   constructor
   ·rintro(h|⟨j,b,e⟩)
    ·exact .inl h
    ·exact .inr ⟨j,by omega,e⟩
   ·rintro(h|⟨j,b,e⟩)
    ·exact .inl h
    ·by_cases a:j=k
     ·subst a;subst e;exact(f _).1 d
     ·exact .inr ⟨j,by omega,e⟩
  ·rw[if_neg d,xG,f]
   constructor
   ·rintro((h|⟨j,b,e⟩)|e)
    ·exact .inl h
    ·exact .inr ⟨j,by omega,e⟩
    ·exact .inr ⟨k,by omega,e⟩
   ·rintro(h|⟨j,b,e⟩)
    ·exact .inl (.inl h)
    ·by_cases a:j=k
     ·subst a;exact .inr e
     ·exact .inl (.inr ⟨j,by omega,e⟩)
theorem Vi{c:Cf}{Gl:List (Sg×Unit)}{L:LV}{x:Nm}(d:zie L)(b:∀k:Nat,k<c.n->zQ Gl (zB c (k:Int) x)=E):∀k:Nat,k<=c.n->yB (Gl,qw c L x) (XO c Gl L x k)=(Gl,yw c x k (qw c L x))
 |0,_=>rfl
 |k+1,o=>by
  have i:=Vi d b k (by omega)
  have l:xW c x.sr x.tm k=zB c (k:Int) x:=rfl
  have g:(stG Gl L (zB c (k:Int) x)).st=0↔zB c (k:Int) x∉zr L:=by unfold stG;rw[b k (by omega)];exact zfm d _
  have a:zB c (k:Int) x∈zr (yw c x k (qw c L x))↔zB c (k:Int) x∈zr L:=by
   rw[QC]
   unfold qw
   rw[xG]
   constructor
   ·rintro((h|h)|⟨j,m,e⟩)
    ·exact h
    ·exact absurd h (zdA (by omega))
    ·exact absurd e (zdA (by omega))
   ·exact fun h=> .inl (.inl h)
  have e:XO c Gl L x (k+1)=XO c Gl L x k++(if zB c (k:Int) x∈zr L then[]else[(zB c (k:Int) x,(⟨2,xY⟩:SV))]):=by
   unfold XO
   rw[yQ,List.filter_append,List.map_append,l]
   congr 1
   by_cases h:zB c (k:Int) x∈zr L
   ·rw[if_pos h,List.filter_cons,if_neg (by simpa using fun f=>g.1 f h)];rfl
   ·rw[if_neg h,List.filter_cons,if_pos (by simpa using g.2 h)];rfl
  rw[e]
  show _=(Gl,xL c x k (yw c x k (qw c L x)))
  unfold xL
  by_cases h:zB c (k:Int) x∈zr L
  ·rw[if_pos h,if_pos (a.2 h),List.append_nil,i]
  ·rw[if_neg h,if_neg (fun f=>h (a.1 f)),ZA,i]
   rfl
theorem zbh{c:Cf}{Gl:List (Sg×Unit)}{L:LV}{x:Nm}(b:zie L)(a:∀k:Nat,k<c.n->zQ Gl (zB c (k:Int) x)=E):yB (Gl,L) (yZ c Gl L x)=(Gl,kL c L x):=by
 have h:=Vi b a c.n (C _)
 unfold kL
 rw[<-h];rfl
theorem zhK{w:T}{base:Nat}{e:TypeId}{size:Nat}{v:z1}{n:Nat}{xs:List z1}(h:w.ownsRow base e size v n xs):∀k,v.ownBlock=U k->base<=k:=fun k a=>by
 rcases h.2 with⟨rfl,_⟩|⟨g,cap,b,rfl,c,_⟩
 ·simp[Value.ownBlock]at a
 ·simp[Value.ownBlock]at a;subst a;exact c
def ql(L:LV)(f sr a:Int)(j:Nat):List Cl:=(List.range j).filterMap (fun i:Nat=>(yy L ⟨f,sr,a+i⟩).map (·.cl))
theorem Qa(L:LV)(f sr a:Int)(j:Nat):ql L f sr a (j+1)=ql L f sr a j++(match yy L ⟨f,sr,a+j⟩with|some v=>[v.cl]|none=>[]):=by
 unfold ql
 rw[List.range_succ,List.filterMap_append]
 congr 1
 cases h:yy L ⟨f,sr,a+j⟩<;>simp[h]
theorem QT(L:LV)(f sr a:Int)(j:Nat):(ql L f sr a j).length<=j:=by
 have:=List.length_filterMap_le (fun i:Nat=>(yy L ⟨f,sr,a+i⟩).map (·.cl)) (List.range j)
 simpa[ql]using this
def zW(c:Cf)(L:LV)(sr wa:Int)(k:Nat):List Cl:=ql L (c.F k) sr (wa*xK c k) (xK c k).toNat
theorem zby{w:T}{s:Nat}{c:Cf}{tv:z1}{lb gb:Nat}{Gl:List (Sg×Unit)}{L:LV}(h:xt w s c tv lb gb Gl L)(hc:c.ok)(k:Nat)(hk:k<c.n)(sr wa:Int)(af:xh sr)(a4:0<=wa/\wa<=100000):
  Calls prog 171 #[.pointer (U ⟨s,0,E⟩),.agg #[I O k,I O sr,I O wa]] w fun e w'=>∃ad g cap,e=.returned (.slice ad (zW c L sr wa k).length cap)/\(zW c L sr wa k≠[]->ad=U ⟨g,0,E⟩)/\g<w'.1.size/\CAt w' g (zW c L sr wa k)/\z0 w.1.size w w':=by
 obtain⟨a,cap,rfl⟩:=zS h.trow
 have l:=h.lt
 have ag:=TS.of_owns h.trow
 obtain⟨c0,c1,c2,c3,c4,c5,c6,c7,-⟩:=h.cells
 obtain⟨ac,ay⟩:=jN hc hk
 obtain⟨f1,f2⟩:=hc.F k hk
 have aL:=hc.n4
 have aN:0<=wa*xK c k/\wa*xK c k<=100000000:=⟨Int.mul_nonneg a4.1 ac,by have:=Int.mul_le_mul a4.2 ay ac (by omega);omega⟩
 have ae:(wa+1)*xK c k=wa*xK c k+xK c k:=by rw[Int.add_mul,Int.one_mul]
 have K:∀j:Nat,j<=(xK c k).toNat->(ql L (c.F k) sr (wa*xK c k) j).length<=1000:=fun j hj=>by have:=QT L (c.F k) sr (wa*xK c k) j;omega
 have S:=fun W hW=>zd (zaM c hc a cap k hk wa a4 W (ag.below (w':=W) hW))
 rw[show zW c L sr wa k=ql L (c.F k) sr (wa*xK c k) (xK c k).toNat from rfl]
 simp only[ae]at S
 generalize wa*xK c k=A at*
 generalize xK c k=M at*
 have a5:=zd K
 clear K ae
 have f:z0 w.1.size w (w.alloc (.cells #[I O k,I O sr,I O wa] 146)):=(zb _ _).alloc (C _) _
 have q0:=zm w (.cells #[I O k,I O sr,I O wa] 146)
 have qz:=zL w (.cells #[I O k,I O sr,I O wa] 146)
 obtain⟨k0,k1,k2,-⟩:=zc q0
 have d0:=(f.cell (p:=⟨s,0,E⟩) l).trans c0
 have d1:=(f.cell (p:=⟨s,1,E⟩) l).trans c1
 have d2:=(f.cell (p:=⟨s,2,E⟩) l).trans c2
 have d3:=(f.cell (p:=⟨s,3,E⟩) l).trans c3
 have d4:=(f.cell (p:=⟨s,4,E⟩) l).trans c4
 have d5:=(f.cell (p:=⟨s,5,E⟩) l).trans c5
 have d6:=(f.cell (p:=⟨s,6,E⟩) l).trans c6
 have R:=zd f
 have H:=zd h
 have Q0:=zd q0
 have BZ:=zd qz
 clear h ag f q0 c0 c1 c2 c3 c4 c5 c6
 go_enter func171,ntmps171
 go_wp2_with fail
 have q1:w.1.size<w.1.size+1:=by omega
 have q2:s<w.1.size+1:=by omega
 generalize(w.alloc (.cells #[I O k,I O sr,I O wa] 146))=X at*
 generalize hN:w.1.size+1=N at*
 have az:Nonempty (zU N X):=zU.some _ _
 have aw:=fun(u:zU N X) b o h=>u.cell b o h
 have a8:N<=X.1.size:=by rw[ud BZ];exact C _
 have a6:=zd a8
 have V:Hid (w.1.size<=N):=by show w.1.size<=N;omega
 have HN:=zd hN
 clear a8 hN
 refine zv N (by kernel_rfl) (by kernel_rfl) ?_
 repeat(go_big_quiet_step (first
  |(go_at_call 232;exact Calls.later (ud a6) (ud (S _ ((ud R).trans (Below.mono (Subtype.property _) (ud V))))))))
 refine wpQuiet_nil ?_
 rintro⟨w1,a0⟩
 clear aw az
 dsimp only
 go_wp2_with fail
 have r:z0 w.1.size w w1:=(ud R).trans (a0.mono (ud V))
 have a2:w1.1[w.1.size]?=U (.cells #[I O k,I O sr,I O wa] 146 (0,0)):=(a0.block _ (by have:=ud HN;omega)).trans (ud Q0)
 have aj:=za a2
 have a7:=zd ((ud H).later r)
 have HQ:=zd a2
 have J:=zd r
 have a1:=((ud a7).foot_lt)
 have aH:=zd a1
 have av:lb<w1.1.size:=a1 lb (.inr (.inr (.inl rfl)))
 clear a2 r a1 a0 R S a6 V HN BZ Q0 k0 k1 k2 d0 d1 d2 d3 d4 d5 d6 q1 q2 c7
 go_loopw [5,9,10,11] (fun cv wv _ _ wr=>∃j:Nat,j<=M.toNat/\wv=I O (A+j)/\wr.ownsRow w1.1.size 115 4 cv (ql L (c.F k) sr A j).length ((ql L (c.F k) sr A j).flatMap vK)/\z0 w1.1.size w1 wr)
  (fun _ wv _ _ _=>(A+M-intOf wv).toNat)
 case atStart=>exact⟨0,Nat.zero_le _,by simp,World.ownsRow_nil _ _ _ _,zb _ _⟩
 case round=>
  obtain⟨j,hj,rfl,hv,hb⟩:=hrel
  obtain⟨ad,cp,ah⟩:=zS hv
  have aJ:=ud a5 j hj
  by_cases aK:j<M.toNat
  ·have aD:A+j<A+M:=by omega
   have i:=(ud a7).later hb
   obtain⟨-,-,-,-,-,-,-,x7,-⟩:=i.cells
   have aG:=i.lt
   have a3:=(hb.block _ aj).trans (ud HQ)
   obtain⟨-,y1,-⟩:=zc a3
   have aF:=za a3
   have m:(⟨c.F k,sr,A+j⟩:Sg).wf:=⟨by unfold xh;dsimp only;omega,af,by unfold xh;dsimp only;omega⟩
   obtain⟨d,D⟩:∃d,stX L ⟨c.F k,sr,A+j⟩=d:=⟨_,rfl⟩
   obtain⟨ok,B⟩:∃ok,(yy L ⟨c.F k,sr,A+j⟩).isSome=ok:=⟨_,rfl⟩
   have g0:=jv (X:=wr) i.live (zb _ _) m
   have g1:=jv (X:=wr.drew) i.live (zb _ _).drew m
   have g2:=fun o=>jv (X:=wr.alloc o) i.live ((zb _ _).alloc (C _) o) m
   have g3:=fun o=>jv (X:=(wr.alloc o).drew) i.live ((zb _ _).alloc (C _) o).drew m
   have g4:=fun o=>jv (X:=wr.drew.alloc o) i.live ((zb _ _).drew.alloc (C _) o) m
   rw[D,B]at g0 g1
   simp only[D,B]at g2 g3 g4
   have HV:=zd hv
   have HB:=zd hb
   have ar:=zd D
   have ap:=zd B
   subst ah
   clear hv hb i a3 m D B
   go_wp2_with fail
   go_region
   have a9:z0 wr.1.size wr ((wr.alloc (.cells #[I O d.1.t,I O d.1.sr,I O d.1.wa,I O d.2.st,I O d.2.cl.cnt,I O d.2.cl.sum,I G d.2.cl.mn,I G d.2.cl.mx] 148)).drew):=((zb _ _).alloc (C _) _).drew
   have ab:((wr.alloc (.cells #[I O d.1.t,I O d.1.sr,I O d.1.wa,I O d.2.st,I O d.2.cl.cnt,I O d.2.cl.sum,I G d.2.cl.mn,I G d.2.cl.mx] 148)).drew).1[wr.1.size]?=U (.cells #[I O d.1.t,I O d.1.sr,I O d.1.wa,I O d.2.st,I O d.2.cl.cnt,I O d.2.cl.sum,I G d.2.cl.mn,I G d.2.cl.mx] 148):=zm _ _
   have am:((wr.alloc (.cells #[I O d.1.t,I O d.1.sr,I O d.1.wa,I O d.2.st,I O d.2.cl.cnt,I O d.2.cl.sum,I G d.2.cl.mn,I G d.2.cl.mx] 148)).drew).1.size=wr.1.size+1:=zL _ _
   generalize((wr.alloc (.cells #[I O d.1.t,I O d.1.sr,I O d.1.wa,I O d.2.st,I O d.2.cl.cnt,I O d.2.cl.sum,I G d.2.cl.mn,I G d.2.cl.mx] 148)).drew)=Y at*
   have z:=zd a9
   have ao:=zd ab
   have au:=zd am
   clear g0 g1 g2 g3 g4 x7 y1 a9 ab am
   have hg:ql L (c.F k) sr A (j+1)=ql L (c.F k) sr A j++(if ok then[d.2.cl]else[]):=by
    rw[Qa]
    have h1:=ud ap
    have h2:=ud ar
    unfold stX at h2
    cases aa:yy L ⟨c.F k,sr,A+j⟩with
    |none=>rw[aa]at h1;simp at h1;subst h1;simp
    |some v=>rw[aa]at h1 h2;simp at h1;subst h1;subst h2;simp
   have ai:=(ud HB).size
   cases ok with
   |false=>
    have HG:=zd (show ql L (c.F k) sr A (j+1)=ql L (c.F k) sr A j by rw[hg];simp)
    clear hg
    go_wp2_with fail
    go_roundw
    case rel=>
     refine⟨j+1,by omega,by simp;omega,?_,(ud HB).trans ((ud z).mono ai)⟩
     rw[ud HG]
     exact xm (ud HV) (ud z)
    case measure=>simp[intOf];omega
   |true=>
    have HG:=zd (show ql L (c.F k) sr A (j+1)=ql L (c.F k) sr A j++[d.2.cl] by rw[hg];simp)
    clear hg
    obtain⟨-,-,-,-,o1,o2,o3,o4,-⟩:=zc (ud ao)
    have aO:wr.1.size<Y.1.size:=by rw[ud au];omega
    have aq:=zd (xm (ud HV) (ud z))
    go_wp2_with(first|(at_builtin;refine zdo rfl _ _ rfl w1.1.size (.slice ad (ql L (c.F k) sr A j).length cp) (ql L (c.F k) sr A j) d.2.cl rfl ((ud aq).alloc _) Y.1.size rfl (zm _ _) ?hll ?hbb ?_;(case hll=>omega);(case hbb=>(rw[zL];omega));intro g aC Z Q y aE;have an:=zd y;have HO:=zd Q;clear y Q)|go_in)
    go_roundw
    case rel=>
     have al:=(ud HB).trans ((ud z).mono ai)
     have ak:=al.alloc al.size (.cells #[I O d.2.cl.cnt,I O d.2.cl.sum,I G d.2.cl.mn,I G d.2.cl.mx] 115)
     refine⟨j+1,by omega,by simp;omega,?_,ak.grown (ud an) ak.size (fun q e=>?_)⟩
     ·rw[ud HG];have:=ud HO;rw[List.length_append,List.length_singleton]at this ⊢;exact this
     ·exact zhK (ud HV) q e
    case measure=>simp[intOf];omega
  ·obtain rfl:j=M.toNat:=by omega
   have aM:decide (A+(M.toNat:Int)<A+M)=false:=by simp;omega
   subst ah
   have HV:=zd hv
   have HB:=zd hb
   clear hv hb
   go_wp2_with fail
   go_ret
   have hv:=ud HV
   have hB:=(ud J).trans ((ud HB).mono (ud J).size)
   by_cases h0:0<(ql L (c.F k) sr A M.toNat).length
   ·obtain⟨g,aB,aA,aI,ax⟩:=hv.form h0
    cases aA
    exact⟨_,g,_,rfl,fun _=>rfl,ax,CAt.of_owns hv,hB⟩
   ·have P:ql L (c.F k) sr A M.toNat=[]:=List.eq_nil_of_length_eq_zero (by omega)
    exact⟨_,s,_,rfl,fun hh=>absurd P hh,by have:=(ud H).lt;have:=hB.size;omega,by rw[P];intro j x hx;simp at hx,hB⟩
def vk(l:List Int):List UInt8:=l.flatMap (fun n=>32::Lib.itoa n)
def Yh(st:Int):Bool:=st==1||st==3
def zgq(x:SX):List Int:=[x.1.t,x.1.sr,x.1.wa,x.2.st]
def zgL(x:SX):List Int:=[x.2.cl.cnt,x.2.cl.sum,x.2.cl.mn,x.2.cl.mx]
def zhS(x:SX):List UInt8:=vk (zgq x)++(if Yh x.2.st then vk (zgL x)else[])
def VG(now:Int)(xs:List SX):List UInt8:=Lib.itoa now++xs.flatMap zhS
theorem zgU(u:Nat):0<(Lib.decDigits u).length:=by
 unfold Lib.decDigits
 split<;>simp
theorem zfa(n:Int):0<(Lib.itoa n).length:=by
 unfold Lib.itoa
 split
 ·simp
 ·exact zgU _
theorem zaU(l:List Int)(n:Int):vk (l++[n])=vk l++32::Lib.itoa n:=by simp[vk]
theorem vQ:∀(l:List Int),(∀n∈l,xh n)->(vk l).length<=22*l.length
 |[],_=>by simp[vk]
 |n::l,h=>by
  have b:=vQ l (fun m a=>h m (by simp[a]))
  have c:=Lib.itoa_length_le n (h n (by simp)).1 (h n (by simp)).2
  simp only[vk,List.flatMap_cons,List.length_append,List.length_cons]at*
  omega
structure okX(x:SX):Prop where
 key:x.1.wf
 st:xh x.2.st
 cnt:xh x.2.cl.cnt
 sum:xh x.2.cl.sum
 mn: -2147483648<=x.2.cl.mn/\x.2.cl.mn<=2147483647
 mx: -2147483648<=x.2.cl.mx/\x.2.cl.mx<=2147483647
theorem okX.seg{x:SX}(h:okX x):∀n∈zgq x,xh n:=fun n hn=>by
 simp only[zgq,zf,List.not_mem_nil,or_false]at hn
 rcases hn with rfl|rfl|rfl|rfl
 ·exact h.key.1
 ·exact h.key.2.1
 ·exact h.key.2.2
 ·exact h.st
theorem okX.cel{x:SX}(h:okX x):∀n∈zgL x,xh n:=fun n hn=>by
 have a:=h.mn
 have b:=h.mx
 simp only[zgL,zf,List.not_mem_nil,or_false]at hn
 rcases hn with rfl|rfl|rfl|rfl
 ·exact h.cnt
 ·exact h.sum
 ·unfold xh;omega
 ·unfold xh;omega
theorem zfG{x:SX}(h:okX x):(zhS x).length<=176:=by
 have c:=vQ (zgq x) h.seg
 have d:=vQ (zgL x) h.cel
 have a:(zgq x).length=4:=rfl
 have b:(zgL x).length=4:=rfl
 unfold zhS
 rw[List.length_append]
 split
 ·omega
 ·simp;omega
theorem Vj(now:Int)(xs:List SX)(x:SX):VG now (xs++[x])=VG now xs++zhS x:=by simp[VG]
theorem zab:∀(xs:List SX),(∀x∈xs,okX x)->(xs.flatMap zhS).length<=176*xs.length
 |[],_=>by simp
 |x::xs,h=>by
  have b:=zab xs (fun y a=>h y (by simp[a]))
  have c:=zfG (h x (by simp))
  simp only[List.flatMap_cons,List.length_append,List.length_cons];omega
theorem Zc{now:Int}{xs:List SX}(hn:xh now)(h:∀x∈xs,okX x):(VG now xs).length<=21+176*xs.length:=by
 have a:=Lib.itoa_length_le now hn.1 hn.2
 have b:=zab xs h
 unfold VG;rw[List.length_append];omega
abbrev zjv(B:Nat)(w:T):Prop:=Lib.TabBelow prog B w "internal/strconv.uint64pow10" .u64 Lib.pow10Tab
theorem Ka(B n:Nat)(i:Int)(g:xh i)(f:z1)(xs:List z1)(w:T)(b:w.ownsRow B 5 1 f n xs)(d:B<=w.1.size)(a:n+21<=140737488355328)(c:zjv B w):
  Calls prog 167 #[f,I O i,I O 10] w fun e w'=>∃h,e=.returned h/\w'.ownsRow B 5 1 h (n+(Lib.itoa i).length) (xs++Lib.byteCells (Lib.itoa i))/\z0 B w w'/\Lib.OthersKept 5 E w w':=
 Any.strconv_AppendInt_10 Tryz.layAI B n i g.1 g.2 f xs w b d a c
theorem Tryz.infoByte:(prog.info? 5).map (fun i=>(i.zero,i.size,i.bytes))=U (U (.int .u8 0),1,1):=by kernel_rfl
def YT(w:T)(B:Nat)(v:z1)(a:List UInt8):Prop:=w.ownsRow B 5 1 v a.length (Lib.byteCells a)
theorem YT.push{w:T}{B:Nat}{v:z1}{a cs:List UInt8}(h:w.ownsRow B 5 1 v (a.length+cs.length) (Lib.byteCells a++Lib.byteCells cs)):YT w B v (a++cs):=by
 unfold YT;rw[List.length_append,Lib.byteCells_append];exact h
theorem zhd{l:List Int}{k:Nat}(h:k<l.length):∃x,l[k]?=U x:=⟨_,List.getElem?_eq_getElem h⟩
theorem zbC{l:List Int}{k:Nat}{x:Int}(h:l[k]?=U x):l.take (k+1)=l.take k++[x]:=by
 rw[List.take_add_one,h];rfl
theorem zaV(l:List Int)(a:∀m∈l,xh m)(k:Nat):(vk (l.take k)).length<=22*l.length:=by
 have c:=vQ (l.take k) (fun m b=>a m (List.mem_of_mem_take b))
 have d:(l.take k).length<=l.length:=List.length_take_le' _ _
 omega
theorem zal(B g:Nat)(l:List Int)(hl:∀m∈l,xh m)(a3:l.length<=100)(sv:z1)(o:List UInt8)(w:T)(d:YT w B sv o)(Q:B<=w.1.size)(a0:o.length<=70368744177664)(f:zjv B w)
  (Z:w.1[g]?=U (.cells (l.map (fun n=>I O n)).toArray 2 (0,0))):
  Calls prog 168 #[sv,.slice (U ⟨g,0,E⟩) l.length l.length] w fun e w'=>∃v',e=.returned v'/\YT w' B v' (o++vk l)/\z0 B w w'/\Lib.OthersKept 5 E w w':=by
 obtain⟨i0,hi,W,X,Y⟩:=info_parts Tryz.infoByte
 have HT:=zd f
 have HW:=zd d
 have HG:=zd Z
 have z:=zd hl
 clear f d Z hl
 go_enter func168,ntmps168
 go_wp2_with fail
 go_loopw [0,9] (fun v i wr=>∃k:Nat,k<=l.length/\i=I O k/\YT wr B v (o++vk (l.take k))/\z0 B w wr/\Lib.OthersKept 5 E w wr) (fun _ i _=>l.length-(intOf i).toNat)
 case atStart=>exact⟨0,Nat.zero_le _,rfl,by simpa[vk]using ud HW,zb _ _,Lib.OthersKept.refl _ _ _⟩
 case round=>
  obtain⟨k,hk,rfl,hv,A,b⟩:=hrel
  have D:=zaV l (ud z) k
  have r:=b g _ (ud HG) (by simp) (fun c fz e=>by cases e)
  have hbs:=A.size
  by_cases S:k<l.length
  ·obtain⟨m,M⟩:=zhd S
   have F:=ud z m (List.mem_of_getElem? M)
   have x0:wr.cell? ⟨g,k,E⟩=U (I O m):=by rw[xD r];simp[M]
   have a2:(k:Int)<l.length:=by omega
   have HM:=zd M
   have P:=zd A
   have h:=zd b
   have y:=zd hv
   have V:(o++vk (l.take k)).length<=70368744177664+22*100:=by rw[List.length_append];omega
   obtain⟨zs,x⟩:∃zs,o++vk (l.take k)=zs:=⟨_,rfl⟩
   have HZ:=zd x
   rw[x]at y V
   clear M A b hv r x
   go_wp2_with(at_builtin;refine wpList_append_own _ rfl _ _ 250 rfl B 5 i0 (.int .u8 0) 1 1 underlying250 hi W X Y rfl (by decide) _ _ _ rfl ((ud y).alloc _) ⟨wr.1.size,0,E⟩ 1 1 [Value.int .u8 32] rfl rfl (by intro j u' L;match j,L with|0,L=>simp at L;subst L;simp[Addr.add]) (by intro u' K;simp at K;subst K;rfl) (by unfold maxLen;omega) (by omega) (by simp;omega) ?_)
   intro v2 N s a _
   have p:z0 B w N:=((ud P).alloc (Nat.le_trans Q hbs) _).grown a (by simp;omega) (fun k hk=>(World.ownsRow.lt (ud y) k hk).1)
   have H:Lib.OthersKept 5 E w N:=((ud h).alloc _).grown a (fun q hq=>by
    obtain⟨a1,hc⟩:=zG ((ud y).alloc _) hq
    exact⟨_,_,hc⟩)
   have t:YT N B v2 (zs++[32]):=by
    unfold YT;rw[List.length_append,Lib.byteCells_append];exact s
   go_wp2_with(go_at_call 167;refine(Ka B _ m F v2 _ N t (by have:=p.size;omega) (by rw[List.length_append];simp;omega) ((ud HT).on p)).mono ?_;rintro e w3 ⟨v3,rfl,u,R,J⟩)
   go_roundw
   case rel=>
    refine⟨k+1,by omega,by go_num,?_,p.trans R,H.trans J⟩
    have e:o++vk (l.take (k+1))=(zs++[32])++Lib.itoa m:=by
     rw[zbC (ud HM),zaU,<-ud HZ];simp
    rw[e]
    exact YT.push u
   case measure=>simp[intOf];omega
  ·obtain rfl:k=l.length:=by omega
   rw[List.take_length]at hv
   have y:=zd hv
   have P:=zd A
   have h:=zd b
   clear hv A b r D
   go_wp2_with fail
   go_ret
   exact⟨_,rfl,ud y,ud P,ud h⟩
theorem Xz(st:Int)(w:T):Calls prog 169 #[I O st] w fun e w'=>e=.returned (.bool (Yh st))/\w'=w:=by
 unfold Yh
 cases a:(st==1)
 ·cases b:(st==3)
  ·go_enter func169,ntmps169
   go_wp2_with fail
   go_ret
   exact⟨rfl,rfl⟩
  ·go_enter func169,ntmps169
   go_wp2_with fail
   go_ret
   exact⟨rfl,rfl⟩
 ·go_enter func169,ntmps169
  go_wp2_with fail
  go_ret
  exact⟨rfl,rfl⟩
def vA(P:Nm->Prop)[DecidablePred P]:List Nm->Int
 |[]=>0
 |x::r=>(if P x then 1 else 0)+vA P r
def YY(P:Nm->Prop)[DecidablePred P]:List Nm->Int
 |[]=>0
 |x::r=>(if P x then x.val else 0)+YY P r
structure IsC(P:Nm->Prop)[DecidablePred P](ns:List Nm)(a:Cl):Prop where
 cnt:a.cnt=vA P ns
 sum:a.sum=wrap64 (YY P ns)
 none:vA P ns=0->a.mn=0/\a.mx=0
 mn:vA P ns≠0->(∃x∈ns,P x/\x.val=a.mn)/\∀x∈ns,P x->a.mn<=x.val
 mx:vA P ns≠0->(∃x∈ns,P x/\x.val=a.mx)/\∀x∈ns,P x->x.val<=a.mx
section
variable {P Q:Nm->Prop} [DecidablePred P] [DecidablePred Q] {ns:List Nm}
theorem qL:∀ns:List Nm,0<=vA P ns/\vA P ns<=ns.length
 |[]=>by simp[vA]
 |x::r=>by
  have:=qL r
  simp only[vA,List.length_cons]
  split<;>omega
theorem yn:∀{ns:List Nm},vA P ns=0↔∀x∈ns,¬P x
 |[]=>by simp[vA]
 |x::r=>by
  have e:=qL (P:=P) r
  have b:=yn (ns:=r)
  simp only[vA,zf,forall_eq_or_imp]
  constructor
  ·intro h
   by_cases a:P x
   ·rw[if_pos a]at h;omega
   ·rw[if_neg a]at h;exact⟨a,b.1 (by omega)⟩
  ·rintro⟨c,d⟩
   rw[if_neg c,b.2 d];rfl
theorem Vt:∀{ns:List Nm},(∀x∈ns,¬P x)->YY P ns=0
 |[],_=>by simp[YY]
 |x::r,h=>by
  have a:=Vt (ns:=r) (fun y b=>h y (by simp[b]))
  simp only[YY]
  rw[if_neg (h x (by simp)),a];rfl
theorem Zm:∀{ns:List Nm},(∀x∈ns,P x↔Q x)->vA P ns=vA Q ns/\YY P ns=YY Q ns
 |[],_=>by simp[vA,YY]
 |x::r,h=>by
  have a:=Zm (ns:=r) (fun y c=>h y (by simp[c]))
  have b:=h x (by simp)
  simp only[vA,YY,b,a.1,a.2,and_self]
theorem zck{R:Nm->Prop}[DecidablePred R]:∀{ns:List Nm},(∀x∈ns,R x↔P x\/Q x)->(∀x∈ns,¬(P x/\Q x))->vA R ns=vA P ns+vA Q ns/\YY R ns=YY P ns+YY Q ns
 |[],_,_=>by simp[vA,YY]
 |x::r,h,hn=>by
  have c:=zck (ns:=r) (fun y b=>h y (by simp[b])) (fun y b=>hn y (by simp[b]))
  have a:=h x (by simp)
  have d:=hn x (by simp)
  simp only[vA,YY,c.1,c.2]
  by_cases p:P x
  ·have q:¬Q x:=fun q=>d ⟨p,q⟩
   simp only[a,p,q,true_or,if_true,if_false];constructor<;>omega
  ·by_cases q:Q x
   ·simp only[a,p,q,or_true,if_true,if_false];constructor<;>omega
   ·simp only[a,p,q,or_self,if_false];constructor<;>omega
theorem IsC.congr{a:Cl}(h:IsC P ns a)(c:∀x∈ns,P x↔Q x):IsC Q ns a:=by
 obtain⟨f,k⟩:=Zm c
 refine⟨by rw[h.cnt,f],by rw[h.sum,k],fun b=>h.none (by rw[f];exact b),fun b=>?_,fun b=>?_⟩
 ·obtain⟨⟨x,d,i,ex⟩,g⟩:=h.mn (by rw[f];exact b)
  exact⟨⟨x,d,(c x d).1 i,ex⟩,fun y e j=>g y e ((c y e).2 j)⟩
 ·obtain⟨⟨x,d,i,ex⟩,g⟩:=h.mx (by rw[f];exact b)
  exact⟨⟨x,d,(c x d).1 i,ex⟩,fun y e j=>g y e ((c y e).2 j)⟩
theorem IsC.one{a b:Cl}(h:IsC P ns a)(k:IsC P ns b):a=b:=by
 obtain⟨K,a2,a3,a4⟩:=a
 obtain⟨L,M,n,o⟩:=b
 have f:=h.cnt.trans k.cnt.symm
 have g:=h.sum.trans k.sum.symm
 simp only at f g
 subst f g
 by_cases c:vA P ns=0
 ·obtain⟨j,d⟩:=h.none c
  obtain⟨l,e⟩:=k.none c
  simp only at j d l e
  subst j d l e;rfl
 ·obtain⟨⟨x,w,F,ex⟩,d⟩:=h.mn c
  obtain⟨⟨y,A,H,s⟩,e⟩:=k.mn c
  obtain⟨⟨z,B,J,t⟩,m⟩:=h.mx c
  obtain⟨⟨u,v,D,r⟩,i⟩:=k.mx c
  simp only at ex s t r d e m i
  have:=d y A H;have:=e x w F;have:=m u v D;have:=i z B J
  have p:a3=n:=by omega
  have q:a4=o:=by omega
  subst p q;rfl
theorem IsC.zero(h:∀x∈ns,¬P x):IsC P ns xY:=by
 have b:=yn.2 h
 have c:=Vt h
 exact⟨by rw[b];rfl,by rw[c];show(0:Int)=wrap64 0;unfold wrap64;omega,fun _=>⟨rfl,rfl⟩,fun a=>absurd b a,fun a=>absurd b a⟩
theorem Xq(x:Nm):∀ns:List Nm,vA P (ns++[x])=vA P ns+(if P x then 1 else 0)/\YY P (ns++[x])=YY P ns+(if P x then x.val else 0)
 |[]=>by simp[vA,YY]
 |y::r=>by
  have h:=Xq x r
  simp only[List.cons_append,vA,YY,h.1,h.2]
  constructor<;>omega
theorem IsC.skip{a:Cl}{x:Nm}(h:IsC P ns a)(g:¬P x):IsC P (ns++[x]) a:=by
 obtain⟨c,l⟩:=Xq (P:=P) x ns
 rw[if_neg g,Int.add_zero]at c l
 refine⟨by rw[h.cnt,c],by rw[h.sum,l],fun d=>h.none (by rw[<-c];exact d),fun d=>?_,fun d=>?_⟩
 ·obtain⟨⟨y,i,j,f⟩,k⟩:=h.mn (by rw[<-c];exact d)
  refine⟨⟨y,by simp[i],j,f⟩,fun z b e=>?_⟩
  rcases List.mem_append.1 b with b|b
  ·exact k z b e
  ·rw[List.mem_singleton]at b;subst b;exact absurd e g
 ·obtain⟨⟨y,i,j,f⟩,k⟩:=h.mx (by rw[<-c];exact d)
  refine⟨⟨y,by simp[i],j,f⟩,fun z b e=>?_⟩
  rcases List.mem_append.1 b with b|b
  ·exact k z b e
  ·rw[List.mem_singleton]at b;subst b;exact absurd e g
def Qs(a:Cl)(v:Int):Cl:=⟨a.cnt+1,wrap64 (a.sum+v),if a.cnt=0\/v<a.mn then v else a.mn,if a.cnt=0\/a.mx<v then v else a.mx⟩
theorem IsC.add{a:Cl}{x:Nm}(h:IsC P ns a)(e:P x):IsC P (ns++[x]) (Qs a x.val):=by
 obtain⟨p,n⟩:=Xq (P:=P) x ns
 rw[if_pos e]at p n
 have hn:=qL (P:=P) ns
 have q:=h.cnt
 refine⟨by show a.cnt+1=_;omega,by show wrap64 (a.sum+x.val)=_;rw[h.sum,zeh,n],fun o=>by omega,fun o=>?_,fun o=>?_⟩
 ·by_cases f:vA P ns=0
  ·have d:=yn.1 f
   refine⟨⟨x,by simp,e,?_⟩,fun z b c=>?_⟩
   ·show x.val=if a.cnt=0\/x.val<a.mn then x.val else a.mn
    rw[if_pos (.inl (by omega))]
   ·show(if a.cnt=0\/x.val<a.mn then x.val else a.mn)<=z.val
    rw[if_pos (.inl (by omega))]
    rcases List.mem_append.1 b with b|b
    ·exact absurd c (d z b)
    ·rw[List.mem_singleton]at b;subst b;omega
  ·obtain⟨⟨y,k,m,i⟩,g⟩:=h.mn f
   have l:¬a.cnt=0:=by omega
   show(∃z∈ns++[x],P z/\z.val=(if a.cnt=0\/x.val<a.mn then x.val else a.mn))/\∀z∈ns++[x],P z->(if a.cnt=0\/x.val<a.mn then x.val else a.mn)<=z.val
   by_cases j:x.val<a.mn
   ·rw[if_pos (.inr j)]
    refine⟨⟨x,by simp,e,rfl⟩,fun z b c=>?_⟩
    rcases List.mem_append.1 b with b|b
    ·have:=g z b c;omega
    ·rw[List.mem_singleton]at b;subst b;omega
   ·rw[if_neg (by omega)]
    refine⟨⟨y,by simp[k],m,i⟩,fun z b c=>?_⟩
    rcases List.mem_append.1 b with b|b
    ·exact g z b c
    ·rw[List.mem_singleton]at b;subst b;omega
 ·by_cases f:vA P ns=0
  ·have d:=yn.1 f
   refine⟨⟨x,by simp,e,?_⟩,fun z b c=>?_⟩
   ·show x.val=if a.cnt=0\/a.mx<x.val then x.val else a.mx
    rw[if_pos (.inl (by omega))]
   ·show z.val<=(if a.cnt=0\/a.mx<x.val then x.val else a.mx)
    rw[if_pos (.inl (by omega))]
    rcases List.mem_append.1 b with b|b
    ·exact absurd c (d z b)
    ·rw[List.mem_singleton]at b;subst b;omega
  ·obtain⟨⟨y,k,m,i⟩,g⟩:=h.mx f
   have l:¬a.cnt=0:=by omega
   show(∃z∈ns++[x],P z/\z.val=(if a.cnt=0\/a.mx<x.val then x.val else a.mx))/\∀z∈ns++[x],P z->z.val<=(if a.cnt=0\/a.mx<x.val then x.val else a.mx)
   by_cases j:a.mx<x.val
   ·rw[if_pos (.inr j)]
    refine⟨⟨x,by simp,e,rfl⟩,fun z b c=>?_⟩
    rcases List.mem_append.1 b with b|b
    ·have:=g z b c;omega
    ·rw[List.mem_singleton]at b;subst b;omega
   ·rw[if_neg (by omega)]
    refine⟨⟨y,by simp[k],m,i⟩,fun z b c=>?_⟩
    rcases List.mem_append.1 b with b|b
    ·exact g z b c
    ·rw[List.mem_singleton]at b;subst b;omega
end
theorem IsC.join{P Q R:Nm->Prop}[DecidablePred P][DecidablePred Q][DecidablePred R]{ns:List Nm}{zs:List Cl}{z:Cl}(h:IsC P ns (xi zs))(A:zs=[]↔vA P ns=0)(k:IsC Q ns z)(N:vA Q ns≠0)(f:∀x∈ns,R x↔P x\/Q x)(hn:∀x∈ns,¬(P x/\Q x))(hl:(ns.length:Int)<9223372036854775808):
  IsC R ns (xi (zs++[z]))/\vA R ns≠0:=by
 obtain⟨W,X⟩:=zck f hn
 have b1:=qL (P:=P) ns
 have b2:=qL (P:=Q) ns
 have b3:=qL (P:=R) ns
 have M:vA R ns≠0:=by omega
 have S:=h.cnt
 have V:=h.sum
 have Z:(xi (zs++[z])).cnt=wrap64 ((xi zs).cnt+z.cnt):=by simp only[xi,List.map_append,List.map_cons,List.map_nil,Zj]
 have js:(xi (zs++[z])).sum=wrap64 ((xi zs).sum+z.sum):=by simp only[xi,List.map_append,List.map_cons,List.map_nil,Zj]
 have k1:=k.cnt
 have k2:=k.sum
 obtain⟨⟨B,o,w,t⟩,J⟩:=k.mn N
 obtain⟨⟨D,p,y,u⟩,L⟩:=k.mx N
 have F:(∃x∈ns,R x/\x.val=(xi (zs++[z])).mn)/\∀x∈ns,R x->(xi (zs++[z])).mn<=x.val:=by
  simp only[xi,yS]
  cases b:qA XR zs with
  |none=>
   have d:zs=[]:=by
    rcases List.eq_nil_or_concat zs with h|⟨l,x,rfl⟩
    ·exact h
    ·rw[List.concat_eq_append,yS]at b;unfold kJ at b;split at b<;>(try split at b)<;>cases b
   have c:=yn.1 (A.1 d)
   simp only[kJ,Option.getD_some]
   exact⟨⟨B,o,(f B o).2 (.inr w),t⟩,fun x a n=>((f x a).1 n).elim (fun s=>absurd s (c x a)) (J x a)⟩
  |some g=>
   have d:zs≠[]:=fun e=>by rw[e]at b;cases b
   have c:vA P ns≠0:=fun e=>d (A.2 e)
   obtain⟨⟨v,m,r,i⟩,q⟩:=h.mn c
   simp only[xi,b,Option.getD_some]at i q
   simp only[kJ,XR,zar]
   by_cases j:z.mn<g.mn
   ·simp only[j,if_true,show(-1:Int)<0 by omega,Option.getD_some]
    refine⟨⟨B,o,(f B o).2 (.inr w),t⟩,fun x a n=>((f x a).1 n).elim (fun s=>?_) (J x a)⟩
    have:=q x a s;omega
   ·have:¬(if z.mn<g.mn then(-1:Int)else if g.mn<z.mn then 1 else 0)<0:=by rw[if_neg j];split<;>omega
    simp only[this,if_false,Option.getD_some]
    refine⟨⟨v,m,(f v m).2 (.inl r),i⟩,fun x a n=>((f x a).1 n).elim (q x a) (fun K=>?_)⟩
    have:=J x a K;omega
 have H:(∃x∈ns,R x/\x.val=(xi (zs++[z])).mx)/\∀x∈ns,R x->x.val<=(xi (zs++[z])).mx:=by
  simp only[xi,yS]
  cases b:qA XS zs with
  |none=>
   have d:zs=[]:=by
    rcases List.eq_nil_or_concat zs with h|⟨l,x,rfl⟩
    ·exact h
    ·rw[List.concat_eq_append,yS]at b;unfold kJ at b;split at b<;>(try split at b)<;>cases b
   have c:=yn.1 (A.1 d)
   simp only[kJ,Option.getD_some]
   exact⟨⟨D,p,(f D p).2 (.inr y),u⟩,fun x a n=>((f x a).1 n).elim (fun s=>absurd s (c x a)) (L x a)⟩
  |some g=>
   have d:zs≠[]:=fun e=>by rw[e]at b;cases b
   have c:vA P ns≠0:=fun e=>d (A.2 e)
   obtain⟨⟨v,m,r,i⟩,q⟩:=h.mx c
   simp only[xi,b,Option.getD_some]at i q
   simp only[kJ,XS,zar]
   by_cases j:g.mx<z.mx
   ·simp only[j,if_true,show(-1:Int)<0 by omega,Option.getD_some]
    refine⟨⟨D,p,(f D p).2 (.inr y),u⟩,fun x a n=>((f x a).1 n).elim (fun s=>?_) (L x a)⟩
    have:=q x a s;omega
   ·have:¬(if g.mx<z.mx then(-1:Int)else if z.mx<g.mx then 1 else 0)<0:=by rw[if_neg j];split<;>omega
    simp only[this,if_false,Option.getD_some]
    refine⟨⟨v,m,(f v m).2 (.inl r),i⟩,fun x a n=>((f x a).1 n).elim (q x a) (fun K=>?_)⟩
    have:=L x a K;omega
 refine⟨⟨?_,?_,fun Y=>absurd Y M,fun _=>F,fun _=>H⟩,M⟩
 ·rw[Z,S,k1,<-W];unfold wrap64;omega
 ·rw[js,V,k2,X];unfold wrap64;omega
theorem Vq{L:LV}{wd f sr a:Int}{ns:List Nm}(p:(ns.length:Int)<9223372036854775808):∀j:Nat,
  (∀i:Nat,i<j->(∀v,yy L ⟨f,sr,a+i⟩=U v->IsC (fun x:Nm=>x.sr=sr/\x.tm/wd=a+i) ns v.cl/\vA (fun x:Nm=>x.sr=sr/\x.tm/wd=a+i) ns≠0)/\(yy L ⟨f,sr,a+i⟩=E->∀x∈ns,¬(x.sr=sr/\x.tm/wd=a+i)))->
  IsC (fun x:Nm=>x.sr=sr/\a<=x.tm/wd/\x.tm/wd<a+j) ns (xi (ql L f sr a j))/\(ql L f sr a j=[]↔vA (fun x:Nm=>x.sr=sr/\a<=x.tm/wd/\x.tm/wd<a+j) ns=0)
 |0,_=>by
  have m:∀x∈ns,¬(x.sr=sr/\a<=x.tm/wd/\x.tm/wd<a+(0:Nat)):=fun x _ ⟨_,b,c⟩=>by
   have:((0:Nat):Int)=0:=rfl
   omega
  exact⟨IsC.zero m,by simp only[ql,List.range_zero,List.filterMap_nil,true_iff];exact yn.2 m⟩
 |j+1,h=>by
  obtain⟨q,r⟩:=Vq p j (fun i B=>h i (by omega))
  obtain⟨s,t⟩:=h j (by omega)
  have g:((j+1:Nat):Int)=(j:Int)+1:=by omega
  rw[Qa]
  cases o:yy L ⟨f,sr,a+j⟩with
  |none=>
   have k:=t o
   have n:∀x∈ns,(x.sr=sr/\a<=x.tm/wd/\x.tm/wd<a+j)↔(x.sr=sr/\a<=x.tm/wd/\x.tm/wd<a+(j+1:Nat)):=fun x l=>by
    have:=k x l
    constructor
    ·rintro⟨b,c,d⟩;exact⟨b,c,by omega⟩
    ·rintro⟨b,c,d⟩
     refine⟨b,c,?_⟩
     have:x.tm/wd≠a+j:=fun e=>this ⟨b,e⟩
     omega
   simp only[List.append_nil]
   exact⟨q.congr n,by rw[r,(Zm n).1]⟩
  |some v=>
   obtain⟨z,A⟩:=s v o
   obtain⟨w,y⟩:=IsC.join (R:=fun x:Nm=>x.sr=sr/\a<=x.tm/wd/\x.tm/wd<a+(j+1:Nat)) q r z A (fun x l=>by
    constructor
    ·rintro⟨b,c,d⟩
     by_cases u:x.tm/wd=a+j
     ·exact .inr ⟨b,u⟩
     ·exact .inl ⟨b,c,by omega⟩
    ·rintro(⟨b,c,d⟩|⟨b,c⟩)
     ·exact⟨b,c,by omega⟩
     ·exact⟨b,by omega,by omega⟩) (fun x l ⟨⟨_,_,b⟩,_,c⟩=>by omega) p
   exact⟨w,by simp only[List.append_eq_nil_iff,List.cons_ne_nil,and_false,false_iff];exact y⟩
theorem zeD{X:T}{lb:Nat}{L:LV}(h:zV qN X lb (kt L)){k:Sg}(j:k.wf)(f:TypeId):
  ∃o,(Builtin.delete_ #[152,146] f #[.map (U lb),.agg #[I O k.t,I O k.sr,I O k.wa]]).run prog X=.ok (.tuple #[]) (setBlock X lb o)/\zV qN (setBlock X lb o) lb (kt (xe L k))/\zo (fun k=>k=lb) X (setBlock X lb o):=by
 obtain⟨l,b,d,i⟩:=h
 obtain⟨a,g,c,m⟩:=Xc jM d i j f
 have e:xe (kt L) k=kt (xe L k):=by
  unfold xe kt;rw[List.filter_map];rfl
 rw[e]at c
 exact⟨.map a b,g,⟨a,b,xE (za d) _,c⟩,xQ _⟩
theorem xt.putLive{w w':T}{s:Nat}{c:Cf}{tv:z1}{lb gb:Nat}{Gl:List (Sg×Unit)}{L f:LV}(h:xt w s c tv lb gb Gl L)(l:zV qN w' lb (kt f))(b:zo (fun k=>k=lb) w w'):xt w' s c tv lb gb Gl f:=by
 have a:∀{k:Nat} {cs:Array z1} {t:TypeId} {i:Nat×Nat},w.1[k]?=U (.cells cs t i)->¬k=lb:=fun b e=>by
  obtain⟨n,m,j,_⟩:=h.live;rw[e,j]at b;cases b
 refine⟨b.heap h.head (a h.head),zk h.trow b (fun k b=>?_),xX.2 l,h.gone.kept b h.apart,h.apart⟩
 obtain⟨g,d⟩:=zG h.trow b
 exact a d
theorem xt.putGone{w w':T}{s:Nat}{c:Cf}{tv:z1}{lb gb:Nat}{Gl d:List (Sg×Unit)}{L:LV}(h:xt w s c tv lb gb Gl L)(l:zV kR w' gb d)(b:zo (fun k=>k=gb) w w'):xt w' s c tv lb gb d L:=by
 have a:∀{k:Nat} {cs:Array z1} {t:TypeId} {i:Nat×Nat},w.1[k]?=U (.cells cs t i)->¬k=gb:=fun b e=>by
  obtain⟨n,m,j,_⟩:=h.gone;rw[e,j]at b;cases b
 refine⟨b.heap h.head (a h.head),zk h.trow b (fun k b=>?_),h.live.kept b (fun e=>h.apart e.symm),l,h.apart⟩
 obtain⟨g,f⟩:=zG h.trow b
 exact a f
def xd(x:SX):List z1:=[I O x.1.t,I O x.1.sr,I O x.1.wa,I O x.2.st,I O x.2.cl.cnt,I O x.2.cl.sum,I G x.2.cl.mn,I G x.2.cl.mx]
def vu(w:T)(base:Nat)(v:z1)(xs:List SX):Prop:=w.ownsRow base 148 8 v xs.length (xs.flatMap xd)
theorem vu.slice{w:T}{base:Nat}{v:z1}{xs:List SX}(h:vu w base v xs):∃a cap,v=.slice a xs.length cap:=zS h
theorem vu.at{w:T}{base g cap:Nat}{xs:List SX}(h:vu w base (.slice (U ⟨g,0,E⟩) xs.length cap) xs){j:Nat}{x:SX}(b:xs[j]?=U x):
  w.cell? ⟨g,j*8,E⟩=U (I O x.1.t)/\w.cell? ⟨g,j*8+1,E⟩=U (I O x.1.sr)/\w.cell? ⟨g,j*8+2,E⟩=U (I O x.1.wa)/\w.cell? ⟨g,j*8+3,E⟩=U (I O x.2.st)/\
  w.cell? ⟨g,j*8+4,E⟩=U (I O x.2.cl.cnt)/\w.cell? ⟨g,j*8+5,E⟩=U (I O x.2.cl.sum)/\w.cell? ⟨g,j*8+6,E⟩=U (I G x.2.cl.mn)/\w.cell? ⟨g,j*8+7,E⟩=U (I G x.2.cl.mx):=by
 have d:j<xs.length:=(List.getElem?_eq_some_iff.1 b).1
 have a:=fun i c=>vh (f:=xd) (k:=8) (fun _=>rfl) xs j x i b c
 refine⟨?_,?_,?_,?_,?_,?_,?_,?_⟩
 ·rw[h.cellAt (j*8) (by omega)];exact a 0 (by omega)
 ·rw[h.cellAt (j*8+1) (by omega)];exact a 1 (by omega)
 ·rw[h.cellAt (j*8+2) (by omega)];exact a 2 (by omega)
 ·rw[h.cellAt (j*8+3) (by omega)];exact a 3 (by omega)
 ·rw[h.cellAt (j*8+4) (by omega)];exact a 4 (by omega)
 ·rw[h.cellAt (j*8+5) (by omega)];exact a 5 (by omega)
 ·rw[h.cellAt (j*8+6) (by omega)];exact a 6 (by omega)
 ·rw[h.cellAt (j*8+7) (by omega)];exact a 7 (by omega)
theorem vu.form{w:T}{base:Nat}{a:Option Addr}{n cap:Nat}{xs:List SX}(h:vu w base (.slice a n cap) xs)(e:0<xs.length):∃g,a=U ⟨g,0,E⟩/\n=xs.length/\g<w.1.size:=by
 obtain⟨g,d,c,j,b⟩:=World.ownsRow.form h e
 injection c with f i k
 exact⟨g,f,i,b⟩
theorem zgk{l:List SX}{k:Nat}(h:k<l.length):∃x,l[k]?=U x:=⟨_,List.getElem?_eq_getElem h⟩
theorem Zh{l:List SX}{k:Nat}{x:SX}(h:l[k]?=U x):l.take (k+1)=l.take k++[x]:=by
 rw[List.take_add_one,h];rfl
theorem zfv(q:List (Sg×Unit)×LV)(x:SX):(ZW q x).1.length<=q.1.length+1/\(ZW q x).2.length<=q.2.length+1:=by
 unfold ZW
 split
 ·refine⟨?_,?_⟩
  ·show(qq q.1 x.1 ()).length<=_
   unfold qq;split<;>simp
  ·show(xe q.2 x.1).length<=_
   have:=List.length_filter_le (fun p:Sg×SV=>decide (p.1≠x.1)) q.2
   unfold xe;omega
 ·exact⟨Nat.le_succ _,zft _ _ _⟩
theorem XY:∀(xs:List SX) (q:List (Sg×Unit)×LV),(yB q xs).1.length<=q.1.length+xs.length/\(yB q xs).2.length<=q.2.length+xs.length
 |[],q=>by simp[yB]
 |x::xs,q=>by
  have a:=XY xs (ZW q x)
  have b:=zfv q x
  simp only[yB,List.foldl_cons,List.length_cons]at*
  omega
theorem zfx{X:T}{s lb gb:Nat}{c:Cf}{tv:z1}{q:List (Sg×Unit)×LV}(h:xt X s c tv lb gb q.1 q.2)(a:q.2.length<maxLen){x:SX}(i:x.1.wf)(g:(x.2.st==4)=false):
  ∃o,(Instr.mapUpdate 152 (.map (U lb)) (.agg #[I O x.1.t,I O x.1.sr,I O x.1.wa]) (.agg #[I O x.1.t,I O x.1.sr,I O x.1.wa,I O x.2.st,I O x.2.cl.cnt,I O x.2.cl.sum,I G x.2.cl.mn,I G x.2.cl.mx])).run prog X=.ok () (setBlock X lb o)/\xt (setBlock X lb o) s c tv lb gb (ZW q x).1 (ZW q x).2/\zo (fun k=>k=lb\/k=gb) X (setBlock X lb o):=by
 obtain⟨o,b,d,f,-⟩:=zbr h a i x.2
 have e:ZW q x=(q.1,qT q.2 x.1 x.2):=by unfold ZW;rw[if_neg (by simpa using g)]
 refine⟨o,b,by rw[e];exact d,f.mono (fun k _ e=> .inl e)⟩
theorem zfw{X:T}{s lb gb:Nat}{c:Cf}{tv:z1}{q:List (Sg×Unit)×LV}(h:xt X s c tv lb gb q.1 q.2)(a:q.1.length<maxLen){x:SX}(p:x.1.wf)(u:(x.2.st==4)=true)(r:TypeId):
  ∃o j,(Builtin.delete_ #[152,146] r #[.map (U lb),.agg #[I O x.1.t,I O x.1.sr,I O x.1.wa]]).run prog X=.ok (.tuple #[]) (setBlock X lb o)/\xt (setBlock X lb o) s c tv lb gb q.1 (xe q.2 x.1)/\zo (fun k=>k=lb) X (setBlock X lb o)/\
   (Instr.mapUpdate 153 (.map (U gb)) (.agg #[I O x.1.t,I O x.1.sr,I O x.1.wa]) (.agg #[])).run prog (setBlock X lb o).drew=.ok () (setBlock (setBlock X lb o).drew gb j)/\xt (setBlock (setBlock X lb o).drew gb j) s c tv lb gb (ZW q x).1 (ZW q x).2/\zo (fun k=>k=gb) (setBlock X lb o).drew (setBlock (setBlock X lb o).drew gb j):=by
 obtain⟨o,i,m,f⟩:=zeD (X:=X) (xX.1 h.live) p r
 have l:=h.putLive m f
 have d:z0 (setBlock X lb o).1.size (setBlock X lb o) (setBlock X lb o).drew:=(zb _ _).drew
 obtain⟨j,b,n,g,_⟩:=ziX (X:=(setBlock X lb o).drew) (l.later d).gone a p
 have e:ZW q x=(qq q.1 x.1 (),xe q.2 x.1):=by unfold ZW;rw[if_pos (by simpa using u)]
 exact⟨o,j,i,l,f,b,by rw[e];exact(l.later d).putGone n g,g⟩
theorem vJ{α β:Type}{M:MK α β}{w:T}{b:Nat}{L:List (α×β)}(h:zV M w b L){k:Nat}{cs:Array z1}{t:TypeId}{c:Nat×Nat}(a:w.1[k]?=U (.cells cs t c)):¬k=b:=fun e=>by
 obtain⟨g,f,d,_⟩:=h;rw[e,d]at a;cases a
theorem zfr{w:T}{s:Nat}{c:Cf}{tv:z1}{lb gb:Nat}{Gl:List (Sg×Unit)}{L:LV}(h:xt w s c tv lb gb Gl L)(xs:List SX)(a1:∀x∈xs,x.1.wf)(a8:Gl.length+xs.length<=1000000000)(a9:L.length+xs.length<=1000000000)(base:Nat)(v:z1)(hv:vu w base v xs):
  Calls prog 170 #[.pointer (U ⟨s,0,E⟩),v] w fun e w'=>e=.returned (.tuple #[])/\xt w' s c tv lb gb (yB (Gl,L) xs).1 (yB (Gl,L) xs).2/\zo (fun k=>k=lb\/k=gb) w w':=by
 obtain⟨ad,cap,rfl⟩:=hv.slice
 have a0:∀k,(Value.slice ad xs.length cap).ownBlock=U k->¬(k=lb\/k=gb):=fun k hk e=>by
  obtain⟨a5,hc⟩:=zG hv hk
  rcases e with e|e
  ·exact vJ (xX.1 h.live) hc e
  ·exact vJ h.gone hc e
 have ai:¬s=lb:=vJ (xX.1 h.live) h.head
 have ah:¬s=gb:=vJ h.gone h.head
 have HS:=zd h
 have HV:=zd hv
 have a2:=zd a0
 have a3:=zd a1
 have ab:xs.length<=1000000000:=by omega
 clear h hv a0 a1
 go_enter func170,ntmps170
 go_wp2_with fail
 go_loopw [8] (fun i wr=>∃k:Nat,k<=xs.length/\i=I O k/\xt wr s c tv lb gb (yB (Gl,L) (xs.take k)).1 (yB (Gl,L) (xs.take k)).2/\zo (fun k=>k=lb\/k=gb) w wr) (fun i _=>xs.length-(intOf i).toNat)
 case atStart=>exact⟨0,Nat.zero_le _,rfl,by simpa[yB]using ud HS,zo.refl _ _⟩
 case round=>
  obtain⟨k,hk,rfl,S,m⟩:=hrel
  by_cases a4:k<xs.length
  ·obtain⟨x,hx⟩:=zgk a4
   have K:vu wr base (.slice ad xs.length cap) xs:=zk (ud HV) m (ud a2)
   obtain⟨g,rfl,-,a6⟩:=K.form (by omega)
   obtain⟨x0,x1,x2,x3,x4,x5,x6,x7⟩:=K.at hx
   have hq:=XY (xs.take k) (Gl,L)
   rw[List.length_take]at hq
   obtain⟨q,J⟩:∃q,yB (Gl,L) (xs.take k)=q:=⟨_,rfl⟩
   have HQ:=zd J
   rw[J]at S hq
   have M:=ud a3 x (List.mem_of_getElem? hx)
   have HX:=zd hx
   obtain⟨X,n⟩:∃X,(wr.alloc (.cells #[I O x.1.t,I O x.1.sr,I O x.1.wa,I O x.2.st,I O x.2.cl.cnt,I O x.2.cl.sum,I G x.2.cl.mn,I G x.2.cl.mx] 148))=X:=⟨_,rfl⟩
   have B:z0 wr.1.size wr X:=by rw[<-n];exact(zb _ _).alloc (C _) _
   have p:X.1[wr.1.size]?=U (.cells #[I O x.1.t,I O x.1.sr,I O x.1.wa,I O x.2.st,I O x.2.cl.cnt,I O x.2.cl.sum,I G x.2.cl.mn,I G x.2.cl.mx] 148 (0,0)):=by rw[<-n];exact zm _ _
   have j:=S.later B
   obtain⟨-,-,-,-,-,-,-,c7,c8⟩:=j.cells
   obtain⟨y0,y1,y2,y3,y4,y5,y6,y7,-⟩:=zc p
   have A:z0 X.1.size X X.drew:=(zb _ _).drew
   have F:zo (fun k=>k=lb\/k=gb) w X.drew:=(m.trans (zo.of_below (f:=fun _=>False) B) (fun _ _ e=>e.elim)).drew
   have af:=j.lt
   have H:=za p
   have aa:=j.live.lt
   have R:¬wr.1.size=lb:=vJ (xX.1 j.live) p
   have a7:(k:Int)<xs.length:=by omega
   have V:=zd n
   obtain⟨P,Q⟩:=hq
   cases he:(x.2.st==4)
   ·obtain⟨o,u,z,N⟩:=zfx (X:=X.drew) (j.later A) (by simp only[maxLen];dsimp only at Q;omega) M he
    obtain⟨Y,r⟩:∃Y,setBlock X.drew lb o=Y:=⟨_,rfl⟩
    rw[r]at u z N
    have d:Hid (xt Y s c tv lb gb (ZW q x).1 (ZW q x).2/\zo (fun k=>k=lb\/k=gb) w Y):=⟨z,F.trans N (fun _ _ e=>e)⟩
    clear z N F A j p B n K S m hx M J r P Q
    go_wp2_with fail
    rw[ud V]
    go_wp2_with fail
    go_region
    go_wp2_with fail
    go_roundw
    case rel=>exact⟨k+1,by omega,by go_num,by rw[Zh (ud HX),ZA,ud HQ];exact(ud d).1,(ud d).2⟩
    case measure=>simp[intOf];omega
   ·obtain⟨o,o2,u,a,l,y,b,D⟩:=zfw (X:=X.drew) (j.later A) (by simp only[maxLen];dsimp only at P;omega) M he 0
    obtain⟨Y,r⟩:∃Y,setBlock X.drew lb o=Y:=⟨_,rfl⟩
    rw[r]at u a l y b D
    obtain⟨Z,W⟩:∃Z,setBlock Y.drew gb o2=Z:=⟨_,rfl⟩
    rw[W]at y b D
    obtain⟨-,-,-,-,-,-,-,-,d8⟩:=a.cells
    have aj:Y.cell? ⟨wr.1.size,0,E⟩=U (I O x.1.t):=(zM (i:=0) l R H).trans y0
    have ak:Y.cell? ⟨wr.1.size,1,E⟩=U (I O x.1.sr):=(zM (i:=1) l R H).trans y1
    have al:Y.cell? ⟨wr.1.size,2,E⟩=U (I O x.1.wa):=(zM (i:=2) l R H).trans y2
    have ag:=a.lt
    have ae:wr.1.size<Y.1.size:=z9 H l.size
    have d:Hid (xt Z s c tv lb gb (ZW q x).1 (ZW q x).2/\zo (fun k=>k=lb\/k=gb) w Z):=⟨b,((F.trans (l.mono (fun k _ e=> .inl e)) (fun _ _ e=>e)).drew).trans (D.mono (fun k _ e=> .inr e)) (fun _ _ e=>e)⟩
    clear a b l D F A j p B n K S m hx M J r W P Q
    go_wp2_with fail
    rw[ud V]
    go_wp2_with fail
    go_region
    go_wp2_with fail
    go_region
    go_wp2_with fail
    go_roundw
    case rel=>exact⟨k+1,by omega,by go_num,by rw[Zh (ud HX),ZA,ud HQ];exact(ud d).1,(ud d).2⟩
    case measure=>simp[intOf];omega
  ·obtain rfl:k=xs.length:=by omega
   have ac:decide ((xs.length:Int)<xs.length)=false:=by simp
   rw[List.take_length]at S
   have HR:=zd S
   have HK:=zd m
   clear S m
   go_wp2_with fail
   go_end0
   exact⟨rfl,ud HR,ud HK⟩
attribute [local go_sem] Oper.semAt_some
theorem zbV:(prog.info? 148).map (fun i=>(i.zero,i.size,i.bytes))=U (U (.agg #[I O 0,I O 0,I O 0,I O 0,I O 0,I O 0,I G 0,I G 0]),8,56):=by kernel_rfl
theorem Jy:∃i:TypeInfo,prog.info? 148=U i/\i.zero=U (.agg #[I O 0,I O 0,I O 0,I O 0,I O 0,I O 0,I G 0,I G 0])/\i.size=8/\i.bytes=56:=by
 have h:=zbV
 cases a:prog.info? 148 with
 |none=>simp[a]at h
 |some i=>
  simp only[a,Option.map_some,Option.some.injEq,Prod.mk.injEq]at h
  exact⟨i,rfl,h.1,h.2.1,h.2.2⟩
theorem vr(x:SX):∀v∈xd x,v.oneCell'=true:=fun v hv=>by
 simp only[xd,zf,List.not_mem_nil,or_false]at hv
 rcases hv with rfl|rfl|rfl|rfl|rfl|rfl|rfl|rfl<;>rfl
theorem zdT{w:T}{base:Nat}{e:TypeId}{v:z1}{l:List SX}{f:SX}(h:w.ownsRow base e 8 v (l.length+1) (l.flatMap xd++xd f)):w.ownsRow base e 8 v (l++[f]).length ((l++[f]).flatMap xd):=by
 rw[List.length_append,List.flatMap_append];simpa using h
def zjp(w:T)(a:List SX)(W:T):Prop:=∃v,W.1[w.1.size]?=U (.cells #[v] 105 (0,0))/\W.ownsRow w.1.size 148 8 v a.length (a.flatMap xd)/\z0 w.1.size w W
theorem zjp.later{w:T}{a:List SX}{W c:T}(h:zjp w a W)(b:z0 W.1.size W c):zjp w a c:=by
 obtain⟨v,d,i,g⟩:=h
 exact⟨v,(b.block _ (za d)).trans d,zk i (zo.of_below (f:=fun _=>False) b) (fun _ _ e=>e),g.trans (b.mono g.size)⟩
theorem Xw{W c:T}{base:Nat}{e:TypeId}{size:Nat}{v:z1}{n:Nat}{xs:List z1}(i:W.ownsRow base e size v n xs)(d:W.grownBy c v.ownBlock)(B:Nat):KeepsFrom B W c/\KeepsWalks W c:=by
 have key:∀(k:Nat) (o:Obj),W.1[k]?=U o->o.isCells=false->c.1[k]?=U o:=fun k o a b=>(d.block k (za a) (fun e=>by
  rcases i.2 with⟨rfl,_⟩|⟨g,cap,h,rfl,_,f,_⟩
  ·simp[Value.ownBlock]at e
  ·have:k=g:=by simpa[Value.ownBlock]using e
   subst this;rw[f]at a;cases a;cases b)).trans a
 exact⟨⟨d.size,fun k o _ a b=>key k o a b⟩,⟨d.size,fun k o a b=>key k o a (Obj.not_cells_of_walk b)⟩⟩
theorem zdp{F:Fence}{n:Nat}{W:T}{ops:Array Oper}{rest:List Oper}{o:Oper}{a:Act}{Q:Exit->Act->T->Prop}(m:o.guard=E)(s x:Operand)
  (B:o.op=.call {callee:=.builtin .append,args:=#[s,x],argTypes:=#[105,105]}) (base:Nat) (v:z1) (l:List SX) (f:SX) (D:a.eval s=v) (e:W.ownsRow base 148 8 v l.length (l.flatMap xd))
  (i:Nat) (H:a.eval x=.slice (U ⟨i,0,E⟩) 1 1) (j:W.1[i]?=U (.cells #[I O f.1.t,I O f.1.sr,I O f.1.wa,I O f.2.st,I O f.2.cl.cnt,I O f.2.cl.sum,I G f.2.cl.mn,I G f.2.cl.mx] 148 (0,0))) (K:l.length<=1000000) (hbase:base<=W.1.size)
  (h:∀g cap w',w'.ownsRow base 148 8 (.slice (U ⟨g,0,E⟩) (l.length+1) cap) (l++[f]).length ((l++[f]).flatMap xd)->W.grownBy w' v.ownBlock->g<w'.1.size->wpListIn F n prog ops Q rest (a.put o.dst (.slice (U ⟨g,0,E⟩) (l.length+1) cap)) w'):wpListIn F n prog ops Q (o::rest) a W:=by
 obtain⟨i0,A,p,q,r⟩:=Jy
 refine wpListIn_append_own_at W m s x 105 B base 148 i0 (.agg #[I O 0,I O 0,I O 0,I O 0,I O 0,I O 0,I G 0,I G 0]) 8 56 underlying105 A p q r rfl (by decide) v l.length _ D e ⟨i,0,E⟩ 1 1 (xd f) H rfl (World.news_of_block (cs:=(xd f).toArray) j) (vr f) (by simp only[maxLen];omega) (by omega) hbase ?_
 intro L J b k u y
 obtain⟨z,c,rfl,w,d⟩:=b.form (by omega)
 exact h z c J (zdT b) k d
theorem zam(gf:Nat)(lb:Array z1)(eg:∀args w,(callFunc gf args).run prog w=.ok (.enter gf args) w){N:Nat}{S:List SX->Prop}(w:T)(hN:N<=1000000)
  (q:X5 Fence.wide 6 prog gf lb (fun x:SX=>#[.agg #[I O x.1.t,I O x.1.sr,I O x.1.wa,I O x.2.st,I O x.2.cl.cnt,I O x.2.cl.sum,I G x.2.cl.mn,I G x.2.cl.mx]]) KeepsWalks S (fun _=>True) N 0 w):
  Calls prog 245 #[.slice E 0 0,.func (.func gf) #[] lb] w fun e w'=>∃xs v,S xs/\e=.returned v/\w'.ownsRow w.1.size 148 8 v xs.length (xs.flatMap xd)/\z0 w.1.size w w':=by
 have Q:=zd q
 have a1:=zd eg
 have b1:=zm w (.cells #[.slice E 0 0] 105)
 have bz:=zL w (.cells #[.slice E 0 0] 105)
 have Z:z0 w.1.size w (w.alloc (.cells #[.slice E 0 0] 105)):=(zb _ _).alloc (C _) _
 clear q eg
 refine(callsIn_wide (n:=7)).1 ?_
 refine callsIn_of_wp_marks func245 rfl trivial ?_ rfl
 simp only[ntmps245,List.size_toArray,List.length_cons,List.length_nil,Nat.reduceAdd,Nat.reduceSub,Array.replicate_succ,Array.replicate_zero,List.push_toArray,List.append_toArray,List.nil_append,List.cons_append]
 have B1:=zd b1
 have u:=zd Z
 have BZ:=zd bz
 clear b1 Z bz
 gi_wp2
 obtain⟨W0,Y⟩:∃W0,(w.alloc (.cells #[.slice E 0 0] 105))=W0:=⟨_,rfl⟩
 rw[Y]at B1 u BZ ⊢
 clear Y
 have hz:W0.1.size=w.1.size+1:=ud BZ
 refine qD (F:=Fence.wide) (n:=7) rfl (by omega) (gf:=gf) (lb:=lb) rfl trivial (ud a1) (ud Q) (by omega) (fun h k=>h.trans k) (fun W o o' h hc hw=>KeepsWalks.putObj _ h hw) (ud u) (fun _=>rfl)
  (zjp w) (fun _ _ _=>False)
  (fun s A B a8 hs z H=>by
   obtain⟨v,V,h2,X⟩:=hs
   exact⟨v,zt V z (fun r e=>(H r e).2),j5 h2 z (fun r e=>(H r e).2),X.grown z X.size (fun k e=>by have:=(H k e).1;omega)⟩)
  (fun _ _ _ _ _ hs _ _=>hs)
  ⟨_,ud B1,⟨rfl,.inl ⟨rfl,rfl⟩⟩,ud u⟩
  (fun x a' W=>∃J,w.1.size+1<=J/\W.1[J]?=U (.cells #[I O x.1.t,I O x.1.sr,I O x.1.wa,I O x.2.st,I O x.2.cl.cnt,I O x.2.cl.sum,I G x.2.cl.mn,I G x.2.cl.mx] 148 (0,0))/\a'={tmps:=#[.slice E 0 0,.func (.func gf) #[] lb,.pointer (U ⟨w.1.size,0,E⟩),undef,.slice E 0 0,.pointer (U ⟨J,0,E⟩),.func (.func gf) #[] lb,.agg #[I O x.1.t,I O x.1.sr,I O x.1.wa,I O x.2.st,I O x.2.cl.cnt,I O x.2.cl.sum,I G x.2.cl.mn,I G x.2.cl.mx],undef,undef,undef,undef,undef],defers:=[]})
  (fun x a' s A B a8 hs z H=>by
   obtain⟨J,V,h2,X⟩:=hs
   exact⟨J,V,zt h2 z (fun r e=>(H r e).2),X⟩) ?assign ?body ?done ?stop
 case assign=>
  rintro l d x W K hI L
  have HK:=zd L
  have HI:=zd hI
  clear L hI
  gi_wp2
  have g:=(zb W.1.size W).alloc (C _) (.cells #[I O x.1.t,I O x.1.sr,I O x.1.wa,I O x.2.st,I O x.2.cl.cnt,I O x.2.cl.sum,I G x.2.cl.mn,I G x.2.cl.mx] 148)
  have ae:w.1.size<W.1.size:=by obtain⟨v,V,h2,X⟩:=ud HI;exact za V
  exact ud HK _ _ (zh g) (KeepsWalks.alloc _ _) ((ud HI).later g) ⟨W.1.size,by omega,zm _ _,rfl⟩
 case body=>
  rintro l d x a' W hl ⟨r,H⟩ ⟨v,i1,i2,i3⟩ ⟨J,ac,hx,rfl⟩ ad
  obtain⟨va,vc,rfl⟩:=zS i2
  have a7:=za i1
  have af:=za hx
  obtain⟨c1,-⟩:=zc i1
  obtain⟨x0,x1,x2,x3,x4,x5,x6,x7,-⟩:=zc hx
  have P:=zd i1
  have a:=zd i2
  have y:=zd i3
  have HX:=zd hx
  clear i1 i2 i3 hx H
  gi_wp2_with (first
   |(gi_at_builtin;refine zdp rfl _ _ rfl w.1.size _ d x rfl ((ud a).alloc _) W.1.size rfl (zm _ _) (by omega) (by rw[zL];omega) ?_;intro g' a9 w3 b j aa
     have a0:=Xw ((ud a).alloc (.cells #[I O x.1.t,I O x.1.sr,I O x.1.wa,I O x.2.st,I O x.2.cl.cnt,I O x.2.cl.sum,I G x.2.cl.mn,I G x.2.cl.mx] 148)) j W0.1.size
     have R:w3.1[w.1.size]?=U (.cells #[.slice va d.length vc] 105 (0,0)):=(j.block w.1.size (by rw[zL];omega) (fun e=>zu (ud P) (ud a) (by decide) w.1.size e.symm rfl)).trans ((Below.heap_alloc _ _ _ a7).trans (ud P))
     obtain⟨d1,-⟩:=zc R
     have f1:w3.frozen? ⟨w.1.size,0,E⟩=false:=zE R 0
     have ab:=za R
     have a4:=zd b
     have a2:=zd j
     have a3:=zd a0
     have M:=zd R
     clear b j a0 R
     go_frame)
   |gi_in)
  have hk:=ud a3
  have z:(W.alloc (.cells #[I O x.1.t,I O x.1.sr,I O x.1.wa,I O x.2.st,I O x.2.cl.cnt,I O x.2.cl.sum,I G x.2.cl.mn,I G x.2.cl.mx] 148)).grownBy w3 (Value.slice va d.length vc).ownBlock:=ud a2
  have m:=ud a4
  have hb:=ud y
  have g:=(zb W.1.size W).alloc (C _) (.cells #[I O x.1.t,I O x.1.sr,I O x.1.wa,I O x.2.st,I O x.2.cl.cnt,I O x.2.cl.sum,I G x.2.cl.mn,I G x.2.cl.mx] 148)
  have a5:z0 w.1.size w w3:=(hb.alloc hb.size _).grown z (by have:=hb.size;rw[zL];omega) (fun k e=>((ud a).lt k e).1)
  refine⟨((zh g).trans hk.1).trans ((KeepsOthers.setCell w3 ⟨w.1.size,0,E⟩ _).from _),((KeepsWalks.alloc _ _).trans hk.2).trans (KeepsWalks.setCell _ _ _),?_⟩
  exact⟨_,xy (i:=0) (ud M) _,zk m (zi (f:=fun k=>k=w.1.size) (zo.refl _ _) rfl) (fun k a6 e=>zu (ud M) m (by decide) k a6 e),a5.setCell (p:=⟨w.1.size,0,E⟩) (C _) _⟩
 case done=>
  rintro D xs W hD hS ⟨v,i1,i2,i3⟩ L
  obtain⟨va,vc,rfl⟩:=zS i2
  obtain⟨c2,-⟩:=zc i1
  have a:=zd i2
  have y:=zd i3
  clear i1 i2 i3
  gi_wp2
  refine⟨by simp,.inl ⟨_,_,rfl,run_takeDeferred L,?_⟩⟩
  exact⟨_,results_tmp rfl _ _ _,xs,_,hS,rfl,j5 (ud a) (grownBy_putObj' _ _ _) (fun r e=>by cases e;exact⟨_,L,rfl⟩),xj (ud y) (C _) (by omega) L _⟩
 case stop=>
  rintro D c d W _ _ h _
  exact h.elim
theorem Ke(gf:Nat)(lb:Array z1)(b:∀args w,(callFunc gf args).run prog w=.ok (.enter gf args) w){N:Nat}{S:List SX->Prop}(w:T)(j:N<=1000000)
  (a:X5 Fence.wide 6 prog gf lb (fun x:SX=>#[.agg #[I O x.1.t,I O x.1.sr,I O x.1.wa,I O x.2.st,I O x.2.cl.cnt,I O x.2.cl.sum,I G x.2.cl.mn,I G x.2.cl.mx]]) KeepsWalks S (fun _=>True) N 0 w):
  Calls prog 208 #[.func (.func gf) #[] lb] w fun e w'=>∃xs v,S xs/\e=.returned v/\vu w' w.1.size v xs/\z0 w.1.size w w':=by
 have h:=zd (zam gf lb b w j a)
 clear a b
 go_enter func208,ntmps208
 go_wp2_with(go_at_call 245;refine(ud h).mono ?_;rintro e k ⟨xs,v,c,rfl,f,d⟩;have i:=zd c;have HR:=zd f;have g:=zd d;clear c f d)
 go_ret
 exact⟨xs,v,ud i,rfl,ud HR,ud g⟩
def JR(x y:Sg):Int:=orL [kz x.t y.t,kz x.sr y.sr,kz x.wa y.wa]
theorem ZC(x y:Sg)(w:T):Calls prog 166 #[.agg #[I O x.t,I O x.sr,I O x.wa],.agg #[I O y.t,I O y.sr,I O y.wa]] w fun e w'=>e=.returned (I O (JR x y))/\Dr.Below w.1.size w w':=by
 obtain⟨i,j,g,r⟩:=Dr.box2 w (.cells #[I O x.t,I O x.sr,I O x.wa] 146) (.cells #[I O y.t,I O y.sr,I O y.wa] 146)
 obtain⟨Y,f⟩:∃Y,((w.alloc (.cells #[I O x.t,I O x.sr,I O x.wa] 146)).alloc (.cells #[I O y.t,I O y.sr,I O y.wa] 146))=Y:=⟨_,rfl⟩
 rw[f]at i j g r
 obtain⟨M,N,P,-⟩:=zc i
 obtain⟨Q,R,S,-⟩:=zc j
 have m:=fun(a b:Int) W=>zd (yI a b W)
 have d:∀W:T,W.1[Y.1.size]?=U (.cells #[I O (kz x.t y.t),I O (kz x.sr y.sr),I O (kz x.wa y.wa)] 3)->Hid (Calls prog 163 #[.slice (U ⟨Y.1.size,0,E⟩) 3 3] W fun e w'=>e=.returned (I O (JR x y))/\w'=W):=fun W z=>
  zdf [kz x.t y.t,kz x.sr y.sr,kz x.wa y.wa] (by simp) W Y.1.size (fun k v c=>by
   rw[xD z]
   match k,c with
   |0,c=>simp at c;subst c;rfl
   |1,c=>simp at c;subst c;rfl
   |2,c=>simp at c;subst c;rfl)
 have n:=d (Y.alloc (.cells #[I O (kz x.t y.t),I O (kz x.sr y.sr),I O (kz x.wa y.wa)] 3)) (zm _ _)
 have o:=d (Y.alloc (.cells #[I O (kz x.t y.t),I O (kz x.sr y.sr),I O (kz x.wa y.wa)] 3)).drew (zm _ _)
 have p:=d (Y.drew.alloc (.cells #[I O (kz x.t y.t),I O (kz x.sr y.sr),I O (kz x.wa y.wa)] 3)) (zm Y.drew _)
 have D:=za i
 have F:=za j
 have l:=zd g
 have q:=zd f
 clear i j d g f r
 generalize h:JR x y=H at*
 have u:=zd h
 clear h
 generalize A:kz x.t y.t=J at*
 generalize B:kz x.sr y.sr=K at*
 generalize hc2:kz x.wa y.wa=L at*
 go_enter func166,ntmps166
 go_wp2_with fail
 rw[ud q]
 go_region_held3 (fun w'=>w'.cell? ⟨w.1.size,0,E⟩=U (I O x.t)/\w'.cell? ⟨w.1.size,1,E⟩=U (I O x.sr)/\w'.cell? ⟨w.1.size,2,E⟩=U (I O x.wa)/\w'.cell? ⟨w.1.size+1,0,E⟩=U (I O y.t)/\w'.cell? ⟨w.1.size+1,1,E⟩=U (I O y.sr)/\w'.cell? ⟨w.1.size+1,2,E⟩=U (I O y.wa)) (go_keep) (first
  |(go_at_call 162;(with_reducible refine(ud (m _ _ _)).mono ?_);rintro e V ⟨rfl,rfl⟩)
  |(go_at_call 163;(first|(with_reducible refine(ud n).mono ?_)|(with_reducible refine(ud o).mono ?_)|(with_reducible refine(ud p).mono ?_));rintro e V ⟨rfl,rfl⟩))
 go_wp2_with fail
 go_ret
 have s:=ud l
 exact⟨rfl,(s.alloc s.size _).drew⟩
theorem zes(x y:SX)(w:T):Calls prog 210 #[.agg #[I O x.1.t,I O x.1.sr,I O x.1.wa,I O x.2.st,I O x.2.cl.cnt,I O x.2.cl.sum,I G x.2.cl.mn,I G x.2.cl.mx],.agg #[I O y.1.t,I O y.1.sr,I O y.1.wa,I O y.2.st,I O y.2.cl.cnt,I O y.2.cl.sum,I G y.2.cl.mn,I G y.2.cl.mx]] w fun e w'=>e=.returned (I O (JR x.1 y.1))/\Dr.Below w.1.size w w':=by
 obtain⟨d,f,b,h⟩:=Dr.box2 w (.cells #[I O x.1.t,I O x.1.sr,I O x.1.wa,I O x.2.st,I O x.2.cl.cnt,I O x.2.cl.sum,I G x.2.cl.mn,I G x.2.cl.mx] 148) (.cells #[I O y.1.t,I O y.1.sr,I O y.1.wa,I O y.2.st,I O y.2.cl.cnt,I O y.2.cl.sum,I G y.2.cl.mn,I G y.2.cl.mx] 148)
 obtain⟨Y,a⟩:∃Y,((w.alloc (.cells #[I O x.1.t,I O x.1.sr,I O x.1.wa,I O x.2.st,I O x.2.cl.cnt,I O x.2.cl.sum,I G x.2.cl.mn,I G x.2.cl.mx] 148)).alloc (.cells #[I O y.1.t,I O y.1.sr,I O y.1.wa,I O y.2.st,I O y.2.cl.cnt,I O y.2.cl.sum,I G y.2.cl.mn,I G y.2.cl.mx] 148))=Y:=⟨_,rfl⟩
 rw[a]at d f b h
 obtain⟨n,o,p,-⟩:=zc d
 obtain⟨q,r,s,-⟩:=zc f
 have j:=zd (ZC x.1 y.1 Y)
 have l:=za d
 have m:=za f
 have c:=zd b
 have g:=zd a
 clear d f b a h
 go_enter func210,ntmps210
 go_wp2_with fail
 rw[ud g]
 go_wp2_with(go_at_call 166;refine(ud j).mono ?_;rintro e V ⟨rfl,i⟩;have k:=zd i;clear i)
 go_ret
 exact⟨rfl,(ud c).trans ((ud k).mono (ud c).size)⟩
theorem J8(x y:Sg):JR x y<0↔(x.t<y.t\/x.t=y.t/\(x.sr<y.sr\/x.sr=y.sr/\x.wa<y.wa)):=by
 unfold JR
 simp only[orL,kz]
 repeat' split
 all_goals omega
theorem zfn:Go.Sort.SWO (fun x y:SX=>decide (JR x.1 y.1<0)) where
 irrefl x:=by simp only[decide_eq_false_iff_not,J8];omega
 trans x y z h1 h2:=by simp only[decide_eq_true_eq,J8]at*;omega
 ntrans x y z h1 h2:=by simp only[decide_eq_false_iff_not,J8]at*;omega
def zjU(w:T)(g:Nat)(a0 a a2 a3 a4 a5 b c:z1):T:=((((((((w.setCell ⟨g,0,E⟩ a0).setCell ⟨g,1,E⟩ a).setCell ⟨g,2,E⟩ a2).setCell ⟨g,3,E⟩ a3).setCell ⟨g,4,E⟩ a4).setCell ⟨g,5,E⟩ a5).setCell ⟨g,6,E⟩ b).setCell ⟨g,7,E⟩ c)
theorem ziv{w:T}{g:Nat}{b0 n m l k f e c:z1}{t:TypeId}{b:Nat×Nat}(h:w.1[g]?=U (.cells #[b0,n,m,l,k,f,e,c] t b))(a0 a a2 a3 a4 a5 d j:z1):(zjU w g a0 a a2 a3 a4 a5 d j).1[g]?=U (.cells #[a0,a,a2,a3,a4,a5,d,j] t b):=by
 have o:(w.setCell ⟨g,0,E⟩ a0).1[g]?=U (.cells #[a0,n,m,l,k,f,e,c] t b):=xy (i:=0) h a0
 have p:((w.setCell ⟨g,0,E⟩ a0).setCell ⟨g,1,E⟩ a).1[g]?=U (.cells #[a0,a,m,l,k,f,e,c] t b):=xy (i:=1) o a
 have q:(((w.setCell ⟨g,0,E⟩ a0).setCell ⟨g,1,E⟩ a).setCell ⟨g,2,E⟩ a2).1[g]?=U (.cells #[a0,a,a2,l,k,f,e,c] t b):=xy (i:=2) p a2
 have r:((((w.setCell ⟨g,0,E⟩ a0).setCell ⟨g,1,E⟩ a).setCell ⟨g,2,E⟩ a2).setCell ⟨g,3,E⟩ a3).1[g]?=U (.cells #[a0,a,a2,a3,k,f,e,c] t b):=xy (i:=3) q a3
 have s:(((((w.setCell ⟨g,0,E⟩ a0).setCell ⟨g,1,E⟩ a).setCell ⟨g,2,E⟩ a2).setCell ⟨g,3,E⟩ a3).setCell ⟨g,4,E⟩ a4).1[g]?=U (.cells #[a0,a,a2,a3,a4,f,e,c] t b):=xy (i:=4) r a4
 have u:((((((w.setCell ⟨g,0,E⟩ a0).setCell ⟨g,1,E⟩ a).setCell ⟨g,2,E⟩ a2).setCell ⟨g,3,E⟩ a3).setCell ⟨g,4,E⟩ a4).setCell ⟨g,5,E⟩ a5).1[g]?=U (.cells #[a0,a,a2,a3,a4,a5,e,c] t b):=xy (i:=5) s a5
 have v:(((((((w.setCell ⟨g,0,E⟩ a0).setCell ⟨g,1,E⟩ a).setCell ⟨g,2,E⟩ a2).setCell ⟨g,3,E⟩ a3).setCell ⟨g,4,E⟩ a4).setCell ⟨g,5,E⟩ a5).setCell ⟨g,6,E⟩ d).1[g]?=U (.cells #[a0,a,a2,a3,a4,a5,d,c] t b):=xy (i:=6) u d
 have x:((((((((w.setCell ⟨g,0,E⟩ a0).setCell ⟨g,1,E⟩ a).setCell ⟨g,2,E⟩ a2).setCell ⟨g,3,E⟩ a3).setCell ⟨g,4,E⟩ a4).setCell ⟨g,5,E⟩ a5).setCell ⟨g,6,E⟩ d).setCell ⟨g,7,E⟩ j).1[g]?=U (.cells #[a0,a,a2,a3,a4,a5,d,j] t b):=xy (i:=7) v j
 exact x
theorem zbF{B:Nat}{w:T}{g:Nat}(h:B<=g)(a0 a a2 a3 a4 a5 b c:z1):z0 B w (zjU w g a0 a a2 a3 a4 a5 b c):=(((((((((zb _ _).setCell (p:=⟨g,0,E⟩) h _).setCell (p:=⟨g,1,E⟩) h _).setCell (p:=⟨g,2,E⟩) h _).setCell (p:=⟨g,3,E⟩) h _).setCell (p:=⟨g,4,E⟩) h _).setCell (p:=⟨g,5,E⟩) h _).setCell (p:=⟨g,6,E⟩) h _).setCell (p:=⟨g,7,E⟩) h _)
theorem ZB{V:T}{z a i:Nat}(hn:¬a=z)(a0 b a2 a3 a4 a5 c d:z1):((((((((V.setCell ⟨z,0,E⟩ a0).setCell ⟨z,1,E⟩ b).setCell ⟨z,2,E⟩ a2).setCell ⟨z,3,E⟩ a3).setCell ⟨z,4,E⟩ a4).setCell ⟨z,5,E⟩ a5).setCell ⟨z,6,E⟩ c).setCell ⟨z,7,E⟩ d).cell? ⟨a,i,E⟩=V.cell? ⟨a,i,E⟩:=by
 simp only[World.cell?,Below.heap_setCell _ _ _ _ (show a≠(⟨z,_,E⟩:Addr).block from hn)]
theorem zbp{w:T}{s:Nat}{c:Cf}{tv:z1}{lb gb:Nat}{Gl:List (Sg×Unit)}{L:LV}(h:xt w s c tv lb gb Gl L)(hc:c.ok)(k:Nat)(hk:k<c.n)(sr wa:Int)(H:xh sr)(a2:0<=wa/\wa<=100000)(l:Cl)(D:xi (zW c L sr wa k)=l):
  Calls prog 111 #[.pointer (U ⟨s,0,E⟩),.agg #[I O k,I O sr,I O wa]] w fun e w'=>e=.returned (.agg #[I O k,I O sr,I O wa,I O 3,I O l.cnt,I O l.sum,I G l.mn,I G l.mx])/\z0 w.1.size w w':=by
 obtain⟨P,Q,m,yz⟩:=box2 w (.cells #[I O k,I O sr,I O wa] 146) (.cells #[I O 0,I O 0,I O 0,I O 0,I O 0,I O 0,I G 0,I G 0] 148)
 have r:=fun W hW=>zd (zby (h.later (w':=W) hW) hc k hk sr wa H a2)
 have a3:(zW c L sr wa k).length<=1000:=by have:=QT L (c.F k) sr (wa*xK c k) (xK c k).toNat;have:=jN hc hk;show(ql L (c.F k) sr (wa*xK c k) (xK c k).toNat).length<=1000;omega
 have y:=fun ad b cap B W M a1=>zd (Ym ad b cap (zW c L sr wa k) B a3 W M a1)
 obtain⟨X,t⟩:∃X,((w.alloc (.cells #[I O k,I O sr,I O wa] 146)).alloc (.cells #[I O 0,I O 0,I O 0,I O 0,I O 0,I O 0,I G 0,I G 0] 148))=X:=⟨_,rfl⟩
 rw[t]at P Q m yz
 obtain⟨p0,p1,p2,-⟩:=zc P
 have PB:=zd Q
 unfold clV at y
 rw[D]at y
 generalize zW c L sr wa k=zs at*
 have z:=r X m
 have A:=r X.drew m.drew
 have u:=zd m
 have Z:=zd t
 have R:=za P
 have qg:=za Q
 have a4:¬w.1.size=w.1.size+1:=by omega
 clear h m P Q r t D yz
 go_enter func111,ntmps111
 go_wp2_with fail
 rw[ud Z]
 go_region_held3 (fun w'=>w'.cell? ⟨w.1.size,0,E⟩=U (I O k)/\w'.cell? ⟨w.1.size,1,E⟩=U (I O sr)/\w'.cell? ⟨w.1.size,2,E⟩=U (I O wa)) (first|go_keep|(with_reducible exact⟨(ZB (by assumption) _ _ _ _ _ _ _ _).trans (by assumption),(ZB (by assumption) _ _ _ _ _ _ _ _).trans (by assumption),(ZB (by assumption) _ _ _ _ _ _ _ _).trans (by assumption)⟩)) (first
  |(go_at_call 171;(first|(with_reducible refine(ud z).mono ?_)|(with_reducible refine(ud A).mono ?_));rintro e V ⟨ad,g,cap,rfl,B,hg,o,d⟩;have i:z0 X.1.size X V:=⟨d.os,d.tape,d.output,d.size,d.block⟩;clear d;have v0:V.cell? ⟨w.1.size,0,E⟩=U (I O k):=(i.cell (p:=⟨w.1.size,0,E⟩) R).trans p0;have v1:V.cell? ⟨w.1.size,1,E⟩=U (I O sr):=(i.cell (p:=⟨w.1.size,1,E⟩) R).trans p1;have v2:V.cell? ⟨w.1.size,2,E⟩=U (I O wa):=(i.cell (p:=⟨w.1.size,2,E⟩) R).trans p2;have vb:=(i.block _ qg).trans (ud PB);have q:=z9 R i.size;have K:=z9 qg i.size;have S:=y ad g cap B V hg o;have Y:=y ad g cap B V.drew hg o;have x:=zd i;have VB:=zd vb;clear i B hg o y vb)
  |(go_at_call 123;(first|(with_reducible refine(ud S).mono ?_)|(with_reducible refine(ud Y).mono ?_));rintro e J ⟨rfl,a⟩;have f:z0 V.1.size V J:=⟨a.os,a.tape,a.output,a.size,a.block⟩;clear a;have j0:J.cell? ⟨w.1.size,0,E⟩=U (I O k):=(f.cell (p:=⟨w.1.size,0,E⟩) q).trans v0;have j1:J.cell? ⟨w.1.size,1,E⟩=U (I O sr):=(f.cell (p:=⟨w.1.size,1,E⟩) q).trans v1;have j2:J.cell? ⟨w.1.size,2,E⟩=U (I O wa):=(f.cell (p:=⟨w.1.size,2,E⟩) q).trans v2;have N:=(f.block _ K).trans (ud VB);obtain⟨a5,a6,a7,a8,a9,aa,ab,ac,-⟩:=zc N;have jf:=fun j=>zE N j;have af:=z9 q f.size;have ae:=z9 K f.size;have JB:=zd N;have a0:=zd ((ud u).trans (((ud x).trans (f.mono (ud x).size)).mono (ud u).size));clear N f))
 all_goals go_wp2_with fail
 all_goals have hf:=ziv (ud JB) (I O k) (I O sr) (I O wa) (I O 3) (I O l.cnt) (I O l.sum) (I G l.mn) (I G l.mx)
 all_goals have M:=(ud a0).trans (zbF (w:=J) (g:=w.1.size+1) (Nat.le_succ _) (I O k) (I O sr) (I O wa) (I O 3) (I O l.cnt) (I O l.sum) (I G l.mn) (I G l.mx))
 all_goals unfold zjU at hf M
 all_goals refine bodyPost_ret (v:=.agg #[I O k,I O sr,I O wa,I O 3,I O l.cnt,I O l.sum,I G l.mn,I G l.mx]) (results_cell_row results111 _ _ (w.1.size+1) _ _ _ _ rfl hf underlying148 rfl (by kernel_rfl)) rfl ?_
 all_goals exact⟨rfl,M⟩
def XAt(w:T)(g j:Nat)(x:SX):Prop:=
  w.cell? ⟨g,j*8,E⟩=U (I O x.1.t)/\w.cell? ⟨g,j*8+1,E⟩=U (I O x.1.sr)/\w.cell? ⟨g,j*8+2,E⟩=U (I O x.1.wa)/\w.cell? ⟨g,j*8+3,E⟩=U (I O x.2.st)/\
  w.cell? ⟨g,j*8+4,E⟩=U (I O x.2.cl.cnt)/\w.cell? ⟨g,j*8+5,E⟩=U (I O x.2.cl.sum)/\w.cell? ⟨g,j*8+6,E⟩=U (I G x.2.cl.mn)/\w.cell? ⟨g,j*8+7,E⟩=U (I G x.2.cl.mx)
def SRd(w:T)(v:z1)(xs:List SX):Prop:=∃a cap,v=.slice a xs.length cap/\(0<xs.length->∃g,a=U ⟨g,0,E⟩/\g<w.1.size/\∀j x,xs[j]?=U x->XAt w g j x)
theorem vu.rd{w:T}{base:Nat}{v:z1}{xs:List SX}(h:vu w base v xs):SRd w v xs:=by
 obtain⟨a,cap,rfl⟩:=h.slice
 refine⟨a,cap,rfl,fun b=>?_⟩
 obtain⟨g,rfl,-,c⟩:=h.form b
 exact⟨g,rfl,c,fun j x d=>h.at d⟩
theorem XAt.later{w w':T}{g j:Nat}{x:SX}(h:XAt w g j x)(n:z0 w.1.size w w')(o:g<w.1.size):XAt w' g j x:=by
 obtain⟨a,b,c,d,f,k,l,m⟩:=h
 have e:=fun i=>n.cell (p:=⟨g,i,E⟩) o
 exact⟨(e _).trans a,(e _).trans b,(e _).trans c,(e _).trans d,(e _).trans f,(e _).trans k,(e _).trans l,(e _).trans m⟩
theorem SRd.later{w w':T}{v:z1}{xs:List SX}(h:SRd w v xs)(b:z0 w.1.size w w'):SRd w' v xs:=by
 obtain⟨a,cap,e,h⟩:=h
 refine⟨a,cap,e,fun f=>?_⟩
 obtain⟨g,d,c,k⟩:=h f
 exact⟨g,d,z9 c b.size,fun j x i=>(k j x i).later b c⟩
theorem SRd.slice{w:T}{v:z1}{xs:List SX}(h:SRd w v xs):∃a cap,v=.slice a xs.length cap:=by
 obtain⟨a,cap,e,-⟩:=h;exact⟨a,cap,e⟩
theorem SRd.form{w:T}{a:Option Addr}{n cap:Nat}{xs:List SX}(h:SRd w (.slice a n cap) xs)(i:0<xs.length):∃g,a=U ⟨g,0,E⟩/\n=xs.length/\g<w.1.size/\∀j x,xs[j]?=U x->XAt w g j x:=by
 obtain⟨m,b,e,h⟩:=h
 obtain⟨g,c,k,l⟩:=h i
 injection e with d f o
 exact⟨g,d.trans c,f,k,l⟩
theorem zbU(B g:Nat)(a b c d:Int)(p:∀m∈[a,b,c,d],xh m)(l:z1)(j:List UInt8)(w:T)(h:YT w B l j)(k:B<=w.1.size)(f:j.length<=70368744177664)(i:zjv B w)
  (o:w.1[g]?=U (.cells #[I O a,I O b,I O c,I O d] 2 (0,0))):
  Calls prog 168 #[l,.slice (U ⟨g,0,E⟩) 4 4] w fun e w'=>∃n,e=.returned n/\YT w' B n (j++vk [a,b,c,d])/\z0 B w w'/\Lib.OthersKept 5 E w w':=
 zal B g [a,b,c,d] p (by simp) l j w h k f i o
theorem Vw{w w':T}(h:Lib.TabIs prog w "internal/strconv.uint64pow10" .u64 Lib.pow10Tab)(a:z0 w.1.size w w'):Lib.TabIs prog w' "internal/strconv.uint64pow10" .u64 Lib.pow10Tab:=Lib.tabBelow_of_tabIs h _ a
theorem YT.alloc{w:T}{B:Nat}{v:z1}{a:List UInt8}(h:YT w B v a)(o:Obj):YT (w.alloc o) B v a:=World.ownsRow.alloc h o
theorem VD(now:Int)(D:xh now)(xs:List SX)(J:∀x∈xs,okX x)(aq:xs.length<=100000000)(v:z1)(w:T)(hv:SRd w v xs)(H:Lib.TabIs prog w "internal/strconv.uint64pow10" .u64 Lib.pow10Tab):
  Calls prog 108 #[.agg #[I O now,v]] w fun e w'=>e=.returned (.string ⟨(VG now xs).toArray⟩)/\z0 w.1.size w w':=by
 obtain⟨ad,cap,rfl⟩:=hv.slice
 have a:z0 w.1.size w (w.alloc (.cells #[I O now,.slice ad xs.length cap] 190)):=(zb _ _).alloc (C _) _
 have u:=zm w (.cells #[I O now,.slice ad xs.length cap] 190)
 have ac:=zL w (.cells #[I O now,.slice ad xs.length cap] 190)
 have F:=fun k=>Zc D (xs:=xs.take k) (fun x h=>J x (List.mem_of_mem_take h))
 have b:=hv.later a
 have y:=Lib.tabBelow_of_tabIs (Vw H a)
 obtain⟨X,hX⟩:∃X,(w.alloc (.cells #[I O now,.slice ad xs.length cap] 190))=X:=⟨_,rfl⟩
 rw[hX]at a u ac b y
 obtain⟨k0,-⟩:=zc u
 have M:=zd (Ka X.1.size 0 now D (.slice E 0 0) [] X (World.ownsRow_nil _ _ _ _) (C _) (by omega) y)
 have ak:=zd hX
 have a0:=zd a
 have ag:=zd u
 have aj:=zd b
 have a4:=zd y
 have ai:=zd J
 have a3:=zd F
 have ap:w.1.size<X.1.size:=by omega
 clear hX a u b y J F hv H ac
 go_enter func108,ntmps108
 go_wp2_with fail
 rw[ud ak]
 go_wp2_with(go_at_call 167;refine(ud M).mono ?_;rintro e W ⟨v0,rfl,q,S,-⟩;have c1:W.cell? ⟨w.1.size,1,E⟩=U (.slice ad xs.length cap):=(S.cell (p:=⟨w.1.size,1,E⟩) ap).trans (by rw[xD (ud ag)];rfl))
 have HO:=zd q
 have ae:=zd S
 clear q S c1 k0
 go_loopw [3,12] (fun v i wr=>∃k:Nat,k<=xs.length/\i=I O k/\YT wr X.1.size v (VG now (xs.take k))/\z0 X.1.size X wr) (fun _ i _=>xs.length-(intOf i).toNat)
 case atStart=>exact⟨0,Nat.zero_le _,rfl,by
  have h:=ud HO
  rw[Nat.zero_add,List.nil_append]at h
  have e:VG now (xs.take 0)=Lib.itoa now:=by simp[VG]
  rw[e];exact h,ud ae⟩
 case round=>
  obtain⟨k,hk,rfl,hv,hb⟩:=hrel
  have hbs:=hb.size
  have hr:=ud a3 k
  rw[List.length_take]at hr
  by_cases ao:k<xs.length
  ·obtain⟨x,J⟩:=zgk ao
   have o:=ud ai x (List.mem_of_getElem? J)
   have ab:=(ud aj).later hb
   obtain⟨g,rfl,-,aw,a7⟩:=ab.form (by omega)
   obtain⟨x0,x1,x2,x3,x4,x5,x6,x7⟩:=a7 k x J
   clear a7
   have ax:(k:Int)<xs.length:=by omega
   obtain⟨ay,az⟩:=o.mn
   obtain⟨aA,aB⟩:=o.mx
   have m:=o.seg
   have B:=o.cel
   unfold zgq at m
   unfold zgL at B
   obtain⟨Y,hY⟩:∃Y,(wr.alloc (.cells #[I O x.1.t,I O x.1.sr,I O x.1.wa,I O x.2.st,I O x.2.cl.cnt,I O x.2.cl.sum,I G x.2.cl.mn,I G x.2.cl.mx] 148))=Y:=⟨_,rfl⟩
   have V:z0 X.1.size X Y:=by rw[<-hY];exact hb.alloc hbs _
   have R:Y.1[wr.1.size]?=U (.cells #[I O x.1.t,I O x.1.sr,I O x.1.wa,I O x.2.st,I O x.2.cl.cnt,I O x.2.cl.sum,I G x.2.cl.mn,I G x.2.cl.mx] 148 (0,0)):=by rw[<-hY];exact zm _ _
   have an:Y.1.size=wr.1.size+1:=by rw[<-hY];exact zL _ _
   have z:=YT.alloc hv (.cells #[I O x.1.t,I O x.1.sr,I O x.1.wa,I O x.2.st,I O x.2.cl.cnt,I O x.2.cl.sum,I G x.2.cl.mn,I G x.2.cl.mx] 148)
   rw[hY]at z
   obtain⟨zs,Z⟩:∃zs,VG now (xs.take k)=zs:=⟨_,rfl⟩
   rw[Z]at z hr
   have HZ:=zd Z
   have HX:=zd J
   have aD:zs.length<=20000000000:=by omega
   obtain⟨y0,y1,y2,y3,y4,y5,y6,y7,-⟩:=zc R
   obtain⟨n0,s,a6⟩:∃n0:Nat,z0 X.1.size X (Y.alloc (.cells #[I O x.1.t,I O x.1.sr,I O x.1.wa,I O x.2.st] 2))/\(Y.alloc (.cells #[I O x.1.t,I O x.1.sr,I O x.1.wa,I O x.2.st] 2)).1[Y.1.size]?=U (.cells #[I O x.1.t,I O x.1.sr,I O x.1.wa,I O x.2.st] 2 (0,0)):=⟨0,V.alloc V.size _,zm _ _⟩
   have L:=zd (zbU X.1.size Y.1.size x.1.t x.1.sr x.1.wa x.2.st m _ zs _ (YT.alloc z _) (Nat.le_trans s.size (C _)) (by omega) ((ud a4).on s) a6)
   have ah:=zd (vQ [x.1.t,x.1.sr,x.1.wa,x.2.st] m)
   have r:=zd R
   have a5:=zd hY
   have a1:=zd s
   have am:=zd an
   clear hb hv ab o hY V R z Z J s a6 m
   rw[ud am]at L
   cases hc:Yh x.2.st
   ·have N:Hid (∀W:T,Calls prog 169 #[I O x.2.st] W fun e w'=>e=.returned (.bool false)/\w'=W):=fun W=>by rw[<-hc];exact Xz _ W
    go_wp2_with fail
    rw[ud a5]
    go_wp2_with(first
     |(go_at_call 168;refine(ud L).mono ?_;rintro e W1 ⟨v1,rfl,b,a,d⟩;have h1:=d wr.1.size _ ((Below.heap_alloc _ _ _ (za (ud r))).trans (ud r)) (by simp) (fun c fz e=>by cases e);obtain⟨-,-,-,z3,-⟩:=zc h1;have Q:=zd b;have K:=zd a;clear b a d h1)
     |(go_at_call 169;refine(ud N _).mono ?_;rintro e w2 ⟨rfl,rfl⟩))
    go_roundw
    case rel=>
     refine⟨k+1,by omega,by go_num,?_,(ud a1).trans (ud K)⟩
     have e:VG now (xs.take (k+1))=zs++vk [x.1.t,x.1.sr,x.1.wa,x.2.st]:=by
      rw[Zh (ud HX),Vj,ud HZ];simp[zhS,hc,zgq]
     rw[e];exact ud Q
    case measure=>simp[intOf];omega
   ·have N:Hid (∀W:T,Calls prog 169 #[I O x.2.st] W fun e w'=>e=.returned (.bool true)/\w'=W):=fun W=>by rw[<-hc];exact Xz _ W
    go_wp2_with fail
    rw[ud a5]
    go_wp2_with(first
     |(go_at_call 168;refine(ud L).mono ?_;rintro e W1 ⟨v1,rfl,b,a,d⟩;have h1:=d wr.1.size _ ((Below.heap_alloc _ _ _ (za (ud r))).trans (ud r)) (by simp) (fun c fz e=>by cases e);refine Hid.out ?_)
     |fail)
    refine Lib.hid ?_
    obtain⟨-,-,-,z3,z4,z5,z6,z7,-⟩:=zc h1
    have n:=(ud a1).trans a
    have a9:=ud ah
    obtain⟨ys,A⟩:∃ys,zs++vk [x.1.t,x.1.sr,x.1.wa,x.2.st]=ys:=⟨_,rfl⟩
    have aE:ys.length<=30000000000:=by rw[<-A,List.length_append];simp only[List.length_cons,List.length_nil]at a9;omega
    rw[A]at b
    have al:=zd A
    have f:z0 X.1.size X (W1.alloc (.cells #[I O x.2.cl.cnt,I O x.2.cl.sum,I O x.2.cl.mn,I O x.2.cl.mx] 2)):=n.alloc n.size _
    have af:=zd (zbU X.1.size W1.1.size x.2.cl.cnt x.2.cl.sum x.2.cl.mn x.2.cl.mx B v1 ys _ (YT.alloc b _) f.size (by omega) ((ud a4).on f) (zm _ _))
    have a2:=zd f
    clear h1 a d b n a9 A f
    go_wp2_with(first
     |(go_at_call 169;refine(ud N _).mono ?_;rintro e w2 ⟨rfl,rfl⟩)
     |(go_at_call 168;refine(ud af).mono ?_;rintro e W2 ⟨v2,rfl,aa,a8,-⟩;have Q:=zd aa;have K:=zd a8;clear aa a8))
    go_roundw
    case rel=>
     refine⟨k+1,by omega,by go_num,?_,(ud a2).trans (ud K)⟩
     have e:VG now (xs.take (k+1))=ys++vk [x.2.cl.cnt,x.2.cl.sum,x.2.cl.mn,x.2.cl.mx]:=by
      rw[Zh (ud HX),Vj,ud HZ,<-ud al];simp[zhS,hc,zgq,zgL]
     rw[e];exact ud Q
    case measure=>simp[intOf];omega
  ·obtain rfl:k=xs.length:=by omega
   rw[List.take_length]at hv
   have aC:decide ((xs.length:Int)<xs.length)=false:=by simp
   obtain⟨l,hl⟩:∃l,VG now xs=l:=⟨_,rfl⟩
   rw[hl]at hv
   have ar:0<l.length:=by rw[<-hl];unfold VG;rw[List.length_append];have:=zfa now;omega
   have HL:=zd hl
   have HB:=zd ((ud a0).trans (hb.mono (ud a0).size))
   clear hb hl hr
   rcases hv.2 with⟨-,h0⟩|⟨g,cp,au,rfl,-⟩
   ·omega
   ·have av:=run_convert_bytes_back (P:=prog) wr 250 9 5 ⟨g,0,E⟩ cp l underlying250 underlying5 underlying9 (fun j hj=>World.ownsRow.cells hv (g:=g) rfl j _ (by simp[Lib.byteCells,hj]))
    clear hv
    go_wp2_with fail
    go_ret
    rw[ud HL]
    exact⟨rfl,ud HB⟩
end Go.Proofs.YtndhpgciopcncaaGreatDoor
namespace Go.Proofs.YtndhpgciopcncaaGreatDoor
open Go.ChangeMaps (setBlock)
open Go.RowKit Go.Maps Go.Shelf Go.Sort
theorem zfR{α:Type}[Inhabited α](enc:α->List z1)(k:Nat)(w:T)(a b n:Nat)(d:Array α)(os:Array Obj):zo (fun j=>j=a) w (sortWorldK enc k w a b n d os) where
 os:=rfl
 tape:=rfl
 output:=rfl
 size:=size_sortWorldK_c enc k w a b n d os
 block j hj hn:=by
  unfold sortWorldK putRowK
  rw[heap_grow_old _ _ (by rw[size_putRow];exact hj)]
  unfold putRow mapBlock
  show((Sort.ahead w n).heap.modify a _)[j]?=_
  rw[Array.getElem?_modify,if_neg (fun e=>hn e.symm)]
  rfl
theorem zgX:∀args w,(callFunc 210 args).run prog w=.ok (.enter 210 args) w:=enters_of func210 (by kernel_rfl) rfl
theorem jT(x:SX):(xd x).length=8:=rfl
theorem zii(a b size:Nat)(w:T):CmpLays prog 210 #[] xd 8 (fun x y:SX=>JR x.1 y.1) a b size w:=
 fun m os f g x y=>(zes x y _).mono fun e w' ⟨d,c⟩=>⟨d,c.lays⟩
theorem zfM(a cap:Nat)(xs:List SX)(w:T)(i:HoldsK xd 8 w a 0 xs.toArray)(c:a<w.1.size)(g:xs.length<4611686018427387904):
  Calls prog 209 #[.slice (U ⟨a,0,E⟩) xs.length cap,.func (.func 210) #[] #[]] w fun e w'=>e=.returned (.tuple #[])/\∃m:List SX,m.Perm xs/\HoldsK xd 8 w' a 0 m.toArray/\zo (fun j=>j=a) w w':=by
 have f:=AnyQ.slices_SortFunc Tryz.sortSeg 8 Tryz.isAgg148 Tryz.sizeOf148 xd jT vr (fun x y:SX=>JR x.1 y.1) zfn 210 #[] a 0 cap xs.toArray w zgX (zii a 0 _ w) i c (by simpa using g)
 have b:Calls prog 209 #[.slice (U ⟨a,0,E⟩) xs.toArray.size cap,.func (.func 210) #[] #[]] w _:=f
 rw[List.size_toArray]at b
 refine b.mono ?_
 rintro e w' ⟨rfl,d,n,os,⟨l,_,k⟩,q,rfl⟩
 have h:d.size=xs.length:=by rw[l,List.size_toArray]
 refine⟨rfl,d.toList,?_,?_,zfR _ _ _ _ _ _ _ _⟩
 ·have o:d.extract 0 xs.length=d:=by rw[<-h];exact Array.extract_size
  have p:xs.toArray.extract 0 xs.length=xs.toArray:=by simp
  rw[o,p]at k
  exact k
 ·have:=holdsK_sortWorldK_c xd 8 w a 0 xs.toArray d n os i c l
  simpa using this
theorem zhW(a:Option Addr)(cap:Nat)(w:T):
  Calls prog 209 #[.slice a 0 cap,.func (.func 210) #[] #[]] w fun e w'=>e=.returned (.tuple #[])/\w'=w:=
 AnyF.slices_SortFunc_none (P:=prog) Tryz.sortSeg a cap (.func (.func 210) #[] #[]) w
theorem zeU{w:T}{base g cap:Nat}{xs:List SX}(h:vu w base (.slice (U ⟨g,0,E⟩) xs.length cap) xs):HoldsK xd 8 w g 0 xs.toArray:=fun j d=>by
 have a:j<xs.length*8:=by simpa[size_flatK]using d
 rw[Nat.zero_add]
 refine⟨?_,World.ownsRow.frozenAt h j⟩
 rw[World.ownsRow.cellAt h j a,get_flatK _ _ _ _ (by simpa using a)]
 have c:j/8<xs.length:=by omega
 have:=vh jT xs (j/8) xs[j/8] (j%8) (by simp[c]) (by omega)
 rw[show j/8*8+j%8=j by omega]at this
 rw[this,getElem!_pos xs.toArray (j/8) (by simpa using c)]
 have b:j%8<(xd xs[j/8]).length:=by rw[jT];omega
 simp only[id,List.getElem_toArray]
 rw[getElem!_pos (xd xs[j/8]) (j%8) b,List.getElem?_eq_getElem b]
theorem zeT{w:T}{g:Nat}{xs:List SX}(h:HoldsK xd 8 w g 0 xs.toArray){j:Nat}{x:SX}(f:xs[j]?=U x):XAt w g j x:=by
 obtain⟨d,ex⟩:=List.getElem?_eq_some_iff.1 f
 have key:∀(i:Nat) (v:z1),i<8->(xd x)[i]?=U v->w.cell? ⟨g,j*8+i,E⟩=U v:=fun i v k hv=>by
  have a:j*8+i<xs.length*8:=by omega
  obtain⟨b,-⟩:=h (j*8+i) (by simpa[size_flatK]using a)
  rw[Nat.zero_add]at b
  rw[b,get_flatK _ _ _ _ (by simpa using a)]
  rw[show(j*8+i)/8=j by omega,show(j*8+i)%8=i by omega,getElem!_pos xs.toArray j (by simpa using d)]
  simp only[id,List.getElem_toArray,ex]
  obtain⟨e,c⟩:=List.getElem?_eq_some_iff.1 hv
  rw[getElem!_pos (xd x) i e,c]
 exact⟨key 0 _ (by omega) rfl,key 1 _ (by omega) rfl,key 2 _ (by omega) rfl,key 3 _ (by omega) rfl,key 4 _ (by omega) rfl,key 5 _ (by omega) rfl,key 6 _ (by omega) rfl,key 7 _ (by omega) rfl⟩
theorem Tryz.infoSeg:(prog.info? 148).map (fun i=>(i.zero,i.size,i.bytes))=U (U (.agg #[I O 0,I O 0,I O 0,I O 0,I O 0,I O 0,I G 0,I G 0]),8,56):=by kernel_rfl
theorem zhL{w:T}{ops:Array Oper}{rest:List Oper}{o:Oper}{a:Act}{Q:Exit->Act->T->Prop}(e:o.guard=E)(s x:Operand)
  (m:o.op=.call {callee:=.builtin .append,args:=#[s,x],argTypes:=#[105,105]}) (base:Nat) (v:z1) (l:List SX) (f:SX) (n:a.eval s=v) (b:vu w base v l)
  (c:Nat) (p:a.eval x=.slice (U ⟨c,0,E⟩) 1 1) (d:w.1[c]?=U (.cells #[I O f.1.t,I O f.1.sr,I O f.1.wa,I O f.2.st,I O f.2.cl.cnt,I O f.2.cl.sum,I G f.2.cl.mn,I G f.2.cl.mx] 148 (0,0))) (q:l.length<=1000000000) (hbase:base<=w.1.size)
  (h:∀g cap w',vu w' base (.slice (U ⟨g,0,E⟩) (l.length+1) cap) (l++[f])->w.grownBy w' v.ownBlock->g<w'.1.size->wpList prog ops Q rest (a.put o.dst (.slice (U ⟨g,0,E⟩) (l.length+1) cap)) w'):wpList prog ops Q (o::rest) a w:=
 xJ e s x 105 m base 148 _ 8 56 underlying105 Tryz.infoSeg rfl (by decide) v l.length (l.flatMap xd) n b ⟨c,0,E⟩ 1 1 (xd f) p rfl
  (World.news_of_block (cs:=(xd f).toArray) d) (vr f) (by decide) (by simp only[maxLen];omega) (by omega) hbase
  fun g cap w' i _ j _ k=>h g cap w' (zdT i) j k
def Qj(p:Sg×Unit):SX:=(p.1,⟨4,xY⟩)
def Zk(L:LV)(Gl:List (Sg×Unit)):List SX:=L++Gl.map Qj
theorem jh{w:T}{base:Nat}{v:z1}{xs:List SX}(h:vu w base v xs){k:Nat}{o:Obj}(a:w.1[k]?=U o)(d:o.isCells=false):v.ownBlock≠U k:=fun e=>by
 obtain⟨b,c⟩:=zG h e
 rw[c]at a;cases a;cases d
theorem zgz{w:T}{s:Nat}{c:Cf}{tv:z1}{lb gb:Nat}{Gl:List (Sg×Unit)}{L:LV}(h:xt w s c tv lb gb Gl L)(aG:L.length<=1000000)(aL:Gl.length<=100000000):
  Calls prog 134 #[.pointer (U ⟨s,0,E⟩)] w fun e w'=>∃xs v,xs.Perm (Zk L Gl)/\e=.returned v/\SRd w' v xs/\z0 w.1.size w w':=by
 obtain⟨V,b,a6,ak⟩:=h.gone
 obtain⟨-,-,-,-,-,-,-,c7,c8⟩:=h.cells
 have aq:=h.lt
 have a4:z0 w.1.size w (w.alloc (.cells #[.map (U lb)] 152)):=(zb _ _).alloc (C _) _
 have au:=zL w (.cells #[.map (U lb)] 152)
 have HV:=zd (Yj lb w)
 have HC:=zd (Ke _ _ VS (w.alloc (.cells #[.map (U lb)] 152)) aG (zfb w.1.size lb L _ (by rw[au];omega) (by rw[xD (zm _ _)];rfl) (xX.1 (h.later a4).live)))
 have a7:=za a6
 have ae:=zd a6
 have o:=zd ak
 have ab:=zd a4
 clear h a6 ak a4
 go_enter func134,ntmps134
 go_wp2_with(first
  |(go_at_call 88;refine(ud HV).mono ?_;rintro e w1 ⟨rfl,rfl⟩)
  |(go_at_call 208;refine(ud HC).mono ?_;rintro e l ⟨z,v0,am,rfl,ao,ah⟩;have f:z0 w.1.size w l:=(ud ab).trans (ah.mono (ud ab).size);have d8:l.cell? ⟨s,8,E⟩=U (.map (U gb)):=(f.cell (p:=⟨s,8,E⟩) aq).trans c8;have R:=run_range_map (P:=prog) l 153 _ _ gb V b underlying153 ((f.block _ a7).trans (ud ae));have aJ:s<l.1.size:=z9 aq f.size;have af:=zd am;have ay:=zd ao;have aa:=zd f;clear am ao f ah))
 go_loopw [3] (fun v wr=>∃(d:Array Nat) (c0:Nat) (ps:List MapEntry),wr.1[l.1.size]?=U (.mapIter (U gb) b d c0)/\b<=c0/\wr.1[gb]?=U (.map V b)/\Js V d ps/\vu wr w.1.size v (z++(ps.map (yo kR Gl)).map Qj)/\z0 w.1.size w wr)
  (fun _ wr=>vP V l.1.size wr)
 case atStart=>
  have f:=ud aa
  have ai:z0 l.1.size l (l.alloc (.mapIter (U gb) b #[] b)):=(zb _ _).alloc (C _) _
  exact⟨#[],b,[],zm _ _,C _,(ai.block _ (z9 a7 f.size)).trans ((f.block _ a7).trans (ud ae)),⟨by simp,by simp,by simp⟩,by
   have:=xm (kj (b':=w.1.size) (ud ay) (by rw[au];omega)) ai
   simpa[vu]using this,f.alloc f.size _⟩
 case round=>
  obtain⟨d,c0,ps,hr,aE,Q,hC,hv,Y⟩:=hrel
  have aM:=za hr
  have aN:=(ud aa).size
  clear R d8 HC HV
  rcases run_next_at (P:=prog) wr 0 l.1.size gb b c0 d V b hr Q (ud o).born aE with⟨hz,m⟩|⟨e,N,w1,S,m⟩
  ·have n:(z++(ps.map (yo kR Gl)).map Qj).Perm (Zk L Gl):=(ud af).append ((vg jJ (ud o) (hC.all (ud o).once hz)).map Qj)
   generalize z++(ps.map (yo kR Gl)).map Qj=xs at*
   have a0:xs.length<=200000000:=by rw[n.length_eq];unfold Zk;rw[List.length_append,List.length_map];omega
   obtain⟨a,cap,rfl⟩:=hv.slice
   have ag:=zd n
   have HB:=zd Y
   clear hz hC Q n Y
   by_cases h0:xs.length=0
   ·have al:xs=[]:=List.length_eq_zero_iff.1 h0
    subst al
    have az:=zd (zhW a cap wr)
    clear hv
    go_wp2_with(go_at_call 209;refine(ud az).mono ?_;rintro e W ⟨rfl,rfl⟩)
    go_ret
    exact⟨[],_,ud ag,rfl,⟨_,_,rfl,fun h=>absurd h (by simp)⟩,ud HB⟩
   ·obtain⟨g,rfl,-,Z⟩:=hv.form (by omega)
    have aK:=(World.ownsRow.lt hv g rfl).1
    have HS:=zd (zfM g cap xs wr (zeU hv) Z (by omega))
    clear hv
    go_wp2_with(go_at_call 209;refine(ud HS).mono ?_;rintro e W ⟨rfl,ys,H,hH,D⟩;have ax:=zd H;have HH:=zd hH;have HK:=zd D;clear H hH D)
    go_ret
    have H:=ud ax
    have D:=ud HK
    have Y:=ud HB
    refine⟨ys,.slice (U ⟨g,0,E⟩) xs.length cap,H.trans (ud ag),rfl,⟨U ⟨g,0,E⟩,cap,by rw[H.length_eq],fun _=>⟨g,rfl,z9 Z D.size,fun j x hx=>zeT (ud HH) hx⟩⟩,Y.trans (D.below Y.size (fun j e=>by omega))⟩
  ·have ad:=zd N
   obtain⟨a5,-⟩:=xq.1 N
   have ap:w1.1[l.1.size]?=U (.mapIter (U gb) b d c0):=by rcases S with rfl|rfl<;>exact hr
   have an:w1.1[gb]?=U (.map V b):=by rcases S with rfl|rfl<;>exact Q
   have aH:gb≠l.1.size:=by omega
   obtain⟨X,hX⟩:∃X,setBlock w1 l.1.size (.mapIter (U gb) b (d.push e.born) b)=X:=⟨_,rfl⟩
   have K:X.1[l.1.size]?=U (.mapIter (U gb) b (d.push e.born) b):=by rw[<-hX];exact xE (za ap) _
   have J:X.1[gb]?=U (.map V b):=by rw[<-hX,xn aH];exact an
   have a8:zo (fun k=>k=l.1.size) wr X:=by
    rw[<-hX];rcases S with rfl|rfl
    ·exact xQ _
    ·exact(zo.refl (fun k=>k=l.1.size) wr).drew.trans (xQ _) (fun _ _ h=>h)
   have M:z0 w.1.size w X:=Y.trans (a8.below Y.size (fun j e=>by omega))
   have ar:=zk hv a8 (fun k D e=>jh hv hr rfl (by rw[<-e];exact D))
   rw[hX]at m
   have aj:=run_entry_at (P:=prog) X l.1.size gb b d V b e K J a5 (ud o).once
   obtain⟨aF,D,i⟩:=Z1 jJ (ud o) a5
   obtain⟨⟨k,u⟩,a9⟩:∃y,yo kR Gl e=y:=⟨_,rfl⟩
   have aA:=zd a9
   rw[a9]at D i
   have F:e.key=yD k:=D
   have i:e.val=.agg #[]:=i
   unfold yD at F
   rw[F,i]at m aj
   have aD:=za K
   obtain⟨y0,y1,A,yz⟩:=box2 X (.cells #[I O k.t,I O k.sr,I O k.wa] 146) (.cells #[I O k.t,I O k.sr,I O k.wa,I O 4,I O 0,I O 0,I G 0,I G 0] 148)
   have a0:(z++(ps.map (yo kR Gl)).map Qj).length<=1000000000:=by
    have h1:=(ud af).length_eq
    have h2:=hC.lt N
    have h3:=(ud o).count
    rw[List.length_append,List.length_map,List.length_map];omega
   have a2:=zd (xm ar A)
   have aB:=zd y1
   have r:=zd ((A.block _ aD).trans K)
   have a3:=zd ((A.block _ (za J)).trans J)
   have ac:=zd (M.trans (A.mono M.size))
   have HC:=zd hC
   have HR:=zd hr
   have aw:=zd M.size
   clear hv Y Q hC hr K J a8 M ar ap an hX S N a5 aF D F i a9 y0 y1 A
   generalize av:z++(ps.map (yo kR Gl)).map Qj=zs at*
   have aC:=zd av
   clear av
   go_wp2_with(first
    |(at_builtin;refine zhL rfl _ _ rfl w.1.size _ zs (Qj (k,u)) rfl (ud a2) (X.1.size+1) rfl (ud aB) a0 (by have:=ud aw;rw[yz];omega) ?_;intro g cap W a1 B aI;have HO:=zd a1;have HG:=zd B;clear a1 B)
    |fail)
   go_roundw
   case rel=>
    have Z:=ud HG
    have hv:=ud a2
    refine⟨d.push e.born,b,ps++[e],(Z.block _ (za (ud r)) (fun e=>jh hv (ud r) rfl e.symm)).trans (ud r),C _,(Z.block _ (za (ud a3)) (fun e=>jh hv (ud a3) rfl e.symm)).trans (ud a3),(ud HC).step (ud ad),?_,(ud ac).grown Z (ud ac).size (fun q hq=>(World.ownsRow.lt hv q hq).1)⟩
    have e:z++((ps++[e]).map (yo kR Gl)).map Qj=zs++[Qj (k,u)]:=by
     rw[List.map_append,List.map_append,<-List.append_assoc,ud aC,List.map_singleton,List.map_singleton,ud aA]
    rw[e]
    have h:=ud HO
    unfold vu at h ⊢
    rw[List.length_append,List.length_singleton]at h ⊢
    exact h
   case measure=>
    have Z:=ud HG
    rw[xg ((Z.block _ (za (ud r)) (fun e=>jh (ud a2) (ud r) rfl e.symm)).trans (ud r)),xg (ud HR)];exact qC (ud ad)
end Go.Proofs.YtndhpgciopcncaaGreatDoor
