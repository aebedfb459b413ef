import Derived.Test.YtndhpgciopcncaaGreatDoorPCmp0
import Derived.Deep.RegionHeld3
import Derived.Lib.AppendIntMem
import Derived.Lib.ItoaLen
import Derived.Lib.Slices
import Derived.Lib.Hide
import Derived.Laws.IdiomStrings
import Derived.OwnWalk
import Derived.WalkKit
import Derived.BigCall
import Derived.Maps.OwnIn
import Derived.OwnWalkIn
import Derived.Sort.Statements
open Option renaming some → E
open Go renaming World → G
open Nat renaming le_refl → T
open Go.Value renaming int → C
open Go.IntKind renaming i32 → z0
open Go renaming Value → z1
open Go.RowKit.Below renaming refl → z9
open Nat renaming lt_of_lt_of_le → za
open Go.RowKit renaming Below → zb
open Option renaming none → zf
open List renaming mem_cons → zl
open Nat renaming le_of_lt → zz
set_option linter.unusedVariables false
set_option maxRecDepth 100000
set_option maxHeartbeats 8000000
open Go.Proofs.Tryz
namespace Go.Proofs.YtndhpgciopcncaaGreatDoor
open Go.ChangeMaps (setBlock)
open Go.RowKit Go.Maps Go.Shelf
def xv(zs:List Cl):Cl:=⟨vy (zs.map (·.cnt)),vy (zs.map (·.sum)),((qQ Kg zs).getD qt).mn,((qQ Kh zs).getD qt).mx⟩
section
variable {b cap:Nat} {ad:Option Addr} {zs:List Cl} {Y:G}
theorem Yp(a:zs≠[]->ad=E (U b 0))(e:zs.length<=1000)(c:b<Y.1.size)(d:CAt Y b zs):SeqStopsK Fence.wide 6 prog 238 #[(O Y.1.size)] (fun x:Cl=>#[.agg #[I x.cnt,I x.sum,C z0 x.mn,C z0 x.mx]]) (zb (Y.alloc (.cells #[.slice ad zs.length cap] 208)).1.size) (fun xs=>xs=zs) (fun _=>True) zs.length (Y.alloc (.cells #[.slice ad zs.length cap] 208)):=
 Ja 6 (by omega) Y.1.size _ b cap ad zs a e (by simp;omega) _ (T _) (by simp) (by rw[xH (zp _ _)];rfl) (d.below ((z9 _ _).alloc (T _) _) c)
theorem YA{w':G}{o:Obj}(h:zb (Y.alloc o).1.size (Y.alloc o) w'):zb Y.1.size Y w':=((z9 _ _).alloc (T _) o).trans (h.mono (by simp))
theorem zmf(V:Int)(a:vy (zs.map (·.cnt))=V)(c:zs≠[]->ad=E (U b 0))(g:zs.length<=1000)(d:b<Y.1.size)(f:CAt Y b zs):Calls prog 190 #[.func (.func 238) #[] #[(O Y.1.size)],.func (.func 191) #[] #[]] (Y.alloc (.cells #[.slice ad zs.length cap] 208)) (Rz Y (I V)):=by
 refine(zow _ _ XI (·.cnt) _ (kK _) (fun x W _=>zid x W) (Yp c g d f)).mono ?_
 rintro e w' ⟨xs,rfl,rfl,h⟩
 exact⟨by rw[a],YA h⟩
theorem zmg(V:Int)(a:vy (zs.map (·.sum))=V)(c:zs≠[]->ad=E (U b 0))(g:zs.length<=1000)(d:b<Y.1.size)(f:CAt Y b zs):Calls prog 192 #[.func (.func 238) #[] #[(O Y.1.size)],.func (.func 193) #[] #[]] (Y.alloc (.cells #[.slice ad zs.length cap] 208)) (Rz Y (I V)):=by
 refine(zox _ _ XI (·.sum) _ (kK _) (fun x W _=>zie x W) (Yp c g d f)).mono ?_
 rintro e w' ⟨xs,rfl,rfl,h⟩
 exact⟨by rw[a],YA h⟩
theorem zio(f:Cl)(s:Bool)(g:(qQ Kg zs).getD qt=f)(i:(qQ Kg zs).isSome=s)(a:zs≠[]->ad=E (U b 0))(j:zs.length<=1000)(c:b<Y.1.size)(d:CAt Y b zs):Calls prog 185 #[.func (.func 238) #[] #[(O Y.1.size)],.func (.func 187) #[] #[]] (Y.alloc (.cells #[.slice ad zs.length cap] 208)) (Rz Y (.tuple #[.agg #[I f.cnt,I f.sum,C z0 f.mn,C z0 f.mx],.bool s])):=by
 refine(zfb _ _ XI _ (kK _) (Yp a j c d)).mono ?_
 rintro e w' ⟨xs,rfl,rfl,h⟩
 exact⟨by rw[g,i];rfl,YA h⟩
theorem zaK(f:Cl)(s:Bool)(g:(qQ Kh zs).getD qt=f)(i:(qQ Kh zs).isSome=s)(a:zs≠[]->ad=E (U b 0))(j:zs.length<=1000)(c:b<Y.1.size)(d:CAt Y b zs):Calls prog 185 #[.func (.func 238) #[] #[(O Y.1.size)],.func (.func 189) #[] #[]] (Y.alloc (.cells #[.slice ad zs.length cap] 208)) (Rz Y (.tuple #[.agg #[I f.cnt,I f.sum,C z0 f.mn,C z0 f.mx],.bool s])):=by
 refine(zfc _ _ XI _ (kK _) (Yp a j c d)).mono ?_
 rintro e w' ⟨xs,rfl,rfl,h⟩
 exact⟨by rw[g,i];rfl,YA h⟩
end
theorem Jo(ad:Option Addr)(b cap:Nat)(zs:List Cl)(ha:zs≠[]->ad=E (U b 0))(hz:zs.length<=1000)(w:G)(t:b<w.1.size)(q:CAt w b zs):
  Calls prog 123 #[.slice ad zs.length cap] w (Rz w (clV (xv zs))):=by
 obtain⟨c,N⟩:∃f,(qQ Kg zs).getD qt=f:=⟨_,rfl⟩
 obtain⟨s1,a9⟩:∃f,(qQ Kg zs).isSome=f:=⟨_,rfl⟩
 obtain⟨a,P⟩:∃f,(qQ Kh zs).getD qt=f:=⟨_,rfl⟩
 obtain⟨s2,aa⟩:∃f,(qQ Kh zs).isSome=f:=⟨_,rfl⟩
 obtain⟨R,x⟩:∃f,vy (zs.map (·.cnt))=f:=⟨_,rfl⟩
 obtain⟨v2,y⟩:∃f,vy (zs.map (·.sum))=f:=⟨_,rfl⟩
 have hj:clV (xv zs)=.agg #[I R,I v2,C z0 c.mn,C z0 a.mx]:=by unfold xv clV;rw[N,P,x,y]
 rw[hj]
 clear hj
 have aF:=ze x
 have aG:=ze y
 have K:zb w.1.size w (w.alloc Qd):=(z9 _ _).alloc (T _) _
 have a6:=zp w Qd
 have ac:=zN w Qd
 have J:=fun Y=>ze (zcl ad zs.length cap Y)
 have ar:=fun(Y:G) (t:b<Y.1.size) (q:CAt Y b zs)=>ze (zio (cap:=cap) (Y:=Y) c s1 N a9 ha hz t q)
 have al:=fun(Y:G) (t:b<Y.1.size) (q:CAt Y b zs)=>ze (zaK (cap:=cap) (Y:=Y) a s2 P aa ha hz t q)
 have au:=fun(Y:G) (t:b<Y.1.size) (q:CAt Y b zs)=>ze (zmf (cap:=cap) (Y:=Y) R x ha hz t q)
 have V:=fun(Y:G) (t:b<Y.1.size) (q:CAt Y b zs)=>ze (zmg (cap:=cap) (Y:=Y) v2 y ha hz t q)
 clear N a9 P aa x y hz ha
 go_enter func123,ntmps123
 go_wp2_with fail
 have L:=q.below K t
 generalize(w.alloc Qd)=X0 at*
 have a2:b<X0.1.size:=by omega
 have ay:w.1.size<X0.1.size:=by omega
 have aH:=ze ac
 clear ac
 have W:=J X0
 refine(ud W).mono ?_
 rintro e x1 ⟨rfl,rfl⟩
 go_wp2_with fail
 have an:=ar X0 a2 L
 refine(ud an).mono ?_
 rintro e i ⟨rfl,a0⟩
 have H:=ze a0
 clear a0
 go_wp2_with fail
 have o:=(ud H).alloc (ud H).size (.cells #[I c.cnt,I c.sum,C z0 c.mn,C z0 c.mx] 115)
 have a7:=zp i (.cells #[I c.cnt,I c.sum,C z0 c.mn,C z0 c.mx] 115)
 have ai:=zN i (.cells #[I c.cnt,I c.sum,C z0 c.mn,C z0 c.mx] 115)
 have M:=L.below o (by omega)
 generalize(i.alloc (.cells #[I c.cnt,I c.sum,C z0 c.mn,C z0 c.mx] 115))=Z at*
 have aC:=o.size
 have a3:b<Z.1.size:=by omega
 have az:w.1.size<Z.1.size:=by omega
 have aL:i.1.size<Z.1.size:=by omega
 have aI:=ze ai
 clear ai
 have X:=J Z
 refine(ud X).mono ?_
 rintro e x1 ⟨rfl,rfl⟩
 go_wp2_with fail
 have ao:=al Z a3 M
 refine(ud ao).mono ?_
 rintro e l ⟨rfl,a1⟩
 have r:=ze a1
 clear a1
 go_wp2_with fail
 have m:=(ud r).alloc (ud r).size (.cells #[I a.cnt,I a.sum,C z0 a.mn,C z0 a.mx] 115)
 have a8:=zp l (.cells #[I a.cnt,I a.sum,C z0 a.mn,C z0 a.mx] 115)
 have aB:=zN l (.cells #[I a.cnt,I a.sum,C z0 a.mn,C z0 a.mx] 115)
 have a5:=M.below m (by omega)
 have D:=(m.block i.1.size (by omega)).trans a7
 have k:=(m.block w.1.size (by omega)).trans ((o.block w.1.size (by omega)).trans a6)
 have ab:zb w.1.size w (l.alloc (.cells #[I a.cnt,I a.sum,C z0 a.mn,C z0 a.mx] 115)):=K.trans ((o.mono (zz ay)).trans (m.mono (zz az)))
 have aD:=m.size
 have aE:=(ud r).size
 generalize(l.alloc (.cells #[I a.cnt,I a.sum,C z0 a.mn,C z0 a.mx] 115))=z at*
 obtain⟨-,-,l1,-⟩:=zc D
 obtain⟨-,-,-,l2,-⟩:=zc a8
 obtain⟨r0,r1,r2,r3,-⟩:=zc k
 have rf:=fun j=>zv k j
 have am:=ze k
 have av:=ze ab
 have ae:i.1.size<z.1.size:=by omega
 have af:l.1.size<z.1.size:=by omega
 have Q:w.1.size<z.1.size:=by omega
 have hbb:b<z.1.size:=by omega
 clear a6 a7 D a8 k o m ab M L q aC aD aE aB K
 have aw:¬i.1.size=w.1.size:=by have:=(ud H).size;omega
 have ax:¬l.1.size=w.1.size:=by have:=(ud r).size;omega
 have aJ:¬w.1.size=i.1.size:=fun h=>aw h.symm
 have aK:¬w.1.size=l.1.size:=fun h=>ax h.symm
 have S:Hid (Calls prog 190 #[.func (.func 238) #[] #[(O z.1.size)],.func (.func 191) #[] #[]] (z.alloc (.cells #[.slice ad zs.length cap] 208)).drew (Rz z (I R))):=ze ((ud (au z.drew hbb a5)).mono fun e w' h=>⟨h.1,⟨h.2.os,h.2.tape,h.2.output,h.2.size,h.2.block⟩⟩)
 go_region_held3 (fun w'=>w'.cell? (U i.1.size 2)=E (C z0 c.mn)/\w'.cell? (U l.1.size 3)=E (C z0 a.mx)) (go_keep) (first
  |(go_at_call 186;refine(ud (J _)).mono ?_;rintro e x1 ⟨rfl,rfl⟩)
  |(go_at_call 190;refine(ud S).mono ?_;rintro e s ⟨rfl,d⟩;have m1:Cz s i.1.size 2 (C z0 c.mn):=(d.cell (p:=(U i.1.size 2)) ae).trans l1;have m2:Cz s l.1.size 3 (C z0 a.mx):=(d.cell (p:=(U l.1.size 3)) af).trans l2;have A:b<s.1.size:=za hbb d.size;have a4:CAt s b zs:=a5.below d hbb;have ag:i.1.size<s.1.size:=za ae d.size;have ah:l.1.size<s.1.size:=za af d.size;have F:w.1.size<s.1.size:=za Q d.size;have ap:=ze ((d.block w.1.size Q).trans (ud am));have aj:=ze d;clear d)
  |(go_at_call 192;(first|refine(ud (V s A a4)).mono ?_|refine(ud (V s.drew A a4)).mono ?_);rintro e X4 ⟨rfl,n⟩;have n1:Cz X4 i.1.size 2 (C z0 c.mn):=(n.cell (p:=(U i.1.size 2)) ag).trans m1;have n2:Cz X4 l.1.size 3 (C z0 a.mx):=(n.cell (p:=(U l.1.size 3)) ah).trans m2;have u:=(n.block w.1.size F).trans (ud ap);obtain⟨q0,q1,q2,q3,-⟩:=zc u;have qf:=fun j=>zv u j;have aq:=ze u;have ak:=ze n;clear u n))
 go_wp2_with fail
 have hf:=Vd (ud aq) (I R) (I v2) (C z0 c.mn) (C z0 a.mx)
 have aA:=(ud av).trans (((ud aj).mono (zz Q)).trans (((ud ak).mono (zz F)).trans (below4 (w:=X4) (B:=w.1.size) (g:=w.1.size) (T _) (I R) (I v2) (C z0 c.mn) (C z0 a.mx))))
 refine bodyPost_ret (v:=.agg #[I R,I v2,C z0 c.mn,C z0 a.mx]) (results_cell_row results123 _ _ w.1.size _ _ _ _ rfl hf underlying115 rfl (by kernel_rfl)) rfl ?_
 exact⟨rfl,aA⟩
def ko(v:Int):Cl:=⟨1,v,v,v⟩
def Cl.small(x:Cl):Prop:=0<=x.cnt/\x.cnt<=1000000000000/\ -1000000000000000000<=x.sum/\x.sum<=1000000000000000000
theorem zlc(v:Int)(hv: -2147483648<=v/\v<=2147483647):xv [ko v]=qM v zf:=by
 unfold xv
 have a:vy ([ko v].map (·.cnt))=1:=by rw[kV]<;>simp[qw,ko]
 have b:vy ([ko v].map (·.sum))=v:=by rw[kV]<;>simp[qw,ko];omega
 rw[a,b]
 simp[qQ,vS,ko,qM]
theorem zht(a b:Int):zeS a b<0↔a<b:=by
 unfold zeS;split
 ·simp[*]
 ·split<;>simp[*]
theorem zld(v:Int)(hv: -2147483648<=v/\v<=2147483647)(o:Cl)(e:o.small):xv [ko v,o]=qM v (E o):=by
 obtain⟨f,g,h,i⟩:=e
 unfold xv
 have c:vy ([ko v,o].map (·.cnt))=1+o.cnt:=by rw[kV]<;>simp[qw,ko];omega
 have d:vy ([ko v,o].map (·.sum))=v+o.sum:=by rw[kV]<;>simp[qw,ko];omega
 rw[c,d]
 have a:((qQ Kg [ko v,o]).getD qt).mn=if o.mn<v then o.mn else v:=by
  simp only[qQ,List.foldl_cons,List.foldl_nil,vS,Kg,zht,ko]
  split<;>simp
 have b:((qQ Kh [ko v,o]).getD qt).mx=if v<o.mx then o.mx else v:=by
  simp only[qQ,List.foldl_cons,List.foldl_nil,vS,Kh,zht,ko]
  split<;>simp
 rw[a,b];rfl
theorem zly(L:LV)(s:Sg)(v:SV):(qT L s v).length<=L.length+1:=by unfold qT;split<;>simp
def zos(L:LV):Prop:=∀p∈L,p.2.st≠0
theorem zlo{L:LV}(h:zos L)(s:Sg):(stL L s).st=0↔s∉zn L:=by
 constructor
 ·intro a b
  obtain⟨v,hv,c⟩:=Ql b
  unfold stL at a;rw[hv]at a;exact h _ c a
 ·intro b;unfold stL;rw[qR.2 b];rfl
theorem Yt{w:G}{base g size n:Nat}{e:TypeId}{xs:List z1}(h:w.1[g]?=E (.cells xs.toArray e (0,0)))(a:xs.length=n*size)(hn:0<n)(c:n<=maxLen)(b:base<=g):w.ownsRow base e size (.slice (E (U g 0)) n n) n xs:=
 ⟨a,.inr ⟨g,n,_,rfl,b,h,⟨T _,c,by simp[a],by
  show List.take (n*size) xs=xs
  exact List.take_of_length_le (by omega)⟩⟩⟩
def Z5(x:Cl):List z1:=[I x.cnt,I x.sum,C z0 x.mn,C z0 x.mx]
theorem CAt.of_owns{w:G}{base g cap:Nat}{e:TypeId}{zs:List Cl}(h:w.ownsRow base e 4 (.slice (E (U g 0)) zs.length cap) zs.length (zs.flatMap Z5)):CAt w g zs:=fun j x b=>by
 have d:j<zs.length:=(List.getElem?_eq_some_iff.1 b).1
 have a:=fun i c=>kI (f:=Z5) (k:=4) (fun _=>rfl) zs j x i b c
 refine⟨?_,?_,?_,?_⟩
 ·rw[h.cellAt (j*4) (by omega)];exact a 0 (by omega)
 ·rw[h.cellAt (j*4+1) (by omega)];exact a 1 (by omega)
 ·rw[h.cellAt (j*4+2) (by omega)];exact a 2 (by omega)
 ·rw[h.cellAt (j*4+3) (by omega)];exact a 3 (by omega)
theorem zgk{X:G}{s lb gb:Nat}{c:Cf}{tv:z1}{Gl:List (Sg×Unit)}{L:LV}(h:xE X s c tv lb gb Gl L)(b:L.length<maxLen){k:Sg}(d:k.wf)(v:SV):
  ∃o,(Instr.mapUpdate 152 (.map (E lb)) (.agg #[I k.t,I k.sr,I k.wn]) (.agg #[I k.t,I k.sr,I k.wn,I v.st,I v.cl.cnt,I v.cl.sum,C z0 v.cl.mn,C z0 v.cl.mx])).run prog X=.ok () (setBlock X lb o)/\xE (setBlock X lb o) s c tv lb gb Gl (qT L k v)/\zh (fun k=>k=lb) X (setBlock X lb o)/\o.isCells=false:=by
 obtain⟨o,l,m,g,n⟩:=zbD h.live b d v
 have a:∀{k:Nat} {cs:Array z1} {t:TypeId} {j:Nat×Nat},X.1[k]?=E (.cells cs t j)->¬k=lb:=fun d e=>by
  obtain⟨r,q,p,_⟩:=h.live;rw[e,p]at d;cases d
 refine⟨o,l,⟨g.heap h.head (a h.head),zi h.trow g (fun k d=>?_),m,h.gone.kept g h.apart,h.apart⟩,g,n⟩
 obtain⟨i,f⟩:=zH h.trow d
 exact a f
theorem ZW{w X:G}{lb:Nat}{L:LV}{s:Sg}(b:yA w lb L)(a:zb w.1.size w X)(c:s.wf):(Instr.lookup 152 (.map (E lb)) (.agg #[I s.t,I s.sr,I s.wn]) true).run prog X=.ok (.tuple #[.agg #[I (stX L s).1.t,I (stX L s).1.sr,I (stX L s).1.wn,I (stX L s).2.st,I (stX L s).2.cl.cnt,I (stX L s).2.cl.sum,C z0 (stX L s).2.cl.mn,C z0 (stX L s).2.cl.mx],.bool (yY L s).isSome]) X:=by
 have:=zel true (b.later a) c
 have e:zcD true (kN zX) L s=.tuple #[kN (stX L s),.bool (yY L s).isSome]:=by
  unfold zcD stX;cases yY L s<;>rfl
 rw[e]at this
 exact this
theorem Tryz.infoCell:(prog.info? 115).map (fun i=>(i.zero,i.size,i.bytes))=E (E (.agg #[I 0,I 0,C z0 0,C z0 0]),4,24):=by kernel_rfl
theorem ziS{w:G}{ops:Array Oper}{rest:List Oper}{o:Oper}{a:Act}{Q:Exit->Act->G->Prop}(e:o.guard=zf)(s x:Operand)
  (n:o.op=.call {callee:=.builtin .append,args:=#[s,x],argTypes:=#[208,208]}) (base:Nat) (v:z1) (l:List Cl) (f:Cl) (p:a.eval s=v) (b:w.ownsRow base 115 4 v l.length (l.flatMap Z5))
  (c:Nat) (q:a.eval x=.slice (E (U c 0)) 1 1) (d:w.1[c]?=E (.cells #[I f.cnt,I f.sum,C z0 f.mn,C z0 f.mx] 115 (0,0))) (r:l.length<=1000000000) (hbase:base<=w.1.size)
  (h:∀g cap w',w'.ownsRow base 115 4 (.slice (E (U g 0)) (l.length+1) cap) (l++[f]).length ((l++[f]).flatMap Z5)->w.grownBy w' v.ownBlock->g<w'.1.size->wpList prog ops Q rest (a.put o.dst (.slice (E (U g 0)) (l.length+1) cap)) w'):wpList prog ops Q (o::rest) a w:=
 xM e s x 208 n base 115 _ 4 24 underlying208 Tryz.infoCell rfl (by decide) v l.length (l.flatMap Z5) p b (U c 0) 1 1 [I f.cnt,I f.sum,C z0 f.mn,C z0 f.mx] q rfl
  (World.news_of_block (cs:=#[I f.cnt,I f.sum,C z0 f.mn,C z0 f.mx]) d) (by intro u i;simp at i;rcases i with rfl|rfl|rfl|rfl<;>rfl) (by decide) (by simp only[maxLen];omega) (by omega) hbase
  fun g cap w' j _ k _ m=>h g cap w' (by rw[zaE,List.length_append,List.length_singleton];exact j) k m
theorem zM{f:Nat->Prop}{A B:G}(h:zh f A B){k i:Nat}(hn:¬f k)(a:k<A.1.size):B.cell? (U k i)=A.cell? (U k i):=by
 simp only[World.cell?,h.block k a hn]
def jm(q:List (Sg×Unit)×LV)(x:SX):List (Sg×Unit)×LV:=if x.2.st=4 then(xZ q.1 x.1 (),xa q.2 x.1)else(q.1,qT q.2 x.1 x.2)
def qh(q:List (Sg×Unit)×LV)(xs:List SX):List (Sg×Unit)×LV:=xs.foldl jm q
theorem jn(q:List (Sg×Unit)×LV)(xs:List SX)(x:SX):qh q (xs++[x])=jm (qh q xs) x:=by simp[qh]
def zmK(c:Cf)(L:LV)(x:Nm):SX:=(xm c x,⟨1,qM x.val ((yY L (xm c x)).map (·.cl))⟩)
def Qu(c:Cf)(Gl:List (Sg×Unit))(L:LV)(x:Nm)(k:Nat):List SX:=((xX c x.sr x.tm k).filter (fun s=>(stG Gl L s).st==0)).map (fun s=>(s,(⟨2,qt⟩:SV)))
def yB(c:Cf)(Gl:List (Sg×Unit))(L:LV)(x:Nm):List SX:=zmK c L x::Qu c Gl L x c.n
theorem Qq(c:Cf)(x:Nm):∀(k:Nat) (L:LV) (s:Sg),s∈zn (kw c x k L)↔s∈zn L\/∃j:Nat,j<k/\s=zF c (j:Int) x
 |0,L,s=>by simp[kw]
 |k+1,L,s=>by
  have f:=Qq c x k L
  show s∈zn (qd c x k (kw c x k L))↔_
  unfold qd
  by_cases d:zF c (k:Int) x∈zn (kw c x k L)
  ·rw[if_pos d,f]
   constructor
   ·rintro(h|⟨j,b,e⟩)
    ·exact .inl h
    ·exact .inr ⟨j,by omega,e⟩
   ·rintro(h|⟨j,b,e⟩)
    ·exact .inl h
    ·by_cases a:j=k
     ·subst a;subst e;exact(f _).1 d
     ·exact .inr ⟨j,by omega,e⟩
  ·rw[if_neg d,xJ,f]
   constructor
   ·rintro((h|⟨j,b,e⟩)|e)
    ·exact .inl h
    ·exact .inr ⟨j,by omega,e⟩
    ·exact .inr ⟨k,by omega,e⟩
   ·rintro(h|⟨j,b,e⟩)
    ·exact .inl (.inl h)
    ·by_cases a:j=k
     ·subst a;exact .inr e
     ·exact .inl (.inr ⟨j,by omega,e⟩)
theorem zbt{c:Cf}{Gl:List (Sg×Unit)}{L:LV}{x:Nm}(d:zos L)(b:∀k:Nat,k<c.n->zD Gl (zF c (k:Int) x)=zf):∀k:Nat,k<=c.n->qh (Gl,qN c L x) (Qu c Gl L x k)=(Gl,kw c x k (qN c L x))
 |0,_=>rfl
 |k+1,o=>by
  have i:=zbt d b k (by omega)
  have l:qm c x.sr x.tm k=zF c (k:Int) x:=rfl
  have g:(stG Gl L (zF c (k:Int) x)).st=0↔zF c (k:Int) x∉zn L:=by unfold stG;rw[b k (by omega)];exact zlo d _
  have a:zF c (k:Int) x∈zn (kw c x k (qN c L x))↔zF c (k:Int) x∈zn L:=by
   rw[Qq]
   unfold qN
   rw[xJ]
   constructor
   ·rintro((h|h)|⟨j,m,e⟩)
    ·exact h
    ·exact absurd h (zjk (by omega))
    ·exact absurd e (zjk (by omega))
   ·exact fun h=> .inl (.inl h)
  have e:Qu c Gl L x (k+1)=Qu c Gl L x k++(if zF c (k:Int) x∈zn L then[]else[(zF c (k:Int) x,(⟨2,qt⟩:SV))]):=by
   unfold Qu
   rw[kO,List.filter_append,List.map_append,l]
   congr 1
   by_cases h:zF c (k:Int) x∈zn L
   ·rw[if_pos h,List.filter_cons,if_neg (by simpa using fun f=>g.1 f h)];rfl
   ·rw[if_neg h,List.filter_cons,if_pos (by simpa using g.2 h)];rfl
  rw[e]
  show _=(Gl,qd c x k (kw c x k (qN c L x)))
  unfold qd
  by_cases h:zF c (k:Int) x∈zn L
  ·rw[if_pos h,if_pos (a.2 h),List.append_nil,i]
  ·rw[if_neg h,if_neg (fun f=>h (a.1 f)),jn,i]
   rfl
theorem zfK{c:Cf}{Gl:List (Sg×Unit)}{L:LV}{x:Nm}(b:zos L)(a:∀k:Nat,k<c.n->zD Gl (zF c (k:Int) x)=zf):qh (Gl,L) (yB c Gl L x)=(Gl,yu c L x):=by
 have h:=zbt b a c.n (T _)
 unfold yu
 rw[<-h];rfl
theorem zoe{w:G}{base:Nat}{e:TypeId}{size:Nat}{v:z1}{n:Nat}{xs:List z1}(h:w.ownsRow base e size v n xs):∀k,v.ownBlock=E k->base<=k:=fun k a=>by
 rcases h.2 with⟨rfl,_⟩|⟨g,cap,b,rfl,c,_⟩
 ·simp[Value.ownBlock]at a
 ·simp[Value.ownBlock]at a;subst a;exact c
def qK(L:LV)(f sr a:Int)(j:Nat):List Cl:=(List.range j).filterMap (fun i:Nat=>(yY L ⟨f,sr,a+i⟩).map (·.cl))
theorem KC(L:LV)(f sr a:Int)(j:Nat):qK L f sr a (j+1)=qK L f sr a j++(match yY L ⟨f,sr,a+j⟩with|some v=>[v.cl]|none=>[]):=by
 unfold qK
 rw[List.range_succ,List.filterMap_append]
 congr 1
 cases h:yY L ⟨f,sr,a+j⟩<;>simp[h]
theorem VW(L:LV)(f sr a:Int)(j:Nat):(qK L f sr a j).length<=j:=by
 have:=List.length_filterMap_le (fun i:Nat=>(yY L ⟨f,sr,a+i⟩).map (·.cl)) (List.range j)
 simpa[qK]using this
def xo(c:Cf)(L:LV)(sr wn:Int)(k:Nat):List Cl:=qK L (c.F k) sr (wn*qa c k) (qa c k).toNat
theorem zgo{w:G}{s:Nat}{c:Cf}{tv:z1}{lb gb:Nat}{Gl:List (Sg×Unit)}{L:LV}(h:xE w s c tv lb gb Gl L)(hc:c.ok)(k:Nat)(hk:k<c.n)(sr wn:Int)(ae:xg sr)(a3:0<=wn/\wn<=100000):
  Calls prog 171 #[(O s),.agg #[I k,I sr,I wn]] w fun e w'=>∃ad g cap,e=.returned (.slice ad (xo c L sr wn k).length cap)/\(xo c L sr wn k≠[]->ad=E (U g 0))/\g<w'.1.size/\CAt w' g (xo c L sr wn k)/\zb w.1.size w w':=by
 obtain⟨a,cap,rfl⟩:=zS h.trow
 have i:=h.lt
 have af:=TS.of_owns h.trow
 obtain⟨c0,c1,c2,c3,c4,c5,c6,c7,-⟩:=h.cells
 obtain⟨ab,ax⟩:=Xl hc hk
 obtain⟨f1,f2⟩:=hc.F k hk
 have aK:=hc.n4
 have aM:0<=wn*qa c k/\wn*qa c k<=100000000:=⟨Int.mul_nonneg a3.1 ab,by have:=Int.mul_le_mul a3.2 ax ab (by omega);omega⟩
 have ac:(wn+1)*qa c k=wn*qa c k+qa c k:=by rw[Int.add_mul,Int.one_mul]
 have J:∀j:Nat,j<=(qa c k).toNat->(qK L (c.F k) sr (wn*qa c k) j).length<=1000:=fun j hj=>by have:=VW L (c.F k) sr (wn*qa c k) j;omega
 have R:=fun W hW=>ze (zfm c hc a cap k hk wn a3 W (af.below (w':=W) hW))
 rw[show xo c L sr wn k=qK L (c.F k) sr (wn*qa c k) (qa c k).toNat from rfl]
 simp only[ac]at R
 generalize wn*qa c k=A at*
 generalize qa c k=M at*
 have a4:=ze J
 clear J ac
 have d:zb w.1.size w (w.alloc (.cells #[I k,I sr,I wn] 146)):=(z9 _ _).alloc (T _) _
 have q0:=zp w (.cells #[I k,I sr,I wn] 146)
 have qz:=zN w (.cells #[I k,I sr,I wn] 146)
 obtain⟨k0,k1,k2,-⟩:=zc q0
 have d0:=(d.cell (p:=(U s 0)) i).trans c0
 have d1:=(d.cell (p:=(U s 1)) i).trans c1
 have d2:=(d.cell (p:=(U s 2)) i).trans c2
 have d3:=(d.cell (p:=(U s 3)) i).trans c3
 have d4:=(d.cell (p:=(U s 4)) i).trans c4
 have d5:=(d.cell (p:=(U s 5)) i).trans c5
 have d6:=(d.cell (p:=(U s 6)) i).trans c6
 have Q:=ze d
 have H:=ze h
 have Q0:=ze q0
 have BZ:=ze qz
 clear h af d q0 c0 c1 c2 c3 c4 c5 c6
 go_enter func171,ntmps171
 go_wp2_with fail
 have q1:w.1.size<w.1.size+1:=by omega
 have q2:s<w.1.size+1:=by omega
 generalize(w.alloc (.cells #[I k,I sr,I wn] 146))=X at*
 generalize hN:w.1.size+1=N at*
 have ay:Nonempty (xc N X):=xc.some _ _
 have av:=fun(u:xc N X) b o h=>u.cell b o h
 have a7:N<=X.1.size:=by rw[ud BZ];exact T _
 have a5:=ze a7
 have S:Hid (w.1.size<=N):=by show w.1.size<=N;omega
 have HN:=ze hN
 clear a7 hN
 refine zx N (by kernel_rfl) (by kernel_rfl) ?_
 repeat(go_big_quiet_step (first
  |(go_at_call 232;exact Calls.later (ud a5) (ud (R _ ((ud Q).trans (Below.mono (Subtype.property _) (ud S))))))))
 refine wpQuiet_nil ?_
 rintro⟨w1,V⟩
 clear av ay
 dsimp only
 go_wp2_with fail
 have r:zb w.1.size w w1:=(ud Q).trans (V.mono (ud S))
 have a1:w1.1[w.1.size]?=E (.cells #[I k,I sr,I wn] 146 (0,0)):=(V.block _ (by have:=ud HN;omega)).trans (ud Q0)
 have ai:=zd a1
 have a6:=ze ((ud H).later r)
 have HQ:=ze a1
 have D:=ze r
 have a0:=((ud a6).foot_lt)
 have aG:=ze a0
 have au:lb<w1.1.size:=a0 lb (.inr (.inr (.inl rfl)))
 clear a1 r a0 V Q R a5 S HN BZ Q0 k0 k1 k2 d0 d1 d2 d3 d4 d5 d6 q1 q2 c7
 go_loopw [5,9,10,11] (fun cv wv _ _ wr=>∃j:Nat,j<=M.toNat/\wv=I (A+j)/\wr.ownsRow w1.1.size 115 4 cv (qK L (c.F k) sr A j).length ((qK L (c.F k) sr A j).flatMap Z5)/\zb w1.1.size w1 wr)
  (fun _ wv _ _ _=>(A+M-intOf wv).toNat)
 case atStart=>exact⟨0,Nat.zero_le _,by simp,World.ownsRow_nil _ _ _ _,z9 _ _⟩
 case round=>
  obtain⟨j,hj,rfl,hv,hb⟩:=hrel
  obtain⟨ad,cp,ag⟩:=zS hv
  have aI:=ud a4 j hj
  by_cases aJ:j<M.toNat
  ·have aC:A+j<A+M:=by omega
   have f:=(ud a6).later hb
   obtain⟨-,-,-,-,-,-,-,x7,-⟩:=f.cells
   have aF:=f.lt
   have a2:=(hb.block _ ai).trans (ud HQ)
   obtain⟨-,y1,-⟩:=zc a2
   have aE:=zd a2
   have m:(⟨c.F k,sr,A+j⟩:Sg).wf:=⟨by unfold xg;dsimp only;omega,ae,by unfold xg;dsimp only;omega⟩
   obtain⟨l,B⟩:∃l,stX L ⟨c.F k,sr,A+j⟩=l:=⟨_,rfl⟩
   obtain⟨ok,z⟩:∃ok,(yY L ⟨c.F k,sr,A+j⟩).isSome=ok:=⟨_,rfl⟩
   have g0:=ZW (X:=wr) f.live (z9 _ _) m
   have g1:=ZW (X:=wr.drew) f.live (z9 _ _).drew m
   have g2:=fun o=>ZW (X:=wr.alloc o) f.live ((z9 _ _).alloc (T _) o) m
   have g3:=fun o=>ZW (X:=(wr.alloc o).drew) f.live ((z9 _ _).alloc (T _) o).drew m
   have g4:=fun o=>ZW (X:=wr.drew.alloc o) f.live ((z9 _ _).drew.alloc (T _) o) m
   rw[B,z]at g0 g1
   simp only[B,z]at g2 g3 g4
   have HV:=ze hv
   have HB:=ze hb
   have aq:=ze B
   have ao:=ze z
   subst ag
   clear hv hb f a2 m B z
   go_wp2_with fail
   go_region
   have a8:zb wr.1.size wr ((wr.alloc (.cells (xZz l) 148)).drew):=((z9 _ _).alloc (T _) _).drew
   have aa:((wr.alloc (.cells (xZz l) 148)).drew).1[wr.1.size]?=E (.cells (xZz l) 148):=zp _ _
   have al:((wr.alloc (.cells (xZz l) 148)).drew).1.size=wr.1.size+1:=zN _ _
   generalize((wr.alloc (.cells (xZz l) 148)).drew)=Y at*
   have y:=ze a8
   have an:=ze aa
   have ar:=ze al
   clear g0 g1 g2 g3 g4 x7 y1 a8 aa al
   have hg:qK L (c.F k) sr A (j+1)=qK L (c.F k) sr A j++(if ok then[l.2.cl]else[]):=by
    rw[KC]
    have h1:=ud ao
    have h2:=ud aq
    unfold stX at h2
    cases a9:yY L ⟨c.F k,sr,A+j⟩with
    |none=>rw[a9]at h1;simp at h1;subst h1;simp
    |some v=>rw[a9]at h1 h2;simp at h1;subst h1;subst h2;simp
   have ah:=(ud HB).size
   cases ok with
   |false=>
    have HG:=ze (show qK L (c.F k) sr A (j+1)=qK L (c.F k) sr A j by rw[hg];simp)
    clear hg
    go_wp2_with fail
    go_roundw
    case rel=>
     refine⟨j+1,by omega,by simp;omega,?_,(ud HB).trans ((ud y).mono ah)⟩
     rw[ud HG]
     exact zR (ud HV) (ud y)
    case measure=>simp[intOf];omega
   |true=>
    have HG:=ze (show qK L (c.F k) sr A (j+1)=qK L (c.F k) sr A j++[l.2.cl] by rw[hg];simp)
    clear hg
    obtain⟨-,-,-,-,o1,o2,o3,o4,-⟩:=zc (ud an)
    have aN:wr.1.size<Y.1.size:=by rw[ud ar];omega
    have ap:=ze (zR (ud HV) (ud y))
    go_wp2_with(first|(at_builtin;refine ziS rfl _ _ rfl w1.1.size (.slice ad (qK L (c.F k) sr A j).length cp) (qK L (c.F k) sr A j) l.2.cl rfl ((ud ap).alloc _) Y.1.size rfl (zp _ _) ?hll ?hbb ?_;(case hll=>omega);(case hbb=>(rw[zN];omega));intro g aB Z P t aD;have am:=ze t;have HO:=ze P;clear t P)|go_in)
    go_roundw
    case rel=>
     have ak:=(ud HB).trans ((ud y).mono ah)
     have aj:=ak.alloc ak.size (.cells #[I l.2.cl.cnt,I l.2.cl.sum,C z0 l.2.cl.mn,C z0 l.2.cl.mx] 115)
     refine⟨j+1,by omega,by simp;omega,?_,aj.grown (ud am) aj.size (fun q e=>?_)⟩
     ·rw[ud HG];have:=ud HO;rw[List.length_append,List.length_singleton]at this ⊢;exact this
     ·exact zoe (ud HV) q e
    case measure=>simp[intOf];omega
  ·obtain rfl:j=M.toNat:=by omega
   have aL:decide (A+(M.toNat:Int)<A+M)=false:=by simp;omega
   subst ag
   have HV:=ze hv
   have HB:=ze hb
   clear hv hb
   go_wp2_with fail
   go_ret
   have hv:=ud HV
   have hB:=(ud D).trans ((ud HB).mono (ud D).size)
   by_cases h0:0<(qK L (c.F k) sr A M.toNat).length
   ·obtain⟨g,aA,az,aH,aw⟩:=hv.form h0
    cases az
    exact⟨_,g,_,rfl,fun _=>rfl,aw,CAt.of_owns hv,hB⟩
   ·have K:qK L (c.F k) sr A M.toNat=[]:=List.eq_nil_of_length_eq_zero (by omega)
    exact⟨_,s,_,rfl,fun hh=>absurd K hh,by have:=(ud H).lt;have:=hB.size;omega,by rw[K];intro j x hx;simp at hx,hB⟩
def vB(l:List Int):List UInt8:=l.flatMap (fun n=>32::Lib.itoa n)
def Xf(st:Int):Bool:=st==1||st==3
def zke(x:SX):List Int:=[x.1.t,x.1.sr,x.1.wn,x.2.st]
def zmy(x:SX):List Int:=[x.2.cl.cnt,x.2.cl.sum,x.2.cl.mn,x.2.cl.mx]
def zkd(x:SX):List UInt8:=vB (zke x)++(if Xf x.2.st then vB (zmy x)else[])
def Xn(now:Int)(xs:List SX):List UInt8:=Lib.itoa now++xs.flatMap zkd
theorem znt(u:Nat):0<(Lib.decDigits u).length:=by
 unfold Lib.decDigits
 split<;>simp
theorem zkY(n:Int):0<(Lib.itoa n).length:=by
 unfold Lib.itoa
 split
 ·simp
 ·exact znt _
theorem zfy(l:List Int)(n:Int):vB (l++[n])=vB l++32::Lib.itoa n:=by simp[vB]
theorem Zg:∀(l:List Int),(∀n∈l,xg n)->(vB l).length<=22*l.length
 |[],_=>by simp[vB]
 |n::l,h=>by
  have b:=Zg l (fun m a=>h m (by simp[a]))
  have c:=Lib.itoa_length_le n (h n (by simp)).1 (h n (by simp)).2
  simp only[vB,List.flatMap_cons,List.length_append,List.length_cons]at*
  omega
structure okX(x:SX):Prop where
 key:x.1.wf
 st:xg x.2.st
 cnt:xg x.2.cl.cnt
 sum:xg x.2.cl.sum
 mn: -2147483648<=x.2.cl.mn/\x.2.cl.mn<=2147483647
 mx: -2147483648<=x.2.cl.mx/\x.2.cl.mx<=2147483647
theorem okX.seg{x:SX}(h:okX x):∀n∈zke x,xg n:=fun n hn=>by
 simp only[zke,zl,List.not_mem_nil,or_false]at hn
 rcases hn with rfl|rfl|rfl|rfl
 ·exact h.key.1
 ·exact h.key.2.1
 ·exact h.key.2.2
 ·exact h.st
theorem okX.cel{x:SX}(h:okX x):∀n∈zmy x,xg n:=fun n hn=>by
 have a:=h.mn
 have b:=h.mx
 simp only[zmy,zl,List.not_mem_nil,or_false]at hn
 rcases hn with rfl|rfl|rfl|rfl
 ·exact h.cnt
 ·exact h.sum
 ·unfold xg;omega
 ·unfold xg;omega
theorem zlN{x:SX}(h:okX x):(zkd x).length<=176:=by
 have c:=Zg (zke x) h.seg
 have d:=Zg (zmy x) h.cel
 have a:(zke x).length=4:=rfl
 have b:(zmy x).length=4:=rfl
 unfold zkd
 rw[List.length_append]
 split
 ·omega
 ·simp;omega
theorem zbv(now:Int)(xs:List SX)(x:SX):Xn now (xs++[x])=Xn now xs++zkd x:=by simp[Xn]
theorem zep:∀(xs:List SX),(∀x∈xs,okX x)->(xs.flatMap zkd).length<=176*xs.length
 |[],_=>by simp
 |x::xs,h=>by
  have b:=zep xs (fun y a=>h y (by simp[a]))
  have c:=zlN (h x (by simp))
  simp only[List.flatMap_cons,List.length_append,List.length_cons];omega
theorem jG{now:Int}{xs:List SX}(hn:xg now)(h:∀x∈xs,okX x):(Xn now xs).length<=21+176*xs.length:=by
 have a:=Lib.itoa_length_le now hn.1 hn.2
 have b:=zep xs h
 unfold Xn;rw[List.length_append];omega
abbrev zpO(B:Nat)(w:G):Prop:=Lib.TabBelow prog B w "internal/strconv.uint64pow10" .u64 Lib.pow10Tab
theorem zaq(B n:Nat)(i:Int)(g:xg i)(f:z1)(xs:List z1)(w:G)(b:w.ownsRow B 5 1 f n xs)(d:B<=w.1.size)(a:n+21<=140737488355328)(c:zpO B w):
  Calls prog 167 #[f,I i,I 10] w fun e w'=>∃h,e=.returned h/\w'.ownsRow B 5 1 h (n+(Lib.itoa i).length) (xs++Lib.byteCells (Lib.itoa i))/\zb B w w'/\Lib.OthersKept 5 zf w w':=
 Any.strconv_AppendInt_10 Tryz.layAI B n i g.1 g.2 f xs w b d a c
theorem Tryz.infoByte:(prog.info? 5).map (fun i=>(i.zero,i.size,i.bytes))=E (E (.int .u8 0),1,1):=by kernel_rfl
def zaf(w:G)(B:Nat)(v:z1)(a:List UInt8):Prop:=w.ownsRow B 5 1 v a.length (Lib.byteCells a)
theorem zaf.push{w:G}{B:Nat}{v:z1}{a cs:List UInt8}(h:w.ownsRow B 5 1 v (a.length+cs.length) (Lib.byteCells a++Lib.byteCells cs)):zaf w B v (a++cs):=by
 unfold zaf;rw[List.length_append,Lib.byteCells_append];exact h
theorem znB{l:List Int}{k:Nat}(h:k<l.length):∃x,l[k]?=E x:=⟨_,List.getElem?_eq_getElem h⟩
theorem zgt{l:List Int}{k:Nat}{x:Int}(h:l[k]?=E x):l.take (k+1)=l.take k++[x]:=by
 rw[List.take_add_one,h];rfl
theorem zfz(l:List Int)(a:∀m∈l,xg m)(k:Nat):(vB (l.take k)).length<=22*l.length:=by
 have c:=Zg (l.take k) (fun m b=>a m (List.mem_of_mem_take b))
 have d:(l.take k).length<=l.length:=List.length_take_le' _ _
 omega
theorem zeI(B g:Nat)(l:List Int)(hl:∀m∈l,xg m)(a3:l.length<=100)(sv:z1)(o:List UInt8)(w:G)(d:zaf w B sv o)(P:B<=w.1.size)(a0:o.length<=70368744177664)(f:zpO B w)
  (Y:w.1[g]?=E (.cells (l.map (fun n=>I n)).toArray 2 (0,0))):
  Calls prog 168 #[sv,.slice (E (U g 0)) l.length l.length] w fun e w'=>∃v',e=.returned v'/\zaf w' B v' (o++vB l)/\zb B w w'/\Lib.OthersKept 5 zf w w':=by
 obtain⟨i0,hi,V,W,X⟩:=info_parts Tryz.infoByte
 have HT:=ze f
 have HW:=ze d
 have HG:=ze Y
 have z:=ze hl
 clear f d Y hl
 go_enter func168,ntmps168
 go_wp2_with fail
 go_loopw [0,9] (fun v i wr=>∃k:Nat,k<=l.length/\i=I k/\zaf wr B v (o++vB (l.take k))/\zb B w wr/\Lib.OthersKept 5 zf w wr) (fun _ i _=>l.length-(intOf i).toNat)
 case atStart=>exact⟨0,Nat.zero_le _,rfl,by simpa[vB]using ud HW,z9 _ _,Lib.OthersKept.refl _ _ _⟩
 case round=>
  obtain⟨k,Z,rfl,hv,A,b⟩:=hrel
  have D:=zfz l (ud z) k
  have r:=b g _ (ud HG) (by simp) (fun c fz e=>by cases e)
  have hbs:=A.size
  by_cases R:k<l.length
  ·obtain⟨m,M⟩:=znB R
   have F:=ud z m (List.mem_of_getElem? M)
   have x0:wr.cell? (U g k)=E (I m):=by rw[xH r];simp[M]
   have a2:(k:Int)<l.length:=by omega
   have HM:=ze M
   have O:=ze A
   have h:=ze b
   have y:=ze hv
   have S:(o++vB (l.take k)).length<=70368744177664+22*100:=by rw[List.length_append];omega
   obtain⟨zs,x⟩:∃zs,o++vB (l.take k)=zs:=⟨_,rfl⟩
   have HZ:=ze x
   rw[x]at y S
   clear M A b hv r x
   go_wp2_with(at_builtin;refine wpList_append_own _ rfl _ _ 250 rfl B 5 i0 (.int .u8 0) 1 1 underlying250 hi V W X rfl (by decide) _ _ _ rfl ((ud y).alloc _) (U wr.1.size 0) 1 1 [Value.int .u8 32] rfl rfl (by intro j u' L;match j,L with|0,L=>simp at L;subst L;simp[Addr.add]) (by intro u' K;simp at K;subst K;rfl) (by unfold maxLen;omega) (by omega) (by simp;omega) ?_)
   intro v2 N s a _
   have p:zb B w N:=((ud O).alloc (Nat.le_trans P hbs) _).grown a (by simp;omega) (fun k Z=>(World.ownsRow.lt (ud y) k Z).1)
   have H:Lib.OthersKept 5 zf w N:=((ud h).alloc _).grown a (fun q hq=>by
    obtain⟨a1,hc⟩:=zH ((ud y).alloc _) hq
    exact⟨_,_,hc⟩)
   have t:zaf N B v2 (zs++[32]):=by
    unfold zaf;rw[List.length_append,Lib.byteCells_append];exact s
   go_wp2_with(go_at_call 167;refine(zaq B _ m F v2 _ N t (by have:=p.size;omega) (by rw[List.length_append];simp;omega) ((ud HT).on p)).mono ?_;rintro e w3 ⟨v3,rfl,u,Q,J⟩)
   go_roundw
   case rel=>
    refine⟨k+1,by omega,by go_num,?_,p.trans Q,H.trans J⟩
    have e:o++vB (l.take (k+1))=(zs++[32])++Lib.itoa m:=by
     rw[zgt (ud HM),zfy,<-ud HZ];simp
    rw[e]
    exact zaf.push u
   case measure=>simp[intOf];omega
  ·obtain rfl:k=l.length:=by omega
   rw[List.take_length]at hv
   have y:=ze hv
   have O:=ze A
   have h:=ze b
   clear hv A b r D
   go_wp2_with fail
   go_ret
   exact⟨_,rfl,ud y,ud O,ud h⟩
theorem yZ(st:Int)(w:G):Calls prog 169 #[I st] w fun e w'=>e=.returned (.bool (Xf st))/\w'=w:=by
 unfold Xf
 cases a:(st==1)
 ·cases b:(st==3)
  ·go_enter func169,ntmps169
   go_wp2_with fail
   go_ret
   exact⟨rfl,rfl⟩
  ·go_enter func169,ntmps169
   go_wp2_with fail
   go_ret
   exact⟨rfl,rfl⟩
 ·go_enter func169,ntmps169
  go_wp2_with fail
  go_ret
  exact⟨rfl,rfl⟩
def qW(P:Nm->Prop)[DecidablePred P]:List Nm->Int
 |[]=>0
 |x::r=>(if P x then 1 else 0)+qW P r
def zaj(P:Nm->Prop)[DecidablePred P]:List Nm->Int
 |[]=>0
 |x::r=>(if P x then x.val else 0)+zaj P r
structure IsC(P:Nm->Prop)[DecidablePred P](ns:List Nm)(a:Cl):Prop where
 cnt:a.cnt=qW P ns
 sum:a.sum=wrap64 (zaj P ns)
 none:qW P ns=0->a.mn=0/\a.mx=0
 mn:qW P ns≠0->(∃x∈ns,P x/\x.val=a.mn)/\∀x∈ns,P x->a.mn<=x.val
 mx:qW P ns≠0->(∃x∈ns,P x/\x.val=a.mx)/\∀x∈ns,P x->x.val<=a.mx
section
variable {P Q:Nm->Prop} [DecidablePred P] [DecidablePred Q] {ns:List Nm}
theorem qP:∀ns:List Nm,0<=qW P ns/\qW P ns<=ns.length
 |[]=>by simp[qW]
 |x::r=>by
  have:=qP r
  simp only[qW,List.length_cons]
  split<;>omega
theorem qq:∀{ns:List Nm},qW P ns=0↔∀x∈ns,¬P x
 |[]=>by simp[qW]
 |x::r=>by
  have e:=qP (P:=P) r
  have b:=qq (ns:=r)
  simp only[qW,zl,forall_eq_or_imp]
  constructor
  ·intro h
   by_cases a:P x
   ·rw[if_pos a]at h;omega
   ·rw[if_neg a]at h;exact⟨a,b.1 (by omega)⟩
  ·rintro⟨c,d⟩
   rw[if_neg c,b.2 d];rfl
theorem zbJ:∀{ns:List Nm},(∀x∈ns,¬P x)->zaj P ns=0
 |[],_=>by simp[zaj]
 |x::r,h=>by
  have a:=zbJ (ns:=r) (fun y b=>h y (by simp[b]))
  simp only[zaj]
  rw[if_neg (h x (by simp)),a];rfl
theorem kP:∀{ns:List Nm},(∀x∈ns,P x↔Q x)->qW P ns=qW Q ns/\zaj P ns=zaj Q ns
 |[],_=>by simp[qW,zaj]
 |x::r,h=>by
  have a:=kP (ns:=r) (fun y c=>h y (by simp[c]))
  have b:=h x (by simp)
  simp only[qW,zaj,b,a.1,a.2,and_self]
theorem J8{R:Nm->Prop}[DecidablePred R]:∀{ns:List Nm},(∀x∈ns,R x↔P x\/Q x)->(∀x∈ns,¬(P x/\Q x))->qW R ns=qW P ns+qW Q ns/\zaj R ns=zaj P ns+zaj Q ns
 |[],_,_=>by simp[qW,zaj]
 |x::r,h,hn=>by
  have c:=J8 (ns:=r) (fun y b=>h y (by simp[b])) (fun y b=>hn y (by simp[b]))
  have a:=h x (by simp)
  have d:=hn x (by simp)
  simp only[qW,zaj,c.1,c.2]
  by_cases p:P x
  ·have q:¬Q x:=fun q=>d ⟨p,q⟩
   simp only[a,p,q,true_or,if_true,if_false];constructor<;>omega
  ·by_cases q:Q x
   ·simp only[a,p,q,or_true,if_true,if_false];constructor<;>omega
   ·simp only[a,p,q,or_self,if_false];constructor<;>omega
theorem IsC.congr{a:Cl}(h:IsC P ns a)(c:∀x∈ns,P x↔Q x):IsC Q ns a:=by
 obtain⟨f,k⟩:=kP c
 refine⟨by rw[h.cnt,f],by rw[h.sum,k],fun b=>h.none (by rw[f];exact b),fun b=>?_,fun b=>?_⟩
 ·obtain⟨⟨x,d,i,ex⟩,g⟩:=h.mn (by rw[f];exact b)
  exact⟨⟨x,d,(c x d).1 i,ex⟩,fun y e j=>g y e ((c y e).2 j)⟩
 ·obtain⟨⟨x,d,i,ex⟩,g⟩:=h.mx (by rw[f];exact b)
  exact⟨⟨x,d,(c x d).1 i,ex⟩,fun y e j=>g y e ((c y e).2 j)⟩
theorem IsC.one{a b:Cl}(h:IsC P ns a)(k:IsC P ns b):a=b:=by
 obtain⟨I,a2,a3,a4⟩:=a
 obtain⟨J,K,m,n⟩:=b
 have f:=h.cnt.trans k.cnt.symm
 have g:=h.sum.trans k.sum.symm
 simp only at f g
 subst f g
 by_cases c:qW P ns=0
 ·obtain⟨j,d⟩:=h.none c
  obtain⟨l,e⟩:=k.none c
  simp only at j d l e
  subst j d l e;rfl
 ·obtain⟨⟨x,v,D,ex⟩,d⟩:=h.mn c
  obtain⟨⟨y,w,F,r⟩,e⟩:=k.mn c
  obtain⟨⟨z,A,H,s⟩,z2⟩:=h.mx c
  obtain⟨⟨u,t,B,q⟩,i⟩:=k.mx c
  simp only at ex r s q d e z2 i
  have:=d y w F;have:=e x v D;have:=z2 u t B;have:=i z A H
  have o:a3=m:=by omega
  have p:a4=n:=by omega
  subst o p;rfl
theorem IsC.zero(h:∀x∈ns,¬P x):IsC P ns qt:=by
 have b:=qq.2 h
 have c:=zbJ h
 exact⟨by rw[b];rfl,by rw[c];show(0:Int)=wrap64 0;unfold wrap64;omega,fun _=>⟨rfl,rfl⟩,fun a=>absurd b a,fun a=>absurd b a⟩
theorem Z6(x:Nm):∀ns:List Nm,qW P (ns++[x])=qW P ns+(if P x then 1 else 0)/\zaj P (ns++[x])=zaj P ns+(if P x then x.val else 0)
 |[]=>by simp[qW,zaj]
 |y::r=>by
  have h:=Z6 x r
  simp only[List.cons_append,qW,zaj,h.1,h.2]
  constructor<;>omega
theorem IsC.skip{a:Cl}{x:Nm}(h:IsC P ns a)(g:¬P x):IsC P (ns++[x]) a:=by
 obtain⟨c,l⟩:=Z6 (P:=P) x ns
 rw[if_neg g,Int.add_zero]at c l
 refine⟨by rw[h.cnt,c],by rw[h.sum,l],fun d=>h.none (by rw[<-c];exact d),fun d=>?_,fun d=>?_⟩
 ·obtain⟨⟨y,i,j,f⟩,k⟩:=h.mn (by rw[<-c];exact d)
  refine⟨⟨y,by simp[i],j,f⟩,fun z b e=>?_⟩
  rcases List.mem_append.1 b with b|b
  ·exact k z b e
  ·rw[List.mem_singleton]at b;subst b;exact absurd e g
 ·obtain⟨⟨y,i,j,f⟩,k⟩:=h.mx (by rw[<-c];exact d)
  refine⟨⟨y,by simp[i],j,f⟩,fun z b e=>?_⟩
  rcases List.mem_append.1 b with b|b
  ·exact k z b e
  ·rw[List.mem_singleton]at b;subst b;exact absurd e g
def zmW(a:Cl)(v:Int):Cl:=⟨a.cnt+1,wrap64 (a.sum+v),if a.cnt=0\/v<a.mn then v else a.mn,if a.cnt=0\/a.mx<v then v else a.mx⟩
theorem IsC.add{a:Cl}{x:Nm}(h:IsC P ns a)(e:P x):IsC P (ns++[x]) (zmW a x.val):=by
 obtain⟨p,n⟩:=Z6 (P:=P) x ns
 rw[if_pos e]at p n
 have hn:=qP (P:=P) ns
 have q:=h.cnt
 refine⟨by show a.cnt+1=_;omega,by show wrap64 (a.sum+x.val)=_;rw[h.sum,zjV,n],fun o=>by omega,fun o=>?_,fun o=>?_⟩
 ·by_cases f:qW P ns=0
  ·have d:=qq.1 f
   refine⟨⟨x,by simp,e,?_⟩,fun z b c=>?_⟩
   ·show x.val=if a.cnt=0\/x.val<a.mn then x.val else a.mn
    rw[if_pos (.inl (by omega))]
   ·show(if a.cnt=0\/x.val<a.mn then x.val else a.mn)<=z.val
    rw[if_pos (.inl (by omega))]
    rcases List.mem_append.1 b with b|b
    ·exact absurd c (d z b)
    ·rw[List.mem_singleton]at b;subst b;omega
  ·obtain⟨⟨y,k,m,i⟩,g⟩:=h.mn f
   have l:¬a.cnt=0:=by omega
   show(∃z∈ns++[x],P z/\z.val=(if a.cnt=0\/x.val<a.mn then x.val else a.mn))/\∀z∈ns++[x],P z->(if a.cnt=0\/x.val<a.mn then x.val else a.mn)<=z.val
   by_cases j:x.val<a.mn
   ·rw[if_pos (.inr j)]
    refine⟨⟨x,by simp,e,rfl⟩,fun z b c=>?_⟩
    rcases List.mem_append.1 b with b|b
    ·have:=g z b c;omega
    ·rw[List.mem_singleton]at b;subst b;omega
   ·rw[if_neg (by omega)]
    refine⟨⟨y,by simp[k],m,i⟩,fun z b c=>?_⟩
    rcases List.mem_append.1 b with b|b
    ·exact g z b c
    ·rw[List.mem_singleton]at b;subst b;omega
 ·by_cases f:qW P ns=0
  ·have d:=qq.1 f
   refine⟨⟨x,by simp,e,?_⟩,fun z b c=>?_⟩
   ·show x.val=if a.cnt=0\/a.mx<x.val then x.val else a.mx
    rw[if_pos (.inl (by omega))]
   ·show z.val<=(if a.cnt=0\/a.mx<x.val then x.val else a.mx)
    rw[if_pos (.inl (by omega))]
    rcases List.mem_append.1 b with b|b
    ·exact absurd c (d z b)
    ·rw[List.mem_singleton]at b;subst b;omega
  ·obtain⟨⟨y,k,m,i⟩,g⟩:=h.mx f
   have l:¬a.cnt=0:=by omega
   show(∃z∈ns++[x],P z/\z.val=(if a.cnt=0\/a.mx<x.val then x.val else a.mx))/\∀z∈ns++[x],P z->z.val<=(if a.cnt=0\/a.mx<x.val then x.val else a.mx)
   by_cases j:a.mx<x.val
   ·rw[if_pos (.inr j)]
    refine⟨⟨x,by simp,e,rfl⟩,fun z b c=>?_⟩
    rcases List.mem_append.1 b with b|b
    ·have:=g z b c;omega
    ·rw[List.mem_singleton]at b;subst b;omega
   ·rw[if_neg (by omega)]
    refine⟨⟨y,by simp[k],m,i⟩,fun z b c=>?_⟩
    rcases List.mem_append.1 b with b|b
    ·exact g z b c
    ·rw[List.mem_singleton]at b;subst b;omega
end
theorem IsC.join{P Q R:Nm->Prop}[DecidablePred P][DecidablePred Q][DecidablePred R]{ns:List Nm}{zs:List Cl}{z:Cl}(h:IsC P ns (xv zs))(A:zs=[]↔qW P ns=0)(k:IsC Q ns z)(K:qW Q ns≠0)(f:∀x∈ns,R x↔P x\/Q x)(hn:∀x∈ns,¬(P x/\Q x))(hl:(ns.length:Int)<9223372036854775808):
  IsC R ns (xv (zs++[z]))/\qW R ns≠0:=by
 obtain⟨N,O⟩:=J8 f hn
 have Y:=qP (P:=P) ns
 have Z:=qP (P:=Q) ns
 have b3:=qP (P:=R) ns
 have J:qW R ns≠0:=by omega
 have L:=h.cnt
 have M:=h.sum
 have U:(xv (zs++[z])).cnt=wrap64 ((xv zs).cnt+z.cnt):=by simp only[xv,List.map_append,List.map_cons,List.map_nil,Qc]
 have V:(xv (zs++[z])).sum=wrap64 ((xv zs).sum+z.sum):=by simp only[xv,List.map_append,List.map_cons,List.map_nil,Qc]
 have W:=k.cnt
 have X:=k.sum
 obtain⟨⟨q1,o,w,t⟩,q2⟩:=k.mn K
 obtain⟨⟨B,p,y,u⟩,I⟩:=k.mx K
 have D:(∃x∈ns,R x/\x.val=(xv (zs++[z])).mn)/\∀x∈ns,R x->(xv (zs++[z])).mn<=x.val:=by
  simp only[xv,kR]
  cases b:qQ Kg zs with
  |none=>
   have d:zs=[]:=by
    rcases List.eq_nil_or_concat zs with h|⟨l,x,rfl⟩
    ·exact h
    ·rw[List.concat_eq_append,kR]at b;unfold vS at b;split at b<;>(try split at b)<;>cases b
   have c:=qq.1 (A.1 d)
   simp only[vS,Option.getD_some]
   exact⟨⟨q1,o,(f q1 o).2 (.inr w),t⟩,fun x a n=>((f x a).1 n).elim (fun s=>absurd s (c x a)) (q2 x a)⟩
  |some g=>
   have d:zs≠[]:=fun e=>by rw[e]at b;cases b
   have c:qW P ns≠0:=fun e=>d (A.2 e)
   obtain⟨⟨v,m,r,i⟩,q⟩:=h.mn c
   simp only[xv,b,Option.getD_some]at i q
   simp only[vS,Kg,zeS]
   by_cases j:z.mn<g.mn
   ·simp only[j,if_true,show(-1:Int)<0 by omega,Option.getD_some]
    refine⟨⟨q1,o,(f q1 o).2 (.inr w),t⟩,fun x a n=>((f x a).1 n).elim (fun s=>?_) (q2 x a)⟩
    have:=q x a s;omega
   ·have:¬(if z.mn<g.mn then(-1:Int)else if g.mn<z.mn then 1 else 0)<0:=by rw[if_neg j];split<;>omega
    simp only[this,if_false,Option.getD_some]
    refine⟨⟨v,m,(f v m).2 (.inl r),i⟩,fun x a n=>((f x a).1 n).elim (q x a) (fun H=>?_)⟩
    have:=q2 x a H;omega
 have F:(∃x∈ns,R x/\x.val=(xv (zs++[z])).mx)/\∀x∈ns,R x->x.val<=(xv (zs++[z])).mx:=by
  simp only[xv,kR]
  cases b:qQ Kh zs with
  |none=>
   have d:zs=[]:=by
    rcases List.eq_nil_or_concat zs with h|⟨l,x,rfl⟩
    ·exact h
    ·rw[List.concat_eq_append,kR]at b;unfold vS at b;split at b<;>(try split at b)<;>cases b
   have c:=qq.1 (A.1 d)
   simp only[vS,Option.getD_some]
   exact⟨⟨B,p,(f B p).2 (.inr y),u⟩,fun x a n=>((f x a).1 n).elim (fun s=>absurd s (c x a)) (I x a)⟩
  |some g=>
   have d:zs≠[]:=fun e=>by rw[e]at b;cases b
   have c:qW P ns≠0:=fun e=>d (A.2 e)
   obtain⟨⟨v,m,r,i⟩,q⟩:=h.mx c
   simp only[xv,b,Option.getD_some]at i q
   simp only[vS,Kh,zeS]
   by_cases j:g.mx<z.mx
   ·simp only[j,if_true,show(-1:Int)<0 by omega,Option.getD_some]
    refine⟨⟨B,p,(f B p).2 (.inr y),u⟩,fun x a n=>((f x a).1 n).elim (fun s=>?_) (I x a)⟩
    have:=q x a s;omega
   ·have:¬(if g.mx<z.mx then(-1:Int)else if z.mx<g.mx then 1 else 0)<0:=by rw[if_neg j];split<;>omega
    simp only[this,if_false,Option.getD_some]
    refine⟨⟨v,m,(f v m).2 (.inl r),i⟩,fun x a n=>((f x a).1 n).elim (q x a) (fun H=>?_)⟩
    have:=I x a H;omega
 refine⟨⟨?_,?_,fun S=>absurd S J,fun _=>D,fun _=>F⟩,J⟩
 ·rw[U,L,W,<-N];unfold wrap64;omega
 ·rw[V,M,X,O];unfold wrap64;omega
theorem zbH{L:LV}{wd f sr a:Int}{ns:List Nm}(p:(ns.length:Int)<9223372036854775808):∀j:Nat,
  (∀i:Nat,i<j->(∀v,yY L ⟨f,sr,a+i⟩=E v->IsC (fun x:Nm=>x.sr=sr/\x.tm/wd=a+i) ns v.cl/\qW (fun x:Nm=>x.sr=sr/\x.tm/wd=a+i) ns≠0)/\(yY L ⟨f,sr,a+i⟩=zf->∀x∈ns,¬(x.sr=sr/\x.tm/wd=a+i)))->
  IsC (fun x:Nm=>x.sr=sr/\a<=x.tm/wd/\x.tm/wd<a+j) ns (xv (qK L f sr a j))/\(qK L f sr a j=[]↔qW (fun x:Nm=>x.sr=sr/\a<=x.tm/wd/\x.tm/wd<a+j) ns=0)
 |0,_=>by
  have m:∀x∈ns,¬(x.sr=sr/\a<=x.tm/wd/\x.tm/wd<a+(0:Nat)):=fun x _ ⟨_,b,c⟩=>by
   have:((0:Nat):Int)=0:=rfl
   omega
  exact⟨IsC.zero m,by simp only[qK,List.range_zero,List.filterMap_nil,true_iff];exact qq.2 m⟩
 |j+1,h=>by
  obtain⟨q,r⟩:=zbH p j (fun i A=>h i (by omega))
  obtain⟨s,t⟩:=h j (by omega)
  have g:((j+1:Nat):Int)=(j:Int)+1:=by omega
  rw[KC]
  cases o:yY L ⟨f,sr,a+j⟩with
  |none=>
   have k:=t o
   have n:∀x∈ns,(x.sr=sr/\a<=x.tm/wd/\x.tm/wd<a+j)↔(x.sr=sr/\a<=x.tm/wd/\x.tm/wd<a+(j+1:Nat)):=fun x l=>by
    have:=k x l
    constructor
    ·rintro⟨b,c,d⟩;exact⟨b,c,by omega⟩
    ·rintro⟨b,c,d⟩
     refine⟨b,c,?_⟩
     have:x.tm/wd≠a+j:=fun e=>this ⟨b,e⟩
     omega
   simp only[List.append_nil]
   exact⟨q.congr n,by rw[r,(kP n).1]⟩
  |some v=>
   obtain⟨z,v2⟩:=s v o
   obtain⟨w,y⟩:=IsC.join (R:=fun x:Nm=>x.sr=sr/\a<=x.tm/wd/\x.tm/wd<a+(j+1:Nat)) q r z v2 (fun x l=>by
    constructor
    ·rintro⟨b,c,d⟩
     by_cases u:x.tm/wd=a+j
     ·exact .inr ⟨b,u⟩
     ·exact .inl ⟨b,c,by omega⟩
    ·rintro(⟨b,c,d⟩|⟨b,c⟩)
     ·exact⟨b,c,by omega⟩
     ·exact⟨b,by omega,by omega⟩) (fun x l ⟨⟨_,_,b⟩,_,c⟩=>by omega) p
   exact⟨w,by simp only[List.append_eq_nil_iff,List.cons_ne_nil,and_false,false_iff];exact y⟩
theorem zkE{X:G}{lb:Nat}{L:LV}(h:xe yx X lb (vC L)){k:Sg}(j:k.wf)(f:TypeId):
  ∃o,(Builtin.delete_ #[152,146] f #[.map (E lb),.agg #[I k.t,I k.sr,I k.wn]]).run prog X=.ok (.tuple #[]) (setBlock X lb o)/\xe yx (setBlock X lb o) lb (vC (xa L k))/\zh (fun k=>k=lb) X (setBlock X lb o):=by
 obtain⟨l,b,d,i⟩:=h
 obtain⟨a,g,c,m⟩:=Yw Xk d i j f
 have e:xa (vC L) k=vC (xa L k):=by
  unfold xa vC;rw[List.filter_map];rfl
 rw[e]at c
 exact⟨.map a b,g,⟨a,b,xL (zd d) _,c⟩,xT _⟩
theorem xE.putLive{w w':G}{s:Nat}{c:Cf}{tv:z1}{lb gb:Nat}{Gl:List (Sg×Unit)}{L f:LV}(h:xE w s c tv lb gb Gl L)(l:xe yx w' lb (vC f))(b:zh (fun k=>k=lb) w w'):xE w' s c tv lb gb Gl f:=by
 have a:∀{k:Nat} {cs:Array z1} {t:TypeId} {i:Nat×Nat},w.1[k]?=E (.cells cs t i)->¬k=lb:=fun b e=>by
  obtain⟨n,m,j,_⟩:=h.live;rw[e,j]at b;cases b
 refine⟨b.heap h.head (a h.head),zi h.trow b (fun k b=>?_),qA.2 l,h.gone.kept b h.apart,h.apart⟩
 obtain⟨g,d⟩:=zH h.trow b
 exact a d
theorem xE.putGone{w w':G}{s:Nat}{c:Cf}{tv:z1}{lb gb:Nat}{Gl d:List (Sg×Unit)}{L:LV}(h:xE w s c tv lb gb Gl L)(l:xe je w' gb d)(b:zh (fun k=>k=gb) w w'):xE w' s c tv lb gb d L:=by
 have a:∀{k:Nat} {cs:Array z1} {t:TypeId} {i:Nat×Nat},w.1[k]?=E (.cells cs t i)->¬k=gb:=fun b e=>by
  obtain⟨n,m,j,_⟩:=h.gone;rw[e,j]at b;cases b
 refine⟨b.heap h.head (a h.head),zi h.trow b (fun k b=>?_),h.live.kept b (fun e=>h.apart e.symm),l,h.apart⟩
 obtain⟨g,f⟩:=zH h.trow b
 exact a f
def xq(x:SX):List z1:=[I x.1.t,I x.1.sr,I x.1.wn,I x.2.st,I x.2.cl.cnt,I x.2.cl.sum,C z0 x.2.cl.mn,C z0 x.2.cl.mx]
def vW(w:G)(base:Nat)(v:z1)(xs:List SX):Prop:=w.ownsRow base 148 8 v xs.length (xs.flatMap xq)
theorem vW.slice{w:G}{base:Nat}{v:z1}{xs:List SX}(h:vW w base v xs):∃a cap,v=.slice a xs.length cap:=zS h
theorem vW.at{w:G}{base g cap:Nat}{xs:List SX}(h:vW w base (.slice (E (U g 0)) xs.length cap) xs){j:Nat}{x:SX}(b:xs[j]?=E x):
  w.cell? (U g (j*8))=E (I x.1.t)/\w.cell? (U g (j*8+1))=E (I x.1.sr)/\w.cell? (U g (j*8+2))=E (I x.1.wn)/\w.cell? (U g (j*8+3))=E (I x.2.st)/\
  w.cell? (U g (j*8+4))=E (I x.2.cl.cnt)/\w.cell? (U g (j*8+5))=E (I x.2.cl.sum)/\w.cell? (U g (j*8+6))=E (C z0 x.2.cl.mn)/\w.cell? (U g (j*8+7))=E (C z0 x.2.cl.mx):=by
 have d:j<xs.length:=(List.getElem?_eq_some_iff.1 b).1
 have a:=fun i c=>kI (f:=xq) (k:=8) (fun _=>rfl) xs j x i b c
 refine⟨?_,?_,?_,?_,?_,?_,?_,?_⟩
 ·rw[h.cellAt (j*8) (by omega)];exact a 0 (by omega)
 ·rw[h.cellAt (j*8+1) (by omega)];exact a 1 (by omega)
 ·rw[h.cellAt (j*8+2) (by omega)];exact a 2 (by omega)
 ·rw[h.cellAt (j*8+3) (by omega)];exact a 3 (by omega)
 ·rw[h.cellAt (j*8+4) (by omega)];exact a 4 (by omega)
 ·rw[h.cellAt (j*8+5) (by omega)];exact a 5 (by omega)
 ·rw[h.cellAt (j*8+6) (by omega)];exact a 6 (by omega)
 ·rw[h.cellAt (j*8+7) (by omega)];exact a 7 (by omega)
theorem vW.form{w:G}{base:Nat}{a:Option Addr}{n cap:Nat}{xs:List SX}(h:vW w base (.slice a n cap) xs)(e:0<xs.length):∃g,a=E (U g 0)/\n=xs.length/\g<w.1.size:=by
 obtain⟨g,d,c,j,b⟩:=World.ownsRow.form h e
 injection c with f i k
 exact⟨g,f,i,b⟩
theorem zmD{l:List SX}{k:Nat}(h:k<l.length):∃x,l[k]?=E x:=⟨_,List.getElem?_eq_getElem h⟩
theorem Q9{l:List SX}{k:Nat}{x:SX}(h:l[k]?=E x):l.take (k+1)=l.take k++[x]:=by
 rw[List.take_add_one,h];rfl
theorem zlz(q:List (Sg×Unit)×LV)(x:SX):(jm q x).1.length<=q.1.length+1/\(jm q x).2.length<=q.2.length+1:=by
 unfold jm
 split
 ·refine⟨?_,?_⟩
  ·show(xZ q.1 x.1 ()).length<=_
   unfold xZ;split<;>simp
  ·show(xa q.2 x.1).length<=_
   have:=List.length_filter_le (fun p:Sg×SV=>decide (p.1≠x.1)) q.2
   unfold xa;omega
 ·exact⟨Nat.le_succ _,zly _ _ _⟩
theorem Ko:∀(xs:List SX) (q:List (Sg×Unit)×LV),(qh q xs).1.length<=q.1.length+xs.length/\(qh q xs).2.length<=q.2.length+xs.length
 |[],q=>by simp[qh]
 |x::xs,q=>by
  have a:=Ko xs (jm q x)
  have b:=zlz q x
  simp only[qh,List.foldl_cons,List.length_cons]at*
  omega
theorem zlB{X:G}{s lb gb:Nat}{c:Cf}{tv:z1}{q:List (Sg×Unit)×LV}(h:xE X s c tv lb gb q.1 q.2)(a:q.2.length<maxLen){x:SX}(i:x.1.wf)(g:(x.2.st==4)=false):
  ∃o,(Instr.mapUpdate 152 (.map (E lb)) (.agg #[I x.1.t,I x.1.sr,I x.1.wn]) (.agg (xZz x))).run prog X=.ok () (setBlock X lb o)/\xE (setBlock X lb o) s c tv lb gb (jm q x).1 (jm q x).2/\zh (fun k=>k=lb\/k=gb) X (setBlock X lb o):=by
 obtain⟨o,b,d,f,-⟩:=zgk h a i x.2
 have e:jm q x=(q.1,qT q.2 x.1 x.2):=by unfold jm;rw[if_neg (by simpa using g)]
 refine⟨o,b,by rw[e];exact d,f.mono (fun k _ e=> .inl e)⟩
theorem zlA{X:G}{s lb gb:Nat}{c:Cf}{tv:z1}{q:List (Sg×Unit)×LV}(h:xE X s c tv lb gb q.1 q.2)(a:q.1.length<maxLen){x:SX}(p:x.1.wf)(u:(x.2.st==4)=true)(r:TypeId):
  ∃o j,(Builtin.delete_ #[152,146] r #[.map (E lb),.agg #[I x.1.t,I x.1.sr,I x.1.wn]]).run prog X=.ok (.tuple #[]) (setBlock X lb o)/\xE (setBlock X lb o) s c tv lb gb q.1 (xa q.2 x.1)/\zh (fun k=>k=lb) X (setBlock X lb o)/\
   (Instr.mapUpdate 153 (.map (E gb)) (.agg #[I x.1.t,I x.1.sr,I x.1.wn]) (.agg #[])).run prog (setBlock X lb o).drew=.ok () (setBlock (setBlock X lb o).drew gb j)/\xE (setBlock (setBlock X lb o).drew gb j) s c tv lb gb (jm q x).1 (jm q x).2/\zh (fun k=>k=gb) (setBlock X lb o).drew (setBlock (setBlock X lb o).drew gb j):=by
 obtain⟨o,i,m,f⟩:=zkE (X:=X) (qA.1 h.live) p r
 have l:=h.putLive m f
 have d:zb (setBlock X lb o).1.size (setBlock X lb o) (setBlock X lb o).drew:=(z9 _ _).drew
 obtain⟨j,b,n,g,_⟩:=zpp (X:=(setBlock X lb o).drew) (l.later d).gone a p
 have e:jm q x=(xZ q.1 x.1 (),xa q.2 x.1):=by unfold jm;rw[if_pos (by simpa using u)]
 exact⟨o,j,i,l,f,b,by rw[e];exact(l.later d).putGone n g,g⟩
theorem Z4{α β:Type}{M:MK α β}{w:G}{b:Nat}{L:List (α×β)}(h:xe M w b L){k:Nat}{cs:Array z1}{t:TypeId}{c:Nat×Nat}(a:w.1[k]?=E (.cells cs t c)):¬k=b:=fun e=>by
 obtain⟨g,f,d,_⟩:=h;rw[e,d]at a;cases a
theorem zec{w:G}{s:Nat}{c:Cf}{tv:z1}{lb gb:Nat}{Gl:List (Sg×Unit)}{L:LV}(h:xE w s c tv lb gb Gl L)(xs:List SX)(a0:∀x∈xs,x.1.wf)(a7:Gl.length+xs.length<=1000000000)(a8:L.length+xs.length<=1000000000)(base:Nat)(v:z1)(hv:vW w base v xs):
  Calls prog 170 #[(O s),v] w fun e w'=>e=.returned (.tuple #[])/\xE w' s c tv lb gb (qh (Gl,L) xs).1 (qh (Gl,L) xs).2/\zh (fun k=>k=lb\/k=gb) w w':=by
 obtain⟨ad,cap,rfl⟩:=hv.slice
 have W:∀k,(Value.slice ad xs.length cap).ownBlock=E k->¬(k=lb\/k=gb):=fun k hk e=>by
  obtain⟨a4,hc⟩:=zH hv hk
  rcases e with e|e
  ·exact Z4 (qA.1 h.live) hc e
  ·exact Z4 h.gone hc e
 have ah:¬s=lb:=Z4 (qA.1 h.live) h.head
 have ag:¬s=gb:=Z4 h.gone h.head
 have HS:=ze h
 have HV:=ze hv
 have a1:=ze W
 have a2:=ze a0
 have aa:xs.length<=1000000000:=by omega
 clear h hv W a0
 go_enter func170,ntmps170
 go_wp2_with fail
 go_loopw [8] (fun i wr=>∃k:Nat,k<=xs.length/\i=I k/\xE wr s c tv lb gb (qh (Gl,L) (xs.take k)).1 (qh (Gl,L) (xs.take k)).2/\zh (fun k=>k=lb\/k=gb) w wr) (fun i _=>xs.length-(intOf i).toNat)
 case atStart=>exact⟨0,Nat.zero_le _,rfl,by simpa[qh]using ud HS,zh.refl _ _⟩
 case round=>
  obtain⟨k,hk,rfl,S,m⟩:=hrel
  by_cases a3:k<xs.length
  ·obtain⟨x,hx⟩:=zmD a3
   have K:vW wr base (.slice ad xs.length cap) xs:=zi (ud HV) m (ud a1)
   obtain⟨g,rfl,-,a5⟩:=K.form (by omega)
   obtain⟨x0,x1,x2,x3,x4,x5,x6,x7⟩:=K.at hx
   have hq:=Ko (xs.take k) (Gl,L)
   rw[List.length_take]at hq
   obtain⟨q,J⟩:∃q,qh (Gl,L) (xs.take k)=q:=⟨_,rfl⟩
   have HQ:=ze J
   rw[J]at S hq
   have M:=ud a2 x (List.mem_of_getElem? hx)
   have HX:=ze hx
   obtain⟨X,n⟩:∃X,(wr.alloc (.cells (xZz x) 148))=X:=⟨_,rfl⟩
   have B:zb wr.1.size wr X:=by rw[<-n];exact(z9 _ _).alloc (T _) _
   have p:X.1[wr.1.size]?=E (.cells (xZz x) 148 (0,0)):=by rw[<-n];exact zp _ _
   have j:=S.later B
   obtain⟨-,-,-,-,-,-,-,c7,c8⟩:=j.cells
   obtain⟨y0,y1,y2,y3,y4,y5,y6,y7,-⟩:=zc p
   have A:zb X.1.size X X.drew:=(z9 _ _).drew
   have F:zh (fun k=>k=lb\/k=gb) w X.drew:=(m.trans (zh.of_below (f:=fun _=>False) B) (fun _ _ e=>e.elim)).drew
   have ae:=j.lt
   have H:=zd p
   have a9:=j.live.lt
   have R:¬wr.1.size=lb:=Z4 (qA.1 j.live) p
   have a6:(k:Int)<xs.length:=by omega
   have U:=ze n
   obtain⟨P,Q⟩:=hq
   cases he:(x.2.st==4)
   ·obtain⟨o,u,z,N⟩:=zlB (X:=X.drew) (j.later A) (by simp only[maxLen];dsimp only at Q;omega) M he
    obtain⟨Y,r⟩:∃Y,setBlock X.drew lb o=Y:=⟨_,rfl⟩
    rw[r]at u z N
    have d:Hid (xE Y s c tv lb gb (jm q x).1 (jm q x).2/\zh (fun k=>k=lb\/k=gb) w Y):=⟨z,F.trans N (fun _ _ e=>e)⟩
    clear z N F A j p B n K S m hx M J r P Q
    go_wp2_with fail
    rw[ud U]
    go_wp2_with fail
    go_region
    go_wp2_with fail
    go_roundw
    case rel=>exact⟨k+1,by omega,by go_num,by rw[Q9 (ud HX),jn,ud HQ];exact(ud d).1,(ud d).2⟩
    case measure=>simp[intOf];omega
   ·obtain⟨o,o2,u,a,l,y,b,D⟩:=zlA (X:=X.drew) (j.later A) (by simp only[maxLen];dsimp only at P;omega) M he 0
    obtain⟨Y,r⟩:∃Y,setBlock X.drew lb o=Y:=⟨_,rfl⟩
    rw[r]at u a l y b D
    obtain⟨Z,V⟩:∃Z,setBlock Y.drew gb o2=Z:=⟨_,rfl⟩
    rw[V]at y b D
    obtain⟨-,-,-,-,-,-,-,-,d8⟩:=a.cells
    have ai:Cz Y wr.1.size 0 (I x.1.t):=(zM (i:=0) l R H).trans y0
    have aj:Cz Y wr.1.size 1 (I x.1.sr):=(zM (i:=1) l R H).trans y1
    have ak:Cz Y wr.1.size 2 (I x.1.wn):=(zM (i:=2) l R H).trans y2
    have af:=a.lt
    have ac:wr.1.size<Y.1.size:=za H l.size
    have d:Hid (xE Z s c tv lb gb (jm q x).1 (jm q x).2/\zh (fun k=>k=lb\/k=gb) w Z):=⟨b,((F.trans (l.mono (fun k _ e=> .inl e)) (fun _ _ e=>e)).drew).trans (D.mono (fun k _ e=> .inr e)) (fun _ _ e=>e)⟩
    clear a b l D F A j p B n K S m hx M J r V P Q
    go_wp2_with fail
    rw[ud U]
    go_wp2_with fail
    go_region
    go_wp2_with fail
    go_region
    go_wp2_with fail
    go_roundw
    case rel=>exact⟨k+1,by omega,by go_num,by rw[Q9 (ud HX),jn,ud HQ];exact(ud d).1,(ud d).2⟩
    case measure=>simp[intOf];omega
  ·obtain rfl:k=xs.length:=by omega
   have ab:decide ((xs.length:Int)<xs.length)=false:=by simp
   rw[List.take_length]at S
   have HR:=ze S
   have HK:=ze m
   clear S m
   go_wp2_with fail
   go_end0
   exact⟨rfl,ud HR,ud HK⟩
attribute [local go_sem] Oper.semAt_some
theorem zhc:(prog.info? 148).map (fun i=>(i.zero,i.size,i.bytes))=E (E (.agg #[I 0,I 0,I 0,I 0,I 0,I 0,C z0 0,C z0 0]),8,56):=by kernel_rfl
theorem zdx:∃i:TypeInfo,prog.info? 148=E i/\i.zero=E (.agg #[I 0,I 0,I 0,I 0,I 0,I 0,C z0 0,C z0 0])/\i.size=8/\i.bytes=56:=by
 have h:=zhc
 cases a:prog.info? 148 with
 |none=>simp[a]at h
 |some i=>
  simp only[a,Option.map_some,Option.some.injEq,Prod.mk.injEq]at h
  exact⟨i,rfl,h.1,h.2.1,h.2.2⟩
theorem jL(x:SX):∀v∈xq x,v.oneCell'=true:=fun v hv=>by
 simp only[xq,zl,List.not_mem_nil,or_false]at hv
 rcases hv with rfl|rfl|rfl|rfl|rfl|rfl|rfl|rfl<;>rfl
theorem zjC{w:G}{base:Nat}{e:TypeId}{v:z1}{l:List SX}{f:SX}(h:w.ownsRow base e 8 v (l.length+1) (l.flatMap xq++xq f)):w.ownsRow base e 8 v (l++[f]).length ((l++[f]).flatMap xq):=by
 rw[List.length_append,List.flatMap_append];simpa using h
def zpI(w:G)(a:List SX)(W:G):Prop:=∃v,W.1[w.1.size]?=E (.cells #[v] 105 (0,0))/\W.ownsRow w.1.size 148 8 v a.length (a.flatMap xq)/\zb w.1.size w W
theorem zpI.later{w:G}{a:List SX}{W c:G}(h:zpI w a W)(b:zb W.1.size W c):zpI w a c:=by
 obtain⟨v,d,i,g⟩:=h
 exact⟨v,(b.block _ (zd d)).trans d,zi i (zh.of_below (f:=fun _=>False) b) (fun _ _ e=>e),g.trans (b.mono g.size)⟩
theorem YS{W c:G}{base:Nat}{e:TypeId}{size:Nat}{v:z1}{n:Nat}{xs:List z1}(i:W.ownsRow base e size v n xs)(d:W.grownBy c v.ownBlock)(B:Nat):KeepsFrom B W c/\KeepsWalks W c:=by
 have key:∀(k:Nat) (o:Obj),W.1[k]?=E o->o.isCells=false->c.1[k]?=E o:=fun k o a b=>(d.block k (zd a) (fun e=>by
  rcases i.2 with⟨rfl,_⟩|⟨g,cap,h,rfl,_,f,_⟩
  ·simp[Value.ownBlock]at e
  ·have:k=g:=by simpa[Value.ownBlock]using e
   subst this;rw[f]at a;cases a;cases b)).trans a
 exact⟨⟨d.size,fun k o _ a b=>key k o a b⟩,⟨d.size,fun k o a b=>key k o a (Obj.not_cells_of_walk b)⟩⟩
theorem ziT{F:Fence}{n:Nat}{W:G}{ops:Array Oper}{rest:List Oper}{o:Oper}{a:Act}{Q:Exit->Act->G->Prop}(m:o.guard=zf)(s x:Operand)
  (A:o.op=.call {callee:=.builtin .append,args:=#[s,x],argTypes:=#[105,105]}) (base:Nat) (v:z1) (l:List SX) (f:SX) (B:a.eval s=v) (e:W.ownsRow base 148 8 v l.length (l.flatMap xq))
  (i:Nat) (D:a.eval x=.slice (E (U i 0)) 1 1) (j:W.1[i]?=E (.cells (xZz f) 148 (0,0))) (J:l.length<=1000000) (hbase:base<=W.1.size)
  (h:∀g cap w',w'.ownsRow base 148 8 (.slice (E (U g 0)) (l.length+1) cap) (l++[f]).length ((l++[f]).flatMap xq)->W.grownBy w' v.ownBlock->g<w'.1.size->wpListIn F n prog ops Q rest (a.put o.dst (.slice (E (U g 0)) (l.length+1) cap)) w'):wpListIn F n prog ops Q (o::rest) a W:=by
 obtain⟨i0,z,p,q,r⟩:=zdx
 refine wpListIn_append_own_at W m s x 105 A base 148 i0 (.agg #[I 0,I 0,I 0,I 0,I 0,I 0,C z0 0,C z0 0]) 8 56 underlying105 z p q r rfl (by decide) v l.length _ B e (U i 0) 1 1 (xq f) D rfl (World.news_of_block (cs:=(xq f).toArray) j) (jL f) (by simp only[maxLen];omega) (by omega) hbase ?_
 intro K H b k t w
 obtain⟨y,c,rfl,u,d⟩:=b.form (by omega)
 exact h y c H (zjC b) k d
theorem zeJ(gf:Nat)(lb:Array z1)(eg:∀args w,(callFunc gf args).run prog w=.ok (.enter gf args) w){N:Nat}{S:List SX->Prop}(w:G)(hN:N<=1000000)
  (q:Yb Fence.wide 6 prog gf lb (fun x:SX=>#[.agg (xZz x)]) KeepsWalks S (fun _=>True) N 0 w):
  Calls prog 245 #[.slice zf 0 0,.func (.func gf) #[] lb] w fun e w'=>∃xs v,S xs/\e=.returned v/\w'.ownsRow w.1.size 148 8 v xs.length (xs.flatMap xq)/\zb w.1.size w w':=by
 have P:=ze q
 have a0:=ze eg
 have b1:=zp w zds
 have bz:=zN w zds
 have Y:zb w.1.size w (w.alloc zds):=(z9 _ _).alloc (T _) _
 clear q eg
 refine(callsIn_wide (n:=7)).1 ?_
 refine callsIn_of_wp_marks func245 rfl trivial ?_ rfl
 simp only[ntmps245,sZz,Nat.reduceAdd,Nat.reduceSub]
 have B1:=ze b1
 have t:=ze Y
 have BZ:=ze bz
 clear b1 Y bz
 gi_wp2
 obtain⟨W0,X⟩:∃W0,(w.alloc zds)=W0:=⟨_,rfl⟩
 rw[X]at B1 t BZ ⊢
 clear X
 have hz:W0.1.size=w.1.size+1:=ud BZ
 refine qU (F:=Fence.wide) (n:=7) rfl (by omega) (gf:=gf) (lb:=lb) rfl trivial (ud a0) (ud P) (by omega) (fun h k=>h.trans k) (fun W o o' h hc hw=>KeepsWalks.putObj _ h hw) (ud t) (fun _=>rfl)
  (zpI w) (fun _ _ _=>False)
  (fun s A B a7 hs y z=>by
   obtain⟨v,R,h2,V⟩:=hs
   exact⟨v,zu R y (fun r e=>(z r e).2),Zx h2 y (fun r e=>(z r e).2),V.grown y V.size (fun k e=>by have:=(z k e).1;omega)⟩)
  (fun _ _ _ _ _ hs _ _=>hs)
  ⟨_,ud B1,⟨rfl,.inl ⟨rfl,rfl⟩⟩,ud t⟩
  (fun x a' W=>∃I,w.1.size+1<=I/\W.1[I]?=E (.cells (xZz x) 148 (0,0))/\a'={tmps:=#[.slice zf 0 0,.func (.func gf) #[] lb,(O w.1.size),undef,.slice zf 0 0,(O I),.func (.func gf) #[] lb,.agg (xZz x),undef,undef,undef,undef,undef],defers:=[]})
  (fun x a' s A B a7 hs y z=>by
   obtain⟨I,R,h2,V⟩:=hs
   exact⟨I,R,zu h2 y (fun r e=>(z r e).2),V⟩) ?assign ?body ?done ?stop
 case assign=>
  rintro l d x W K hI J
  have HK:=ze J
  have HI:=ze hI
  clear J hI
  gi_wp2
  have g:=(z9 W.1.size W).alloc (T _) (.cells (xZz x) 148)
  have ad:w.1.size<W.1.size:=by obtain⟨v,R,h2,V⟩:=ud HI;exact zd R
  exact ud HK _ _ (zk g) (KeepsWalks.alloc _ _) ((ud HI).later g) ⟨W.1.size,by omega,zp _ _,rfl⟩
 case body=>
  rintro l d x a' W hl ⟨r,z⟩ ⟨v,H,i2,i3⟩ ⟨I,ab,hx,rfl⟩ ac
  obtain⟨va,vc,rfl⟩:=zS i2
  have a6:=zd H
  have ae:=zd hx
  obtain⟨c1,-⟩:=zc H
  obtain⟨x0,x1,x2,x3,x4,x5,x6,x7,-⟩:=zc hx
  have M:=ze H
  have a:=ze i2
  have u:=ze i3
  have HX:=ze hx
  clear H i2 i3 hx z
  gi_wp2_with (first
   |(gi_at_builtin;refine ziT rfl _ _ rfl w.1.size _ d x rfl ((ud a).alloc _) W.1.size rfl (zp _ _) (by omega) (by rw[zN];omega) ?_;intro g' a8 w3 b j a9
     have Z:=YS ((ud a).alloc (.cells (xZz x) 148)) j W0.1.size
     have Q:w3.1[w.1.size]?=E (.cells #[.slice va d.length vc] 105 (0,0)):=(j.block w.1.size (by rw[zN];omega) (fun e=>zr (ud M) (ud a) (by decide) w.1.size e.symm rfl)).trans ((Below.heap_alloc _ _ _ a6).trans (ud M))
     obtain⟨d1,-⟩:=zc Q
     have f1:w3.frozen? (U w.1.size 0)=false:=zv Q 0
     have aa:=zd Q
     have a3:=ze b
     have a1:=ze j
     have a2:=ze Z
     have L:=ze Q
     clear b j Z Q
     go_frame)
   |gi_in)
  have hk:=ud a2
  have y:(W.alloc (.cells (xZz x) 148)).grownBy w3 (Value.slice va d.length vc).ownBlock:=ud a1
  have m:=ud a3
  have hb:=ud u
  have g:=(z9 W.1.size W).alloc (T _) (.cells (xZz x) 148)
  have a4:zb w.1.size w w3:=(hb.alloc hb.size _).grown y (by have:=hb.size;rw[zN];omega) (fun k e=>((ud a).lt k e).1)
  refine⟨((zk g).trans hk.1).trans ((KeepsOthers.setCell w3 (U w.1.size 0) _).from _),((KeepsWalks.alloc _ _).trans hk.2).trans (KeepsWalks.setCell _ _ _),?_⟩
  exact⟨_,xy (i:=0) (ud L) _,zi m (zg (f:=fun k=>k=w.1.size) (zh.refl _ _) rfl) (fun k a5 e=>zr (ud L) m (by decide) k a5 e),a4.setCell (p:=(U w.1.size 0)) (T _) _⟩
 case done=>
  rintro D xs W hD hS ⟨v,H,i2,i3⟩ J
  obtain⟨va,vc,rfl⟩:=zS i2
  obtain⟨c2,-⟩:=zc H
  have a:=ze i2
  have u:=ze i3
  clear H i2 i3
  gi_wp2
  refine⟨by simp,.inl ⟨_,_,rfl,run_takeDeferred J,?_⟩⟩
  exact⟨_,results_tmp rfl _ _ _,xs,_,hS,rfl,Zx (ud a) (grownBy_putObj' _ _ _) (fun r e=>by cases e;exact⟨_,J,rfl⟩),xu (ud u) (T _) (by omega) J _⟩
 case stop=>
  rintro D c d W _ _ h _
  exact h.elim
theorem zaB(gf:Nat)(lb:Array z1)(b:∀args w,(callFunc gf args).run prog w=.ok (.enter gf args) w){N:Nat}{S:List SX->Prop}(w:G)(j:N<=1000000)
  (a:Yb Fence.wide 6 prog gf lb (fun x:SX=>#[.agg (xZz x)]) KeepsWalks S (fun _=>True) N 0 w):
  Calls prog 208 #[.func (.func gf) #[] lb] w fun e w'=>∃xs v,S xs/\e=.returned v/\vW w' w.1.size v xs/\zb w.1.size w w':=by
 have h:=ze (zeJ gf lb b w j a)
 clear a b
 go_enter func208,ntmps208
 go_wp2_with(go_at_call 245;refine(ud h).mono ?_;rintro e k ⟨xs,v,c,rfl,f,d⟩;have i:=ze c;have HR:=ze f;have g:=ze d;clear c f d)
 go_ret
 exact⟨xs,v,ud i,rfl,ud HR,ud g⟩
def zdZ(x y:Sg):Int:=orL [vE x.t y.t,vE x.sr y.sr,vE x.wn y.wn]
theorem QD(x y:Sg)(w:G):Calls prog 166 #[.agg #[I x.t,I x.sr,I x.wn],.agg #[I y.t,I y.sr,I y.wn]] w fun e w'=>e=.returned (I (zdZ x y))/\Dr.Below w.1.size w w':=by
 obtain⟨i,j,g,r⟩:=Dr.box2 w (.cells #[I x.t,I x.sr,I x.wn] 146) (.cells #[I y.t,I y.sr,I y.wn] 146)
 obtain⟨Y,f⟩:∃Y,((w.alloc (.cells #[I x.t,I x.sr,I x.wn] 146)).alloc (.cells #[I y.t,I y.sr,I y.wn] 146))=Y:=⟨_,rfl⟩
 rw[f]at i j g r
 obtain⟨M,N,O,-⟩:=zc i
 obtain⟨P,Q,R,-⟩:=zc j
 have m:=fun(a b:Int) W=>ze (kH a b W)
 have d:∀W:G,W.1[Y.1.size]?=E (.cells #[I (vE x.t y.t),I (vE x.sr y.sr),I (vE x.wn y.wn)] 3)->Hid (Calls prog 163 #[.slice (E (U Y.1.size 0)) 3 3] W fun e w'=>e=.returned (I (zdZ x y))/\w'=W):=fun W z=>
  ziE [vE x.t y.t,vE x.sr y.sr,vE x.wn y.wn] (by simp) W Y.1.size (fun k v c=>by
   rw[xH z]
   match k,c with
   |0,c=>simp at c;subst c;rfl
   |1,c=>simp at c;subst c;rfl
   |2,c=>simp at c;subst c;rfl)
 have n:=d (Y.alloc (.cells #[I (vE x.t y.t),I (vE x.sr y.sr),I (vE x.wn y.wn)] 3)) (zp _ _)
 have o:=d (Y.alloc (.cells #[I (vE x.t y.t),I (vE x.sr y.sr),I (vE x.wn y.wn)] 3)).drew (zp _ _)
 have p:=d (Y.drew.alloc (.cells #[I (vE x.t y.t),I (vE x.sr y.sr),I (vE x.wn y.wn)] 3)) (zp Y.drew _)
 have D:=zd i
 have F:=zd j
 have l:=ze g
 have q:=ze f
 clear i j d g f r
 generalize h:zdZ x y=H at*
 have u:=ze h
 clear h
 generalize A:vE x.t y.t=J at*
 generalize B:vE x.sr y.sr=K at*
 generalize hc2:vE x.wn y.wn=L at*
 go_enter func166,ntmps166
 go_wp2_with fail
 rw[ud q]
 go_region_held3 (fun w'=>w'.cell? (U w.1.size 0)=E (I x.t)/\w'.cell? (U w.1.size 1)=E (I x.sr)/\w'.cell? (U w.1.size 2)=E (I x.wn)/\w'.cell? (U (w.1.size+1) 0)=E (I y.t)/\w'.cell? (U (w.1.size+1) 1)=E (I y.sr)/\w'.cell? (U (w.1.size+1) 2)=E (I y.wn)) (go_keep) (first
  |(go_at_call 162;(with_reducible refine(ud (m _ _ _)).mono ?_);rintro e V ⟨rfl,rfl⟩)
  |(go_at_call 163;(first|(with_reducible refine(ud n).mono ?_)|(with_reducible refine(ud o).mono ?_)|(with_reducible refine(ud p).mono ?_));rintro e V ⟨rfl,rfl⟩))
 go_wp2_with fail
 go_ret
 have s:=ud l
 exact⟨rfl,(s.alloc s.size _).drew⟩
theorem zkl(x y:SX)(w:G):Calls prog 210 #[.agg (xZz x),.agg (xZz y)] w fun e w'=>e=.returned (I (zdZ x.1 y.1))/\Dr.Below w.1.size w w':=by
 obtain⟨d,f,b,h⟩:=Dr.box2 w (.cells (xZz x) 148) (.cells (xZz y) 148)
 obtain⟨Y,a⟩:∃Y,((w.alloc (.cells (xZz x) 148)).alloc (.cells (xZz y) 148))=Y:=⟨_,rfl⟩
 rw[a]at d f b h
 obtain⟨n,o,p,-⟩:=zc d
 obtain⟨q,r,s,-⟩:=zc f
 have j:=ze (QD x.1 y.1 Y)
 have l:=zd d
 have m:=zd f
 have c:=ze b
 have g:=ze a
 clear d f b a h
 go_enter func210,ntmps210
 go_wp2_with fail
 rw[ud g]
 go_wp2_with(go_at_call 166;refine(ud j).mono ?_;rintro e V ⟨rfl,i⟩;have k:=ze i;clear i)
 go_ret
 exact⟨rfl,(ud c).trans ((ud k).mono (ud c).size)⟩
theorem zcK(x y:Sg):zdZ x y<0↔(x.t<y.t\/x.t=y.t/\(x.sr<y.sr\/x.sr=y.sr/\x.wn<y.wn)):=by
 unfold zdZ
 simp only[orL,vE]
 repeat' split
 all_goals omega
theorem zlr:Go.Sort.SWO (fun x y:SX=>decide (zdZ x.1 y.1<0)) where
 irrefl x:=by simp only[decide_eq_false_iff_not,zcK];omega
 trans x y z h1 h2:=by simp only[decide_eq_true_eq,zcK]at*;omega
 ntrans x y z h1 h2:=by simp only[decide_eq_false_iff_not,zcK]at*;omega
def zql(w:G)(g:Nat)(a0 a a2 a3 a4 a5 b c:z1):G:=((((((((w.setCell (U g 0) a0).setCell (U g 1) a).setCell (U g 2) a2).setCell (U g 3) a3).setCell (U g 4) a4).setCell (U g 5) a5).setCell (U g 6) b).setCell (U g 7) c)
theorem zoL{w:G}{g:Nat}{b0 n m l k f e c:z1}{t:TypeId}{b:Nat×Nat}(h:w.1[g]?=E (.cells #[b0,n,m,l,k,f,e,c] t b))(a0 a a2 a3 a4 a5 d j:z1):(zql w g a0 a a2 a3 a4 a5 d j).1[g]?=E (.cells #[a0,a,a2,a3,a4,a5,d,j] t b):=by
 have o:(w.setCell (U g 0) a0).1[g]?=E (.cells #[a0,n,m,l,k,f,e,c] t b):=xy (i:=0) h a0
 have p:((w.setCell (U g 0) a0).setCell (U g 1) a).1[g]?=E (.cells #[a0,a,m,l,k,f,e,c] t b):=xy (i:=1) o a
 have q:(((w.setCell (U g 0) a0).setCell (U g 1) a).setCell (U g 2) a2).1[g]?=E (.cells #[a0,a,a2,l,k,f,e,c] t b):=xy (i:=2) p a2
 have r:((((w.setCell (U g 0) a0).setCell (U g 1) a).setCell (U g 2) a2).setCell (U g 3) a3).1[g]?=E (.cells #[a0,a,a2,a3,k,f,e,c] t b):=xy (i:=3) q a3
 have s:(((((w.setCell (U g 0) a0).setCell (U g 1) a).setCell (U g 2) a2).setCell (U g 3) a3).setCell (U g 4) a4).1[g]?=E (.cells #[a0,a,a2,a3,a4,f,e,c] t b):=xy (i:=4) r a4
 have u:((((((w.setCell (U g 0) a0).setCell (U g 1) a).setCell (U g 2) a2).setCell (U g 3) a3).setCell (U g 4) a4).setCell (U g 5) a5).1[g]?=E (.cells #[a0,a,a2,a3,a4,a5,e,c] t b):=xy (i:=5) s a5
 have v:(((((((w.setCell (U g 0) a0).setCell (U g 1) a).setCell (U g 2) a2).setCell (U g 3) a3).setCell (U g 4) a4).setCell (U g 5) a5).setCell (U g 6) d).1[g]?=E (.cells #[a0,a,a2,a3,a4,a5,d,c] t b):=xy (i:=6) u d
 have x:((((((((w.setCell (U g 0) a0).setCell (U g 1) a).setCell (U g 2) a2).setCell (U g 3) a3).setCell (U g 4) a4).setCell (U g 5) a5).setCell (U g 6) d).setCell (U g 7) j).1[g]?=E (.cells #[a0,a,a2,a3,a4,a5,d,j] t b):=xy (i:=7) v j
 exact x
theorem zgx{B:Nat}{w:G}{g:Nat}(h:B<=g)(a0 a a2 a3 a4 a5 b c:z1):zb B w (zql w g a0 a a2 a3 a4 a5 b c):=(((((((((z9 _ _).setCell (p:=(U g 0)) h _).setCell (p:=(U g 1)) h _).setCell (p:=(U g 2)) h _).setCell (p:=(U g 3)) h _).setCell (p:=(U g 4)) h _).setCell (p:=(U g 5)) h _).setCell (p:=(U g 6)) h _).setCell (p:=(U g 7)) h _)
theorem QC{V:G}{z a i:Nat}(hn:¬a=z)(a0 b a2 a3 a4 a5 c d:z1):((((((((V.setCell (U z 0) a0).setCell (U z 1) b).setCell (U z 2) a2).setCell (U z 3) a3).setCell (U z 4) a4).setCell (U z 5) a5).setCell (U z 6) c).setCell (U z 7) d).cell? (U a i)=V.cell? (U a i):=by
 simp only[World.cell?,Below.heap_setCell _ _ _ _ (show a≠((U z _):Addr).block from hn)]
theorem zgc{w:G}{s:Nat}{c:Cf}{tv:z1}{lb gb:Nat}{Gl:List (Sg×Unit)}{L:LV}(h:xE w s c tv lb gb Gl L)(hc:c.ok)(k:Nat)(hk:k<c.n)(sr wn:Int)(H:xg sr)(a1:0<=wn/\wn<=100000)(l:Cl)(D:xv (xo c L sr wn k)=l):
  Calls prog 111 #[(O s),.agg #[I k,I sr,I wn]] w (Rz w (.agg #[I k,I sr,I wn,I 3,I l.cnt,I l.sum,C z0 l.mn,C z0 l.mx])):=by
 obtain⟨P,q1,m,yz⟩:=box2 w (.cells #[I k,I sr,I wn] 146) zak
 have r:=fun W hW=>ze (zgo (h.later (w':=W) hW) hc k hk sr wn H a1)
 have a2:(xo c L sr wn k).length<=1000:=by have:=VW L (c.F k) sr (wn*qa c k) (qa c k).toNat;have:=Xl hc hk;show(qK L (c.F k) sr (wn*qa c k) (qa c k).toNat).length<=1000;omega
 have y:=fun ad b cap B W M a0=>ze (Jo ad b cap (xo c L sr wn k) B a2 W M a0)
 obtain⟨X,t⟩:∃X,((w.alloc (.cells #[I k,I sr,I wn] 146)).alloc zak)=X:=⟨_,rfl⟩
 rw[t]at P q1 m yz
 obtain⟨p0,p1,p2,-⟩:=zc P
 have PB:=ze q1
 unfold clV at y
 rw[D]at y
 generalize xo c L sr wn k=zs at*
 have z:=r X m
 have A:=r X.drew m.drew
 have u:=ze m
 have Y:=ze t
 have Q:=zd P
 have qg:=zd q1
 have a3:¬w.1.size=w.1.size+1:=by omega
 clear h m P q1 r t D yz
 go_enter func111,ntmps111
 go_wp2_with fail
 rw[ud Y]
 go_region_held3 (fun w'=>w'.cell? (U w.1.size 0)=E (I k)/\w'.cell? (U w.1.size 1)=E (I sr)/\w'.cell? (U w.1.size 2)=E (I wn)) (first|go_keep|(with_reducible exact⟨(QC (by assumption) _ _ _ _ _ _ _ _).trans (by assumption),(QC (by assumption) _ _ _ _ _ _ _ _).trans (by assumption),(QC (by assumption) _ _ _ _ _ _ _ _).trans (by assumption)⟩)) (first
  |(go_at_call 171;(first|(with_reducible refine(ud z).mono ?_)|(with_reducible refine(ud A).mono ?_));rintro e V ⟨ad,g,cap,rfl,B,hg,o,d⟩;have i:zb X.1.size X V:=⟨d.os,d.tape,d.output,d.size,d.block⟩;clear d;have v0:Cz V w.1.size 0 (I k):=(i.cell (p:=(U w.1.size 0)) Q).trans p0;have v1:Cz V w.1.size 1 (I sr):=(i.cell (p:=(U w.1.size 1)) Q).trans p1;have v2:Cz V w.1.size 2 (I wn):=(i.cell (p:=(U w.1.size 2)) Q).trans p2;have vb:=(i.block _ qg).trans (ud PB);have q:=za Q i.size;have K:=za qg i.size;have R:=y ad g cap B V hg o;have S:=y ad g cap B V.drew hg o;have x:=ze i;have VB:=ze vb;clear i B hg o y vb)
  |(go_at_call 123;(first|(with_reducible refine(ud R).mono ?_)|(with_reducible refine(ud S).mono ?_));rintro e J ⟨rfl,a⟩;have f:zb V.1.size V J:=⟨a.os,a.tape,a.output,a.size,a.block⟩;clear a;have j0:Cz J w.1.size 0 (I k):=(f.cell (p:=(U w.1.size 0)) q).trans v0;have j1:Cz J w.1.size 1 (I sr):=(f.cell (p:=(U w.1.size 1)) q).trans v1;have j2:Cz J w.1.size 2 (I wn):=(f.cell (p:=(U w.1.size 2)) q).trans v2;have N:=(f.block _ K).trans (ud VB);obtain⟨a4,a5,a6,a7,a8,a9,aa,ab,-⟩:=zc N;have jf:=fun j=>zv N j;have ae:=za q f.size;have ac:=za K f.size;have JB:=ze N;have Z:=ze ((ud u).trans (((ud x).trans (f.mono (ud x).size)).mono (ud u).size));clear N f))
 all_goals go_wp2_with fail
 all_goals have hf:=zoL (ud JB) (I k) (I sr) (I wn) (I 3) (I l.cnt) (I l.sum) (C z0 l.mn) (C z0 l.mx)
 all_goals have M:=(ud Z).trans (zgx (w:=J) (g:=w.1.size+1) (Nat.le_succ _) (I k) (I sr) (I wn) (I 3) (I l.cnt) (I l.sum) (C z0 l.mn) (C z0 l.mx))
 all_goals unfold zql at hf M
 all_goals refine bodyPost_ret (v:=.agg #[I k,I sr,I wn,I 3,I l.cnt,I l.sum,C z0 l.mn,C z0 l.mx]) (results_cell_row results111 _ _ (w.1.size+1) _ _ _ _ rfl hf underlying148 rfl (by kernel_rfl)) rfl ?_
 all_goals exact⟨rfl,M⟩
def XAt(w:G)(g j:Nat)(x:SX):Prop:=
  w.cell? (U g (j*8))=E (I x.1.t)/\w.cell? (U g (j*8+1))=E (I x.1.sr)/\w.cell? (U g (j*8+2))=E (I x.1.wn)/\w.cell? (U g (j*8+3))=E (I x.2.st)/\
  w.cell? (U g (j*8+4))=E (I x.2.cl.cnt)/\w.cell? (U g (j*8+5))=E (I x.2.cl.sum)/\w.cell? (U g (j*8+6))=E (C z0 x.2.cl.mn)/\w.cell? (U g (j*8+7))=E (C z0 x.2.cl.mx)
def SRd(w:G)(v:z1)(xs:List SX):Prop:=∃a cap,v=.slice a xs.length cap/\(0<xs.length->∃g,a=E (U g 0)/\g<w.1.size/\∀j x,xs[j]?=E x->XAt w g j x)
theorem vW.rd{w:G}{base:Nat}{v:z1}{xs:List SX}(h:vW w base v xs):SRd w v xs:=by
 obtain⟨a,cap,rfl⟩:=h.slice
 refine⟨a,cap,rfl,fun b=>?_⟩
 obtain⟨g,rfl,-,c⟩:=h.form b
 exact⟨g,rfl,c,fun j x d=>h.at d⟩
theorem XAt.later{w w':G}{g j:Nat}{x:SX}(h:XAt w g j x)(n:zb w.1.size w w')(o:g<w.1.size):XAt w' g j x:=by
 obtain⟨a,b,c,d,f,k,l,m⟩:=h
 have e:=fun i=>n.cell (p:=(U g i)) o
 exact⟨(e _).trans a,(e _).trans b,(e _).trans c,(e _).trans d,(e _).trans f,(e _).trans k,(e _).trans l,(e _).trans m⟩
theorem SRd.later{w w':G}{v:z1}{xs:List SX}(h:SRd w v xs)(b:zb w.1.size w w'):SRd w' v xs:=by
 obtain⟨a,cap,e,h⟩:=h
 refine⟨a,cap,e,fun f=>?_⟩
 obtain⟨g,d,c,k⟩:=h f
 exact⟨g,d,za c b.size,fun j x i=>(k j x i).later b c⟩
theorem SRd.slice{w:G}{v:z1}{xs:List SX}(h:SRd w v xs):∃a cap,v=.slice a xs.length cap:=by
 obtain⟨a,cap,e,-⟩:=h;exact⟨a,cap,e⟩
theorem SRd.form{w:G}{a:Option Addr}{n cap:Nat}{xs:List SX}(h:SRd w (.slice a n cap) xs)(i:0<xs.length):∃g,a=E (U g 0)/\n=xs.length/\g<w.1.size/\∀j x,xs[j]?=E x->XAt w g j x:=by
 obtain⟨m,b,e,h⟩:=h
 obtain⟨g,c,k,l⟩:=h i
 injection e with d f o
 exact⟨g,d.trans c,f,k,l⟩
theorem zhb(B g:Nat)(a b c d:Int)(p:∀m∈[a,b,c,d],xg m)(l:z1)(j:List UInt8)(w:G)(h:zaf w B l j)(k:B<=w.1.size)(f:j.length<=70368744177664)(i:zpO B w)
  (o:w.1[g]?=E (.cells #[I a,I b,I c,I d] 2 (0,0))):
  Calls prog 168 #[l,.slice (E (U g 0)) 4 4] w fun e w'=>∃n,e=.returned n/\zaf w' B n (j++vB [a,b,c,d])/\zb B w w'/\Lib.OthersKept 5 zf w w':=
 zeI B g [a,b,c,d] p (by simp) l j w h k f i o
theorem zbM{w w':G}(h:Lib.TabIs prog w "internal/strconv.uint64pow10" .u64 Lib.pow10Tab)(a:zb w.1.size w w'):Lib.TabIs prog w' "internal/strconv.uint64pow10" .u64 Lib.pow10Tab:=Lib.tabBelow_of_tabIs h _ a
theorem zaf.alloc{w:G}{B:Nat}{v:z1}{a:List UInt8}(h:zaf w B v a)(o:Obj):zaf (w.alloc o) B v a:=World.ownsRow.alloc h o
theorem zbV(now:Int)(D:xg now)(xs:List SX)(J:∀x∈xs,okX x)(aq:xs.length<=100000000)(v:z1)(w:G)(hv:SRd w v xs)(H:Lib.TabIs prog w "internal/strconv.uint64pow10" .u64 Lib.pow10Tab):
  Calls prog 108 #[.agg #[I now,v]] w (Rz w (.string ⟨(Xn now xs).toArray⟩)):=by
 obtain⟨ad,cap,rfl⟩:=hv.slice
 have a:zb w.1.size w (w.alloc (.cells #[I now,.slice ad xs.length cap] 190)):=(z9 _ _).alloc (T _) _
 have u:=zp w (.cells #[I now,.slice ad xs.length cap] 190)
 have ac:=zN w (.cells #[I now,.slice ad xs.length cap] 190)
 have F:=fun k=>jG D (xs:=xs.take k) (fun x h=>J x (List.mem_of_mem_take h))
 have b:=hv.later a
 have y:=Lib.tabBelow_of_tabIs (zbM H a)
 obtain⟨X,hX⟩:∃X,(w.alloc (.cells #[I now,.slice ad xs.length cap] 190))=X:=⟨_,rfl⟩
 rw[hX]at a u ac b y
 obtain⟨k0,-⟩:=zc u
 have M:=ze (zaq X.1.size 0 now D (.slice zf 0 0) [] X (World.ownsRow_nil _ _ _ _) (T _) (by omega) y)
 have ak:=ze hX
 have a0:=ze a
 have ag:=ze u
 have aj:=ze b
 have a4:=ze y
 have ai:=ze J
 have a3:=ze F
 have ap:w.1.size<X.1.size:=by omega
 clear hX a u b y J F hv H ac
 go_enter func108,ntmps108
 go_wp2_with fail
 rw[ud ak]
 go_wp2_with(go_at_call 167;refine(ud M).mono ?_;rintro e W ⟨v0,rfl,q,R,-⟩;have c1:Cz W w.1.size 1 (.slice ad xs.length cap):=(R.cell (p:=(U w.1.size 1)) ap).trans (by rw[xH (ud ag)];rfl))
 have HO:=ze q
 have ae:=ze R
 clear q R c1 k0
 go_loopw [3,12] (fun v i wr=>∃k:Nat,k<=xs.length/\i=I k/\zaf wr X.1.size v (Xn now (xs.take k))/\zb X.1.size X wr) (fun _ i _=>xs.length-(intOf i).toNat)
 case atStart=>exact⟨0,Nat.zero_le _,rfl,by
  have h:=ud HO
  rw[Nat.zero_add,List.nil_append]at h
  have e:Xn now (xs.take 0)=Lib.itoa now:=by simp[Xn]
  rw[e];exact h,ud ae⟩
 case round=>
  obtain⟨k,hk,rfl,hv,hb⟩:=hrel
  have hbs:=hb.size
  have hr:=ud a3 k
  rw[List.length_take]at hr
  by_cases ao:k<xs.length
  ·obtain⟨x,J⟩:=zmD ao
   have o:=ud ai x (List.mem_of_getElem? J)
   have ab:=(ud aj).later hb
   obtain⟨g,rfl,-,aw,a7⟩:=ab.form (by omega)
   obtain⟨x0,x1,x2,x3,x4,x5,x6,x7⟩:=a7 k x J
   clear a7
   have ax:(k:Int)<xs.length:=by omega
   obtain⟨ay,az⟩:=o.mn
   obtain⟨aA,aB⟩:=o.mx
   have m:=o.seg
   have B:=o.cel
   unfold zke at m
   unfold zmy at B
   obtain⟨Y,Z⟩:∃Y,(wr.alloc (.cells (xZz x) 148))=Y:=⟨_,rfl⟩
   have S:zb X.1.size X Y:=by rw[<-Z];exact hb.alloc hbs _
   have Q:Y.1[wr.1.size]?=E (.cells (xZz x) 148 (0,0)):=by rw[<-Z];exact zp _ _
   have an:Y.1.size=wr.1.size+1:=by rw[<-Z];exact zN _ _
   have z:=zaf.alloc hv (.cells (xZz x) 148)
   rw[Z]at z
   obtain⟨zs,V⟩:∃zs,Xn now (xs.take k)=zs:=⟨_,rfl⟩
   rw[V]at z hr
   have HZ:=ze V
   have HX:=ze J
   have aD:zs.length<=20000000000:=by omega
   obtain⟨y0,y1,y2,y3,y4,y5,y6,y7,-⟩:=zc Q
   obtain⟨n0,s,a6⟩:∃n0:Nat,zb X.1.size X (Y.alloc (.cells #[I x.1.t,I x.1.sr,I x.1.wn,I x.2.st] 2))/\(Y.alloc (.cells #[I x.1.t,I x.1.sr,I x.1.wn,I x.2.st] 2)).1[Y.1.size]?=E (.cells #[I x.1.t,I x.1.sr,I x.1.wn,I x.2.st] 2 (0,0)):=⟨0,S.alloc S.size _,zp _ _⟩
   have L:=ze (zhb X.1.size Y.1.size x.1.t x.1.sr x.1.wn x.2.st m _ zs _ (zaf.alloc z _) (Nat.le_trans s.size (T _)) (by omega) ((ud a4).on s) a6)
   have ah:=ze (Zg [x.1.t,x.1.sr,x.1.wn,x.2.st] m)
   have r:=ze Q
   have a5:=ze Z
   have a1:=ze s
   have am:=ze an
   clear hb hv ab o Z S Q z V J s a6 m
   rw[ud am]at L
   cases hc:Xf x.2.st
   ·have N:Hid (∀W:G,Calls prog 169 #[I x.2.st] W fun e w'=>e=.returned (.bool false)/\w'=W):=fun W=>by rw[<-hc];exact yZ _ W
    go_wp2_with fail
    rw[ud a5]
    go_wp2_with(first
     |(go_at_call 168;refine(ud L).mono ?_;rintro e W1 ⟨v1,rfl,b,a,d⟩;have h1:=d wr.1.size _ ((Below.heap_alloc _ _ _ (zd (ud r))).trans (ud r)) (by simp) (fun c fz e=>by cases e);obtain⟨-,-,-,z3,-⟩:=zc h1;have O:=ze b;have K:=ze a;clear b a d h1)
     |(go_at_call 169;refine(ud N _).mono ?_;rintro e w2 ⟨rfl,rfl⟩))
    go_roundw
    case rel=>
     refine⟨k+1,by omega,by go_num,?_,(ud a1).trans (ud K)⟩
     have e:Xn now (xs.take (k+1))=zs++vB [x.1.t,x.1.sr,x.1.wn,x.2.st]:=by
      rw[Q9 (ud HX),zbv,ud HZ];simp[zkd,hc,zke]
     rw[e];exact ud O
    case measure=>simp[intOf];omega
   ·have N:Hid (∀W:G,Calls prog 169 #[I x.2.st] W fun e w'=>e=.returned (.bool true)/\w'=W):=fun W=>by rw[<-hc];exact yZ _ W
    go_wp2_with fail
    rw[ud a5]
    go_wp2_with(first
     |(go_at_call 168;refine(ud L).mono ?_;rintro e W1 ⟨v1,rfl,b,a,d⟩;have h1:=d wr.1.size _ ((Below.heap_alloc _ _ _ (zd (ud r))).trans (ud r)) (by simp) (fun c fz e=>by cases e);refine Hid.out ?_)
     |fail)
    refine Lib.hid ?_
    obtain⟨-,-,-,z3,z4,z5,z6,z7,-⟩:=zc h1
    have n:=(ud a1).trans a
    have a9:=ud ah
    obtain⟨ys,A⟩:∃ys,zs++vB [x.1.t,x.1.sr,x.1.wn,x.2.st]=ys:=⟨_,rfl⟩
    have aE:ys.length<=30000000000:=by rw[<-A,List.length_append];simp only[List.length_cons,List.length_nil]at a9;omega
    rw[A]at b
    have al:=ze A
    have f:zb X.1.size X (W1.alloc (.cells #[I x.2.cl.cnt,I x.2.cl.sum,I x.2.cl.mn,I x.2.cl.mx] 2)):=n.alloc n.size _
    have af:=ze (zhb X.1.size W1.1.size x.2.cl.cnt x.2.cl.sum x.2.cl.mn x.2.cl.mx B v1 ys _ (zaf.alloc b _) f.size (by omega) ((ud a4).on f) (zp _ _))
    have a2:=ze f
    clear h1 a d b n a9 A f
    go_wp2_with(first
     |(go_at_call 169;refine(ud N _).mono ?_;rintro e w2 ⟨rfl,rfl⟩)
     |(go_at_call 168;refine(ud af).mono ?_;rintro e W2 ⟨v2,rfl,aa,a8,-⟩;have O:=ze aa;have K:=ze a8;clear aa a8))
    go_roundw
    case rel=>
     refine⟨k+1,by omega,by go_num,?_,(ud a2).trans (ud K)⟩
     have e:Xn now (xs.take (k+1))=ys++vB [x.2.cl.cnt,x.2.cl.sum,x.2.cl.mn,x.2.cl.mx]:=by
      rw[Q9 (ud HX),zbv,ud HZ,<-ud al];simp[zkd,hc,zke,zmy]
     rw[e];exact ud O
    case measure=>simp[intOf];omega
  ·obtain rfl:k=xs.length:=by omega
   rw[List.take_length]at hv
   have aC:decide ((xs.length:Int)<xs.length)=false:=by simp
   obtain⟨l,hl⟩:∃l,Xn now xs=l:=⟨_,rfl⟩
   rw[hl]at hv
   have ar:0<l.length:=by rw[<-hl];unfold Xn;rw[List.length_append];have:=zkY now;omega
   have HL:=ze hl
   have HB:=ze ((ud a0).trans (hb.mono (ud a0).size))
   clear hb hl hr
   rcases hv.2 with⟨-,h0⟩|⟨g,cp,au,rfl,-⟩
   ·omega
   ·have av:=run_convert_bytes_back (P:=prog) wr 250 9 5 (U g 0) cp l underlying250 underlying5 underlying9 (fun j hj=>World.ownsRow.cells hv (g:=g) rfl j _ (by simp[Lib.byteCells,hj]))
    clear hv
    go_wp2_with fail
    go_ret
    rw[ud HL]
    exact⟨rfl,ud HB⟩
end Go.Proofs.YtndhpgciopcncaaGreatDoor
