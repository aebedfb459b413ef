import Derived.Test.YtndhpgciopcncaaGreatDoorYCmp0
import Derived.Deep.RegionHeld3
open Go.Value renaming int → I
open Go.IntKind renaming i64 → J
open Go.IntKind renaming i32 → K
open Option renaming none → O
open Option renaming some → E
open Nat renaming le_refl → U
open Nat renaming lt_of_lt_of_le → Z
open Go renaming World → N
open Nat renaming le_of_lt → S
set_option linter.unusedVariables false
set_option maxHeartbeats 4000000
open Go.Proofs.Tryz
namespace Go.Proofs.YtndhpgciopcncaaGreatDoor
open Go.ChangeMaps (setBlock)
open Go.RowKit Go.Maps Go.Shelf
def qc(zs:List Cl):Cl:=⟨kW (zs.map (·.cnt)),kW (zs.map (·.sum)),((qX Yn zs).getD qC).mn,((qX Yo zs).getD qC).mx⟩
section
variable {b cap:Nat} {ad:Option Addr} {zs:List Cl} {Y:N}
theorem XW(a:zs≠[]->ad=E ⟨b,0,O⟩)(e:zs.length<=1000)(c:b<Y.1.size)(d:CAt Y b zs):SeqStopsK Fence.wide 6 prog 238 #[.pointer (E ⟨Y.1.size,0,O⟩)] (fun x:Cl=>#[.agg #[I J x.cnt,I J x.sum,I K x.mn,I K x.mx]]) (Below (Y.alloc (.cells #[.slice ad zs.length cap] 208)).1.size) (fun xs=>xs=zs) (fun _=>True) zs.length (Y.alloc (.cells #[.slice ad zs.length cap] 208)):=
 KC 6 (by omega) Y.1.size _ b cap ad zs a e (by simp;omega) _ (U _) (by simp) (by rw[xd (zr _ _)];rfl) (d.below ((Below.refl _ _).alloc (U _) _) c)
theorem Qb{w':N}{o:Obj}(h:Below (Y.alloc o).1.size (Y.alloc o) w'):Below Y.1.size Y w':=((Below.refl _ _).alloc (U _) o).trans (h.mono (by simp))
theorem zhq(V:Int)(a:kW (zs.map (·.cnt))=V)(c:zs≠[]->ad=E ⟨b,0,O⟩)(g:zs.length<=1000)(d:b<Y.1.size)(f:CAt Y b zs):Calls prog 190 #[.func (.func 238) #[] #[.pointer (E ⟨Y.1.size,0,O⟩)],.func (.func 191) #[] #[]] (Y.alloc (.cells #[.slice ad zs.length cap] 208)) fun e w'=>e=.returned (I J V)/\Below Y.1.size Y w':=by
 refine(zje _ _ Zu (·.cnt) _ (yU _) (fun x W _=>zel x W) (XW c g d f)).mono ?_
 rintro e w' ⟨xs,rfl,rfl,h⟩
 exact⟨by rw[a],Qb h⟩
theorem zhr(V:Int)(a:kW (zs.map (·.sum))=V)(c:zs≠[]->ad=E ⟨b,0,O⟩)(g:zs.length<=1000)(d:b<Y.1.size)(f:CAt Y b zs):Calls prog 192 #[.func (.func 238) #[] #[.pointer (E ⟨Y.1.size,0,O⟩)],.func (.func 193) #[] #[]] (Y.alloc (.cells #[.slice ad zs.length cap] 208)) fun e w'=>e=.returned (I J V)/\Below Y.1.size Y w':=by
 refine(zjf _ _ Zu (·.sum) _ (yU _) (fun x W _=>zem x W) (XW c g d f)).mono ?_
 rintro e w' ⟨xs,rfl,rfl,h⟩
 exact⟨by rw[a],Qb h⟩
theorem zet(f:Cl)(s:Bool)(g:(qX Yn zs).getD qC=f)(i:(qX Yn zs).isSome=s)(a:zs≠[]->ad=E ⟨b,0,O⟩)(j:zs.length<=1000)(c:b<Y.1.size)(d:CAt Y b zs):Calls prog 185 #[.func (.func 238) #[] #[.pointer (E ⟨Y.1.size,0,O⟩)],.func (.func 187) #[] #[]] (Y.alloc (.cells #[.slice ad zs.length cap] 208)) fun e w'=>e=.returned (.tuple #[.agg #[I J f.cnt,I J f.sum,I K f.mn,I K f.mx],.bool s])/\Below Y.1.size Y w':=by
 refine(zcq _ _ Zu _ (yU _) (XW a j c d)).mono ?_
 rintro e w' ⟨xs,rfl,rfl,h⟩
 exact⟨by rw[g,i];rfl,Qb h⟩
theorem VJ(f:Cl)(s:Bool)(g:(qX Yo zs).getD qC=f)(i:(qX Yo zs).isSome=s)(a:zs≠[]->ad=E ⟨b,0,O⟩)(j:zs.length<=1000)(c:b<Y.1.size)(d:CAt Y b zs):Calls prog 185 #[.func (.func 238) #[] #[.pointer (E ⟨Y.1.size,0,O⟩)],.func (.func 189) #[] #[]] (Y.alloc (.cells #[.slice ad zs.length cap] 208)) fun e w'=>e=.returned (.tuple #[.agg #[I J f.cnt,I J f.sum,I K f.mn,I K f.mx],.bool s])/\Below Y.1.size Y w':=by
 refine(zcr _ _ Zu _ (yU _) (XW a j c d)).mono ?_
 rintro e w' ⟨xs,rfl,rfl,h⟩
 exact⟨by rw[g,i];rfl,Qb h⟩
end
theorem zbu(ad:Option Addr)(b cap:Nat)(zs:List Cl)(ha:zs≠[]->ad=E ⟨b,0,O⟩)(hz:zs.length<=1000)(w:N)(u:b<w.1.size)(q:CAt w b zs):
  Calls prog 123 #[.slice ad zs.length cap] w fun e w'=>e=.returned (clV (qc zs))/\Below w.1.size w w':=by
 obtain⟨c,P⟩:∃f,(qX Yn zs).getD qC=f:=⟨_,rfl⟩
 obtain⟨s1,aa⟩:∃f,(qX Yn zs).isSome=f:=⟨_,rfl⟩
 obtain⟨a,Q⟩:∃f,(qX Yo zs).getD qC=f:=⟨_,rfl⟩
 obtain⟨s2,ab⟩:∃f,(qX Yo zs).isSome=f:=⟨_,rfl⟩
 obtain⟨T,y⟩:∃f,kW (zs.map (·.cnt))=f:=⟨_,rfl⟩
 obtain⟨v2,z⟩:∃f,kW (zs.map (·.sum))=f:=⟨_,rfl⟩
 have hj:clV (qc zs)=.agg #[I J T,I J v2,I K c.mn,I K a.mx]:=by unfold qc clV;rw[P,Q,y,z]
 rw[hj]
 clear hj
 have aG:=zd y
 have aH:=zd z
 have H:Below w.1.size w (w.alloc (.cells #[I J 0,I J 0,I K 0,I K 0] 115)):=(Below.refl _ _).alloc (U _) _
 have a7:=zr w (.cells #[I J 0,I J 0,I K 0,I K 0] 115)
 have ae:=zG w (.cells #[I J 0,I J 0,I K 0,I K 0] 115)
 have G:=fun Y=>zd (zab ad zs.length cap Y)
 have au:=fun(Y:N) (u:b<Y.1.size) (q:CAt Y b zs)=>zd (zet (cap:=cap) (Y:=Y) c s1 P aa ha hz u q)
 have am:=fun(Y:N) (u:b<Y.1.size) (q:CAt Y b zs)=>zd (VJ (cap:=cap) (Y:=Y) a s2 Q ab ha hz u q)
 have av:=fun(Y:N) (u:b<Y.1.size) (q:CAt Y b zs)=>zd (zhq (cap:=cap) (Y:=Y) T y ha hz u q)
 have W:=fun(Y:N) (u:b<Y.1.size) (q:CAt Y b zs)=>zd (zhr (cap:=cap) (Y:=Y) v2 z ha hz u q)
 clear P aa Q ab y z hz ha
 go_enter func123,ntmps123
 go_wp2_with fail
 have L:=q.below H u
 generalize(w.alloc (.cells #[I J 0,I J 0,I K 0,I K 0] 115))=X0 at*
 have a3:b<X0.1.size:=by omega
 have az:w.1.size<X0.1.size:=by omega
 have aI:=zd ae
 clear ae
 have X:=G X0
 refine(ud X).mono ?_
 rintro e x1 ⟨rfl,rfl⟩
 go_wp2_with fail
 have ao:=au X0 a3 L
 refine(ud ao).mono ?_
 rintro e i ⟨rfl,a1⟩
 have F:=zd a1
 clear a1
 go_wp2_with fail
 have o:=(ud F).alloc (ud F).size (.cells #[I J c.cnt,I J c.sum,I K c.mn,I K c.mx] 115)
 have a8:=zr i (.cells #[I J c.cnt,I J c.sum,I K c.mn,I K c.mx] 115)
 have aj:=zG i (.cells #[I J c.cnt,I J c.sum,I K c.mn,I K c.mx] 115)
 have M:=L.below o (by omega)
 generalize(i.alloc (.cells #[I J c.cnt,I J c.sum,I K c.mn,I K c.mx] 115))=XA at*
 have aD:=o.size
 have a4:b<XA.1.size:=by omega
 have aA:w.1.size<XA.1.size:=by omega
 have aM:i.1.size<XA.1.size:=by omega
 have aJ:=zd aj
 clear aj
 have a0:=G XA
 refine(ud a0).mono ?_
 rintro e x1 ⟨rfl,rfl⟩
 go_wp2_with fail
 have ap:=am XA a4 M
 refine(ud ap).mono ?_
 rintro e l ⟨rfl,a2⟩
 have r:=zd a2
 clear a2
 go_wp2_with fail
 have m:=(ud r).alloc (ud r).size (.cells #[I J a.cnt,I J a.sum,I K a.mn,I K a.mx] 115)
 have a9:=zr l (.cells #[I J a.cnt,I J a.sum,I K a.mn,I K a.mx] 115)
 have aC:=zG l (.cells #[I J a.cnt,I J a.sum,I K a.mn,I K a.mx] 115)
 have a6:=M.below m (by omega)
 have C:=(m.block i.1.size (by omega)).trans a8
 have k:=(m.block w.1.size (by omega)).trans ((o.block w.1.size (by omega)).trans a7)
 have ac:Below w.1.size w (l.alloc (.cells #[I J a.cnt,I J a.sum,I K a.mn,I K a.mx] 115)):=H.trans ((o.mono (S az)).trans (m.mono (S aA)))
 have aE:=m.size
 have aF:=(ud r).size
 generalize(l.alloc (.cells #[I J a.cnt,I J a.sum,I K a.mn,I K a.mx] 115))=t at*
 obtain⟨-,-,l1,-⟩:=zc C
 obtain⟨-,-,-,l2,-⟩:=zc a9
 obtain⟨r0,r1,r2,r3,-⟩:=zc k
 have rf:=fun j=>zH k j
 have an:=zd k
 have aw:=zd ac
 have af:i.1.size<t.1.size:=by omega
 have ag:l.1.size<t.1.size:=by omega
 have R:w.1.size<t.1.size:=by omega
 have hbb:b<t.1.size:=by omega
 clear a7 a8 C a9 k o m ac M L q aD aE aF aC H
 have ax:¬i.1.size=w.1.size:=by have:=(ud F).size;omega
 have ay:¬l.1.size=w.1.size:=by have:=(ud r).size;omega
 have aK:¬w.1.size=i.1.size:=fun h=>ax h.symm
 have aL:¬w.1.size=l.1.size:=fun h=>ay h.symm
 have V:Hid (Calls prog 190 #[.func (.func 238) #[] #[.pointer (E ⟨t.1.size,0,O⟩)],.func (.func 191) #[] #[]] (t.alloc (.cells #[.slice ad zs.length cap] 208)).drew fun e w'=>e=.returned (I J T)/\Below t.1.size t w'):=zd ((ud (av t.drew hbb a6)).mono fun e w' h=>⟨h.1,⟨h.2.os,h.2.tape,h.2.output,h.2.size,h.2.block⟩⟩)
 go_region_held3 (fun w'=>w'.cell? ⟨i.1.size,2,O⟩=E (I K c.mn)/\w'.cell? ⟨l.1.size,3,O⟩=E (I K a.mx)) (go_keep) (first
  |(go_at_call 186;refine(ud (G _)).mono ?_;rintro e x1 ⟨rfl,rfl⟩)
  |(go_at_call 190;refine(ud V).mono ?_;rintro e s ⟨rfl,d⟩;have m1:s.cell? ⟨i.1.size,2,O⟩=E (I K c.mn):=(d.cell (p:=⟨i.1.size,2,O⟩) af).trans l1;have m2:s.cell? ⟨l.1.size,3,O⟩=E (I K a.mx):=(d.cell (p:=⟨l.1.size,3,O⟩) ag).trans l2;have A:b<s.1.size:=Z hbb d.size;have a5:CAt s b zs:=a6.below d hbb;have ah:i.1.size<s.1.size:=Z af d.size;have ai:l.1.size<s.1.size:=Z ag d.size;have D:w.1.size<s.1.size:=Z R d.size;have aq:=zd ((d.block w.1.size R).trans (ud an));have ak:=zd d;clear d)
  |(go_at_call 192;(first|refine(ud (W s A a5)).mono ?_|refine(ud (W s.drew A a5)).mono ?_);rintro e X4 ⟨rfl,n⟩;have n1:X4.cell? ⟨i.1.size,2,O⟩=E (I K c.mn):=(n.cell (p:=⟨i.1.size,2,O⟩) ah).trans m1;have n2:X4.cell? ⟨l.1.size,3,O⟩=E (I K a.mx):=(n.cell (p:=⟨l.1.size,3,O⟩) ai).trans m2;have x:=(n.block w.1.size D).trans (ud aq);obtain⟨q0,q1,q2,q3,-⟩:=zc x;have qf:=fun j=>zH x j;have ar:=zd x;have al:=zd n;clear x n))
 go_wp2_with fail
 have hf:=Ya (ud ar) (I J T) (I J v2) (I K c.mn) (I K a.mx)
 have aB:=(ud aw).trans (((ud ak).mono (S R)).trans (((ud al).mono (S D)).trans (below4 (w:=X4) (B:=w.1.size) (g:=w.1.size) (U _) (I J T) (I J v2) (I K c.mn) (I K a.mx))))
 refine bodyPost_ret (v:=.agg #[I J T,I J v2,I K c.mn,I K a.mx]) (results_cell_row results123 _ _ w.1.size _ _ _ _ rfl hf underlying115 rfl (by kernel_rfl)) rfl ?_
 exact⟨rfl,aB⟩
def yE(v:Int):Cl:=⟨1,v,v,v⟩
def Cl.small(x:Cl):Prop:=0<=x.cnt/\x.cnt<=1000000000000/\ -1000000000000000000<=x.sum/\x.sum<=1000000000000000000
theorem zgw(v:Int)(hv: -2147483648<=v/\v<=2147483647):qc [yE v]=qs v O:=by
 unfold qc
 have a:kW ([yE v].map (·.cnt))=1:=by rw[kh]<;>simp[xI,yE]
 have b:kW ([yE v].map (·.sum))=v:=by rw[kh]<;>simp[xI,yE];omega
 rw[a,b]
 simp[qX,vB,yE,qs]
theorem zdV(a b:Int):zcl a b<0↔a<b:=by
 unfold zcl;split
 ·simp[*]
 ·split<;>simp[*]
theorem zgx(v:Int)(hv: -2147483648<=v/\v<=2147483647)(o:Cl)(e:o.small):qc [yE v,o]=qs v (E o):=by
 obtain⟨f,g,h,i⟩:=e
 unfold qc
 have c:kW ([yE v,o].map (·.cnt))=1+o.cnt:=by rw[kh]<;>simp[xI,yE];omega
 have d:kW ([yE v,o].map (·.sum))=v+o.sum:=by rw[kh]<;>simp[xI,yE];omega
 rw[c,d]
 have a:((qX Yn [yE v,o]).getD qC).mn=if o.mn<v then o.mn else v:=by
  simp only[qX,List.foldl_cons,List.foldl_nil,vB,Yn,zdV,yE]
  split<;>simp
 have b:((qX Yo [yE v,o]).getD qC).mx=if v<o.mx then o.mx else v:=by
  simp only[qX,List.foldl_cons,List.foldl_nil,vB,Yo,zdV,yE]
  split<;>simp
 rw[a,b];rfl
theorem zgY(L:LV)(s:Sg)(v:SV):(yL L s v).length<=L.length+1:=by unfold yL;split<;>simp
def zjc(L:LV):Prop:=∀p∈L,p.2.st≠0
theorem zgK{L:LV}(h:zjc L)(s:Sg):(stL L s).st=0↔s∉zl L:=by
 constructor
 ·intro a b
  obtain⟨v,hv,c⟩:=KH b
  unfold stL at a;rw[hv]at a;exact h _ c a
 ·intro b;unfold stL;rw[ya.2 b];rfl
theorem KR{w:N}{base g size n:Nat}{e:TypeId}{xs:List Value}(h:w.1[g]?=E (.cells xs.toArray e (0,0)))(a:xs.length=n*size)(hn:0<n)(c:n<=maxLen)(b:base<=g):w.ownsRow base e size (.slice (E ⟨g,0,O⟩) n n) n xs:=
 ⟨a,.inr ⟨g,n,_,rfl,b,h,⟨U _,c,by simp[a],by
  show List.take (n*size) xs=xs
  exact List.take_of_length_le (by omega)⟩⟩⟩
def Z0(x:Cl):List Value:=[I J x.cnt,I J x.sum,I K x.mn,I K x.mx]
theorem CAt.of_owns{w:N}{base g cap:Nat}{e:TypeId}{zs:List Cl}(h:w.ownsRow base e 4 (.slice (E ⟨g,0,O⟩) zs.length cap) zs.length (zs.flatMap Z0)):CAt w g zs:=fun j x b=>by
 have d:j<zs.length:=(List.getElem?_eq_some_iff.1 b).1
 have a:=fun i c=>qw (f:=Z0) (k:=4) (fun _=>rfl) zs j x i b c
 refine⟨?_,?_,?_,?_⟩
 ·rw[h.cellAt (j*4) (by omega)];exact a 0 (by omega)
 ·rw[h.cellAt (j*4+1) (by omega)];exact a 1 (by omega)
 ·rw[h.cellAt (j*4+2) (by omega)];exact a 2 (by omega)
 ·rw[h.cellAt (j*4+3) (by omega)];exact a 3 (by omega)
theorem zdn{X:N}{s lb gb:Nat}{c:Cf}{tv:Value}{Gl:List (Sg×Unit)}{L:LV}(h:xl X s c tv lb gb Gl L)(b:L.length<maxLen){k:Sg}(d:k.wf)(v:SV):
  ∃o,(Instr.mapUpdate 152 (.map (E lb)) (.agg #[I J k.t,I J k.se,I J k.wn]) (.agg #[I J k.t,I J k.se,I J k.wn,I J v.st,I J v.cl.cnt,I J v.cl.sum,I K v.cl.mn,I K v.cl.mx])).run prog X=.ok () (setBlock X lb o)/\xl (setBlock X lb o) s c tv lb gb Gl (yL L k v)/\zk (fun k=>k=lb) X (setBlock X lb o)/\o.isCells=false:=by
 obtain⟨o,l,m,g,n⟩:=Jg h.live b d v
 have a:∀{k:Nat} {cs:Array Value} {t:TypeId} {j:Nat×Nat},X.1[k]?=E (.cells cs t j)->¬k=lb:=fun d e=>by
  obtain⟨r,q,p,_⟩:=h.live;rw[e,p]at d;cases d
 refine⟨o,l,⟨g.heap h.head (a h.head),zg h.trow g (fun k d=>?_),m,h.gone.kept g h.apart,h.apart⟩,g,n⟩
 obtain⟨i,f⟩:=zz h.trow d
 exact a f
theorem VS{w X:N}{lb:Nat}{L:LV}{s:Sg}(b:qQ w lb L)(a:Below w.1.size w X)(c:s.wf):(Instr.lookup 152 (.map (E lb)) (.agg #[I J s.t,I J s.se,I J s.wn]) true).run prog X=.ok (.tuple #[.agg #[I J (stX L s).1.t,I J (stX L s).1.se,I J (stX L s).1.wn,I J (stX L s).2.st,I J (stX L s).2.cl.cnt,I J (stX L s).2.cl.sum,I K (stX L s).2.cl.mn,I K (stX L s).2.cl.mx],.bool (ku L s).isSome]) X:=by
 have:=zbO true (b.later a) c
 have e:zaj true (yX zX) L s=.tuple #[yX (stX L s),.bool (ku L s).isSome]:=by
  unfold zaj stX;cases ku L s<;>rfl
 rw[e]at this
 exact this
theorem Tryz.infoCell:(prog.info? 115).map (fun i=>(i.zero,i.size,i.bytes))=E (E (.agg #[I J 0,I J 0,I K 0,I K 0]),4,24):=by kernel_rfl
theorem ziN{w:N}{ops:Array Oper}{rest:List Oper}{o:Oper}{a:Act}{Q:Exit->Act->N->Prop}(e:o.guard=O)(s x:Operand)
  (n:o.op=.call {callee:=.builtin .append,args:=#[s,x],argTypes:=#[208,208]}) (base:Nat) (v:Value) (l:List Cl) (f:Cl) (p:a.eval s=v) (b:w.ownsRow base 115 4 v l.length (l.flatMap Z0))
  (c:Nat) (q:a.eval x=.slice (E ⟨c,0,O⟩) 1 1) (d:w.1[c]?=E (.cells #[I J f.cnt,I J f.sum,I K f.mn,I K f.mx] 115 (0,0))) (r:l.length<=1000000000) (hbase:base<=w.1.size)
  (h:∀g cap w',w'.ownsRow base 115 4 (.slice (E ⟨g,0,O⟩) (l.length+1) cap) (l++[f]).length ((l++[f]).flatMap Z0)->w.grownBy w' v.ownBlock->g<w'.1.size->wpList prog ops Q rest (a.put o.dst (.slice (E ⟨g,0,O⟩) (l.length+1) cap)) w'):wpList prog ops Q (o::rest) a w:=
 zJ e s x 208 n base 115 _ 4 24 underlying208 Tryz.infoCell rfl (by decide) v l.length (l.flatMap Z0) p b ⟨c,0,O⟩ 1 1 [I J f.cnt,I J f.sum,I K f.mn,I K f.mx] q rfl
  (World.news_of_block (cs:=#[I J f.cnt,I J f.sum,I K f.mn,I K f.mx]) d) (by intro u i;simp at i;rcases i with rfl|rfl|rfl|rfl<;>rfl) (by decide) (by simp only[maxLen];omega) (by omega) hbase
  fun g cap w' j _ k _ m=>h g cap w' (by rw[VF,List.length_append,List.length_singleton];exact j) k m
theorem zF{f:Nat->Prop}{A B:N}(h:zk f A B){k i:Nat}(hn:¬f k)(a:k<A.1.size):B.cell? ⟨k,i,O⟩=A.cell? ⟨k,i,O⟩:=by
 simp only[World.cell?,h.block k a hn]
def QY(q:List (Sg×Unit)×LV)(x:SX):List (Sg×Unit)×LV:=if x.2.st=4 then(qI q.1 x.1 (),xn q.2 x.1)else(q.1,yL q.2 x.1 x.2)
def kA(q:List (Sg×Unit)×LV)(xs:List SX):List (Sg×Unit)×LV:=xs.foldl QY q
theorem Xl(q:List (Sg×Unit)×LV)(xs:List SX)(x:SX):kA q (xs++[x])=QY (kA q xs) x:=by simp[kA]
def zhL(c:Cf)(L:LV)(x:Nm):SX:=(xc c x,⟨1,qs x.val ((ku L (xc c x)).map (·.cl))⟩)
def QP(c:Cf)(Gl:List (Sg×Unit))(L:LV)(x:Nm)(k:Nat):List SX:=((qg c x.se x.tm k).filter (fun s=>(stG Gl L s).st==0)).map (fun s=>(s,(⟨2,qC⟩:SV)))
def km(c:Cf)(Gl:List (Sg×Unit))(L:LV)(x:Nm):List SX:=zhL c L x::QP c Gl L x c.n
theorem YR(c:Cf)(x:Nm):∀(k:Nat) (L:LV) (s:Sg),s∈zl (yI c x k L)↔s∈zl L\/∃j:Nat,j<k/\s=zt c (j:Int) x
 |0,L,s=>by simp[yI]
 |k+1,L,s=>by
  have f:=YR c x k L
  show s∈zl (xF c x k (yI c x k L))↔_
  unfold xF
  by_cases d:zt c (k:Int) x∈zl (yI c x k L)
  ·rw[if_pos d,f]
   constructor
   ·rintro(h|⟨j,b,e⟩)
    ·exact .inl h
    ·exact .inr ⟨j,by omega,e⟩
   ·rintro(h|⟨j,b,e⟩)
    ·exact .inl h
    ·by_cases a:j=k
     ·subst a;subst e;exact(f _).1 d
     ·exact .inr ⟨j,by omega,e⟩
  ·rw[if_neg d,xw,f]
   constructor
   ·rintro((h|⟨j,b,e⟩)|e)
    ·exact .inl h
    ·exact .inr ⟨j,by omega,e⟩
    ·exact .inr ⟨k,by omega,e⟩
   ·rintro(h|⟨j,b,e⟩)
    ·exact .inl (.inl h)
    ·by_cases a:j=k
     ·subst a;exact .inr e
     ·exact .inl (.inr ⟨j,by omega,e⟩)
theorem Jb{c:Cf}{Gl:List (Sg×Unit)}{L:LV}{x:Nm}(d:zjc L)(b:∀k:Nat,k<c.n->zS Gl (zt c (k:Int) x)=O):∀k:Nat,k<=c.n->kA (Gl,qE c L x) (QP c Gl L x k)=(Gl,yI c x k (qE c L x))
 |0,_=>rfl
 |k+1,o=>by
  have i:=Jb d b k (by omega)
  have l:xZ c x.se x.tm k=zt c (k:Int) x:=rfl
  have g:(stG Gl L (zt c (k:Int) x)).st=0↔zt c (k:Int) x∉zl L:=by unfold stG;rw[b k (by omega)];exact zgK d _
  have a:zt c (k:Int) x∈zl (yI c x k (qE c L x))↔zt c (k:Int) x∈zl L:=by
   rw[YR]
   unfold qE
   rw[xw]
   constructor
   ·rintro((h|h)|⟨j,m,e⟩)
    ·exact h
    ·exact absurd h (zfm (by omega))
    ·exact absurd e (zfm (by omega))
   ·exact fun h=> .inl (.inl h)
  have e:QP c Gl L x (k+1)=QP c Gl L x k++(if zt c (k:Int) x∈zl L then[]else[(zt c (k:Int) x,(⟨2,qC⟩:SV))]):=by
   unfold QP
   rw[yY,List.filter_append,List.map_append,l]
   congr 1
   by_cases h:zt c (k:Int) x∈zl L
   ·rw[if_pos h,List.filter_cons,if_neg (by simpa using fun f=>g.1 f h)];rfl
   ·rw[if_neg h,List.filter_cons,if_pos (by simpa using g.2 h)];rfl
  rw[e]
  show _=(Gl,xF c x k (yI c x k (qE c L x)))
  unfold xF
  by_cases h:zt c (k:Int) x∈zl L
  ·rw[if_pos h,if_pos (a.2 h),List.append_nil,i]
  ·rw[if_neg h,if_neg (fun f=>h (a.1 f)),Xl,i]
   rfl
theorem zcW{c:Cf}{Gl:List (Sg×Unit)}{L:LV}{x:Nm}(b:zjc L)(a:∀k:Nat,k<c.n->zS Gl (zt c (k:Int) x)=O):kA (Gl,L) (km c Gl L x)=(Gl,yH c L x):=by
 have h:=Jb b a c.n (U _)
 unfold yH
 rw[<-h];rfl
end Go.Proofs.YtndhpgciopcncaaGreatDoor
