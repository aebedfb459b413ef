import Derived.Test.YtndhpgciopcncaaGreatDoorHCmp0
import Derived.Deep.RegionHeld3
import Derived.Lib.AppendIntMem
import Derived.Lib.ItoaLen
import Derived.Test.YtndhpgciopcncaaGreatDoorHHaltedFact
import Derived.Lib.Slices
import Derived.Lib.Hide
import Derived.Laws.IdiomStrings
import Derived.OwnWalk
import Derived.WalkKit
import Derived.BigCall
import Derived.Maps.OwnIn
import Derived.OwnWalkIn
import Derived.Sort.Statements
open Option renaming some → E
open Nat renaming le_refl → G
open Go.Value renaming int → T
open Go.IntKind renaming i32 → C
open Go.RowKit.Below renaming refl → z0
open Nat renaming lt_of_lt_of_le → z1
open Go.RowKit renaming Below → z9
open Go renaming World → za
open Go renaming Value → zb
open Option renaming none → zf
open List renaming mem_cons → zl
open Nat renaming le_of_lt → zz
set_option linter.unusedVariables false
set_option maxRecDepth 100000
set_option maxHeartbeats 8000000
open Go.Proofs.Tryz
namespace Go.Proofs.YtndhpgciopcncaaGreatDoor
open Go.ChangeMaps (setBlock)
open Go.RowKit Go.Maps Go.Shelf
variable {a:Act} {ops:Array Oper} {c:Cf} {Q:Exit->Act->za->Prop} {L:LV} {Gl:List (Sg×Unit)} {q:List (Sg×Unit)×LV} {rest:List Oper} {l xs:List SX} {S:List SX->Prop} {bs:List UInt8} {B N base cap g gb i j k lb n s size:Nat} {fr:Nat×Nat} {o:Oper} {x:SX} {tv v:zb} {W X w w':za}
def xx(zs:List Cl):Cl:=⟨vN (zs.map (·.cnt)),vN (zs.map (·.sum)),((yd KB zs).getD qA).mn,((yd KC zs).getD qA).mx⟩
section
variable {b cap:Nat} {ad:Option Addr} {zs:List Cl} {Y:za}
theorem Yx(a:zs≠[]->ad=E (U b 0))(e:zs.length<=1000)(c:b<Y.1.size)(d:CAt Y b zs):SeqStopsK Fence.wide 6 prog 238 #[(O Y.1.size)] (fun x:Cl=>#[.agg #[I x.cnt,I x.sum,T C x.mn,T C x.mx]]) (z9 (Y.alloc (.cells #[.slice ad zs.length cap] 208)).1.size) (fun xs=>xs=zs) (fun _=>True) zs.length (Y.alloc (.cells #[.slice ad zs.length cap] 208)):=
 JE 6 (by omega) Y.1.size _ b cap ad zs a e (by simp;omega) _ (G _) (by simp) (by rw[xR (zq _ _)];rfl) (d.below ((z0 _ _).alloc (G _) _) c)
theorem YM{o:Obj}(h:z9 (Y.alloc o).1.size (Y.alloc o) w'):z9 Y.1.size Y w':=((z0 _ _).alloc (G _) o).trans (h.mono (by simp))
theorem zmn(V:Int)(a:vN (zs.map (·.cnt))=V)(c:zs≠[]->ad=E (U b 0))(g:zs.length<=1000)(d:b<Y.1.size)(f:CAt Y b zs):Calls prog 190 #[.func (.func 238) #[] #[(O Y.1.size)],.func (.func 191) #[] #[]] (Y.alloc (.cells #[.slice ad zs.length cap] 208)) (Rz Y (I V)):=by
 refine(zoV _ _ XT (·.cnt) _ (vh _) (fun x W _=>zin x W) (Yx c g d f)).mono ?_;rintro e w' ⟨xs,rfl,rfl,h⟩;exact⟨by rw[a],YM h⟩
theorem zmo(V:Int)(a:vN (zs.map (·.sum))=V)(c:zs≠[]->ad=E (U b 0))(g:zs.length<=1000)(d:b<Y.1.size)(f:CAt Y b zs):Calls prog 192 #[.func (.func 238) #[] #[(O Y.1.size)],.func (.func 193) #[] #[]] (Y.alloc (.cells #[.slice ad zs.length cap] 208)) (Rz Y (I V)):=by
 refine(zoW _ _ XT (·.sum) _ (vh _) (fun x W _=>zio x W) (Yx c g d f)).mono ?_;rintro e w' ⟨xs,rfl,rfl,h⟩;exact⟨by rw[a],YM h⟩
theorem ziy(f:Cl)(s:Bool)(g:(yd KB zs).getD qA=f)(i:(yd KB zs).isSome=s)(a:zs≠[]->ad=E (U b 0))(j:zs.length<=1000)(c:b<Y.1.size)(d:CAt Y b zs):Calls prog 185 #[.func (.func 238) #[] #[(O Y.1.size)],.func (.func 187) #[] #[]] (Y.alloc (.cells #[.slice ad zs.length cap] 208)) (Rz Y (.tuple #[.agg #[I f.cnt,I f.sum,T C f.mn,T C f.mx],.bool s])):=by
 refine(zfz _ _ XT _ (vh _) (Yx a j c d)).mono ?_;rintro e w' ⟨xs,rfl,rfl,h⟩;exact⟨by rw[g,i];rfl,YM h⟩
theorem zbo(f:Cl)(s:Bool)(g:(yd KC zs).getD qA=f)(i:(yd KC zs).isSome=s)(a:zs≠[]->ad=E (U b 0))(j:zs.length<=1000)(c:b<Y.1.size)(d:CAt Y b zs):Calls prog 185 #[.func (.func 238) #[] #[(O Y.1.size)],.func (.func 189) #[] #[]] (Y.alloc (.cells #[.slice ad zs.length cap] 208)) (Rz Y (.tuple #[.agg #[I f.cnt,I f.sum,T C f.mn,T C f.mx],.bool s])):=by
 refine(zfA _ _ XT _ (vh _) (Yx a j c d)).mono ?_;rintro e w' ⟨xs,rfl,rfl,h⟩;exact⟨by rw[g,i];rfl,YM h⟩
end
theorem JP(ad:Option Addr)(b cap:Nat)(zs:List Cl)(ha:zs≠[]->ad=E (U b 0))(hz:zs.length<=1000)(w:za)(t:b<w.1.size)(q:CAt w b zs):
  Calls prog 123 #[.slice ad zs.length cap] w (Rz w (clV (xx zs))):=by
 obtain⟨c,N⟩:∃f,(yd KB zs).getD qA=f:=⟨_,rfl⟩;obtain⟨s1,a9⟩:∃f,(yd KB zs).isSome=f:=⟨_,rfl⟩;obtain⟨a,P⟩:∃f,(yd KC zs).getD qA=f:=⟨_,rfl⟩;obtain⟨s2,aa⟩:∃f,(yd KC zs).isSome=f:=⟨_,rfl⟩;obtain⟨R,x⟩:∃f,vN (zs.map (·.cnt))=f:=⟨_,rfl⟩;obtain⟨v2,y⟩:∃f,vN (zs.map (·.sum))=f:=⟨_,rfl⟩;have hj:clV (xx zs)=.agg #[I R,I v2,T C c.mn,T C a.mx]:=by unfold xx clV;rw[N,P,x,y]
 rw[hj];clear hj;have aF:=ze x;have aG:=ze y;have K:z9 w.1.size w (w.alloc Qn):=(z0 _ _).alloc (G _) _;have a6:=zq w Qn;have ac:=zM w Qn;have J:=fun Y=>ze (zcR ad zs.length cap Y);have ar:=fun(Y:za) (t:b<Y.1.size) (q:CAt Y b zs)=>ze (ziy (cap:=cap) (Y:=Y) c s1 N a9 ha hz t q);have al:=fun(Y:za) (t:b<Y.1.size) (q:CAt Y b zs)=>ze (zbo (cap:=cap) (Y:=Y) a s2 P aa ha hz t q);have au:=fun(Y:za) (t:b<Y.1.size) (q:CAt Y b zs)=>ze (zmn (cap:=cap) (Y:=Y) R x ha hz t q);have V:=fun(Y:za) (t:b<Y.1.size) (q:CAt Y b zs)=>ze (zmo (cap:=cap) (Y:=Y) v2 y ha hz t q);clear N a9 P aa x y hz ha;go_enter func123,ntmps123;go_wp2_with fail;have L:=q.below K t;generalize(w.alloc Qn)=X0 at*;have a2:b<X0.1.size:=by omega
 have ay:w.1.size<X0.1.size:=by omega
 have aH:=ze ac;clear ac;have W:=J X0;refine(ud W).mono ?_;rintro e x1 ⟨rfl,rfl⟩;go_wp2_with fail;have an:=ar X0 a2 L;refine(ud an).mono ?_;rintro e i ⟨rfl,a0⟩;have H:=ze a0;clear a0;go_wp2_with fail;have o:=(ud H).alloc (ud H).size (.cells #[I c.cnt,I c.sum,T C c.mn,T C c.mx] 115);have a7:=zq i (.cells #[I c.cnt,I c.sum,T C c.mn,T C c.mx] 115);have ai:=zM i (.cells #[I c.cnt,I c.sum,T C c.mn,T C c.mx] 115);have M:=L.below o (by omega);generalize(i.alloc (.cells #[I c.cnt,I c.sum,T C c.mn,T C c.mx] 115))=Z at*;have aC:=o.size;have a3:b<Z.1.size:=by omega
 have az:w.1.size<Z.1.size:=by omega
 have aL:i.1.size<Z.1.size:=by omega
 have aI:=ze ai;clear ai;have X:=J Z;refine(ud X).mono ?_;rintro e x1 ⟨rfl,rfl⟩;go_wp2_with fail;have ao:=al Z a3 M;refine(ud ao).mono ?_;rintro e l ⟨rfl,a1⟩;have r:=ze a1;clear a1;go_wp2_with fail;have m:=(ud r).alloc (ud r).size (.cells #[I a.cnt,I a.sum,T C a.mn,T C a.mx] 115);have a8:=zq l (.cells #[I a.cnt,I a.sum,T C a.mn,T C a.mx] 115);have aB:=zM l (.cells #[I a.cnt,I a.sum,T C a.mn,T C a.mx] 115);have a5:=M.below m (by omega);have D:=(m.block i.1.size (by omega)).trans a7;have k:=(m.block w.1.size (by omega)).trans ((o.block w.1.size (by omega)).trans a6);have ab:z9 w.1.size w (l.alloc (.cells #[I a.cnt,I a.sum,T C a.mn,T C a.mx] 115)):=K.trans ((o.mono (zz ay)).trans (m.mono (zz az)));have aD:=m.size;have aE:=(ud r).size;generalize(l.alloc (.cells #[I a.cnt,I a.sum,T C a.mn,T C a.mx] 115))=z at*;obtain⟨-,-,l1,-⟩:=zc D;obtain⟨-,-,-,l2,-⟩:=zc a8;obtain⟨r0,r1,r2,r3,-⟩:=zc k;have rf:=fun j=>zw k j;have am:=ze k;have av:=ze ab;have ae:i.1.size<z.1.size:=by omega
 have af:l.1.size<z.1.size:=by omega
 have Q:w.1.size<z.1.size:=by omega
 have hbb:b<z.1.size:=by omega
 clear a6 a7 D a8 k o m ab M L q aC aD aE aB K;have aw:¬i.1.size=w.1.size:=by have:=(ud H).size;omega
 have ax:¬l.1.size=w.1.size:=by have:=(ud r).size;omega
 have aJ:¬w.1.size=i.1.size:=fun h=>aw h.symm;have aK:¬w.1.size=l.1.size:=fun h=>ax h.symm;have S:Hid (Calls prog 190 #[.func (.func 238) #[] #[(O z.1.size)],.func (.func 191) #[] #[]] (z.alloc (.cells #[.slice ad zs.length cap] 208)).drew (Rz z (I R))):=ze ((ud (au z.drew hbb a5)).mono fun e w' h=>⟨h.1,⟨h.2.os,h.2.tape,h.2.output,h.2.size,h.2.block⟩⟩);go_region_held3 (fun w'=>w'.cell? (U i.1.size 2)=E (T C c.mn)/\w'.cell? (U l.1.size 3)=E (T C a.mx)) (go_keep) (first
  |(go_at_call 186;refine(ud (J _)).mono ?_;rintro e x1 ⟨rfl,rfl⟩)
  |(go_at_call 190;refine(ud S).mono ?_;rintro e s ⟨rfl,d⟩;have m1:Cz s i.1.size 2 (T C c.mn):=(d.cell (p:=(U i.1.size 2)) ae).trans l1;have m2:Cz s l.1.size 3 (T C a.mx):=(d.cell (p:=(U l.1.size 3)) af).trans l2;have A:b<s.1.size:=z1 hbb d.size;have a4:CAt s b zs:=a5.below d hbb;have ag:i.1.size<s.1.size:=z1 ae d.size;have ah:l.1.size<s.1.size:=z1 af d.size;have F:w.1.size<s.1.size:=z1 Q d.size;have ap:=ze ((d.block w.1.size Q).trans (ud am));have aj:=ze d;clear d)
  |(go_at_call 192;(first|refine(ud (V s A a4)).mono ?_|refine(ud (V s.drew A a4)).mono ?_);rintro e X4 ⟨rfl,n⟩;have n1:Cz X4 i.1.size 2 (T C c.mn):=(n.cell (p:=(U i.1.size 2)) ag).trans m1;have n2:Cz X4 l.1.size 3 (T C a.mx):=(n.cell (p:=(U l.1.size 3)) ah).trans m2;have u:=(n.block w.1.size F).trans (ud ap);obtain⟨q0,q1,q2,q3,-⟩:=zc u;have qf:=fun j=>zw u j;have aq:=ze u;have ak:=ze n;clear u n))
 go_wp2_with fail;have hf:=KT (ud aq) (I R) (I v2) (T C c.mn) (T C a.mx);have aA:=(ud av).trans (((ud aj).mono (zz Q)).trans (((ud ak).mono (zz F)).trans (below4 (w:=X4) (B:=w.1.size) (g:=w.1.size) (G _) (I R) (I v2) (T C c.mn) (T C a.mx))));refine bodyPost_ret (v:=.agg #[I R,I v2,T C c.mn,T C a.mx]) (results_cell_row results123 _ _ w.1.size _ _ _ _ rfl hf underlying115 rfl (by kernel_rfl)) rfl ?_;exact⟨rfl,aA⟩
def kH(v:Int):Cl:=⟨1,v,v,v⟩
def Cl.small(x:Cl):Prop:=0<=x.cnt/\x.cnt<=1000000000000/\ -1000000000000000000<=x.sum/\x.sum<=1000000000000000000
theorem zln(v:Int)(hv: -2147483648<=v/\v<=2147483647):xx [kH v]=qU v zf:=by
 unfold xx;have a:vN ([kH v].map (·.cnt))=1:=by rw[vs]<;>simp[qJ,kH]
 have b:vN ([kH v].map (·.sum))=v:=by rw[vs]<;>simp[qJ,kH];omega
 rw[a,b];simp[yd,jp,kH,qU]
theorem zhH(a b:Int):zfu a b<0↔a<b:=by
 unfold zfu;split
 ·simp[*]
 ·split<;>simp[*]
theorem zlo(v:Int)(hv: -2147483648<=v/\v<=2147483647)(o:Cl)(e:o.small):xx [kH v,o]=qU v (E o):=by
 obtain⟨f,g,h,i⟩:=e;unfold xx;have c:vN ([kH v,o].map (·.cnt))=1+o.cnt:=by rw[vs]<;>simp[qJ,kH];omega
 have d:vN ([kH v,o].map (·.sum))=v+o.sum:=by rw[vs]<;>simp[qJ,kH];omega
 rw[c,d];have a:((yd KB [kH v,o]).getD qA).mn=if o.mn<v then o.mn else v:=by
  simp only[yd,List.foldl_cons,List.foldl_nil,jp,KB,zhH,kH];split<;>simp
 have b:((yd KC [kH v,o]).getD qA).mx=if v<o.mx then o.mx else v:=by
  simp only[yd,List.foldl_cons,List.foldl_nil,jp,KC,zhH,kH];split<;>simp
 rw[a,b];rfl
theorem zeF(L:LV)(s:Sg)(v:SV):(qS L s v).length<=L.length+1:=by unfold qS;split<;>simp
def zpv(L:LV):Prop:=∀p∈L,p.2.st≠0
theorem zlx(h:zpv L)(s:Sg):(stL L s).st=0↔s∉zn L:=by
 constructor
 ·intro a b;obtain⟨v,hv,c⟩:=Qv b;unfold stL at a;rw[hv]at a;exact h _ c a
 ·intro b;unfold stL;rw[ye.2 b];rfl
theorem YB{e:TypeId}{xs:List zb}(h:w.1[g]?=E (.cells xs.toArray e (0,0)))(a:xs.length=n*size)(hn:0<n)(c:n<=maxLen)(b:base<=g):w.ownsRow base e size (.slice (E (U g 0)) n n) n xs:=
 ⟨a,.inr ⟨g,n,_,rfl,b,h,⟨G _,c,by simp[a],by
  show List.take (n*size) xs=xs;exact List.take_of_length_le (by omega)⟩⟩⟩
def Zn(x:Cl):List zb:=[I x.cnt,I x.sum,T C x.mn,T C x.mx]
variable {zs:List Cl}
theorem CAt.of_owns{e:TypeId}(h:w.ownsRow base e 4 (.slice (E (U g 0)) zs.length cap) zs.length (zs.flatMap Zn)):CAt w g zs:=fun j x b=>by
 have d:j<zs.length:=(List.getElem?_eq_some_iff.1 b).1;have a:=fun i c=>kZ (f:=Zn) (k:=4) (fun _=>rfl) zs j x i b c;refine⟨?_,?_,?_,?_⟩
 ·rw[h.cellAt (j*4) (by omega)];exact a 0 (by omega)
 ·rw[h.cellAt (j*4+1) (by omega)];exact a 1 (by omega)
 ·rw[h.cellAt (j*4+2) (by omega)];exact a 2 (by omega)
 ·rw[h.cellAt (j*4+3) (by omega)];exact a 3 (by omega)
theorem zgB(h:xI X s c tv lb gb Gl L)(b:L.length<maxLen){k:Sg}(d:k.wf)(v:SV):
  ∃o,(Instr.mapUpdate 152 (.map (E lb)) (.agg #[I k.t,I k.sr,I k.wn]) (.agg #[I k.t,I k.sr,I k.wn,I v.st,I v.cl.cnt,I v.cl.sum,T C v.cl.mn,T C v.cl.mx])).run prog X=.ok () (setBlock X lb o)/\xI (setBlock X lb o) s c tv lb gb Gl (qS L k v)/\zi (fun k=>k=lb) X (setBlock X lb o)/\o.isCells=false:=by
 obtain⟨o,j,l,g,m⟩:=zci h.live b d v;have a:∀{k:Nat} {cs:Array zb} {t:TypeId} {fr:Nat×Nat},X.1[k]?=E (.cells cs t fr)->¬k=lb:=fun d e=>by
  obtain⟨es,cl,n,_⟩:=h.live;rw[e,n]at d;cases d
 refine⟨o,j,⟨g.heap h.head (a h.head),zh h.trow g (fun k d=>?_),l,h.gone.kept g h.apart,h.apart⟩,g,m⟩;obtain⟨i,f⟩:=zH h.trow d;exact a f
theorem Xe{s:Sg}(b:yI w lb L)(a:z9 w.1.size w X)(c:s.wf):(Instr.lookup 152 (.map (E lb)) (.agg #[I s.t,I s.sr,I s.wn]) true).run prog X=.ok (.tuple #[.agg #[I (stX L s).1.t,I (stX L s).1.sr,I (stX L s).1.wn,I (stX L s).2.st,I (stX L s).2.cl.cnt,I (stX L s).2.cl.sum,T C (stX L s).2.cl.mn,T C (stX L s).2.cl.mx],.bool (ko L s).isSome]) X:=by
 have:=zeM true (b.later a) c;have e:zdk true (vk zX) L s=.tuple #[vk (stX L s),.bool (ko L s).isSome]:=by
  unfold zdk stX;cases ko L s<;>rfl
 rw[e]at this;exact this
theorem Tryz.infoCell:(prog.info? 115).map (fun i=>(i.zero,i.size,i.bytes))=E (E (.agg #[I 0,I 0,T C 0,T C 0]),4,24):=by kernel_rfl
theorem zjb(d:o.guard=zf)(s x:Operand)(m:o.op=.call {callee:=.builtin .append,args:=#[s,x],argTypes:=#[208,208]})(base:Nat)(v:zb)(l:List Cl)(f:Cl)(n:a.eval s=v)(b:w.ownsRow base 115 4 v l.length (l.flatMap Zn))(B1:Nat)(p:a.eval x=.slice (E (U B1 0)) 1 1)(c:w.1[B1]?=E (.cells #[I f.cnt,I f.sum,T C f.mn,T C f.mx] 115 (0,0)))(q:l.length<=1000000000)(hbase:base<=w.1.size)(h:∀g cap w',w'.ownsRow base 115 4 (.slice (E (U g 0)) (l.length+1) cap) (l++[f]).length ((l++[f]).flatMap Zn)->w.grownBy w' v.ownBlock->g<w'.1.size->wpList prog ops Q rest (a.put o.dst (.slice (E (U g 0)) (l.length+1) cap)) w'):wpList prog ops Q (o::rest) a w:=
 xQ d s x 208 m base 115 _ 4 24 underlying208 Tryz.infoCell rfl (by decide) v l.length (l.flatMap Zn) n b (U B1 0) 1 1 [I f.cnt,I f.sum,T C f.mn,T C f.mx] p rfl
  (World.news_of_block (cs:=#[I f.cnt,I f.sum,T C f.mn,T C f.mx]) c) (by intro u e;simp at e;rcases e with rfl|rfl|rfl|rfl<;>rfl) (by decide) (by simp only[maxLen];omega) (by omega) hbase
  fun g cap w' i _ j _ k=>h g cap w' (by rw[zbj,List.length_append,List.length_singleton];exact i) j k
theorem zL{f:Nat->Prop}{A B:za}(h:zi f A B)(hn:¬f k)(a:k<A.1.size):B.cell? (U k i)=A.cell? (U k i):=by
 simp only[World.cell?,h.block k a hn]
def jn(q:List (Sg×Unit)×LV)(x:SX):List (Sg×Unit)×LV:=if x.2.st=4 then(qj q.1 x.1 (),zT q.2 x.1)else(q.1,qS q.2 x.1 x.2)
def qr(q:List (Sg×Unit)×LV)(xs:List SX):List (Sg×Unit)×LV:=xs.foldl jn q
theorem jH(q:List (Sg×Unit)×LV)(xs:List SX)(x:SX):qr q (xs++[x])=jn (qr q xs) x:=by simp[qr]
def zmZ(c:Cf)(L:LV)(x:Nm):SX:=(xr c x,⟨1,qU x.val ((ko L (xr c x)).map (·.cl))⟩)
def QD(c:Cf)(Gl:List (Sg×Unit))(L:LV)(x:Nm)(k:Nat):List SX:=((qe c x.sr x.tm k).filter (fun s=>(stG Gl L s).st==0)).map (fun s=>(s,(⟨2,qA⟩:SV)))
def qX(c:Cf)(Gl:List (Sg×Unit))(L:LV)(x:Nm):List SX:=zmZ c L x::QD c Gl L x c.n
theorem Qz(c:Cf)(x:Nm):∀(k:Nat) (L:LV) (s:Sg),s∈zn (kM c x k L)↔s∈zn L\/∃j:Nat,j<k/\s=zG c (j:Int) x
 |0,L,s=>by simp[kM]
 |k+1,L,s=>by
  have f:=Qz c x k L;show s∈zn (qs c x k (kM c x k L))↔_;unfold qs;by_cases d:zG c (k:Int) x∈zn (kM c x k L)
  ·rw[if_pos d,f];constructor
   ·rintro(h|⟨j,b,e⟩)
    ·exact .inl h
    ·exact .inr ⟨j,by omega,e⟩
   ·rintro(h|⟨j,b,e⟩)
    ·exact .inl h
    ·by_cases a:j=k
     ·subst a;subst e;exact(f _).1 d
     ·exact .inr ⟨j,by omega,e⟩
  ·rw[if_neg d,xN,f];constructor
   ·rintro((h|⟨j,b,e⟩)|e)
    ·exact .inl h
    ·exact .inr ⟨j,by omega,e⟩
    ·exact .inr ⟨k,by omega,e⟩
   ·rintro(h|⟨j,b,e⟩)
    ·exact .inl (.inl h)
    ·by_cases a:j=k
     ·subst a;exact .inr e
     ·exact .inl (.inr ⟨j,by omega,e⟩)
theorem zbY{c:Cf}{Gl:List (Sg×Unit)}{L:LV}{x:Nm}(d:zpv L)(b:∀k:Nat,k<c.n->zE Gl (zG c (k:Int) x)=zf):∀k:Nat,k<=c.n->qr (Gl,qW c L x) (QD c Gl L x k)=(Gl,kM c x k (qW c L x))
 |0,_=>rfl
 |k+1,o=>by
  have i:=zbY d b k (by omega);have l:qO c x.sr x.tm k=zG c (k:Int) x:=rfl;have g:(stG Gl L (zG c (k:Int) x)).st=0↔zG c (k:Int) x∉zn L:=by unfold stG;rw[b k (by omega)];exact zlx d _
  have a:zG c (k:Int) x∈zn (kM c x k (qW c L x))↔zG c (k:Int) x∈zn L:=by
   rw[Qz];unfold qW;rw[xN];constructor
   ·rintro((h|h)|⟨j,m,e⟩)
    ·exact h
    ·exact absurd h (zjs (by omega))
    ·exact absurd e (zjs (by omega))
   ·exact fun h=> .inl (.inl h)
  have e:QD c Gl L x (k+1)=QD c Gl L x k++(if zG c (k:Int) x∈zn L then[]else[(zG c (k:Int) x,(⟨2,qA⟩:SV))]):=by
   unfold QD;rw[vm,List.filter_append,List.map_append,l];congr 1;by_cases h:zG c (k:Int) x∈zn L
   ·rw[if_pos h,List.filter_cons,if_neg (by simpa using fun f=>g.1 f h)];rfl
   ·rw[if_neg h,List.filter_cons,if_pos (by simpa using g.2 h)];rfl
  rw[e];show _=(Gl,qs c x k (kM c x k (qW c L x)));unfold qs;by_cases h:zG c (k:Int) x∈zn L
  ·rw[if_pos h,if_pos (a.2 h),List.append_nil,i]
  ·rw[if_neg h,if_neg (fun f=>h (a.1 f)),jH,i];rfl
theorem Jf{x:Nm}(b:zpv L)(a:∀k:Nat,k<c.n->zE Gl (zG c (k:Int) x)=zf):qr (Gl,L) (qX c Gl L x)=(Gl,yv c L x):=by
 have h:=zbY b a c.n (G _);unfold yv;rw[<-h];rfl
theorem zoD{e:TypeId}{xs:List zb}(h:w.ownsRow base e size v n xs):∀k,v.ownBlock=E k->base<=k:=fun k a=>by
 rcases h.2 with⟨rfl,_⟩|⟨g,cap,b,rfl,c,_⟩
 ·simp[Value.ownBlock]at a
 ·simp[Value.ownBlock]at a;subst a;exact c
def qT(L:LV)(f sr a:Int)(j:Nat):List Cl:=(List.range j).filterMap (fun i:Nat=>(ko L ⟨f,sr,a+i⟩).map (·.cl))
theorem KW(L:LV)(f sr a:Int)(j:Nat):qT L f sr a (j+1)=qT L f sr a j++(match ko L ⟨f,sr,a+j⟩with|some v=>[v.cl]|none=>[]):=by
 unfold qT;rw[List.range_succ,List.filterMap_append];congr 1;cases h:ko L ⟨f,sr,a+j⟩<;>simp[h]
theorem Jm(L:LV)(f sr a:Int)(j:Nat):(qT L f sr a j).length<=j:=by
 have:=List.length_filterMap_le (fun i:Nat=>(ko L ⟨f,sr,a+i⟩).map (·.cl)) (List.range j);simpa[qT]using this
def xe(c:Cf)(L:LV)(sr wn:Int)(k:Nat):List Cl:=qT L (c.F k) sr (wn*qm c k) (qm c k).toNat
theorem zgD(h:xI w s c tv lb gb Gl L)(hc:c.ok)(k:Nat)(hk:k<c.n)(sr wn:Int)(ae:xz sr)(a3:0<=wn/\wn<=100000):
  Calls prog 171 #[(O s),.agg #[I k,I sr,I wn]] w fun e w'=>∃ad g cap,e=.returned (.slice ad (xe c L sr wn k).length cap)/\(xe c L sr wn k≠[]->ad=E (U g 0))/\g<w'.1.size/\CAt w' g (xe c L sr wn k)/\z9 w.1.size w w':=by
 obtain⟨a,cap,rfl⟩:=zR h.trow;have i:=h.lt;have af:=TS.of_owns h.trow;obtain⟨c0,c1,c2,c3,c4,c5,c6,c7,-⟩:=h.cells;obtain⟨ab,ax⟩:=Xy hc hk;obtain⟨f1,f2⟩:=hc.F k hk;have aK:=hc.n4;have aM:0<=wn*qm c k/\wn*qm c k<=100000000:=⟨Int.mul_nonneg a3.1 ab,by have:=Int.mul_le_mul a3.2 ax ab (by omega);omega⟩;have ac:(wn+1)*qm c k=wn*qm c k+qm c k:=by rw[Int.add_mul,Int.one_mul]
 have J:∀j:Nat,j<=(qm c k).toNat->(qT L (c.F k) sr (wn*qm c k) j).length<=1000:=fun j hj=>by have:=Jm L (c.F k) sr (wn*qm c k) j;omega
 have R:=fun W hW=>ze (zfM c hc a cap k hk wn a3 W (af.below (w':=W) hW));rw[show xe c L sr wn k=qT L (c.F k) sr (wn*qm c k) (qm c k).toNat from rfl];simp only[ac]at R;generalize wn*qm c k=A at*;generalize qm c k=M at*;have a4:=ze J;clear J ac;have d:z9 w.1.size w (w.alloc (.cells #[I k,I sr,I wn] 146)):=(z0 _ _).alloc (G _) _;have q0:=zq w (.cells #[I k,I sr,I wn] 146);have qz:=zM w (.cells #[I k,I sr,I wn] 146);obtain⟨k0,k1,k2,-⟩:=zc q0;have d0:=(d.cell (p:=(U s 0)) i).trans c0;have d1:=(d.cell (p:=(U s 1)) i).trans c1;have d2:=(d.cell (p:=(U s 2)) i).trans c2;have d3:=(d.cell (p:=(U s 3)) i).trans c3;have d4:=(d.cell (p:=(U s 4)) i).trans c4;have d5:=(d.cell (p:=(U s 5)) i).trans c5;have d6:=(d.cell (p:=(U s 6)) i).trans c6;have Q:=ze d;have H:=ze h;have Q0:=ze q0;have BZ:=ze qz;clear h af d q0 c0 c1 c2 c3 c4 c5 c6;go_enter func171,ntmps171;go_wp2_with fail;have q1:w.1.size<w.1.size+1:=by omega
 have q2:s<w.1.size+1:=by omega
 generalize(w.alloc (.cells #[I k,I sr,I wn] 146))=X at*;generalize hN:w.1.size+1=N at*;have ay:Nonempty (xg N X):=xg.some _ _;have av:=fun(u:xg N X) b o h=>u.cell b o h;have a7:N<=X.1.size:=by rw[ud BZ];exact G _
 have a5:=ze a7;have S:Hid (w.1.size<=N):=by show w.1.size<=N;omega
 have HN:=ze hN;clear a7 hN;refine zy N (by kernel_rfl) (by kernel_rfl) ?_;repeat(go_big_quiet_step (first
  |(go_at_call 232;exact Calls.later (ud a5) (ud (R _ ((ud Q).trans (Below.mono (Subtype.property _) (ud S))))))))
 refine wpQuiet_nil ?_;rintro⟨w1,V⟩;clear av ay;dsimp only;go_wp2_with fail;have r:z9 w.1.size w w1:=(ud Q).trans (V.mono (ud S));have a1:w1.1[w.1.size]?=E (.cells #[I k,I sr,I wn] 146 (0,0)):=(V.block _ (by have:=ud HN;omega)).trans (ud Q0);have ai:=zd a1;have a6:=ze ((ud H).later r);have HQ:=ze a1;have D:=ze r;have a0:=((ud a6).foot_lt);have aG:=ze a0;have au:lb<w1.1.size:=a0 lb (.inr (.inr (.inl rfl)));clear a1 r a0 V Q R a5 S HN BZ Q0 k0 k1 k2 d0 d1 d2 d3 d4 d5 d6 q1 q2 c7;go_loopw [5,9,10,11] (fun cv wv _ _ wr=>∃j:Nat,j<=M.toNat/\wv=I (A+j)/\wr.ownsRow w1.1.size 115 4 cv (qT L (c.F k) sr A j).length ((qT L (c.F k) sr A j).flatMap Zn)/\z9 w1.1.size w1 wr)
  (fun _ wv _ _ _=>(A+M-intOf wv).toNat)
 case atStart=>exact⟨0,Nat.zero_le _,by simp,World.ownsRow_nil _ _ _ _,z0 _ _⟩
 case round=>
  obtain⟨j,hj,rfl,hv,hb⟩:=hrel;obtain⟨ad,cp,ag⟩:=zR hv;have aI:=ud a4 j hj;by_cases aJ:j<M.toNat
  ·have aC:A+j<A+M:=(by omega);have f:=(ud a6).later hb;obtain⟨-,-,-,-,-,-,-,x7,-⟩:=f.cells;have aF:=f.lt;have a2:=(hb.block _ ai).trans (ud HQ);obtain⟨-,y1,-⟩:=zc a2;have aE:=zd a2;have m:(⟨c.F k,sr,A+j⟩:Sg).wf:=⟨by unfold xz;dsimp only;omega,ae,by unfold xz;dsimp only;omega⟩;obtain⟨l,B⟩:∃l,stX L ⟨c.F k,sr,A+j⟩=l:=⟨_,rfl⟩;obtain⟨ok,z⟩:∃ok,(ko L ⟨c.F k,sr,A+j⟩).isSome=ok:=⟨_,rfl⟩;have g0:=Xe (X:=wr) f.live (z0 _ _) m;have g1:=Xe (X:=wr.drew) f.live (z0 _ _).drew m;have g2:=fun o=>Xe (X:=wr.alloc o) f.live ((z0 _ _).alloc (G _) o) m;have g3:=fun o=>Xe (X:=(wr.alloc o).drew) f.live ((z0 _ _).alloc (G _) o).drew m;have g4:=fun o=>Xe (X:=wr.drew.alloc o) f.live ((z0 _ _).drew.alloc (G _) o) m;rw[B,z]at g0 g1;simp only[B,z]at g2 g3 g4;have HV:=ze hv;have HB:=ze hb;have aq:=ze B;have ao:=ze z;subst ag;clear hv hb f a2 m B z;go_wp2_with fail;go_region
   have a8:z9 wr.1.size wr ((wr.alloc (.cells (xZz l) 148)).drew):=((z0 _ _).alloc (G _) _).drew;have aa:((wr.alloc (.cells (xZz l) 148)).drew).1[wr.1.size]?=E (.cells (xZz l) 148):=zq _ _;have al:((wr.alloc (.cells (xZz l) 148)).drew).1.size=wr.1.size+1:=zM _ _;generalize((wr.alloc (.cells (xZz l) 148)).drew)=Y at*;have y:=ze a8;have an:=ze aa;have ar:=ze al;clear g0 g1 g2 g3 g4 x7 y1 a8 aa al;have hg:qT L (c.F k) sr A (j+1)=qT L (c.F k) sr A j++(if ok then[l.2.cl]else[]):=by
    rw[KW];have h1:=ud ao;have h2:=ud aq;unfold stX at h2;cases a9:ko L ⟨c.F k,sr,A+j⟩with
    |none=>rw[a9]at h1;simp at h1;subst h1;simp
    |some v=>rw[a9]at h1 h2;simp at h1;subst h1;subst h2;simp
   have ah:=(ud HB).size;cases ok with
   |false=>
    have HG:=ze (show qT L (c.F k) sr A (j+1)=qT L (c.F k) sr A j by rw[hg];simp);clear hg;go_wp2_with fail;go_roundw;case rel=>
     refine⟨j+1,by omega,by simp;omega,?_,(ud HB).trans ((ud y).mono ah)⟩;rw[ud HG];exact xp (ud HV) (ud y)
    case measure=>simp[intOf];omega
   |true=>
    have HG:=ze (show qT L (c.F k) sr A (j+1)=qT L (c.F k) sr A j++[l.2.cl] by rw[hg];simp);clear hg;obtain⟨-,-,-,-,o1,o2,o3,o4,-⟩:=zc (ud an);have aN:wr.1.size<Y.1.size:=(by rw[ud ar];omega);have ap:=ze (xp (ud HV) (ud y));go_wp2_with(first|(at_builtin;refine zjb rfl _ _ rfl w1.1.size (.slice ad (qT L (c.F k) sr A j).length cp) (qT L (c.F k) sr A j) l.2.cl rfl ((ud ap).alloc _) Y.1.size rfl (zq _ _) ?hll ?hbb ?_;(case hll=>omega);(case hbb=>(rw[zM];omega));intro g aB Z P t aD;have am:=ze t;have HO:=ze P;clear t P)|go_in);go_roundw;case rel=>
     have ak:=(ud HB).trans ((ud y).mono ah);have aj:=ak.alloc ak.size (.cells #[I l.2.cl.cnt,I l.2.cl.sum,T C l.2.cl.mn,T C l.2.cl.mx] 115);refine⟨j+1,by omega,by simp;omega,?_,aj.grown (ud am) aj.size (fun q e=>?_)⟩
     ·rw[ud HG];have:=ud HO;rw[List.length_append,List.length_singleton]at this ⊢;exact this
     ·exact zoD (ud HV) q e
    case measure=>simp[intOf];omega
  ·obtain rfl:j=M.toNat:=(by omega);have aL:decide (A+(M.toNat:Int)<A+M)=false:=(by simp;omega);subst ag;have HV:=ze hv;have HB:=ze hb;clear hv hb;go_wp2_with fail;go_ret;have hv:=ud HV;have hB:=(ud D).trans ((ud HB).mono (ud D).size);by_cases h0:0<(qT L (c.F k) sr A M.toNat).length
   ·obtain⟨g,aA,az,aH,aw⟩:=hv.form h0;cases az;exact⟨_,g,_,rfl,fun _=>rfl,aw,CAt.of_owns hv,hB⟩
   ·have K:qT L (c.F k) sr A M.toNat=[]:=List.eq_nil_of_length_eq_zero (by omega);exact⟨_,s,_,rfl,fun hh=>absurd K hh,by have:=(ud H).lt;have:=hB.size;omega,by rw[K];intro j x hx;simp at hx,hB⟩
def vP(l:List Int):List UInt8:=l.flatMap (fun n=>32::Lib.itoa n)
def Xs(st:Int):Bool:=st==1||st==3
def zko(x:SX):List Int:=[x.1.t,x.1.sr,x.1.wn,x.2.st]
def zmJ(x:SX):List Int:=[x.2.cl.cnt,x.2.cl.sum,x.2.cl.mn,x.2.cl.mx]
def zkn(x:SX):List UInt8:=vP (zko x)++(if Xs x.2.st then vP (zmJ x)else[])
def Zd(now:Int)(xs:List SX):List UInt8:=Lib.itoa now++xs.flatMap zkn
theorem znR(u:Nat):0<(Lib.decDigits u).length:=by
 unfold Lib.decDigits;split<;>simp
theorem zlj(n:Int):0<(Lib.itoa n).length:=by
 unfold Lib.itoa;split
 ·simp
 ·exact znR _
theorem zfX(l:List Int)(n:Int):vP (l++[n])=vP l++32::Lib.itoa n:=by simp[vP]
theorem Zy:∀(l:List Int),(∀n∈l,xz n)->(vP l).length<=22*l.length
 |[],_=>by simp[vP]
 |n::l,h=>by
  have b:=Zy l (fun m a=>h m (by simp[a]));have c:=Lib.itoa_length_le n (h n (by simp)).1 (h n (by simp)).2;simp only[vP,List.flatMap_cons,List.length_append,List.length_cons]at*;omega
structure okX(x:SX):Prop where
 key:x.1.wf
 st:xz x.2.st
 cnt:xz x.2.cl.cnt
 sum:xz x.2.cl.sum
 mn: -2147483648<=x.2.cl.mn/\x.2.cl.mn<=2147483647
 mx: -2147483648<=x.2.cl.mx/\x.2.cl.mx<=2147483647
theorem okX.seg(h:okX x):∀n∈zko x,xz n:=fun n hn=>by
 simp only[zko,zl,List.not_mem_nil,or_false]at hn;rcases hn with rfl|rfl|rfl|rfl
 ·exact h.key.1
 ·exact h.key.2.1
 ·exact h.key.2.2
 ·exact h.st
theorem okX.cel(h:okX x):∀n∈zmJ x,xz n:=fun n hn=>by
 have a:=h.mn;have b:=h.mx;simp only[zmJ,zl,List.not_mem_nil,or_false]at hn;rcases hn with rfl|rfl|rfl|rfl
 ·exact h.cnt
 ·exact h.sum
 ·unfold xz;omega
 ·unfold xz;omega
theorem zlU(h:okX x):(zkn x).length<=176:=by
 have c:=Zy (zko x) h.seg;have d:=Zy (zmJ x) h.cel;have a:(zko x).length=4:=rfl;have b:(zmJ x).length=4:=rfl;unfold zkn;rw[List.length_append];split
 ·omega
 ·simp;omega
theorem zca(now:Int)(xs:List SX)(x:SX):Zd now (xs++[x])=Zd now xs++zkn x:=by simp[Zd]
theorem zeP:∀(xs:List SX),(∀x∈xs,okX x)->(xs.flatMap zkn).length<=176*xs.length
 |[],_=>by simp
 |x::xs,h=>by
  have b:=zeP xs (fun y a=>h y (by simp[a]));have c:=zlU (h x (by simp));simp only[List.flatMap_cons,List.length_append,List.length_cons];omega
theorem kE{now:Int}(hn:xz now)(h:∀x∈xs,okX x):(Zd now xs).length<=21+176*xs.length:=by
 have a:=Lib.itoa_length_le now hn.1 hn.2;have b:=zeP xs h;unfold Zd;rw[List.length_append];omega
abbrev zqx(B:Nat)(w:za):Prop:=Lib.TabBelow prog B w "internal/strconv.uint64pow10" .u64 Lib.pow10Tab
theorem zaQ(B n:Nat)(i:Int)(g:xz i)(f:zb)(xs:List zb)(w:za)(b:w.ownsRow B 5 1 f n xs)(d:B<=w.1.size)(a:n+21<=140737488355328)(c:zqx B w):
  Calls prog 167 #[f,I i,I 10] w fun e w'=>∃h,e=.returned h/\w'.ownsRow B 5 1 h (n+(Lib.itoa i).length) (xs++Lib.byteCells (Lib.itoa i))/\z9 B w w'/\Lib.OthersKept 5 zf w w':=
 Any.strconv_AppendInt_10 Tryz.layAI B n i g.1 g.2 f xs w b d a c
theorem Tryz.infoByte:(prog.info? 5).map (fun i=>(i.zero,i.size,i.bytes))=E (E (.int .u8 0),1,1):=by kernel_rfl
def zaF(w:za)(B:Nat)(v:zb)(bs:List UInt8):Prop:=w.ownsRow B 5 1 v bs.length (Lib.byteCells bs)
theorem zaF.push{cs:List UInt8}(h:w.ownsRow B 5 1 v (bs.length+cs.length) (Lib.byteCells bs++Lib.byteCells cs)):zaF w B v (bs++cs):=by
 unfold zaF;rw[List.length_append,Lib.byteCells_append];exact h
theorem zoc{l:List Int}(h:k<l.length):∃x,l[k]?=E x:=⟨_,List.getElem?_eq_getElem h⟩
theorem zgI{l:List Int}{x:Int}(h:l[k]?=E x):l.take (k+1)=l.take k++[x]:=by
 rw[List.take_add_one,h];rfl
theorem zfY(l:List Int)(a:∀m∈l,xz m)(k:Nat):(vP (l.take k)).length<=22*l.length:=by
 have c:=Zy (l.take k) (fun m b=>a m (List.mem_of_mem_take b));have d:(l.take k).length<=l.length:=List.length_take_le' _ _;omega
theorem zfl(B g:Nat)(l:List Int)(Y:∀m∈l,xz m)(a2:l.length<=100)(sv:zb)(bs:List UInt8)(w:za)(d:zaF w B sv bs)(N:B<=w.1.size)(Z:bs.length<=70368744177664)(f:zqx B w)(W:w.1[g]?=E (.cells (l.map (fun n=>I n)).toArray 2 (0,0))):
  Calls prog 168 #[sv,.slice (E (U g 0)) l.length l.length] w fun e w'=>∃v',e=.returned v'/\zaF w' B v' (bs++vP l)/\z9 B w w'/\Lib.OthersKept 5 zf w w':=by
 obtain⟨i0,hi,R,S,V⟩:=info_parts Tryz.infoByte;have HT:=ze f;have HW:=ze d;have HG:=ze W;have y:=ze Y;clear f d W Y;go_enter func168,ntmps168;go_wp2_with fail;go_loopw [0,9] (fun v i wr=>∃k:Nat,k<=l.length/\i=I k/\zaF wr B v (bs++vP (l.take k))/\z9 B w wr/\Lib.OthersKept 5 zf w wr) (fun _ i _=>l.length-(intOf i).toNat);case atStart=>exact⟨0,Nat.zero_le _,rfl,by simpa[vP]using ud HW,z0 _ _,Lib.OthersKept.refl _ _ _⟩
 case round=>
  obtain⟨k,X,rfl,hv,z,b⟩:=hrel;have A:=zfY l (ud y) k;have p:=b g _ (ud HG) (by simp) (fun c fz e=>by cases e);have hbs:=z.size;by_cases P:k<l.length
  ·obtain⟨m,L⟩:=zoc P;have D:=ud y m (List.mem_of_getElem? L);have x0:wr.cell? (U g k)=E (I m):=(by rw[xR p];simp[L]);have a1:(k:Int)<l.length:=(by omega);have HM:=ze L;have M:=ze z;have h:=ze b;have x:=ze hv;have Q:(bs++vP (l.take k)).length<=70368744177664+22*100:=(by rw[List.length_append];omega);obtain⟨zs,u⟩:∃zs,bs++vP (l.take k)=zs:=⟨_,rfl⟩;have HZ:=ze u;rw[u]at x Q;clear L z b hv p u;go_wp2_with(at_builtin;refine wpList_append_own _ rfl _ _ 250 rfl B 5 i0 (.int .u8 0) 1 1 underlying250 hi R S V rfl (by decide) _ _ _ rfl ((ud x).alloc _) (U wr.1.size 0) 1 1 [Value.int .u8 32] rfl rfl (by intro j u' K;match j,K with|0,K=>simp at K;subst K;simp[Addr.add]) (by intro u' J;simp at J;subst J;rfl) (by unfold maxLen;omega) (by omega) (by simp;omega) ?_)
   intro v2 w2 r a _;have o:z9 B w w2:=((ud M).alloc (Nat.le_trans N hbs) _).grown a (by simp;omega) (fun k X=>(World.ownsRow.lt (ud x) k X).1);have F:Lib.OthersKept 5 zf w w2:=((ud h).alloc _).grown a (fun q hq=>by
    obtain⟨a0,hc⟩:=zH ((ud x).alloc _) hq;exact⟨_,_,hc⟩)
   have s:zaF w2 B v2 (zs++[32]):=by
    unfold zaF;rw[List.length_append,Lib.byteCells_append];exact r
   go_wp2_with(go_at_call 167;refine(zaQ B _ m D v2 _ w2 s (by have:=o.size;omega) (by rw[List.length_append];simp;omega) ((ud HT).on o)).mono ?_;rintro e w3 ⟨v3,rfl,t,O,H⟩);go_roundw;case rel=>
    refine⟨k+1,by omega,by go_num,?_,o.trans O,F.trans H⟩;have e:bs++vP (l.take (k+1))=(zs++[32])++Lib.itoa m:=by
     rw[zgI (ud HM),zfX,<-ud HZ];simp
    rw[e];exact zaF.push t
   case measure=>simp[intOf];omega
  ·obtain rfl:k=l.length:=(by omega);rw[List.take_length]at hv;have x:=ze hv;have M:=ze z;have h:=ze b;clear hv z b p A;go_wp2_with fail;go_ret;exact⟨_,rfl,ud x,ud M,ud h⟩
theorem kq(st:Int)(w:za):Calls prog 169 #[I st] w fun e w'=>e=.returned (.bool (Xs st))/\w'=w:=by
 unfold Xs;cases a:(st==1)
 ·cases b:(st==3)
  ·go_enter func169,ntmps169;go_wp2_with fail;go_ret;exact⟨rfl,rfl⟩
  ·go_enter func169,ntmps169;go_wp2_with fail;go_ret;exact⟨rfl,rfl⟩
 ·go_enter func169,ntmps169;go_wp2_with fail;go_ret;exact⟨rfl,rfl⟩
def yj(P:Nm->Prop)[DecidablePred P]:List Nm->Int
 |[]=>0
 |x::r=>(if P x then 1 else 0)+yj P r
def zaH(P:Nm->Prop)[DecidablePred P]:List Nm->Int
 |[]=>0
 |x::r=>(if P x then x.val else 0)+zaH P r
structure IsC(P:Nm->Prop)[DecidablePred P](ns:List Nm)(a:Cl):Prop where
 cnt:a.cnt=yj P ns
 sum:a.sum=wrap64 (zaH P ns)
 none:yj P ns=0->a.mn=0/\a.mx=0
 mn:yj P ns≠0->(∃x∈ns,P x/\x.val=a.mn)/\∀x∈ns,P x->a.mn<=x.val
 mx:yj P ns≠0->(∃x∈ns,P x/\x.val=a.mx)/\∀x∈ns,P x->x.val<=a.mx
section
variable {P Q:Nm->Prop} [DecidablePred P] [DecidablePred Q] {ns:List Nm}
theorem yb:∀ns:List Nm,0<=yj P ns/\yj P ns<=ns.length
 |[]=>by simp[yj]
 |x::r=>by
  have:=yb r;simp only[yj,List.length_cons];split<;>omega
theorem qF:∀{ns:List Nm},yj P ns=0↔∀x∈ns,¬P x
 |[]=>by simp[yj]
 |x::r=>by
  have e:=yb (P:=P) r;have b:=qF (ns:=r);simp only[yj,zl,forall_eq_or_imp];constructor
  ·intro h;by_cases a:P x
   ·rw[if_pos a]at h;omega
   ·rw[if_neg a]at h;exact⟨a,b.1 (by omega)⟩
  ·rintro⟨c,d⟩;rw[if_neg c,b.2 d];rfl
theorem zcp:∀{ns:List Nm},(∀x∈ns,¬P x)->zaH P ns=0
 |[],_=>by simp[zaH]
 |x::r,h=>by
  have a:=zcp (ns:=r) (fun y b=>h y (by simp[b]));simp only[zaH];rw[if_neg (h x (by simp)),a];rfl
theorem vn:∀{ns:List Nm},(∀x∈ns,P x↔Q x)->yj P ns=yj Q ns/\zaH P ns=zaH Q ns
 |[],_=>by simp[yj,zaH]
 |x::r,h=>by
  have a:=vn (ns:=r) (fun y c=>h y (by simp[c]));have b:=h x (by simp);simp only[yj,zaH,b,a.1,a.2,and_self]
theorem Jz{R:Nm->Prop}[DecidablePred R]:∀{ns:List Nm},(∀x∈ns,R x↔P x\/Q x)->(∀x∈ns,¬(P x/\Q x))->yj R ns=yj P ns+yj Q ns/\zaH R ns=zaH P ns+zaH Q ns
 |[],_,_=>by simp[yj,zaH]
 |x::r,h,hn=>by
  have c:=Jz (ns:=r) (fun y b=>h y (by simp[b])) (fun y b=>hn y (by simp[b]));have a:=h x (by simp);have d:=hn x (by simp);simp only[yj,zaH,c.1,c.2];by_cases p:P x
  ·have q:¬Q x:=fun q=>d ⟨p,q⟩;simp only[a,p,q,true_or,if_true,if_false];constructor<;>omega
  ·by_cases q:Q x
   ·simp only[a,p,q,or_true,if_true,if_false];constructor<;>omega
   ·simp only[a,p,q,or_self,if_false];constructor<;>omega
theorem IsC.congr{a:Cl}(h:IsC P ns a)(c:∀x∈ns,P x↔Q x):IsC Q ns a:=by
 obtain⟨f,k⟩:=vn c;refine⟨by rw[h.cnt,f],by rw[h.sum,k],fun b=>h.none (by rw[f];exact b),fun b=>?_,fun b=>?_⟩
 ·obtain⟨⟨x,d,i,ex⟩,g⟩:=h.mn (by rw[f];exact b);exact⟨⟨x,d,(c x d).1 i,ex⟩,fun y e j=>g y e ((c y e).2 j)⟩
 ·obtain⟨⟨x,d,i,ex⟩,g⟩:=h.mx (by rw[f];exact b);exact⟨⟨x,d,(c x d).1 i,ex⟩,fun y e j=>g y e ((c y e).2 j)⟩
theorem IsC.one{a b:Cl}(h:IsC P ns a)(k:IsC P ns b):a=b:=by
 obtain⟨a1,a2,a3,a4⟩:=a;obtain⟨I,J,m,n⟩:=b;have f:=h.cnt.trans k.cnt.symm;have g:=h.sum.trans k.sum.symm;simp only at f g;subst f g;by_cases c:yj P ns=0
 ·obtain⟨j,d⟩:=h.none c;obtain⟨l,e⟩:=k.none c;simp only at j d l e;subst j d l e;rfl
 ·obtain⟨⟨x,v,D,ex⟩,d⟩:=h.mn c;obtain⟨⟨y,w,F,r⟩,e⟩:=k.mn c;obtain⟨⟨z,A,H,s⟩,z2⟩:=h.mx c;obtain⟨⟨u,t,B,q⟩,i⟩:=k.mx c;simp only at ex r s q d e z2 i;have:=d y w F;have:=e x v D;have:=z2 u t B;have:=i z A H;have o:a3=m:=by omega
  have p:a4=n:=by omega
  subst o p;rfl
theorem IsC.zero(h:∀x∈ns,¬P x):IsC P ns qA:=by
 have b:=qF.2 h;have c:=zcp h;exact⟨by rw[b];rfl,by rw[c];show(0:Int)=wrap64 0;unfold wrap64;omega,fun _=>⟨rfl,rfl⟩,fun a=>absurd b a,fun a=>absurd b a⟩
theorem Zo(x:Nm):∀ns:List Nm,yj P (ns++[x])=yj P ns+(if P x then 1 else 0)/\zaH P (ns++[x])=zaH P ns+(if P x then x.val else 0)
 |[]=>by simp[yj,zaH]
 |y::r=>by
  have h:=Zo x r;simp only[List.cons_append,yj,zaH,h.1,h.2];constructor<;>omega
theorem IsC.skip{a:Cl}{x:Nm}(h:IsC P ns a)(g:¬P x):IsC P (ns++[x]) a:=by
 obtain⟨c,l⟩:=Zo (P:=P) x ns;rw[if_neg g,Int.add_zero]at c l;refine⟨by rw[h.cnt,c],by rw[h.sum,l],fun d=>h.none (by rw[<-c];exact d),fun d=>?_,fun d=>?_⟩
 ·obtain⟨⟨y,i,j,f⟩,k⟩:=h.mn (by rw[<-c];exact d);refine⟨⟨y,by simp[i],j,f⟩,fun z b e=>?_⟩;rcases List.mem_append.1 b with b|b
  ·exact k z b e
  ·rw[List.mem_singleton]at b;subst b;exact absurd e g
 ·obtain⟨⟨y,i,j,f⟩,k⟩:=h.mx (by rw[<-c];exact d);refine⟨⟨y,by simp[i],j,f⟩,fun z b e=>?_⟩;rcases List.mem_append.1 b with b|b
  ·exact k z b e
  ·rw[List.mem_singleton]at b;subst b;exact absurd e g
def znq(a:Cl)(v:Int):Cl:=⟨a.cnt+1,wrap64 (a.sum+v),if a.cnt=0\/v<a.mn then v else a.mn,if a.cnt=0\/a.mx<v then v else a.mx⟩
theorem IsC.add{a:Cl}{x:Nm}(h:IsC P ns a)(e:P x):IsC P (ns++[x]) (znq a x.val):=by
 obtain⟨p,n⟩:=Zo (P:=P) x ns;rw[if_pos e]at p n;have hn:=yb (P:=P) ns;have q:=h.cnt;refine⟨by show a.cnt+1=_;omega,by show wrap64 (a.sum+x.val)=_;rw[h.sum,zkg,n],fun o=>by omega,fun o=>?_,fun o=>?_⟩
 ·by_cases f:yj P ns=0
  ·have d:=qF.1 f;refine⟨⟨x,by simp,e,?_⟩,fun z b c=>?_⟩
   ·show x.val=if a.cnt=0\/x.val<a.mn then x.val else a.mn
    rw[if_pos (.inl (by omega))]
   ·show(if a.cnt=0\/x.val<a.mn then x.val else a.mn)<=z.val
    rw[if_pos (.inl (by omega))];rcases List.mem_append.1 b with b|b
    ·exact absurd c (d z b)
    ·rw[List.mem_singleton]at b;subst b;omega
  ·obtain⟨⟨y,k,m,i⟩,g⟩:=h.mn f;have l:¬a.cnt=0:=(by omega);show(∃z∈ns++[x],P z/\z.val=(if a.cnt=0\/x.val<a.mn then x.val else a.mn))/\∀z∈ns++[x],P z->(if a.cnt=0\/x.val<a.mn then x.val else a.mn)<=z.val
   by_cases j:x.val<a.mn
   ·rw[if_pos (.inr j)];refine⟨⟨x,by simp,e,rfl⟩,fun z b c=>?_⟩;rcases List.mem_append.1 b with b|b
    ·have:=g z b c;omega
    ·rw[List.mem_singleton]at b;subst b;omega
   ·rw[if_neg (by omega)];refine⟨⟨y,by simp[k],m,i⟩,fun z b c=>?_⟩;rcases List.mem_append.1 b with b|b
    ·exact g z b c
    ·rw[List.mem_singleton]at b;subst b;omega
 ·by_cases f:yj P ns=0
  ·have d:=qF.1 f;refine⟨⟨x,by simp,e,?_⟩,fun z b c=>?_⟩
   ·show x.val=if a.cnt=0\/a.mx<x.val then x.val else a.mx
    rw[if_pos (.inl (by omega))]
   ·show z.val<=(if a.cnt=0\/a.mx<x.val then x.val else a.mx)
    rw[if_pos (.inl (by omega))];rcases List.mem_append.1 b with b|b
    ·exact absurd c (d z b)
    ·rw[List.mem_singleton]at b;subst b;omega
  ·obtain⟨⟨y,k,m,i⟩,g⟩:=h.mx f;have l:¬a.cnt=0:=(by omega);show(∃z∈ns++[x],P z/\z.val=(if a.cnt=0\/a.mx<x.val then x.val else a.mx))/\∀z∈ns++[x],P z->z.val<=(if a.cnt=0\/a.mx<x.val then x.val else a.mx)
   by_cases j:a.mx<x.val
   ·rw[if_pos (.inr j)];refine⟨⟨x,by simp,e,rfl⟩,fun z b c=>?_⟩;rcases List.mem_append.1 b with b|b
    ·have:=g z b c;omega
    ·rw[List.mem_singleton]at b;subst b;omega
   ·rw[if_neg (by omega)];refine⟨⟨y,by simp[k],m,i⟩,fun z b c=>?_⟩;rcases List.mem_append.1 b with b|b
    ·exact g z b c
    ·rw[List.mem_singleton]at b;subst b;omega
end
theorem IsC.join{P Q R:Nm->Prop}[DecidablePred P][DecidablePred Q][DecidablePred R]{ns:List Nm}{z:Cl}(h:IsC P ns (xx zs))(A:zs=[]↔yj P ns=0)(k:IsC Q ns z)(I:yj Q ns≠0)(f:∀x∈ns,R x↔P x\/Q x)(hn:∀x∈ns,¬(P x/\Q x))(Y:(ns.length:Int)<9223372036854775808):
  IsC R ns (xx (zs++[z]))/\yj R ns≠0:=by
 obtain⟨L,M⟩:=Jz f hn;have V:=yb (P:=P) ns;have W:=yb (P:=Q) ns;have X:=yb (P:=R) ns;have H:yj R ns≠0:=by omega
 have J:=h.cnt;have K:=h.sum;have O:(xx (zs++[z])).cnt=wrap64 ((xx zs).cnt+z.cnt):=by simp only[xx,List.map_append,List.map_cons,List.map_nil,Qm]
 have S:(xx (zs++[z])).sum=wrap64 ((xx zs).sum+z.sum):=by simp only[xx,List.map_append,List.map_cons,List.map_nil,Qm]
 have U:=k.cnt;have k2:=k.sum;obtain⟨⟨q1,o,w,t⟩,q2⟩:=k.mn I;obtain⟨⟨r1,p,y,u⟩,r2⟩:=k.mx I;have B:(∃x∈ns,R x/\x.val=(xx (zs++[z])).mn)/\∀x∈ns,R x->(xx (zs++[z])).mn<=x.val:=by
  simp only[xx,vo];cases b:yd KB zs with
  |none=>
   have d:zs=[]:=by
    rcases List.eq_nil_or_concat zs with h|⟨l,x,rfl⟩
    ·exact h
    ·rw[List.concat_eq_append,vo]at b;unfold jp at b;split at b<;>(try split at b)<;>cases b
   have c:=qF.1 (A.1 d);simp only[jp,Option.getD_some];exact⟨⟨q1,o,(f q1 o).2 (.inr w),t⟩,fun x a n=>((f x a).1 n).elim (fun s=>absurd s (c x a)) (q2 x a)⟩
  |some g=>
   have d:zs≠[]:=fun e=> (by rw[e]at b;cases b);have c:yj P ns≠0:=fun e=>d (A.2 e);obtain⟨⟨v,m,r,i⟩,q⟩:=h.mn c;simp only[xx,b,Option.getD_some]at i q;simp only[jp,KB,zfu];by_cases j:z.mn<g.mn
   ·simp only[j,if_true,show(-1:Int)<0 by omega,Option.getD_some];refine⟨⟨q1,o,(f q1 o).2 (.inr w),t⟩,fun x a n=>((f x a).1 n).elim (fun s=>?_) (q2 x a)⟩;have:=q x a s;omega
   ·have:¬(if z.mn<g.mn then(-1:Int)else if g.mn<z.mn then 1 else 0)<0:=by rw[if_neg j];split<;>omega
    simp only[this,if_false,Option.getD_some];refine⟨⟨v,m,(f v m).2 (.inl r),i⟩,fun x a n=>((f x a).1 n).elim (q x a) (fun F=>?_)⟩;have:=q2 x a F;omega
 have D:(∃x∈ns,R x/\x.val=(xx (zs++[z])).mx)/\∀x∈ns,R x->x.val<=(xx (zs++[z])).mx:=by
  simp only[xx,vo];cases b:yd KC zs with
  |none=>
   have d:zs=[]:=by
    rcases List.eq_nil_or_concat zs with h|⟨l,x,rfl⟩
    ·exact h
    ·rw[List.concat_eq_append,vo]at b;unfold jp at b;split at b<;>(try split at b)<;>cases b
   have c:=qF.1 (A.1 d);simp only[jp,Option.getD_some];exact⟨⟨r1,p,(f r1 p).2 (.inr y),u⟩,fun x a n=>((f x a).1 n).elim (fun s=>absurd s (c x a)) (r2 x a)⟩
  |some g=>
   have d:zs≠[]:=fun e=> (by rw[e]at b;cases b);have c:yj P ns≠0:=fun e=>d (A.2 e);obtain⟨⟨v,m,r,i⟩,q⟩:=h.mx c;simp only[xx,b,Option.getD_some]at i q;simp only[jp,KC,zfu];by_cases j:g.mx<z.mx
   ·simp only[j,if_true,show(-1:Int)<0 by omega,Option.getD_some];refine⟨⟨r1,p,(f r1 p).2 (.inr y),u⟩,fun x a n=>((f x a).1 n).elim (fun s=>?_) (r2 x a)⟩;have:=q x a s;omega
   ·have:¬(if g.mx<z.mx then(-1:Int)else if z.mx<g.mx then 1 else 0)<0:=by rw[if_neg j];split<;>omega
    simp only[this,if_false,Option.getD_some];refine⟨⟨v,m,(f v m).2 (.inl r),i⟩,fun x a n=>((f x a).1 n).elim (q x a) (fun F=>?_)⟩;have:=r2 x a F;omega
 refine⟨⟨?_,?_,fun N=>absurd N H,fun _=>B,fun _=>D⟩,H⟩
 ·rw[O,J,U,<-L];unfold wrap64;omega
 ·rw[S,K,k2,M];unfold wrap64;omega
theorem zcm{L:LV}{wd f sr a:Int}{ns:List Nm}(p:(ns.length:Int)<9223372036854775808):∀j:Nat,
  (∀i:Nat,i<j->(∀v,ko L ⟨f,sr,a+i⟩=E v->IsC (fun x:Nm=>x.sr=sr/\x.tm/wd=a+i) ns v.cl/\yj (fun x:Nm=>x.sr=sr/\x.tm/wd=a+i) ns≠0)/\(ko L ⟨f,sr,a+i⟩=zf->∀x∈ns,¬(x.sr=sr/\x.tm/wd=a+i)))->
  IsC (fun x:Nm=>x.sr=sr/\a<=x.tm/wd/\x.tm/wd<a+j) ns (xx (qT L f sr a j))/\(qT L f sr a j=[]↔yj (fun x:Nm=>x.sr=sr/\a<=x.tm/wd/\x.tm/wd<a+j) ns=0)
 |0,_=>by
  have m:∀x∈ns,¬(x.sr=sr/\a<=x.tm/wd/\x.tm/wd<a+(0:Nat)):=fun x _ ⟨_,b,c⟩=>by
   have:((0:Nat):Int)=0:=rfl;omega
  exact⟨IsC.zero m,by simp only[qT,List.range_zero,List.filterMap_nil,true_iff];exact qF.2 m⟩
 |j+1,h=>by
  obtain⟨q,k2⟩:=zcm p j (fun i w=>h i (by omega));obtain⟨r,s⟩:=h j (by omega);have g:((j+1:Nat):Int)=(j:Int)+1:=by omega
  rw[KW];cases o:ko L ⟨f,sr,a+j⟩with
  |none=>
   have k:=s o
   have n:∀x∈ns,(x.sr=sr/\a<=x.tm/wd/\x.tm/wd<a+j)↔(x.sr=sr/\a<=x.tm/wd/\x.tm/wd<a+(j+1:Nat)):=fun x l=>by
    have:=k x l;constructor
    ·rintro⟨b,c,d⟩;exact⟨b,c,by omega⟩
    ·rintro⟨b,c,d⟩;refine⟨b,c,?_⟩;have:x.tm/wd≠a+j:=fun e=>this ⟨b,e⟩;omega
   simp only[List.append_nil]
   exact⟨q.congr n,by rw[k2,(vn n).1]⟩
  |some v=>
   obtain⟨u,v2⟩:=r v o
   obtain⟨r1,r2⟩:=IsC.join (R:=fun x:Nm=>x.sr=sr/\a<=x.tm/wd/\x.tm/wd<a+(j+1:Nat)) q k2 u v2 (fun x l=>by
    constructor
    ·rintro⟨b,c,d⟩;by_cases t:x.tm/wd=a+j
     ·exact .inr ⟨b,t⟩
     ·exact .inl ⟨b,c,by omega⟩
    ·rintro(⟨b,c,d⟩|⟨b,c⟩)
     ·exact⟨b,c,by omega⟩
     ·exact⟨b,by omega,by omega⟩) (fun x l ⟨⟨_,_,b⟩,_,c⟩=>by omega) p
   exact⟨r1,by simp only[List.append_eq_nil_iff,List.cons_ne_nil,and_false,false_iff];exact r2⟩
theorem zkO(h:xi yG X lb (vQ L)){k:Sg}(i:k.wf)(d:TypeId):
  ∃o,(Builtin.delete_ #[152,146] d #[.map (E lb),.agg #[I k.t,I k.sr,I k.wn]]).run prog X=.ok (.tuple #[]) (setBlock X lb o)/\xi yG (setBlock X lb o) lb (vQ (zT L k))/\zi (fun k=>k=lb) X (setBlock X lb o):=by
 obtain⟨es,cl,c,g⟩:=h;obtain⟨a,f,b,j⟩:=YF Xx c g i d;have e:zT (vQ L) k=vQ (zT L k):=by
  unfold zT vQ;rw[List.filter_map];rfl
 rw[e]at b;exact⟨.map a cl,f,⟨a,cl,xO (zd c) _,b⟩,xZ _⟩
theorem xI.putLive{f:LV}(h:xI w s c tv lb gb Gl L)(j:xi yG w' lb (vQ f))(b:zi (fun k=>k=lb) w w'):xI w' s c tv lb gb Gl f:=by
 have a:∀{k:Nat} {cs:Array zb} {t:TypeId} {fr:Nat×Nat},w.1[k]?=E (.cells cs t fr)->¬k=lb:=fun b e=>by
  obtain⟨es,cl,i,_⟩:=h.live;rw[e,i]at b;cases b
 refine⟨b.heap h.head (a h.head),zh h.trow b (fun k b=>?_),qK.2 j,h.gone.kept b h.apart,h.apart⟩;obtain⟨g,d⟩:=zH h.trow b;exact a d
theorem xI.putGone{d:List (Sg×Unit)}(h:xI w s c tv lb gb Gl L)(j:xi jA w' gb d)(b:zi (fun k=>k=gb) w w'):xI w' s c tv lb gb d L:=by
 have a:∀{k:Nat} {cs:Array zb} {t:TypeId} {fr:Nat×Nat},w.1[k]?=E (.cells cs t fr)->¬k=gb:=fun b e=>by
  obtain⟨es,cl,i,_⟩:=h.gone;rw[e,i]at b;cases b
 refine⟨b.heap h.head (a h.head),zh h.trow b (fun k b=>?_),h.live.kept b (fun e=>h.apart e.symm),j,h.apart⟩;obtain⟨g,f⟩:=zH h.trow b;exact a f
def xw(x:SX):List zb:=[I x.1.t,I x.1.sr,I x.1.wn,I x.2.st,I x.2.cl.cnt,I x.2.cl.sum,T C x.2.cl.mn,T C x.2.cl.mx]
def ju(w:za)(base:Nat)(v:zb)(xs:List SX):Prop:=w.ownsRow base 148 8 v xs.length (xs.flatMap xw)
theorem ju.slice(h:ju w base v xs):∃a cap,v=.slice a xs.length cap:=zR h
theorem ju.at(h:ju w base (.slice (E (U g 0)) xs.length cap) xs)(b:xs[j]?=E x):
  w.cell? (U g (j*8))=E (I x.1.t)/\w.cell? (U g (j*8+1))=E (I x.1.sr)/\w.cell? (U g (j*8+2))=E (I x.1.wn)/\w.cell? (U g (j*8+3))=E (I x.2.st)/\
  w.cell? (U g (j*8+4))=E (I x.2.cl.cnt)/\w.cell? (U g (j*8+5))=E (I x.2.cl.sum)/\w.cell? (U g (j*8+6))=E (T C x.2.cl.mn)/\w.cell? (U g (j*8+7))=E (T C x.2.cl.mx):=by
 have d:j<xs.length:=(List.getElem?_eq_some_iff.1 b).1;have a:=fun i c=>kZ (f:=xw) (k:=8) (fun _=>rfl) xs j x i b c;refine⟨?_,?_,?_,?_,?_,?_,?_,?_⟩
 ·rw[h.cellAt (j*8) (by omega)];exact a 0 (by omega)
 ·rw[h.cellAt (j*8+1) (by omega)];exact a 1 (by omega)
 ·rw[h.cellAt (j*8+2) (by omega)];exact a 2 (by omega)
 ·rw[h.cellAt (j*8+3) (by omega)];exact a 3 (by omega)
 ·rw[h.cellAt (j*8+4) (by omega)];exact a 4 (by omega)
 ·rw[h.cellAt (j*8+5) (by omega)];exact a 5 (by omega)
 ·rw[h.cellAt (j*8+6) (by omega)];exact a 6 (by omega)
 ·rw[h.cellAt (j*8+7) (by omega)];exact a 7 (by omega)
theorem ju.form{a:Option Addr}(h:ju w base (.slice a n cap) xs)(e:0<xs.length):∃g,a=E (U g 0)/\n=xs.length/\g<w.1.size:=by
 obtain⟨g,d,c,j,b⟩:=World.ownsRow.form h e;injection c with f i k;exact⟨g,f,i,b⟩
theorem zmP(h:k<l.length):∃x,l[k]?=E x:=⟨_,List.getElem?_eq_getElem h⟩
theorem Qj(h:l[k]?=E x):l.take (k+1)=l.take k++[x]:=by
 rw[List.take_add_one,h];rfl
theorem zlF(q:List (Sg×Unit)×LV)(x:SX):(jn q x).1.length<=q.1.length+1/\(jn q x).2.length<=q.2.length+1:=by
 unfold jn;split
 ·refine⟨?_,?_⟩
  ·show(qj q.1 x.1 ()).length<=_;unfold qj;split<;>simp
  ·show(zT q.2 x.1).length<=_;have:=List.length_filter_le (fun p:Sg×SV=>decide (p.1≠x.1)) q.2;unfold zT;omega
 ·exact⟨Nat.le_succ _,zeF _ _ _⟩
theorem KK:∀(xs:List SX) (q:List (Sg×Unit)×LV),(qr q xs).1.length<=q.1.length+xs.length/\(qr q xs).2.length<=q.2.length+xs.length
 |[],q=>by simp[qr]
 |x::xs,q=>by
  have a:=KK xs (jn q x);have b:=zlF q x;simp only[qr,List.foldl_cons,List.length_cons]at*;omega
theorem zlH(h:xI X s c tv lb gb q.1 q.2)(a:q.2.length<maxLen)(i:x.1.wf)(g:(x.2.st==4)=false):
  ∃o,(Instr.mapUpdate 152 (.map (E lb)) (.agg #[I x.1.t,I x.1.sr,I x.1.wn]) (.agg (xZz x))).run prog X=.ok () (setBlock X lb o)/\xI (setBlock X lb o) s c tv lb gb (jn q x).1 (jn q x).2/\zi (fun k=>k=lb\/k=gb) X (setBlock X lb o):=by
 obtain⟨o,b,d,f,-⟩:=zgB h a i x.2;have e:jn q x=(q.1,qS q.2 x.1 x.2):=by unfold jn;rw[if_neg (by simpa using g)]
 refine⟨o,b,by rw[e];exact d,f.mono (fun k _ e=> .inl e)⟩
theorem zlG(h:xI X s c tv lb gb q.1 q.2)(a:q.1.length<maxLen)(p:x.1.wf)(u:(x.2.st==4)=true)(r:TypeId):
  ∃o j,(Builtin.delete_ #[152,146] r #[.map (E lb),.agg #[I x.1.t,I x.1.sr,I x.1.wn]]).run prog X=.ok (.tuple #[]) (setBlock X lb o)/\xI (setBlock X lb o) s c tv lb gb q.1 (zT q.2 x.1)/\zi (fun k=>k=lb) X (setBlock X lb o)/\
   (Instr.mapUpdate 153 (.map (E gb)) (.agg #[I x.1.t,I x.1.sr,I x.1.wn]) (.agg #[])).run prog (setBlock X lb o).drew=.ok () (setBlock (setBlock X lb o).drew gb j)/\xI (setBlock (setBlock X lb o).drew gb j) s c tv lb gb (jn q x).1 (jn q x).2/\zi (fun k=>k=gb) (setBlock X lb o).drew (setBlock (setBlock X lb o).drew gb j):=by
 obtain⟨o,i,m,f⟩:=zkO (X:=X) (qK.1 h.live) p r;have l:=h.putLive m f;have d:z9 (setBlock X lb o).1.size (setBlock X lb o) (setBlock X lb o).drew:=(z0 _ _).drew;obtain⟨j,b,n,g,_⟩:=zpR (X:=(setBlock X lb o).drew) (l.later d).gone a p;have e:jn q x=(qj q.1 x.1 (),zT q.2 x.1):=by unfold jn;rw[if_pos (by simpa using u)]
 exact⟨o,j,i,l,f,b,by rw[e];exact(l.later d).putGone n g,g⟩
theorem Zm{α β:Type}{M:MK α β}{b:Nat}{L:List (α×β)}(h:xi M w b L){cs:Array zb}{t:TypeId}(a:w.1[k]?=E (.cells cs t fr)):¬k=b:=fun e=>by
 obtain⟨es,cl,c,_⟩:=h;rw[e,c]at a;cases a
theorem zeE(h:xI w s c tv lb gb Gl L)(xs:List SX)(a0:∀x∈xs,x.1.wf)(a7:Gl.length+xs.length<=1000000000)(a8:L.length+xs.length<=1000000000)(base:Nat)(v:zb)(hv:ju w base v xs):
  Calls prog 170 #[(O s),v] w fun e w'=>e=.returned (.tuple #[])/\xI w' s c tv lb gb (qr (Gl,L) xs).1 (qr (Gl,L) xs).2/\zi (fun k=>k=lb\/k=gb) w w':=by
 obtain⟨ad,cap,rfl⟩:=hv.slice;have W:∀k,(Value.slice ad xs.length cap).ownBlock=E k->¬(k=lb\/k=gb):=fun k hk e=>by
  obtain⟨a4,hc⟩:=zH hv hk;rcases e with e|e
  ·exact Zm (qK.1 h.live) hc e
  ·exact Zm h.gone hc e
 have ah:¬s=lb:=Zm (qK.1 h.live) h.head;have ag:¬s=gb:=Zm h.gone h.head;have HS:=ze h;have HV:=ze hv;have a1:=ze W;have a2:=ze a0;have aa:xs.length<=1000000000:=by omega
 clear h hv W a0;go_enter func170,ntmps170;go_wp2_with fail;go_loopw [8] (fun i wr=>∃k:Nat,k<=xs.length/\i=I k/\xI wr s c tv lb gb (qr (Gl,L) (xs.take k)).1 (qr (Gl,L) (xs.take k)).2/\zi (fun k=>k=lb\/k=gb) w wr) (fun i _=>xs.length-(intOf i).toNat);case atStart=>exact⟨0,Nat.zero_le _,rfl,by simpa[qr]using ud HS,zi.refl _ _⟩
 case round=>
  obtain⟨k,hk,rfl,S,m⟩:=hrel;by_cases a3:k<xs.length
  ·obtain⟨x,hx⟩:=zmP a3;have K:ju wr base (.slice ad xs.length cap) xs:=zh (ud HV) m (ud a1);obtain⟨g,rfl,-,a5⟩:=K.form (by omega);obtain⟨x0,x1,x2,x3,x4,x5,x6,x7⟩:=K.at hx;have hq:=KK (xs.take k) (Gl,L);rw[List.length_take]at hq;obtain⟨q,J⟩:∃q,qr (Gl,L) (xs.take k)=q:=⟨_,rfl⟩;have HQ:=ze J;rw[J]at S hq;have M:=ud a2 x (List.mem_of_getElem? hx);have HX:=ze hx;obtain⟨X,n⟩:∃X,(wr.alloc (.cells (xZz x) 148))=X:=⟨_,rfl⟩;have B:z9 wr.1.size wr X:=(by rw[<-n];exact(z0 _ _).alloc (G _) _);have p:X.1[wr.1.size]?=E (.cells (xZz x) 148 (0,0)):=(by rw[<-n];exact zq _ _);have j:=S.later B;obtain⟨-,-,-,-,-,-,-,c7,c8⟩:=j.cells;obtain⟨y0,y1,y2,y3,y4,y5,y6,y7,-⟩:=zc p;have A:z9 X.1.size X X.drew:=(z0 _ _).drew;have F:zi (fun k=>k=lb\/k=gb) w X.drew:=(m.trans (zi.of_below (f:=fun _=>False) B) (fun _ _ e=>e.elim)).drew;have ae:=j.lt;have H:=zd p;have a9:=j.live.lt;have R:¬wr.1.size=lb:=Zm (qK.1 j.live) p;have a6:(k:Int)<xs.length:=(by omega);have U:=ze n;obtain⟨P,Q⟩:=hq;cases he:(x.2.st==4)
   ·obtain⟨o,u,z,N⟩:=zlH (X:=X.drew) (j.later A) (by simp only[maxLen];dsimp only at Q;omega) M he;obtain⟨Y,r⟩:∃Y,setBlock X.drew lb o=Y:=⟨_,rfl⟩;rw[r]at u z N;have d:Hid (xI Y s c tv lb gb (jn q x).1 (jn q x).2/\zi (fun k=>k=lb\/k=gb) w Y):=⟨z,F.trans N (fun _ _ e=>e)⟩;clear z N F A j p B n K S m hx M J r P Q;go_wp2_with fail;rw[ud U];go_wp2_with fail;go_region
    go_wp2_with fail;go_roundw;case rel=>exact⟨k+1,by omega,by go_num,by rw[Qj (ud HX),jH,ud HQ];exact(ud d).1,(ud d).2⟩
    case measure=>simp[intOf];omega
   ·obtain⟨o,o2,u,a,l,y,b,D⟩:=zlG (X:=X.drew) (j.later A) (by simp only[maxLen];dsimp only at P;omega) M he 0;obtain⟨Y,r⟩:∃Y,setBlock X.drew lb o=Y:=⟨_,rfl⟩;rw[r]at u a l y b D;obtain⟨Z,V⟩:∃Z,setBlock Y.drew gb o2=Z:=⟨_,rfl⟩;rw[V]at y b D;obtain⟨-,-,-,-,-,-,-,-,d8⟩:=a.cells;have ai:Cz Y wr.1.size 0 (I x.1.t):=(zL (i:=0) l R H).trans y0;have aj:Cz Y wr.1.size 1 (I x.1.sr):=(zL (i:=1) l R H).trans y1;have ak:Cz Y wr.1.size 2 (I x.1.wn):=(zL (i:=2) l R H).trans y2;have af:=a.lt;have ac:wr.1.size<Y.1.size:=z1 H l.size;have d:Hid (xI Z s c tv lb gb (jn q x).1 (jn q x).2/\zi (fun k=>k=lb\/k=gb) w Z):=⟨b,((F.trans (l.mono (fun k _ e=> .inl e)) (fun _ _ e=>e)).drew).trans (D.mono (fun k _ e=> .inr e)) (fun _ _ e=>e)⟩;clear a b l D F A j p B n K S m hx M J r V P Q;go_wp2_with fail;rw[ud U];go_wp2_with fail;go_region
    go_wp2_with fail;go_region
    go_wp2_with fail;go_roundw;case rel=>exact⟨k+1,by omega,by go_num,by rw[Qj (ud HX),jH,ud HQ];exact(ud d).1,(ud d).2⟩
    case measure=>simp[intOf];omega
  ·obtain rfl:k=xs.length:=(by omega);have ab:decide ((xs.length:Int)<xs.length)=false:=(by simp);rw[List.take_length]at S;have HR:=ze S;have HK:=ze m;clear S m;go_wp2_with fail;go_end0;exact⟨rfl,ud HR,ud HK⟩
attribute [local go_sem] Oper.semAt_some
theorem zho:(prog.info? 148).map (fun i=>(i.zero,i.size,i.bytes))=E (E (.agg #[I 0,I 0,I 0,I 0,I 0,I 0,T C 0,T C 0]),8,56):=by kernel_rfl
theorem zdX:∃i:TypeInfo,prog.info? 148=E i/\i.zero=E (.agg #[I 0,I 0,I 0,I 0,I 0,I 0,T C 0,T C 0])/\i.size=8/\i.bytes=56:=by
 have h:=zho;cases a:prog.info? 148 with
 |none=>simp[a]at h
 |some i=>
  simp only[a,Option.map_some,Option.some.injEq,Prod.mk.injEq]at h;exact⟨i,rfl,h.1,h.2.1,h.2.2⟩
theorem Z5(x:SX):∀v∈xw x,v.oneCell'=true:=fun v hv=>by
 simp only[xw,zl,List.not_mem_nil,or_false]at hv;rcases hv with rfl|rfl|rfl|rfl|rfl|rfl|rfl|rfl<;>rfl
theorem zjL{e:TypeId}{f:SX}(h:w.ownsRow base e 8 v (l.length+1) (l.flatMap xw++xw f)):w.ownsRow base e 8 v (l++[f]).length ((l++[f]).flatMap xw):=by
 rw[List.length_append,List.flatMap_append];simpa using h
def zqq(w:za)(a:List SX)(W:za):Prop:=∃v,W.1[w.1.size]?=E (.cells #[v] 105 (0,0))/\W.ownsRow w.1.size 148 8 v a.length (a.flatMap xw)/\z9 w.1.size w W
theorem zqq.later{a:List SX}{W':za}(h:zqq w a W)(b:z9 W.1.size W W'):zqq w a W':=by
 obtain⟨v,c,g,d⟩:=h;exact⟨v,(b.block _ (zd c)).trans c,zh g (zi.of_below (f:=fun _=>False) b) (fun _ _ e=>e),d.trans (b.mono d.size)⟩
theorem Kf{c:za}{e:TypeId}{xs:List zb}(i:W.ownsRow base e size v n xs)(d:W.grownBy c v.ownBlock)(B:Nat):KeepsFrom B W c/\KeepsWalks W c:=by
 have key:∀(k:Nat) (o:Obj),W.1[k]?=E o->o.isCells=false->c.1[k]?=E o:=fun k o a b=>(d.block k (zd a) (fun e=>by
  rcases i.2 with⟨rfl,_⟩|⟨g,cap,h,rfl,_,f,_⟩
  ·simp[Value.ownBlock]at e
  ·have:k=g:=(by simpa[Value.ownBlock]using e);subst this;rw[f]at a;cases a;cases b)).trans a
 exact⟨⟨d.size,fun k o _ a b=>key k o a b⟩,⟨d.size,fun k o a b=>key k o a (Obj.not_cells_of_walk b)⟩⟩
theorem zjc{F:Fence}(k:o.guard=zf)(s x:Operand)(z:o.op=.call {callee:=.builtin .append,args:=#[s,x],argTypes:=#[105,105]})(base:Nat)(v:zb)(l:List SX)(f:SX)(A:a.eval s=v)(e:W.ownsRow base 148 8 v l.length (l.flatMap xw))(B1:Nat)(B:a.eval x=.slice (E (U B1 0)) 1 1)(i:W.1[B1]?=E (.cells (xZz f) 148 (0,0)))(H:l.length<=1000000)(hbase:base<=W.1.size)(h:∀g cap w',w'.ownsRow base 148 8 (.slice (E (U g 0)) (l.length+1) cap) (l++[f]).length ((l++[f]).flatMap xw)->W.grownBy w' v.ownBlock->g<w'.1.size->wpListIn F n prog ops Q rest (a.put o.dst (.slice (E (U g 0)) (l.length+1) cap)) w'):wpListIn F n prog ops Q (o::rest) a W:=by
 obtain⟨i0,y,m,p,q⟩:=zdX;refine wpListIn_append_own_at W k s x 105 z base 148 i0 (.agg #[I 0,I 0,I 0,I 0,I 0,I 0,T C 0,T C 0]) 8 56 underlying105 y m p q rfl (by decide) v l.length _ A e (U B1 0) 1 1 (xw f) B rfl (World.news_of_block (cs:=(xw f).toArray) i) (Z5 f) (by simp only[maxLen];omega) (by omega) hbase ?_;intro J D b j r u;obtain⟨w,c,rfl,t,d⟩:=b.form (by omega);exact h w c D (zjL b) j d
theorem zfm(gf:Nat)(lb:Array zb)(eg:∀args w,(callFunc gf args).run prog w=.ok (.enter gf args) w)(w:za)(hN:N<=1000000)(q:Yi Fence.wide 6 prog gf lb (fun x:SX=>#[.agg (xZz x)]) KeepsWalks S (fun _=>True) N 0 w):
  Calls prog 245 #[.slice zf 0 0,.func (.func gf) #[] lb] w fun e w'=>∃xs v,S xs/\e=.returned v/\w'.ownsRow w.1.size 148 8 v xs.length (xs.flatMap xw)/\z9 w.1.size w w':=by
 have P:=ze q;have a0:=ze eg;have b1:=zq w zdS;have bz:=zM w zdS;have Y:z9 w.1.size w (w.alloc zdS):=(z0 _ _).alloc (G _) _;clear q eg;refine(callsIn_wide (n:=7)).1 ?_;refine callsIn_of_wp_marks func245 rfl trivial ?_ rfl;simp only[ntmps245,sZz,Nat.reduceAdd,Nat.reduceSub];have B1:=ze b1;have t:=ze Y;have BZ:=ze bz;clear b1 Y bz;gi_wp2;obtain⟨W0,X⟩:∃W0,(w.alloc zdS)=W0:=⟨_,rfl⟩;rw[X]at B1 t BZ ⊢;clear X;have hz:W0.1.size=w.1.size+1:=ud BZ;refine yg (F:=Fence.wide) (n:=7) rfl (by omega) (gf:=gf) (lb:=lb) rfl trivial (ud a0) (ud P) (by omega) (fun h k=>h.trans k) (fun W o o' h hc hw=>KeepsWalks.putObj _ h hw) (ud t) (fun _=>rfl)
  (zqq w) (fun _ _ _=>False)
  (fun s A B row hs y z=>by
   obtain⟨v,R,h2,V⟩:=hs;exact⟨v,zv R y (fun r e=>(z r e).2),ZT h2 y (fun r e=>(z r e).2),V.grown y V.size (fun k e=>by have:=(z k e).1;omega)⟩)
  (fun _ _ _ _ _ hs _ _=>hs)
  ⟨_,ud B1,⟨rfl,.inl ⟨rfl,rfl⟩⟩,ud t⟩
  (fun x a' W=>∃I,w.1.size+1<=I/\W.1[I]?=E (.cells (xZz x) 148 (0,0))/\a'={tmps:=#[.slice zf 0 0,.func (.func gf) #[] lb,(O w.1.size),undef,.slice zf 0 0,(O I),.func (.func gf) #[] lb,.agg (xZz x),undef,undef,undef,undef,undef],defers:=[]})
  (fun x a' s A B row hs y z=>by
   obtain⟨I,R,h2,V⟩:=hs;exact⟨I,R,zv h2 y (fun r e=>(z r e).2),V⟩) ?assign ?body ?done ?stop
 case assign=>
  rintro l d x W K hI J;have HK:=ze J;have HI:=ze hI;clear J hI;gi_wp2;have g:=(z0 W.1.size W).alloc (G _) (.cells (xZz x) 148);have ac:w.1.size<W.1.size:=by obtain⟨v,R,h2,V⟩:=ud HI;exact zd R
  exact ud HK _ _ (zo g) (KeepsWalks.alloc _ _) ((ud HI).later g) ⟨W.1.size,by omega,zq _ _,rfl⟩
 case body=>
  rintro l d x a' W hl ⟨r,z⟩ ⟨v,H,i2,i3⟩ ⟨I,aa,hx,rfl⟩ ab;obtain⟨va,vc,rfl⟩:=zR i2;have a6:=zd H;have ad:=zd hx;obtain⟨c1,-⟩:=zc H;obtain⟨x0,x1,x2,x3,x4,x5,x6,x7,-⟩:=zc hx;have M:=ze H;have a:=ze i2;have u:=ze i3;have HX:=ze hx;clear H i2 i3 hx z;gi_wp2_with (first
   |(gi_at_builtin;refine zjc rfl _ _ rfl w.1.size _ d x rfl ((ud a).alloc _) W.1.size rfl (zq _ _) (by omega) (by rw[zM];omega) ?_;intro g' a7 w3 b j a8
     have Z:=Kf ((ud a).alloc (.cells (xZz x) 148)) j W0.1.size
     have Q:w3.1[w.1.size]?=E (.cells #[.slice va d.length vc] 105 (0,0)):=(j.block w.1.size (by rw[zM];omega) (fun e=>zp (ud M) (ud a) (by decide) w.1.size e.symm rfl)).trans ((Below.heap_alloc _ _ _ a6).trans (ud M))
     obtain⟨d1,-⟩:=zc Q
     have f1:w3.frozen? (U w.1.size 0)=false:=zw Q 0
     have a9:=zd Q
     have a3:=ze b
     have a1:=ze j
     have a2:=ze Z
     have L:=ze Q
     clear b j Z Q
     go_frame)
   |gi_in)
  have hk:=ud a2;have y:(W.alloc (.cells (xZz x) 148)).grownBy w3 (Value.slice va d.length vc).ownBlock:=ud a1;have m:=ud a3;have hb:=ud u;have g:=(z0 W.1.size W).alloc (G _) (.cells (xZz x) 148);have a4:z9 w.1.size w w3:=(hb.alloc hb.size _).grown y (by have:=hb.size;rw[zM];omega) (fun k e=>((ud a).lt k e).1);refine⟨((zo g).trans hk.1).trans ((KeepsOthers.setCell w3 (U w.1.size 0) _).from _),((KeepsWalks.alloc _ _).trans hk.2).trans (KeepsWalks.setCell _ _ _),?_⟩;exact⟨_,xD (i:=0) (ud L) _,zh m (zg (f:=fun k=>k=w.1.size) (zi.refl _ _) rfl) (fun k a5 e=>zp (ud L) m (by decide) k a5 e),a4.setCell (p:=(U w.1.size 0)) (G _) _⟩
 case done=>
  rintro D xs W hD hS ⟨v,H,i2,i3⟩ J;obtain⟨va,vc,rfl⟩:=zR i2;obtain⟨c2,-⟩:=zc H;have a:=ze i2;have u:=ze i3;clear H i2 i3;gi_wp2;refine⟨by simp,.inl ⟨_,_,rfl,run_takeDeferred J,?_⟩⟩;exact⟨_,results_tmp rfl _ _ _,xs,_,hS,rfl,ZT (ud a) (grownBy_putObj' _ _ _) (fun r e=>by cases e;exact⟨_,J,rfl⟩),xE (ud u) (G _) (by omega) J _⟩
 case stop=>
  rintro D c d W _ _ h _;exact h.elim
theorem zba(gf:Nat)(lb:Array zb)(b:∀args w,(callFunc gf args).run prog w=.ok (.enter gf args) w)(w:za)(j:N<=1000000)(a:Yi Fence.wide 6 prog gf lb (fun x:SX=>#[.agg (xZz x)]) KeepsWalks S (fun _=>True) N 0 w):
  Calls prog 208 #[.func (.func gf) #[] lb] w fun e w'=>∃xs v,S xs/\e=.returned v/\ju w' w.1.size v xs/\z9 w.1.size w w':=by
 have h:=ze (zfm gf lb b w j a);clear a b;go_enter func208,ntmps208;go_wp2_with(go_at_call 245;refine(ud h).mono ?_;rintro e w1 ⟨xs,v,c,rfl,f,d⟩;have i:=ze c;have HR:=ze f;have g:=ze d;clear c f d);go_ret;exact⟨xs,v,ud i,rfl,ud HR,ud g⟩
def zeB(x y:Sg):Int:=orL [vT x.t y.t,vT x.sr y.sr,vT x.wn y.wn]
theorem QO(x y:Sg)(w:za):Calls prog 166 #[.agg #[I x.t,I x.sr,I x.wn],.agg #[I y.t,I y.sr,I y.wn]] w fun e w'=>e=.returned (I (zeB x y))/\Dr.Below w.1.size w w':=by
 obtain⟨i,j,g,r⟩:=Dr.box2 w (.cells #[I x.t,I x.sr,I x.wn] 146) (.cells #[I y.t,I y.sr,I y.wn] 146);obtain⟨Y,f⟩:∃Y,((w.alloc (.cells #[I x.t,I x.sr,I x.wn] 146)).alloc (.cells #[I y.t,I y.sr,I y.wn] 146))=Y:=⟨_,rfl⟩;rw[f]at i j g r;obtain⟨M,N,O,-⟩:=zc i;obtain⟨P,Q,k2,-⟩:=zc j;have m:=fun(a b:Int) W=>ze (kY a b W);have d:∀W:za,W.1[Y.1.size]?=E (.cells #[I (vT x.t y.t),I (vT x.sr y.sr),I (vT x.wn y.wn)] 3)->Hid (Calls prog 163 #[.slice (E (U Y.1.size 0)) 3 3] W fun e w'=>e=.returned (I (zeB x y))/\w'=W):=fun W z=>
  ziN [vT x.t y.t,vT x.sr y.sr,vT x.wn y.wn] (by simp) W Y.1.size (fun k v c=>by
   rw[xR z]
   match k,c with
   |0,c=>simp at c;subst c;rfl
   |1,c=>simp at c;subst c;rfl
   |2,c=>simp at c;subst c;rfl)
 have n:=d (Y.alloc (.cells #[I (vT x.t y.t),I (vT x.sr y.sr),I (vT x.wn y.wn)] 3)) (zq _ _);have o:=d (Y.alloc (.cells #[I (vT x.t y.t),I (vT x.sr y.sr),I (vT x.wn y.wn)] 3)).drew (zq _ _);have p:=d (Y.drew.alloc (.cells #[I (vT x.t y.t),I (vT x.sr y.sr),I (vT x.wn y.wn)] 3)) (zq Y.drew _);have D:=zd i;have F:=zd j;have l:=ze g;have q:=ze f;clear i j d g f r;generalize h:zeB x y=H at*;have u:=ze h;clear h;generalize A:vT x.t y.t=J at*;generalize B:vT x.sr y.sr=K at*;generalize hc2:vT x.wn y.wn=L at*;go_enter func166,ntmps166;go_wp2_with fail;rw[ud q];go_region_held3 (fun w'=>w'.cell? (U w.1.size 0)=E (I x.t)/\w'.cell? (U w.1.size 1)=E (I x.sr)/\w'.cell? (U w.1.size 2)=E (I x.wn)/\w'.cell? (U (w.1.size+1) 0)=E (I y.t)/\w'.cell? (U (w.1.size+1) 1)=E (I y.sr)/\w'.cell? (U (w.1.size+1) 2)=E (I y.wn)) (go_keep) (first
  |(go_at_call 162;(with_reducible refine(ud (m _ _ _)).mono ?_);rintro e V ⟨rfl,rfl⟩)
  |(go_at_call 163;(first|(with_reducible refine(ud n).mono ?_)|(with_reducible refine(ud o).mono ?_)|(with_reducible refine(ud p).mono ?_));rintro e V ⟨rfl,rfl⟩))
 go_wp2_with fail;go_ret;have s:=ud l;exact⟨rfl,(s.alloc s.size _).drew⟩
theorem zku(x y:SX)(w:za):Calls prog 210 #[.agg (xZz x),.agg (xZz y)] w fun e w'=>e=.returned (I (zeB x.1 y.1))/\Dr.Below w.1.size w w':=by
 obtain⟨d,f,b,h⟩:=Dr.box2 w (.cells (xZz x) 148) (.cells (xZz y) 148);obtain⟨Y,a⟩:∃Y,((w.alloc (.cells (xZz x) 148)).alloc (.cells (xZz y) 148))=Y:=⟨_,rfl⟩;rw[a]at d f b h;obtain⟨n,o,p,-⟩:=zc d;obtain⟨q,r,k2,-⟩:=zc f;have j:=ze (QO x.1 y.1 Y);have l:=zd d;have m:=zd f;have c:=ze b;have g:=ze a;clear d f b a h;go_enter func210,ntmps210;go_wp2_with fail;rw[ud g];go_wp2_with(go_at_call 166;refine(ud j).mono ?_;rintro e V ⟨rfl,i⟩;have k:=ze i;clear i);go_ret;exact⟨rfl,(ud c).trans ((ud k).mono (ud c).size)⟩
theorem zds(x y:Sg):zeB x y<0↔(x.t<y.t\/x.t=y.t/\(x.sr<y.sr\/x.sr=y.sr/\x.wn<y.wn)):=by
 unfold zeB;simp only[orL,vT];repeat' split
 all_goals omega
theorem zlz:Go.Sort.SWO (fun x y:SX=>decide (zeB x.1 y.1<0)) where
 irrefl x:=by simp only[decide_eq_false_iff_not,zds];omega
 trans x y z h1 h2:=by simp only[decide_eq_true_eq,zds]at*;omega
 ntrans x y z h1 h2:=by simp only[decide_eq_false_iff_not,zds]at*;omega
def zqW(w:za)(g:Nat)(a0 a1 a2 a3 a4 a5 a6 a7:zb):za:=((((((((w.setCell (U g 0) a0).setCell (U g 1) a1).setCell (U g 2) a2).setCell (U g 3) a3).setCell (U g 4) a4).setCell (U g 5) a5).setCell (U g 6) a6).setCell (U g 7) a7)
theorem zpl{b0 j f e d c b a:zb}{t:TypeId}(h:w.1[g]?=E (.cells #[b0,j,f,e,d,c,b,a] t fr))(a0 a1 a2 a3 a4 a5 a6 a7:zb):(zqW w g a0 a1 a2 a3 a4 a5 a6 a7).1[g]?=E (.cells #[a0,a1,a2,a3,a4,a5,a6,a7] t fr):=by
 have k:(w.setCell (U g 0) a0).1[g]?=E (.cells #[a0,j,f,e,d,c,b,a] t fr):=xD (i:=0) h a0;have l:((w.setCell (U g 0) a0).setCell (U g 1) a1).1[g]?=E (.cells #[a0,a1,f,e,d,c,b,a] t fr):=xD (i:=1) k a1;have m:(((w.setCell (U g 0) a0).setCell (U g 1) a1).setCell (U g 2) a2).1[g]?=E (.cells #[a0,a1,a2,e,d,c,b,a] t fr):=xD (i:=2) l a2;have n:((((w.setCell (U g 0) a0).setCell (U g 1) a1).setCell (U g 2) a2).setCell (U g 3) a3).1[g]?=E (.cells #[a0,a1,a2,a3,d,c,b,a] t fr):=xD (i:=3) m a3;have o:(((((w.setCell (U g 0) a0).setCell (U g 1) a1).setCell (U g 2) a2).setCell (U g 3) a3).setCell (U g 4) a4).1[g]?=E (.cells #[a0,a1,a2,a3,a4,c,b,a] t fr):=xD (i:=4) n a4;have p:((((((w.setCell (U g 0) a0).setCell (U g 1) a1).setCell (U g 2) a2).setCell (U g 3) a3).setCell (U g 4) a4).setCell (U g 5) a5).1[g]?=E (.cells #[a0,a1,a2,a3,a4,a5,b,a] t fr):=xD (i:=5) o a5;have q:(((((((w.setCell (U g 0) a0).setCell (U g 1) a1).setCell (U g 2) a2).setCell (U g 3) a3).setCell (U g 4) a4).setCell (U g 5) a5).setCell (U g 6) a6).1[g]?=E (.cells #[a0,a1,a2,a3,a4,a5,a6,a] t fr):=xD (i:=6) p a6;have r:((((((((w.setCell (U g 0) a0).setCell (U g 1) a1).setCell (U g 2) a2).setCell (U g 3) a3).setCell (U g 4) a4).setCell (U g 5) a5).setCell (U g 6) a6).setCell (U g 7) a7).1[g]?=E (.cells #[a0,a1,a2,a3,a4,a5,a6,a7] t fr):=xD (i:=7) q a7;exact r
theorem zgM(h:B<=g)(a0 a1 a2 a3 a4 a5 a6 a7:zb):z9 B w (zqW w g a0 a1 a2 a3 a4 a5 a6 a7):=(((((((((z0 _ _).setCell (p:=(U g 0)) h _).setCell (p:=(U g 1)) h _).setCell (p:=(U g 2)) h _).setCell (p:=(U g 3)) h _).setCell (p:=(U g 4)) h _).setCell (p:=(U g 5)) h _).setCell (p:=(U g 6)) h _).setCell (p:=(U g 7)) h _)
theorem QM{V:za}{z a:Nat}(hn:¬a=z)(a0 a1 a2 a3 a4 a5 a6 a7:zb):((((((((V.setCell (U z 0) a0).setCell (U z 1) a1).setCell (U z 2) a2).setCell (U z 3) a3).setCell (U z 4) a4).setCell (U z 5) a5).setCell (U z 6) a6).setCell (U z 7) a7).cell? (U a i)=V.cell? (U a i):=by
 simp only[World.cell?,Below.heap_setCell _ _ _ _ (show a≠((U z _):Addr).block from hn)]
theorem zgu(h:xI w s c tv lb gb Gl L)(hc:c.ok)(k:Nat)(hk:k<c.n)(sr wn:Int)(H:xz sr)(a1:0<=wn/\wn<=100000)(l:Cl)(D:xx (xe c L sr wn k)=l):
  Calls prog 111 #[(O s),.agg #[I k,I sr,I wn]] w (Rz w (.agg #[I k,I sr,I wn,I 3,I l.cnt,I l.sum,T C l.mn,T C l.mx])):=by
 obtain⟨P,q1,m,yz⟩:=box2 w (.cells #[I k,I sr,I wn] 146) zaI;have r:=fun W hW=>ze (zgD (h.later (w':=W) hW) hc k hk sr wn H a1);have a2:(xe c L sr wn k).length<=1000:=by have:=Jm L (c.F k) sr (wn*qm c k) (qm c k).toNat;have:=Xy hc hk;show(qT L (c.F k) sr (wn*qm c k) (qm c k).toNat).length<=1000;omega
 have y:=fun ad b cap B W M a0=>ze (JP ad b cap (xe c L sr wn k) B a2 W M a0);obtain⟨X,t⟩:∃X,((w.alloc (.cells #[I k,I sr,I wn] 146)).alloc zaI)=X:=⟨_,rfl⟩;rw[t]at P q1 m yz;obtain⟨p0,p1,p2,-⟩:=zc P;have PB:=ze q1;unfold clV at y;rw[D]at y;generalize xe c L sr wn k=zs at*;have z:=r X m;have A:=r X.drew m.drew;have u:=ze m;have Y:=ze t;have Q:=zd P;have qg:=zd q1;have a3:¬w.1.size=w.1.size+1:=by omega
 clear h m P q1 r t D yz;go_enter func111,ntmps111;go_wp2_with fail;rw[ud Y];go_region_held3 (fun w'=>w'.cell? (U w.1.size 0)=E (I k)/\w'.cell? (U w.1.size 1)=E (I sr)/\w'.cell? (U w.1.size 2)=E (I wn)) (first|go_keep|(with_reducible exact⟨(QM (by assumption) _ _ _ _ _ _ _ _).trans (by assumption),(QM (by assumption) _ _ _ _ _ _ _ _).trans (by assumption),(QM (by assumption) _ _ _ _ _ _ _ _).trans (by assumption)⟩)) (first
  |(go_at_call 171;(first|(with_reducible refine(ud z).mono ?_)|(with_reducible refine(ud A).mono ?_));rintro e V ⟨ad,g,cap,rfl,B,hg,o,d⟩;have i:z9 X.1.size X V:=⟨d.os,d.tape,d.output,d.size,d.block⟩;clear d;have v0:Cz V w.1.size 0 (I k):=(i.cell (p:=(U w.1.size 0)) Q).trans p0;have v1:Cz V w.1.size 1 (I sr):=(i.cell (p:=(U w.1.size 1)) Q).trans p1;have v2:Cz V w.1.size 2 (I wn):=(i.cell (p:=(U w.1.size 2)) Q).trans p2;have vb:=(i.block _ qg).trans (ud PB);have q:=z1 Q i.size;have K:=z1 qg i.size;have R:=y ad g cap B V hg o;have S:=y ad g cap B V.drew hg o;have x:=ze i;have VB:=ze vb;clear i B hg o y vb)
  |(go_at_call 123;(first|(with_reducible refine(ud R).mono ?_)|(with_reducible refine(ud S).mono ?_));rintro e J ⟨rfl,a⟩;have f:z9 V.1.size V J:=⟨a.os,a.tape,a.output,a.size,a.block⟩;clear a;have j0:Cz J w.1.size 0 (I k):=(f.cell (p:=(U w.1.size 0)) q).trans v0;have j1:Cz J w.1.size 1 (I sr):=(f.cell (p:=(U w.1.size 1)) q).trans v1;have j2:Cz J w.1.size 2 (I wn):=(f.cell (p:=(U w.1.size 2)) q).trans v2;have N:=(f.block _ K).trans (ud VB);obtain⟨a4,a5,a6,a7,a8,a9,aa,ab,-⟩:=zc N;have jf:=fun j=>zw N j;have ae:=z1 q f.size;have ac:=z1 K f.size;have JB:=ze N;have Z:=ze ((ud u).trans (((ud x).trans (f.mono (ud x).size)).mono (ud u).size));clear N f))
 all_goals go_wp2_with fail
 all_goals have hf:=zpl (ud JB) (I k) (I sr) (I wn) (I 3) (I l.cnt) (I l.sum) (T C l.mn) (T C l.mx)
 all_goals have M:=(ud Z).trans (zgM (w:=J) (g:=w.1.size+1) (Nat.le_succ _) (I k) (I sr) (I wn) (I 3) (I l.cnt) (I l.sum) (T C l.mn) (T C l.mx))
 all_goals unfold zqW at hf M
 all_goals refine bodyPost_ret (v:=.agg #[I k,I sr,I wn,I 3,I l.cnt,I l.sum,T C l.mn,T C l.mx]) (results_cell_row results111 _ _ (w.1.size+1) _ _ _ _ rfl hf underlying148 rfl (by kernel_rfl)) rfl ?_
 all_goals exact⟨rfl,M⟩
def XAt(w:za)(g j:Nat)(x:SX):Prop:=
  w.cell? (U g (j*8))=E (I x.1.t)/\w.cell? (U g (j*8+1))=E (I x.1.sr)/\w.cell? (U g (j*8+2))=E (I x.1.wn)/\w.cell? (U g (j*8+3))=E (I x.2.st)/\
  w.cell? (U g (j*8+4))=E (I x.2.cl.cnt)/\w.cell? (U g (j*8+5))=E (I x.2.cl.sum)/\w.cell? (U g (j*8+6))=E (T C x.2.cl.mn)/\w.cell? (U g (j*8+7))=E (T C x.2.cl.mx)
def SRd(w:za)(v:zb)(xs:List SX):Prop:=∃a cap,v=.slice a xs.length cap/\(0<xs.length->∃g,a=E (U g 0)/\g<w.1.size/\∀j x,xs[j]?=E x->XAt w g j x)
theorem ju.rd(h:ju w base v xs):SRd w v xs:=by
 obtain⟨a,cap,rfl⟩:=h.slice;refine⟨a,cap,rfl,fun b=>?_⟩;obtain⟨g,rfl,-,c⟩:=h.form b;exact⟨g,rfl,c,fun j x d=>h.at d⟩
theorem XAt.later(h:XAt w g j x)(n:z9 w.1.size w w')(o:g<w.1.size):XAt w' g j x:=by
 obtain⟨a,b,c,d,f,k,l,m⟩:=h;have e:=fun i=>n.cell (p:=(U g i)) o;exact⟨(e _).trans a,(e _).trans b,(e _).trans c,(e _).trans d,(e _).trans f,(e _).trans k,(e _).trans l,(e _).trans m⟩
theorem SRd.later(h:SRd w v xs)(b:z9 w.1.size w w'):SRd w' v xs:=by
 obtain⟨a,cap,e,h⟩:=h;refine⟨a,cap,e,fun f=>?_⟩;obtain⟨g,d,c,k⟩:=h f;exact⟨g,d,z1 c b.size,fun j x i=>(k j x i).later b c⟩
theorem SRd.slice(h:SRd w v xs):∃a cap,v=.slice a xs.length cap:=by
 obtain⟨a,cap,e,-⟩:=h;exact⟨a,cap,e⟩
theorem SRd.form{a:Option Addr}(h:SRd w (.slice a n cap) xs)(i:0<xs.length):∃g,a=E (U g 0)/\n=xs.length/\g<w.1.size/\∀j x,xs[j]?=E x->XAt w g j x:=by
 obtain⟨m,b,e,h⟩:=h;obtain⟨g,c,k,l⟩:=h i;injection e with d f o;exact⟨g,d.trans c,f,k,l⟩
theorem zhn(B g:Nat)(a b c d:Int)(o:∀m∈[a,b,c,d],xz m)(k:zb)(bs:List UInt8)(w:za)(h:zaF w B k bs)(j:B<=w.1.size)(f:bs.length<=70368744177664)(i:zqx B w)(n:w.1[g]?=E (.cells #[I a,I b,I c,I d] 2 (0,0))):
  Calls prog 168 #[k,.slice (E (U g 0)) 4 4] w fun e w'=>∃l,e=.returned l/\zaF w' B l (bs++vP [a,b,c,d])/\z9 B w w'/\Lib.OthersKept 5 zf w w':=
 zfl B g [a,b,c,d] o (by simp) k bs w h j f i n
theorem zcs(h:Lib.TabIs prog w "internal/strconv.uint64pow10" .u64 Lib.pow10Tab)(a:z9 w.1.size w w'):Lib.TabIs prog w' "internal/strconv.uint64pow10" .u64 Lib.pow10Tab:=Lib.tabBelow_of_tabIs h _ a
theorem zaF.alloc(h:zaF w B v bs)(o:Obj):zaF (w.alloc o) B v bs:=World.ownsRow.alloc h o
theorem zcB(now:Int)(D:xz now)(xs:List SX)(J:∀x∈xs,okX x)(aq:xs.length<=100000000)(v:zb)(w:za)(hv:SRd w v xs)(H:Lib.TabIs prog w "internal/strconv.uint64pow10" .u64 Lib.pow10Tab):
  Calls prog 108 #[.agg #[I now,v]] w (Rz w (.string ⟨(Zd now xs).toArray⟩)):=by
 obtain⟨ad,cap,rfl⟩:=hv.slice;have a:z9 w.1.size w (w.alloc (.cells #[I now,.slice ad xs.length cap] 190)):=(z0 _ _).alloc (G _) _;have u:=zq w (.cells #[I now,.slice ad xs.length cap] 190);have ac:=zM w (.cells #[I now,.slice ad xs.length cap] 190);have F:=fun k=>kE D (xs:=xs.take k) (fun x h=>J x (List.mem_of_mem_take h));have b:=hv.later a;have y:=Lib.tabBelow_of_tabIs (zcs H a);obtain⟨X,hX⟩:∃X,(w.alloc (.cells #[I now,.slice ad xs.length cap] 190))=X:=⟨_,rfl⟩;rw[hX]at a u ac b y;obtain⟨k0,-⟩:=zc u;have M:=ze (zaQ X.1.size 0 now D (.slice zf 0 0) [] X (World.ownsRow_nil _ _ _ _) (G _) (by omega) y);have ak:=ze hX;have a0:=ze a;have ag:=ze u;have aj:=ze b;have a4:=ze y;have ai:=ze J;have a3:=ze F;have ap:w.1.size<X.1.size:=by omega
 clear hX a u b y J F hv H ac;go_enter func108,ntmps108;go_wp2_with fail;rw[ud ak];go_wp2_with(go_at_call 167;refine(ud M).mono ?_;rintro e W ⟨v0,rfl,q,R,-⟩;have c1:Cz W w.1.size 1 (.slice ad xs.length cap):=(R.cell (p:=(U w.1.size 1)) ap).trans (by rw[xR (ud ag)];rfl));have HO:=ze q;have ae:=ze R;clear q R c1 k0;go_loopw [3,12] (fun v i wr=>∃k:Nat,k<=xs.length/\i=I k/\zaF wr X.1.size v (Zd now (xs.take k))/\z9 X.1.size X wr) (fun _ i _=>xs.length-(intOf i).toNat);case atStart=>exact⟨0,Nat.zero_le _,rfl,by
  have h:=ud HO;rw[Nat.zero_add,List.nil_append]at h;have e:Zd now (xs.take 0)=Lib.itoa now:=by simp[Zd]
  rw[e];exact h,ud ae⟩
 case round=>
  obtain⟨k,hk,rfl,hv,hb⟩:=hrel;have hbs:=hb.size;have hr:=ud a3 k;rw[List.length_take]at hr;by_cases ao:k<xs.length
  ·obtain⟨x,J⟩:=zmP ao;have o:=ud ai x (List.mem_of_getElem? J);have ab:=(ud aj).later hb;obtain⟨g,rfl,-,aw,a7⟩:=ab.form (by omega);obtain⟨x0,x1,x2,x3,x4,x5,x6,x7⟩:=a7 k x J;clear a7;have ax:(k:Int)<xs.length:=(by omega);obtain⟨ay,az⟩:=o.mn;obtain⟨aA,aB⟩:=o.mx;have m:=o.seg;have B:=o.cel;unfold zko at m;unfold zmJ at B;obtain⟨Y,Z⟩:∃Y,(wr.alloc (.cells (xZz x) 148))=Y:=⟨_,rfl⟩;have S:z9 X.1.size X Y:=(by rw[<-Z];exact hb.alloc hbs _);have Q:Y.1[wr.1.size]?=E (.cells (xZz x) 148 (0,0)):=(by rw[<-Z];exact zq _ _);have an:Y.1.size=wr.1.size+1:=(by rw[<-Z];exact zM _ _);have z:=zaF.alloc hv (.cells (xZz x) 148);rw[Z]at z;obtain⟨zs,V⟩:∃zs,Zd now (xs.take k)=zs:=⟨_,rfl⟩;rw[V]at z hr;have HZ:=ze V;have HX:=ze J;have aD:zs.length<=20000000000:=(by omega);obtain⟨y0,y1,y2,y3,y4,y5,y6,y7,-⟩:=zc Q;obtain⟨n0,s,a6⟩:∃n0:Nat,z9 X.1.size X (Y.alloc (.cells #[I x.1.t,I x.1.sr,I x.1.wn,I x.2.st] 2))/\(Y.alloc (.cells #[I x.1.t,I x.1.sr,I x.1.wn,I x.2.st] 2)).1[Y.1.size]?=E (.cells #[I x.1.t,I x.1.sr,I x.1.wn,I x.2.st] 2 (0,0)):=⟨0,S.alloc S.size _,zq _ _⟩;have L:=ze (zhn X.1.size Y.1.size x.1.t x.1.sr x.1.wn x.2.st m _ zs _ (zaF.alloc z _) (Nat.le_trans s.size (G _)) (by omega) ((ud a4).on s) a6);have ah:=ze (Zy [x.1.t,x.1.sr,x.1.wn,x.2.st] m);have r:=ze Q;have a5:=ze Z;have a1:=ze s;have am:=ze an;clear hb hv ab o Z S Q z V J s a6 m;rw[ud am]at L;cases hc:Xs x.2.st
   ·have N:Hid (∀W:za,Calls prog 169 #[I x.2.st] W fun e w'=>e=.returned (.bool false)/\w'=W):=fun W=> (by rw[<-hc];exact kq _ W);go_wp2_with fail;rw[ud a5];go_wp2_with(first
     |(go_at_call 168;refine(ud L).mono ?_;rintro e W1 ⟨v1,rfl,b,a,d⟩;have h1:=d wr.1.size _ ((Below.heap_alloc _ _ _ (zd (ud r))).trans (ud r)) (by simp) (fun c fz e=>by cases e);obtain⟨-,-,-,z3,-⟩:=zc h1;have O:=ze b;have K:=ze a;clear b a d h1)
     |(go_at_call 169;refine(ud N _).mono ?_;rintro e w2 ⟨rfl,rfl⟩))
    go_roundw;case rel=>
     refine⟨k+1,by omega,by go_num,?_,(ud a1).trans (ud K)⟩;have e:Zd now (xs.take (k+1))=zs++vP [x.1.t,x.1.sr,x.1.wn,x.2.st]:=by
      rw[Qj (ud HX),zca,ud HZ];simp[zkn,hc,zko]
     rw[e];exact ud O
    case measure=>simp[intOf];omega
   ·have N:Hid (∀W:za,Calls prog 169 #[I x.2.st] W fun e w'=>e=.returned (.bool true)/\w'=W):=fun W=> (by rw[<-hc];exact kq _ W);go_wp2_with fail;rw[ud a5];go_wp2_with(first
     |(go_at_call 168;refine(ud L).mono ?_;rintro e W1 ⟨v1,rfl,b,a,d⟩;have h1:=d wr.1.size _ ((Below.heap_alloc _ _ _ (zd (ud r))).trans (ud r)) (by simp) (fun c fz e=>by cases e);refine Hid.out ?_)
     |fail)
    refine Lib.hid ?_;obtain⟨-,-,-,z3,z4,z5,z6,z7,-⟩:=zc h1;have n:=(ud a1).trans a;have a9:=ud ah;obtain⟨ys,A⟩:∃ys,zs++vP [x.1.t,x.1.sr,x.1.wn,x.2.st]=ys:=⟨_,rfl⟩;have aE:ys.length<=30000000000:=(by rw[<-A,List.length_append];simp only[List.length_cons,List.length_nil]at a9;omega);rw[A]at b;have al:=ze A;have f:z9 X.1.size X (W1.alloc (.cells #[I x.2.cl.cnt,I x.2.cl.sum,I x.2.cl.mn,I x.2.cl.mx] 2)):=n.alloc n.size _;have af:=ze (zhn X.1.size W1.1.size x.2.cl.cnt x.2.cl.sum x.2.cl.mn x.2.cl.mx B v1 ys _ (zaF.alloc b _) f.size (by omega) ((ud a4).on f) (zq _ _));have a2:=ze f;clear h1 a d b n a9 A f;go_wp2_with(first
     |(go_at_call 169;refine(ud N _).mono ?_;rintro e w2 ⟨rfl,rfl⟩)
     |(go_at_call 168;refine(ud af).mono ?_;rintro e W2 ⟨v2,rfl,aa,a8,-⟩;have O:=ze aa;have K:=ze a8;clear aa a8))
    go_roundw;case rel=>
     refine⟨k+1,by omega,by go_num,?_,(ud a2).trans (ud K)⟩;have e:Zd now (xs.take (k+1))=ys++vP [x.2.cl.cnt,x.2.cl.sum,x.2.cl.mn,x.2.cl.mx]:=by
      rw[Qj (ud HX),zca,ud HZ,<-ud al];simp[zkn,hc,zko,zmJ]
     rw[e];exact ud O
    case measure=>simp[intOf];omega
  ·obtain rfl:k=xs.length:=(by omega);rw[List.take_length]at hv;have aC:decide ((xs.length:Int)<xs.length)=false:=(by simp);obtain⟨l,hl⟩:∃l,Zd now xs=l:=⟨_,rfl⟩;rw[hl]at hv;have ar:0<l.length:=(by rw[<-hl];unfold Zd;rw[List.length_append];have:=zlj now;omega);have HL:=ze hl;have HB:=ze ((ud a0).trans (hb.mono (ud a0).size));clear hb hl hr;rcases hv.2 with⟨-,h0⟩|⟨g,cp,au,rfl,-⟩
   ·omega
   ·have av:=run_convert_bytes_back (P:=prog) wr 250 9 5 (U g 0) cp l underlying250 underlying5 underlying9 (fun j hj=>World.ownsRow.cells hv (g:=g) rfl j _ (by simp[Lib.byteCells,hj]));clear hv;go_wp2_with fail;go_ret;rw[ud HL];exact⟨rfl,ud HB⟩
end Go.Proofs.YtndhpgciopcncaaGreatDoor
