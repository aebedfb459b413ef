import Derived.Test.YtndhpgciopcncaaGreatDoorPJn2
import Derived.Shelf.SlSortCmp.WholeK
import Derived.Shelf.SlSortCmp.NoneTotal
open Option renaming some → E
open Nat renaming le_refl → S
open Nat renaming lt_of_lt_of_le → G
open Go.RowKit renaming Below → R
open Go.Value renaming int → M
open Go.IntKind renaming i32 → V
open Go.RowKit.Below renaming refl → z
open Go renaming World → b
set_option linter.unusedVariables false
set_option maxRecDepth 100000
set_option maxHeartbeats 8000000
open Go.Proofs.Tryz
namespace Go.Proofs.YtndhpgciopcncaaGreatDoor
open Go.ChangeMaps (setBlock)
open Go.RowKit Go.Maps Go.Shelf Go.Sort
theorem zmi{α:Type}[Inhabited α](enc:α->List Value)(k:Nat)(w:b)(a c n:Nat)(d:Array α)(os:Array Obj):zh (fun j=>j=a) w (sortWorldK enc k w a c n d os) where
 os:=rfl
 tape:=rfl
 output:=rfl
 size:=size_sortWorldK_c enc k w a c n d os
 block j hj hn:=by
  unfold sortWorldK putRowK
  rw[heap_grow_old _ _ (by rw[size_putRow];exact hj)]
  unfold putRow mapBlock
  show((Sort.ahead w n).heap.modify a _)[j]?=_
  rw[Array.getElem?_modify,if_neg (fun e=>hn e.symm)]
  rfl
theorem znw:∀args w,(callFunc 210 args).run prog w=.ok (.enter 210 args) w:=enters_of func210 (by kernel_rfl) rfl
theorem Xt(x:SX):(xq x).length=8:=rfl
theorem zoz(a c size:Nat)(w:b):CmpLays prog 210 #[] xq 8 (fun x y:SX=>zdZ x.1 y.1) a c size w:=
 fun m os g h x y=>(zkl x y _).mono fun e w' ⟨f,d⟩=>⟨f,d.lays⟩
theorem zlR(a cap:Nat)(xs:List SX)(w:b)(k:HoldsK xq 8 w a 0 xs.toArray)(d:a<w.1.size)(h:xs.length<4611686018427387904):
  Calls prog 209 #[.slice (E (U a 0)) xs.length cap,.func (.func 210) #[] #[]] w fun e w'=>e=.returned (.tuple #[])/\∃o:List SX,o.Perm xs/\HoldsK xq 8 w' a 0 o.toArray/\zh (fun j=>j=a) w w':=by
 have g:=AnyQ.slices_SortFunc Tryz.sortSeg 8 Tryz.isAgg148 Tryz.sizeOf148 xq Xt jL (fun x y:SX=>zdZ x.1 y.1) zlr 210 #[] a 0 cap xs.toArray w znw (zoz a 0 _ w) k d (by simpa using h)
 have c:Calls prog 209 #[.slice (E (U a 0)) xs.toArray.size cap,.func (.func 210) #[] #[]] w _:=g
 rw[List.size_toArray]at c
 refine c.mono ?_
 rintro e w' ⟨rfl,f,n,os,⟨m,_,l⟩,r,rfl⟩
 have i:f.size=xs.length:=by rw[m,List.size_toArray]
 refine⟨rfl,f.toList,?_,?_,zmi _ _ _ _ _ _ _ _⟩
 ·have p:f.extract 0 xs.length=f:=by rw[<-i];exact Array.extract_size
  have q:xs.toArray.extract 0 xs.length=xs.toArray:=by simp
  rw[p,q]at l
  exact l
 ·have:=holdsK_sortWorldK_c xq 8 w a 0 xs.toArray f n os k d m
  simpa using this
theorem zoq(a:Option Addr)(cap:Nat)(w:b):
  Calls prog 209 #[.slice a 0 cap,.func (.func 210) #[] #[]] w fun e w'=>e=.returned (.tuple #[])/\w'=w:=
 AnyF.slices_SortFunc_none (P:=prog) Tryz.sortSeg a cap (.func (.func 210) #[] #[]) w
theorem zkS{w:b}{base g cap:Nat}{xs:List SX}(h:vW w base (.slice (E (U g 0)) xs.length cap) xs):HoldsK xq 8 w g 0 xs.toArray:=fun j d=>by
 have hj':j<xs.length*8:=by simpa[size_flatK]using d
 rw[Nat.zero_add]
 refine⟨?_,World.ownsRow.frozenAt h j⟩
 rw[World.ownsRow.cellAt h j hj',get_flatK _ _ _ _ (by simpa using hj')]
 have c:j/8<xs.length:=by omega
 have:=kI Xt xs (j/8) xs[j/8] (j%8) (by simp[c]) (by omega)
 rw[show j/8*8+j%8=j by omega]at this
 rw[this,getElem!_pos xs.toArray (j/8) (by simpa using c)]
 have a:j%8<(xq xs[j/8]).length:=by rw[Xt];omega
 simp only[id,List.getElem_toArray]
 rw[getElem!_pos (xq xs[j/8]) (j%8) a,List.getElem?_eq_getElem a]
theorem zkQ{w:b}{g:Nat}{xs:List SX}(h:HoldsK xq 8 w g 0 xs.toArray){j:Nat}{x:SX}(k:xs[j]?=E x):XAt w g j x:=by
 obtain⟨e,ex⟩:=List.getElem?_eq_some_iff.1 k
 have key:∀(i:Nat) (v:Value),i<8->(xq x)[i]?=E v->w.cell? (U g (j*8+i))=E v:=fun i v l hv=>by
  have a:j*8+i<xs.length*8:=by omega
  obtain⟨c,-⟩:=h (j*8+i) (by simpa[size_flatK]using a)
  rw[Nat.zero_add]at c
  rw[c,get_flatK _ _ _ _ (by simpa using a)]
  rw[show(j*8+i)/8=j by omega,show(j*8+i)%8=i by omega,getElem!_pos xs.toArray j (by simpa using e)]
  simp only[id,List.getElem_toArray,ex]
  obtain⟨f,d⟩:=List.getElem?_eq_some_iff.1 hv
  rw[getElem!_pos (xq x) i f,d]
 exact⟨key 0 _ (by omega) rfl,key 1 _ (by omega) rfl,key 2 _ (by omega) rfl,key 3 _ (by omega) rfl,key 4 _ (by omega) rfl,key 5 _ (by omega) rfl,key 6 _ (by omega) rfl,key 7 _ (by omega) rfl⟩
theorem Tryz.infoSeg:(prog.info? 148).map (fun i=>(i.zero,i.size,i.bytes))=E (E (.agg #[I 0,I 0,I 0,I 0,I 0,I 0,M V 0,M V 0]),8,56):=by kernel_rfl
theorem zof{w:b}{ops:Array Oper}{rest:List Oper}{o:Oper}{a:Act}{Q:Exit->Act->b->Prop}(i:o.guard=none)(s x:Operand)
  (n:o.op=.call {callee:=.builtin .append,args:=#[s,x],argTypes:=#[105,105]}) (base:Nat) (v:Value) (l:List SX) (f:SX) (p:a.eval s=v) (c:vW w base v l)
  (d:Nat) (q:a.eval x=.slice (E (U d 0)) 1 1) (e:w.1[d]?=E (.cells (xZz f) 148 (0,0))) (r:l.length<=1000000000) (hbase:base<=w.1.size)
  (h:∀g cap w',vW w' base (.slice (E (U g 0)) (l.length+1) cap) (l++[f])->w.grownBy w' v.ownBlock->g<w'.1.size->wpList prog ops Q rest (a.put o.dst (.slice (E (U g 0)) (l.length+1) cap)) w'):wpList prog ops Q (o::rest) a w:=
 xM i s x 105 n base 148 _ 8 56 underlying105 Tryz.infoSeg rfl (by decide) v l.length (l.flatMap xq) p c (U d 0) 1 1 (xq f) q rfl
  (World.news_of_block (cs:=(xq f).toArray) e) (jL f) (by decide) (by simp only[maxLen];omega) (by omega) hbase
  fun g cap w' j _ k _ m=>h g cap w' (zjC j) k m
def Yg(p:Sg×Unit):SX:=(p.1,⟨4,qt⟩)
def vA(L:LV)(Gl:List (Sg×Unit)):List SX:=L++Gl.map Yg
theorem ZE{w:b}{base:Nat}{v:Value}{xs:List SX}(h:vW w base v xs){k:Nat}{o:Obj}(a:w.1[k]?=E o)(f:o.isCells=false):v.ownBlock≠E k:=fun e=>by
 obtain⟨c,d⟩:=zH h e
 rw[d]at a;cases a;cases f
theorem zmY{w:b}{s:Nat}{c:Cf}{tv:Value}{lb gb:Nat}{Gl:List (Sg×Unit)}{L:LV}(h:xE w s c tv lb gb Gl L)(aH:L.length<=1000000)(aM:Gl.length<=100000000):
  Calls prog 134 #[(O s)] w fun e w'=>∃xs v,xs.Perm (vA L Gl)/\e=.returned v/\SRd w' v xs/\R w.1.size w w':=by
 obtain⟨es,d,a7,al⟩:=h.gone
 obtain⟨-,-,-,-,-,-,-,c7,c8⟩:=h.cells
 have ar:=h.lt
 have a5:R w.1.size w (w.alloc (.cells #[.map (E lb)] 152)):=(z _ _).alloc (S _) _
 have av:=zN w (.cells #[.map (E lb)] 152)
 have HV:=ze (Jm lb w)
 have HC:=ze (zaB _ _ zcp (w.alloc (.cells #[.map (E lb)] 152)) aH (zkZ w.1.size lb L _ (by rw[av];omega) (by rw[xH (zp _ _)];rfl) (qA.1 (h.later a5).live)))
 have a8:=zd a7
 have af:=ze a7
 have r:=ze al
 have ac:=ze a5
 clear h a7 al a5
 go_enter func134,ntmps134
 go_wp2_with(first
  |(go_at_call 88;refine(ud HV).mono ?_;rintro e w1 ⟨rfl,rfl⟩)
  |(go_at_call 208;refine(ud HC).mono ?_;rintro e m ⟨B,v0,an,rfl,ap,ai⟩;have i:R w.1.size w m:=(ud ac).trans (ai.mono (ud ac).size);have d8:Cz m s 8 (.map (E gb)):=(i.cell (p:=(U s 8)) ar).trans c8;have Z:=run_range_map (P:=prog) m 153 _ _ gb es d underlying153 ((i.block _ a8).trans (ud af));have aK:s<m.1.size:=G ar i.size;have ag:=ze an;have az:=ze ap;have ab:=ze i;clear an ap i ai))
 go_loopw [3] (fun v wr=>∃(f:Array Nat) (c0:Nat) (ps:List MapEntry),wr.1[m.1.size]?=E (.mapIter (E gb) d f c0)/\d<=c0/\wr.1[gb]?=E (.map es d)/\zdt es f ps/\vW wr w.1.size v (B++(ps.map (kj je Gl)).map Yg)/\R w.1.size w wr)
  (fun _ wr=>jR es m.1.size wr)
 case atStart=>
  have i:=ud ab
  have aj:R m.1.size m (m.alloc (.mapIter (E gb) d #[] d)):=(z _ _).alloc (S _) _
  exact⟨#[],d,[],zp _ _,S _,(aj.block _ (G a8 i.size)).trans ((i.block _ a8).trans (ud af)),⟨by simp,by simp,by simp⟩,by
   have:=zR (kq (b':=w.1.size) (ud az) (by rw[av];omega)) aj
   simpa[vW]using this,i.alloc i.size _⟩
 case round=>
  obtain⟨f,c0,ps,hr,aF,Y,hC,hv,hb⟩:=hrel
  have aN:=zd hr
  have aO:=(ud ab).size
  clear Z d8 HC HV
  rcases run_next_at (P:=prog) wr 0 m.1.size gb d c0 f es d hr Y (ud r).born aF with⟨hz,n⟩|⟨e,T,w1,a0,n⟩
  ·have o:(B++(ps.map (kj je Gl)).map Yg).Perm (vA L Gl):=(ud ag).append ((jA Xe (ud r) (hC.all (ud r).once hz)).map Yg)
   generalize B++(ps.map (kj je Gl)).map Yg=xs at*
   have a1:xs.length<=200000000:=by rw[o.length_eq];unfold vA;rw[List.length_append,List.length_map];omega
   obtain⟨a,cap,rfl⟩:=hv.slice
   have ah:=ze o
   have HB:=ze hb
   clear hz hC Y o hb
   by_cases h0:xs.length=0
   ·have am:xs=[]:=List.length_eq_zero_iff.1 h0
    subst am
    have aA:=ze (zoq a cap wr)
    clear hv
    go_wp2_with(go_at_call 209;refine(ud aA).mono ?_;rintro e W ⟨rfl,rfl⟩)
    go_ret
    exact⟨[],_,ud ah,rfl,⟨_,_,rfl,fun h=>absurd h (by simp)⟩,ud HB⟩
   ·obtain⟨g,rfl,-,hg⟩:=hv.form (by omega)
    have aL:=(World.ownsRow.lt hv g rfl).1
    have HS:=ze (zlR g cap xs wr (zkS hv) hg (by omega))
    clear hv
    go_wp2_with(go_at_call 209;refine(ud HS).mono ?_;rintro e W ⟨rfl,ys,J,hH,F⟩;have ay:=ze J;have HH:=ze hH;have HK:=ze F;clear J hH F)
    go_ret
    have J:=ud ay
    have F:=ud HK
    have hb:=ud HB
    refine⟨ys,.slice (E (U g 0)) xs.length cap,J.trans (ud ah),rfl,⟨E (U g 0),cap,by rw[J.length_eq],fun _=>⟨g,rfl,G hg F.size,fun j x hx=>zkQ (ud HH) hx⟩⟩,hb.trans (F.below hb.size (fun j e=>by omega))⟩
  ·have ae:=ze T
   obtain⟨a6,-⟩:=xw.1 T
   have aq:w1.1[m.1.size]?=E (.mapIter (E gb) d f c0):=by rcases a0 with rfl|rfl<;>exact hr
   have ao:w1.1[gb]?=E (.map es d):=by rcases a0 with rfl|rfl<;>exact Y
   have aI:gb≠m.1.size:=by omega
   obtain⟨X,hX⟩:∃X,setBlock w1 m.1.size (.mapIter (E gb) d (f.push e.born) d)=X:=⟨_,rfl⟩
   have N:X.1[m.1.size]?=E (.mapIter (E gb) d (f.push e.born) d):=by rw[<-hX];exact xL (zd aq) _
   have K:X.1[gb]?=E (.map es d):=by rw[<-hX,xi aI];exact ao
   have a9:zh (fun k=>k=m.1.size) wr X:=by
    rw[<-hX];rcases a0 with rfl|rfl
    ·exact xT _
    ·exact(zh.refl (fun k=>k=m.1.size) wr).drew.trans (xT _) (fun _ _ h=>h)
   have Q:R w.1.size w X:=hb.trans (a9.below hb.size (fun j e=>by omega))
   have au:=zi hv a9 (fun k F e=>ZE hv hr rfl (by rw[<-e];exact F))
   rw[hX]at n
   have ak:=run_entry_at (P:=prog) X m.1.size gb d f es d e N K a6 (ud r).once
   obtain⟨aG,F,l⟩:=ZS Xe (ud r) a6
   obtain⟨⟨k,u⟩,aa⟩:∃y,kj je Gl e=y:=⟨_,rfl⟩
   have aB:=ze aa
   rw[aa]at F l
   have H:e.key=kC k:=F
   have l:e.val=.agg #[]:=l
   unfold kC at H
   rw[H,l]at n ak
   have aE:=zd N
   obtain⟨y0,y1,C,yz⟩:=box2 X (.cells #[I k.t,I k.sr,I k.wn] 146) (.cells #[I k.t,I k.sr,I k.wn,I 4,I 0,I 0,M V 0,M V 0] 148)
   have a1:(B++(ps.map (kj je Gl)).map Yg).length<=1000000000:=by
    have h1:=(ud ag).length_eq
    have h2:=hC.lt T
    have h3:=(ud r).count
    rw[List.length_append,List.length_map,List.length_map];omega
   have a3:=ze (zR au C)
   have aC:=ze y1
   have A:=ze ((C.block _ aE).trans N)
   have a4:=ze ((C.block _ (zd K)).trans K)
   have ad:=ze (Q.trans (C.mono Q.size))
   have HC:=ze hC
   have HR:=ze hr
   have ax:=ze Q.size
   clear hv hb Y hC hr N K a9 Q au aq ao hX a0 T a6 aG F H l aa y0 y1 C
   generalize aw:B++(ps.map (kj je Gl)).map Yg=zs at*
   have aD:=ze aw
   clear aw
   go_wp2_with(first
    |(at_builtin;refine zof rfl _ _ rfl w.1.size _ zs (Yg (k,u)) rfl (ud a3) (X.1.size+1) rfl (ud aC) a1 (by have:=ud ax;rw[yz];omega) ?_;intro g cap W a2 D aJ;have HO:=ze a2;have HG:=ze D;clear a2 D)
    |fail)
   go_roundw
   case rel=>
    have hg:=ud HG
    have hv:=ud a3
    refine⟨f.push e.born,d,ps++[e],(hg.block _ (zd (ud A)) (fun e=>ZE hv (ud A) rfl e.symm)).trans (ud A),S _,(hg.block _ (zd (ud a4)) (fun e=>ZE hv (ud a4) rfl e.symm)).trans (ud a4),(ud HC).step (ud ae),?_,(ud ad).grown hg (ud ad).size (fun q hq=>(World.ownsRow.lt hv q hq).1)⟩
    have e:B++((ps++[e]).map (kj je Gl)).map Yg=zs++[Yg (k,u)]:=by
     rw[List.map_append,List.map_append,<-List.append_assoc,ud aD,List.map_singleton,List.map_singleton,ud aB]
    rw[e]
    have h:=ud HO
    unfold vW at h ⊢
    rw[List.length_append,List.length_singleton]at h ⊢
    exact h
   case measure=>
    have hg:=ud HG
    rw[xn ((hg.block _ (zd (ud A)) (fun e=>ZE (ud a3) (ud A) rfl e.symm)).trans (ud A)),xn (ud HR)];exact qI (ud ae)
end Go.Proofs.YtndhpgciopcncaaGreatDoor
namespace Go.Proofs.YtndhpgciopcncaaGreatDoor
open Go.RowKit Go.Maps Go.Shelf
open Go.ChangeMaps (setBlock)
attribute [local go_sem] Oper.semAt_some
theorem J6{w:b}{g k i j:Nat}(h:¬k=g)(v:Value):(w.setCell (U g i) v).cell? (U k j)=w.cell? (U k j):=by
 simp only[World.cell?,Below.heap_setCell _ _ _ _ (show k≠((U g _):Addr).block from h)]
theorem zlx{F:Fence}{n:Nat}{W:b}{ops:Array Oper}{rest:List Oper}{o:Oper}{a:Act}{Q:Exit->Act->b->Prop}(r:o.guard=none)(s x:Operand)
  (D:o.op=.call {callee:=.builtin .append,args:=#[s,x],argTypes:=#[105,105]}) (base:Nat) (v:Value) (l:List SX) (f:SX) (H:a.eval s=v) (j:vW W base v l)
  (m:Nat) (J:a.eval x=.slice (E (U m 0)) 1 1) (p:W.1[m]?=E (.cells (xq f).toArray 148 (0,0))) (L:l.length<=1000000) (hbase:base<=W.1.size)
  (h:∀g cap w',vW w' base (.slice (E (U g 0)) (l.length+1) cap) (l++[f])->W.grownBy w' v.ownBlock->(v.ownBlock=E g\/g=W.1.size)->g<w'.1.size->wpListIn F n prog ops Q rest (a.put o.dst (.slice (E (U g 0)) (l.length+1) cap)) w'):wpListIn F n prog ops Q (o::rest) a W:=by
 obtain⟨i0,C,t,u,w⟩:=zdx
 refine wpListIn_append_own_at W r s x 105 D base 148 i0 (.agg #[I 0,I 0,I 0,I 0,I 0,I 0,M V 0,M V 0]) 8 56 underlying105 C t u w rfl (by decide) v l.length _ H j (U m 0) 1 1 (xq f) J rfl (World.news_of_block (cs:=(xq f).toArray) p) (jL f) (by simp only[maxLen];omega) (by omega) hbase ?_
 intro N K c q y k
 obtain⟨B,d,rfl,A,i⟩:=c.form (by omega)
 exact h B d K (zjC c) q (k.elim (fun e=> .inl e.symm) (fun e=> .inr (by simpa[Value.ownBlock]using e))) i
theorem zdU{c:Cf}(g:c.ok){sr tm:Int}(a:0<=sr/\sr<4)(d:0<=tm/\tm<=100000)(Gl:List (Sg×Unit))(L:LV)(val:Int):∀k,k<=c.n->Qu c Gl L ⟨sr,tm,val⟩ k=(((xX c sr tm k).map zkf).filter (fun x=>(stG Gl L x.1).st==0)).map (fun x=>(x.1,(⟨2,qt⟩:SV)))
 |0,_=>rfl
 |k+1,h=>by
  have f:=zdU g a d Gl L val k (by omega)
  unfold Qu at f ⊢
  dsimp only at f ⊢
  rw[kO,List.filter_append,List.map_append,List.map_append,List.filter_append,List.map_append,f]
  congr 1
  have e:=YB (QF g a d (show k<c.n by omega))
  rw[List.map_singleton,List.filter_cons,List.filter_cons,e]
  split
  ·simp[e]
  ·rfl
def adI(w:b)(c g N:Nat)(d:SX)(a:List WSg)(W:b):Prop:=∃v,W.1[c]?=E (.cells #[v] 105 (0,0))/\vW W w.1.size v (d::a.map (fun x=>(x.1,(⟨2,qt⟩:SV))))/\R w.1.size w W/\(∀r,v.ownBlock=E r->r=g\/N<=r)/\N<=W.1.size
theorem adI.later{w:b}{e g N:Nat}{j:SX}{a:List WSg}{W d:b}(h:adI w e g N j a W)(c:R W.1.size W d):adI w e g N j a d:=by
 obtain⟨v,f,k,i,l,m⟩:=h
 exact⟨v,(c.block _ (zd f)).trans f,zR k c,i.trans (c.mono i.size),l,Nat.le_trans m c.size⟩
theorem znK{ex:Nat->Prop}{n m g i:Nat}{W:b}{v:Value}(c:ex g)(e:g<m):KX ex n m W (W.setCell (U g i) v):=
 ⟨(zh.refl _ _).setCell (p:=(U g i)) (fun _=> .inl c) v,fun k o _ a d=>(KeepsOthers.setCell W (U g i) v).same k o a (Obj.not_cells_of_walk d),fun k o f _ a=>(Below.heap_setCell _ _ _ _ (show k≠g by omega)).trans a⟩
theorem zlF{c:Cf}{L:LV}{sr tm val wn:Int}(d:tm/c.wh (-1)=wn)(hv: -2147483648<=val/\val<=2147483647)(a:(yY L ⟨-1,sr,wn⟩).isSome=false):((⟨-1,sr,wn⟩,⟨1,xv [ko val]⟩):SX)=zmK c L ⟨sr,tm,val⟩:=by
 subst d
 unfold zmK
 have e:xm c ⟨sr,tm,val⟩=⟨-1,sr,tm/c.wh (-1)⟩:=rfl
 rw[e]
 cases h:yY L ⟨-1,sr,tm/c.wh (-1)⟩with
 |none=>rw[zlc val hv];rfl
 |some v=>rw[h]at a;simp at a
theorem zlG{c:Cf}{L:LV}{sr tm val wn:Int}{d:SX}(j:tm/c.wh (-1)=wn)(hv: -2147483648<=val/\val<=2147483647)(f:(yY L ⟨-1,sr,wn⟩).isSome=true)(i:stX L ⟨-1,sr,wn⟩=d)(a:∀p∈L,p.1.t= -1->p.2.cl.small):((⟨-1,sr,wn⟩,⟨1,xv [ko val,d.2.cl]⟩):SX)=zmK c L ⟨sr,tm,val⟩:=by
 subst j
 unfold zmK
 have e:xm c ⟨sr,tm,val⟩=⟨-1,sr,tm/c.wh (-1)⟩:=rfl
 rw[e]
 cases h:yY L ⟨-1,sr,tm/c.wh (-1)⟩with
 |none=>rw[h]at f;simp at f
 |some v=>
  have g:d.2=v:=by rw[<-i];unfold stX;rw[h]
  rw[g,zld val hv v.cl (a _ (vF h) rfl)];rfl
theorem zfC{w:b}{s:Nat}{c:Cf}{tv:Value}{lb gb:Nat}{Gl:List (Sg×Unit)}{L:LV}(h:xE w s c tv lb gb Gl L)(hc:c.ok)(sr tm val:Int)(aW:0<=sr/\sr<4)(am:0<=tm/\tm<=100000)(bL: -2147483648<=val/\val<=2147483647)(cq:∀p∈L,p.1.t= -1->p.2.cl.small):
  Calls prog 64 #[(O s),I sr,I tm,M V val] w fun e w'=>∃v,e=.returned v/\vW w' w.1.size v (yB c Gl L ⟨sr,tm,val⟩)/\R w.1.size w w':=by
 have cF:=hc.n1
 have bi:(⟨-1,sr,tm/c.wh (-1)⟩:Sg).wf:=by
  obtain⟨cr,cI⟩:=hc.wh (t:= -1) (by omega) (by omega)
  have hd:0<=tm/c.wh (-1):=Int.ediv_nonneg am.1 (by omega)
  have cD:tm/c.wh (-1)<=tm:=Int.ediv_le_self _ am.1
  refine⟨?_,?_,?_⟩<;>unfold xg<;>simp only<;>omega
 obtain⟨wn,ap⟩:∃wn,tm/c.wh (-1)=wn:=⟨_,rfl⟩
 have cp:=h.lt
 have bo:=ze (zea h.hd hc (-1) sr tm (by omega) (by omega) am)
 rw[ap]at bo bi
 have H:=ze h
 have aV:=ze ap
 have a8:=ze bi
 obtain⟨bJ,bK⟩:=bL
 obtain⟨sv,bI⟩:∃sv,stX L ⟨-1,sr,wn⟩=sv:=⟨_,rfl⟩
 obtain⟨ok,bG⟩:∃ok,(yY L ⟨-1,sr,wn⟩).isSome=ok:=⟨_,rfl⟩
 have b5:=ze bI
 have av:=ze bG
 clear h ap bi bI bG
 refine(callsIn_wide (n:=7)).1 ?_
 refine callsIn_of_wp_marks func64 rfl trivial ?_ rfl
 simp only[ntmps64,sZz,Nat.reduceAdd,Nat.reduceSub]
 refine wpIn_wide.2 ?_
 go_wp2_with fail
 refine(ud bo).mono ?_
 rintro e j ⟨rfl,bt⟩
 have aZ:=ze bt
 clear bt
 go_wp2_with fail
 obtain⟨y0,y1,bv,yz⟩:=box2 j (.cells #[I (-1),I sr,I wn] 146) (.cells #[I 1,I val,M V val,M V val] 115)
 generalize((j.alloc (.cells #[I (-1),I sr,I wn] 146)).alloc (.cells #[I 1,I val,M V val,M V val] 115))=X at*
 have y:R w.1.size w X:=(ud aZ).trans (bv.mono (ud aZ).size)
 obtain⟨-,-,-,-,-,-,-,x7,-⟩:=((ud H).later y).cells
 obtain⟨k0,k1,k2,-⟩:=zc y0
 have cH:s<X.1.size:=G cp y.size
 have bB:j.1.size<X.1.size:=by omega
 have bf:j.1.size+1<X.1.size:=by omega
 have g0:=ZW (X:=X) (ud H).live y (ud a8)
 have g1:=ZW (X:=X.drew) (ud H).live y.drew (ud a8)
 have g2:=fun o=>ZW (X:=X.alloc o) (ud H).live (y.alloc y.size o) (ud a8)
 have g3:=fun o=>ZW (X:=(X.alloc o).drew) (ud H).live (y.alloc y.size o).drew (ud a8)
 have g4:=fun o=>ZW (X:=X.drew.alloc o) (ud H).live (y.drew.alloc y.drew.size o) (ud a8)
 rw[ud b5,ud av]at g0 g1
 simp only[ud b5,ud av]at g2 g3 g4
 have ax:=ze y
 have Y0:=ze y0
 have Y1:=ze y1
 have YZ:=ze yz
 clear y y0 y1 yz bv
 go_region
 have bu:R X.1.size X ((X.alloc (.cells (xZz sv) 148)).drew):=((z _ _).alloc (S _) _).drew
 have bD:((X.alloc (.cells (xZz sv) 148)).drew).1[X.1.size]?=E (.cells (xZz sv) 148 (0,0)):=zp _ _
 have bR:((X.alloc (.cells (xZz sv) 148)).drew).1.size=X.1.size+1:=zN _ _
 generalize((X.alloc (.cells (xZz sv) 148)).drew)=Y at*
 have a1:=ze bu
 have c9:=ze bD
 have cf:=ze bR
 clear g0 g1 g2 g3 g4 x7 k0 k1 k2 bu bD bR
 rename_i Q1 K1 aK1 K2 aK2
 have aY:∀(a4 aD aE aF aG v20 v21 v22 aH aI v25 aJ aK aL aM aN v31 aO aP aQ aR aS v37 aT v39:Value) (a:Cl) (Z:b),(∀Z',R Z.1.size Z Z'->Hid (Calls prog 123 #[a4] Z' fun e w'=>e=.returned (.agg #[I a.cnt,I a.sum,M V a.mn,M V a.mx])/\R Z'.1.size Z' w'))->Hid (((⟨-1,sr,wn⟩,⟨1,a⟩):SX)=zmK c L ⟨sr,tm,val⟩)->Hid (R w.1.size w Z)->Hid (Z.1[j.1.size]?=E (.cells #[I (-1),I sr,I wn] 146 (0,0)))->K1 {tmps:=#[(O s),I sr,I tm,M V val,undef,undef,undef,undef,.slice none 0 0,(O j.1.size),a4,aD,aE,undef,undef,(O s),I sr,I tm,aF,aG,v20,v21,v22,aH,aI,v25,aJ,aK,aL,aM,aN,v31,aO,aP,aQ,aR,aS,v37,aT,v39,undef,undef,undef,undef,undef,undef,undef,undef,undef,undef,undef,undef,undef,undef,undef,undef,undef,undef,undef],defers:=[]} Z:=by
  intro a4 aD aE aF aG v20 v21 v22 aH aI v25 aJ aK aL aM aN v31 aO aP aQ aR aS v37 aT v39 a Z HJ N Q a5
  refine aK1 _ _ ?_
  clear aK2 aK1
  go_wp2_with fail
  rename_i K3 aK3
  obtain⟨bW,bX,bY,-⟩:=zc (ud a5)
  have P:j.1.size<Z.1.size:=zd (ud a5)
  have ab:∀(bx g:Nat) (T:b),Hid (R w.1.size w T)->Hid (T.1[bx]?=E (.cells #[.slice (E (U g 0)) 1 1] 105 (0,0)))->Hid (T.1[g]?=E (.cells #[I (-1),I sr,I wn,I 1,I a.cnt,I a.sum,M V a.mn,M V a.mx] 148 (0,0)))->Hid (w.1.size<=bx/\w.1.size<=g)->K3 {tmps:=#[(O s),I sr,I tm,M V val,undef,undef,undef,undef,.slice none 0 0,(O j.1.size),a4,aD,aE,(O bx),undef,(O s),I sr,I tm,aF,aG,v20,v21,v22,aH,aI,v25,aJ,aK,aL,aM,aN,v31,aO,aP,aQ,aR,aS,v37,aT,v39,.agg #[I (-1),I sr,I wn],a4,.agg #[I a.cnt,I a.sum,M V a.mn,M V a.mx],.agg #[I (-1),I sr,I wn,I 1,I a.cnt,I a.sum,M V a.mn,M V a.mx],.slice (E (U g 0)) 1 1,undef,undef,undef,undef,undef,undef,undef,undef,undef,undef,undef,undef,undef,undef],defers:=[]} T:=by
   intro bx g T aw b0 HG bZ
   refine aK3 _ _ ?_
   obtain⟨ck,cn⟩:=ud bZ
   have cj:=zd (ud b0)
   have cm:=zd (ud HG)
   have bg:=(ud H).later (ud aw)
   obtain⟨b8,ba,bQ⟩:=YK bg.hd sr tm
   obtain⟨C,b7⟩:∃C,YJ T s sr tm=C:=⟨_,rfl⟩
   rw[b7]at b8 ba bQ
   have b1:=ze (YI s sr tm T)
   rw[b7]at b1
   have b6:=ze (KI 183 #[(O T.1.size),(O (T.1.size+1)),(O (T.1.size+2))] 121 #[(O s)] #[] C)
   obtain⟨be,bc,ay,bP⟩:=box2 C (.cells #[.func (.func 183) #[] #[(O T.1.size),(O (T.1.size+1)),(O (T.1.size+2))]] 199) (.cells #[.func (.func 121) #[(O s)] #[]] 206)
   obtain⟨X2,br⟩:∃X2,((C.alloc (.cells #[.func (.func 183) #[] #[(O T.1.size),(O (T.1.size+1)),(O (T.1.size+2))]] 199)).alloc (.cells #[.func (.func 121) #[(O s)] #[]] 206))=X2:=⟨_,rfl⟩
   rw[br]at be bc ay bP b6
   have a6:R T.1.size T X2:=ba.trans (ay.mono (by omega))
   have aX:R w.1.size w X2:=(ud aw).trans (a6.mono (ud aw).size)
   have ak:=bg.later a6
   have bb:=(ud H).foot_lt
   have ai:=zay (ex:=fun k=>k=bx\/k=g) (n:=X2.1.size) T.1.size s c hc tv lb gb sr tm aW am X2 (b8.later ay) (fun i hi=>⟨by omega,by omega⟩) ⟨by omega,by omega⟩ (fun k hk=>by have:=bb k (.inr (.inl hk));constructor<;>omega)
   have aj:=Zq (fun x:WSg=>x.1) 183 #[(O T.1.size),(O (T.1.size+1)),(O (T.1.size+2))] QJ 121 #[(O s)] #[] ZX (fun x=>(stG Gl L x.1).st==0) C.1.size (C.1.size+1) X2 (S _) ⟨by omega,by omega⟩ ⟨by omega,by omega⟩ be bc
    (fun x W ⟨m,hk⟩=>QR (ak.kx hk (fun k hh=>by have:=bb k hh;constructor<;>omega)) x.1 x.2) ai
   have bp:=ze aj
   have a9:=ze aX
   have aU:=ze ((a6.block _ cj).trans (ud b0))
   have bl:=ze ((a6.block _ cm).trans (ud HG))
   have cK:T.1.size<=X2.1.size:=a6.size
   clear bg b8 ba bQ be bc ay bP a6 aX ak bb ai aj b7 br b0 HG
   go_wp2_with(first
    |(go_at_call 120;refine(ud b1).mono ?_;rintro e C' ⟨rfl,ch⟩;subst ch)
    |(go_at_call 124;refine(ud b6).mono ?_;rintro e aa ⟨rfl,bs⟩;subst bs))
   rename_i K4 aK4
   have cB:=(ud a9).size
   refine(wpIn_wide (n:=7)).1 ?_
   refine qU (F:=Fence.wide) (n:=7) rfl (by omega) (gf:=194) (lb:=#[(O C'.1.size),(O (C'.1.size+1))]) rfl trivial KH (ud bp (aa.1.size+2) (by omega)) (S _) (fun h k=>h.trans k) (fun W o o' h hc hw=>KX.putObj o' (by omega) (by omega) h hw) (z _ _) (fun _=>rfl)
    (adI w bx g aa.1.size (⟨-1,sr,wn⟩,⟨1,a⟩)) (fun _ _ _=>False)
    (fun s A B cv hs hg hr=>by
     obtain⟨v,h1,h2,h3,h4,h5⟩:=hs
     exact⟨v,zu h1 hg (fun r e=>(hr r e).2),Zx h2 hg (fun r e=>(hr r e).2),h3.grown hg h3.size (fun k e=>by have:=(hr k e).1;omega),h4,Nat.le_trans h5 hg.size⟩)
    (fun _ _ _ _ _ hs _ _=>hs)
    ⟨_,ud aU,Yt (xs:=[((⟨-1,sr,wn⟩,⟨1,a⟩):SX)].flatMap xq) (n:=1) (size:=8) (ud bl) rfl (by decide) (by simp[maxLen]) cn,ud a9,fun r e=> .inl (by cases e;rfl),S _⟩
    (fun x a' W=>∃Bx,aa.1.size<=Bx/\W.1[Bx]?=E (.cells #[I x.1.t,I x.1.sr,I x.1.wn] 146 (0,0))/\a'={tmps:=#[(O s),I sr,I tm,M V val,undef,undef,undef,undef,.slice none 0 0,(O j.1.size),a4,aD,aE,(O bx),(O Bx),(O s),I sr,I tm,aF,aG,v20,v21,v22,aH,aI,v25,aJ,aK,aL,aM,aN,v31,aO,aP,aQ,aR,aS,v37,aT,v39,.agg #[I (-1),I sr,I wn],a4,.agg #[I a.cnt,I a.sum,M V a.mn,M V a.mx],.agg #[I (-1),I sr,I wn,I 1,I a.cnt,I a.sum,M V a.mn,M V a.mx],.slice (E (U g 0)) 1 1,(O s),I sr,I tm,.func (.func 183) #[] #[(O T.1.size),(O (T.1.size+1)),(O (T.1.size+2))],(O s),.func (.func 121) #[(O s)] #[],.func (.func 194) #[] #[(O C'.1.size),(O (C'.1.size+1))],.agg #[I x.1.t,I x.1.sr,I x.1.wn],undef,undef,undef,undef,undef,undef],defers:=[]})
    (fun x a' s A B cv hs hg hr=>by
     obtain⟨Bx,h1,h2,h3⟩:=hs
     exact⟨Bx,h1,zu h2 hg (fun r e=>(hr r e).2),h3⟩) ?assign ?body ?done ?stop
   case assign=>
    rintro l ar x W K hI hK
    have HK:=ze hK
    have HI:=ze hI
    clear hK hI
    gi_wp2
    have a7:=(z W.1.size W).alloc (S _) (.cells #[I x.1.t,I x.1.sr,I x.1.wn] 146)
    have cu:aa.1.size<=W.1.size:=by obtain⟨v,-,-,-,-,h5⟩:=ud HI;exact h5
    exact ud HK _ _ (zk a7) (KX.of_below a7) ((ud HI).later a7) ⟨W.1.size,cu,zp _ _,rfl⟩
   case body=>
    rintro l ar x a' W hl ⟨r,hr⟩ ⟨v,i1,i2,i3,i4,i5⟩ ⟨Bx,cz,hx,rfl⟩ aB
    have al:=zd i1
    have cJ:=zd hx
    obtain⟨c1,-⟩:=zc i1
    obtain⟨x0,x1,x2,-⟩:=zc hx
    have cG:=hc.n4
    have bF:((((⟨-1,sr,wn⟩,⟨1,a⟩):SX))::ar.map (fun x=>(x.1,(⟨2,qt⟩:SV)))).length<=1000000:=by rw[List.length_cons,List.length_map];omega
    obtain⟨zs,bj⟩:∃zs,(((⟨-1,sr,wn⟩,⟨1,a⟩):SX))::ar.map (fun x=>(x.1,(⟨2,qt⟩:SV)))=zs:=⟨_,rfl⟩
    rw[bj]at i2 bF
    have ce:=ze bj
    have bm:=ze i1
    have a2:=ze i2
    have b2:=ze i3
    have bn:=ze i4
    have HX:=ze hx
    clear i1 i2 i3 i4 hx hr bj aB bp aU bl aw b1 b6 a9
    gi_wp2_with (first
     |(gi_at_builtin;refine zlx rfl _ _ rfl w.1.size _ zs ((x.1,⟨2,qt⟩):SX) rfl ((ud a2).alloc _) W.1.size rfl (zp _ _) bF (by rw[zN];omega) ?_;intro g' bq w3 ag az bN cw
       have bz:=YS ((ud a2).alloc (.cells #[I x.1.t,I x.1.sr,I x.1.wn,I 2,I 0,I 0,M V 0,M V 0] 148)) az aa.1.size
       have b3:w3.1[bx]?=E (.cells #[v] 105 (0,0)):=(az.block bx (by rw[zN];omega) (fun e=>zr (ud bm) (ud a2) (by decide) bx e.symm rfl)).trans ((Below.heap_alloc _ _ _ al).trans (ud bm))
       obtain⟨d1,-⟩:=zc b3
       have f1:w3.frozen? (U bx 0)=false:=zv b3 0
       have cx:=zd b3
       have ca:=ze ag
       have c0:=ze az
       have c7:=ze bz
       have bk:=ze b3
       have cc:=ze bN
       clear ag az bz b3 bN
       go_frame)
     |gi_in)
    have hk:=ud c7
    have hg:(W.alloc (.cells #[I x.1.t,I x.1.sr,I x.1.wn,I 2,I 0,I 0,M V 0,M V 0] 148)).grownBy w3 v.ownBlock:=ud c0
    have a0:=ud ca
    have hb:=ud b2
    have a7:=(z W.1.size W).alloc (S _) (.cells #[I x.1.t,I x.1.sr,I x.1.wn,I 2,I 0,I 0,M V 0,M V 0] 148)
    have ci:R w.1.size w w3:=(hb.alloc hb.size _).grown hg (by have:=hb.size;rw[zN];omega) (fun k e=>(World.ownsRow.lt (ud a2) k e).1)
    refine⟨((zk a7).trans hk.1).trans ((KeepsOthers.setCell w3 (U bx 0) _).from _),((KX.of_below a7).trans (KX.grown hg (fun r e=>⟨?_,?_⟩))).trans (znK (.inl rfl) (by omega)),?_⟩
    ·rcases ud bn r e with h|h
     ·exact .inl (.inr h)
     ·exact .inr h
    ·obtain⟨cy,bw⟩:=zH ((ud a2).alloc (.cells #[I x.1.t,I x.1.sr,I x.1.wn,I 2,I 0,I 0,M V 0,M V 0] 148)) e
     exact⟨_,_,bw⟩
    ·refine⟨_,xy (i:=0) (ud bk) _,?_,ci.setCell (p:=(U bx 0)) ck _,fun r e=>?_,?_⟩
     ·have aC:=zi (w':=w3.setCell (U bx 0) (.slice (E (U g' 0)) (zs.length+1) bq)) a0 (zg (f:=fun k=>k=bx) (zh.refl _ _) rfl) (fun k co e=>zr (ud bk) a0 (by decide) k co e)
      have ez:(((⟨-1,sr,wn⟩,⟨1,a⟩):SX))::(ar++[x]).map (fun x=>(x.1,(⟨2,qt⟩:SV)))=zs++[((x.1,⟨2,qt⟩):SX)]:=by
       rw[List.map_append,<-List.cons_append,ud ce];rfl
      rw[ez]
      unfold vW
      rw[List.length_append,List.length_singleton]at aC ⊢
      exact aC
     ·have er:r=g':=by cases e;rfl
      subst er
      rcases ud cc with h|h
      ·exact ud bn _ h
      ·right;rw[h,zN];omega
     ·have:=hg.size;rw[zN]at this;simp;omega
   case done=>
    rintro D xs W hD hS ⟨v,i1,i2,i3,i4,i5⟩ hK
    obtain⟨ys,rfl,bO⟩:=hS
    obtain⟨c1,-⟩:=zc i1
    have al:=zd i1
    have a2:=ze i2
    have b2:=ze i3
    have b4:=ze hK
    have cd:=ze bO
    clear i1 i2 i3 i4 hK bO
    refine aK4 _ _ ?_
    go_wp2_with fail
    refine⟨by simp,.inl ⟨_,_,rfl,run_takeDeferred (ud b4),?_⟩⟩
    refine⟨_,results_tmp rfl _ _ _,_,rfl,?_,xu (ud b2) (S _) (by omega) (ud b4) _⟩
    have aC:=Zx (ud a2) (grownBy_putObj' W D (.deferred none)) (fun r e=>by cases e;exact⟨_,ud b4,rfl⟩)
    have ez:yB c Gl L ⟨sr,tm,val⟩=(((⟨-1,sr,wn⟩,⟨1,a⟩):SX))::xs.map (fun x=>(x.1,(⟨2,qt⟩:SV))):=by
     unfold yB
     rw[<-ud N,ud cd,zdU hc aW am Gl L val c.n (S _)]
    rw[ez]
    exact aC
   case stop=>
    rintro D c ar W _ _ h _
    exact h.elim
  have c6:=HJ Z (z _ _)
  have c5:=HJ Z.drew (z _ _).drew
  have b9:R Z.1.size Z (Z.alloc zds):=(z _ _).alloc (S _) _
  have c2:=HJ (Z.alloc zds) b9
  have c3:=HJ (Z.alloc zds).drew b9.drew
  have c4:=HJ (Z.drew.alloc zds) ((z _ _).drew.alloc (S _) _)
  have bS:=zN Z zds
  have bE:=zp Z zds
  have c8:=ze bE
  have bd:¬j.1.size=Z.1.size:=by omega
  clear HJ bE b9 aK3
  go_region_held3 (fun w'=>w'.cell? (U j.1.size 0)=E (I (-1))/\w'.cell? (U j.1.size 1)=E (I sr)/\w'.cell? (U j.1.size 2)=E (I wn)) (go_keep) (first
   |(go_at_call 123;(first|(with_reducible refine(ud c6).mono ?_)|(with_reducible refine(ud c5).mono ?_));rintro e J ⟨rfl,d⟩;have q:R Z.1.size Z J:=⟨d.os,d.tape,d.output,d.size,d.block⟩;have bT:=(q.cell (p:=(U j.1.size 0)) P).trans bW;have bU:=(q.cell (p:=(U j.1.size 1)) P).trans bX;have bV:=(q.cell (p:=(U j.1.size 2)) P).trans bY;have bA:=G P q.size;have au:=ze q;clear q d)
   |(go_at_call 123;(first|(with_reducible refine(ud c2).mono ?_)|(with_reducible refine(ud c3).mono ?_)|(with_reducible refine(ud c4).mono ?_));rintro e J ⟨rfl,d⟩;have q:R (Z.1.size+1) (Z.alloc zds) J:=⟨d.os,d.tape,d.output,d.size,fun k hk=>d.block k (by first|exact Nat.lt_of_lt_of_eq hk bS.symm|exact hk)⟩;have bT:=(q.cell (p:=(U j.1.size 0)) (Nat.lt_succ_of_lt P)).trans (((z Z.1.size Z).alloc (S _) zds).cell (p:=(U j.1.size 0)) P|>.trans bW);have bU:=(q.cell (p:=(U j.1.size 1)) (Nat.lt_succ_of_lt P)).trans (((z Z.1.size Z).alloc (S _) zds).cell (p:=(U j.1.size 1)) P|>.trans bX);have bV:=(q.cell (p:=(U j.1.size 2)) (Nat.lt_succ_of_lt P)).trans (((z Z.1.size Z).alloc (S _) zds).cell (p:=(U j.1.size 2)) P|>.trans bY);have aq:=(q.block Z.1.size (Nat.lt_succ_self _)).trans (ud c8);obtain⟨jc,-⟩:=zc aq;have jf:=zv aq 0;have bA:=G (Nat.lt_succ_of_lt P) (Nat.le_trans (Nat.le_of_eq bS.symm) q.size);have ct:=zd aq;have cL:(J.setCell (U Z.1.size 0) (.slice (E (U J.1.size 0)) 1 1)).cell? (U j.1.size 0)=E (I (-1)):=(J6 bd _).trans bT;have cM:(J.setCell (U Z.1.size 0) (.slice (E (U J.1.size 0)) 1 1)).cell? (U j.1.size 1)=E (I sr):=(J6 bd _).trans bU;have cN:(J.setCell (U Z.1.size 0) (.slice (E (U J.1.size 0)) 1 1)).cell? (U j.1.size 2)=E (I wn):=(J6 bd _).trans bV;have cE:j.1.size<(J.setCell (U Z.1.size 0) (.slice (E (U J.1.size 0)) 1 1)).1.size:=(by simpa using bA);have au:=ze q;have cg:=ze aq;clear q d aq))
  ·have u:R w.1.size w J:=(ud Q).trans ((ud au).mono (ud Q).size)
   obtain⟨e1,e2,e3,-⟩:=box2 J (.cells #[I (-1),I sr,I wn,I 1,I a.cnt,I a.sum,M V a.mn,M V a.mx] 148) (.cells #[.slice (E (U J.1.size 0)) 1 1] 105)
   exact ab _ _ _ (u.trans (e3.mono u.size)) e2 e1 ⟨by have:=u.size;omega,u.size⟩
  ·have u:R w.1.size w J:=(ud Q).trans ((ud au).mono (ud Q).size)
   obtain⟨e1,e2,e3,-⟩:=box2 J (.cells #[.slice (E (U (J.1.size+1) 0)) 1 1] 105) (.cells #[I (-1),I sr,I wn,I 1,I a.cnt,I a.sum,M V a.mn,M V a.mx] 148)
   exact ab _ _ _ (u.trans (e3.mono u.size)) e1 e2 ⟨u.size,by have:=u.size;omega⟩
  ·have ao:=ud Q
   have an:R w.1.size w (Z.alloc zds):=ao.alloc ao.size _
   have u:R w.1.size w J:=an.trans ((ud au).mono (by have:=ao.size;omega))
   have bM:=u.setCell (p:=(U Z.1.size 0)) ao.size (.slice (E (U J.1.size 0)) 1 1)
   have al:(J.setCell (U Z.1.size 0) (.slice (E (U J.1.size 0)) 1 1)).1.size=J.1.size:=by simp
   have e2:=zp (J.setCell (U Z.1.size 0) (.slice (E (U J.1.size 0)) 1 1)) (.cells #[I (-1),I sr,I wn,I 1,I a.cnt,I a.sum,M V a.mn,M V a.mx] 148)
   rw[al]at e2
   exact ab _ _ _ (bM.alloc bM.size _) ((Below.heap_alloc _ _ _ (by rw[al];exact ct)).trans (xy (i:=0) (ud cg) _)) e2 ⟨ao.size,by have:=u.size;omega⟩
 clear aK1
 cases ok with
 |false=>
  obtain⟨a,a3⟩:∃a,xv [ko val]=a:=⟨_,rfl⟩
  have N:=ze (zlF (ud aV) ⟨bJ,bK⟩ (ud av))
  rw[a3]at N
  have ad:=((ud a1).block (j.1.size+1) bf).trans (ud Y1)
  have ac:CAt Y (j.1.size+1) [ko val]:=CAt.of_owns (base:=0) (cap:=1) (e:=115) (Yt (xs:=Z5 (ko val)) ad rfl (by simp) (by simp[maxLen]) (Nat.zero_le _))
  have bH:j.1.size+1<Y.1.size:=G bf (ud a1).size
  have HJ:∀Z',R Y.1.size Y Z'->Hid (Calls prog 123 #[.slice (E (U (j.1.size+1) 0)) 1 1] Z' fun e w'=>e=.returned (.agg #[I a.cnt,I a.sum,M V a.mn,M V a.mx])/\R Z'.1.size Z' w'):=fun Z' ae=>by
   have:=Jo (E (U (j.1.size+1) 0)) (j.1.size+1) 1 [ko val] (fun _=>rfl) (by simp) Z' (G bH ae.size) (ac.below ae bH)
   rw[a3]at this;exact this
  have Q:=ze ((ud ax).trans ((ud a1).mono (ud ax).size))
  have a5:=ze (((ud a1).block _ bB).trans (ud Y0))
  clear ad ac a3
  go_wp2_with fail
  exact aY _ _ _ _ _ _ _ _ _ _ _ _ _ _ _ _ _ _ _ _ _ _ _ _ _ a Y HJ N Q a5
 |true=>
  obtain⟨-,-,-,-,o1,o2,o3,o4,-⟩:=zc (ud c9)
  have cr:=(ud aZ).size
  have ad:=((ud a1).block (j.1.size+1) bf).trans (ud Y1)
  have cb:=ze (Yt (base:=w.1.size) (xs:=[ko val].flatMap Z5) (n:=1) (size:=4) ad rfl (by decide) (by simp[maxLen]) (by omega))
  have cA:X.1.size<Y.1.size:=by rw[ud cf];omega
  have cC:w.1.size<=Y.1.size:=by omega
  clear ad
  go_wp2_with(first|(at_builtin;refine ziS rfl _ _ rfl w.1.size (.slice (E (U (j.1.size+1) 0)) 1 1) [ko val] sv.2.cl rfl ((ud cb).alloc _) Y.1.size rfl (zp _ _) ?hll ?hbb ?_;(case hll=>simp);(case hbb=>(rw[zN];omega));intro g cap Z a0 af aB;have HG:=ze af;have HO:=ze a0;clear af a0)|go_in)
  obtain⟨a,a3⟩:∃a,xv [ko val,sv.2.cl]=a:=⟨_,rfl⟩
  have N:=ze (zlG (ud aV) ⟨bJ,bK⟩ (ud av) (ud b5) cq)
  rw[a3]at N
  have ac:CAt Z g [ko val,sv.2.cl]:=CAt.of_owns (base:=w.1.size) (cap:=cap) (e:=115) (ud HO)
  have HJ:∀Z',R Z.1.size Z Z'->Hid (Calls prog 123 #[.slice (E (U g 0)) 2 cap] Z' fun e w'=>e=.returned (.agg #[I a.cnt,I a.sum,M V a.mn,M V a.mx])/\R Z'.1.size Z' w'):=fun Z' ae=>by
   have:=Jo (E (U g 0)) g cap [ko val,sv.2.cl] (fun _=>rfl) (by simp) Z' (G aB ae.size) (ac.below ae aB)
   rw[a3]at this;exact this
  have bh:=(ud ax).trans ((ud a1).mono (ud ax).size)
  have aA:=(ud HG)
  have ah:(Value.slice (E (U (j.1.size+1) 0)) 1 1).ownBlock=E (j.1.size+1):=rfl
  rw[ah]at aA
  have an:=bh.alloc bh.size (.cells #[I sv.2.cl.cnt,I sv.2.cl.sum,M V sv.2.cl.mn,M V sv.2.cl.mx] 115)
  have Q:=ze (an.grown aA an.size (fun k e=>by cases e;omega))
  have cs:=zN Y (.cells #[I sv.2.cl.cnt,I sv.2.cl.sum,M V sv.2.cl.mn,M V sv.2.cl.mx] 115)
  have bC:=((ud a1).block _ bB).trans (ud Y0)
  have a5:=ze ((aA.block j.1.size (by omega) (by simp)).trans ((Below.heap_alloc _ _ _ (by omega)).trans bC))
  clear ac a3 bh aA ah an cs bC o1 o2 o3 o4
  exact aY _ _ _ _ _ _ _ _ _ _ _ _ _ _ _ _ _ _ _ _ _ _ _ _ _ a Z HJ N Q a5
end Go.Proofs.YtndhpgciopcncaaGreatDoor
