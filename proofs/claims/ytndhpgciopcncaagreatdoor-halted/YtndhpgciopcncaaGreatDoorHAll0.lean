import Derived.Test.YtndhpgciopcncaaGreatDoorHJn2
import Derived.Shelf.SlSortCmp.WholeK
import Derived.Shelf.SlSortCmp.NoneTotal
open Option renaming some → E
open Nat renaming le_refl → S
open Nat renaming lt_of_lt_of_le → G
open Go.RowKit renaming Below → R
open Go.Value renaming int → M
open Go.IntKind renaming i32 → V
open Go.RowKit.Below renaming refl → z
open Go renaming World → b
set_option linter.unusedVariables false
set_option maxRecDepth 100000
set_option maxHeartbeats 8000000
open Go.Proofs.Tryz
namespace Go.Proofs.YtndhpgciopcncaaGreatDoor
open Go.ChangeMaps (setBlock)
open Go.RowKit Go.Maps Go.Shelf Go.Sort
variable {xs:List SX} {base g:Nat} {w:b}
theorem zmq{α:Type}[Inhabited α](enc:α->List Value)(k:Nat)(w:b)(a c n:Nat)(d:Array α)(os:Array Obj):zi (fun j=>j=a) w (sortWorldK enc k w a c n d os) where
 os:=rfl
 tape:=rfl
 output:=rfl
 size:=size_sortWorldK_c enc k w a c n d os
 block j hj hn:=by
  unfold sortWorldK putRowK;rw[heap_grow_old _ _ (by rw[size_putRow];exact hj)];unfold putRow mapBlock;show((Sort.ahead w n).heap.modify a _)[j]?=_;rw[Array.getElem?_modify,if_neg (fun e=>hn e.symm)];rfl
theorem znU:∀args w,(callFunc 210 args).run prog w=.ok (.enter 210 args) w:=enters_of func210 (by kernel_rfl) rfl
theorem XI(x:SX):(xw x).length=8:=rfl
theorem zoY(a c size:Nat)(w:b):CmpLays prog 210 #[] xw 8 (fun x y:SX=>zeB x.1 y.1) a c size w:=
 fun m os dk g x y=>(zku x y _).mono fun e w' ⟨f,d⟩=>⟨f,d.lays⟩
theorem zlZ(a cap:Nat)(xs:List SX)(w:b)(k:HoldsK xw 8 w a 0 xs.toArray)(d:a<w.1.size)(h:xs.length<4611686018427387904):
  Calls prog 209 #[.slice (E (U a 0)) xs.length cap,.func (.func 210) #[] #[]] w fun e w'=>e=.returned (.tuple #[])/\∃ys:List SX,ys.Perm xs/\HoldsK xw 8 w' a 0 ys.toArray/\zi (fun j=>j=a) w w':=by
 have g:=AnyQ.slices_SortFunc Tryz.sortSeg 8 Tryz.isAgg148 Tryz.sizeOf148 xw XI Z5 (fun x y:SX=>zeB x.1 y.1) zlz 210 #[] a 0 cap xs.toArray w znU (zoY a 0 _ w) k d (by simpa using h);have c:Calls prog 209 #[.slice (E (U a 0)) xs.toArray.size cap,.func (.func 210) #[] #[]] w _:=g;rw[List.size_toArray]at c;refine c.mono ?_;rintro e w' ⟨rfl,f,n,os,⟨m,_,l⟩,q,rfl⟩;have i:f.size=xs.length:=by rw[m,List.size_toArray]
 refine⟨rfl,f.toList,?_,?_,zmq _ _ _ _ _ _ _ _⟩
 ·have o:f.extract 0 xs.length=f:=by rw[<-i];exact Array.extract_size
  have p:xs.toArray.extract 0 xs.length=xs.toArray:=by simp
  rw[o,p]at l;exact l
 ·have:=holdsK_sortWorldK_c xw 8 w a 0 xs.toArray f n os k d m;simpa using this
theorem zoQ(a:Option Addr)(cap:Nat)(w:b):
  Calls prog 209 #[.slice a 0 cap,.func (.func 210) #[] #[]] w fun e w'=>e=.returned (.tuple #[])/\w'=w:=
 AnyF.slices_SortFunc_none (P:=prog) Tryz.sortSeg a cap (.func (.func 210) #[] #[]) w
theorem zld{cap:Nat}(h:ju w base (.slice (E (U g 0)) xs.length cap) xs):HoldsK xw 8 w g 0 xs.toArray:=fun j d=>by
 have hj':j<xs.length*8:=by simpa[size_flatK]using d
 rw[Nat.zero_add];refine⟨?_,World.ownsRow.frozenAt h j⟩;rw[World.ownsRow.cellAt h j hj',get_flatK _ _ _ _ (by simpa using hj')];have c:j/8<xs.length:=by omega
 have:=kZ XI xs (j/8) xs[j/8] (j%8) (by simp[c]) (by omega);rw[show j/8*8+j%8=j by omega]at this;rw[this,getElem!_pos xs.toArray (j/8) (by simpa using c)];have a:j%8<(xw xs[j/8]).length:=by rw[XI];omega
 simp only[id,List.getElem_toArray];rw[getElem!_pos (xw xs[j/8]) (j%8) a,List.getElem?_eq_getElem a]
theorem zlb(h:HoldsK xw 8 w g 0 xs.toArray){j:Nat}{x:SX}(k:xs[j]?=E x):XAt w g j x:=by
 obtain⟨e,ex⟩:=List.getElem?_eq_some_iff.1 k;have key:∀(i:Nat) (v:Value),i<8->(xw x)[i]?=E v->w.cell? (U g (j*8+i))=E v:=fun i v l hv=>by
  have a:j*8+i<xs.length*8:=by omega
  obtain⟨c,-⟩:=h (j*8+i) (by simpa[size_flatK]using a);rw[Nat.zero_add]at c;rw[c,get_flatK _ _ _ _ (by simpa using a)];rw[show(j*8+i)/8=j by omega,show(j*8+i)%8=i by omega,getElem!_pos xs.toArray j (by simpa using e)];simp only[id,List.getElem_toArray,ex];obtain⟨f,d⟩:=List.getElem?_eq_some_iff.1 hv;rw[getElem!_pos (xw x) i f,d]
 exact⟨key 0 _ (by omega) rfl,key 1 _ (by omega) rfl,key 2 _ (by omega) rfl,key 3 _ (by omega) rfl,key 4 _ (by omega) rfl,key 5 _ (by omega) rfl,key 6 _ (by omega) rfl,key 7 _ (by omega) rfl⟩
theorem Tryz.infoSeg:(prog.info? 148).map (fun i=>(i.zero,i.size,i.bytes))=E (E (.agg #[I 0,I 0,I 0,I 0,I 0,I 0,M V 0,M V 0]),8,56):=by kernel_rfl
theorem zoE{ops:Array Oper}{rest:List Oper}{o:Oper}{a:Act}{Q:Exit->Act->b->Prop}(e:o.guard=none)(s x:Operand)(m:o.op=.call {callee:=.builtin .append,args:=#[s,x],argTypes:=#[105,105]})(base:Nat)(v:Value)(l:List SX)(f:SX)(n:a.eval s=v)(c:ju w base v l)(B1:Nat)(p:a.eval x=.slice (E (U B1 0)) 1 1)(d:w.1[B1]?=E (.cells (xZz f) 148 (0,0)))(q:l.length<=1000000000)(hbase:base<=w.1.size)(h:∀g cap w',ju w' base (.slice (E (U g 0)) (l.length+1) cap) (l++[f])->w.grownBy w' v.ownBlock->g<w'.1.size->wpList prog ops Q rest (a.put o.dst (.slice (E (U g 0)) (l.length+1) cap)) w'):wpList prog ops Q (o::rest) a w:=
 xQ e s x 105 m base 148 _ 8 56 underlying105 Tryz.infoSeg rfl (by decide) v l.length (l.flatMap xw) n c (U B1 0) 1 1 (xw f) p rfl
  (World.news_of_block (cs:=(xw f).toArray) d) (Z5 f) (by decide) (by simp only[maxLen];omega) (by omega) hbase
  fun g cap w' i _ j _ k=>h g cap w' (zjL i) j k
def Ym(p:Sg×Unit):SX:=(p.1,⟨4,qA⟩)
def yJ(L:LV)(Gl:List (Sg×Unit)):List SX:=L++Gl.map Ym
theorem ZY{v:Value}(h:ju w base v xs){k:Nat}{o:Obj}(a:w.1[k]?=E o)(f:o.isCells=false):v.ownBlock≠E k:=fun e=>by
 obtain⟨c,d⟩:=zH h e;rw[d]at a;cases a;cases f
theorem znt{s:Nat}{c:Cf}{tv:Value}{lb gb:Nat}{Gl:List (Sg×Unit)}{L:LV}(h:xI w s c tv lb gb Gl L)(aG:L.length<=1000000)(aL:Gl.length<=100000000):
  Calls prog 134 #[(O s)] w fun e w'=>∃xs v,xs.Perm (yJ L Gl)/\e=.returned v/\SRd w' v xs/\R w.1.size w w':=by
 obtain⟨es,clock,a6,ak⟩:=h.gone;obtain⟨-,-,-,-,-,-,-,c7,c8⟩:=h.cells;have aq:=h.lt;have a4:R w.1.size w (w.alloc (.cells #[.map (E lb)] 152)):=(z _ _).alloc (S _) _;have au:=zM w (.cells #[.map (E lb)] 152);have HV:=ze (JN lb w);have HC:=ze (zba _ _ zcV (w.alloc (.cells #[.map (E lb)] 152)) aG (zlk w.1.size lb L _ (by rw[au];omega) (by rw[xR (zq _ _)];rfl) (qK.1 (h.later a4).live)));have a7:=zd a6;have ae:=ze a6;have m:=ze ak;have ab:=ze a4;clear h a6 ak a4;go_enter func134,ntmps134;go_wp2_with(first
  |(go_at_call 88;refine(ud HV).mono ?_;rintro e w1 ⟨rfl,rfl⟩)
  |(go_at_call 208;refine(ud HC).mono ?_;rintro e w2 ⟨o,v0,am,rfl,ao,ah⟩;have d:R w.1.size w w2:=(ud ab).trans (ah.mono (ud ab).size);have d8:Cz w2 s 8 (.map (E gb)):=(d.cell (p:=(U s 8)) aq).trans c8;have Q:=run_range_map (P:=prog) w2 153 _ _ gb es clock underlying153 ((d.block _ a7).trans (ud ae));have aJ:s<w2.1.size:=G aq d.size;have af:=ze am;have ay:=ze ao;have aa:=ze d;clear am ao d ah))
 go_loopw [3] (fun v wr=>∃(seen:Array Nat) (c0:Nat) (ps:List MapEntry),wr.1[w2.1.size]?=E (.mapIter (E gb) clock seen c0)/\clock<=c0/\wr.1[gb]?=E (.map es clock)/\zdT es seen ps/\ju wr w.1.size v (o++(ps.map (kC jA Gl)).map Ym)/\R w.1.size w wr)
  (fun _ wr=>Z9 es w2.1.size wr)
 case atStart=>
  have d:=ud aa;have ai:R w2.1.size w2 (w2.alloc (.mapIter (E gb) clock #[] clock)):=(z _ _).alloc (S _) _;exact⟨#[],clock,[],zq _ _,S _,(ai.block _ (G a7 d.size)).trans ((d.block _ a7).trans (ud ae)),⟨by simp,by simp,by simp⟩,by
   have:=xp (kI (b':=w.1.size) (ud ay) (by rw[au];omega)) ai;simpa[ju]using this,d.alloc d.size _⟩
 case round=>
  obtain⟨seen,c0,ps,hr,aE,N,hC,hv,Y⟩:=hrel;have aM:=zd hr;have aN:=(ud aa).size;clear Q d8 HC HV;rcases run_next_at (P:=prog) wr 0 w2.1.size gb clock c0 seen es clock hr N (ud m).born aE with⟨hz,i⟩|⟨e,K,w1,T,i⟩
  ·have l:(o++(ps.map (kC jA Gl)).map Ym).Perm (yJ L Gl):=(ud af).append ((jP Xr (ud m) (hC.all (ud m).once hz)).map Ym);generalize o++(ps.map (kC jA Gl)).map Ym=xs at*;have a0:xs.length<=200000000:=(by rw[l.length_eq];unfold yJ;rw[List.length_append,List.length_map];omega);obtain⟨a,cap,rfl⟩:=hv.slice;have ag:=ze l;have HB:=ze Y;clear hz hC N l Y;by_cases h0:xs.length=0
   ·have al:xs=[]:=List.length_eq_zero_iff.1 h0;subst al;have az:=ze (zoQ a cap wr);clear hv;go_wp2_with(go_at_call 209;refine(ud az).mono ?_;rintro e W ⟨rfl,rfl⟩);go_ret;exact⟨[],_,ud ag,rfl,⟨_,_,rfl,fun h=>absurd h (by simp)⟩,ud HB⟩
   ·obtain⟨g,rfl,-,Z⟩:=hv.form (by omega);have aK:=(World.ownsRow.lt hv g rfl).1;have HS:=ze (zlZ g cap xs wr (zld hv) Z (by omega));clear hv;go_wp2_with(go_at_call 209;refine(ud HS).mono ?_;rintro e W ⟨rfl,ys,D,hH,B⟩;have ax:=ze D;have HH:=ze hH;have HK:=ze B;clear D hH B);go_ret;have D:=ud ax;have B:=ud HK;have Y:=ud HB;refine⟨ys,.slice (E (U g 0)) xs.length cap,D.trans (ud ag),rfl,⟨E (U g 0),cap,by rw[D.length_eq],fun _=>⟨g,rfl,G Z B.size,fun j x hx=>zlb (ud HH) hx⟩⟩,Y.trans (B.below Y.size (fun j e=>by omega))⟩
  ·have ad:=ze K;obtain⟨a5,-⟩:=xF.1 K;have ap:w1.1[w2.1.size]?=E (.mapIter (E gb) clock seen c0):=(by rcases T with rfl|rfl<;>exact hr);have an:w1.1[gb]?=E (.map es clock):=(by rcases T with rfl|rfl<;>exact N);have aH:gb≠w2.1.size:=(by omega);obtain⟨X,hX⟩:∃X,setBlock w1 w2.1.size (.mapIter (E gb) clock (seen.push e.born) clock)=X:=⟨_,rfl⟩;have H:X.1[w2.1.size]?=E (.mapIter (E gb) clock (seen.push e.born) clock):=(by rw[<-hX];exact xO (zd ap) _);have F:X.1[gb]?=E (.map es clock):=(by rw[<-hX,xq aH];exact an);have a8:zi (fun k=>k=w2.1.size) wr X:=by
    rw[<-hX];rcases T with rfl|rfl
    ·exact xZ _
    ·exact(zi.refl (fun k=>k=w2.1.size) wr).drew.trans (xZ _) (fun _ _ h=>h)
   have J:R w.1.size w X:=Y.trans (a8.below Y.size (fun j e=>by omega));have ar:=zh hv a8 (fun k B e=>ZY hv hr rfl (by rw[<-e];exact B));rw[hX]at i;have aj:=run_entry_at (P:=prog) X w2.1.size gb clock seen es clock e H F a5 (ud m).once;obtain⟨aF,B,f⟩:=Xa Xr (ud m) a5;obtain⟨⟨k,u⟩,a9⟩:∃y,kC jA Gl e=y:=⟨_,rfl⟩;have aA:=ze a9;rw[a9]at B f;have C:e.key=kR k:=B;have f:e.val=.agg #[]:=f;unfold kR at C;rw[C,f]at i aj;have aD:=zd H;obtain⟨y0,y1,r,yz⟩:=box2 X (.cells #[I k.t,I k.sr,I k.wn] 146) (.cells #[I k.t,I k.sr,I k.wn,I 4,I 0,I 0,M V 0,M V 0] 148);have a0:(o++(ps.map (kC jA Gl)).map Ym).length<=1000000000:=by
    have h1:=(ud af).length_eq;have h2:=hC.lt K;have h3:=(ud m).count;rw[List.length_append,List.length_map,List.length_map];omega
   have a2:=ze (xp ar r);have aB:=ze y1;have n:=ze ((r.block _ aD).trans H);have a3:=ze ((r.block _ (zd F)).trans F);have ac:=ze (J.trans (r.mono J.size));have HC:=ze hC;have HR:=ze hr;have aw:=ze J.size;clear hv Y N hC hr H F a8 J ar ap an hX T K a5 aF B C f a9 y0 y1 r;generalize av:o++(ps.map (kC jA Gl)).map Ym=zs at*;have aC:=ze av;clear av;go_wp2_with(first
    |(at_builtin;refine zoE rfl _ _ rfl w.1.size _ zs (Ym (k,u)) rfl (ud a2) (X.1.size+1) rfl (ud aB) a0 (by have:=ud aw;rw[yz];omega) ?_;intro g cap W a1 A aI;have HO:=ze a1;have HG:=ze A;clear a1 A)
    |fail)
   go_roundw;case rel=>
    have Z:=ud HG;have hv:=ud a2;refine⟨seen.push e.born,clock,ps++[e],(Z.block _ (zd (ud n)) (fun e=>ZY hv (ud n) rfl e.symm)).trans (ud n),S _,(Z.block _ (zd (ud a3)) (fun e=>ZY hv (ud a3) rfl e.symm)).trans (ud a3),(ud HC).step (ud ad),?_,(ud ac).grown Z (ud ac).size (fun q hq=>(World.ownsRow.lt hv q hq).1)⟩;have e:o++((ps++[e]).map (kC jA Gl)).map Ym=zs++[Ym (k,u)]:=by
     rw[List.map_append,List.map_append,<-List.append_assoc,ud aC,List.map_singleton,List.map_singleton,ud aA]
    rw[e];have h:=ud HO;unfold ju at h ⊢;rw[List.length_append,List.length_singleton]at h ⊢;exact h
   case measure=>
    have Z:=ud HG;rw[xv ((Z.block _ (zd (ud n)) (fun e=>ZY (ud a2) (ud n) rfl e.symm)).trans (ud n)),xv (ud HR)];exact qR (ud ad)
end Go.Proofs.YtndhpgciopcncaaGreatDoor
namespace Go.Proofs.YtndhpgciopcncaaGreatDoor
open Go.RowKit Go.Maps Go.Shelf
open Go.ChangeMaps (setBlock)
variable {c:Cf} {sr tm val wn:Int} {L:LV} {g i n:Nat} {W w:b}
attribute [local go_sem] Oper.semAt_some
theorem Jw{k j:Nat}(h:¬k=g)(v:Value):(w.setCell (U g i) v).cell? (U k j)=w.cell? (U k j):=by
 simp only[World.cell?,Below.heap_setCell _ _ _ _ (show k≠((U g _):Addr).block from h)]
theorem zlE{F:Fence}{ops:Array Oper}{rest:List Oper}{o:Oper}{a:Act}{Q:Exit->Act->b->Prop}(q:o.guard=none)(s x:Operand)(C:o.op=.call {callee:=.builtin .append,args:=#[s,x],argTypes:=#[105,105]})(base:Nat)(v:Value)(l:List SX)(f:SX)(D:a.eval s=v)(j:ju W base v l)(B1:Nat)(H:a.eval x=.slice (E (U B1 0)) 1 1)(m:W.1[B1]?=E (.cells (xw f).toArray 148 (0,0)))(K:l.length<=1000000)(hbase:base<=W.1.size)(h:∀g cap w',ju w' base (.slice (E (U g 0)) (l.length+1) cap) (l++[f])->W.grownBy w' v.ownBlock->(v.ownBlock=E g\/g=W.1.size)->g<w'.1.size->wpListIn F n prog ops Q rest (a.put o.dst (.slice (E (U g 0)) (l.length+1) cap)) w'):wpListIn F n prog ops Q (o::rest) a W:=by
 obtain⟨i0,B,r,t,u⟩:=zdX;refine wpListIn_append_own_at W q s x 105 C base 148 i0 (.agg #[I 0,I 0,I 0,I 0,I 0,I 0,M V 0,M V 0]) 8 56 underlying105 B r t u rfl (by decide) v l.length _ D j (U B1 0) 1 1 (xw f) H rfl (World.news_of_block (cs:=(xw f).toArray) m) (Z5 f) (by simp only[maxLen];omega) (by omega) hbase ?_;intro L J c p w k;obtain⟨A,d,rfl,y,i⟩:=c.form (by omega);exact h A d J (zjL c) p (k.elim (fun e=> .inl e.symm) (fun e=> .inr (by simpa[Value.ownBlock]using e))) i
theorem zew{c:Cf}(g:c.ok){sr tm:Int}(a:0<=sr/\sr<4)(d:0<=tm/\tm<=100000)(Gl:List (Sg×Unit))(L:LV)(val:Int):∀k,k<=c.n->QD c Gl L ⟨sr,tm,val⟩ k=(((qe c sr tm k).map zkp).filter (fun x=>(stG Gl L x.1).st==0)).map (fun x=>(x.1,(⟨2,qA⟩:SV)))
 |0,_=>rfl
 |k+1,h=>by
  have f:=zew g a d Gl L val k (by omega);unfold QD at f ⊢;dsimp only at f ⊢;rw[vm,List.filter_append,List.map_append,List.map_append,List.filter_append,List.map_append,f];congr 1;have e:=YN (QP g a d (show k<c.n by omega));rw[List.map_singleton,List.filter_cons,List.filter_cons,e];split
  ·simp[e]
  ·rfl
def adI(w:b)(c g N:Nat)(d:SX)(a:List WSg)(W:b):Prop:=∃v,W.1[c]?=E (.cells #[v] 105 (0,0))/\ju W w.1.size v (d::a.map (fun x=>(x.1,(⟨2,qA⟩:SV))))/\R w.1.size w W/\(∀r,v.ownBlock=E r->r=g\/N<=r)/\N<=W.1.size
theorem adI.later{d N:Nat}{i:SX}{a:List WSg}{W':b}(h:adI w d g N i a W)(c:R W.1.size W W'):adI w d g N i a W':=by
 obtain⟨v,e,j,f,k,l⟩:=h;exact⟨v,(c.block _ (zd e)).trans e,xp j c,f.trans (c.mono f.size),k,Nat.le_trans l c.size⟩
theorem zol{ex:Nat->Prop}{m:Nat}{v:Value}(c:ex g)(e:g<m):KX ex n m W (W.setCell (U g i) v):=
 ⟨(zi.refl _ _).setCell (p:=(U g i)) (fun _=> .inl c) v,fun k o _ a d=>(KeepsOthers.setCell W (U g i) v).same k o a (Obj.not_cells_of_walk d),fun k o f _ a=>(Below.heap_setCell _ _ _ _ (show k≠g by omega)).trans a⟩
theorem zlL(d:tm/c.wh (-1)=wn)(hv: -2147483648<=val/\val<=2147483647)(a:(ko L ⟨-1,sr,wn⟩).isSome=false):((⟨-1,sr,wn⟩,⟨1,xx [kH val]⟩):SX)=zmZ c L ⟨sr,tm,val⟩:=by
 subst d;unfold zmZ;have e:xr c ⟨sr,tm,val⟩=⟨-1,sr,tm/c.wh (-1)⟩:=rfl;rw[e];cases h:ko L ⟨-1,sr,tm/c.wh (-1)⟩with
 |none=>rw[zln val hv];rfl
 |some v=>rw[h]at a;simp at a
theorem zlM{d:SX}(j:tm/c.wh (-1)=wn)(hv: -2147483648<=val/\val<=2147483647)(f:(ko L ⟨-1,sr,wn⟩).isSome=true)(i:stX L ⟨-1,sr,wn⟩=d)(a:∀p∈L,p.1.t= -1->p.2.cl.small):((⟨-1,sr,wn⟩,⟨1,xx [kH val,d.2.cl]⟩):SX)=zmZ c L ⟨sr,tm,val⟩:=by
 subst j;unfold zmZ;have e:xr c ⟨sr,tm,val⟩=⟨-1,sr,tm/c.wh (-1)⟩:=rfl;rw[e];cases h:ko L ⟨-1,sr,tm/c.wh (-1)⟩with
 |none=>rw[h]at f;simp at f
 |some v=>
  have g:d.2=v:=by rw[<-i];unfold stX;rw[h]
  rw[g,zlo val hv v.cl (a _ (vU h) rfl)];rfl
theorem zgb{s:Nat}{tv:Value}{lb gb:Nat}{Gl:List (Sg×Unit)}(h:xI w s c tv lb gb Gl L)(hc:c.ok)(sr tm val:Int)(aW:0<=sr/\sr<4)(am:0<=tm/\tm<=100000)(bL: -2147483648<=val/\val<=2147483647)(cq:∀p∈L,p.1.t= -1->p.2.cl.small):
  Calls prog 64 #[(O s),I sr,I tm,M V val] w fun e w'=>∃v,e=.returned v/\ju w' w.1.size v (qX c Gl L ⟨sr,tm,val⟩)/\R w.1.size w w':=by
 have cE:=hc.n1;have bi:(⟨-1,sr,tm/c.wh (-1)⟩:Sg).wf:=by
  obtain⟨cr,cH⟩:=hc.wh (t:= -1) (by omega) (by omega);have hd:0<=tm/c.wh (-1):=Int.ediv_nonneg am.1 (by omega);have cC:tm/c.wh (-1)<=tm:=Int.ediv_le_self _ am.1;refine⟨?_,?_,?_⟩<;>unfold xz<;>simp only<;>omega
 obtain⟨wn,ap⟩:∃wn,tm/c.wh (-1)=wn:=⟨_,rfl⟩;have cp:=h.lt;have bo:=ze (zeC h.hd hc (-1) sr tm (by omega) (by omega) am);rw[ap]at bo bi;have H:=ze h;have aV:=ze ap;have a8:=ze bi;obtain⟨bJ,bK⟩:=bL;obtain⟨Q,bI⟩:∃Q,stX L ⟨-1,sr,wn⟩=Q:=⟨_,rfl⟩;obtain⟨ok,bG⟩:∃ok,(ko L ⟨-1,sr,wn⟩).isSome=ok:=⟨_,rfl⟩;have b5:=ze bI;have av:=ze bG;clear h ap bi bI bG;refine(callsIn_wide (n:=7)).1 ?_;refine callsIn_of_wp_marks func64 rfl trivial ?_ rfl;simp only[ntmps64,sZz,Nat.reduceAdd,Nat.reduceSub];refine wpIn_wide.2 ?_;go_wp2_with fail;refine(ud bo).mono ?_;rintro e w1 ⟨rfl,bt⟩;have aZ:=ze bt;clear bt;go_wp2_with fail;obtain⟨y0,y1,bv,yz⟩:=box2 w1 (.cells #[I (-1),I sr,I wn] 146) (.cells #[I 1,I val,M V val,M V val] 115);generalize((w1.alloc (.cells #[I (-1),I sr,I wn] 146)).alloc (.cells #[I 1,I val,M V val,M V val] 115))=X at*;have u:R w.1.size w X:=(ud aZ).trans (bv.mono (ud aZ).size);obtain⟨-,-,-,-,-,-,-,x7,-⟩:=((ud H).later u).cells;obtain⟨k0,k1,k2,-⟩:=zc y0;have cG:s<X.1.size:=G cp u.size;have bB:w1.1.size<X.1.size:=by omega
 have bf:w1.1.size+1<X.1.size:=by omega
 have g0:=Xe (X:=X) (ud H).live u (ud a8);have g1:=Xe (X:=X.drew) (ud H).live u.drew (ud a8);have g2:=fun o=>Xe (X:=X.alloc o) (ud H).live (u.alloc u.size o) (ud a8);have g3:=fun o=>Xe (X:=(X.alloc o).drew) (ud H).live (u.alloc u.size o).drew (ud a8);have g4:=fun o=>Xe (X:=X.drew.alloc o) (ud H).live (u.drew.alloc u.drew.size o) (ud a8);rw[ud b5,ud av]at g0 g1;simp only[ud b5,ud av]at g2 g3 g4;have ax:=ze u;have Y0:=ze y0;have Y1:=ze y1;have YZ:=ze yz;clear u y0 y1 yz bv;go_region
 have bu:R X.1.size X ((X.alloc (.cells (xZz Q) 148)).drew):=((z _ _).alloc (S _) _).drew;have bD:((X.alloc (.cells (xZz Q) 148)).drew).1[X.1.size]?=E (.cells (xZz Q) 148 (0,0)):=zq _ _;have bR:((X.alloc (.cells (xZz Q) 148)).drew).1.size=X.1.size+1:=zM _ _;generalize((X.alloc (.cells (xZz Q) 148)).drew)=Y at*;have a1:=ze bu;have c9:=ze bD;have cf:=ze bR;clear g0 g1 g2 g3 g4 x7 k0 k1 k2 bu bD bR;rename_i Q1 K1 aK1 K2 aK2;have aY:∀(a4 aD aE aF aG v20 v21 v22 aH aI v25 aJ aK aL aM aN v31 aO aP aQ aR aS v37 aT v39:Value) (a:Cl) (Z:b),(∀Z',R Z.1.size Z Z'->Hid (Calls prog 123 #[a4] Z' fun e w'=>e=.returned (.agg #[I a.cnt,I a.sum,M V a.mn,M V a.mx])/\R Z'.1.size Z' w'))->Hid (((⟨-1,sr,wn⟩,⟨1,a⟩):SX)=zmZ c L ⟨sr,tm,val⟩)->Hid (R w.1.size w Z)->Hid (Z.1[w1.1.size]?=E (.cells #[I (-1),I sr,I wn] 146 (0,0)))->K1 {tmps:=#[(O s),I sr,I tm,M V val,undef,undef,undef,undef,.slice none 0 0,(O w1.1.size),a4,aD,aE,undef,undef,(O s),I sr,I tm,aF,aG,v20,v21,v22,aH,aI,v25,aJ,aK,aL,aM,aN,v31,aO,aP,aQ,aR,aS,v37,aT,v39,undef,undef,undef,undef,undef,undef,undef,undef,undef,undef,undef,undef,undef,undef,undef,undef,undef,undef,undef],defers:=[]} Z:=by
  intro a4 aD aE aF aG v20 v21 v22 aH aI v25 aJ aK aL aM aN v31 aO aP aQ aR aS v37 aT v39 a Z HJ y P a5;refine aK1 _ _ ?_;clear aK2 aK1;go_wp2_with fail;rename_i K3 aK3;obtain⟨bW,bX,bY,-⟩:=zc (ud a5);have N:w1.1.size<Z.1.size:=zd (ud a5);have ab:∀(bx g:Nat) (T:b),Hid (R w.1.size w T)->Hid (T.1[bx]?=E (.cells #[.slice (E (U g 0)) 1 1] 105 (0,0)))->Hid (T.1[g]?=E (.cells #[I (-1),I sr,I wn,I 1,I a.cnt,I a.sum,M V a.mn,M V a.mx] 148 (0,0)))->Hid (w.1.size<=bx/\w.1.size<=g)->K3 {tmps:=#[(O s),I sr,I tm,M V val,undef,undef,undef,undef,.slice none 0 0,(O w1.1.size),a4,aD,aE,(O bx),undef,(O s),I sr,I tm,aF,aG,v20,v21,v22,aH,aI,v25,aJ,aK,aL,aM,aN,v31,aO,aP,aQ,aR,aS,v37,aT,v39,.agg #[I (-1),I sr,I wn],a4,.agg #[I a.cnt,I a.sum,M V a.mn,M V a.mx],.agg #[I (-1),I sr,I wn,I 1,I a.cnt,I a.sum,M V a.mn,M V a.mx],.slice (E (U g 0)) 1 1,undef,undef,undef,undef,undef,undef,undef,undef,undef,undef,undef,undef,undef,undef],defers:=[]} T:=by
   intro bx g T aw b0 HG bZ;refine aK3 _ _ ?_;obtain⟨ck,cn⟩:=ud bZ;have cj:=zd (ud b0);have cm:=zd (ud HG);have bg:=(ud H).later (ud aw);obtain⟨b8,ba,bQ⟩:=YY bg.hd sr tm;obtain⟨C,b7⟩:∃C,YX T s sr tm=C:=⟨_,rfl⟩;rw[b7]at b8 ba bQ;have b1:=ze (YW s sr tm T);rw[b7]at b1;have b6:=ze (Vf 183 #[(O T.1.size),(O (T.1.size+1)),(O (T.1.size+2))] 121 #[(O s)] #[] C);obtain⟨be,bc,ay,bP⟩:=box2 C (.cells #[.func (.func 183) #[] #[(O T.1.size),(O (T.1.size+1)),(O (T.1.size+2))]] 199) (.cells #[.func (.func 121) #[(O s)] #[]] 206);obtain⟨X2,br⟩:∃X2,((C.alloc (.cells #[.func (.func 183) #[] #[(O T.1.size),(O (T.1.size+1)),(O (T.1.size+2))]] 199)).alloc (.cells #[.func (.func 121) #[(O s)] #[]] 206))=X2:=⟨_,rfl⟩;rw[br]at be bc ay bP b6;have a6:R T.1.size T X2:=ba.trans (ay.mono (by omega));have aX:R w.1.size w X2:=(ud aw).trans (a6.mono (ud aw).size);have ak:=bg.later a6;have bb:=(ud H).foot_lt;have ai:=zaX (ex:=fun k=>k=bx\/k=g) (n:=X2.1.size) T.1.size s c hc tv lb gb sr tm aW am X2 (b8.later ay) (fun i hi=>⟨by omega,by omega⟩) ⟨by omega,by omega⟩ (fun k hk=>by have:=bb k (.inr (.inl hk));constructor<;>omega);have aj:=ZK (fun x:WSg=>x.1) 183 #[(O T.1.size),(O (T.1.size+1)),(O (T.1.size+2))] QT 121 #[(O s)] #[] Xf (fun x=>(stG Gl L x.1).st==0) C.1.size (C.1.size+1) X2 (S _) ⟨by omega,by omega⟩ ⟨by omega,by omega⟩ be bc
    (fun x W ⟨m,hk⟩=>Y4 (ak.kx hk (fun k hh=>by have:=bb k hh;constructor<;>omega)) x.1 x.2) ai
   have bp:=ze aj;have a9:=ze aX;have aU:=ze ((a6.block _ cj).trans (ud b0));have bl:=ze ((a6.block _ cm).trans (ud HG));have cJ:T.1.size<=X2.1.size:=a6.size;clear bg b8 ba bQ be bc ay bP a6 aX ak bb ai aj b7 br b0 HG;go_wp2_with(first
    |(go_at_call 120;refine(ud b1).mono ?_;rintro e C' ⟨rfl,ch⟩;subst ch)
    |(go_at_call 124;refine(ud b6).mono ?_;rintro e aa ⟨rfl,bs⟩;subst bs))
   rename_i K4 aK4;have cA:=(ud a9).size;refine(wpIn_wide (n:=7)).1 ?_;refine yg (F:=Fence.wide) (n:=7) rfl (by omega) (gf:=194) (lb:=#[(O C'.1.size),(O (C'.1.size+1))]) rfl trivial Ve (ud bp (aa.1.size+2) (by omega)) (S _) (fun h k=>h.trans k) (fun W o o' h hc hw=>KX.putObj o' (by omega) (by omega) h hw) (z _ _) (fun _=>rfl)
    (adI w bx g aa.1.size (⟨-1,sr,wn⟩,⟨1,a⟩)) (fun _ _ _=>False)
    (fun s A B row hs hg hr=>by
     obtain⟨v,h1,h2,h3,h4,h5⟩:=hs;exact⟨v,zv h1 hg (fun r e=>(hr r e).2),ZT h2 hg (fun r e=>(hr r e).2),h3.grown hg h3.size (fun k e=>by have:=(hr k e).1;omega),h4,Nat.le_trans h5 hg.size⟩)
    (fun _ _ _ _ _ hs _ _=>hs)
    ⟨_,ud aU,YB (xs:=[((⟨-1,sr,wn⟩,⟨1,a⟩):SX)].flatMap xw) (n:=1) (size:=8) (ud bl) rfl (by decide) (by simp[maxLen]) cn,ud a9,fun r e=> .inl (by cases e;rfl),S _⟩
    (fun x a' W=>∃Bx,aa.1.size<=Bx/\W.1[Bx]?=E (.cells #[I x.1.t,I x.1.sr,I x.1.wn] 146 (0,0))/\a'={tmps:=#[(O s),I sr,I tm,M V val,undef,undef,undef,undef,.slice none 0 0,(O w1.1.size),a4,aD,aE,(O bx),(O Bx),(O s),I sr,I tm,aF,aG,v20,v21,v22,aH,aI,v25,aJ,aK,aL,aM,aN,v31,aO,aP,aQ,aR,aS,v37,aT,v39,.agg #[I (-1),I sr,I wn],a4,.agg #[I a.cnt,I a.sum,M V a.mn,M V a.mx],.agg #[I (-1),I sr,I wn,I 1,I a.cnt,I a.sum,M V a.mn,M V a.mx],.slice (E (U g 0)) 1 1,(O s),I sr,I tm,.func (.func 183) #[] #[(O T.1.size),(O (T.1.size+1)),(O (T.1.size+2))],(O s),.func (.func 121) #[(O s)] #[],.func (.func 194) #[] #[(O C'.1.size),(O (C'.1.size+1))],.agg #[I x.1.t,I x.1.sr,I x.1.wn],undef,undef,undef,undef,undef,undef],defers:=[]})
    (fun x a' s A B row hs hg hr=>by
     obtain⟨Bx,h1,h2,h3⟩:=hs;exact⟨Bx,h1,zv h2 hg (fun r e=>(hr r e).2),h3⟩) ?assign ?body ?done ?stop
   case assign=>
    rintro l ar x W K hI hK;have HK:=ze hK;have HI:=ze hI;clear hK hI;gi_wp2;have a7:=(z W.1.size W).alloc (S _) (.cells #[I x.1.t,I x.1.sr,I x.1.wn] 146);have cu:aa.1.size<=W.1.size:=(by obtain⟨v,-,-,-,-,h5⟩:=ud HI;exact h5);exact ud HK _ _ (zo a7) (KX.of_below a7) ((ud HI).later a7) ⟨W.1.size,cu,zq _ _,rfl⟩
   case body=>
    rintro l ar x a' W hl ⟨r,hr⟩ ⟨v,i1,i2,i3,i4,i5⟩ ⟨Bx,cy,hx,rfl⟩ aB;have al:=zd i1;have cI:=zd hx;obtain⟨c1,-⟩:=zc i1;obtain⟨x0,x1,x2,-⟩:=zc hx;have cF:=hc.n4;have bF:((((⟨-1,sr,wn⟩,⟨1,a⟩):SX))::ar.map (fun x=>(x.1,(⟨2,qA⟩:SV)))).length<=1000000:=(by rw[List.length_cons,List.length_map];omega);obtain⟨zs,bj⟩:∃zs,(((⟨-1,sr,wn⟩,⟨1,a⟩):SX))::ar.map (fun x=>(x.1,(⟨2,qA⟩:SV)))=zs:=⟨_,rfl⟩;rw[bj]at i2 bF;have ce:=ze bj;have bm:=ze i1;have a2:=ze i2;have b2:=ze i3;have bn:=ze i4;have HX:=ze hx;clear i1 i2 i3 i4 hx hr bj aB bp aU bl aw b1 b6 a9;gi_wp2_with (first
     |(gi_at_builtin;refine zlE rfl _ _ rfl w.1.size _ zs ((x.1,⟨2,qA⟩):SX) rfl ((ud a2).alloc _) W.1.size rfl (zq _ _) bF (by rw[zM];omega) ?_;intro g' bq w3 ag az bN cv
       have bz:=Kf ((ud a2).alloc (.cells #[I x.1.t,I x.1.sr,I x.1.wn,I 2,I 0,I 0,M V 0,M V 0] 148)) az aa.1.size
       have b3:w3.1[bx]?=E (.cells #[v] 105 (0,0)):=(az.block bx (by rw[zM];omega) (fun e=>zp (ud bm) (ud a2) (by decide) bx e.symm rfl)).trans ((Below.heap_alloc _ _ _ al).trans (ud bm))
       obtain⟨d1,-⟩:=zc b3
       have f1:w3.frozen? (U bx 0)=false:=zw b3 0
       have cw:=zd b3
       have ca:=ze ag
       have c0:=ze az
       have c7:=ze bz
       have bk:=ze b3
       have cc:=ze bN
       clear ag az bz b3 bN
       go_frame)
     |gi_in)
    have hk:=ud c7;have hg:(W.alloc (.cells #[I x.1.t,I x.1.sr,I x.1.wn,I 2,I 0,I 0,M V 0,M V 0] 148)).grownBy w3 v.ownBlock:=ud c0;have a0:=ud ca;have hb:=ud b2;have a7:=(z W.1.size W).alloc (S _) (.cells #[I x.1.t,I x.1.sr,I x.1.wn,I 2,I 0,I 0,M V 0,M V 0] 148);have ci:R w.1.size w w3:=(hb.alloc hb.size _).grown hg (by have:=hb.size;rw[zM];omega) (fun k e=>(World.ownsRow.lt (ud a2) k e).1);refine⟨((zo a7).trans hk.1).trans ((KeepsOthers.setCell w3 (U bx 0) _).from _),((KX.of_below a7).trans (KX.grown hg (fun r e=>⟨?_,?_⟩))).trans (zol (.inl rfl) (by omega)),?_⟩
    ·rcases ud bn r e with h|h
     ·exact .inl (.inr h)
     ·exact .inr h
    ·obtain⟨cx,bw⟩:=zH ((ud a2).alloc (.cells #[I x.1.t,I x.1.sr,I x.1.wn,I 2,I 0,I 0,M V 0,M V 0] 148)) e;exact⟨_,_,bw⟩
    ·refine⟨_,xD (i:=0) (ud bk) _,?_,ci.setCell (p:=(U bx 0)) ck _,fun r e=>?_,?_⟩
     ·have aC:=zh (w':=w3.setCell (U bx 0) (.slice (E (U g' 0)) (zs.length+1) bq)) a0 (zg (f:=fun k=>k=bx) (zi.refl _ _) rfl) (fun k co e=>zp (ud bk) a0 (by decide) k co e);have ez:(((⟨-1,sr,wn⟩,⟨1,a⟩):SX))::(ar++[x]).map (fun x=>(x.1,(⟨2,qA⟩:SV)))=zs++[((x.1,⟨2,qA⟩):SX)]:=by
       rw[List.map_append,<-List.cons_append,ud ce];rfl
      rw[ez];unfold ju;rw[List.length_append,List.length_singleton]at aC ⊢;exact aC
     ·have er:r=g':=(by cases e;rfl);subst er;rcases ud cc with h|h
      ·exact ud bn _ h
      ·right;rw[h,zM];omega
     ·have:=hg.size;rw[zM]at this;simp;omega
   case done=>
    rintro D xs W hD hS ⟨v,i1,i2,i3,i4,i5⟩ hK;obtain⟨ys,rfl,bO⟩:=hS;obtain⟨c1,-⟩:=zc i1;have al:=zd i1;have a2:=ze i2;have b2:=ze i3;have b4:=ze hK;have cd:=ze bO;clear i1 i2 i3 i4 hK bO;refine aK4 _ _ ?_;go_wp2_with fail;refine⟨by simp,.inl ⟨_,_,rfl,run_takeDeferred (ud b4),?_⟩⟩;refine⟨_,results_tmp rfl _ _ _,_,rfl,?_,xE (ud b2) (S _) (by omega) (ud b4) _⟩;have aC:=ZT (ud a2) (grownBy_putObj' W D (.deferred none)) (fun r e=>by cases e;exact⟨_,ud b4,rfl⟩);have ez:qX c Gl L ⟨sr,tm,val⟩=(((⟨-1,sr,wn⟩,⟨1,a⟩):SX))::xs.map (fun x=>(x.1,(⟨2,qA⟩:SV))):=by
     unfold qX;rw[<-ud y,ud cd,zew hc aW am Gl L val c.n (S _)]
    rw[ez];exact aC
   case stop=>
    rintro D c ar W _ _ h _;exact h.elim
  have c6:=HJ Z (z _ _);have c5:=HJ Z.drew (z _ _).drew;have b9:R Z.1.size Z (Z.alloc zdS):=(z _ _).alloc (S _) _;have c2:=HJ (Z.alloc zdS) b9;have c3:=HJ (Z.alloc zdS).drew b9.drew;have c4:=HJ (Z.drew.alloc zdS) ((z _ _).drew.alloc (S _) _);have bS:=zM Z zdS;have bE:=zq Z zdS;have c8:=ze bE;have bd:¬w1.1.size=Z.1.size:=by omega
  clear HJ bE b9 aK3;go_region_held3 (fun w'=>w'.cell? (U w1.1.size 0)=E (I (-1))/\w'.cell? (U w1.1.size 1)=E (I sr)/\w'.cell? (U w1.1.size 2)=E (I wn)) (go_keep) (first
   |(go_at_call 123;(first|(with_reducible refine(ud c6).mono ?_)|(with_reducible refine(ud c5).mono ?_));rintro e J ⟨rfl,d⟩;have j:R Z.1.size Z J:=⟨d.os,d.tape,d.output,d.size,d.block⟩;have bT:=(j.cell (p:=(U w1.1.size 0)) N).trans bW;have bU:=(j.cell (p:=(U w1.1.size 1)) N).trans bX;have bV:=(j.cell (p:=(U w1.1.size 2)) N).trans bY;have bA:=G N j.size;have au:=ze j;clear j d)
   |(go_at_call 123;(first|(with_reducible refine(ud c2).mono ?_)|(with_reducible refine(ud c3).mono ?_)|(with_reducible refine(ud c4).mono ?_));rintro e J ⟨rfl,d⟩;have j:R (Z.1.size+1) (Z.alloc zdS) J:=⟨d.os,d.tape,d.output,d.size,fun k hk=>d.block k (by first|exact Nat.lt_of_lt_of_eq hk bS.symm|exact hk)⟩;have bT:=(j.cell (p:=(U w1.1.size 0)) (Nat.lt_succ_of_lt N)).trans (((z Z.1.size Z).alloc (S _) zdS).cell (p:=(U w1.1.size 0)) N|>.trans bW);have bU:=(j.cell (p:=(U w1.1.size 1)) (Nat.lt_succ_of_lt N)).trans (((z Z.1.size Z).alloc (S _) zdS).cell (p:=(U w1.1.size 1)) N|>.trans bX);have bV:=(j.cell (p:=(U w1.1.size 2)) (Nat.lt_succ_of_lt N)).trans (((z Z.1.size Z).alloc (S _) zdS).cell (p:=(U w1.1.size 2)) N|>.trans bY);have aq:=(j.block Z.1.size (Nat.lt_succ_self _)).trans (ud c8);obtain⟨jc,-⟩:=zc aq;have jf:=zw aq 0;have bA:=G (Nat.lt_succ_of_lt N) (Nat.le_trans (Nat.le_of_eq bS.symm) j.size);have ct:=zd aq;have cK:(J.setCell (U Z.1.size 0) (.slice (E (U J.1.size 0)) 1 1)).cell? (U w1.1.size 0)=E (I (-1)):=(Jw bd _).trans bT;have cL:(J.setCell (U Z.1.size 0) (.slice (E (U J.1.size 0)) 1 1)).cell? (U w1.1.size 1)=E (I sr):=(Jw bd _).trans bU;have cM:(J.setCell (U Z.1.size 0) (.slice (E (U J.1.size 0)) 1 1)).cell? (U w1.1.size 2)=E (I wn):=(Jw bd _).trans bV;have cD:w1.1.size<(J.setCell (U Z.1.size 0) (.slice (E (U J.1.size 0)) 1 1)).1.size:=(by simpa using bA);have au:=ze j;have cg:=ze aq;clear j d aq))
  ·have q:R w.1.size w J:=(ud P).trans ((ud au).mono (ud P).size);obtain⟨e1,e2,e3,-⟩:=box2 J (.cells #[I (-1),I sr,I wn,I 1,I a.cnt,I a.sum,M V a.mn,M V a.mx] 148) (.cells #[.slice (E (U J.1.size 0)) 1 1] 105);exact ab _ _ _ (q.trans (e3.mono q.size)) e2 e1 ⟨by have:=q.size;omega,q.size⟩
  ·have q:R w.1.size w J:=(ud P).trans ((ud au).mono (ud P).size);obtain⟨e1,e2,e3,-⟩:=box2 J (.cells #[.slice (E (U (J.1.size+1) 0)) 1 1] 105) (.cells #[I (-1),I sr,I wn,I 1,I a.cnt,I a.sum,M V a.mn,M V a.mx] 148);exact ab _ _ _ (q.trans (e3.mono q.size)) e1 e2 ⟨q.size,by have:=q.size;omega⟩
  ·have ao:=ud P;have an:R w.1.size w (Z.alloc zdS):=ao.alloc ao.size _;have q:R w.1.size w J:=an.trans ((ud au).mono (by have:=ao.size;omega));have bM:=q.setCell (p:=(U Z.1.size 0)) ao.size (.slice (E (U J.1.size 0)) 1 1);have al:(J.setCell (U Z.1.size 0) (.slice (E (U J.1.size 0)) 1 1)).1.size=J.1.size:=(by simp);have e2:=zq (J.setCell (U Z.1.size 0) (.slice (E (U J.1.size 0)) 1 1)) (.cells #[I (-1),I sr,I wn,I 1,I a.cnt,I a.sum,M V a.mn,M V a.mx] 148);rw[al]at e2;exact ab _ _ _ (bM.alloc bM.size _) ((Below.heap_alloc _ _ _ (by rw[al];exact ct)).trans (xD (i:=0) (ud cg) _)) e2 ⟨ao.size,by have:=q.size;omega⟩
 clear aK1;cases ok with
 |false=>
  obtain⟨a,a3⟩:∃a,xx [kH val]=a:=⟨_,rfl⟩;have y:=ze (zlL (ud aV) ⟨bJ,bK⟩ (ud av));rw[a3]at y;have ad:=((ud a1).block (w1.1.size+1) bf).trans (ud Y1);have ac:CAt Y (w1.1.size+1) [kH val]:=CAt.of_owns (base:=0) (cap:=1) (e:=115) (YB (xs:=Zn (kH val)) ad rfl (by simp) (by simp[maxLen]) (Nat.zero_le _));have bH:w1.1.size+1<Y.1.size:=G bf (ud a1).size;have HJ:∀Z',R Y.1.size Y Z'->Hid (Calls prog 123 #[.slice (E (U (w1.1.size+1) 0)) 1 1] Z' fun e w'=>e=.returned (.agg #[I a.cnt,I a.sum,M V a.mn,M V a.mx])/\R Z'.1.size Z' w'):=fun Z' ae=>by
   have:=JP (E (U (w1.1.size+1) 0)) (w1.1.size+1) 1 [kH val] (fun _=>rfl) (by simp) Z' (G bH ae.size) (ac.below ae bH);rw[a3]at this;exact this
  have P:=ze ((ud ax).trans ((ud a1).mono (ud ax).size));have a5:=ze (((ud a1).block _ bB).trans (ud Y0));clear ad ac a3;go_wp2_with fail;exact aY _ _ _ _ _ _ _ _ _ _ _ _ _ _ _ _ _ _ _ _ _ _ _ _ _ a Y HJ y P a5
 |true=>
  obtain⟨-,-,-,-,o1,o2,o3,o4,-⟩:=zc (ud c9);have cr:=(ud aZ).size;have ad:=((ud a1).block (w1.1.size+1) bf).trans (ud Y1);have cb:=ze (YB (base:=w.1.size) (xs:=[kH val].flatMap Zn) (n:=1) (size:=4) ad rfl (by decide) (by simp[maxLen]) (by omega));have cz:X.1.size<Y.1.size:=by rw[ud cf];omega
  have cB:w.1.size<=Y.1.size:=by omega
  clear ad;go_wp2_with(first|(at_builtin;refine zjb rfl _ _ rfl w.1.size (.slice (E (U (w1.1.size+1) 0)) 1 1) [kH val] Q.2.cl rfl ((ud cb).alloc _) Y.1.size rfl (zq _ _) ?hll ?hbb ?_;(case hll=>simp);(case hbb=>(rw[zM];omega));intro g cap Z a0 af aB;have HG:=ze af;have HO:=ze a0;clear af a0)|go_in);obtain⟨a,a3⟩:∃a,xx [kH val,Q.2.cl]=a:=⟨_,rfl⟩;have y:=ze (zlM (ud aV) ⟨bJ,bK⟩ (ud av) (ud b5) cq);rw[a3]at y;have ac:CAt Z g [kH val,Q.2.cl]:=CAt.of_owns (base:=w.1.size) (cap:=cap) (e:=115) (ud HO);have HJ:∀Z',R Z.1.size Z Z'->Hid (Calls prog 123 #[.slice (E (U g 0)) 2 cap] Z' fun e w'=>e=.returned (.agg #[I a.cnt,I a.sum,M V a.mn,M V a.mx])/\R Z'.1.size Z' w'):=fun Z' ae=>by
   have:=JP (E (U g 0)) g cap [kH val,Q.2.cl] (fun _=>rfl) (by simp) Z' (G aB ae.size) (ac.below ae aB);rw[a3]at this;exact this
  have bh:=(ud ax).trans ((ud a1).mono (ud ax).size);have aA:=(ud HG);have ah:(Value.slice (E (U (w1.1.size+1) 0)) 1 1).ownBlock=E (w1.1.size+1):=rfl;rw[ah]at aA;have an:=bh.alloc bh.size (.cells #[I Q.2.cl.cnt,I Q.2.cl.sum,M V Q.2.cl.mn,M V Q.2.cl.mx] 115);have P:=ze (an.grown aA an.size (fun k e=>by cases e;omega));have cs:=zM Y (.cells #[I Q.2.cl.cnt,I Q.2.cl.sum,M V Q.2.cl.mn,M V Q.2.cl.mx] 115);have bC:=((ud a1).block _ bB).trans (ud Y0);have a5:=ze ((aA.block w1.1.size (by omega) (by simp)).trans ((Below.heap_alloc _ _ _ (by omega)).trans bC));clear ac a3 bh aA ah an cs bC o1 o2 o3 o4;exact aY _ _ _ _ _ _ _ _ _ _ _ _ _ _ _ _ _ _ _ _ _ _ _ _ _ a Z HJ y P a5
end Go.Proofs.YtndhpgciopcncaaGreatDoor
