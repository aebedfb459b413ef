import Derived.Test.YtndhpgciopcncaaGreatDoorXLay2
import Derived.Test.YtndhpgciopcncaaGreatDoorXRef8
import Derived.Maps.OwnIn
import Derived.Shelf.SlSortCmp.NoneTotal
open Option renaming some → J
open Go renaming World → E
open Nat renaming le_refl → Y
set_option linter.unusedVariables false
set_option maxRecDepth 100000
set_option maxHeartbeats 2000000
open Go.Proofs.Tryz
namespace Go.Proofs
open Go.Shelf
def Tryz.sortSeg_ren:Go.Shelf.Ren:=⟨fun|6=>209|15=>230|14=>246|28=>261|29=>262|20=>269|21=>270|22=>271|23=>272|24=>273|25=>274|26=>275|27=>276|46=>297|47=>282|48=>283|49=>298|50=>299|57=>312|n=>n,fun|22=>105|24=>148|25=>283|3=>3|39=>299|0=>0|53=>332|55=>334|4=>4|46=>326|45=>325|50=>121|5=>5|9=>9|66=>352|70=>356|76=>383|77=>384|n=>n,fun|n=>n⟩
theorem Tryz.sortSeg:Go.Proofs.SlLaysF0.n6 prog Tryz.sortSeg_ren:=by
 constructor
 case f6=>exact⟨f209.name,by decide,func209.trans (congrArg J (by kernel_rfl))⟩
 case f14=>exact⟨f246.name,by decide,func246.trans (congrArg J (by kernel_rfl))⟩
 case f15=>exact func230.trans (congrArg J (by kernel_rfl))
 case f20=>exact⟨f269.name,by decide,func269.trans (congrArg J (by kernel_rfl))⟩
 case f21=>exact⟨f270.name,by decide,func270.trans (congrArg J (by kernel_rfl))⟩
 case f22=>exact⟨f271.name,by decide,func271.trans (congrArg J (by kernel_rfl))⟩
 case f23=>exact⟨f272.name,by decide,func272.trans (congrArg J (by kernel_rfl))⟩
 case f24=>exact⟨f273.name,by decide,func273.trans (congrArg J (by kernel_rfl))⟩
 case f25=>exact⟨f274.name,by decide,func274.trans (congrArg J (by kernel_rfl))⟩
 case f26=>exact⟨f275.name,by decide,func275.trans (congrArg J (by kernel_rfl))⟩
 case f27=>exact⟨f276.name,by decide,func276.trans (congrArg J (by kernel_rfl))⟩
 case f28=>exact func261.trans (congrArg J (by kernel_rfl))
 case f29=>exact func262.trans (congrArg J (by kernel_rfl))
 case f46=>exact⟨f297.name,by decide,func297.trans (congrArg J (by kernel_rfl))⟩
 case f47=>exact func282.trans (congrArg J (by kernel_rfl))
 case f48=>exact func283.trans (congrArg J (by kernel_rfl))
 case f49=>exact⟨f298.name,by decide,func298.trans (congrArg J (by kernel_rfl))⟩
 case f50=>exact⟨f299.name,by decide,func299.trans (congrArg J (by kernel_rfl))⟩
 case f57=>exact⟨f312.name,by decide,func312.trans (congrArg J (by kernel_rfl))⟩
 all_goals(intros;kernel_rfl)
end Go.Proofs
namespace Go.Proofs.YtndhpgciopcncaaGreatDoor
section
open Go.RowKit Go.Maps Go.Shelf
variable {S:List SX->Prop} {N base n:Nat} {v:Value} {W w:E}
attribute [local go_sem] Oper.semAt_some
theorem zhB:(prog.info? 148).map (fun i=>(i.zero,i.size,i.bytes))=J (J (.agg #[I 0,I 0,I 0,I 0,I 0,I 0,i_ 0,i_ 0]),8,56):=by kernel_rfl
theorem zei:∃i:TypeInfo,prog.info? 148=J i/\i.zero=J (.agg #[I 0,I 0,I 0,I 0,I 0,I 0,i_ 0,i_ 0])/\i.size=8/\i.bytes=56:=by
 have h:=zhB;cases a:prog.info? 148 with
 |none=>simp[a]at h
 |some i=>
  simp only[a,Option.map_some,Option.some.injEq,Prod.mk.injEq]at h;exact⟨i,rfl,h.1,h.2.1,h.2.2⟩
theorem Z6(x:SX):∀v∈xD x,v.oneCell'=true:=fun v hv=>by
 simp only[xD,List.mem_cons,List.not_mem_nil,or_false]at hv;rcases hv with rfl|rfl|rfl|rfl|rfl|rfl|rfl|rfl<;>rfl
theorem zkk{e:TypeId}{l:List SX}{f:SX}(h:w.ownsRow base e 8 v (l.length+1) (l.flatMap xD++xD f)):w.ownsRow base e 8 v (l++[f]).length ((l++[f]).flatMap xD):=by
 rw[List.length_append,List.flatMap_append];simpa using h
def zpT(w:E)(a:List SX)(W:E):Prop:=∃v,W.1[w.1.size]?=J (.cells #[v] 105 (0,0))/\W.ownsRow w.1.size 148 8 v a.length (a.flatMap xD)/\B_ w W
theorem zpT.later{a:List SX}{W':E}(h:zpT w a W)(b:B_ W W'):zpT w a W':=by
 obtain⟨v,c,g,d⟩:=h;exact⟨v,(b.block _ (zd c)).trans c,zi g (zj.of_below (f:=fun _=>False) b) (fun _ _ e=>e),d.trans (b.mono d.size)⟩
theorem Kr{c:E}{e:TypeId}{size:Nat}{xs:List Value}(i:W.ownsRow base e size v n xs)(d:W.grownBy c v.ownBlock)(B:Nat):KeepsFrom B W c/\KeepsWalks W c:=by
 have key:∀(k:Nat) (o:Obj),W.1[k]?=J o->o.isCells=false->c.1[k]?=J o:=fun k o a b=>(d.block k (zd a) (fun e=>by
  rcases i.2 with⟨rfl,_⟩|⟨g,cap,h,rfl,_,f,_⟩
  ·simp[Value.ownBlock]at e
  ·have:k=g:=(by simpa[Value.ownBlock]using e);subst this;rw[f]at a;cases a;cases b)).trans a
 exact⟨⟨d.size,fun k o _ a b=>key k o a b⟩,⟨d.size,fun k o a b=>key k o a (Obj.not_cells_of_walk b)⟩⟩
theorem zjs{F:Fence}{ops:Array Oper}{rest:List Oper}{o:Oper}{a:Act}{Q:Exit->Act->E->Prop}(p:o.guard=none)(s x:Operand)(B:o.op=.call {callee:=.builtin .append,args:=#[s,x],argTypes:=#[105,105]})(base:Nat)(v:Value)(l:List SX)(f:SX)(C:a.eval s=v)(i:W.ownsRow base 148 8 v l.length (l.flatMap xD))(j:Nat)(D:a.eval x=.slice (J (U j 0)) 1 1)(k:W.1[j]?=J (.cells (xZz f) 148 (0,0)))(H:l.length<=1000000)(c:base<=W.1.size)(h:∀g cap w',w'.ownsRow base 148 8 (.slice (J (U g 0)) (l.length+1) cap) (l++[f]).length ((l++[f]).flatMap xD)->W.grownBy w' v.ownBlock->g<w'.1.size->wpListIn F n prog ops Q rest (a.put o.dst (.slice (J (U g 0)) (l.length+1) cap)) w'):wpListIn F n prog ops Q (o::rest) a W:=by
 obtain⟨i0,A,q,r,t⟩:=zei;refine wpListIn_append_own_at W p s x 105 B base 148 i0 (.agg #[I 0,I 0,I 0,I 0,I 0,I 0,i_ 0,i_ 0]) 8 56 underlying105 A q r t rfl (by decide) v l.length _ C i (U j 0) 1 1 (xD f) D rfl (World.news_of_block (cs:=(xD f).toArray) k) (Z6 f) (by simp only[maxLen];omega) (by omega) c ?_;intro K G b m u y;obtain⟨z,d,rfl,w,e⟩:=b.form (by omega);exact h z d G (zkk b) m e
theorem zfs(gf:Nat)(lb:Array Value)(eg:∀args w,(callFunc gf args).run prog w=.ok (.enter gf args) w)(w:E)(hN:N<=1000000)(q:Yy Fence.wide 6 prog gf lb (fun x:SX=>#[.agg (xZz x)]) KeepsWalks S (fun _=>True) N 0 w):
  Calls prog 245 #[.slice none 0 0,.func (.func gf) #[] lb] w fun e w'=>∃xs v,S xs/\e=.returned v/\w'.ownsRow w.1.size 148 8 v xs.length (xs.flatMap xD)/\Below w.1.size w w':=by
 have L:=ze q;have a0:=ze eg;have b1:=zo w zed;have bz:=zE w zed;have T:Below w.1.size w (w.alloc zed):=(Below.refl _ _).alloc (Y _) _;clear q eg;refine(callsIn_wide (n:=7)).1 ?_;refine callsIn_of_wp_marks func245 rfl trivial ?_ rfl;simp only[ntmps245,sZz,Nat.reduceAdd,Nat.reduceSub];have B1:=ze b1;have t:=ze T;have BZ:=ze bz;clear b1 T bz;gi_wp2;obtain⟨W0,R⟩:∃W0,(w.alloc zed)=W0:=⟨_,rfl⟩;rw[R]at B1 t BZ ⊢;clear R;have hz:W0.1.size=w.1.size+1:=ud BZ;refine yk (F:=Fence.wide) (n:=7) rfl (by omega) (gf:=gf) (lb:=lb) rfl trivial (ud a0) (ud L) (by omega) (fun h k=>h.trans k) (fun W o o' h hc hw=>KeepsWalks.putObj _ h hw) (ud t) (fun _=>rfl)
  (zpT w) (fun _ _ _=>False)
  (fun s A B row X y z=>by
   obtain⟨v,P,h2,Q⟩:=X;exact⟨v,zH P y (fun r e=>(z r e).2),ZP h2 y (fun r e=>(z r e).2),Q.grown y Q.size (fun k e=>by have:=(z k e).1;omega)⟩)
  (fun _ _ _ _ _ X _ _=>X)
  ⟨_,ud B1,⟨rfl,.inl ⟨rfl,rfl⟩⟩,ud t⟩
  (fun x a' W=>∃C,w.1.size+1<=C/\W.1[C]?=J (.cells (xZz x) 148 (0,0))/\a'={tmps:=#[.slice none 0 0,.func (.func gf) #[] lb,(O w.1.size),undef,.slice none 0 0,(O C),.func (.func gf) #[] lb,.agg (xZz x),undef,undef,undef,undef,undef],defers:=[]})
  (fun x a' s A B row X y z=>by
   obtain⟨C,P,h2,Q⟩:=X;exact⟨C,P,zH h2 y (fun r e=>(z r e).2),Q⟩) ?assign ?body ?done ?stop
 case assign=>
  rintro l d x W K hI G;have HK:=ze G;have HI:=ze hI;clear G hI;gi_wp2;have g:=(Below.refl W.1.size W).alloc (Y _) (.cells (xZz x) 148);have ac:w.1.size<W.1.size:=by obtain⟨v,P,h2,Q⟩:=ud HI;exact zd P
  exact ud HK _ _ (zu g) (KeepsWalks.alloc _ _) ((ud HI).later g) ⟨W.1.size,by omega,zo _ _,rfl⟩
 case body=>
  rintro l d x a' W hl ⟨r,z⟩ ⟨v,i1,i2,i3⟩ ⟨C,aa,hx,rfl⟩ ab;obtain⟨va,vc,rfl⟩:=zq i2;have a6:=zd i1;have ad:=zd hx;obtain⟨c1,-⟩:=zc i1;obtain⟨x0,x1,x2,x3,x4,x5,x6,x7,-⟩:=zc hx;have I:=ze i1;have a:=ze i2;have u:=ze i3;have HX:=ze hx;clear i1 i2 i3 hx z;gi_wp2_with (first
   |(gi_at_builtin;refine zjs rfl _ _ rfl w.1.size _ d x rfl ((ud a).alloc _) W.1.size rfl (zo _ _) (by omega) (by rw[zE];omega) ?_;intro g' a7 Z b j a8
     have V:=Kr ((ud a).alloc (.cells (xZz x) 148)) j W0.1.size
     have M:Z.1[w.1.size]?=J (.cells #[.slice va d.length vc] 105 (0,0)):=(j.block w.1.size (by rw[zE];omega) (fun e=>zv (ud I) (ud a) (by decide) w.1.size e.symm rfl)).trans ((Below.heap_alloc _ _ _ a6).trans (ud I))
     obtain⟨d1,-⟩:=zc M
     have f1:Z.frozen? (U w.1.size 0)=false:=zI M 0
     have a9:=zd M
     have a3:=ze b
     have a1:=ze j
     have a2:=ze V
     have H:=ze M
     clear b j V M
     go_frame)
   |gi_in)
  have hk:=ud a2;have y:(W.alloc (.cells (xZz x) 148)).grownBy Z (Value.slice va d.length vc).ownBlock:=ud a1;have m:=ud a3;have hb:=ud u;have g:=(Below.refl W.1.size W).alloc (Y _) (.cells (xZz x) 148);have a4:Below w.1.size w Z:=(hb.alloc hb.size _).grown y (by have:=hb.size;rw[zE];omega) (fun k e=>((ud a).lt k e).1);refine⟨((zu g).trans hk.1).trans ((KeepsOthers.setCell Z (U w.1.size 0) _).from _),((KeepsWalks.alloc _ _).trans hk.2).trans (KeepsWalks.setCell _ _ _),?_⟩;exact⟨_,xq (i:=0) (ud H) _,zi m (zk (f:=fun k=>k=w.1.size) (zj.refl _ _) rfl) (fun k a5 e=>zv (ud H) m (by decide) k a5 e),a4.setCell (p:=(U w.1.size 0)) (Y _) _⟩
 case done=>
  rintro D xs W hD hS ⟨v,i1,i2,i3⟩ G;obtain⟨va,vc,rfl⟩:=zq i2;obtain⟨c2,-⟩:=zc i1;have a:=ze i2;have u:=ze i3;clear i1 i2 i3;gi_wp2;refine⟨by simp,.inl ⟨_,_,rfl,run_takeDeferred G,?_⟩⟩;exact⟨_,results_tmp rfl _ _ _,xs,_,hS,rfl,ZP (ud a) (grownBy_putObj' _ _ _) (fun r e=>by cases e;exact⟨_,G,rfl⟩),xG (ud u) (Y _) (by omega) G _⟩
 case stop=>
  rintro D c d W _ _ h _;exact h.elim
theorem zbf(gf:Nat)(lb:Array Value)(b:∀args w,(callFunc gf args).run prog w=.ok (.enter gf args) w)(w:E)(j:N<=1000000)(a:Yy Fence.wide 6 prog gf lb (fun x:SX=>#[.agg (xZz x)]) KeepsWalks S (fun _=>True) N 0 w):
  Calls prog 208 #[.func (.func gf) #[] lb] w fun e w'=>∃xs v,S xs/\e=.returned v/\Zd w' w.1.size v xs/\B_ w w':=by
 have h:=ze (zfs gf lb b w j a);clear a b;go_in;go_wp2_with(go_at_call 245;refine h.mono ?_;rintro e w1 ⟨xs,v,c,rfl,f,d⟩;have i:=ze c;have HR:=ze f;have g:=ze d;clear c f d);go_ret;exact⟨xs,v,i,rfl,HR,g⟩
end
section
open Go.RowKit Go.Maps Go.Shelf Go.Sort
open Go.ChangeMaps (setBlock)
variable {xs:List SX} {g:Nat} {w:E}
theorem zmv{α:Type}[Inhabited α](enc:α->List Value)(k:Nat)(w:E)(a off n:Nat)(d:Array α)(os:Array Obj):zj (fun j=>j=a) w (sortWorldK enc k w a off n d os) where
 os:=rfl
 tape:=rfl
 output:=rfl
 size:=size_sortWorldK_c enc k w a off n d os
 block j hj hn:=by
  unfold sortWorldK putRowK;rw[heap_grow_old _ _ (by rw[size_putRow];exact hj)];unfold putRow mapBlock;show((Sort.ahead w n).heap.modify a _)[j]?=_;rw[Array.getElem?_modify,if_neg (fun e=>hn e.symm)];rfl
theorem zny:∀args w,(callFunc 210 args).run prog w=.ok (.enter 210 args) w:=enters_of func210 (by kernel_rfl) rfl
theorem XL(x:SX):(xD x).length=8:=rfl
theorem zoD(a off size:Nat)(w:E):CmpLays prog 210 #[] xD 8 (fun x y:SX=>zeM x.1 y.1) a off size w:=
 fun m os d f x y=>(zkQ x y _).mono fun e w' ⟨c,b⟩=>⟨c,b.lays⟩
theorem zmm(a cap:Nat)(xs:List SX)(w:E)(i:HoldsK xD 8 w a 0 xs.toArray)(c:a<w.1.size)(g:xs.length<4611686018427387904):
  Calls prog 209 #[.slice (J (U a 0)) xs.length cap,.func (.func 210) #[] #[]] w fun e w'=>e=.returned (.tuple #[])/\∃m:List SX,m.Perm xs/\HoldsK xD 8 w' a 0 m.toArray/\zj (fun j=>j=a) w w':=by
 have f:=AnyQ.slices_SortFunc Tryz.sortSeg 8 Tryz.isAgg148 Tryz.sizeOf148 xD XL Z6 (fun x y:SX=>zeM x.1 y.1) zlO 210 #[] a 0 cap xs.toArray w zny (zoD a 0 _ w) i c (by simpa using g);have b:Calls prog 209 #[.slice (J (U a 0)) xs.toArray.size cap,.func (.func 210) #[] #[]] w _:=f;rw[List.size_toArray]at b;refine b.mono ?_;rintro e w' ⟨rfl,d,n,os,⟨l,_,k⟩,q,rfl⟩;have h:d.size=xs.length:=by rw[l,List.size_toArray]
 refine⟨rfl,d.toList,?_,?_,zmv _ _ _ _ _ _ _ _⟩
 ·have o:d.extract 0 xs.length=d:=by rw[<-h];exact Array.extract_size
  have p:xs.toArray.extract 0 xs.length=xs.toArray:=by simp
  rw[o,p]at k;exact k
 ·have:=holdsK_sortWorldK_c xD 8 w a 0 xs.toArray d n os i c l;simpa using this
theorem zow(a:Option Addr)(cap:Nat)(w:E):
  Calls prog 209 #[.slice a 0 cap,.func (.func 210) #[] #[]] w fun e w'=>e=.returned (.tuple #[])/\w'=w:=
 AnyF.slices_SortFunc_none (P:=prog) Tryz.sortSeg a cap (.func (.func 210) #[] #[]) w
theorem zln{base cap:Nat}(h:Zd w base (.slice (J (U g 0)) xs.length cap) xs):HoldsK xD 8 w g 0 xs.toArray:=fun j d=>by
 have a:j<xs.length*8:=by simpa[size_flatK]using d
 rw[Nat.zero_add];refine⟨?_,World.ownsRow.frozenAt h j⟩;rw[World.ownsRow.cellAt h j a,get_flatK _ _ _ _ (by simpa using a)];have c:j/8<xs.length:=by omega
 have:=qs XL xs (j/8) xs[j/8] (j%8) (by simp[c]) (by omega);rw[show j/8*8+j%8=j by omega]at this;rw[this,getElem!_pos xs.toArray (j/8) (by simpa using c)];have b:j%8<(xD xs[j/8]).length:=by rw[XL];omega
 simp only[id,List.getElem_toArray];rw[getElem!_pos (xD xs[j/8]) (j%8) b,List.getElem?_eq_getElem b]
theorem zll(h:HoldsK xD 8 w g 0 xs.toArray){j:Nat}{x:SX}(f:xs[j]?=J x):XAt w g j x:=by
 obtain⟨d,ex⟩:=List.getElem?_eq_some_iff.1 f;have key:∀(i:Nat) (v:Value),i<8->(xD x)[i]?=J v->w.cell? (U g (j*8+i))=J v:=fun i v k hv=>by
  have a:j*8+i<xs.length*8:=by omega
  obtain⟨b,-⟩:=h (j*8+i) (by simpa[size_flatK]using a);rw[Nat.zero_add]at b;rw[b,get_flatK _ _ _ _ (by simpa using a)];rw[show(j*8+i)/8=j by omega,show(j*8+i)%8=i by omega,getElem!_pos xs.toArray j (by simpa using d)];simp only[id,List.getElem_toArray,ex];obtain⟨e,c⟩:=List.getElem?_eq_some_iff.1 hv;rw[getElem!_pos (xD x) i e,c]
 exact⟨key 0 _ (by omega) rfl,key 1 _ (by omega) rfl,key 2 _ (by omega) rfl,key 3 _ (by omega) rfl,key 4 _ (by omega) rfl,key 5 _ (by omega) rfl,key 6 _ (by omega) rfl,key 7 _ (by omega) rfl⟩
