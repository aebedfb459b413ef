import Derived.Maps.OwnIn
import Derived.Test.YtndhpgciopcncaaGreatDoorXPck1
import Derived.Shelf.SlSortCmp.NoneTotal
import Derived.Test.YtndhpgciopcncaaGreatDoorXTel0
import Derived.Test.YtndhpgciopcncaaGreatDoorXKpk0
open Option renaming some → J
open Nat renaming le_refl → E
open Go.RowKit.Below renaming refl → Y
open Go renaming World → Z
open Go.RowKit renaming Below → G
open Nat renaming lt_of_lt_of_le → L
set_option linter.unusedVariables false
set_option maxRecDepth 100000
set_option maxHeartbeats 4000000
open Go.Proofs.Tryz
namespace Go.Proofs.YtndhpgciopcncaaGreatDoor
open Go.RowKit Go.Maps Go.Shelf
variable {n:Nat} {W:Z}
attribute [local go_sem] Oper.semAt_some
theorem zkS:(prog.info? 177).map (fun i=>(i.zero,i.size,i.bytes))=J (J (.agg #[.nilIface,I 0,I 0,I 0]),4,40):=by kernel_rfl
theorem znj:∃i:TypeInfo,prog.info? 177=J i/\i.zero=J (.agg #[.nilIface,I 0,I 0,I 0])/\i.size=4/\i.bytes=40:=by
 have h:=zkS;cases a:prog.info? 177 with
 |none=>simp[a]at h
 |some i=>
  simp only[a,Option.map_some,Option.some.injEq,Prod.mk.injEq]at h;exact⟨i,rfl,h.1,h.2.1,h.2.2⟩
def apI(w:Z)(a:List Tsk)(W:Z):Prop:=∃v,W.1[w.1.size]?=J (.cells #[v] 186 (0,0))/\W.ownsRow w.1.size 177 4 v a.length (a.flatMap VH)/\B_ w W
theorem apI.later{w:Z}{a:List Tsk}{W':Z}(h:apI w a W)(b:B_ W W'):apI w a W':=by
 obtain⟨v,c,g,d⟩:=h;exact⟨v,(b.block _ (zd c)).trans c,zi g (zj.of_below (f:=fun _=>False) b) (fun _ _ e=>e),d.trans (b.mono d.size)⟩
theorem zfJ{c:Z}{base:Nat}{e:TypeId}{size:Nat}{v:Value}{xs:List Value}(i:W.ownsRow base e size v n xs)(d:W.grownBy c v.ownBlock)(B:Nat):KeepsFrom B W c/\KeepsWalks W c:=by
 have key:∀(k:Nat) (o:Obj),W.1[k]?=J o->o.isCells=false->c.1[k]?=J o:=fun k o a b=>(d.block k (zd a) (fun e=>by
  rcases i.2 with⟨rfl,_⟩|⟨g,cap,h,rfl,_,f,_⟩
  ·simp[Value.ownBlock]at e
  ·have:k=g:=(by simpa[Value.ownBlock]using e);subst this;rw[f]at a;cases a;cases b)).trans a
 exact⟨⟨d.size,fun k o _ a b=>key k o a b⟩,⟨d.size,fun k o a b=>key k o a (Obj.not_cells_of_walk b)⟩⟩
theorem zgA{F:Fence}{ops:Array Oper}{rest:List Oper}{o:Oper}{a:Act}{Q:Exit->Act->Z->Prop}(p:o.guard=none)(s x:Operand)(B:o.op=.call {callee:=.builtin .append,args:=#[s,x],argTypes:=#[186,186]})(base:Nat)(v:Value)(l:List Tsk)(f:Tsk)(C:a.eval s=v)(i:W.ownsRow base 177 4 v l.length (l.flatMap VH))(j:Nat)(D:a.eval x=.slice (J (U j 0)) 1 1)(k:W.1[j]?=J (.cells (tZz f) 177 (0,0)))(K:l.length<=1000000)(c:base<=W.1.size)(h:∀g cap w',w'.ownsRow base 177 4 (.slice (J (U g 0)) (l.length+1) cap) (l++[f]).length ((l++[f]).flatMap VH)->W.grownBy w' v.ownBlock->g<w'.1.size->wpListIn F n prog ops Q rest (a.put o.dst (.slice (J (U g 0)) (l.length+1) cap)) w'):wpListIn F n prog ops Q (o::rest) a W:=by
 obtain⟨i0,A,q,r,t⟩:=znj;refine wpListIn_append_own_at W p s x 186 B base 177 i0 (.agg #[.nilIface,I 0,I 0,I 0]) 4 40 underlying186 A q r t rfl (by decide) v l.length _ C i (U j 0) 1 1 (VH f) D rfl (World.news_of_block (cs:=(VH f).toArray) k) (zfm f) (by simp only[maxLen];omega) (by omega) c ?_;intro M H b m u y;obtain⟨z,d,rfl,w,e⟩:=b.form (by omega);exact h z d H (YL b) m e
theorem zhC(gf:Nat)(lb:Array Value)(eg:∀args w,(callFunc gf args).run prog w=.ok (.enter gf args) w){N:Nat}{S:List Tsk->Prop}(w:Z)(hN:N<=1000000)(q:Yy Fence.wide 6 prog gf lb (fun x:Tsk=>#[.agg (tZz x)]) KeepsWalks S (fun _=>True) N 0 w):
  Calls prog 228 #[.slice none 0 0,.func (.func gf) #[] lb] w fun e w'=>∃xs v,S xs/\e=.returned v/\w'.ownsRow w.1.size 177 4 v xs.length (xs.flatMap VH)/\G w.1.size w w':=by
 have P:=ze q;have a1:=ze eg;have b1:=zo w zmG;have bz:=zE w zmG;have X:G w.1.size w (w.alloc zmG):=(Y _ _).alloc (E _) _;clear q eg;refine(callsIn_wide (n:=7)).1 ?_;refine callsIn_of_wp_marks func228 rfl trivial ?_ rfl;simp only[ntmps228,sZz,Nat.reduceAdd,Nat.reduceSub];have B1:=ze b1;have t:=ze X;have BZ:=ze bz;clear b1 X bz;gi_wp2;obtain⟨W0,V⟩:∃W0,(w.alloc zmG)=W0:=⟨_,rfl⟩;rw[V]at B1 t BZ ⊢;clear V;have hz:W0.1.size=w.1.size+1:=ud BZ;refine yk (F:=Fence.wide) (n:=7) rfl (by omega) (gf:=gf) (lb:=lb) rfl trivial (ud a1) (ud P) (by omega) (fun h k=>h.trans k) (fun W o o' h hc hw=>KeepsWalks.putObj _ h hw) (ud t) (fun _=>rfl)
  (apI w) (fun _ _ _=>False)
  (fun s A B row hs y z=>by
   obtain⟨v,R,h2,T⟩:=hs;exact⟨v,zH R y (fun r e=>(z r e).2),ZP h2 y (fun r e=>(z r e).2),T.grown y T.size (fun k e=>by have:=(z k e).1;omega)⟩)
  (fun _ _ _ _ _ hs _ _=>hs)
  ⟨_,ud B1,⟨rfl,.inl ⟨rfl,rfl⟩⟩,ud t⟩
  (fun x a' W=>∃C,w.1.size+1<=C/\W.1[C]?=J (.cells (tZz x) 177 (0,0))/\a'={tmps:=#[.slice none 0 0,.func (.func gf) #[] lb,(O w.1.size),undef,.slice none 0 0,(O C),.func (.func gf) #[] lb,.agg (tZz x),undef,undef,undef,undef,undef],defers:=[]})
  (fun x a' s A B row hs y z=>by
   obtain⟨C,R,h2,T⟩:=hs;exact⟨C,R,zH h2 y (fun r e=>(z r e).2),T⟩) ?assign ?body ?done ?stop
 case assign=>
  rintro l d x W K hI H;have HK:=ze H;have HI:=ze hI;clear H hI;gi_wp2;have g:=(Y W.1.size W).alloc (E _) (.cells (tZz x) 177);have ad:w.1.size<W.1.size:=by obtain⟨v,R,h2,T⟩:=ud HI;exact zd R
  exact ud HK _ _ (zu g) (KeepsWalks.alloc _ _) ((ud HI).later g) ⟨W.1.size,by omega,zo _ _,rfl⟩
 case body=>
  rintro l d x a' W hl ⟨r,z⟩ ⟨v,i1,i2,i3⟩ ⟨C,ab,hx,rfl⟩ ac;obtain⟨va,vc,rfl⟩:=zq i2;have a7:=zd i1;have ae:=zd hx;obtain⟨c1,-⟩:=zc i1;obtain⟨x0,x1,x2,x3,-⟩:=zc hx;have M:=ze i1;have a:=ze i2;have u:=ze i3;have HX:=ze hx;clear i1 i2 i3 hx z;gi_wp2_with (first
   |(gi_at_builtin;refine zgA rfl _ _ rfl w.1.size _ d x rfl ((ud a).alloc _) W.1.size rfl (zo _ _) (by omega) (by rw[zE];omega) ?_;intro g' a8 w3 b j a9
     have a0:=zfJ ((ud a).alloc (.cells (tZz x) 177)) j W0.1.size
     have Q:w3.1[w.1.size]?=J (.cells #[.slice va d.length vc] 186 (0,0)):=(j.block w.1.size (by rw[zE];omega) (fun e=>zv (ud M) (ud a) (by decide) w.1.size e.symm rfl)).trans ((Below.heap_alloc _ _ _ a7).trans (ud M))
     obtain⟨d1,-⟩:=zc Q
     have f1:w3.frozen? (U w.1.size 0)=false:=zI Q 0
     have aa:=zd Q
     have a4:=ze b
     have a2:=ze j
     have a3:=ze a0
     have I:=ze Q
     clear b j a0 Q
     go_frame)
   |gi_in)
  have hk:=ud a3;have y:(W.alloc (.cells (tZz x) 177)).grownBy w3 (Value.slice va d.length vc).ownBlock:=ud a2;have m:=ud a4;have hb:=ud u;have g:=(Y W.1.size W).alloc (E _) (.cells (tZz x) 177);have a5:G w.1.size w w3:=(hb.alloc hb.size _).grown y (by have:=hb.size;rw[zE];omega) (fun k e=>((ud a).lt k e).1);refine⟨((zu g).trans hk.1).trans ((KeepsOthers.setCell w3 (U w.1.size 0) _).from _),((KeepsWalks.alloc _ _).trans hk.2).trans (KeepsWalks.setCell _ _ _),?_⟩;exact⟨_,xq (i:=0) (ud I) _,zi m (zk (f:=fun k=>k=w.1.size) (zj.refl _ _) rfl) (fun k a6 e=>zv (ud I) m (by decide) k a6 e),a5.setCell (p:=(U w.1.size 0)) (E _) _⟩
 case done=>
  rintro D xs W hD hS ⟨v,i1,i2,i3⟩ H;obtain⟨va,vc,rfl⟩:=zq i2;obtain⟨c2,-⟩:=zc i1;have a:=ze i2;have u:=ze i3;clear i1 i2 i3;gi_wp2;refine⟨by simp,.inl ⟨_,_,rfl,run_takeDeferred H,?_⟩⟩;exact⟨_,results_tmp rfl _ _ _,xs,_,hS,rfl,ZP (ud a) (grownBy_putObj' _ _ _) (fun r e=>by cases e;exact⟨_,H,rfl⟩),xG (ud u) (E _) (by omega) H _⟩
 case stop=>
  rintro D c d W _ _ h _;exact h.elim
end Go.Proofs.YtndhpgciopcncaaGreatDoor
namespace Go.Proofs
open Go.Shelf
def Tryz.sortTsk_ren:Go.Shelf.Ren:=⟨fun|6=>165|15=>230|14=>229|28=>261|29=>262|20=>253|21=>254|22=>255|23=>256|24=>257|25=>258|26=>259|27=>260|46=>281|47=>282|48=>283|49=>284|50=>285|57=>302|n=>n,fun|22=>186|24=>177|25=>182|3=>3|39=>299|0=>0|53=>332|55=>334|4=>4|46=>326|45=>325|50=>121|5=>5|9=>9|66=>352|70=>356|76=>383|77=>384|n=>n,fun|n=>n⟩
theorem Tryz.sortTsk:Go.Proofs.SlLaysF0.n6 prog Tryz.sortTsk_ren:=by
 constructor
 case f6=>exact⟨f165.name,by decide,func165.trans (congrArg J (by kernel_rfl))⟩
 case f14=>exact⟨f229.name,by decide,func229.trans (congrArg J (by kernel_rfl))⟩
 case f15=>exact func230.trans (congrArg J (by kernel_rfl))
 case f20=>exact⟨f253.name,by decide,func253.trans (congrArg J (by kernel_rfl))⟩
 case f21=>exact⟨f254.name,by decide,func254.trans (congrArg J (by kernel_rfl))⟩
 case f22=>exact⟨f255.name,by decide,func255.trans (congrArg J (by kernel_rfl))⟩
 case f23=>exact⟨f256.name,by decide,func256.trans (congrArg J (by kernel_rfl))⟩
 case f24=>exact⟨f257.name,by decide,func257.trans (congrArg J (by kernel_rfl))⟩
 case f25=>exact⟨f258.name,by decide,func258.trans (congrArg J (by kernel_rfl))⟩
 case f26=>exact⟨f259.name,by decide,func259.trans (congrArg J (by kernel_rfl))⟩
 case f27=>exact⟨f260.name,by decide,func260.trans (congrArg J (by kernel_rfl))⟩
 case f28=>exact func261.trans (congrArg J (by kernel_rfl))
 case f29=>exact func262.trans (congrArg J (by kernel_rfl))
 case f46=>exact⟨f281.name,by decide,func281.trans (congrArg J (by kernel_rfl))⟩
 case f47=>exact func282.trans (congrArg J (by kernel_rfl))
 case f48=>exact func283.trans (congrArg J (by kernel_rfl))
 case f49=>exact⟨f284.name,by decide,func284.trans (congrArg J (by kernel_rfl))⟩
 case f50=>exact⟨f285.name,by decide,func285.trans (congrArg J (by kernel_rfl))⟩
 case f57=>exact⟨f302.name,by decide,func302.trans (congrArg J (by kernel_rfl))⟩
 all_goals(intros;kernel_rfl)
end Go.Proofs
namespace Go.Proofs.YtndhpgciopcncaaGreatDoor
section
open Go.RowKit Go.Maps Go.Shelf Go.Sort
theorem zoC{α:Type}[Inhabited α](enc:α->List Value)(k:Nat)(w:Z)(a off n:Nat)(d:Array α)(os:Array Obj):zj (fun j=>j=a) w (sortWorldK enc k w a off n d os) where
 os:=rfl
 tape:=rfl
 output:=rfl
 size:=size_sortWorldK_c enc k w a off n d os
 block j hj hn:=by
  unfold sortWorldK putRowK;rw[heap_grow_old _ _ (by rw[size_putRow];exact hj)];unfold putRow mapBlock;show((Sort.ahead w n).heap.modify a _)[j]?=_;rw[Array.getElem?_modify,if_neg (fun e=>hn e.symm)];rfl
theorem zlf:∀args w,(callFunc 106 args).run prog w=.ok (.enter 106 args) w:=enters_of func106 (by kernel_rfl) rfl
theorem zkx(a off size:Nat)(w:Z):CmpLays prog 106 #[] VH 4 yh a off size w:=
 fun m os d f x y=>(Dr.byKey_any x y _).mono fun e w' ⟨c,b⟩=>⟨c,b.lays⟩
theorem zmn(c cap:Nat)(xs:List Tsk)(w:Z)(s:HoldsK VH 4 w c 0 xs.toArray)(g:c<w.1.size)(q:xs.length<4611686018427387904):
  Calls prog 165 #[.slice (J (U c 0)) xs.length cap,.func (.func 106) #[] #[]] w fun e w'=>e=.returned (.tuple #[])/\∃r:List Tsk,r.Perm xs/\r.Pairwise (fun a b=>¬yh b a<0)/\HoldsK VH 4 w' c 0 r.toArray/\zj (fun j=>j=c) w w':=by
 have k:=AnyQ.slices_SortFunc Tryz.sortTsk 4 Tryz.isAgg177 Tryz.sizeOf177 VH zaO zfm yh zhJ 106 #[] c 0 cap xs.toArray w zlf (zkx c 0 _ w) s g (by simpa using q);have d:Calls prog 165 #[.slice (J (U c 0)) xs.toArray.size cap,.func (.func 106) #[] #[]] w _:=k;rw[List.size_toArray]at d;refine d.mono ?_;rintro e w' ⟨rfl,f,n,os,⟨v,_,u⟩,A,rfl⟩;have l:f.size=xs.length:=by rw[v,List.size_toArray]
 refine⟨rfl,f.toList,?_,?_,?_,zoC _ _ _ _ _ _ _ _⟩
 ·have x:f.extract 0 xs.length=f:=by rw[<-l];exact Array.extract_size
  have y:xs.toArray.extract 0 xs.length=xs.toArray:=by simp
  rw[x,y]at u;exact u
 ·rw[List.pairwise_iff_getElem];intro i j z t o;have h:=A i j (Nat.zero_le _) o (by rw[<-l];simpa using t);have m:i<f.size:=by simpa using z
  have p:j<f.size:=by simpa using t
  rw[getElem!_pos f i m,getElem!_pos f j p]at h;unfold ltOf at h;simpa using h
 ·have:=holdsK_sortWorldK_c VH 4 w c 0 xs.toArray f n os s g v;simpa using this
theorem zjU(a:Option Addr)(cap:Nat)(w:Z):
  Calls prog 165 #[.slice a 0 cap,.func (.func 106) #[] #[]] w fun e w'=>e=.returned (.tuple #[])/\w'=w:=
 AnyF.slices_SortFunc_none (P:=prog) Tryz.sortTsk a cap (.func (.func 106) #[] #[]) w
end
section
open Go.ChangeMaps (setBlock)
open Go.RowKit Go.Maps Go.Shelf
variable {c:Cf} {ep num:Int} {TL:List (Jk×Tsk)} {QL:List (Tok×Lse)} {ts:List Tsk} {b qb tb:Nat} {tv:Value} {w:Z}
theorem zkq(h:zN w b c tv ep num tb qb TL QL)(x:Tsk)(hu:∀p∈QL,p.2.job≠x.key):
  Calls prog 104 #[(O b),.agg (tZz x)] w (Rz w (.agg #[I x.kd,I x.s.t,I x.s.se,I x.s.we,I x.si,I x.tc,I x.rest,I 0,I 0,I (-1),I 0])):=by
 have aH:=h.lt;have ar:=h.cell10;obtain⟨y0,y1,a9,yz⟩:=box2 w (.cells (tZz x) 177) Zj;have a8:=ze (keyOf_any x ((w.alloc (.cells (tZz x) 177)).alloc Zj));have H:=ze h;have Y0:=ze y0;have Y1:=ze y1;have a0:=ze a9;have YZ:=ze yz;clear h y0 y1 a9 yz;go_in;go_wp2_with fail;refine a8.mono ?_;rintro e a ⟨rfl,u⟩;have aO:=u.size;have yz:=ud YZ;have t0:=(u.block _ (by omega)).trans Y0;have r0:=(u.block _ (by omega)).trans Y1;have a3:=a0.trans (u.mono a0.size);have N:=H.later a3;have au:=N.cell10;have aG:=N.lt;have aN:=zd t0;have aA:=zd r0;obtain⟨-,s1,s2,s3,-⟩:=zc t0;have R0:=ze r0;have aj:=ze a3;have al:=ze N;clear u yz t0 r0 a3 N ar Y0 Y1 a0 YZ a8
 --LOOP
 obtain⟨es,clock,S,T⟩:=al.leases;obtain⟨v0,v1,d,vz⟩:=box2 a (.cells #[I x.kd,I x.s.t,I x.s.se,I x.s.we] 162) (.cells #[I x.kd,I x.s.t,I x.s.se,I x.s.we,I x.si,I x.tc,I x.rest,I 0,I 0,I (-1),I 0] 51);have g:=(d.block _ (zd S)).trans S;have V:=run_range_map (P:=prog) ((a.alloc (.cells #[I x.kd,I x.s.t,I x.s.se,I x.s.we] 162)).alloc (.cells #[I x.kd,I x.s.t,I x.s.se,I x.s.we,I x.si,I x.tc,I x.rest,I 0,I 0,I (-1),I 0] 51)) 168 _ _ qb es clock underlying168 g;have a7:=ze (And.intro v0 (And.intro v1 (And.intro d (And.intro vz (And.intro g T)))));have aL:=zd S;clear S T v0 v1 d vz g;go_wp2_with fail;obtain⟨v0,v1,d,vz,g,T⟩:=ud a7;generalize((a.alloc (.cells #[I x.kd,I x.s.t,I x.s.se,I x.s.we] 162)).alloc (.cells #[I x.kd,I x.s.t,I x.s.se,I x.s.we,I x.si,I x.tc,I x.rest,I 0,I 0,I (-1),I 0] 51))=M at*;have aB:=(d.block _ aA).trans R0;have aD:=d.size;clear V au s1 s2 s3 a7;have HM:=ze T;have aF:=ze g;have aq:=ze v0;have ak:=ze d;have a1:=ze vz;have ao:=ze aB;go_loopw [7,8] (fun _ _ wr=>∃(seen:Array Nat) (c0:Nat),wr.1[(a.1.size+1+1)]?=J (.mapIter (J qb) clock seen c0)/\clock<=c0/\wr.1[qb]?=J (.map es clock)/\wr.1[a.1.size+1]?=J (Yh x (⟨0,0⟩,-1,0))/\zj (fun k=>k=a.1.size+1) M wr)
  (fun _ _ wr=>Zc es (a.1.size+1+1) wr)
 case atStart=>
  have a2:B_ M (M.alloc (.mapIter (J qb) clock #[] clock)):=(Y _ _).alloc (E _) _;refine⟨#[],clock,by have:=zo M (.mapIter (J qb) clock #[] clock);rw[show M.1.size=(a.1.size+1+1)from ud a1]at this;exact this,E _,(a2.block _ (zd g)).trans g,(a2.block _ (zd v1)).trans v1,zj.of_below a2⟩
 case round=>
  obtain⟨seen,c0,hr,a4,U,R,hK⟩:=hrel;have aM:=zd hr;have ai:M.1.size=(a.1.size+1+1):=ud a1;rcases run_next_at (P:=prog) wr 0 (a.1.size+1+1) qb clock c0 seen es clock hr U (ud HM).born a4 with⟨hz,f⟩|⟨e,a5,w1,K,f⟩
  ·have D:=hK.heap (k:=w.1.size+1) ao (by omega);have C:wr.1[a.1.size+1]?=J (.cells #[I x.kd,I x.s.t,I x.s.se,I x.s.we,I x.si,I x.tc,I x.rest,I 0,I 0,I (-1),I 0] 51 (0,0)):=R;obtain⟨o0,o1,o2,o3,o4,o5,o6,o7,o8,o9,aT,-⟩:=zc C;obtain⟨z0,z1,z2,z3,z4,z5,z6,z7,z8,z9,aV,-⟩:=zc D;have zf:=fun j=>zI D j;have aK:=zd D;have aJ:=zd C;have aE:¬a.1.size+1=w.1.size+1:=(by omega);have an:=ze hK;have ap:=ze D;clear ai;clear hz R C hK D hr U a4;go_wp2_with fail;have hf:=XG ap (I x.kd) (I x.s.t) (I x.s.se) (I x.s.we) (I x.si) (I x.tc) (I x.rest) (I 0) (I 0) (I (-1)) (I 0);have Q:=ud an;have aw:G w.1.size M wr:=⟨Q.os,Q.tape,Q.output,Q.size,fun j hj=>Q.block j (by have:=ud a1;omega) (by omega)⟩;have hbb:=aj.trans ((ak.mono (by omega)).trans aw);refine bodyPost_ret (v:=.agg #[I x.kd,I x.s.t,I x.s.se,I x.s.we,I x.si,I x.tc,I x.rest,I 0,I 0,I (-1),I 0]) (results_cell_row results104 _ _ (w.1.size+1) _ _ _ _ rfl hf underlying51 rfl (by kernel_rfl)) rfl ?_;exact⟨rfl,hbb.trans (zhF (Nat.le_succ _) (I x.kd) (I x.s.t) (I x.s.se) (I x.s.we) (I x.si) (I x.tc) (I x.rest) (I 0) (I 0) (I (-1)) (I 0))⟩
  ·have am:=ze a5;obtain⟨A,ay⟩:=xH.1 a5;have af:w1.1[(a.1.size+1+1)]?=J (.mapIter (J qb) clock seen c0):=(by rcases K with rfl|rfl<;>exact hr);have ae:w1.1[qb]?=J (.map es clock):=(by rcases K with rfl|rfl<;>exact U);have ad:w1.1[a.1.size+1]?=J (Yh x (⟨0,0⟩,-1,0)):=(by rcases K with rfl|rfl<;>exact R);have ax:qb≠(a.1.size+1+1):=(by omega);obtain⟨X,hX⟩:∃X,setBlock w1 (a.1.size+1+1) (.mapIter (J qb) clock (seen.push e.born) clock)=X:=⟨_,rfl⟩;have o:X.1[(a.1.size+1+1)]?=J (.mapIter (J qb) clock (seen.push e.born) clock):=(by rw[<-hX];exact xL (zd af) _);have m:X.1[qb]?=J (.map es clock):=(by rw[<-hX,xr ax];exact ae);have n:X.1[a.1.size+1]?=J (Yh x (⟨0,0⟩,-1,0)):=(by rw[<-hX,xr (by omega)];exact ad);have ac:zj (fun k=>k=(a.1.size+1+1)) wr X:=by
    rw[<-hX];rcases K with rfl|rfl
    ·exact xY _
    ·exact(zj.refl (fun k=>k=(a.1.size+1+1)) wr).drew.trans (xY _) (fun _ _ h=>h)
   have r:zj (fun k=>k=a.1.size+1) M X:=hK.trans ac (fun i hi e=>by omega);rw[hX]at f;have aa:=run_entry_at (P:=prog) X (a.1.size+1+1) qb clock seen es clock e o m A HM.once;obtain⟨z,Q,hv⟩:=Xc yu HM A;obtain⟨⟨t',y⟩,ah⟩:∃y,kH xJ QL e=y:=⟨_,rfl⟩;rw[ah]at z Q hv;have l:e.key=yy t':=Q;have F:e.val=vO y:=hv;have aC:=ze l;unfold yy at l;unfold vO at F;rw[l,F]at f aa;have av:=zd o;have B:=r.heap aq (by omega);obtain⟨aP,aQ,aR,aS,-⟩:=zc B;have aI:=zd B;have az:=zd n;have ab:=fun W=>zhT ⟨y.kd,y.s⟩ x.key W;have a6:X.1[a.1.size+1]?=J (.cells #[I x.kd,I x.s.t,I x.s.se,I x.s.we,I x.si,I x.tc,I x.rest,I 0,I 0,I (-1),I 0] 51 (0,0)):=n;obtain⟨-,-,-,-,-,-,-,q7,q8,q9,aU,-⟩:=zc a6;have qf:=fun j=>zI a6 j;have HP:=ze (And.intro o (And.intro m (And.intro n (And.intro r (And.intro A (And.intro z hr))))));have hV:B_ X ((X.alloc (.cells #[I t'.ep,I t'.num] 49)).alloc (.cells (lZz y) 164)):=((Y _ _).alloc (E _) _).alloc ((Y _ _).alloc (E _) _).size _;have HV:=ze hV;have q:decide ((⟨y.kd,y.s⟩:Jk)=x.key)=true\/decide ((⟨y.kd,y.s⟩:Jk)=x.key)=false:=(by cases decide ((⟨y.kd,y.s⟩:Jk)=x.key)<;>simp);clear ai;clear af ae ad hX K Q hv ah a5 A ay l F U o m n r ac hK R hr a4 a6 B hV;rcases q with q|q
   ·exact absurd (of_decide_eq_true q) (hu (t',y) z)
   ·simp only[q]at ab;dsimp only[Tsk.key]at ab;clear q z;go_wp2_with fail;obtain⟨o,m,n,r,A,z,hr⟩:=ud HP;have hV:=ud HV;have ag:=(hV.block _ av).trans o;refine⟨⟨_,_,ag,E _,(hV.block _ (zd m)).trans m,(hV.block _ az).trans n,kC r hV⟩,?_⟩
    ·rw[xw ag,xw hr];exact qT am
def jG(QL:List (Tok×Lse))(x:Tsk):Tok×Int×Int:=match QL.find? (fun p=>decide (p.2.job=x.key))with|some p=>(p.1,p.2.slot,p.2.til)|none=>(⟨0,0⟩,-1,0)
def XM(QL:List (Tok×Lse))(x:Tsk):List Value:=[I x.kd,I x.s.t,I x.s.se,I x.s.we,I x.si,I x.tc,I x.rest,I (jG QL x).1.ep,I (jG QL x).1.num,I (jG QL x).2.1,I (jG QL x).2.2]
theorem zkp(QL:List (Tok×Lse))(x:Tsk):∀v∈XM QL x,v.oneCell'=true:=fun v hv=>by
 simp only[XM,List.mem_cons,List.not_mem_nil,or_false]at hv;rcases hv with rfl|rfl|rfl|rfl|rfl|rfl|rfl|rfl|rfl|rfl|rfl<;>rfl
theorem yM{α β:Type}{f:α->β}:∀{l:List α},(l.map f).Nodup->∀x∈l,∀y∈l,f x=f y->x=y
 |[],_,x,d,_,_,_=>by cases d
 |a::l,h,x,d,y,g,e=>by
  rw[List.map_cons,List.nodup_cons]at h;rcases List.mem_cons.1 d with rfl|c
  ·rcases List.mem_cons.1 g with rfl|b
   ·rfl
   ·exact absurd (List.mem_map.2 ⟨y,b,e.symm⟩) h.1
  ·rcases List.mem_cons.1 g with rfl|b
   ·exact absurd (List.mem_map.2 ⟨x,c,e⟩) h.1
   ·exact yM h.2 x c y b e
theorem zmx(h:zN w b c tv ep num tb qb TL QL)(k:(QL.map (fun q=>q.2.job)).Nodup)(x:Tsk):
  Calls prog 104 #[(O b),.agg (tZz x)] w (Rz w (.agg (XM QL x).toArray)):=by
 unfold XM jG;cases d:QL.find? (fun p=>decide (p.2.job=x.key))with
 |none=>
  refine(zkq h x (fun p j e=>?_)).mono fun e w' a=>a
  have:=List.find?_eq_none.1 d p j
  simp[e]at this
 |some p=>
  have i:=List.mem_of_find?_eq_some d
  have g:p.2.job=x.key:=by have:=List.find?_some d;simpa using this
  exact(zfi h x p.1 p.2 i g (fun q f e=>yM k q f p i (e.trans g.symm))).mono fun e w' a=>a
theorem zko(c:∀p∈TL,p.1=p.2.key)(hn:(zx TL).Nodup):∀a∈TL.map (fun p=>p.2),∀b∈TL.map (fun p=>p.2),a.key=b.key->a=b:=fun a g b h e=>by
 obtain⟨p,d,rfl⟩:=List.mem_map.1 g;obtain⟨q,f,rfl⟩:=List.mem_map.1 h;rw[yM hn p d q f (by rw[c p d,c q f,e])]
structure Xa(TL:List (Jk×Tsk))(ts:List Tsk):Prop where
 perm:ts.Perm (TL.map (fun p=>p.2))
 sorted:ts.Pairwise (fun a b=>¬yh b a<0)
theorem Xa.one{c:List Tsk}(h:Xa TL ts)(d:Xa TL c)(i:∀p∈TL,p.1=p.2.key)(hn:(zx TL).Nodup):ts=c:=
 zgW (h.perm.trans d.perm.symm) h.sorted d.sorted (fun a f b g e=>zko i hn a (h.perm.mem_iff.1 f) b (h.perm.mem_iff.1 g) e)
theorem Xa.len(h:Xa TL ts):ts.length=TL.length:=by rw[h.perm.length_eq,List.length_map]
end
section
open Go.RowKit Go.Maps Go.Shelf Go.Sort
variable {TL:List (Jk×Tsk)} {b:Nat} {w:Z}
theorem zlm{base g cap:Nat}{e:TypeId}{xs:List Tsk}(h:w.ownsRow base e 4 (.slice (J (U g 0)) xs.length cap) xs.length (xs.flatMap VH)):HoldsK VH 4 w g 0 xs.toArray:=fun j d=>by
 have a:j<xs.length*4:=by simpa[size_flatK]using d
 rw[Nat.zero_add];refine⟨?_,h.frozenAt j⟩;rw[h.cellAt j a,get_flatK _ _ _ _ (by simpa using a)];have c:j/4<xs.length:=by omega
 have:=qs zaO xs (j/4) xs[j/4] (j%4) (by simp[c]) (by omega);rw[show j/4*4+j%4=j by omega]at this;rw[this,getElem!_pos xs.toArray (j/4) (by simpa using c)];have b:j%4<(VH xs[j/4]).length:=by rw[zaO];omega
 simp only[id,List.getElem_toArray];rw[getElem!_pos (VH xs[j/4]) (j%4) b,List.getElem?_eq_getElem b]
theorem zcX(gf:Nat)(lb:Array Value)(i:∀args w,(callFunc gf args).run prog w=.ok (.enter gf args) w){N:Nat}{S:List Tsk->Prop}(w:Z)(j:N<=1000000)(c:Yy Fence.wide 6 prog gf lb (fun x:Tsk=>#[.agg (tZz x)]) KeepsWalks S (fun _=>True) N 0 w):
  Calls prog 164 #[.func (.func gf) #[] lb] w fun e w'=>∃xs a cap,S xs/\e=.returned (.slice a xs.length cap)/\w'.ownsRow w.1.size 177 4 (.slice a xs.length cap) xs.length (xs.flatMap VH)/\B_ w w':=by
 have d:=ze (zhC gf lb i w j c);clear c;go_in;go_wp2_with fail;refine d.mono ?_;rintro e w' ⟨xs,v,k,rfl,b,f⟩;obtain⟨a,cap,rfl⟩:=zq b;have h:=ze b;have g:=ze f;clear b f d;go_wp2_with fail;go_ret;exact⟨xs,a,cap,k,rfl,h,g⟩
theorem zjR{Bm:Nat}(y:Bm<w.1.size)(D:w.cell? (U Bm 0)=J (.map (J b)))(c:xn qh w b TL)(f:TL.length<=1000000):
  Calls prog 105 #[.func (.func 158) #[] #[(O Bm)],.func (.func 106) #[] #[]] w fun e w'=>
   ∃ts a cap,Xa TL ts/\e=.returned (.slice a ts.length cap)/\(ts≠[]->∃g,a=J (U g 0)/\g<w'.1.size/\HoldsK VH 4 w' g 0 ts.toArray)/\B_ w w':=by
 have B:=ze (zcX _ _ zmN w f (znJ id id Bm b TL (fun _ _=>rfl) w y D c));clear D c;go_in;go_wp2_with fail;refine B.mono ?_;rintro e w1 ⟨xs,a,cap,⟨ps,F,H⟩,rfl,c,i⟩;have k:xs.Perm (TL.map (fun p=>p.2)):=by rw[H];exact F.map _
 clear B H F;have m:=ze k;have R:xs.length<=1000000:=by rw[k.length_eq,List.length_map];exact f
 clear k;by_cases N:xs.length=0
 ·have o:xs=[]:=List.length_eq_zero_iff.1 N;subst o;have t:=ze (zjU a cap w1);have u:=ze i;clear c i;simp only[List.length_nil];go_wp2_with fail;refine t.mono ?_;rintro e w2 ⟨rfl,rfl⟩;go_wp2_with fail;go_ret;exact⟨[],a,cap,⟨m,List.Pairwise.nil⟩,rfl,fun h=>absurd rfl h,u⟩
 ·obtain⟨g,C,hv,S,n⟩:=c.form (by omega);injection hv with z Q A;subst z A;have t:=ze (zmn g cap xs w1 (zlm c) n (by omega));have u:=ze i;clear c i;go_wp2_with fail;refine t.mono ?_;rintro e w2 ⟨rfl,I,l,s,q,d⟩;have K:=ze d;have M:=ze q;have v:=ze l;have x:=ze s;have r:xs.length=I.length:=l.length_eq.symm;rw[r];clear d q t l r s;go_wp2_with fail;go_ret;have d:=ud K;have i:=ud u;exact⟨I,J (U g 0),cap,⟨v.trans m,x.imp (fun h=>by omega)⟩,rfl,fun _=>⟨g,rfl,L n d.size,M⟩,i.trans ⟨d.os,d.tape,d.output,d.size,fun j P=>d.block j (L P i.size) (by omega)⟩⟩
theorem Tryz.infoJob:(prog.info? 51).map (fun i=>(i.zero,i.size,i.bytes))=J (J (.agg #[I 0,I 0,I 0,I 0,I 0,I 0,I 0,I 0,I 0,I 0,I 0]),11,88):=by kernel_rfl
theorem zlX{ops:Array Oper}{rest:List Oper}{o:Oper}{a:Act}{Q:Exit->Act->Z->Prop}(f:o.guard=none)(s y:Operand)(m:o.op=.call {callee:=.builtin .append,args:=#[s,y],argTypes:=#[55,55]})(base:Nat)(v:Value)(QL:List (Tok×Lse))(l:List Tsk)(x:Tsk)(n:Nat)(p:a.eval s=v)(c:w.ownsRow base 51 11 v n (l.flatMap (XM QL)))(d:Nat)(q:a.eval y=.slice (J (U d 0)) 1 1)(e:w.1[d]?=J (.cells #[I x.kd,I x.s.t,I x.s.se,I x.s.we,I x.si,I x.tc,I x.rest,I (jG QL x).1.ep,I (jG QL x).1.num,I (jG QL x).2.1,I (jG QL x).2.2] 51 (0,0)))(z:n<=1000000)(b:base<=w.1.size)(h:∀g cap w',w'.ownsRow base 51 11 (.slice (J (U g 0)) (n+1) cap) (n+1) ((l++[x]).flatMap (XM QL))->w.grownBy w' v.ownBlock->g<w'.1.size->wpList prog ops Q rest (a.put o.dst (.slice (J (U g 0)) (n+1) cap)) w'):wpList prog ops Q (o::rest) a w:=
 zO f s y 55 m base 51 _ 11 88 underlying55 Tryz.infoJob rfl (by decide) v n (l.flatMap (XM QL)) p c (U d 0) 1 1 (XM QL x) q rfl
  (World.news_of_block (cs:=(XM QL x).toArray) e) (zkp QL x) (by decide) (by simp only[maxLen];omega) (by omega) b
  fun g cap w' i r j u k=>h g cap w' (by rw[List.flatMap_append];simpa using i) j k
theorem zlC{c:Cf}{tv:Value}{ep num:Int}{tb qb:Nat}{QL:List (Tok×Lse)}(h:zN w b c tv ep num tb qb TL QL)(hu:(QL.map (fun q=>q.2.job)).Nodup)(z:TL.length<=1000000):
  Calls prog 50 #[(O b)] w fun e w'=>∃ts a cap,Xa TL ts/\e=.returned (.slice a ts.length cap)/\w'.ownsRow w.1.size 51 11 (.slice a ts.length cap) ts.length (ts.flatMap (XM QL))/\B_ w w':=by
 have a9:=h.lt;have c9:=h.cell9;have HV:=ze (zij tb w);have b0:=zo w (.cells #[.map (J tb)] 169);have D:B_ w (w.alloc (.cells #[.map (J tb)] 169)):=(Y _ _).alloc (E _) _;have HS:=ze (zjR (w:=w.alloc (.cells #[.map (J tb)] 169)) (Bm:=w.1.size) (b:=tb) (TL:=TL) (by rw[zE];omega) (by rw[xd b0];rfl) (h.later D).tg z);have H:=ze h;have N:=ze D;clear h b0 D;go_in;go_wp2_with fail;refine HV.mono ?_;rintro e w0 ⟨rfl,rfl⟩;go_wp2_with fail;refine HS.mono ?_;rintro e w1 ⟨ts,a,cap,hJ,rfl,B,R⟩;have r:=N.trans (R.mono N.size);clear c9 HV HS R;have HJ:=ze hJ;have HR:=ze B;have X:=ze r;clear hJ B r;go_wp2_with fail;have M:w.1.size<=w1.1.size:=X.size;have ad:ts.length<=1000000:=by rw[(ud HJ).len];exact z
 go_loopw [3,5,13] (fun o _ y wr=>∃(k:Nat),k<=ts.length/\y=I k/\wr.ownsRow w1.1.size 51 11 o k ((ts.take k).flatMap (XM QL))/\RowKit.Below w1.1.size w1 wr) (fun _ _ y _=>ts.length-(intOf y).toNat);case atStart=>exact⟨0,Nat.zero_le _,rfl,World.ownsRow_nil _ _ _ _,Y _ _⟩
 case round=>
  obtain⟨k,hk,rfl,C,r⟩:=hrel;obtain⟨az,cz,a5⟩:=zq C;subst a5;by_cases n:k<ts.length
  ·obtain⟨g,a3,T,hH⟩:=ud HR (fun e=>by rw[e]at n;simp at n);subst a3;obtain⟨x,hx⟩:=xC n;have a7:(k:Int)<ts.length:=(by omega);have m:∀j,j<4->wr.cell? (U g (k*4+j))=J (VH x)[j]!:=fun j hj=>by
    have h1:=(hH.cell (i:=k) (c:=j) (by simpa using n) hj).1;rw[Nat.zero_add]at h1;rw[r.cell (p:=(U g (k*4+j))) T,h1];obtain⟨V,K⟩:=List.getElem?_eq_some_iff.1 hx;rw[getElem!_pos ts.toArray k (by simpa using n)];simp only[List.getElem_toArray,K]
   have x0:Cz wr g (k*4) (jZz x):=m 0 (by omega);have x1:Cz wr g (k*4+1) (I x.si):=m 1 (by omega);have x2:Cz wr g (k*4+2) (I x.tc):=m 2 (by omega);have x3:Cz wr g (k*4+3) (I x.rest):=m 3 (by omega);have aa:=L T r.size;have F:RowKit.Below wr.1.size wr (wr.alloc (.cells (tZz x) 177)):=(Y _ _).alloc (E _) _;have S:RowKit.Below w.1.size w wr:=X.trans (r.mono M);have Q:=(H.later S).later F;have HT:=ze (zmx Q hu x);have W:=zo wr (.cells (tZz x) 177);obtain⟨e0,e1,e2,e3,-⟩:=zc W;have HZ:=ze C;have d:=ze r;have u:=ze F;have HX:=ze hx;clear C r F hx Q W hH m HR S;go_wp2_with fail;refine HT.mono ?_;rintro e w2 ⟨he,v⟩;subst he;unfold XM;have a0:=ze v;have P:=ze (zi (zi HZ (zj.of_below (f:=fun _=>False) u) (fun _ _ e=>e)) (zj.of_below (f:=fun _=>False) v) (fun _ _ e=>e));have ac:w1.1.size<=w2.1.size:=Nat.le_trans d.size (Nat.le_trans u.size v.size);clear v HT e0 e1 e2 e3 x0 x1 x2 x3;go_wp2_with(first|(at_builtin;refine zlX rfl _ _ rfl w1.1.size _ QL (ts.take k) x k rfl (P.alloc _) w2.1.size rfl (zo _ _) ?hll ?hbb ?_;(case hll=>omega);(case hbb=>(rw[zE];omega));intro g2 a6 w3 A l a8;have a2:=ze A;have a1:=ze l;clear A l)|fail);go_roundw;case rel=>
    obtain⟨V,K⟩:=List.getElem?_eq_some_iff.1 HX;refine⟨k+1,by omega,by go_num,?_,?_⟩
    ·rw[List.take_succ_eq_append_getElem V,K];exact a2
    ·have hg:(w2.alloc (.cells #[I x.kd,I x.s.t,I x.s.se,I x.s.we,I x.si,I x.tc,I x.rest,I (jG QL x).1.ep,I (jG QL x).1.num,I (jG QL x).2.1,I (jG QL x).2.2] 51)).grownBy w3 (Value.slice az k cz).ownBlock:=ud a1;have hbb:RowKit.Below w1.1.size w1 w2:=d.trans ((u.mono d.size).trans (a0.mono (Nat.le_trans d.size u.size)));exact(hbb.alloc hbb.size _).grown hg (by rw[zE];omega) (fun j e=>(P.lt j e).1)
   case measure=>simp[intOf];omega
  ·have a4:k=ts.length:=(by omega);subst a4;have ab:decide ((ts.length:Int)<ts.length)=false:=(by simp);have HZ:=ze C;have d:=ze r;clear C r HR;go_wp2_with fail;go_ret;have C:=ud HZ;rw[List.take_length]at C;exact⟨ts,az,cz,HJ,rfl,yw C M,X.trans (d.mono M)⟩
end
section
open Go.RowKit
theorem Tryz.infoRefP:(prog.info? 138).map (fun i=>(i.zero,i.size,i.bytes))=J (J (.pointer none),1,8):=by kernel_rfl
theorem heap_second(w:Z)(o a:Obj):((w.alloc o).alloc a).1[w.1.size+1]?=J a:=(box2 w o a).2.1
theorem Vn{w:Z}{po x d r p f:Nat}{c:Cf}{ct td:Value}{ep:Int}(s:w.1[po]?=J (zL x d c ct (.slice (J (U p 0)) 1 f) td ep))(K:w.cell? (U p 0)=J (O r))(F:p<w.1.size):
  Calls prog 143 #[(O po)] w fun e w'=>∃g cap,e=.returned (.slice (J (U g 0)) 1 cap)/\w'.ownsRow 0 138 1 (.slice (J (U g 0)) 1 cap) 1 [(O r)]/\B_ w w':=by
 have C:=zd s;have N:w.cell? (U po 9)=J (.slice (J (U p 0)) 1 f):=by have h:=s;unfold zL at h;rw[xd h];rfl
 have z:0<1:=by decide
 have A:0+1<=maxLen:=by simp[maxLen]
 have B:(0+1)*8<=140737488355328:=by omega
 have I:=ze s;clear s;go_in;go_wp2_with fail;refine wp_loop_rounds 2 ?_;rw[rounds_succ];go_wp2_with(first|(at_builtin;refine zO rfl _ _ 135 rfl 0 138 _ 1 8 underlying135 Tryz.infoRefP rfl (by decide) (.slice none 0 0) 0 [] rfl (World.ownsRow_nil _ _ _ _) (U w.1.size 0) 1 1 [(O r)] rfl rfl (World.news_of_block (cs:=#[(O r)]) (zo w _)) (by intro u H;simp at H;subst H;rfl) z A B (Nat.zero_le _) ?_;intro g n q b l a o D;have y:=ze b;have v:=ze a;clear b l a o)|go_in);have i:B_ w (w.alloc (.cells #[(O r)] 138)):=(Y _ _).alloc (E _) _;have j:B_ w q:=i.grown (show(w.alloc (.cells #[(O r)] 138)).grownBy q none from ud v) i.size (fun k e=>by cases e);have m:=(j.block po C).trans I;have P:q.cell? (U po 9)=J (.slice (J (U p 0)) 1 f):=by have h:=m;unfold zL at h;rw[xd h];rfl
 have M:q.cell? (U po 10)=J (.slice none 0 0):=by have h:=m;unfold zL at h;rw[xd h];rfl
 have t:=ze j;clear i j m N;refine wp_loop_rounds 1 ?_;rw[rounds_succ];go_wp2_with fail;rw[rounds_succ];go_wp2_with fail;go_ret;exact⟨g,n,rfl,y,t⟩
