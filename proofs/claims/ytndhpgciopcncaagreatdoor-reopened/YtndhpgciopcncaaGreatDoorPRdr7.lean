import Derived.Test.YtndhpgciopcncaaGreatDoorPRdr5
open Option renaming some → J
open Go.RowKit.Below renaming refl → M
open Go renaming World → C
open Go.RowKit renaming Below → z4
open Nat renaming le_refl → z5
open Nat renaming lt_of_lt_of_le → z6
open Nat renaming le_trans → z7
open Option renaming none → z9
open Nat renaming zero_le → za
open Go.Value (int)
open Go.IntKind (i32)
set_option linter.unusedVariables false
set_option maxRecDepth 100000
set_option maxHeartbeats 16000000
open Go.Proofs.Tryz
namespace Go.Proofs.YtndhpgciopcncaaGreatDoor
open Go.RowKit Go.Maps Go.Shelf
abbrev Y8(w:C):Prop:=Lib.TabIs prog w "strings.asciiSpace" .u8 Lib.asciiSpaceTab
def Kt(now:Int)(xs:List SX):List Int:=now::xs.flatMap ZA
theorem zbw(now:Int)(xs:List SX):Vc (now,xs)=Lib.itoa now++((xs.flatMap ZA).flatMap (fun n=>32::Lib.itoa n)++[10]):=by
 have h:∀xs:List SX,xs.flatMap zkd=(xs.flatMap ZA).flatMap (fun n=>32::Lib.itoa n):=fun xs=>by
  induction xs with
  |nil=>rfl
  |cons x xs a=>
   rw[List.flatMap_cons,List.flatMap_cons,List.flatMap_append,a]
   congr 1
   unfold zkd ZA vB
   split<;>simp
 unfold Vc Xn
 rw[h,List.append_assoc]
theorem zfS(now:Int)(xs:List SX):Lib.fields (Vc (now,xs))=(Kt now xs).map Lib.itoa:=by
 rw[zbw];exact zcq now _
theorem zgd(r:Rw):∀b∈Vc r,b.toNat<128:=fun b a=>by
 obtain⟨now,xs⟩:=r
 rw[zbw]at a
 rcases List.mem_append.1 a with a|a
 ·have:=jh now b a;omega
 ·rcases List.mem_append.1 a with a|a
  ·obtain⟨n,_,a⟩:=List.mem_flatMap.1 a
   rcases List.mem_cons.1 a with rfl|a
   ·decide
   ·have:=jh n b a;omega
  ·rw[List.mem_singleton]at a;subst a;decide
theorem zfa(r:Rw)(c:(Vc r).length<4294967281)(w:C)(d:Y8 w):Calls prog 199 #[.string (zgA r)] w fun e w'=>e=.returned (.slice (J (U w.1.size 0)) (Kt r.1 r.2).length (Kt r.1 r.2).length)/\w'=w.alloc (.cells ((Kt r.1 r.2).map zgw).toArray 9):=by
 have h:=Any.strings_Fields Tryz.layFD (by kernel_rfl) (by kernel_rfl) (zgA r) w (by simpa[zgA,ByteArray.size]using c) (fun j b a=>zgd r b (by simpa[zgA]using List.mem_of_getElem? a)) d
 have e:Lib.fields (zgA r).data.toList=(Kt r.1 r.2).map Lib.itoa:=by simpa[zgA]using zfS r.1 r.2
 rw[e,List.length_map,List.map_map]at h
 exact h
theorem Y8.later{w w':C}(h:Y8 w)(c:z4 w.1.size w w'):Y8 w':=by
 unfold Y8 Lib.TabIs World.var? at*
 cases b:prog.globalNamed "strings.asciiSpace" with
 |none=>rw[b]at h;simp at h
 |some g=>
  rw[b]at h
  simp only[Option.bind_some]at h ⊢
  rcases Nat.lt_or_ge g w.1.size with a|a
  ·rw[c.block _ a];exact h
  ·rw[Array.getElem?_eq_none a]at h;simp at h
theorem znL:prog.globalNamed "strings.asciiSpace" =J 0:=by kernel_rfl
theorem znO:(prog.globals[0]?).map (·.type)=J 309:=by kernel_rfl
theorem zcc{W:C}(h:laidMetH prog zkb W):Y8 W:=by
 rw[MakeChecks.laidMetH_plain _ _ _ (by kernel_rfl)]at h
 have a:laidMet prog (("strings.asciiSpace",Lib.tabData .u8 Lib.asciiSpaceTab)::zkb.drop 7) W:=h.tail.tail.tail.tail.tail.tail
 exact Lib.tabIs_of_head znL znO underlying309 underlying5 (by kernel_rfl) (by kernel_rfl) a
theorem zmc{w:C}{ops:Array Oper}{o:Oper}{a:Act}{K:Act->C->Prop}{Q:Exit->Act->C->Prop}{E:Prop}(b:o.guard=z9)(x y:Operand)(n:Array TypeId)
  (i:o.op=.call {callee:=.value (.func 201),args:=#[x,y],argTypes:=n}) (c v2:Value) (l:a.eval x=c) (m:a.eval y=v2) (v:Value) {R:C->Prop} (d:Calls prog 201 #[c,v2] w fun e w'=>e=.returned v/\R w')
  (h:∀w',R w'->K (a.put o.dst v) w'):if Region.wanted o (yielded ops a.tmps)=true then Oper.wp prog o a w K Q else E:=by
 have k:Region.wanted o (yielded ops a.tmps)=true:=by simp[Region.wanted,b]
 rw[if_pos k]
 have f:(execOp a.eval o).run prog w=.ok (.enter 201 #[c,v2]) w:=by
  have g:a.eval (.func 201)=.func (.func 201) #[] #[]:=rfl
  simp[execOp,i,resolve,invoke,l,m,g,Deferred.ofValue]
 unfold Oper.wp
 rw[f,Oper.upon_enter]
 refine d.mono ?_
 rintro e w' ⟨rfl,j⟩
 exact h w' j
theorem zkk(a:C)(o:Obj):a.1.size<=(a.alloc o).1.size:=by rw[zN];omega
def zbu(w:C)(p:Nat):Nat:=match w.cell? (U p 0)with
 |some (.slice _ n _)=>n
 |_=>0
theorem Ya.left{w:C}{p g:Nat}{a:List Int}{k:Nat}(h:Ya w p g a k):zbu w p=a.length-k:=by
 obtain⟨ad,b,_⟩:=h.head
 unfold zbu
 rw[xH b];rfl
theorem zcS{w:C}{p g:Nat}{a:List Int}{k:Nat}(h:Ya w p g a k):Ya w.drew p g a k:=⟨h.head,h.row⟩
theorem zen(x:SX):0<(ZA x).length:=by unfold ZA zke;simp
theorem zbN{α:Type}{l:List α}{j:Nat}{x:α}(h:l[j]?=J x):l.take (j+1)=l.take j++[x]:=by
 rw[List.take_add_one,h];rfl
theorem zja{now:Int}{xs:List SX}{j:Nat}{x:SX}(h:xs[j]?=J x):∀i n,(ZA x)[i]?=J n->(Kt now xs)[1+((xs.take j).flatMap ZA).length+i]?=J n:=fun i n b=>by
 have c:=(List.getElem?_eq_some_iff.1 h).1
 have e:xs=xs.take j++x::xs.drop (j+1):=by
  have a:=(List.take_append_drop j xs).symm
  rw[List.drop_eq_getElem_cons c,(List.getElem?_eq_some_iff.1 h).2]at a
  exact a
 have d:=(List.getElem?_eq_some_iff.1 b).1
 unfold Kt
 rw[show 1+((xs.take j).flatMap ZA).length+i=(((xs.take j).flatMap ZA).length+i)+1 by omega,List.getElem?_cons_succ]
 conv=>lhs;rw[e]
 rw[List.flatMap_append,List.flatMap_cons]
 rw[List.take_append_of_le_length (by simp;omega),List.take_take,Nat.min_self]
 rw[List.getElem?_append_right (by omega),Nat.add_sub_cancel_left,List.getElem?_append_left d]
 exact b
theorem zlJ{now:Int}{xs:List SX}{j:Nat}{x:SX}(h:xs[j]?=J x):1+((xs.take j).flatMap ZA).length+(ZA x).length<=(Kt now xs).length:=by
 have b:=zen x
 have a:=zja (now:=now) h ((ZA x).length-1) _ (List.getElem?_eq_getElem (by omega))
 have:=(List.getElem?_eq_some_iff.1 a).1
 omega
theorem zlI{w:C}(r:Rw)(hl:(Vc r).length<4294967281)(ht:Y8 w)(c:Cf)(hc:c.ok)(a:Option Addr)(cap:Nat)(hn:0<=r.1/\r.1<=100000)(hx:∀x∈r.2,rdX c x)(aX:r.2.length<=1000000000):
  Calls prog 130 #[.string (zgA r),(cZz c a cap)] w fun e w'=>∃v,e=.returned (.tuple #[.agg #[I r.1,v],.bool true])/\vW w' w.1.size v r.2/\z4 w.1.size w w':=by
 have HF:=fun W (hW:z4 w.1.size w W)=>ze (zfa r hl W (ht.later hW))
 obtain⟨X,a7⟩:∃X,(w.alloc (.cells (aZz c a cap) 89)).alloc (.cells #[I 0,.slice z9 0 0] 190)=X:=⟨_,rfl⟩
 obtain⟨y0,y1,R,hz⟩:=box2 w (.cells (aZz c a cap) 89) (.cells #[I 0,.slice z9 0 0] 190)
 rw[a7]at y0 y1 R hz
 have ae:=HF X R
 have am:=ze a7
 have Y0:=ze y0
 have Y1:=ze y1
 have ac:=ze R
 clear HF a7 y0 y1 R
 go_enter func130,ntmps130
 go_wp2_with fail
 rw[ud am]
 refine(ud ae).mono ?_
 rintro e W1 ⟨rfl,P⟩
 have au:z4 X.1.size X W1:=by rw[P];exact(M _ _).alloc (z5 _) _
 have u:W1.1[X.1.size]?=J (.cells ((Kt r.1 r.2).map zgw).toArray 9 (0,0)):=by rw[P];exact zp _ _
 have ax:W1.1.size=X.1.size+1:=by rw[P];exact zN _ _
 have Y:=ze u
 have G:=ze au
 clear P u au ae
 obtain⟨W2,Q⟩:∃W2,W1.alloc (.cells #[.slice (J (U (w.1.size+2) 0)) (Kt r.1 r.2).length (Kt r.1 r.2).length,.bool false] 278)=W2:=⟨_,rfl⟩
 have a5:Ya W2 (w.1.size+2+1) (w.1.size+2) (Kt r.1 r.2) 0:=by
  have m:=zp W1 (.cells #[.slice (J (U (w.1.size+2) 0)) (Kt r.1 r.2).length (Kt r.1 r.2).length,.bool false] 278)
  have B:z4 W1.1.size W1 W2:=by rw[<-Q];exact(M _ _).alloc (z5 _) _
  rw[Q,ax,hz]at m
  refine⟨⟨_,m,fun _=>rfl⟩,?_⟩
  rw[<-hz]
  exact(B.block _ (by omega)).trans (ud Y)
 have ag:=ze (zW a5 (n:=r.1) (by rfl) (by unfold xg;omega) 0 100000 hn.1 hn.2)
 have A:=ze Q
 have aK:=ze a5
 clear a5 Q
 generalize aL:(Kt r.1 r.2).length=NN at*
 go_wp2_with fail
 rw[ud A]
 refine(ud ag).mono ?_
 rintro e V ⟨rfl,ap,hK1⟩
 have a4:=ze ap
 have H:=ze hK1
 clear ap hK1 ag
 go_wp2_with fail
 have a8:z4 w.1.size w V:=by
  have m:=ud ac
  have B:=(ud G).mono m.size
  have h3:z4 w.1.size W1 W2:=by rw[<-ud A];exact(M _ _).alloc (by omega) _
  exact((m.trans B).trans h3).trans ((ud H).below (by have:=(m.trans (B.trans h3)).size;omega) (fun q e=>by omega))
 have aa:V.1[w.1.size]?=J (.cells (aZz c a cap) 89 (0,0)):=by
  have m:=((ud G).block _ (by omega)).trans (ud Y0)
  have B:W2.1[w.1.size]?=J (.cells (aZz c a cap) 89 (0,0)):=by rw[<-ud A];exact(Below.heap_alloc _ _ _ (zd m)).trans m
  exact(ud H).heap B (by omega)
 have ab:V.1[w.1.size+1]?=J (.cells #[I 0,.slice z9 0 0] 190 (0,0)):=by
  have m:=((ud G).block _ (by omega)).trans (ud Y1)
  have B:W2.1[w.1.size+1]?=J (.cells #[I 0,.slice z9 0 0] 190 (0,0)):=by rw[<-ud A];exact(Below.heap_alloc _ _ _ (zd m)).trans m
  exact(ud H).heap B (by omega)
 obtain⟨N,hU⟩:∃N,V.alloc (.cells #[I r.1,.slice z9 0 0] 190)=N:=⟨_,rfl⟩
 have D:z4 V.1.size V N:=by rw[<-hU];exact(M _ _).alloc (z5 _) _
 have aw:N.1[V.1.size]?=J (.cells #[I r.1,.slice z9 0 0] 190 (0,0)):=by rw[<-hU];exact zp _ _
 have aS:w.1.size+4<=V.1.size:=by
  obtain⟨ad,hh,_⟩:=(ud a4).head
  have:=zd hh;omega
 have ay:Hid (Ya N (w.1.size+3) (w.1.size+2) (Kt r.1 r.2) 1/\N.1[V.1.size]?=J (.cells #[I r.1,.slice z9 0 0] 190 (0,0))/\N.1[w.1.size]?=J (.cells (aZz c a cap) 89 (0,0))/\N.1[w.1.size+1]?=J (.cells #[I 0,.slice z9 0 0] 190 (0,0))/\z4 w.1.size w N):=
  ⟨(ud a4).kept (f:=fun _=>False) (zh.of_below D) (fun e=>e) (fun e=>e),aw,(D.block _ (zd aa)).trans aa,(D.block _ (zd ab)).trans ab,a8.trans (D.mono a8.size)⟩
 rw[hU]
 generalize hO:V.1.size=L at*
 have HX:=ze hx
 have HC:=ze hc
 clear hO hx a8 aa ab hU D aw ac G am Y0 Y1 aK a4 H A Y hz ax aL ht hl hn hc
 go_loopw [] (fun wr=>∃(j:Nat) (v:Value),j<=r.2.length/\Ya wr (w.1.size+3) (w.1.size+2) (Kt r.1 r.2) (1+((r.2.take j).flatMap ZA).length)/\wr.1[L]?=J (.cells #[I r.1,v] 190 (0,0))/\vW wr w.1.size v (r.2.take j)/\wr.1[w.1.size]?=J (.cells (aZz c a cap) 89 (0,0))/\wr.1[w.1.size+1]?=J (.cells #[I 0,.slice z9 0 0] 190 (0,0))/\z4 w.1.size w wr) (fun wr=>zbu wr (w.1.size+3))
 case atStart=>
  obtain⟨m,B,h3,h4,h5⟩:=ud ay
  exact⟨0,.slice z9 0 0,za _,m,B,World.ownsRow_nil _ _ _ _,h3,h4,h5⟩
 case round=>
  obtain⟨j,v,hj,hR,o,hS,y,d,hB⟩:=hrel
  obtain⟨va,vc,rfl⟩:=zS hS
  rw[List.length_take,Nat.min_eq_left hj]at o hS
  have S:=ze hR.left
  have a9:(1+((r.2.take j).flatMap ZA).length)<=(Kt r.1 r.2).length:=by
   unfold Kt
   rw[List.length_cons,List.length_flatMap,List.length_flatMap]
   have h9:((r.2.take j).map (fun a=>(ZA a).length)).sum<=(r.2.map (fun a=>(ZA a).length)).sum:=by
    conv=>rhs;rw[<-List.take_append_drop j r.2]
    rw[List.map_append,List.sum_append];omega
   omega
  obtain⟨ad,E,ar⟩:=hR.head
  obtain⟨c0,c1,-⟩:=zc E
  obtain⟨o0,o1,-⟩:=zc o
  have pl:=zd E
  have ol:=zd o
  have ql:=zd d
  have ll:=zd y
  by_cases aQ:j<r.2.length
  ·obtain⟨x,hx⟩:∃x,r.2[j]?=J x:=⟨_,List.getElem?_eq_getElem aQ⟩
   have a0:=zlJ (now:=r.1) hx
   have a2:=zen x
   have al:=fun W (hW:Ya W (w.1.size+3) (w.1.size+2) (Kt r.1 r.2) (1+((r.2.take j).flatMap ZA).length))=>ze (zbC hW c (ud HC) a cap x (ud HX x (List.mem_of_getElem? hx)) (zja hx))
   generalize hK:1+((r.2.take j).flatMap ZA).length=k at*
   generalize ao:(Kt r.1 r.2).length-k=nk at*
   have aT:(0:Int)<(nk:Int):=by omega
   obtain⟨l0,l1,l2,l3,l4,l5,l6,-⟩:=zc y
   have g:wr.ownsRow w.1.size 148 8 (.slice va j vc) j ((r.2.take j).flatMap xq):=by
    have h9:=hS
    unfold vW at h9
    rw[List.length_take,Nat.min_eq_left hj]at h9
    exact h9
   have a3:=ze (zr E g (by decide))
   have ah:=ze (zr hR.row g (by decide))
   have aE:=ze (zr y g (by decide))
   have aG:=ze (zr d g (by decide))
   have aF:=ze (zr o g (by decide))
   have aD:Hid (∀q,(Value.slice va j vc).ownBlock=J q->w.1.size<=q):=fun q hq=>(g.lt q hq).1
   have aM:¬L=w.1.size+3:=by omega
   have HR:=ze hR
   have aI:=ze o
   have HS:=ze g
   have aC:=ze y
   have K:=ze d
   have HB:=ze hB
   have aj:=ze a0
   have aJ:=ze a2
   have an:=ze hx
   have aB:=ze ao
   have aA:=ze hK
   clear hR o hS g y d hB E ar a0 a9 hK a2 hx ao
   go_wp2_with fail
   go_region_law (first
    |(refine zmc rfl (.tmp 6) (.tmp 19) _ rfl _ _ (by rfl) (by rfl) _ (ud (al _ ?aW)) ?_;(case aW=>(first|exact ud HR|exact zcS (ud HR)|exact zcS (zcS (ud HR))));intro V2 aN;obtain⟨aq,z⟩:=aN;have h:zh (fun q=>q=w.1.size+3) wr V2:=⟨z.os,z.tape,z.output,z.size,z.block⟩;have O:=h.heap (ud aI) aM;obtain⟨-,d1,-⟩:=zc O;have dl:=zd O;have aH:=ze O;have ak:=ze aq;have Z:=ze (zi (ud HS) h (fun q hq e=>ud a3 q hq e));have az:=ze h;clear aq z h O)
    |(refine vs rfl (.tmp 18) (.tmp 21) 105 148 8 56 rfl underlying105 Tryz.infoSeg rfl (by decide) w.1.size (.slice va j vc) j ((r.2.take j).flatMap xq) (by simp[Act.eval]) (by first|exact jq ((ud Z).alloc _)|exact(ud Z).alloc _) V2.1.size [I x.1.t,I x.1.sr,I x.1.wn,I x.2.st,I x.2.cl.cnt,I x.2.cl.sum,int i32 x.2.cl.mn,int i32 x.2.cl.mx] 148 (0,0) (by simp[Act.eval]) (by first|exact jp V2 _|exact zp V2 _) rfl (by simp[Value.oneCell']) ?h63 ?hby ?hbs ?_;(case h63=>(simp only[maxLen];omega));(case hby=>omega);(case hbs=>exact z7 (Nat.le_of_lt (Nat.lt_of_le_of_lt (show w.1.size<=L by omega) dl)) (zkk _ _));intro g3 s w5 a1 b aO aR;have l:zh (fun q=>(Value.slice va j vc).ownBlock=J q) V2 w5:=zh.grown ((zh.refl _ _).alloc _) (by first|exact vo b|exact b) (fun q hq _=>hq);have F:=l.heap (ud aH) (fun e=>ud aF _ e rfl);obtain⟨-,e1,-⟩:=zc F;have ef:=fun i=>zv F i;have el:=zd F;have T:=ze a1;have af:=ze l;have ai:=ze F;clear a1 l F b aO))
   all_goals
    go_wp2_with fail
    go_roundw
    case rel=>
     have h:=ud az
     have l:=ud af
     have p:zh (fun q=>q=L) w5 (w5.setCell (U L 1) (.slice (J (U g3 0)) (j+1) s)):=zg (zh.refl _ _) rfl
     have u:=zi (ud T) p (zr (ud ai) (ud T) (by decide))
     have a6:=((ud ak).kept l (fun e=>ud a3 _ e rfl) (fun e=>ud ah _ e rfl)).kept p (by omega) (by omega)
     have aV:=ud aj
     refine⟨j+1,.slice (J (U g3 0)) (j+1) s,by omega,?_,xy (i:=1) (ud ai) _,?_,?_,?_,?_⟩
     ·rw[zbN (ud an),List.flatMap_append,List.length_append,List.flatMap_cons,List.flatMap_nil,List.append_nil,<-Nat.add_assoc,ud aA]
      exact a6
     ·show World.ownsRow _ _ _ _ _ _ _
      rw[zbN (ud an),List.flatMap_append,List.length_append,List.length_take,Nat.min_eq_left hj,List.flatMap_cons,List.flatMap_nil,List.append_nil]
      exact u
     ·exact p.heap (l.heap (h.heap (ud aC) (by omega)) (fun e=>ud aE _ e rfl)) (by omega)
     ·exact p.heap (l.heap (h.heap (ud K) (by omega)) (fun e=>ud aG _ e rfl)) (by omega)
     ·have b1:=(ud HB).trans (h.below (ud HB).size (fun q e=>by omega))
      have b2:=b1.trans (l.below b1.size (fun q e=>ud aD q e))
      exact b2.trans (p.below b2.size (fun q e=>by omega))
    case measure=>
     have p:zh (fun q=>q=L) w5 (w5.setCell (U L 1) (.slice (J (U g3 0)) (j+1) s)):=zg (zh.refl _ _) rfl
     have a6:=((ud ak).kept (ud af) (fun e=>ud a3 _ e rfl) (fun e=>ud ah _ e rfl)).kept p (by omega) (by omega)
     have m:=a6.left
     have B:=ud S
     have h3:=ud aJ
     have h4:=ud aB
     have h5:=ud aj
     show zbu (w5.setCell (U L 1) (.slice (J (U g3 0)) (j+1) s)) (w.1.size+3)<zbu wr (w.1.size+3)
     omega
  ·have aP:j=r.2.length:=by omega
   subst aP
   rw[List.take_length]at hR hS c0 a9
   have h0:(Kt r.1 r.2).length-(1+(r.2.flatMap ZA).length)=0:=by unfold Kt;rw[List.length_cons];omega
   rw[h0]at c0
   obtain⟨q0,q1,-⟩:=zc d
   have qf:=fun i=>zv d i
   have K:=ze d
   have HS:=ze hS
   have HB:=ze hB
   have aU:¬L=w.1.size+1:=by omega
   clear hR o hS y d hB E ar a9 h0 S
   go_wp2_with fail
   have hf:=xy (i:=1) (xy (i:=0) (ud K) (I r.1)) (.slice va r.2.length vc)
   refine bodyPost_ret (v:=.tuple #[.agg #[I r.1,.slice va r.2.length vc],.bool true]) (zZ results130 _ _ (w.1.size+1) _ _ _ _ _ rfl rfl hf underlying190 rfl (by kernel_rfl)) rfl ?_
   have av:zh (fun q=>q=w.1.size+1) wr ((wr.setCell (U (w.1.size+1) 0) (I r.1)).setCell (U (w.1.size+1) 1) (.slice va r.2.length vc)):=zg (zg (zh.refl _ _) rfl) rfl
   exact⟨_,rfl,zi (ud HS) av (zr (ud K) (ud HS) (by decide)),(ud HB).trans (av.below (ud HB).size (fun q e=>by omega))⟩
attribute [local go_sem] Oper.semAt_some
noncomputable def zeK:Nat:=(prog.globalNamed "strings.asciiSpace").getD 0
theorem Y8.lt{w:C}(h:Y8 w):zeK<w.1.size:=by
 unfold Y8 Lib.TabIs World.var? at h
 unfold zeK
 cases b:prog.globalNamed "strings.asciiSpace" with
 |none=>rw[b]at h;simp at h
 |some g=>
  rw[b]at h
  show g<w.1.size
  rcases Nat.lt_or_ge g w.1.size with a|a
  ·exact a
  ·simp only[Option.bind_some]at h;rw[Array.getElem?_eq_none a]at h;simp at h
theorem Y8.same{w w':C}(h:Y8 w)(a:w'.1[zeK]?=w.1[zeK]?):Y8 w':=by
 unfold Y8 Lib.TabIs World.var? at*
 unfold zeK at a
 cases b:prog.globalNamed "strings.asciiSpace" with
 |none=>rw[b]at h;simp at h
 |some g=>
  rw[b]at h a
  simp only[Option.bind_some,Option.getD_some]at h a ⊢
  rw[a];exact h
theorem Y8.kept{f:Nat->Prop}{w w':C}(h:Y8 w)(a:zh f w w')(hn:¬f zeK):Y8 w':=h.same (a.block _ h.lt hn)
theorem ziA{w:C}{name:String}{k:IntKind}{zs:List Int}{b:Nat}{T:ByteArray}{t:TypeId}{c:Nat×Nat}(h:Lib.TabIs prog w name k zs)(d:w.1[b]?=J (.cells #[.string T] t c))(f:zs.length≠1):¬(prog.globalNamed name).getD 0=b:=fun e=>by
 unfold Lib.TabIs World.var? at h
 cases a:prog.globalNamed name with
 |none=>rw[a]at h;simp at h
 |some g=>
  rw[a]at h e
  simp only[Option.bind_some,Option.getD_some]at h e
  rw[e,d]at h
  injection h with h
  have:=congrArg Array.size h
  simp at this
  omega
structure YE(c:Cf)(r:Rw):Prop where
 len:(Vc r).length<4294967281
 now:0<=r.1/\r.1<=100000
 seg:∀x∈r.2,rdX c x
 num:r.2.length<=400000000
def xC(a:List Rw):MS:=a.foldl (fun m r=>m.took r.1 r.2) ms0
theorem Xo(a:List Rw)(r:Rw):xC (a++[r])=(xC a).took r.1 r.2:=by unfold xC;rw[List.foldl_append];rfl
theorem rdX.wf{c:Cf}(a:c.ok){x:SX}(h:rdX c x):x.1.wf:=by
 have b:=h.t;have d:=h.sr;have e:=h.wn;have f:=a.n4
 unfold Sg.wf xg
 omega
structure RcI(X W:C)(i:Ids)(b:Nat)(c:Cf)(ep:Int)(m:MS)(q:JM):Prop where
 mill:zQ W i c ep m q
 kept:zh (fun k=>zG X i k\/k=b) X W
 dsk:W.1[i.d]?=X.1[i.d]?
 asc:Y8 W
theorem RcI.foot{X W:C}{i:Ids}{b:Nat}{c:Cf}{ep:Int}{m:MS}{q:JM}(h:RcI X W i b c ep m q){k:Nat}:zG W i k↔zG X i k:=by
 have:fsB W i.d=fsB X i.d:=by unfold fsB World.cell?;simp only[h.dsk]
 unfold zG;rw[this]
theorem zcU(c:Cf)(hc:c.ok)(al:List {r:Rw//YE c r})(aD:(xz (al.map (·.1))).size<=1000000000000)(ay:∀rs:List {r:Rw//YE c r},(xC (rs.map (·.1))).L.length<=2000020/\(xC (rs.map (·.1))).Gl.length<=2000020):
  Xz c (xz (al.map (·.1))) (xC (al.map (·.1))) (fun i W=>Y8 W/\∀k,zG W i k->k≠zeK):=by
 intro w i ep q b Z hb m ⟨hA,a8⟩
 have p:z4 w.1.size w (w.alloc (.cells #[(O i.x)] 38)):=(M _ _).alloc (z5 _) _
 have z:=(p.block _ (zd hb)).trans hb
 have ah:=zp w (.cells #[(O i.x)] 38)
 have aN:=zN w (.cells #[(O i.x)] 38)
 have ad:=Z.later p
 have af:∀k,zG (w.alloc (.cells #[(O i.x)] 38)) i k↔zG w i k:=fun k=>by
  have:fsB (w.alloc (.cells #[(O i.x)] 38)) i.d=fsB w i.d:=by unfold fsB World.cell?;simp only[p.block _ Z.dlt]
  unfold zG;rw[this]
 have a7:=hA.later p
 have aI:=zd hb
 have ae:¬zeK=b:=ziA hA hb (by decide)
 have ai:¬Y4=b:=ziA Z.tab hb (by decide)
 have R:=ze p
 have a2:=ze z
 have ar:=ze ah
 have j:=ze ad
 have t:=ze af
 have a0:=ze a7
 have am:=ze a8
 have a4:=ze m
 have a3:=ze Z.foot_lt
 have ak:=ze ae
 have au:=ze ai
 have aH:=ze Z.tn
 clear hb p z ah Z ad af hA a7 a8 m ae ai
 refine(callsIn_wide (n:=7)).1 ?_
 refine callsIn_of_wp_marks func71 rfl trivial ?_ rfl
 simp only[ntmps71,sZz,Nat.reduceAdd,Nat.reduceSub]
 refine wpIn_wide.2 ?_
 go_wp2_with fail
 generalize(w.alloc (.cells #[(O i.x)] 38))=X at*
 have z:=zd (ud a2)
 refine(wpIn_wide (n:=7)).1 ?_
 refine zog (F:=Fence.wide) (n:=7) rfl (by omega) (gf:=202) (lb:=#[(O b)]) rfl trivial zbT z (zfr (fun x:{r:Rw//YE c r}=>x.1) al aD b X (ud a2) 0) (za _) (fun h k=>k.trans h) (fun W o o' _ _ _=>World.putObj_heap_other (by omega)) (M _ _) (fun _=>rfl)
  (fun G W=>RcI X W i b c ep (xC (G.map (·.1))) q) (fun _ _ _=>False) ?own (fun _ _ _ _ _ g _ _=>g) ?setb (fun _ _ _ _ g=>g) ?start
  (fun x a' W=>a'={tmps:=#[(O i.x),.func (.func 202) #[] #[(O b)],(O w.1.size),undef,.string (zgA x.1),undef,undef,.func (.func 202) #[] #[(O b)],.string (zgA x.1),undef,undef,undef,undef,undef,undef,undef,undef,undef,undef,undef,undef,undef,undef],defers:=[]}) (fun _ _ _ _ _ _ g _ _=>g) ?assign ?body ?done ?stop
 case own=>
  intro s A B aQ g hg hr
  have f:zh (fun k=>X.1.size<=k) A B:=⟨hg.os,hg.tape,hg.output,hg.size,fun k f hn=>hg.block k f (fun e=>hn (hr k e.symm).1)⟩
  have aA:=(ud j).dlt
  exact⟨g.mill.kept f (fun k f e=>by have:=(ud j).foot_lt k (g.foot.1 f);omega) (fun e=>by have:=(ud j).tab.lt;omega),g.kept.trans f (fun k f e=>by omega),(f.block i.d g.mill.dlt (by omega)).trans g.dsk,g.asc.kept f (fun e=>by have:=(ud a0).lt;omega)⟩
 case setb=>
  intro s V v g
  have f:zh (fun k=>k=b) V (V.setCell (U b 0) v):=zg (zh.refl _ _) rfl
  have m:¬zG X i b:=fun e=>ud a4 ((ud t b).1 e)
  have aC:¬i.d=b:=fun e=>m (.inl (.inr (.inr (.inr (.inr e.symm)))))
  exact⟨g.mill.kept f (fun k f e=>m (by rw[<-e];exact g.foot.1 f)) (ud au),g.kept.trans f (fun k _ e=> .inr e),(f.block i.d g.mill.dlt aC).trans g.dsk,g.asc.kept f (ud ak)⟩
 case start=>exact⟨ud j,zh.refl _ _,rfl,ud a0⟩
 case assign=>
  rintro l G y W K a hK
  have HK:=ze hK
  clear hK
  gi_wp2
  exact ud HK _ _ (zk (M _ _)) rfl a rfl
 case body=>
  rintro l G y a' W hl hr a rfl aJ
  have aG:=a.kept.size
  have m:¬zG X i b:=fun e=>ud a4 ((ud t b).1 e)
  have hq:=a.kept.heap (ud ar) (fun e=>by
   rcases e with e|e
   ·have:=ud a3 _ ((ud t _).1 e);omega
   ·omega)
  obtain⟨mp,-⟩:=zc hq
  obtain⟨ta,tc,aE,-⟩:=a.mill.own.ts
  have P:=a.mill.head
  rw[aE]at P
  obtain⟨x0,x1,x2,x3,x4,x5,x6,-⟩:=zc P
  have xl:=zd P
  have ql:=zd hq
  have S:=fun V (hV:z4 W.1.size W V)=>ze (zlI (w:=V) y.1 y.2.len (a.asc.later hV) c hc ta tc y.2.now y.2.seg (z7 y.2.num (by decide)))
  have Q:=S W (M _ _)
  have a5:=S W.drew (M _ _).drew
  have H:=ze a
  have HQ:=ze hq
  have aL:prog.follows .mixedOrders=true:=by kernel_rfl
  clear a hq P hr S
  gi_wp2
  refine⟨trivial,?_⟩
  refine(CallsIn.inRound l (callsIn_wide.2 (ud Q))).mono ?_
  rintro e V ⟨v,rfl,hS,u⟩
  obtain⟨va,vc,rfl⟩:=hS.slice
  have Y:=(u.block _ ql).trans (ud HQ)
  obtain⟨aO,-⟩:=zc Y
  have aP:=zd Y
  obtain⟨aw,ax⟩:=ay G
  have ag:=y.2.num
  have aj:∀x∈y.1.2,x.1.wf:=fun x hx=>(y.2.seg x hx).wf hc
  have a6:=fun U9 (hU:z4 V.1.size V U9)=>ze (zmk ((ud H).mill.later (u.trans (hU.mono u.size))) y.1.1 y.1.2 aj (by omega) (by omega) W.1.size _ (zR hS hU))
  have a1:=ze u
  clear hS u Y aw ax ag aj Q a5 x0 x1 x2 x3 x4 x5 x6 mp
  gi_wp2
  have T:z4 V.1.size V (V.alloc (.cells #[I y.1.1,.slice va y.1.2.length vc] 190)):=(M _ _).alloc (z5 _) _
  have av:=ze T
  refine⟨trivial,?_⟩
  refine(CallsIn.inRound l (callsIn_wide.2 (ud (a6 _ T)))).mono ?_
  rintro e V3 ⟨rfl,ac,aa,a9⟩
  have aq:=ze ac
  have ao:=ze aa
  have an:=ze a9
  clear T a6 ac aa a9
  gi_wp2
  have a:=ud H
  have N:z4 W.1.size W (V.alloc (.cells #[I y.1.1,.slice va y.1.2.length vc] 190)):=(ud a1).trans ((ud av).mono (ud a1).size)
  have aK:=a.mill.later N
  have aB:∀k,zG (V.alloc (.cells #[I y.1.1,.slice va y.1.2.length vc] 190)) i k->zG X i k:=fun k e=>by
   have h1:fsB (V.alloc (.cells #[I y.1.1,.slice va y.1.2.length vc] 190)) i.d=fsB W i.d:=by unfold fsB World.cell?;simp only[N.block _ a.mill.dlt]
   refine a.foot.1 ?_
   unfold zG at e ⊢
   rw[h1]at e;exact e
  have E:zh (zG X i) W V3:=(zh.of_below N).trans ((ud ao).kept.mono (fun k _ e=>aB k e)) (fun _ _ e=>e)
  have az:V3.1[i.d]?=W.1[i.d]?:=(ud an).trans (N.block _ a.mill.dlt)
  refine⟨⟨E.size,fun k o f h0 _=>E.heap h0 (fun e=>by have:=(ud j).foot_lt k e;omega)⟩,E.block b (z6 z aG) m,?_,a.kept.trans E (fun k _ e=> .inl e),az.trans a.dsk,a.asc.kept E (fun e=>ud am _ ((ud t _).1 e) rfl)⟩
  rw[List.map_append,List.map_cons,List.map_nil,Xo]
  exact ud aq
 case done=>
  rintro D xs W hD aF a ab
  subst aF
  have ap:=ze ab
  have H:=ze a
  clear a ab
  gi_wp2
  have a:=ud H
  have aM:=(ud R).size
  refine⟨by simp,.inl ⟨_,_,rfl,run_takeDeferred (ud ap),?_⟩⟩
  have kp:zh (fun k=>k=D) W (W.putObj D (.deferred z9)):=(zh.refl (fun k=>k=D) W).grown (grownBy_putObj' W D (.deferred z9)) (fun k e _=>by cases e;rfl)
  have aA:=(ud j).dlt
  have h1:zh (fun k=>zG w i k\/k=b) w W:=(zh.of_below (ud R)).trans a.kept (fun k _ e=>e.imp (fun e=>(ud t k).1 e) id)
  have hd:(W.putObj D (.deferred z9)).1[i.d]?=X.1[i.d]?:=(kp.block i.d a.mill.dlt (by omega)).trans a.dsk
  refine⟨_,results_none rfl _ _ _,rfl,a.mill.kept kp (fun k f e=>by have:=(ud j).foot_lt k (a.foot.1 f);have e':k=D:=e;omega) (fun e=>by have:=(ud j).tab.lt;have e':Y4=D:=e;omega),⟨h1.trans kp (fun k f e=>by have e':k=D:=e;omega),fun k f=> .inl ?_⟩⟩
  have h2:fsB (W.putObj D (.deferred z9)) i.d=fsB X i.d:=by unfold fsB World.cell?;simp only[hd]
  rw[h2]at f
  have h3:zG X i k:=.inr f
  have h4:fsB X i.d=fsB w i.d:=by unfold fsB World.cell?;simp only[(ud R).block _ (ud a3 _ (.inl (.inr (.inr (.inr (.inr rfl))))))]
  rw[h4]at f;exact f
 case stop=>
  rintro D c G W hD _ hf
  exact hf.elim
structure QIn(c:Cf)(q:List (Sg×Unit)×LV):Prop where
 nl:(zn q.2).Nodup
 ng:(zj q.1).Nodup
 il:∀k∈zn q.2,inR c k/\QB k
 ig:∀k∈zj q.1,inR c k/\QB k
theorem zdT(L:LV):zn L=zj L:=rfl
theorem QIn.put{c:Cf}{q:List (Sg×Unit)×LV}(h:QIn c q){x:SX}(b:inR c x.1/\QB x.1):QIn c (jm q x):=by
 unfold jm
 split
 ·refine⟨?_,qc h.ng,fun k a=>?_,fun k a=>?_⟩
  ·rw[zdT];exact xU h.nl
  ·rw[zdT,XV]at a;exact h.il k (List.mem_filter.1 a).1
  ·rcases zY.1 a with a|rfl
   ·exact h.ig k a
   ·exact b
 ·refine⟨qY h.nl,h.ng,fun k a=>?_,h.ig⟩
  rcases xJ.1 a with a|rfl
  ·exact h.il k a
  ·exact b
theorem QIn.puts{c:Cf}:∀(xs:List SX) {q:List (Sg×Unit)×LV},QIn c q->(∀x∈xs,inR c x.1/\QB x.1)->QIn c (qh q xs)
 |[],_,h,_=>h
 |x::xs,q,h,a=>QIn.puts xs (q:=jm q x) (h.put (a x (by simp))) (fun y b=>a y (by simp[b]))
theorem rdX.inR{c:Cf}(a:c.ok){x:SX}(h:rdX c x):inR c x.1/\QB x.1:=⟨⟨h.wf a,h.t.1,h.t.2,h.wn⟩,h.sr⟩
theorem zby{c:Cf}(b:c.ok):∀(a:List Rw) (m:MS),(∀r∈a,YE c r)->QIn c (m.Gl,m.L)->QIn c ((a.foldl (fun m r=>m.took r.1 r.2) m).Gl,(a.foldl (fun m r=>m.took r.1 r.2) m).L)
 |[],_,_,h=>h
 |r::a,m,d,h=>zby b a (m.took r.1 r.2) (fun y f=>d y (by simp[f])) (h.puts r.2 (fun x e=>((d r (by simp)).seg x e).inR b))
theorem zpq(c:Cf):QIn c (ms0.Gl,ms0.L):=⟨List.nodup_nil,List.nodup_nil,(fun k a=>by cases a),(fun k a=>by cases a)⟩
theorem zfZ{c:Cf}(d:c.ok)(e:List {r:Rw//YE c r}):(xC (e.map (·.1))).L.length<=2000020/\(xC (e.map (·.1))).Gl.length<=2000020:=by
 have h:=zby d (e.map (·.1)) ms0 (fun r f=>by obtain⟨y,_,rfl⟩:=List.mem_map.1 f;exact y.2) (zpq c)
 have a:=zeo d h.nl h.il
 have b:=zeo d h.ng h.ig
 unfold zn at a
 unfold zj at b
 rw[List.length_map]at a b
 exact⟨a,b⟩
theorem zjc(c:Cf)(d:c.ok)(a:List Rw)(f:∀r∈a,YE c r)(b:(xz a).size<=1000000000000):Xz c (xz a) (xC a) (fun i W=>Y8 W/\∀k,zG W i k->k≠zeK):=by
 have e:(a.attach.map (fun x=>(⟨x.1,f x.1 x.2⟩:{r:Rw//YE c r}))).map (·.1)=a:=by
  rw[List.map_map];exact List.attach_map_subtype_val a
 have h:=zcU c d (a.attach.map (fun x=>(⟨x.1,f x.1 x.2⟩:{r:Rw//YE c r}))) (by rw[e];exact b) (zfZ d)
 rw[e]at h
 exact h
structure qD(q1 q2:List (Sg×Unit)×LV):Prop where
 n1:(zn q1.2).Nodup
 n2:(zn q2.2).Nodup
 g1:(zj q1.1).Nodup
 g2:(zj q2.1).Nodup
 live:∀k,zD q1.2 k=zD q2.2 k
 gone:∀k,k∈zj q1.1↔k∈zj q2.1
theorem qD.refl{q:List (Sg×Unit)×LV}(a:(zn q.2).Nodup)(b:(zj q.1).Nodup):qD q q:=⟨a,a,b,b,fun _=>rfl,fun _=>Iff.rfl⟩
theorem Z9{L:LV}(hn:(zn L).Nodup)(s k:Sg)(v:SV):zD (qT L s v) k=if k=s then J v else zD L k:=kJ (L:=L) hn s v k
theorem qD.put{q1 q2:List (Sg×Unit)×LV}(h:qD q1 q2)(x:SX):qD (jm q1 x) (jm q2 x):=by
 unfold jm
 split
 ·refine⟨?_,?_,qc h.g1,qc h.g2,fun k=>?_,fun k=>?_⟩
  ·rw[zdT];exact xU h.n1
  ·rw[zdT];exact xU h.n2
  ·show zD (xa q1.2 x.1) k=zD (xa q2.2 x.1) k
   rw[jB h.n1,jB h.n2,h.live]
  ·show k∈zj (xZ q1.1 x.1 ())↔k∈zj (xZ q2.1 x.1 ())
   rw[zY,zY,h.gone]
 ·refine⟨qY h.n1,qY h.n2,h.g1,h.g2,fun k=>?_,h.gone⟩
  show zD (qT q1.2 x.1 x.2) k=zD (qT q2.2 x.1 x.2) k
  rw[Z9 h.n1,Z9 h.n2,h.live]
theorem qD.puts:∀(xs:List SX) {q1 q2:List (Sg×Unit)×LV},qD q1 q2->qD (qh q1 xs) (qh q2 xs)
 |[],_,_,h=>h
 |x::xs,q1,q2,h=>qD.puts xs (q1:=jm q1 x) (q2:=jm q2 x) (h.put x)
theorem zgf(a:List Rw)(now:Int)(xs:List SX):xz (a++[(now,xs)])=xz a++(xS now xs++nl):=by
 apply ByteArray.ext
 simp[xz,Vc,xS,nl,ByteArray.data_append]
theorem zbA(now:Int)(xs:List SX):xz [(now,xs)]=xS now xs++nl:=by
 apply ByteArray.ext
 simp[xz,Vc,xS,nl,ByteArray.data_append]
theorem zeu{α:Type}{P:List α->Prop}(b:P [])(c:∀l a,P l->P (l++[a])):∀l,P l:=by
 intro l
 have h:∀l:List α,P l.reverse:=by
  intro l
  induction l with
  |nil=>exact b
  |cons a l e=>rw[List.reverse_cons];exact c _ _ e
 have d:=h l.reverse
 rwa[List.reverse_reverse]at d
theorem ziV(xs:List SX):(zn (qh ([],[]) xs).2).Nodup/\(zj (qh ([],[]) xs).1).Nodup:=
 have h:=qD.puts xs (qD.refl (q:=(([]:List (Sg×Unit)),([]:LV))) List.nodup_nil List.nodup_nil)
 ⟨h.n1,h.g1⟩
theorem zlC:∀f:List SX,(f.map (·.1)).Nodup->(∀k v,zD (qh ([],[]) f).2 k=J v↔(k,v)∈f/\v.st≠4)/\(∀k,k∈zj (qh ([],[]) f).1↔∃v,(k,v)∈f/\v.st=4):=by
 refine zeu ?_ ?_
 ·intro _
  exact⟨fun k v=>⟨fun h=>(by cases h),fun h=>(by cases h.1)⟩,fun k=>⟨fun h=>(by cases h),fun⟨v,h,_⟩=>(by cases h)⟩⟩
 ·intro l x m hn
  rw[List.map_append,List.nodup_append]at hn
  obtain⟨n1,-,n⟩:=hn
  have i:∀v,(x.1,v)∉l:=fun v c=>n x.1 (List.mem_map.2 ⟨_,c,rfl⟩) x.1 (by simp) rfl
  obtain⟨j,i2⟩:=m n1
  obtain⟨g,o⟩:=ziV l
  rw[jn]
  unfold jm
  split
  ·rename_i h4
   refine⟨fun k v=>?_,fun k=>?_⟩
   ·show zD (xa (qh ([],[]) l).2 x.1) k=J v↔_
    rw[jB g]
    by_cases e:k=x.1
    ·rw[if_pos e]
     constructor
     ·intro h;cases h
     ·rintro⟨c,hv⟩
      rcases List.mem_append.1 c with c|c
      ·exact absurd (e▸c) (i v)
      ·have d:=List.mem_singleton.1 c
       exact absurd (show v.st=4 by rw[<-h4,<-d]) hv
    ·rw[if_neg e,j]
     constructor
     ·rintro⟨a,b⟩;exact⟨List.mem_append_left _ a,b⟩
     ·rintro⟨a,b⟩
      rcases List.mem_append.1 a with a|a
      ·exact⟨a,b⟩
      ·exact absurd (congrArg Prod.fst (List.mem_singleton.1 a)) e
   ·show k∈zj (xZ (qh ([],[]) l).1 x.1 ())↔_
    rw[zY,i2]
    constructor
    ·rintro(⟨v,a,b⟩|rfl)
     ·exact⟨v,List.mem_append_left _ a,b⟩
     ·exact⟨x.2,List.mem_append_right _ (by simp),h4⟩
    ·rintro⟨v,a,b⟩
     rcases List.mem_append.1 a with a|a
     ·exact .inl ⟨v,a,b⟩
     ·exact .inr (congrArg Prod.fst (List.mem_singleton.1 a))
  ·rename_i h4
   refine⟨fun k v=>?_,fun k=>?_⟩
   ·show zD (qT (qh ([],[]) l).2 x.1 x.2) k=J v↔_
    rw[Z9 g]
    by_cases e:k=x.1
    ·rw[if_pos e]
     constructor
     ·intro h
      have d:x.2=v:=Option.some.inj h
      exact⟨List.mem_append_right _ (by rw[e,<-d];simp),by rw[<-d];exact h4⟩
     ·rintro⟨c,hv⟩
      rcases List.mem_append.1 c with c|c
      ·exact absurd (e▸c) (i v)
      ·rw[<-List.mem_singleton.1 c]
    ·rw[if_neg e,j]
     constructor
     ·rintro⟨a,b⟩;exact⟨List.mem_append_left _ a,b⟩
     ·rintro⟨a,b⟩
      rcases List.mem_append.1 a with a|a
      ·exact⟨a,b⟩
      ·exact absurd (congrArg Prod.fst (List.mem_singleton.1 a)) e
   ·show k∈zj (qh ([],[]) l).1↔_
    rw[i2]
    constructor
    ·rintro⟨v,a,b⟩;exact⟨v,List.mem_append_left _ a,b⟩
    ·rintro⟨v,a,b⟩
     rcases List.mem_append.1 a with a|a
     ·exact⟨v,a,b⟩
     ·have d:=List.mem_singleton.1 a
      exact absurd (show x.2.st=4 by rw[<-d];exact b) h4
theorem zdl{c:Cf}{now:Int}{L:LV}{Gl:List (Sg×Unit)}(h:yd c now L Gl){p:Sg×SV}(a:p∈L):p.2.st≠4:=by
 have d:=(h.inr p a).2.1
 by_cases b:p.1.t= -1
 ·have:=(h.raw p a b).1;omega
 ·have:=h.tier p a (by omega);omega
theorem zmX{c:Cf}{now:Int}{L:LV}{Gl:List (Sg×Unit)}(h:yd c now L Gl):((vA L Gl).map (·.1)).Nodup:=by
 have e:(vA L Gl).map (·.1)=zn L++zj Gl:=by unfold vA zn zj;rw[List.map_append,List.map_map];rfl
 rw[e,List.nodup_append]
 refine⟨h.nl,h.ng,fun a d b f e=>?_⟩
 obtain⟨p,g,rfl⟩:=List.mem_map.1 d
 exact h.disj p g (e▸f)
theorem ziU{c:Cf}{now:Int}{L:LV}{Gl:List (Sg×Unit)}(h:yd c now L Gl){d:List SX}(f:d.Perm (vA L Gl)):qD (qh ([],[]) d) (Gl,L):=by
 have hn:(d.map (·.1)).Nodup:=(f.map _).nodup_iff.2 (zmX h)
 obtain⟨j,a2⟩:=zlC d hn
 obtain⟨l,m⟩:=ziV d
 refine⟨l,h.nl,m,h.ng,fun k=>?_,fun k=>?_⟩
 ·apply Option.ext
  intro v
  rw[j,f.mem_iff]
  constructor
  ·rintro⟨a,b⟩
   rcases List.mem_append.1 a with a|a
   ·exact(XN h.nl).2 a
   ·obtain⟨g,_,e⟩:=List.mem_map.1 a
    exact absurd (show v.st=4 by have:=congrArg (fun p:SX=>p.2.st) e;simpa[Yg]using this.symm) b
  ·intro a
   have b:=(XN h.nl).1 a
   exact⟨List.mem_append_left _ b,zdl h b⟩
 ·rw[a2]
  constructor
  ·rintro⟨v,a,b⟩
   rw[f.mem_iff]at a
   rcases List.mem_append.1 a with a|a
   ·exact absurd b (zdl h a)
   ·obtain⟨g,i,e⟩:=List.mem_map.1 a
    have:=congrArg Prod.fst e
    exact List.mem_map.2 ⟨g,i,this⟩
  ·intro a
   obtain⟨g,i,e⟩:=List.mem_map.1 a
   exact⟨⟨4,qt⟩,f.mem_iff.2 (List.mem_append_right _ (List.mem_map.2 ⟨g,i,by unfold Yg;rw[<-e]⟩)),rfl⟩
theorem zlD(q:List (Sg×Unit)×LV)(i:(zn q.2).Nodup)(g:(zj q.1).Nodup):∀xs:List SX,(xs.map (·.1)).Nodup->∀x∈xs,(x.2.st≠4->zD (qh q xs).2 x.1=J x.2)/\(x.2.st=4->x.1∈zj (qh q xs).1):=by
 refine zeu ?_ ?_
 ·intro _ x b;cases b
 ·intro l y j hn x b
  rw[List.map_append,List.nodup_append]at hn
  obtain⟨n1,-,k⟩:=hn
  have d:=qD.puts l (qD.refl (q:=q) i g)
  rw[jn]
  rcases List.mem_append.1 b with b|b
  ·obtain⟨f,i2⟩:=j n1 x b
   have c:¬x.1=y.1:=fun e=>k x.1 (List.mem_map.2 ⟨x,b,rfl⟩) y.1 (by simp) e
   unfold jm
   split
   ·refine⟨fun a=>?_,fun a=>zY.2 (.inl (i2 a))⟩
    show zD (xa (qh q l).2 y.1) x.1=_
    rw[jB d.n1,if_neg c];exact f a
   ·refine⟨fun a=>?_,i2⟩
    show zD (qT (qh q l).2 y.1 y.2) x.1=_
    rw[Z9 d.n1,if_neg c];exact f a
  ·rw[List.mem_singleton]at b
   subst b
   unfold jm
   split
   ·rename_i a
    exact⟨fun h=>absurd a h,fun _=>zY.2 (.inr rfl)⟩
   ·rename_i a
    refine⟨fun _=>?_,fun h=>absurd h a⟩
    show zD (qT (qh q l).2 x.1 x.2) x.1=_
    rw[Z9 d.n1,if_pos rfl]
theorem yL.more{c:Cf}{ep:Int}{m m':MS}{ns a:List Nm}(h:yL c ep m ns m' a):ns.length<=a.length:=by
 cases h<;>simp
def zmP(m:MS):Prop:=∀p∈m.L,p.2.st=3->1<=p.2.cl.cnt/\p.2.cl.cnt<=2147483647
theorem ziX{c:Cf}{ep:Int}{m:MS}{nn:Nat}(l:c.ok)(g:SOk c ep m nn)(k:zmP m){x:SX}(e:x∈m.L)(f:okX x)(hn:okN x):rdX c x:=by
 have d:=g.ok.seg.inr x e
 have b:=g.lin x.1 (List.mem_map.2 ⟨x,e,rfl⟩)
 have q:=zdl g.ok.seg e
 by_cases i:x.1.t= -1
 ·obtain⟨j,p,r,s⟩:=g.ok.seg.raw x e i
  have u:=g.ok.seg.cnt l x e i
  exact⟨⟨d.2.1,d.2.2.1⟩,b,d.2.2.2,by omega,fun _=>⟨p,by omega,f.sum,f.mn,f.mx⟩,fun h=>by rw[j]at h;exact absurd h (by decide),fun _=>⟨fun _=>i,fun _=>j⟩⟩
 ·have a:=g.ok.seg.tier x e (by have:=d.2.1;omega)
  refine⟨⟨d.2.1,d.2.2.1⟩,b,d.2.2.2,by omega,fun h=>?_,fun h=>?_,fun _=>⟨fun h=>by omega,fun h=>absurd h i⟩⟩
  ·rcases a with a|a
   ·rw[a]at h;exact absurd h (by decide)
   ·obtain⟨n,o⟩:=k x e a
    exact⟨n,o,f.sum,f.mn,f.mx⟩
  ·rcases a with a|a
   ·exact hn (.inl a)
   ·rw[a]at h;exact absurd h (by decide)
theorem ziW{c:Cf}{ep:Int}{m:MS}{nn:Nat}(e:SOk c ep m nn){x:SX}(b:x.2.st=4)(f:x.1∈zj m.Gl)(hn:okN x):rdX c x:=by
 obtain⟨d,a⟩:=e.gin x.1 f
 exact⟨⟨d.2.1,d.2.2.1⟩,a,d.2.2.2,by omega,fun h=>by rw[b]at h;exact absurd h (by decide),fun _=>hn (.inr b),fun h=>absurd b h⟩
theorem Kw{c:Cf}{now:Int}{xs:List SX}(hn:0<=now/\now<=100000)(a:∀x∈xs,okX x)(b:∀x∈xs,rdX c x)(e:xs.length<=2000420):YE c (now,xs):=by
 have d:=jG (now:=now) (xs:=xs) (by unfold xg;omega) a
 refine⟨?_,hn,b,by show xs.length<=400000000;omega⟩
 show(Xn now xs++[10]).length<4294967281
 rw[List.length_append]
 simp only[List.length_cons,List.length_nil]
 omega
theorem jO.rowsR{c:Cf}{m:MS}{ns:List Nm}{txt:ByteArray}(j:c.ok){N:Nat}(H:∀m ns txt,jO c 1 m ns txt->ns.length<=N->zmP m)(h:jO c 1 m ns txt)(t:ns.length<=N):∃i:List Rw,txt=xz i/\(xC i).now=m.now/\qD ((xC i).Gl,(xC i).L) (m.Gl,m.L)/\∀r∈i,YE c r:=by
 induction h with
 |start m ns txt U f V P G=>
  obtain⟨rfl,rfl,rfl⟩:=G rfl
  refine⟨[(0,[])],(zbA 0 []).symm,rfl,qD.refl List.nodup_nil List.nodup_nil,fun r b=>?_⟩
  rw[List.mem_singleton]at b;subst b
  exact Kw (by omega) (fun x d=>by cases d) (fun x d=>by cases d) (by simp)
 |laid m ns txt m' n xs h u d p o l q D w=>
  obtain⟨i,e,F,y,z⟩:=w (z7 u.more t)
  have I:jO c 1 m' n (txt++(xS m'.now xs++nl)):=.laid m ns txt m' n xs h u d p o l q D
  have f:=h.sok j
  have k:=I.sok j
  have K:=H _ _ _ I t
  refine⟨i++[(m'.now,xs)],by rw[zgf,e],by rw[Xo];rfl,by rw[Xo,p,o];exact y.puts xs,fun r b=>?_⟩
  rcases List.mem_append.1 b with b|b
  ·exact z r b
  ·rw[List.mem_singleton]at b;subst b
   refine Kw k.ok.now d (fun x a=>?_) (by omega)
   obtain⟨Q,R⟩:=zlD (m.Gl,m.L) f.ok.seg.nl f.ok.seg.ng xs q x a
   by_cases A:x.2.st=4
   ·exact ziW k A (by rw[o];exact R A) (l x a)
   ·exact ziX j k K (by rw[p];exact zB (Q A)) (d x a) (l x a)
 |quiet m ns txt m' n h u hn p o w=>
  obtain⟨i,e,F,y,z⟩:=w (z7 u.more t)
  exact⟨i,e,by rw[F,hn],by rw[p,o];exact y,z⟩
 |anew m ns txt E h v w=>
  have f:=h.sok j
  refine⟨[(m.now,E)],(zbA m.now E).symm,rfl,ziU f.ok.seg v,fun r b=>?_⟩
  rw[List.mem_singleton]at b;subst b
  have G:=f.ok.seg.len400 j
  have S:=f.gl j
  have T:E.length=m.L.length+m.Gl.length:=by rw[v.length_eq];unfold vA;rw[List.length_append,List.length_map]
  refine Kw f.ok.now (fun x d=>h.okA x (v.mem_iff.1 d)) (fun x d=>?_) (by omega)
  have a:=v.mem_iff.1 d
  have B:=h.okA x a
  have s:=h.okN x a
  rcases List.mem_append.1 a with a|a
  ·exact ziX j f (H _ _ _ h t) a B s
  ·obtain⟨g,O,rfl⟩:=List.mem_map.1 a
   exact ziW f rfl (List.mem_map.2 ⟨g,O,rfl⟩) s
theorem zci{P:Nm->Prop}[DecidablePred P](f:Nm->Int){ns:List Nm}(a:∀x∈ns,P x->0<=f x)(c:∀w:Int,qW (fun x=>P x/\f x=w) ns<=400):∀K:Nat,qW (fun x=>P x/\f x<(K:Int)) ns<=400*(K:Int)
 |0=>by
  rw[qq.2 (fun x g h=>by have:=a x g h.1;have:=h.2;omega)]
  simp
 |K+1=>by
  have i:=zci f a c K
  have b:=(J8 (P:=fun x=>P x/\f x<(K:Int)) (Q:=fun x=>P x/\f x=(K:Int)) (R:=fun x=>P x/\f x<((K+1:Nat):Int)) (ns:=ns) (fun x _=>⟨fun h=>by
   by_cases e:f x=(K:Int)
   ·exact .inr ⟨h.1,e⟩
   ·exact .inl ⟨h.1,by have:=h.2;omega⟩,fun h=>h.elim (fun h=>⟨h.1,by have:=h.2;omega⟩) (fun h=>⟨h.1,by have:=h.2;omega⟩)⟩) (fun x _ h=>by have b:=h.1.2;have d:=h.2.2;omega)).1
  have d:=c (K:Int)
  rw[b]
  omega
theorem zdB{A B:Nm->Prop}[DecidablePred A][DecidablePred B]{ns:List Nm}(h:∀x∈ns,A x->B x):qW A ns<=qW B ns:=by
 have d:=(J8 (P:=A) (Q:=fun x=>B x/\¬A x) (R:=B) (ns:=ns) (fun x c=>⟨fun b=>by
  by_cases a:A x
  ·exact .inl a
  ·exact .inr ⟨b,a⟩,fun e=>e.elim (fun a=>h x c a) (fun e=>e.1)⟩) (fun x _ e=>e.2.2 e.1)).1
 have f:=(qP (P:=fun x=>B x/\¬A x) ns).1
 omega
theorem zef{c:Cf}{ep:Int}{m m':MS}{ns d:List Nm}(E:c.ok)(D:yL c ep m ns m' d)(i:yd c m'.now m'.L m'.Gl)(B:ZI c m' d)(b:∀s:Sg,qW (fun x=>zF c (-1) x=s) ns<=400):∀s:Sg,qW (fun x=>zF c (-1) x=s) d<=400:=by
 intro s
 cases D with
 |added x I K N O R=>
  by_cases e:zF c (-1) x=s
  ·have r:s∈zn (yu c m.L x):=by
    unfold yu
    rw[Qq]
    left
    unfold qN
    rw[xJ]
    exact .inr e.symm
   obtain⟨p,a,h⟩:=List.mem_map.1 r
   have o:p.1.t= -1:=by rw[h,<-e];rfl
   have j:=i.cnt E p a o
   have G:=(i.raw p a o).1
   have A:=(B.cell p a (by omega)).cnt
   have l:=(kP (P:=fun x=>zF c (-1) x=s) (Q:=fun x=>zF c p.1.t x=p.1) (ns:=ns++[x]) (fun y _=>by rw[o,h])).1
   rw[l,<-A];exact j
  ·rw[(Z6 x ns).1,if_neg e]
   have:=b s;omega
 |same=>exact b s
 |ticked n z f w hn u S T a=>exact b s
 |taken p slot a F=>exact b s
 |failed t g x q v=>exact b s
 |rolled t g H se ti rest k f q v r a=>exact b s
 |reclaimed t g H se ti rest f q v a=>exact b s
theorem jO.rinv{c:Cf}{m:MS}{ns:List Nm}{txt:ByteArray}(d:c.ok){N:Nat}(n:(N:Int)<9223372036854775808)(h:jO c 1 m ns txt):ns.length<=N->ZI c m ns:=by
 have i:=h.fits
 induction h with
 |start m ns txt o v t p j=>intro _;obtain⟨rfl,rfl,rfl⟩:=j rfl;exact ZI.start c 0
 |laid m ns txt m' g xs h a w l k s q r b=>intro e;have f:=z7 a.more e;exact ZI.act d i (h.sok d) (b f) (by omega) a
 |quiet m ns txt m' g h a hn l k b=>intro e;have f:=z7 a.more e;exact ZI.act d i (h.sok d) (b f) (by omega) a
 |anew m ns txt x h u b=>exact b
theorem jO.raw400{c:Cf}{m:MS}{ns:List Nm}{txt:ByteArray}(d:c.ok){N:Nat}(g:(N:Int)<9223372036854775808)(h:jO c 1 m ns txt):ns.length<=N->∀s:Sg,qW (fun x=>zF c (-1) x=s) ns<=400:=by
 induction h with
 |start m ns txt q w u r p=>intro _ s;obtain⟨rfl,rfl,rfl⟩:=p rfl;simp[qW]
 |laid m ns txt m' a xs h b t k j o l n i=>
  intro f
  have e:jO c 1 m' a (txt++(xS m'.now xs++nl)):=.laid m ns txt m' a xs h b t k j o l n
  exact zef d b (e.sok d).ok.seg (e.rinv d g f) (i (z7 b.more f))
 |quiet m ns txt m' a h b hn k j i=>
  intro f
  have e:jO c 1 m' a txt:=.quiet m ns txt m' a h b hn k j
  exact zef d b (e.sok d).ok.seg (e.rinv d g f) (i (z7 b.more f))
 |anew m ns txt y h v i=>exact i
theorem jO.cntOk{c:Cf}{m:MS}{ns:List Nm}{txt:ByteArray}(g:c.ok){N:Nat}(b:(N:Int)<9223372036854775808)(h:jO c 1 m ns txt)(n:ns.length<=N):zmP m:=fun p q u=>by
 have f:=h.rinv g b n
 have d:=h.raw400 g b n
 have v:=(f.cell p q (by omega)).cnt
 have k:c.wh (-1)=c.wi:=by unfold Cf.wh zP;simp
 have j:=g.wh (t:= -1) (by omega) (by omega)
 rw[k]at j
 have o:=(h.sok g).ok.now
 constructor
 ·obtain⟨x,a,e⟩:=f.has p.1 (Ze q)
  have A:qW (fun x=>zF c p.1.t x=p.1) ns≠0:=fun s=>(qq.1 s) x a e
  have:=(qP (P:=fun x=>zF c p.1.t x=p.1) ns).1
  omega
 ·have z:=zci (P:=fun x=>zF c p.1.t x=p.1) (fun x=>x.tm/c.wi) (ns:=ns) (fun x a _=>Int.ediv_nonneg (f.tm x a).1 (by omega)) (fun w=>by
   refine Int.le_trans (zdB (B:=fun x=>zF c (-1) x=⟨-1,p.1.sr,w⟩) (fun x a h=>?_)) (d _)
   have r:x.sr=p.1.sr:=congrArg Sg.sr h.1
   unfold zF
   rw[k,h.2,r]) 100001
  have i:=(kP (P:=fun x=>zF c p.1.t x=p.1) (Q:=fun x=>zF c p.1.t x=p.1/\x.tm/c.wi<((100001:Nat):Int)) (ns:=ns) (fun x a=>⟨fun h=>⟨h,by
   have l:=f.tm x a
   have y:x.tm/c.wi<=x.tm:=Int.ediv_le_self _ l.1
   have u:=l.2.1
   show x.tm/c.wi<100001
   omega⟩,fun h=>h.1⟩)).1
  rw[v,i]
  omega
theorem jO.read{c:Cf}{m:MS}{ns:List Nm}{txt:ByteArray}(d:c.ok)(h:jO c 1 m ns txt)(f:ns.length<=4398046511104):∃a:List Rw,txt=xz a/\(xC a).now=m.now/\qD ((xC a).Gl,(xC a).L) (m.Gl,m.L)/\∀r∈a,YE c r:=
 h.rowsR d (N:=4398046511104) (fun m ns txt e b=>e.cntOk d (N:=4398046511104) (by decide) b) f
theorem VK{L:LV}(h:(zn L).Nodup):L.Nodup:=by
 unfold zn at h
 rw[List.nodup_iff_pairwise_ne]at h ⊢
 rw[List.pairwise_map]at h
 exact h.imp (fun a e=>a (congrArg Prod.fst e))
theorem VJ{G:List (Sg×Unit)}(h:(zj G).Nodup):G.Nodup:=by
 unfold zj at h
 rw[List.nodup_iff_pairwise_ne]at h ⊢
 rw[List.pairwise_map]at h
 exact h.imp (fun a e=>a (congrArg Prod.fst e))
theorem qD.perm{q1 q2:List (Sg×Unit)×LV}(h:qD q1 q2):q1.2.Perm q2.2/\q1.1.Perm q2.1:=by
 refine⟨(List.perm_ext_iff_of_nodup (VK h.n1) (VK h.n2)).2 (fun p=>?_),(List.perm_ext_iff_of_nodup (VJ h.g1) (VJ h.g2)).2 (fun p=>?_)⟩
 ·obtain⟨k,v⟩:=p
  rw[<-XN h.n1,<-XN h.n2,h.live]
 ·obtain⟨k,u⟩:=p
  have c:(k,u)∈q1.1↔k∈zj q1.1:=⟨fun a=>List.mem_map.2 ⟨_,a,rfl⟩,fun a=>by obtain⟨g,b,rfl⟩:=List.mem_map.1 a;exact b⟩
  have d:(k,u)∈q2.1↔k∈zj q2.1:=⟨fun a=>List.mem_map.2 ⟨_,a,rfl⟩,fun a=>by obtain⟨g,b,rfl⟩:=List.mem_map.1 a;exact b⟩
  rw[c,d,h.gone]
theorem yd.perm{c:Cf}{now:Int}{L b:LV}{G f:List (Sg×Unit)}(h:yd c now L G)(g:b.Perm L)(l:f.Perm G):yd c now b f:=by
 have d:∀p,p∈b↔p∈L:=fun p=>g.mem_iff
 have n:∀k,k∈zn b↔k∈zn L:=fun k=>(g.map (·.1)).mem_iff
 have j:∀k,k∈zj f↔k∈zj G:=fun k=>(l.map (·.1)).mem_iff
 have q:(zn b).Nodup:=by unfold zn;exact(g.map (fun p:Sg×SV=>p.1)).nodup_iff.2 h.nl
 have o:(zj f).Nodup:=by unfold zj;exact(l.map (fun p:Sg×Unit=>p.1)).nodup_iff.2 h.ng
 refine⟨fun p a=>h.inr p ((d p).1 a),q,fun p a=>h.raw p ((d p).1 a),fun p a=>h.tier p ((d p).1 a),fun p a i=>h.disj p ((d p).1 a) ((j _).1 i),o,fun p a=>h.pubc p ((d p).1 a),fun k i=>h.goc k ((j k).1 i),fun p a m=>?_,?_⟩
 ·rw[n,j];exact h.above p ((d p).1 a) m
 ·have e:zJ b=zJ L:=vt (g.map _)
  rw[e];exact h.used
theorem SOk.back{c:Cf}{m m':MS}{nn:Nat}{a:Int}(h:SOk c 1 m nn)(hn:m'.now=m.now)(l:qD (m'.Gl,m'.L) (m.Gl,m.L))(i:m'.TL=[])(b:m'.QL=[])(j:m'.num=0):SOk c a m' nn:=by
 obtain⟨g,n⟩:=l.perm
 refine⟨⟨by rw[hn];exact h.ok.now,by rw[hn];exact h.ok.seg.perm g n,(by rw[i];intro p f;cases f),(by rw[i];exact List.nodup_nil),(by rw[b];intro p f;cases f),(by rw[b];exact List.nodup_nil),(by rw[b];exact List.nodup_nil),by omega⟩,fun k d=>h.gin k ((l.gone k).1 d),fun k d=>h.lin k ((g.map (·.1)).mem_iff.1 d),?_⟩
 have e:Xh m'.L=Xh m.L:=vt (g.map _)
 rw[e];exact h.held
theorem qD.symm{q1 q2:List (Sg×Unit)×LV}(h:qD q1 q2):qD q2 q1:=⟨h.n2,h.n1,h.g2,h.g1,fun k=>(h.live k).symm,fun k=>(h.gone k).symm⟩
theorem qD.trans{q1 q2 b:List (Sg×Unit)×LV}(h:qD q1 q2)(a:qD q2 b):qD q1 b:=⟨h.n1,a.n2,h.g1,a.g2,fun k=>(h.live k).trans (a.live k),fun k=>(h.gone k).trans (a.gone k)⟩
theorem qD.st1{q1 q2:List (Sg×Unit)×LV}(h:qD q1 q2):stL q1.2=stL q2.2:=funext fun k=>by
 have:yY q1.2 k=yY q2.2 k:=h.live k
 unfold Go.Proofs.YtndhpgciopcncaaGreatDoor.stL;rw[this]
theorem qD.keys{q1 q2:List (Sg×Unit)×LV}(h:qD q1 q2)(k:Sg):k∈zn q1.2↔k∈zn q2.2:=(h.perm.1.map (·.1)).mem_iff
theorem qD.query{c:Cf}{now:Int}{q1 q2:List (Sg×Unit)×LV}(h:qD q1 q2)(t sr wn:Int):qS c now q1.1 q1.2 t sr wn=qS c now q2.1 q2.2 t sr wn:=by
 have e:stG q1.1 q1.2 ⟨t,sr,wn⟩=stG q2.1 q2.2 ⟨t,sr,wn⟩:=by
  by_cases a:(⟨t,sr,wn⟩:Sg)∈zj q1.1
  ·have b:=(h.gone _).1 a
   obtain⟨p,k,f⟩:=List.mem_map.1 a
   obtain⟨l,d,g⟩:=List.mem_map.1 b
   have i:zD q1.1 ⟨t,sr,wn⟩=J p.2:=f▸xp h.g1 k
   have j:zD q2.1 ⟨t,sr,wn⟩=J l.2:=g▸xp h.g2 d
   unfold stG;rw[i,j]
  ·rw[Yz a,Yz (fun e=>a ((h.gone _).2 e)),h.st1]
 unfold qS;rw[e]
def kZ(c:Cf)(m:MS):Prop:=∃a:List (Sg×Unit),(∀x,x∈zj a↔∃k,k∈zn m.L/\(stL m.L k).st=2/\x∈yI c k)/\∀k:Jk,k∈zj m.TL↔∃s∈zn m.L,(yR c a m.L m.now s=true/\k=⟨1,s⟩)\/(yQ c m.L m.now s=true/\k=⟨2,s⟩)
theorem kZ.of{c:Cf}{ep:Int}{m:MS}{ns:List Nm}(f:c.ok)(g:c.fits)(d:MOk c ep m)(h:ZI c m ns)(b:X8 c m):kZ c m:=by
 obtain⟨l,e,n,o⟩:=b
 refine⟨l,e,fun k=>⟨fun q=>?_,?_⟩⟩
 ·obtain⟨p,b,rfl⟩:=List.mem_map.1 q
  have i:=d.td p b
  refine⟨p.2.s,i.mem,?_⟩
  rw[i.key]
  unfold Tsk.key Tsk.kd
  by_cases a:p.2.rl=true
  ·exact .inl ⟨zdY f g d h e b a,by rw[if_pos a]⟩
  ·exact .inr ⟨zdX f g d h b (by simpa using a),by rw[if_neg a]⟩
 ·rintro⟨s,j,⟨a,rfl⟩|⟨a,rfl⟩⟩
  ·exact n s j a
  ·exact o s j a
theorem kZ.new{c:Cf}{m:MS}(h:xA c {m with TL:=[]} m.TL):kZ c m:=by
 obtain⟨i,j,-,f⟩:=xA.get (m:={m with TL:=[]}) List.nodup_nil h
 refine⟨i,j,fun k=>?_⟩
 constructor
 ·intro g
  obtain⟨p,n,rfl⟩:=List.mem_map.1 g
  obtain⟨x,l⟩:∃x,zD m.TL p.1=J x:=by
   cases e:zD m.TL p.1 with
   |none=>exact absurd g (xr.1 e)
   |some x=>exact⟨x,rfl⟩
  rcases(f _ _).1 l with e|⟨-,s,b,⟨a,d,-⟩|⟨a,d,-⟩⟩
  ·cases e
  ·exact⟨s,b,.inl ⟨a,d⟩⟩
  ·exact⟨s,b,.inr ⟨a,d⟩⟩
 ·rintro⟨s,b,⟨a,rfl⟩|⟨a,rfl⟩⟩
  ·exact List.mem_map.2 ⟨_,zB ((f _ _).2 (.inr ⟨rfl,s,b,.inl ⟨a,rfl,rfl⟩⟩)),rfl⟩
  ·exact List.mem_map.2 ⟨_,zB ((f _ _).2 (.inr ⟨rfl,s,b,.inr ⟨a,rfl,rfl⟩⟩)),rfl⟩
theorem kZ.same{c:Cf}{m m':MS}(h:kZ c m)(o:kZ c m')(hn:m.now=m'.now)(i:qD (m.Gl,m.L) (m'.Gl,m'.L))(k:Jk):k∈zj m.TL↔k∈zj m'.TL:=by
 obtain⟨b,r,t⟩:=h
 obtain⟨a,e,f⟩:=o
 have d:stL m.L=stL m'.L:=i.st1
 have g:∀k,k∈zn m.L↔k∈zn m'.L:=i.keys
 have j:∀s,zD b s=z9↔zD a s=z9:=fun s=>by
  rw[xr,xr,r,e,d];simp only[g]
 have n:∀s,yR c b m.L m.now s=yR c a m'.L m'.now s:=fun s=>by
  unfold yR;rw[d,hn]
  congr 2
  have:=j s
  cases p:zD b s<;>cases q:zD a s<;>simp[p,q]at this ⊢
 have l:∀s,yQ c m.L m.now s=yQ c m'.L m'.now s:=fun s=>by
  unfold yQ Za;rw[d,hn]
 rw[t,f];simp only[n,l,g]
def Z0(k:Jk):Tsk:=⟨decide (k.kd=1),k.s,0,0,0⟩
theorem kA(x:Tsk):(Z0 x.key).kd=x.kd/\(Z0 x.key).s=x.s:=by
 obtain⟨c,s,a,b,d⟩:=x
 cases c<;>exact⟨rfl,rfl⟩
theorem zne(x y:Tsk):qp (Z0 x.key) (Z0 y.key)=qp x y:=by
 unfold qp;rw[(kA x).1,(kA x).2,(kA y).1,(kA y).2]
theorem zaO{TL:List (Jk×Tsk)}{a:List Tsk}(h:vY TL a)(b:∀p∈TL,p.1=p.2.key):(a.map Tsk.key).Perm (zj TL):=by
 refine(h.perm.map _).trans ?_
 rw[List.map_map]
 unfold zj
 have e:TL.map (Tsk.key∘fun p=>p.2)=TL.map (·.1):=List.map_congr_left (fun p c=>(b p c).symm)
 rw[e]
theorem zia{TL d:List (Jk×Tsk)}{g c:List Tsk}(h:vY TL g)(w:vY d c)(F:∀p∈TL,p.1=p.2.key)(m:∀p∈d,p.1=p.2.key)(hn:(zj TL).Nodup)(q:(zj d).Nodup)(H:∀k,k∈zj TL↔k∈zj d):g.length=c.length/\∀(i:Nat) (x x':Tsk),g[i]?=J x->c[i]?=J x'->x.kd=x'.kd/\x.s=x'.s:=by
 have z:(g.map Tsk.key).Perm (c.map Tsk.key):=(zaO h F).trans (((List.perm_ext_iff_of_nodup hn q).2 H).trans (zaO w m).symm)
 have r:((g.map Tsk.key).map Z0).Perm ((c.map Tsk.key).map Z0):=z.map _
 have f:∀{l:List Tsk},l.Pairwise (fun a b=>¬qp b a<0)->((l.map Tsk.key).map Z0).Pairwise (fun a b=>¬qp b a<0):=fun G=>by
  rw[List.map_map,List.pairwise_map]
  exact G.imp (fun{a b} j=>by show¬qp (Z0 b.key) (Z0 a.key)<0;rw[zne];exact j)
 have e:=VV r (f h.sorted) (f w.sorted) (fun a D b E e=>by
  obtain⟨k,n,rfl⟩:=List.mem_map.1 D
  obtain⟨K,o,rfl⟩:=List.mem_map.1 E
  obtain⟨x,-,rfl⟩:=List.mem_map.1 n
  obtain⟨y,-,rfl⟩:=List.mem_map.1 o
  have A:(Z0 x.key).key=x.key:=by unfold Tsk.key;rw[show(Z0 ⟨x.kd,x.s⟩).kd=x.kd from(kA x).1,show(Z0 ⟨x.kd,x.s⟩).s=x.s from(kA x).2]
  have B:(Z0 y.key).key=y.key:=by unfold Tsk.key;rw[show(Z0 ⟨y.kd,y.s⟩).kd=y.kd from(kA y).1,show(Z0 ⟨y.kd,y.s⟩).s=y.s from(kA y).2]
  rw[A,B]at e;rw[e])
 refine⟨by simpa using z.length_eq,fun i x x' I t=>?_⟩
 have u:=congrArg (fun l:List Tsk=>l[i]?) e
 simp only[List.getElem?_map,I,t,Option.map_some]at u
 have v:Z0 x.key=Z0 x'.key:=Option.some.inj u
 exact⟨by rw[<-(kA x).1,<-(kA x').1,v],by rw[<-(kA x).2,<-(kA x').2,v]⟩
structure kF(c:Cf)(m m':MS):Prop where
 now:m.now=m'.now
 seg:qD (m.Gl,m.L) (m'.Gl,m'.L)
 job:∀k,k∈zj m.TL↔k∈zj m'.TL
theorem kF.symm{c:Cf}{m m':MS}(h:kF c m m'):kF c m' m:=⟨h.now.symm,h.seg.symm,fun k=>(h.job k).symm⟩
theorem kF.trans{c:Cf}{m m' m2:MS}(h:kF c m m')(a:kF c m' m2):kF c m m2:=⟨h.now.trans a.now,h.seg.trans a.seg,fun k=>(h.job k).trans (a.job k)⟩
theorem kF.used{c:Cf}{m m':MS}(h:kF c m m'):zJ m.L=zJ m'.L:=vt (h.seg.perm.1.map _)
theorem kF.count{c:Cf}{m m':MS}(h:kF c m m')(k:Int):xR m.L k=xR m'.L k:=vt (h.seg.perm.1.map _)
theorem kF.gl{c:Cf}{m m':MS}(h:kF c m m'):m.Gl.length=m'.Gl.length:=h.seg.perm.2.length_eq
theorem kF.query{c:Cf}{m m':MS}(h:kF c m m')(t sr wn:Int):qS c m.now m.Gl m.L t sr wn=qS c m'.now m'.Gl m'.L t sr wn:=by
 rw[h.now];exact h.seg.query t sr wn
theorem yh.alike{c:Cf}{ep A:Int}{m m':MS}{r:RM}(h:yh c ep m r)(f:yh c A m' r)(D:∀x∈vA m.L m.Gl,okN x)(E:∀x∈vA m'.L m'.Gl,okN x):kF c m m':=by
 have w:∀{ep:Int} {m:MS},yh c ep m r->∀s,s∈zn m.L↔s∈xb r.c r.nu/\¬s∈r.gone:=fun{ep m} h s=>by
  constructor
  ·intro p
   exact⟨(h.segs s).2 (.inl p),fun e=>h.sok.ok.seg.disj _ (zU p) (h.inGl.1 e)⟩
  ·rintro⟨i,g⟩
   exact((h.segs s).1 i).resolve_right (fun e=>g (h.inGl.2 e))
 have G:∀{ep:Int} {m:MS},yh c ep m r->(∀x∈vA m.L m.Gl,okN x)->∀s,s∈zn m.L->stL m.L s=if s.t= -1 then⟨1,qi r.c s r.nu⟩else if s∈r.pub then⟨3,qi r.c s r.nu⟩else⟨2,qt⟩:=fun{ep m} h D s p=>by
  have d:=zU p
  have B:=h.sok.ok.mem_inR p
  by_cases F:s.t= -1
  ·have i:=(h.sok.ok.seg.raw _ d F).1
   have g:=h.raw d (by omega)
   rw[if_pos F]
   dsimp only at i g
   generalize Go.Proofs.YtndhpgciopcncaaGreatDoor.stL m.L s=v at i g
   obtain⟨a,b⟩:=v
   dsimp only at i g
   rw[i,g]
  ·have i:=h.sok.ok.seg.tier _ d (by have:=B.2.1;show 0<=s.t;omega)
   have u:s∈r.pub↔(Go.Proofs.YtndhpgciopcncaaGreatDoor.stL m.L s).st=3:=by
    rw[h.inPub]
    constructor
    ·rintro(⟨v,hv,e⟩|⟨-,e⟩)
     ·rw[jD h.sok.ok.seg.nl d hv];exact e
     ·exact absurd e (h.sok.ok.seg.disj _ d)
    ·intro e;exact .inl ⟨_,d,e⟩
   have n:=D _ (List.mem_append_left _ d)
   have g:=h.raw d
   unfold okN at n
   rw[if_neg F]
   dsimp only at i g n
   generalize Go.Proofs.YtndhpgciopcncaaGreatDoor.stL m.L s=v at i g n u
   obtain⟨a,b⟩:=v
   dsimp only at i g n u
   by_cases e:a=3
   ·rw[if_pos (u.2 e),g (by omega),e]
   ·rw[if_neg (fun H=>e (u.1 H)),n (.inl (by omega)),show a=2 by omega]
 have l:qD (m.Gl,m.L) (m'.Gl,m'.L):=by
  refine⟨h.sok.ok.seg.nl,f.sok.ok.seg.nl,h.sok.ok.seg.ng,f.sok.ok.seg.ng,fun k=>?_,fun k=>h.inGl.symm.trans f.inGl⟩
  show yY m.L k=yY m'.L k
  by_cases o:k∈zn m.L
  ·have j:=(w f k).2 ((w h k).1 o)
   obtain⟨v,hv,-⟩:=Ql o
   obtain⟨K,q,-⟩:=Ql j
   have y:=G h D k o
   have z:=G f E k j
   unfold Go.Proofs.YtndhpgciopcncaaGreatDoor.stL at y z
   rw[hv]at y
   rw[q]at z
   have I:v=K:=y.trans z.symm
   rw[hv,q,I]
  ·have j:k∉zn m'.L:=fun e=>o ((w h k).2 ((w f k).1 e))
   rw[qR.2 o,qR.2 j]
 have hn:m.now=m'.now:=h.tie.now.symm.trans f.tie.now
 exact⟨hn,l,fun k=>(kZ.of h.ok h.fits h.sok.ok h.tie.inv h.comp).same (kZ.of f.ok f.fits f.sok.ok f.tie.inv f.comp) hn l k⟩
theorem kF.again{c:Cf}{ep:Int}{m m2:MS}{r:RM}(h:yh c ep m r)(hn:m2.now=m.now)(a:qD (m2.Gl,m2.L) (m.Gl,m.L))(b:xA c {m2 with TL:=[]} m2.TL):kF c m2 m:=
 ⟨hn,a,fun k=>(kZ.new b).same (kZ.of h.ok h.fits h.sok.ok h.tie.inv h.comp) hn a k⟩
theorem zeV(e:Nat)(txt:ByteArray)(keep:Int):zck (jS e txt) keep=jS e txt:=by
 have h:∀(a d:ByteArray),leftOf keep ⟨a,d,d.size⟩=⟨a,d,d.size⟩:=fun a d=>by
  by_cases c:keep<((d.size:Int)-d.size)
  ·rw[VD (f:=⟨a,d,d.size⟩) (z5 _) (by omega) c]
   rw[zhD]
  ·rw[VC (f:=⟨a,d,d.size⟩) (z5 _) c]
 unfold zck jS
 simp only[List.map_cons,List.map_nil,h]
 have b:=h yg (qZ e)
 rw[Zy]at b
 rw[b]
theorem zov(e:Nat)(txt:ByteArray):Q7 (jS e txt) 0=⟨(jS e txt).files,0,false⟩:=by
 unfold Q7
 rw[(yb (S:=jS e txt) rfl rfl).1];rfl
theorem zeM(f:List FS):Yf ⟨f,0,false⟩=false:=rfl
theorem zkh{e N:Nat}{txt:ByteArray}(a:e<=N)(b:txt.size<=N)(c:2<=N):DOk ⟨(jS e txt).files,0,false⟩ N:=
 have h:=zdu a b c
 ⟨by show(-1:Int)<=0;omega,by show(0:Int)<=9223372036854775807;omega,h.2.2.1,h.2.2.2⟩
theorem jO.few{c:Cf}{m:MS}{ns:List Nm}{txt:ByteArray}(g:c.ok)(h:jO c 1 m ns txt):ns.length<=160001600:=by
 have u:c.wh (-1)=c.wi:=by unfold Cf.wh zP;simp
 have p:=g.wh (t:= -1) (by omega) (by have:=g.n1;omega)
 rw[u]at p
 have step:∀{m:MS} {ns:List Nm} {txt:ByteArray},jO c 1 m ns txt->ns.length<=160001601->ns.length<=160001600:=fun{m ns txt} k v=>by
  have i:=k.raw400 g (N:=160001601) (by decide) v
  have n:=k.rinv g (N:=160001601) (by decide) v
  have A:=zci (P:=fun _=>True) (fun x=>4*(x.tm/c.wi)+x.sr) (ns:=ns) (fun x a _=>by
   have d:=n.tm x a
   have D:=Int.ediv_nonneg d.1 (show 0<=c.wi by omega)
   show 0<=4*(x.tm/c.wi)+x.sr
   omega) (fun w=>by
   refine Int.le_trans (zdB (B:=fun x=>zF c (-1) x=⟨-1,w%4,w/4⟩) (fun x a h=>?_)) (i _)
   have d:=n.tm x a
   have E:4*(x.tm/c.wi)+x.sr=w:=h.2
   unfold zF
   rw[u,show x.sr=w%4 by omega,show x.tm/c.wi=w/4 by omega]) 400004
  have f:qW (fun x=>True/\4*(x.tm/c.wi)+x.sr<((400004:Nat):Int)) ns=ns.length:=J7 (fun x a=>⟨trivial,by
   have d:=n.tm x a
   have F:x.tm/c.wi<=x.tm:=Int.ediv_le_self _ d.1
   have G:=(k.sok g).ok.now
   show 4*(x.tm/c.wi)+x.sr<400004
   omega⟩)
  rw[f]at A
  omega
 induction h with
 |start m ns txt y K H z d=>obtain⟨rfl,rfl,rfl⟩:=d rfl;simp
 |laid m ns txt m' b xs h e a l j r o q s=>
  have:=e.nu
  exact step (.laid m ns txt m' b xs h e a l j r o q) (by omega)
 |quiet m ns txt m' b h e hn l j s=>
  have:=e.nu
  exact step (.quiet m ns txt m' b h e hn l j) (by omega)
 |anew m ns txt L h I s=>exact s
theorem zy.jrn{w:C}{i:Ids}{c:Cf}{ep:Int}{m:MS}(h:zy w i c ep m):∃fs txt ns,zbW w i.d (jS ep.toNat txt) fs/\jO c ep m ns txt/\txt.size<=300000000000/\ep<=1000000000/\∀k,foot i.d fs k->zG w i k:=by
 obtain⟨q,txt,ns,a⟩:=h
 obtain⟨fs,f⟩:=a.at_.jrn
 have b:=f.disk
 rw[a.dsk]at b
 have j:=a.tx;have l:=a.st
 refine⟨fs,txt,ns,b,a.hist,by omega,a.e1.2,fun k g=>?_⟩
 rcases g with e|e
 ·exact .inl (.inr (.inr (.inr (.inr e))))
 ·exact .inr (f.fsB.trans e)
theorem zlL(c:List Rw):zeW (xz c)=(xz c).size:=by
 have j:=(zhz (xz c)).2
 by_cases d:c=[]
 ·subst d
  have:(xz []).size=0:=rfl
  omega
 ·obtain⟨l,r,rfl⟩:∃l r,c=l++[r]:=⟨_,_,(List.dropLast_concat_getLast d).symm⟩
  obtain⟨a,b⟩:∃a:List UInt8,(xz (l++[r])).data=(a++[10]).toArray:=⟨l.flatMap Vc++Xn r.1 r.2,by simp[xz,Vc]⟩
  have m:(xz (l++[r])).size=a.length+1:=by show(xz (l++[r])).data.size=_;rw[b];simp
  have f:(((xz (l++[r])).data[a.length]!).toNat:Int)=10:=by rw[b];simp
  unfold zeW Lib.lastIndexByte
  rcases Lib.lastIdx_spec (xz (l++[r])) 10 (xz (l++[r])).size with⟨_,h⟩|⟨i,k,h,_,g⟩
  ·exact absurd f (h a.length (by omega))
  ·rw[h]
   by_cases e:i=a.length
   ·omega
   ·exact absurd f (g a.length (by omega) (by omega))
theorem zkC(a:List Rw):(xz a).extract 0 (zeW (xz a))=xz a:=by
 rw[zlL]
 apply ByteArray.ext
 rw[ByteArray.data_extract]
 show(xz a).data.extract 0 (xz a).data.size=(xz a).data
 first|exact Array.extract_size|exact Array.extract_size _|exact Array.extract_eq_self_of_le (z5 _)|simp
theorem zda(a:List Rw):(xC a).TL=[]/\(xC a).QL=[]/\(xC a).num=0:=by
 have h:∀(a:List Rw) (m:MS),(a.foldl (fun m r=>m.took r.1 r.2) m).TL=m.TL/\(a.foldl (fun m r=>m.took r.1 r.2) m).QL=m.QL/\(a.foldl (fun m r=>m.took r.1 r.2) m).num=m.num:=by
  intro a
  induction a with
  |nil=>intro m;exact⟨rfl,rfl,rfl⟩
  |cons r a b=>intro m;exact b (m.took r.1 r.2)
 exact h a ms0
theorem zcP(c:Cf)(t:c.ok)(Y:c.fits)(hr:xW c.s c.le c.la c.wi c.ke c.qu c.n c.F c.W c.K=true)(a:Option Addr)(cap p:Nat)(fs:Value)(w:C){m:MS}{ns:List Nm}{txt:ByteArray}(u:jO c 1 m ns txt)(hN:ns.length<=4398046511104)(a4:txt.size<=300000000000)(hd:zbW w p (jS 1 txt) fs)(S:∀w',zh (foot p fs) w w'->TS w' a c.n c.F c.W c.K)(z:Qe w)(R:∀k,foot p fs k->k≠Y4)(q:Y8 w)(v:∀k,foot p fs k->k≠zeK):
  Calls prog 29 #[(cZz c a cap),(O p)] w fun e w'=>∃(i:Ids) (m2:MS),i.d=p/\e=.returned (.tuple #[(O i.x),I 0])/\zy w' i c 2 m2/\m2.now=m.now/\qD (m2.Gl,m2.L) (m.Gl,m.L)/\m2.QL=[]/\m2.num=0/\xA c {m2 with TL:=[]} m2.TL/\zh (foot p fs) w w'/\∀k,zG w' i k->foot p fs k\/w.1.size<=k:=by
 obtain⟨f,e,D,E,e4⟩:=u.read t hN
 obtain⟨A,b2,b3⟩:=zpa 1 txt
 obtain⟨T,t2,t3⟩:=zda f
 have hs:=u.sok t
 have b:SOk c 2 (xC f) ns.length:=hs.back D E T t2 t3
 obtain⟨p1,p2⟩:=E.perm
 have j:∀x,x∈vA (xC f).L (xC f).Gl->x∈vA m.L m.Gl:=fun x l=>by
  rcases List.mem_append.1 l with l|l
  ·exact List.mem_append_left _ (p1.mem_iff.1 l)
  ·obtain⟨g,hg,rfl⟩:=List.mem_map.1 l
   exact List.mem_append_right _ (List.mem_map.2 ⟨g,p2.mem_iff.1 hg,rfl⟩)
 have hT:(yJ (ZK (jS 1 txt)) yk).extract 0 (zeW (yJ (ZK (jS 1 txt)) yk))=xz f:=by rw[A,ziY,e,zkC]
 have G:Xz c ((yJ (ZK (jS 1 txt)) yk).extract 0 (zeW (yJ (ZK (jS 1 txt)) yk))) (xC f) (fun i W=>Y8 W/\∀k,zG W i k->k≠zeK):=by
  rw[hT];exact zjc c t f e4 (by rw[<-e];omega)
 have a2:=b.ok.seg.len400 t
 have a3:=b.gl t
 refine(zmJ c t hr a cap p (jS 1 txt) fs w hd 400000000000 (by omega) (zdu (by omega) (by omega) (by omega)) b2 S z R (xC f) (fun i W=>Y8 W/\∀k,zG W i k->k≠zeK) (fun i W hk N=>⟨q.kept hk (fun h=>v _ h rfl),fun k P h=>(N k P).elim (fun U=>v k U h) (fun U=>by have:=q.lt;omega)⟩) G (by rw[D];exact hs.ok.now) (fun x l=>u.okA x (j x l)) (by omega) (by omega) b.ok.seg.inr (by rw[T];simp) (fun o Q=>by rw[A];exact(zjg _ _ _).2.1)).mono ?_
 rintro e w' ⟨i,o,r,hi,he,Q,V,X,hK,hF⟩
 obtain⟨r1,r2,r3⟩:=zjg 2 txt (xS (xC f).now o)
 have B:zdy (jS 1 txt)=2:=by rw[b3];rfl
 rw[B]at V
 have y:JO (ZK (jS 1 txt)) (xS (xC f).now o) 0=(xS (xC f).now o).size+1:=by unfold JO;rw[A,r3];rfl
 have a0:=b.ok.now
 have Z:=jG (now:=(xC f).now) (xs:=o) (by unfold xg;omega) (fun x l=>u.okA x (j x (Q.mem_iff.1 l)))
 have h3:o.length=(xC f).L.length+(xC f).Gl.length:=by rw[Q.length_eq];unfold vA;rw[List.length_append,List.length_map]
 have a1:(xS (xC f).now o).size<=1000000000:=by rw[Zh];omega
 have H:SOk c 2 {xC f with TL:=r} ns.length:=⟨(MOk.post t Y b.ok X).1,b.gin,b.lin,b.held⟩
 refine⟨i,{xC f with TL:=r},hi,he,⟨_,xS (xC f).now o++nl,ns,V,rfl,?_,by omega,?_,?_,.start _ _ _ Y H (fun x l=>u.okA x (j x l)) (fun x l=>u.okN x (j x l)) (fun h=>absurd h (by decide))⟩,D,E,t2,t3,?_,hK,hF⟩
 ·show zei (ZK (jS 1 txt)) (xS (xC f).now o)=_;rw[A,r1];rfl
 ·show 0<=JO (ZK (jS 1 txt)) (xS (xC f).now o) 0/\JO (ZK (jS 1 txt)) (xS (xC f).now o) 0<=100000000000;rw[y];omega
 ·show((xS (xC f).now o++nl).size:Int)<=2*JO (ZK (jS 1 txt)) (xS (xC f).now o) 0+4096;rw[y,Qw];omega
 ·have h9:({xC f with TL:=[]}:MS)=xC f:=by rw[<-T]
  show xA c {xC f with TL:=[]} r
  rw[h9];exact X
def zmO(c:Cf)(m:MS)(d:Nat)(fs:Value)(W:C)(e:Ending)(w':C):Prop:=∃(i:Ids) (m2:MS),e=.returned (O i.x)/\i.d=d/\zy w' i c 2 m2/\m2.now=m.now/\qD (m2.Gl,m2.L) (m.Gl,m.L)/\m2.QL=[]/\xA c {m2 with TL:=[]} m2.TL/\zh (foot d fs) W w'/\∀k,zG w' i k->foot d fs k\/W.1.size<=k
theorem zgW{W:C}{B d:Nat}{s:Shp}{c:Cf}{ep:Int}{S m:MS}{sn:Int}{ns:List Nm}{ks:List Tok}{us:List Int}(h:zV W B s c ep S sn ns ks us)(P:xW c.s c.le c.la c.wi c.ke c.qu c.n c.F c.W c.K=true)(R:c.fits){T:List Nm}{txt:ByteArray}{fs:Value}(N:jO c 1 m T txt)(H:txt.size<=300000000000)(D:zbW W d (jS 1 txt) fs)(hn:∀k,foot d fs k->k≠Y4/\k≠zeK)(l:Qe W)(f:Y8 W):
  Calls prog 22 #[(O s.p),(O d)] W (zmO c m d fs W):=by
 have A:=vJ P
 have G:∀k,foot d fs k->k<W.1.size:=fun k a=>by
  rcases a with e|e
  ·rw[e];exact D.lt
  ·obtain⟨Q,j⟩:=zH D.row e;exact zd j
 refine(zgX h A (foot d fs) G (fun x o q=>∃(i:Ids) (m2:MS),x=(U i.x 0)/\i.d=d/\zy q i c 2 m2/\m2.now=m.now/\qD (m2.Gl,m2.L) (m.Gl,m.L)/\m2.QL=[]/\xA c {m2 with TL:=[]} m2.TL/\zh (foot d fs) o q/\∀k,zG q i k->foot d fs k\/o.1.size<=k) (fun o g b I=>?_)).mono ?_
 ·refine(zcP c A R P (J (U g 0)) c.n d fs o N (by have:=N.few A;omega) H (D.later b) I (jv l b) (fun k a=>(hn k a).1) (f.later b) (fun k a=>(hn k a).2)).mono ?_
  rintro e q ⟨i,m2,E,rfl,z,r,t,u,V,v,w,y⟩
  exact⟨_,rfl,i,m2,rfl,E,z,r,t,u,v,w,y⟩
 ·rintro e w' ⟨x,o,rfl,b,i,m2,rfl,E,z,r,t,u,v,w,y⟩
  refine⟨i,m2,rfl,E,z,r,t,u,v,(zh.of_below b).trans w (fun _ _ h=>h),fun k a=>?_⟩
  rcases y k a with e|e
  ·exact .inl e
  ·exact .inr (z7 b.size e)
theorem zy.sok{w:C}{i:Ids}{c:Cf}{ep:Int}{m:MS}(b:c.ok)(h:zy w i c ep m):∃k,SOk c ep m k:=by
 obtain⟨q,txt,ns,a⟩:=h
 exact⟨_,a.hist.sok b⟩
theorem zy.okN{w:C}{i:Ids}{c:Cf}{ep:Int}{m:MS}(h:zy w i c ep m):∀x∈vA m.L m.Gl,okN x:=by
 obtain⟨q,txt,ns,a⟩:=h
 exact a.hist.okN
theorem ziy{w:C}{i:Ids}{c:Cf}{ep:Int}{m:MS}(h:zy w i c ep m)(d:c.ok):
  Calls prog 26 #[(O i.x),I 1] w fun e w'=>∃v m',e=.returned (I v)/\zy w' i c ep m'/\m'.now<=m.now+1/\(m'.now=m.now+1\/m.now+1>100000)/\Kx i w w':=by
 obtain⟨k,a⟩:=h.sok d
 have b:=a.ok.now
 by_cases s:m.now+1<=100000
 ·refine(Qv h d 1 (by omega) ⟨b.1,s⟩ (a.ok.binv d) a.ok.seg.inr (by have:=a.ok.seg.len400 d;omega) (fun T Q r=>by
   have f:=(Jd (ep:=ep) (c:=c) (L:=m.L) (num:=m.num) (show m.now<=m.now+1 by omega) a.ok.td a.ok.nt a.ok.leas a.ok.nq a.ok.jobs r)
   have o:=jE (zj T) (zj m.TL) f.2.1 (fun x t=>(f.2.2.2.2.2.2.2 x).1 t)
   have u:=a.ok.t800 d
   simp[zj]at o
   omega)).mono ?_
  rintro e w' ⟨rfl,n,j,l,q,p,-⟩
  exact⟨0,_,rfl,q,Int.le_refl _,.inl rfl,p⟩
 ·refine(zbb h 1 (.inr (.inr (by omega))) b).mono ?_
  rintro e w' ⟨rfl,g⟩
  exact⟨5,m,rfl,h.later g,by omega,.inr (by omega),h.below g⟩
theorem zlm{w:C}{i:Ids}{c:Cf}{ep:Int}{m:MS}(h:zy w i c ep m)(tm:Int)(d:0<=tm)(g:m.now<tm):
  Calls prog 27 #[(O i.x),I 0,I tm,int i32 5] w (Rz w (I 5)):=by
 obtain⟨-,-,-,-,-,-,-,-,o,-,-⟩:=h.cells
 have l:=h.lt
 have a:=fun W=>ze (XR 0 W ⟨by omega,by omega⟩)
 have f:decide (tm<0)=false:=by simp;omega
 have j:decide (m.now<tm)=true:=by simpa using g
 clear h d
 go_enter func27,ntmps27
 go_wp2_with(first|(go_at_call 60;refine(ud (a _)).mono ?_;rintro e n ⟨rfl,k⟩;have b:=k.symm;subst b)|fail)
 go_ret
 exact⟨rfl,M _ _⟩
theorem zln{w:C}{i:Ids}{c:Cf}{ep:Int}{m:MS}(h:zy w i c ep m)(a:c.ok)(tm:Int)(y:m.now<=tm):
  Calls prog 27 #[(O i.x),I 0,I tm,int i32 5] w fun e w'=>(∃v,e=.returned (I v))/\Kx i w w':=by
 obtain⟨k,d⟩:=h.sok a
 have b:=d.ok.now
 have s:=a.la
 by_cases r:m.now<tm
 ·refine(zlm h tm (by omega) r).mono ?_
  rintro e w' ⟨rfl,o⟩
  exact⟨⟨_,rfl⟩,h.below o⟩
 ·have e:tm=m.now:=by omega
  subst e
  have g:m.now-c.la<=m.now:=by omega
  have j:∀q:Nat,q<c.n->zD m.Gl (qm c 0 m.now q)=z9:=fun q u=>d.ok.not_gone a (x:=⟨0,m.now,5⟩) g (t:=(q:Int)) (by omega) (by omega)
  have l:=d.ok.seg.u0 a
  by_cases f:zJ m.L+(1+2*qO c m.L ⟨0,m.now,5⟩ c.n)<=c.qu
  ·refine(Jy h a 0 m.now 5 (by omega) (by omega) g b.2 (by omega) ⟨l.1,by omega⟩ d.ok.seg.st j f (by have:=d.ok.seg.len400 a;omega) (d.ok.small a)).mono ?_
   rintro e w' ⟨rfl,-,p⟩
   exact⟨⟨_,rfl⟩,p⟩
  ·refine(Kd h a 0 m.now 5 (by omega) (by omega) g b.2 (by omega) ⟨l.1,by omega⟩ d.ok.seg.st j (by omega)).mono ?_
   rintro e w' ⟨rfl,o⟩
   exact⟨⟨_,rfl⟩,h.below o⟩
theorem zem{w:C}{B:Nat}{s:Shp}{c:Cf}{ep e1 e2:Int}{m m1 m2:MS}{sn:Int}{ns:List Nm}{ks:List Tok}{us:List Int}{d1 d2:Bool}{i1 i2:Ids}(h:zV w B s c ep m sn ns ks us)(hx:xG d1 w i1 c e1 m1)(hy:xG d2 w i2 c e2 m2)(A:c.ok)(o1:MOk c e1 m1)(o2:MOk c e2 m2)(b2:∀x∈ns,(0<=x.sr/\x.sr<4)/\0<=x.tm/\x.tm<=100000)(bz:ns.length<4398046511104)(F:kF c m1 m2):
  Calls prog 24 #[(O i1.x),(O i2.x),(O s.p)] w (Rz w (.bool true)):=by
 have aP:=ze (Jz hx A ⟨(o1.seg.u0 A).1,by have:=(o1.seg.u0 A).2;omega⟩ (by have:=o1.seg.len400 A;omega))
 have aq:=fun W (e:z4 w.1.size w W)=>ze (Jz (hy.later e) A ⟨(o2.seg.u0 A).1,by have:=(o2.seg.u0 A).2;omega⟩ (by have:=o2.seg.len400 A;omega))
 rw[<-F.now,<-F.used,<-F.count,<-F.count,<-F.count,<-F.gl]at aq
 have ak:=ze h
 have HX:=ze hx
 have HY:=ze hy
 have b9:=o1.now
 have ba:=o2.now
 have aH:=fun W (e:z4 w.1.size w W)=>ze (ziv (hx.later e) o1.jobs (by have:=o1.t800 A;omega))
 have aI:=fun W (e:z4 w.1.size w W)=>ze (ziv (hy.later e) o2.jobs (by have:=o2.t800 A;omega))
 have aG:Hid (∀ts a0,vY m1.TL ts->vY m2.TL a0->ts.length=a0.length/\∀(i:Nat) (x x':Tsk),ts[i]?=J x->a0[i]?=J x'->x.kd=x'.kd/\x.s=x'.s):=fun ts a0 h1 h2=>zia h1 h2 (fun p hp=>(o1.td p hp).key) (fun p hp=>(o2.td p hp).key) o1.nt o2.nt F.job
 have bb:=ze F
 have be:=ze b2
 have bO:=A.n4
 have bm:=o1.t800 A
 obtain⟨an,cn,b3⟩:=zS h.nrow
 obtain⟨b,bT,cap,aZ,bH,bf⟩:=h.tiers A
 clear h hx hy o1 o2 b2 F bf
 go_enter func24,ntmps24
 go_wp2_with fail
 refine(ud aP).mono ?_
 rintro e V1 ⟨rfl,q⟩
 have G:z4 w.1.size w (V1.alloc (.cells (mZz c m1 e1) 37)):=q.alloc q.size _
 have q1:=zp V1 (.cells (mZz c m1 e1) 37)
 have ay:V1.1.size<(V1.alloc (.cells (mZz c m1 e1) 37)).1.size:=by rw[zN];omega
 have d:=q.size
 have aO:=aq _ G
 have av:=ze G
 have Q1:=ze q1
 clear q G q1 aP aq
 go_wp2_with fail
 generalize(V1.alloc (.cells (mZz c m1 e1) 37))=Z1 at*
 refine(ud aO).mono ?_
 rintro e V2 ⟨rfl,ah⟩
 have q1:=(ah.block _ ay).trans (ud Q1)
 have bi:=z6 ay ah.size
 have b7:=(ud av).trans (ah.mono (ud av).size)
 have aR:=ze b7
 obtain⟨y0,y1,y2,y3,y4,y5,y6,y7,-⟩:=zc q1
 have yf:=fun j=>zv q1 j
 have bk:¬V1.1.size=V2.1.size:=by omega
 have aJ:=ze q1
 clear ah aO q1 b7
 go_wp2_with fail
 have hS:=(ud aR).setCell (p:=(U V1.1.size 3)) d (I 0)
 have HZ:=ze (hS.alloc hS.size (.cells (mZz c m1 0) 37))
 clear hS y0 y1 y2 y3 y4 y5 y6 y7 yf bk aJ av Q1 aR ay bi d
 generalize((V2.setCell (U V1.1.size 3) (I 0)).alloc (.cells (mZz c m1 0) 37))=Z at HZ ⊢
 go_loopw [9,10,11,12,13,14,15] (fun y _ _ _ _ _ _ wr=>∃k:Nat,k<=ns.length/\y=I k/\z4 w.1.size w wr) (fun y _ _ _ _ _ _ _=>ns.length-(intOf y).toNat)
 case atStart=>exact⟨0,za _,rfl,ud HZ⟩
 case round=>
  obtain⟨k,hk,rfl,K⟩:=hrel
  have hS:=(ud ak).later K
  obtain⟨-,-,-,-,-,c8,-,aU,-,-⟩:=hS.cells
  rw[b3]at aU
  rw[aZ]at c8
  have bQ:=hS.lt
  have bN:(ns.length:Int)<4398046511104:=by omega
  have bP:(c.n:Int)<=4:=by omega
  have HB:=ze K
  by_cases bj:k<ns.length
  ·obtain⟨x,hx⟩:=ki bj
   obtain⟨a1,aC,bS⟩:=ud be x (List.mem_of_getElem? hx)
   have aA:=hS.nrow
   rw[b3]at aA
   obtain⟨g,br,hv,_,bI,y0,y1,y2⟩:=zqf aA hx
   have bn:an=J (U g 0):=by injection hv
   subst bn
   have bM:(k:Int)<ns.length:=by omega
   have aY:z4 w.1.size w (wr.alloc (.cells #[I x.sr,I x.tm,int i32 x.val] 87)):=K.alloc K.size _
   have qn:=zp wr (.cells #[I x.sr,I x.tm,int i32 x.val] 87)
   have bq:=zd qn
   have ag:=ze aY
   have QN:=ze qn
   clear hS K aA hv hx aY qn
   go_wp2_with fail
   generalize(wr.alloc (.cells #[I x.sr,I x.tm,int i32 x.val] 87))=X at*
   generalize wr.1.size=N at*
   go_loopw [11,12,13,14,15] (fun y _ _ _ _ wv=>∃j:Nat,j<=c.n+1/\y=I ((j:Int)-1)/\z4 X.1.size X wv) (fun y _ _ _ _ _=>c.n+1-(intOf y+1).toNat)
   case atStart=>exact⟨0,za _,rfl,M _ _⟩
   case round=>
    obtain⟨j,hj,rfl,K⟩:=hrel
    have ai:=(ud ag).trans (K.mono (ud ag).size)
    have hS:=(ud ak).later ai
    obtain⟨-,-,-,-,-,d8,-⟩:=hS.cells
    rw[aZ]at d8
    have bB:=hS.lt
    have qn:=(K.block _ bq).trans (ud QN)
    obtain⟨n0,n1,-⟩:=zc qn
    have o:=zd qn
    have af:=ze K
    have T:=ze hS
    have ar:=ze ((ud HX).later ai)
    have aQ:=ze ((ud HY).later ai)
    clear hS K qn ai
    by_cases bJ:j<c.n+1
    ·have ht: -1<=(j:Int)-1/\(j:Int)-1<c.n:=by omega
     have bL:=ht.2
     have bo:=A.wh ht.1 ht.2
     have aj:0<=x.tm/c.wh ((j:Int)-1)/\x.tm/c.wh ((j:Int)-1)<=100000:=⟨Int.ediv_nonneg aC (by omega),by have:=Int.ediv_le_self (c.wh ((j:Int)-1)) aC;omega⟩
     have bC:IntKind.i64.wrap (x.tm.tdiv (c.wh ((j:Int)-1)))=x.tm/c.wh ((j:Int)-1):=by rw[Int.tdiv_eq_ediv_of_nonneg aC,IntKind.wrap_i64];omega
     have bG:¬c.wh ((j:Int)-1)=0:=by omega
     clear bo
     go_wp2_with fail
     have q:z4 wr.1.size wr (wr.alloc Qd).drew:=((M _ _).alloc (z5 _) _).drew
     have G:wr.1.size<(wr.alloc Qd).drew.1.size:=by show wr.1.size<(wr.alloc Qd).1.size;rw[zN];omega
     have a8:(wr.alloc Qd).drew.1[wr.1.size]?=J (.cells #[I 0,I 0,int i32 0,int i32 0] 115 (0,0)):=zp wr _
     have E:=ze (Kf ((ud ar).later q) A b9 ((j:Int)-1) x.sr (x.tm/c.wh ((j:Int)-1)) ht a1 aj)
     have D:=ze (Kf ((ud ar).later (M _ _).drew) A b9 ((j:Int)-1) x.sr (x.tm/c.wh ((j:Int)-1)) ht a1 aj)
     have a7:=ze (ZG ((ud T).later q) A ((j:Int)-1) ht.1 ht.2)
     have a6:=ze (ZG ((ud T).later (M _ _).drew) A ((j:Int)-1) ht.1 ht.2)
     generalize aW:qS c m1.now m1.Gl m1.L ((j:Int)-1) x.sr (x.tm/c.wh ((j:Int)-1))=Q at E D
     have ap:=ze aW
     have S:=ze q
     have a2:=ze a8
     have b4:¬N=wr.1.size:=by omega
     clear q a8 aW
     obtain⟨⟨Q1,Q2,Q3,Q4⟩,QE⟩:=Q
     dsimp only at E D
     rename_i K1 hK1
     refine(fun R:∀(z:Nat) (Y:C),wr.1.size<=z->Y.1[z]?=J (zpd ⟨Q1,Q2,Q3,Q4⟩)->z4 wr.1.size wr Y->K1 ((?aa:Nat->Act) z) Y=>?main) ?A
     case main=>
      have P:=ze R
      clear R
      go_region_held3 (fun w'=>w'.cell? (U N 0)=J (I x.sr)/\w'.cell? (U N 1)=J (I x.tm)) (first|go_keep|exact⟨(Yx (by assumption)).trans (by assumption),(Yx (by assumption)).trans (by assumption)⟩) (first
       |(go_at_call 58;(first|(with_reducible refine(ud a6).mono ?_)|(with_reducible refine(ud a7).mono ?_));rintro e V0 ⟨rfl,rfl⟩)
       |(go_at_call 57;(with_reducible refine(ud E).mono ?_);rintro e V ⟨rfl,d⟩;have a:z4 wr.1.size wr V:=(ud S).trans (d.mono (ud S).size);have H:=(d.block wr.1.size G).trans (ud a2);obtain⟨z0,z1,z2,z3,-⟩:=zc H;have zf:=fun j=>zv H j;have v0:=(a.cell (p:=(U N 0)) o).trans n0;have v1:=(a.cell (p:=(U N 1)) o).trans n1;have vq:=z6 o a.size;have r:=ze a;have aw:=ze H;clear a d H)
       |(go_at_call 57;(with_reducible refine(ud D).mono ?_);rintro e V ⟨rfl,d⟩;have a:z4 wr.1.size wr V:=Vm d;have v0:=(a.cell (p:=(U N 0)) o).trans n0;have v1:=(a.cell (p:=(U N 1)) o).trans n1;have vq:=z6 o a.size;have bl:¬N=V.1.size:=(by omega);have r:=ze a;clear a d))
      all_goals(first
       |(have hP:=(ud r).alloc (ud r).size (.cells #[I Q1,I Q2,int i32 Q3,int i32 Q4] 115);have u:=zp V (.cells #[I Q1,I Q2,int i32 Q3,int i32 Q4] 115);have hL:=(ud r).size;generalize(V.alloc (.cells #[I Q1,I Q2,int i32 Q3,int i32 Q4] 115))=Y at hP u ⊢;generalize V.1.size=z at u hL ⊢;exact ud P z Y hL u hP)
       |(have hP:=zhl (ud r) (z5 wr.1.size) (I Q1) (I Q2) (int i32 Q3) (int i32 Q4);have u:=Vd (ud aw) (I Q1) (I Q2) (int i32 Q3) (int i32 Q4);have hL:=z5 wr.1.size;generalize((((V.setCell (U wr.1.size 0) (I Q1)).setCell (U wr.1.size 1) (I Q2)).setCell (U wr.1.size 2) (int i32 Q3)).setCell (U wr.1.size 3) (int i32 Q4))=Y at hP u ⊢;generalize b8:wr.1.size=z at u hL ⊢;exact ud P z Y (by omega) u hP))
     case A=>
      intro z Y bF u v
      refine hK1 _ _ ?_
      clear D E S a2 G a6 a7 hK1
      have n0:=(v.cell (p:=(U N 0)) o).trans n0
      have n1:=(v.cell (p:=(U N 1)) o).trans n1
      have o:=z6 o v.size
      have au:=ze ((ud aQ).later v)
      have T:=ze ((ud T).later v)
      have ao:=ze ((ud af).trans (v.mono (ud af).size))
      have bp:=zd u
      have aN:=ze u
      clear v u ar aQ af
      go_wp2_with fail
      have q:z4 Y.1.size Y (Y.alloc Qd).drew:=((M _ _).alloc (z5 _) _).drew
      have G:Y.1.size<(Y.alloc Qd).drew.1.size:=by show Y.1.size<(Y.alloc Qd).1.size;rw[zN];omega
      have a8:(Y.alloc Qd).drew.1[Y.1.size]?=J (.cells #[I 0,I 0,int i32 0,int i32 0] 115 (0,0)):=zp Y _
      have E:=ze (Kf ((ud au).later q) A ba ((j:Int)-1) x.sr (x.tm/c.wh ((j:Int)-1)) ht a1 aj)
      have D:=ze (Kf ((ud au).later (M _ _).drew) A ba ((j:Int)-1) x.sr (x.tm/c.wh ((j:Int)-1)) ht a1 aj)
      have a7:=ze (ZG ((ud T).later q) A ((j:Int)-1) ht.1 ht.2)
      have a6:=ze (ZG ((ud T).later (M _ _).drew) A ((j:Int)-1) ht.1 ht.2)
      rw[<-(ud bb).query,ud ap]at E D
      have S:=ze q
      have a2:=ze a8
      have b4:¬N=Y.1.size:=by omega
      clear q a8
      dsimp only at E D
      rename_i K2 hK2
      refine(fun R:∀(z:Nat) (Y2:C),Y.1.size<=z->Y2.1[z]?=J (zpd ⟨Q1,Q2,Q3,Q4⟩)->z4 Y.1.size Y Y2->K2 ((?ab:Nat->Act) z) Y2=>?main2) ?hc2
      case main2=>
       have P:=ze R
       clear R
       go_region_held3 (fun w'=>w'.cell? (U N 0)=J (I x.sr)/\w'.cell? (U N 1)=J (I x.tm)) (first|go_keep|exact⟨(Yx (by assumption)).trans (by assumption),(Yx (by assumption)).trans (by assumption)⟩) (first
        |(go_at_call 58;(first|(with_reducible refine(ud a6).mono ?_)|(with_reducible refine(ud a7).mono ?_));rintro e V0 ⟨rfl,rfl⟩)
        |(go_at_call 57;(with_reducible refine(ud E).mono ?_);rintro e V ⟨rfl,d⟩;have a:z4 Y.1.size Y V:=(ud S).trans (d.mono (ud S).size);have H:=(d.block Y.1.size G).trans (ud a2);obtain⟨z0,z1,z2,z3,-⟩:=zc H;have zf:=fun j=>zv H j;have v0:=(a.cell (p:=(U N 0)) o).trans n0;have v1:=(a.cell (p:=(U N 1)) o).trans n1;have vq:=z6 o a.size;have r:=ze a;have aw:=ze H;clear a d H)
        |(go_at_call 57;(with_reducible refine(ud D).mono ?_);rintro e V ⟨rfl,d⟩;have a:z4 Y.1.size Y V:=Vm d;have v0:=(a.cell (p:=(U N 0)) o).trans n0;have v1:=(a.cell (p:=(U N 1)) o).trans n1;have vq:=z6 o a.size;have bl:¬N=V.1.size:=(by omega);have r:=ze a;clear a d))
       all_goals(first
        |(have hP:=(ud r).alloc (ud r).size (.cells #[I Q1,I Q2,int i32 Q3,int i32 Q4] 115);have u:=zp V (.cells #[I Q1,I Q2,int i32 Q3,int i32 Q4] 115);have hL:=(ud r).size;generalize(V.alloc (.cells #[I Q1,I Q2,int i32 Q3,int i32 Q4] 115))=Y2 at hP u ⊢;generalize V.1.size=z at u hL ⊢;exact ud P z Y2 hL u hP)
        |(have hP:=zhl (ud r) (z5 Y.1.size) (I Q1) (I Q2) (int i32 Q3) (int i32 Q4);have u:=Vd (ud aw) (I Q1) (I Q2) (int i32 Q3) (int i32 Q4);have hL:=z5 Y.1.size;generalize((((V.setCell (U Y.1.size 0) (I Q1)).setCell (U Y.1.size 1) (I Q2)).setCell (U Y.1.size 2) (int i32 Q3)).setCell (U Y.1.size 3) (int i32 Q4))=Y2 at hP u ⊢;generalize b8:Y.1.size=z at u hL ⊢;exact ud P z Y2 (by omega) u hP))
      case hc2=>
       intro z2 Y2 bu u v
       refine hK2 _ _ ?_
       clear D E S a2 G a6 a7 hK2
       have r1:=(v.block _ bp).trans (ud aN)
       obtain⟨x0,x1,x2,x3,-⟩:=zc r1
       obtain⟨y0,y1,y2,y3,-⟩:=zc u
       have bD:=zd r1
       have bE:=zd u
       have b8:¬z=z2:=by omega
       have bc:=ze ((ud ao).trans (v.mono (ud ao).size))
       clear r1 u v n0 n1 aN ao au T
       go_wp2_with fail
       exact⟨⟨j+1,by omega,by go_num,ud bc⟩,by simp[intOf];omega⟩
    ·have bK:(j:Int)-1=c.n:=by omega
     have b1:decide ((j:Int)-1<c.n)=false:=by simp;omega
     go_wp2_with fail
     go_roundw
     case rel=>exact⟨k+1,by omega,by go_num,(ud ag).trans ((ud af).mono (ud ag).size)⟩
     case measure=>simp[intOf];omega
  ·have bh:k=ns.length:=by omega
   subst bh
   have b1:decide ((ns.length:Int)<ns.length)=false:=by simp
   clear hS K
   go_wp2_with fail
   have aE:=aH _ (ud HB)
   refine(ud aE).mono ?_
   rintro e V3 ⟨ts,a3,bs,hJ,rfl,al,aX⟩
   have aD:=(ud HB).trans (aX.mono (ud HB).size)
   have aF:=aI _ aD
   have aK:=ze al
   have HJ:=ze hJ
   have aS:=ze aD
   have bR:ts.length<=800:=by rw[hJ.len];exact bm
   clear aX aD al hJ aH aI aE c8 aU
   go_wp2_with fail
   refine(ud aF).mono ?_
   rintro e V4 ⟨a0,a4,bt,aV,rfl,ad,ax⟩
   obtain⟨az,ae⟩:=ud aG ts a0 (ud HJ) aV
   have aL:=ze (zi (ud aK) (zh.of_below (f:=fun _=>False) ax) (fun _ _ e=>e))
   have aM:=ze ad
   have aT:=ze ((ud aS).trans (ax.mono (ud aS).size))
   have a5:=ze ae
   rw[<-az]
   have bd:=ze az
   clear ax ad aV ae aF HJ aG az aK
   have bA:(ts.length:Int)<=800:=by omega
   go_wp2_with fail
   go_loopw [18] (fun y wr=>∃i:Nat,i<=ts.length/\y=I i/\z4 V4.1.size V4 wr) (fun y _=>ts.length-(intOf y).toNat)
   case atStart=>exact⟨0,za _,rfl,M _ _⟩
   case round=>
    obtain⟨i,hi,rfl,K⟩:=hrel
    by_cases b0:i<ts.length
    ·have bx:(i:Int)<ts.length:=by omega
     obtain⟨x,hx⟩:=ki b0
     obtain⟨x',aB⟩:=ki (l:=a0) (i:=i) (by rw[<-ud bd];exact b0)
     obtain⟨e1,e2⟩:=ud a5 i x x' hx aB
     obtain⟨ga,ca,b5,bv,a9⟩:=zhZ (zi (ud aL) (zh.of_below (f:=fun _=>False) K) (fun _ _ e=>e)) hx
     obtain⟨gb,cb,b6,bw,ac⟩:=zhZ (zi (ud aM) (zh.of_below (f:=fun _=>False) K) (fun _ _ e=>e)) aB
     have ea:a3=J (U ga 0):=by injection b5
     have eb:a4=J (U gb 0):=by injection b6
     subst ea
     subst eb
     have p0:Cz wr ga (i*11) (I x.kd):=a9 0 (by omega)
     have p1:Cz wr ga (i*11+1) (I x.s.t):=a9 1 (by omega)
     have p2:Cz wr ga (i*11+2) (I x.s.sr):=a9 2 (by omega)
     have p3:Cz wr ga (i*11+3) (I x.s.wn):=a9 3 (by omega)
     have q0:wr.cell? (U gb (i*11))=J (I x.kd):=by rw[e1];exact ac 0 (by omega)
     have q1:wr.cell? (U gb (i*11+1))=J (I x.s.t):=by rw[e2];exact ac 1 (by omega)
     have q2:wr.cell? (U gb (i*11+2))=J (I x.s.sr):=by rw[e2];exact ac 2 (by omega)
     have q3:wr.cell? (U gb (i*11+3))=J (I x.s.wn):=by rw[e2];exact ac 3 (by omega)
     have am:=ze K
     clear K a9 ac b5 b6 hx aB e1 e2 a5 aL aM
     go_wp2_with fail
     go_still (by kernel_rfl)
     go_wp2_with fail
     go_roundw
     case rel=>exact⟨i+1,by omega,by go_num,(ud am).drew⟩
     case measure=>simp[intOf];omega
    ·have bg:i=ts.length:=by omega
     subst bg
     have b1:decide ((ts.length:Int)<ts.length)=false:=by simp
     have am:=ze K
     clear K
     go_wp2_with fail
     go_ret
     exact⟨rfl,(ud aT).trans ((ud am).mono (ud aT).size)⟩
end Go.Proofs.YtndhpgciopcncaaGreatDoor
