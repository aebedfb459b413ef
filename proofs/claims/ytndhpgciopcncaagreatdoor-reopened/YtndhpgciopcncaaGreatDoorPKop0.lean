import Derived.Test.YtndhpgciopcncaaGreatDoorPConf2
open Option renaming some → J
open Go.Value (int)
open Go.IntKind (i32)
set_option linter.unusedVariables false
set_option maxRecDepth 20000
open Go.Proofs.Tryz
namespace Go.Proofs.YtndhpgciopcncaaGreatDoor
open Go.RowKit Go.ChangeShapes Go.WideShapes
theorem Tryz.cellsStep:prog.cellsOf 33=4:=by kernel_rfl
theorem Tryz.cellsInt32K:prog.cellsOf 21=1:=by kernel_rfl
theorem Tryz.bytesStep:prog.bytesOf 33=32:=by kernel_rfl
theorem vh{k:Int}(h:(Lit.int .i64 k).wf=true): -9223372036854775808<=k/\k<=9223372036854775807:=by
 have a:IntKind.min .i64= -9223372036854775808:=by decide
 have b:IntKind.max .i64=9223372036854775807:=by decide
 simp[Lit.wf]at h;omega
theorem znJ{k:Int}(h:(Lit.int .i32 k).wf=true): -2147483648<=k/\k<=2147483647:=by
 have a:IntKind.min .i32= -2147483648:=by decide
 have b:IntKind.max .i32=2147483647:=by decide
 simp[Lit.wf]at h;omega
structure Y9 where
 kd:Int
 a:Int
 b:Int
 v:Int
instance:Inhabited Y9:=⟨⟨0,0,0,0⟩⟩
structure Y9.fits(o:Y9):Prop where
 a: -9223372036854775808<=o.a/\o.a<=9223372036854775807
 b: -9223372036854775808<=o.b/\o.b<=9223372036854775807
 v: -2147483648<=o.v/\o.v<=2147483647
def KS(w:World)(a:Option Addr)(n:Nat)(G:Nat->Y9):Prop:=
 0<n->∃b c,a=J (U b c)/\b<w.1.size/\∀i,i<n->w.cell? (U b (c+i*4))=J (I (G i).kd)/\w.cell? (U b (c+i*4+1))=J (I (G i).a)/\w.cell? (U b (c+i*4+2))=J (I (G i).b)/\w.cell? (U b (c+i*4+3))=J (int i32 (G i).v)
section
variable {H:Type} {enc:TypeId×Value->H} {w:World} {held:Bool}
theorem zfl{a:Nat}{cs:List Value}{x:DataW H×List MemPlace}(h:DataW.trod enc prog w 0 (fun _=>true) held a 80 cs=J x):
  ∃f wd k:Int,cs=[I f,I wd,I k]/\(-9223372036854775808<=f/\f<=9223372036854775807)/\(-9223372036854775808<=wd/\wd<=9223372036854775807)/\(-9223372036854775808<=k/\k<=9223372036854775807):=by
 obtain⟨xs,m,_,rfl,n,b,g⟩:=DataW.trod_struct underlying80 h
 rw[Tryz.cellsTier]at n
 match cs,n with
 |[c,d,e],_=>
  match xs,b with
  |[o,p,q],_=>
   have s:DataW.trod enc prog w 0 (fun _=>true) held m 3 [c]=J o:=by have h:DataW.trod enc prog w 0 (fun _=>true) held m 3 (([c,d,e].drop 0).take (prog.cellsOf 3))=J o:=g 0 _ rfl;rw[Tryz.cellsInt]at h;exact h
   have q1:DataW.trod enc prog w 0 (fun _=>true) held m 3 [d]=J p:=by have h:DataW.trod enc prog w 0 (fun _=>true) held m 3 (([c,d,e].drop 1).take (prog.cellsOf 3))=J p:=g 1 _ rfl;rw[Tryz.cellsInt]at h;exact h
   have q2:DataW.trod enc prog w 0 (fun _=>true) held m 3 [e]=J q:=by have h:DataW.trod enc prog w 0 (fun _=>true) held m 3 (([c,d,e].drop 2).take (prog.cellsOf 3))=J q:=g 2 _ rfl;rw[Tryz.cellsInt]at h;exact h
   obtain⟨a0,i,_,t⟩:=DataW.trod_int underlying3 s
   obtain⟨r,j,_,u⟩:=DataW.trod_int underlying3 q1
   obtain⟨a2,l,_,v⟩:=DataW.trod_int underlying3 q2
   simp at i j l
   exact⟨a0,r,a2,by rw[i,j,l],vh t,vh u,vh v⟩
theorem zcz{o:Nat}{cs:List Value}{x:DataW H×List MemPlace}(h:DataW.trod enc prog w 0 (fun _=>true) held o 25 cs=J x):
  ∃(a:Option Addr) (n cap:Nat) (F W K:Nat->Int),cs=[.slice a n cap]/\TS w a n F W K/\((∀i,i<n->(-9223372036854775808<=F i/\F i<=9223372036854775807))/\(∀i,i<n->(-9223372036854775808<=W i/\W i<=9223372036854775807))/\(∀i,i<n->(-9223372036854775808<=K i/\K i<=9223372036854775807)))/\((n=0/\x.1=.nil)\/∃d l,x.1=.slice d l/\d.length=n):=by
 rcases Go.Deep.open_slice underlying25 h with⟨rfl,rfl⟩|⟨a,len,cap,m,n,D,M,rfl,N,O,P,v,rfl,z⟩
 ·exact⟨none,0,0,fun _=>0,fun _=>0,fun _=>0,rfl,fun t=>absurd t (Nat.lt_irrefl _),⟨fun i c=>absurd c (Nat.not_lt_zero _),fun i c=>absurd c (Nat.not_lt_zero _),fun i c=>absurd c (Nat.not_lt_zero _)⟩,.inl ⟨rfl,rfl⟩⟩
 ·rw[Tryz.cellsTier]at z
  obtain⟨G,q⟩:=Go.Deep.choose_lt (α:=Int×Int×Int) (n:=len) (p:=fun i g=>w.cells? 0 (a.add (i*3)) 3=J [I g.1,I g.2.1,I g.2.2]/\(-9223372036854775808<=g.1/\g.1<=9223372036854775807)/\(-9223372036854775808<=g.2.1/\g.2.1<=9223372036854775807)/\(-9223372036854775808<=g.2.2/\g.2.2<=9223372036854775807)) (fun i c=>by
   obtain⟨A,B,C⟩:=z i (by rw[v];simp;omega)
   obtain⟨f,wd,k,rfl,E⟩:=zfl C
   exact⟨(f,wd,k),B,E⟩)
  refine⟨J a,len,cap,fun i=>(G i).1,fun i=>(G i).2.1,fun i=>(G i).2.2,rfl,fun t=>?_,⟨fun i c=>(q i c).2.1,fun i c=>(q i c).2.2.1,fun i c=>(q i c).2.2.2⟩,.inr ⟨_,_,rfl,by simp⟩⟩
  obtain⟨b,r,s⟩:=a
  have y:=(World.cells?_some (q 0 t).1).2.2 0 (by omega)
  have j:s=none:=by simpa[Addr.add]using World.cell?_spot (y.trans (by rfl))
  subst j
  have u:b<w.1.size:=by
   have:w.cell? (U b r)=J (I (G 0).1):=by simpa[Addr.add]using y
   by_cases L:b<w.1.size
   ·exact L
   ·simp[World.cell?,Array.getElem?_eq_none (show w.1.size<=b by omega)]at this
  refine⟨b,r,rfl,u,fun i c=>?_⟩
  have e:=(World.cells?_some (q i c).1).2.2
  refine⟨?_,?_,?_⟩
  ·have:=e 0 (by omega);simpa[yv]using this
  ·have:=e 1 (by omega);simpa[yv]using this
  ·have:=e 2 (by omega);simpa[yv]using this
theorem zaU{q:Nat}{cs:List Value}{x:DataW H×List MemPlace}(h:DataW.trod enc prog w 0 (fun _=>true) held q 27 cs=J x):
  ∃(s le la wi ke qu:Int) (a:Option Addr) (n cap:Nat) (F W K:Nat->Int),cs=[I s,I le,I la,I wi,I ke,I qu,.slice a n cap]/\TS w a n F W K/\((-9223372036854775808<=s/\s<=9223372036854775807)/\(-9223372036854775808<=le/\le<=9223372036854775807)/\(-9223372036854775808<=la/\la<=9223372036854775807)/\(-9223372036854775808<=wi/\wi<=9223372036854775807)/\(-9223372036854775808<=ke/\ke<=9223372036854775807)/\(-9223372036854775808<=qu/\qu<=9223372036854775807))/\((∀i,i<n->(-9223372036854775808<=F i/\F i<=9223372036854775807))/\(∀i,i<n->(-9223372036854775808<=W i/\W i<=9223372036854775807))/\(∀i,i<n->(-9223372036854775808<=K i/\K i<=9223372036854775807)))/\
   ((∀y∈x.1.weights prog 27,y<=reachBytes)->24*n<=reachBytes):=by
 obtain⟨xs,m,_,rfl,N,r,o⟩:=DataW.trod_struct underlying27 h
 rw[Tryz.cellsConfig]at N
 match cs,N with
 |[b,c,d,e,f,g,k],_=>
  match xs,r with
  |[O,P,Q,R,S,T,A],_=>
   have Y:DataW.trod enc prog w 0 (fun _=>true) held m 3 [b]=J O:=by have h:DataW.trod enc prog w 0 (fun _=>true) held m 3 (([b,c,d,e,f,g,k].drop 0).take (prog.cellsOf 3))=J O:=o 0 _ rfl;rw[Tryz.cellsInt]at h;exact h
   have q1:DataW.trod enc prog w 0 (fun _=>true) held m 3 [c]=J P:=by have h:DataW.trod enc prog w 0 (fun _=>true) held m 3 (([b,c,d,e,f,g,k].drop 1).take (prog.cellsOf 3))=J P:=o 1 _ rfl;rw[Tryz.cellsInt]at h;exact h
   have q2:DataW.trod enc prog w 0 (fun _=>true) held m 3 [d]=J Q:=by have h:DataW.trod enc prog w 0 (fun _=>true) held m 3 (([b,c,d,e,f,g,k].drop 2).take (prog.cellsOf 3))=J Q:=o 2 _ rfl;rw[Tryz.cellsInt]at h;exact h
   have Z:DataW.trod enc prog w 0 (fun _=>true) held m 3 [e]=J R:=by have h:DataW.trod enc prog w 0 (fun _=>true) held m 3 (([b,c,d,e,f,g,k].drop 3).take (prog.cellsOf 3))=J R:=o 3 _ rfl;rw[Tryz.cellsInt]at h;exact h
   have q4:DataW.trod enc prog w 0 (fun _=>true) held m 3 [f]=J S:=by have h:DataW.trod enc prog w 0 (fun _=>true) held m 3 (([b,c,d,e,f,g,k].drop 4).take (prog.cellsOf 3))=J S:=o 4 _ rfl;rw[Tryz.cellsInt]at h;exact h
   have q5:DataW.trod enc prog w 0 (fun _=>true) held m 3 [g]=J T:=by have h:DataW.trod enc prog w 0 (fun _=>true) held m 3 (([b,c,d,e,f,g,k].drop 5).take (prog.cellsOf 3))=J T:=o 5 _ rfl;rw[Tryz.cellsInt]at h;exact h
   have q6:DataW.trod enc prog w 0 (fun _=>true) held m 25 [k]=J A:=by have h:DataW.trod enc prog w 0 (fun _=>true) held m 25 (([b,c,d,e,f,g,k].drop 6).take (prog.cellsOf 25))=J A:=o 6 _ rfl;rw[Tryz.cellsTiers]at h;exact h
   obtain⟨a0,B,_,w0⟩:=DataW.trod_int underlying3 Y
   obtain⟨U,C,_,w1⟩:=DataW.trod_int underlying3 q1
   obtain⟨a2,D,_,w2⟩:=DataW.trod_int underlying3 q2
   obtain⟨a3,E,_,w3⟩:=DataW.trod_int underlying3 Z
   obtain⟨a4,G,_,w4⟩:=DataW.trod_int underlying3 q4
   obtain⟨a5,L,_,w5⟩:=DataW.trod_int underlying3 q5
   obtain⟨a,n,cap,F,W,K,M,z,t,u⟩:=zcz q6
   simp at B C D E G L M
   refine⟨a0,U,a2,a3,a4,a5,a,n,cap,F,W,K,by rw[B,C,D,E,G,L,M],z,⟨vh w0,vh w1,vh w2,vh w3,vh w4,vh w5⟩,t,fun X=>?_⟩
   rcases u with⟨rfl,_⟩|⟨l,p,u,v⟩
   ·simp
   ·have V:=X ((l.length+p.length)*24) (by
     refine(show∀n∈A.1.weights prog 25,n∈_ from fun n hn=>?_) _ (by rw[u];simp[DataW.weights,underlying25,Tryz.bytesTier])
     simp only[DataW.weights,underlying27]
     exact DataW.weights_mem_each (j:=6) rfl rfl n hn)
    rw[v]at V
    omega
theorem zfk{g:Nat}{cs:List Value}{x:DataW H×List MemPlace}(h:DataW.trod enc prog w 0 (fun _=>true) held g 33 cs=J x):
  ∃o:Y9,cs=[I o.kd,I o.a,I o.b,int i32 o.v]/\o.fits:=by
 obtain⟨xs,m,_,rfl,q,i,j⟩:=DataW.trod_struct underlying33 h
 rw[Tryz.cellsStep]at q
 match cs,q with
 |[c,d,e,f],_=>
  match xs,i with
  |[r,s,t,u],_=>
   have z:DataW.trod enc prog w 0 (fun _=>true) held m 3 [c]=J r:=by have h:DataW.trod enc prog w 0 (fun _=>true) held m 3 (([c,d,e,f].drop 0).take (prog.cellsOf 3))=J r:=j 0 _ rfl;rw[Tryz.cellsInt]at h;exact h
   have q1:DataW.trod enc prog w 0 (fun _=>true) held m 3 [d]=J s:=by have h:DataW.trod enc prog w 0 (fun _=>true) held m 3 (([c,d,e,f].drop 1).take (prog.cellsOf 3))=J s:=j 1 _ rfl;rw[Tryz.cellsInt]at h;exact h
   have q2:DataW.trod enc prog w 0 (fun _=>true) held m 3 [e]=J t:=by have h:DataW.trod enc prog w 0 (fun _=>true) held m 3 (([c,d,e,f].drop 2).take (prog.cellsOf 3))=J t:=j 2 _ rfl;rw[Tryz.cellsInt]at h;exact h
   have A:DataW.trod enc prog w 0 (fun _=>true) held m 21 [f]=J u:=by have h:DataW.trod enc prog w 0 (fun _=>true) held m 21 (([c,d,e,f].drop 3).take (prog.cellsOf 21))=J u:=j 3 _ rfl;rw[Tryz.cellsInt32K]at h;exact h
   obtain⟨a0,k,_,E⟩:=DataW.trod_int underlying3 z
   obtain⟨y,l,_,B⟩:=DataW.trod_int underlying3 q1
   obtain⟨a2,n,_,C⟩:=DataW.trod_int underlying3 q2
   obtain⟨a3,p,_,D⟩:=DataW.trod_int underlying21 A
   simp at k l n p
   exact⟨⟨a0,y,a2,a3⟩,by rw[k,l,n,p],⟨vh B,vh C,znJ D⟩⟩
theorem zcy{f:Nat}{cs:List Value}{x:DataW H×List MemPlace}(h:DataW.trod enc prog w 0 (fun _=>true) held f 28 cs=J x)(z:∀y∈x.1.weights prog 28,y<=reachBytes):
  ∃(a:Option Addr) (n cap:Nat) (G:Nat->Y9),cs=[.slice a n cap]/\KS w a n G/\n<4398046511104/\∀i,i<n->(G i).fits:=by
 rcases Go.Deep.open_slice underlying28 h with⟨rfl,rfl⟩|⟨a,len,cap,m,n,D,L,rfl,M,N,O,t,rfl,A⟩
 ·exact⟨none,0,0,fun _=>⟨0,0,0,0⟩,rfl,fun q=>absurd q (Nat.lt_irrefl _),by omega,fun i d=>absurd d (Nat.not_lt_zero _)⟩
 ·rw[Tryz.cellsStep]at A
  obtain⟨G,r⟩:=Go.Deep.choose_lt (α:=Y9) (n:=len) (p:=fun i g=>w.cells? 0 (a.add (i*4)) 4=J [I g.kd,I g.a,I g.b,int i32 g.v]/\g.fits) (fun i d=>by
   obtain⟨B,C,E⟩:=A i (by rw[t];simp;omega)
   obtain⟨o,rfl,F⟩:=zfk E
   exact⟨o,C,F⟩)
  simp only[DataW.weights,underlying28,Tryz.bytesStep]at z
  have j:len<4398046511104:=by
   have:=z _ (List.mem_cons_self ..)
   simp only[reachBytes,List.length_map,List.length_range]at this
   omega
  refine⟨J a,len,cap,G,rfl,fun q=>?_,j,fun i d=>(r i d).2⟩
  obtain⟨b,k,l⟩:=a
  have u:=(World.cells?_some (r 0 q).1).2.2 0 (by omega)
  have c:l=none:=by simpa[Addr.add]using World.cell?_spot (u.trans (by rfl))
  subst c
  have s:b<w.1.size:=by
   have:w.cell? (U b k)=J (I (G 0).kd):=by simpa[Addr.add]using u
   by_cases K:b<w.1.size
   ·exact K
   ·simp[World.cell?,Array.getElem?_eq_none (show w.1.size<=b by omega)]at this
  refine⟨b,k,rfl,s,fun i d=>?_⟩
  have e:=(World.cells?_some (r i d).1).2.2
  refine⟨?_,?_,?_,?_⟩
  ·have:=e 0 (by omega);simpa[yv]using this
  ·have:=e 1 (by omega);simpa[yv]using this
  ·have:=e 2 (by omega);simpa[yv]using this
  ·have:=e 3 (by omega);simpa[yv]using this
end
end Go.Proofs.YtndhpgciopcncaaGreatDoor
