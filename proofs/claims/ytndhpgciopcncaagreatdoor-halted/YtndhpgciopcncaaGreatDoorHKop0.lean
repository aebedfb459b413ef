import Derived.Test.YtndhpgciopcncaaGreatDoorHConf2
open Option renaming some → J
open Go.Value (int)
open Go.IntKind (i32)
set_option linter.unusedVariables false
set_option maxRecDepth 20000
open Go.Proofs.Tryz
namespace Go.Proofs.YtndhpgciopcncaaGreatDoor
open Go.RowKit Go.ChangeShapes Go.WideShapes
variable {k:Int} {cs:List Value} {fuel:Nat}
theorem Tryz.cellsStep:prog.cellsOf 33=4:=by kernel_rfl
theorem Tryz.cellsInt32K:prog.cellsOf 21=1:=by kernel_rfl
theorem Tryz.bytesStep:prog.bytesOf 33=32:=by kernel_rfl
theorem kP(h:(Lit.int .i64 k).wf=true): -9223372036854775808<=k/\k<=9223372036854775807:=by
 have a:IntKind.min .i64= -9223372036854775808:=by decide
 have b:IntKind.max .i64=9223372036854775807:=by decide
 simp[Lit.wf]at h;omega
theorem zok(h:(Lit.int .i32 k).wf=true): -2147483648<=k/\k<=2147483647:=by
 have a:IntKind.min .i32= -2147483648:=by decide
 have b:IntKind.max .i32=2147483647:=by decide
 simp[Lit.wf]at h;omega
structure Js where
 kd:Int
 a:Int
 b:Int
 v:Int
instance:Inhabited Js:=⟨⟨0,0,0,0⟩⟩
structure Js.fits(o:Js):Prop where
 a: -9223372036854775808<=o.a/\o.a<=9223372036854775807
 b: -9223372036854775808<=o.b/\o.b<=9223372036854775807
 v: -2147483648<=o.v/\o.v<=2147483647
def KS(w:World)(a:Option Addr)(n:Nat)(G:Nat->Js):Prop:=
 0<n->∃b c,a=J (U b c)/\b<w.1.size/\∀i,i<n->w.cell? (U b (c+i*4))=J (I (G i).kd)/\w.cell? (U b (c+i*4+1))=J (I (G i).a)/\w.cell? (U b (c+i*4+2))=J (I (G i).b)/\w.cell? (U b (c+i*4+3))=J (int i32 (G i).v)
section
variable {H:Type} {enc:TypeId×Value->H} {w:World} {held:Bool}
theorem zfK{x:DataW H×List MemPlace}(h:DataW.trod enc prog w 0 (fun _=>true) held fuel 80 cs=J x):
  ∃f wd k:Int,cs=[I f,I wd,I k]/\(-9223372036854775808<=f/\f<=9223372036854775807)/\(-9223372036854775808<=wd/\wd<=9223372036854775807)/\(-9223372036854775808<=k/\k<=9223372036854775807):=by
 obtain⟨xs,m,_,rfl,l,a,e⟩:=DataW.trod_struct underlying80 h;rw[Tryz.cellsTier]at l
 match cs,l with
 |[b,c,d],_=>
  match xs,a with
  |[n,o,p],_=>
   have q:DataW.trod enc prog w 0 (fun _=>true) held m 3 [b]=J n:=by have h:DataW.trod enc prog w 0 (fun _=>true) held m 3 (([b,c,d].drop 0).take (prog.cellsOf 3))=J n:=e 0 _ rfl;rw[Tryz.cellsInt]at h;exact h
   have q1:DataW.trod enc prog w 0 (fun _=>true) held m 3 [c]=J o:=by have h:DataW.trod enc prog w 0 (fun _=>true) held m 3 (([b,c,d].drop 1).take (prog.cellsOf 3))=J o:=e 1 _ rfl;rw[Tryz.cellsInt]at h;exact h
   have q2:DataW.trod enc prog w 0 (fun _=>true) held m 3 [d]=J p:=by have h:DataW.trod enc prog w 0 (fun _=>true) held m 3 (([b,c,d].drop 2).take (prog.cellsOf 3))=J p:=e 2 _ rfl;rw[Tryz.cellsInt]at h;exact h
   obtain⟨a0,g,_,w0⟩:=DataW.trod_int underlying3 q
   obtain⟨a1,i,_,w1⟩:=DataW.trod_int underlying3 q1
   obtain⟨a2,j,_,w2⟩:=DataW.trod_int underlying3 q2
   simp at g i j
   exact⟨a0,a1,a2,by rw[g,i,j],kP w0,kP w1,kP w2⟩
theorem zdg{x:DataW H×List MemPlace}(h:DataW.trod enc prog w 0 (fun _=>true) held fuel 25 cs=J x):
  ∃(a:Option Addr) (n cap:Nat) (F W K:Nat->Int),cs=[.slice a n cap]/\TS w a n F W K/\((∀i,i<n->(-9223372036854775808<=F i/\F i<=9223372036854775807))/\(∀i,i<n->(-9223372036854775808<=W i/\W i<=9223372036854775807))/\(∀i,i<n->(-9223372036854775808<=K i/\K i<=9223372036854775807)))/\((n=0/\x.1=.nil)\/∃d l,x.1=.slice d l/\d.length=n):=by
 rcases Go.Deep.open_slice underlying25 h with⟨rfl,rfl⟩|⟨a,len,cap,m,n,D,L,rfl,M,N,O,u,rfl,y⟩
 ·exact⟨none,0,0,fun _=>0,fun _=>0,fun _=>0,rfl,fun s=>absurd s (Nat.lt_irrefl _),⟨fun i c=>absurd c (Nat.not_lt_zero _),fun i c=>absurd c (Nat.not_lt_zero _),fun i c=>absurd c (Nat.not_lt_zero _)⟩,.inl ⟨rfl,rfl⟩⟩
 ·rw[Tryz.cellsTier]at y;obtain⟨G,o⟩:=Go.Deep.choose_lt (α:=Int×Int×Int) (n:=len) (p:=fun i g=>w.cells? 0 (a.add (i*3)) 3=J [I g.1,I g.2.1,I g.2.2]/\(-9223372036854775808<=g.1/\g.1<=9223372036854775807)/\(-9223372036854775808<=g.2.1/\g.2.1<=9223372036854775807)/\(-9223372036854775808<=g.2.2/\g.2.2<=9223372036854775807)) (fun i c=>by
   obtain⟨z,A,B⟩:=y i (by rw[u];simp;omega);obtain⟨f,wd,k,rfl,C⟩:=zfK B;exact⟨(f,wd,k),A,C⟩)
  refine⟨J a,len,cap,fun i=>(G i).1,fun i=>(G i).2.1,fun i=>(G i).2.2,rfl,fun s=>?_,⟨fun i c=>(o i c).2.1,fun i c=>(o i c).2.2.1,fun i c=>(o i c).2.2.2⟩,.inr ⟨_,_,rfl,by simp⟩⟩;obtain⟨b,q,r⟩:=a;have v:=(World.cells?_some (o 0 s).1).2.2 0 (by omega);have j:r=none:=by simpa[Addr.add]using World.cell?_spot (v.trans (by rfl))
  subst j;have t:b<w.1.size:=by
   have:w.cell? (U b q)=J (I (G 0).1):=(by simpa[Addr.add]using v);by_cases E:b<w.1.size
   ·exact E
   ·simp[World.cell?,Array.getElem?_eq_none (show w.1.size<=b by omega)]at this
  refine⟨b,q,rfl,t,fun i c=>?_⟩;have e:=(World.cells?_some (o i c).1).2.2;refine⟨?_,?_,?_⟩
  ·have:=e 0 (by omega);simpa[yE]using this
  ·have:=e 1 (by omega);simpa[yE]using this
  ·have:=e 2 (by omega);simpa[yE]using this
theorem zbA{x:DataW H×List MemPlace}(h:DataW.trod enc prog w 0 (fun _=>true) held fuel 27 cs=J x):
  ∃(s le la wi ke qu:Int) (a:Option Addr) (n cap:Nat) (F W K:Nat->Int),cs=[I s,I le,I la,I wi,I ke,I qu,.slice a n cap]/\TS w a n F W K/\((-9223372036854775808<=s/\s<=9223372036854775807)/\(-9223372036854775808<=le/\le<=9223372036854775807)/\(-9223372036854775808<=la/\la<=9223372036854775807)/\(-9223372036854775808<=wi/\wi<=9223372036854775807)/\(-9223372036854775808<=ke/\ke<=9223372036854775807)/\(-9223372036854775808<=qu/\qu<=9223372036854775807))/\((∀i,i<n->(-9223372036854775808<=F i/\F i<=9223372036854775807))/\(∀i,i<n->(-9223372036854775808<=W i/\W i<=9223372036854775807))/\(∀i,i<n->(-9223372036854775808<=K i/\K i<=9223372036854775807)))/\
   ((∀y∈x.1.weights prog 27,y<=reachBytes)->24*n<=reachBytes):=by
 obtain⟨xs,m,_,rfl,M,q,o⟩:=DataW.trod_struct underlying27 h;rw[Tryz.cellsConfig]at M
 match cs,M with
 |[b,c,d,e,f,g,k],_=>
  match xs,q with
  |[N,O,P,Q,R,S,z],_=>
   have V:DataW.trod enc prog w 0 (fun _=>true) held m 3 [b]=J N:=by have h:DataW.trod enc prog w 0 (fun _=>true) held m 3 (([b,c,d,e,f,g,k].drop 0).take (prog.cellsOf 3))=J N:=o 0 _ rfl;rw[Tryz.cellsInt]at h;exact h
   have q1:DataW.trod enc prog w 0 (fun _=>true) held m 3 [c]=J O:=by have h:DataW.trod enc prog w 0 (fun _=>true) held m 3 (([b,c,d,e,f,g,k].drop 1).take (prog.cellsOf 3))=J O:=o 1 _ rfl;rw[Tryz.cellsInt]at h;exact h
   have q2:DataW.trod enc prog w 0 (fun _=>true) held m 3 [d]=J P:=by have h:DataW.trod enc prog w 0 (fun _=>true) held m 3 (([b,c,d,e,f,g,k].drop 2).take (prog.cellsOf 3))=J P:=o 2 _ rfl;rw[Tryz.cellsInt]at h;exact h
   have X:DataW.trod enc prog w 0 (fun _=>true) held m 3 [e]=J Q:=by have h:DataW.trod enc prog w 0 (fun _=>true) held m 3 (([b,c,d,e,f,g,k].drop 3).take (prog.cellsOf 3))=J Q:=o 3 _ rfl;rw[Tryz.cellsInt]at h;exact h
   have Y:DataW.trod enc prog w 0 (fun _=>true) held m 3 [f]=J R:=by have h:DataW.trod enc prog w 0 (fun _=>true) held m 3 (([b,c,d,e,f,g,k].drop 4).take (prog.cellsOf 3))=J R:=o 4 _ rfl;rw[Tryz.cellsInt]at h;exact h
   have Z:DataW.trod enc prog w 0 (fun _=>true) held m 3 [g]=J S:=by have h:DataW.trod enc prog w 0 (fun _=>true) held m 3 (([b,c,d,e,f,g,k].drop 5).take (prog.cellsOf 3))=J S:=o 5 _ rfl;rw[Tryz.cellsInt]at h;exact h
   have q6:DataW.trod enc prog w 0 (fun _=>true) held m 25 [k]=J z:=by have h:DataW.trod enc prog w 0 (fun _=>true) held m 25 (([b,c,d,e,f,g,k].drop 6).take (prog.cellsOf 25))=J z:=o 6 _ rfl;rw[Tryz.cellsTiers]at h;exact h
   obtain⟨a0,A,_,w0⟩:=DataW.trod_int underlying3 V
   obtain⟨a1,B,_,w1⟩:=DataW.trod_int underlying3 q1
   obtain⟨a2,C,_,w2⟩:=DataW.trod_int underlying3 q2
   obtain⟨a3,D,_,w3⟩:=DataW.trod_int underlying3 X
   obtain⟨a4,E,_,w4⟩:=DataW.trod_int underlying3 Y
   obtain⟨a5,G,_,w5⟩:=DataW.trod_int underlying3 Z
   obtain⟨a,n,cap,F,W,K,L,v,r,t⟩:=zdg q6
   simp at A B C D E G L
   refine⟨a0,a1,a2,a3,a4,a5,a,n,cap,F,W,K,by rw[A,B,C,D,E,G,L],v,⟨kP w0,kP w1,kP w2,kP w3,kP w4,kP w5⟩,r,fun U=>?_⟩
   rcases t with⟨rfl,_⟩|⟨l,p,t,u⟩
   ·simp
   ·have T:=U ((l.length+p.length)*24) (by
     refine(show∀n∈z.1.weights prog 25,n∈_ from fun n hn=>?_) _ (by rw[t];simp[DataW.weights,underlying25,Tryz.bytesTier]);simp only[DataW.weights,underlying27];exact DataW.weights_mem_each (j:=6) rfl rfl n hn)
    rw[u]at T
    omega
theorem zfJ{x:DataW H×List MemPlace}(h:DataW.trod enc prog w 0 (fun _=>true) held fuel 33 cs=J x):
  ∃o:Js,cs=[I o.kd,I o.a,I o.b,int i32 o.v]/\o.fits:=by
 obtain⟨xs,m,_,rfl,p,g,i⟩:=DataW.trod_struct underlying33 h;rw[Tryz.cellsStep]at p
 match cs,p with
 |[c,d,e,f],_=>
  match xs,g with
  |[q,r,s,t],_=>
   have u:DataW.trod enc prog w 0 (fun _=>true) held m 3 [c]=J q:=by have h:DataW.trod enc prog w 0 (fun _=>true) held m 3 (([c,d,e,f].drop 0).take (prog.cellsOf 3))=J q:=i 0 _ rfl;rw[Tryz.cellsInt]at h;exact h
   have q1:DataW.trod enc prog w 0 (fun _=>true) held m 3 [d]=J r:=by have h:DataW.trod enc prog w 0 (fun _=>true) held m 3 (([c,d,e,f].drop 1).take (prog.cellsOf 3))=J r:=i 1 _ rfl;rw[Tryz.cellsInt]at h;exact h
   have q2:DataW.trod enc prog w 0 (fun _=>true) held m 3 [e]=J s:=by have h:DataW.trod enc prog w 0 (fun _=>true) held m 3 (([c,d,e,f].drop 2).take (prog.cellsOf 3))=J s:=i 2 _ rfl;rw[Tryz.cellsInt]at h;exact h
   have y:DataW.trod enc prog w 0 (fun _=>true) held m 21 [f]=J t:=by have h:DataW.trod enc prog w 0 (fun _=>true) held m 21 (([c,d,e,f].drop 3).take (prog.cellsOf 21))=J t:=i 3 _ rfl;rw[Tryz.cellsInt32K]at h;exact h
   obtain⟨a0,j,_,w0⟩:=DataW.trod_int underlying3 u
   obtain⟨a1,k,_,w1⟩:=DataW.trod_int underlying3 q1
   obtain⟨a2,l,_,w2⟩:=DataW.trod_int underlying3 q2
   obtain⟨a3,n,_,z⟩:=DataW.trod_int underlying21 y
   simp at j k l n
   exact⟨⟨a0,a1,a2,a3⟩,by rw[j,k,l,n],⟨kP w1,kP w2,zok z⟩⟩
theorem zdf{x:DataW H×List MemPlace}(h:DataW.trod enc prog w 0 (fun _=>true) held fuel 28 cs=J x)(u:∀y∈x.1.weights prog 28,y<=reachBytes):
  ∃(a:Option Addr) (n cap:Nat) (G:Nat->Js),cs=[.slice a n cap]/\KS w a n G/\n<4398046511104/\∀i,i<n->(G i).fits:=by
 rcases Go.Deep.open_slice underlying28 h with⟨rfl,rfl⟩|⟨a,len,cap,m,n,D,K,rfl,L,M,N,s,rfl,z⟩
 ·exact⟨none,0,0,fun _=>⟨0,0,0,0⟩,rfl,fun l=>absurd l (Nat.lt_irrefl _),by omega,fun i d=>absurd d (Nat.not_lt_zero _)⟩
 ·rw[Tryz.cellsStep]at z;obtain⟨G,q⟩:=Go.Deep.choose_lt (α:=Js) (n:=len) (p:=fun i g=>w.cells? 0 (a.add (i*4)) 4=J [I g.kd,I g.a,I g.b,int i32 g.v]/\g.fits) (fun i d=>by
   obtain⟨A,B,C⟩:=z i (by rw[s];simp;omega);obtain⟨o,rfl,E⟩:=zfJ C;exact⟨o,B,E⟩)
  simp only[DataW.weights,underlying28,Tryz.bytesStep]at u;have f:len<4398046511104:=by
   have:=u _ (List.mem_cons_self ..);simp only[reachBytes,List.length_map,List.length_range]at this;omega
  refine⟨J a,len,cap,G,rfl,fun l=>?_,f,fun i d=>(q i d).2⟩;obtain⟨b,j,k⟩:=a;have t:=(World.cells?_some (q 0 l).1).2.2 0 (by omega);have c:k=none:=by simpa[Addr.add]using World.cell?_spot (t.trans (by rfl))
  subst c;have r:b<w.1.size:=by
   have:w.cell? (U b j)=J (I (G 0).kd):=(by simpa[Addr.add]using t);by_cases F:b<w.1.size
   ·exact F
   ·simp[World.cell?,Array.getElem?_eq_none (show w.1.size<=b by omega)]at this
  refine⟨b,j,rfl,r,fun i d=>?_⟩;have e:=(World.cells?_some (q i d).1).2.2;refine⟨?_,?_,?_,?_⟩
  ·have:=e 0 (by omega);simpa[yE]using this
  ·have:=e 1 (by omega);simpa[yE]using this
  ·have:=e 2 (by omega);simpa[yE]using this
  ·have:=e 3 (by omega);simpa[yE]using this
end
end Go.Proofs.YtndhpgciopcncaaGreatDoor
