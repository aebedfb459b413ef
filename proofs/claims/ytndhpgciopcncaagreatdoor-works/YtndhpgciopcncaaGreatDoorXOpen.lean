import Derived.ProofKit
import Derived.OpenShut
import Derived.Deep.Strs
import Derived.Test.YtndhpgciopcncaaGreatDoorXKpk0
open Option renaming some → J
set_option linter.unusedVariables false
set_option maxRecDepth 20000
open Go.Proofs.Tryz
namespace Go.Proofs.YtndhpgciopcncaaGreatDoor
open Go.RowKit Go.ChangeShapes Go.WideShapes
variable {k:Int} {cs:List Value} {fuel:Nat}
theorem Tryz.cellsConfig:prog.cellsOf 27=7:=by kernel_rfl
theorem Tryz.cellsTier:prog.cellsOf 80=3:=by kernel_rfl
theorem Tryz.cellsInt:prog.cellsOf 3=1:=by kernel_rfl
theorem Tryz.cellsTiers:prog.cellsOf 25=1:=by kernel_rfl
theorem Tryz.bytesTier:prog.bytesOf 80=24:=by kernel_rfl
section
variable {H:Type} {enc:TypeId×Value->H} {w:World} {held:Bool}
theorem ziR{x:DataW H×List MemPlace}(h:DataW.trod enc prog w 0 (fun _=>true) held fuel 80 cs=J x):∃f wd k:Int,cs=[I f,I wd,I k]:=by
 obtain⟨xs,m,_,rfl,l,a,e⟩:=DataW.trod_struct underlying80 h;rw[Tryz.cellsTier]at l
 match cs,l with
 |[b,c,d],_=>
  match xs,a with
  |[n,o,p],_=>
   have q:DataW.trod enc prog w 0 (fun _=>true) held m 3 [b]=J n:=by have h:DataW.trod enc prog w 0 (fun _=>true) held m 3 (([b,c,d].drop 0).take (prog.cellsOf 3))=J n:=e 0 _ rfl;rw[Tryz.cellsInt]at h;exact h
   have r:DataW.trod enc prog w 0 (fun _=>true) held m 3 [c]=J o:=by have h:DataW.trod enc prog w 0 (fun _=>true) held m 3 (([b,c,d].drop 1).take (prog.cellsOf 3))=J o:=e 1 _ rfl;rw[Tryz.cellsInt]at h;exact h
   have s:DataW.trod enc prog w 0 (fun _=>true) held m 3 [d]=J p:=by have h:DataW.trod enc prog w 0 (fun _=>true) held m 3 (([b,c,d].drop 2).take (prog.cellsOf 3))=J p:=e 2 _ rfl;rw[Tryz.cellsInt]at h;exact h
   obtain⟨a0,g,_,_⟩:=DataW.trod_int underlying3 q
   obtain⟨a1,i,_,_⟩:=DataW.trod_int underlying3 r
   obtain⟨a2,j,_,_⟩:=DataW.trod_int underlying3 s
   simp at g i j
   exact⟨a0,a1,a2,by rw[g,i,j]⟩
theorem xu(b off j:Nat):((U b off):Addr).add j=(U b (off+j)):=by unfold Addr.add;split<;>simp_all
theorem zgk{x:DataW H×List MemPlace}(h:DataW.trod enc prog w 0 (fun _=>true) held fuel 25 cs=J x):
  ∃(a:Option Addr) (n cap:Nat) (F W K:Nat->Int),cs=[.slice a n cap]/\TS w a n F W K/\n<=cap/\((n=0/\x.1=.nil)\/∃c j,x.1=.slice c j/\c.length=n):=by
 rcases Go.Deep.open_slice underlying25 h with⟨rfl,rfl⟩|⟨a,len,cap,m,n,D,E,rfl,L,C,M,r,rfl,v⟩
 ·exact⟨none,0,0,fun _=>0,fun _=>0,fun _=>0,rfl,fun o=>absurd o (Nat.lt_irrefl _),Nat.le_refl _,.inl ⟨rfl,rfl⟩⟩
 ·rw[Tryz.cellsTier]at v;obtain⟨G,t⟩:=Go.Deep.choose_lt (α:=Int×Int×Int) (n:=len) (p:=fun i g=>w.cells? 0 (a.add (i*3)) 3=J [I g.1,I g.2.1,I g.2.2]) (fun i u=>by
   obtain⟨y,z,A⟩:=v i (by rw[r];simp;omega);obtain⟨f,wd,k,rfl⟩:=ziR A;exact⟨(f,wd,k),z⟩)
  refine⟨J a,len,cap,fun i=>(G i).1,fun i=>(G i).2.1,fun i=>(G i).2.2,rfl,fun o=>?_,C,.inr ⟨_,_,rfl,by simp⟩⟩;obtain⟨b,off,l⟩:=a;have s:=(World.cells?_some (t 0 o)).2.2 0 (by omega);have d:l=none:=by simpa[Addr.add]using World.cell?_spot (s.trans (by rfl))
  subst d;have q:b<w.1.size:=by
   have:w.cell? (U b off)=J (I (G 0).1):=(by simpa[Addr.add]using s);by_cases B:b<w.1.size
   ·exact B
   ·simp[World.cell?,Array.getElem?_eq_none (show w.1.size<=b by omega)]at this
  refine⟨b,off,rfl,q,fun i u=>?_⟩;have e:=(World.cells?_some (t i u)).2.2;refine⟨?_,?_,?_⟩
  ·have:=e 0 (by omega);simpa[xu]using this
  ·have:=e 1 (by omega);simpa[xu]using this
  ·have:=e 2 (by omega);simpa[xu]using this
theorem zdw{x:DataW H×List MemPlace}(h:DataW.trod enc prog w 0 (fun _=>true) held fuel 27 cs=J x):
  ∃(s V U wi ke qu:Int) (a:Option Addr) (n cap:Nat) (F W K:Nat->Int),cs=[I s,I V,I U,I wi,I ke,I qu,.slice a n cap]/\TS w a n F W K/\n<=cap/\
   ((∀y∈x.1.weights prog 27,y<=reachBytes)->24*n<=reachBytes):=by
 obtain⟨xs,m,_,rfl,L,p,l⟩:=DataW.trod_struct underlying27 h;rw[Tryz.cellsConfig]at L
 match cs,L with
 |[b,c,d,e,f,g,i],_=>
  match xs,p with
  |[M,N,O,P,Q,R,v],_=>
   have X:DataW.trod enc prog w 0 (fun _=>true) held m 3 [b]=J M:=by have h:DataW.trod enc prog w 0 (fun _=>true) held m 3 (([b,c,d,e,f,g,i].drop 0).take (prog.cellsOf 3))=J M:=l 0 _ rfl;rw[Tryz.cellsInt]at h;exact h
   have Y:DataW.trod enc prog w 0 (fun _=>true) held m 3 [c]=J N:=by have h:DataW.trod enc prog w 0 (fun _=>true) held m 3 (([b,c,d,e,f,g,i].drop 1).take (prog.cellsOf 3))=J N:=l 1 _ rfl;rw[Tryz.cellsInt]at h;exact h
   have Z:DataW.trod enc prog w 0 (fun _=>true) held m 3 [d]=J O:=by have h:DataW.trod enc prog w 0 (fun _=>true) held m 3 (([b,c,d,e,f,g,i].drop 2).take (prog.cellsOf 3))=J O:=l 2 _ rfl;rw[Tryz.cellsInt]at h;exact h
   have q3:DataW.trod enc prog w 0 (fun _=>true) held m 3 [e]=J P:=by have h:DataW.trod enc prog w 0 (fun _=>true) held m 3 (([b,c,d,e,f,g,i].drop 3).take (prog.cellsOf 3))=J P:=l 3 _ rfl;rw[Tryz.cellsInt]at h;exact h
   have q4:DataW.trod enc prog w 0 (fun _=>true) held m 3 [f]=J Q:=by have h:DataW.trod enc prog w 0 (fun _=>true) held m 3 (([b,c,d,e,f,g,i].drop 4).take (prog.cellsOf 3))=J Q:=l 4 _ rfl;rw[Tryz.cellsInt]at h;exact h
   have q5:DataW.trod enc prog w 0 (fun _=>true) held m 3 [g]=J R:=by have h:DataW.trod enc prog w 0 (fun _=>true) held m 3 (([b,c,d,e,f,g,i].drop 5).take (prog.cellsOf 3))=J R:=l 5 _ rfl;rw[Tryz.cellsInt]at h;exact h
   have q6:DataW.trod enc prog w 0 (fun _=>true) held m 25 [i]=J v:=by have h:DataW.trod enc prog w 0 (fun _=>true) held m 25 (([b,c,d,e,f,g,i].drop 6).take (prog.cellsOf 25))=J v:=l 6 _ rfl;rw[Tryz.cellsTiers]at h;exact h
   obtain⟨a0,z,_,_⟩:=DataW.trod_int underlying3 X
   obtain⟨a1,A,_,_⟩:=DataW.trod_int underlying3 Y
   obtain⟨a2,B,_,_⟩:=DataW.trod_int underlying3 Z
   obtain⟨a3,C,_,_⟩:=DataW.trod_int underlying3 q3
   obtain⟨a4,D,_,_⟩:=DataW.trod_int underlying3 q4
   obtain⟨a5,E,_,_⟩:=DataW.trod_int underlying3 q5
   obtain⟨a,n,cap,F,W,K,G,u,t,q⟩:=zgk q6
   simp at z A B C D E G
   refine⟨a0,a1,a2,a3,a4,a5,a,n,cap,F,W,K,by rw[z,A,B,C,D,E,G],u,t,fun T=>?_⟩
   rcases q with⟨rfl,_⟩|⟨k,o,q,r⟩
   ·simp
   ·have S:=T ((k.length+o.length)*24) (by
     refine(show∀n∈v.1.weights prog 25,n∈_ from fun n hn=>?_) _ (by rw[q];simp[DataW.weights,underlying25,Tryz.bytesTier]);simp only[DataW.weights,underlying27];exact DataW.weights_mem_each (j:=6) rfl rfl n hn)
    rw[r]at S
    omega
end
theorem Tryz.cellsOp:prog.cellsOf 82=15:=by kernel_rfl
theorem Tryz.cellsInt32:prog.cellsOf 21=1:=by kernel_rfl
theorem Tryz.cellsToken:prog.cellsOf 49=2:=by kernel_rfl
theorem Tryz.bytesOp:prog.bytesOf 82=136:=by kernel_rfl
theorem znb{H:Type}{P:Program}{e:TypeId}:∀{l:List (DataW H)} {d:DataW H},d∈l->∀y∈d.weights P e,y∈DataW.weightsAll P e l
 |[],d,h=>by cases h
 |x::r,d,h=>fun y a=>by
  simp only[DataW.weightsAll,List.mem_append];rcases List.mem_cons.1 h with rfl|h
  ·exact .inl a
  ·exact .inr (znb h y a)
theorem zcy(h:(Lit.int .i64 k).wf=true): -9223372036854775808<=k/\k<=9223372036854775807:=by
 have a:IntKind.min .i64= -9223372036854775808:=by decide
 have b:IntKind.max .i64=9223372036854775807:=by decide
 simp[Lit.wf]at h;omega
theorem zpS(h:(Lit.int .i32 k).wf=true): -2147483648<=k/\k<=2147483647:=by
 have a:IntKind.min .i32= -2147483648:=by decide
 have b:IntKind.max .i32=2147483647:=by decide
 simp[Lit.wf]at h;omega
instance:Inhabited Ops:=⟨⟨0,0,0,0,0,0,0,0,0,0,0,0,0,0,none,0,0⟩⟩
section
variable {H:Type} {enc:TypeId×Value->H} {w:World} {held:Bool}
theorem zgl{x:DataW H×List MemPlace}(h:DataW.trod enc prog w 0 (fun _=>true) held fuel 49 cs=J x):∃e n:Int,cs=[I e,I n]/\(-9223372036854775808<=e/\e<=9223372036854775807)/\(-9223372036854775808<=n/\n<=9223372036854775807):=by
 obtain⟨xs,m,_,rfl,i,a,g⟩:=DataW.trod_struct underlying49 h;rw[Tryz.cellsToken]at i
 match cs,i with
 |[b,c],_=>
  match xs,a with
  |[j,k],_=>
   have l:DataW.trod enc prog w 0 (fun _=>true) held m 3 [b]=J j:=by have h:DataW.trod enc prog w 0 (fun _=>true) held m 3 (([b,c].drop 0).take (prog.cellsOf 3))=J j:=g 0 _ rfl;rw[Tryz.cellsInt]at h;exact h
   have o:DataW.trod enc prog w 0 (fun _=>true) held m 3 [c]=J k:=by have h:DataW.trod enc prog w 0 (fun _=>true) held m 3 (([b,c].drop 1).take (prog.cellsOf 3))=J k:=g 1 _ rfl;rw[Tryz.cellsInt]at h;exact h
   obtain⟨a0,d,_,w0⟩:=DataW.trod_int underlying3 l
   obtain⟨a1,f,_,w1⟩:=DataW.trod_int underlying3 o
   simp at d f
   exact⟨a0,a1,by rw[d,f],zcy w0,zcy w1⟩
theorem zoe{x:DataW H×List MemPlace}(h:DataW.trod enc prog w 0 (fun _=>true) held fuel 82 cs=J x):
  ∃(o:Ops) (T:(Nat->Int)×(Nat->Int)×(Nat->Int)),cs=[I o.kd,I o.on,I o.a,I o.b,I o.c,i_ o.v,I o.te,I o.tn,I o.fs,I o.fg,I o.fe,I o.fw,I o.fk,I o.fq,.slice o.fa o.fn o.fp]/\TS w o.fa o.fn T.1 T.2.1 T.2.2/\((∀y∈x.1.weights prog 82,y<=reachBytes)->o.fits):=by
 obtain⟨xs,m,_,rfl,hl,D,C⟩:=DataW.trod_struct underlying82 h;rw[Tryz.cellsOp]at hl
 match cs,hl with
 |[k,l,p,q,r,t,u,z,A,B,d,e,f,g,i],_=>
  match xs,D with
  |[y0,y1,y2,y3,y4,y5,y6,y7],_=>
   have q0:DataW.trod enc prog w 0 (fun _=>true) held m 3 [k]=J y0:=by have h:DataW.trod enc prog w 0 (fun _=>true) held m 3 (([k,l,p,q,r,t,u,z,A,B,d,e,f,g,i].drop 0).take (prog.cellsOf 3))=J y0:=C 0 _ rfl;rw[Tryz.cellsInt]at h;exact h
   have q1:DataW.trod enc prog w 0 (fun _=>true) held m 3 [l]=J y1:=by have h:DataW.trod enc prog w 0 (fun _=>true) held m 3 (([k,l,p,q,r,t,u,z,A,B,d,e,f,g,i].drop 1).take (prog.cellsOf 3))=J y1:=C 1 _ rfl;rw[Tryz.cellsInt]at h;exact h
   have q2:DataW.trod enc prog w 0 (fun _=>true) held m 3 [p]=J y2:=by have h:DataW.trod enc prog w 0 (fun _=>true) held m 3 (([k,l,p,q,r,t,u,z,A,B,d,e,f,g,i].drop 2).take (prog.cellsOf 3))=J y2:=C 2 _ rfl;rw[Tryz.cellsInt]at h;exact h
   have q3:DataW.trod enc prog w 0 (fun _=>true) held m 3 [q]=J y3:=by have h:DataW.trod enc prog w 0 (fun _=>true) held m 3 (([k,l,p,q,r,t,u,z,A,B,d,e,f,g,i].drop 3).take (prog.cellsOf 3))=J y3:=C 3 _ rfl;rw[Tryz.cellsInt]at h;exact h
   have q4:DataW.trod enc prog w 0 (fun _=>true) held m 3 [r]=J y4:=by have h:DataW.trod enc prog w 0 (fun _=>true) held m 3 (([k,l,p,q,r,t,u,z,A,B,d,e,f,g,i].drop 4).take (prog.cellsOf 3))=J y4:=C 4 _ rfl;rw[Tryz.cellsInt]at h;exact h
   have q5:DataW.trod enc prog w 0 (fun _=>true) held m 21 [t]=J y5:=by have h:DataW.trod enc prog w 0 (fun _=>true) held m 21 (([k,l,p,q,r,t,u,z,A,B,d,e,f,g,i].drop 5).take (prog.cellsOf 21))=J y5:=C 5 _ rfl;rw[Tryz.cellsInt32]at h;exact h
   have q6:DataW.trod enc prog w 0 (fun _=>true) held m 49 [u,z]=J y6:=by have h:DataW.trod enc prog w 0 (fun _=>true) held m 49 (([k,l,p,q,r,t,u,z,A,B,d,e,f,g,i].drop 6).take (prog.cellsOf 49))=J y6:=C 6 _ rfl;rw[Tryz.cellsToken]at h;exact h
   have q7:DataW.trod enc prog w 0 (fun _=>true) held m 27 [A,B,d,e,f,g,i]=J y7:=by have h:DataW.trod enc prog w 0 (fun _=>true) held m 27 (([k,l,p,q,r,t,u,z,A,B,d,e,f,g,i].drop 8).take (prog.cellsOf 27))=J y7:=C 7 _ rfl;rw[Tryz.cellsConfig]at h;exact h
   obtain⟨a0,U,_,w0⟩:=DataW.trod_int underlying3 q0
   obtain⟨a1,V,_,w1⟩:=DataW.trod_int underlying3 q1
   obtain⟨a2,W,_,w2⟩:=DataW.trod_int underlying3 q2
   obtain⟨a3,X,_,w3⟩:=DataW.trod_int underlying3 q3
   obtain⟨a4,Y,_,w4⟩:=DataW.trod_int underlying3 q4
   obtain⟨a5,Z,_,w5⟩:=DataW.trod_int underlying21 q5
   obtain⟨t0,t1,e6,g0,g1⟩:=zgl q6
   obtain⟨s,le,la,wi,ke,qu,a,n,cap,Fr,Wd,K,e7,R,a6,S⟩:=zdw q7
   simp at U V W X Y Z e6 e7
   obtain⟨E,F⟩:=e6
   obtain⟨G,L,M,N,O,P,Q⟩:=e7
   refine⟨⟨a0,a1,a2,a3,a4,a5,t0,t1,s,le,la,wi,ke,qu,a,n,cap⟩,(Fr,Wd,K),by rw[U,V,W,X,Y,Z,E,F,G,L,M,N,O,P,Q],R,fun hw=>⟨zcy w1,zcy w2,zpS w5,g0,g1,?_⟩⟩
   have hh:=S (fun y hy=>hw y (by
    simp only[DataW.weights,underlying82];exact DataW.weights_mem_each (j:=7) rfl rfl y hy))
   simp only[reachBytes]at hh
   show 24*(n+1)<=281474976710656
   omega
theorem zlN{x:DataW H×List MemPlace}(h:DataW.trod enc prog w 0 (fun _=>true) held fuel 22 cs=J x)(u:∀y∈x.1.weights prog 22,y<=reachBytes):
  ∃(a:Option Addr) (n cap:Nat) (G:Nat->Ops) (T:Nat->(Nat->Int)×(Nat->Int)×(Nat->Int)),cs=[.slice a n cap]/\OS w a n G/\n<=1099511627776/\(∀i,i<n->TS w (G i).fa (G i).fn (T i).1 (T i).2.1 (T i).2.2)/\∀i,i<n->(G i).fits:=by
 rcases Go.Deep.open_slice underlying22 h with⟨rfl,rfl⟩|⟨a,len,cap,m,n,D,N,rfl,O,P,Q,t,rfl,A⟩
 ·exact⟨none,0,0,fun _=>⟨0,0,0,0,0,0,0,0,0,0,0,0,0,0,none,0,0⟩,fun _=>(fun _=>0,fun _=>0,fun _=>0),rfl,fun r=>absurd r (Nat.lt_irrefl _),Nat.zero_le _,fun i f=>absurd f (Nat.not_lt_zero _),fun i f=>absurd f (Nat.not_lt_zero _)⟩
 ·rw[Tryz.cellsOp]at A;obtain⟨G,q⟩:=Go.Deep.choose_lt (α:=Ops×((Nat->Int)×(Nat->Int)×(Nat->Int))) (n:=len) (p:=fun i g=>w.cells? 0 (a.add (i*15)) 15=J [I g.1.kd,I g.1.on,I g.1.a,I g.1.b,I g.1.c,i_ g.1.v,I g.1.te,I g.1.tn,I g.1.fs,I g.1.fg,I g.1.fe,I g.1.fw,I g.1.fk,I g.1.fq,.slice g.1.fa g.1.fn g.1.fp]/\TS w g.1.fa g.1.fn g.2.1 g.2.2.1 g.2.2.2/\((∀y∈(D i).weights prog 82,y<=reachBytes)->g.1.fits)) (fun i f=>by
   obtain⟨B,C,E⟩:=A i (by rw[t];simp;omega);obtain⟨o,T,rfl,F,K⟩:=zoe E;exact⟨(o,T),C,F,K⟩)
  simp only[DataW.weights,underlying22,Tryz.bytesOp]at u;have k:len<=1099511627776:=by
   have:=u _ (List.mem_cons_self ..);simp only[reachBytes,List.length_map,List.length_range]at this;omega
  refine⟨J a,len,cap,fun i=>(G i).1,fun i=>(G i).2,rfl,fun r=>?_,k,fun i f=>(q i f).2.1,fun i f=>(q i f).2.2 (fun y M=>u y (List.mem_cons_of_mem _ (List.mem_append_left _ (znb (d:=D i) (List.mem_map.2 ⟨i,List.mem_range.2 f,rfl⟩) y M))))⟩;obtain⟨b,off,l⟩:=a;have z:=(World.cells?_some (q 0 r).1).2.2 0 (by omega);have j:l=none:=by simpa[Addr.add]using World.cell?_spot (z.trans (by rfl))
  subst j;have s:b<w.1.size:=by
   have:w.cell? (U b off)=J (I (G 0).1.kd):=(by simpa[Addr.add]using z);by_cases L:b<w.1.size
   ·exact L
   ·simp[World.cell?,Array.getElem?_eq_none (show w.1.size<=b by omega)]at this
  refine⟨b,off,rfl,s,fun i f=>?_⟩;have e:=(World.cells?_some (q i f).1).2.2;refine⟨?_,?_,?_,?_,?_,?_,?_,?_,?_,?_,?_,?_,?_,?_,?_⟩
  ·have:=e 0 (by omega);simpa[xu]using this
  ·have:=e 1 (by omega);simpa[xu]using this
  ·have:=e 2 (by omega);simpa[xu]using this
  ·have:=e 3 (by omega);simpa[xu]using this
  ·have:=e 4 (by omega);simpa[xu]using this
  ·have:=e 5 (by omega);simpa[xu]using this
  ·have:=e 6 (by omega);simpa[xu]using this
  ·have:=e 7 (by omega);simpa[xu]using this
  ·have:=e 8 (by omega);simpa[xu]using this
  ·have:=e 9 (by omega);simpa[xu]using this
  ·have:=e 10 (by omega);simpa[xu]using this
  ·have:=e 11 (by omega);simpa[xu]using this
  ·have:=e 12 (by omega);simpa[xu]using this
  ·have:=e 13 (by omega);simpa[xu]using this
  ·have:=e 14 (by omega);simpa[xu]using this
