import Derived.Test.YtpbimdkclnekeaaGreatVRef2
import Derived.Test.YtpbimdkclnekeaaGreatVKit0
import Derived.Deep.WholeRow
open Go.Value renaming int → I
open Go.IntKind renaming i64 → J
open Option renaming some → O
open Option renaming none → E
open Nat renaming le_refl → Q
open Go.RowKit.Below renaming refl → U
open Go.RowKit renaming Below → Y
open Go.IntKind (i32)
set_option linter.unusedVariables false
set_option maxRecDepth 20000
set_option maxHeartbeats 4000000
open Go.Proofs.Tryz
namespace Go.Proofs.YtpbimdkclnekeaaGreat
open Go.RowKit
theorem zkY{w:World}{B:Nat}{e:TypeId}{g:Nat}{cap i b:Nat}{ps:List Nat}(h:w.ownsRow B e 1 (.slice (O ⟨g,0,E⟩) ps.length cap) ps.length (ps.map (fun q=> .pointer (O ⟨q,0,E⟩))))(a:ps[i]?=O b):w.cell? ⟨g,i,E⟩=O (.pointer (O ⟨b,0,E⟩)):=by
 have c:i<ps.length:=(List.getElem?_eq_some_iff.1 a).1
 rw[h.cellAt i (by simpa using c)]
 simp[a]
theorem zim{w:World}{wb:Nat}{cap:Nat}{a:Option Addr}{n:Value}(j:w.1[wb]?=O (.cells #[.slice a 0 cap,n] 63 (0,0)))(o:Ops)(f:Int)(p:¬f=1)(m:¬f=13):
  Calls prog 21 #[.pointer (O ⟨wb,0,E⟩),.agg #[I J f,I J o.on,I J o.a,I J o.b,I J o.c,I i32 o.v,I J o.te,I J o.tn,I J o.fs,I J o.fe,I J o.fd,I J o.fw,I J o.fk,I J o.fq,.slice o.fa o.fn o.fc]] w fun e w'=>e=.returned (.bool true)/\Y w.1.size w w':=by
 have k:=zd j
 have d:Y w.1.size w (w.alloc (.cells #[I J f,I J o.on,I J o.a,I J o.b,I J o.c,I i32 o.v,I J o.te,I J o.tn,I J o.fs,I J o.fe,I J o.fd,I J o.fw,I J o.fk,I J o.fq,.slice o.fa o.fn o.fc] 68)):=(U _ _).alloc (Q _) _
 have g:=zo w (.cells #[I J f,I J o.on,I J o.a,I J o.b,I J o.c,I i32 o.v,I J o.te,I J o.tn,I J o.fs,I J o.fe,I J o.fd,I J o.fw,I J o.fk,I J o.fq,.slice o.fa o.fn o.fc] 68)
 have i:(w.alloc (.cells #[I J f,I J o.on,I J o.a,I J o.b,I J o.c,I i32 o.v,I J o.te,I J o.tn,I J o.fs,I J o.fe,I J o.fd,I J o.fw,I J o.fk,I J o.fq,.slice o.fa o.fn o.fc] 68)).1.size=w.1.size+1:=zF w _
 have h:=(d.block wb k).trans j
 have l:=ze d
 obtain⟨r,-⟩:=zc h
 obtain⟨q,-⟩:=zc g
 clear d g i h j
 go_enter func21,ntmps21
 go_wp2_with fail
 go_ret
 exact⟨rfl,ud l⟩
end Go.Proofs.YtpbimdkclnekeaaGreat
namespace Go.Proofs.YtpbimdkclnekeaaGreat
open Go.RowKit Go.ChangeShapes Go.WideShapes
theorem Tryz.cellsOp:prog.cellsOf 68=15:=by kernel_rfl
theorem Tryz.cellsInt32:prog.cellsOf 21=1:=by kernel_rfl
theorem Tryz.cellsToken:prog.cellsOf 49=2:=by kernel_rfl
theorem Tryz.bytesOp:prog.bytesOf 68=136:=by kernel_rfl
theorem ziO{H:Type}{P:Program}{e:TypeId}:∀{l:List (DataW H)} {d:DataW H},d∈l->∀y∈d.weights P e,y∈DataW.weightsAll P e l
 |[],d,h=>by cases h
 |x::r,d,h=>fun y a=>by
  simp only[DataW.weightsAll,List.mem_append]
  rcases List.mem_cons.1 h with rfl|h
  ·exact .inl a
  ·exact .inr (ziO h y a)
theorem zam{k:Int}(h:(Lit.int .i64 k).wf=true): -9223372036854775808<=k/\k<=9223372036854775807:=by
 have a:IntKind.min .i64= -9223372036854775808:=by decide
 have b:IntKind.max .i64=9223372036854775807:=by decide
 simp[Lit.wf]at h;omega
theorem zlj{k:Int}(h:(Lit.int .i32 k).wf=true): -2147483648<=k/\k<=2147483647:=by
 have a:IntKind.min .i32= -2147483648:=by decide
 have b:IntKind.max .i32=2147483647:=by decide
 simp[Lit.wf]at h;omega
instance:Inhabited Ops:=⟨⟨0,0,0,0,0,0,0,0,0,0,0,0,0,0,E,0,0⟩⟩
section
variable {H:Type} {enc:TypeId×Value->H} {w:World} {held:Bool}
theorem zdq{a:Nat}{cs:List Value}{x:DataW H×List MemPlace}(h:DataW.trod enc prog w 0 (fun _=>true) held a 49 cs=O x):∃e n:Int,cs=[I J e,I J n]/\(-9223372036854775808<=e/\e<=9223372036854775807)/\(-9223372036854775808<=n/\n<=9223372036854775807):=by
 obtain⟨xs,m,_,rfl,j,b,i⟩:=DataW.trod_struct underlying49 h
 rw[Tryz.cellsToken]at j
 match cs,j with
 |[c,d],_=>
  match xs,b with
  |[k,l],_=>
   have q:DataW.trod enc prog w 0 (fun _=>true) held m 3 [c]=O k:=by have h:DataW.trod enc prog w 0 (fun _=>true) held m 3 (([c,d].drop 0).take (prog.cellsOf 3))=O k:=i 0 _ rfl;rw[Tryz.cellsInt]at h;exact h
   have r:DataW.trod enc prog w 0 (fun _=>true) held m 3 [d]=O l:=by have h:DataW.trod enc prog w 0 (fun _=>true) held m 3 (([c,d].drop 1).take (prog.cellsOf 3))=O l:=i 1 _ rfl;rw[Tryz.cellsInt]at h;exact h
   obtain⟨o,f,_,s⟩:=DataW.trod_int underlying3 q
   obtain⟨p,g,_,t⟩:=DataW.trod_int underlying3 r
   simp at f g
   exact⟨o,p,by rw[f,g],zam s,zam t⟩
theorem zjG{D:Nat}{cs:List Value}{x:DataW H×List MemPlace}(h:DataW.trod enc prog w 0 (fun _=>true) held D 68 cs=O x):
  ∃(o:Ops) (T:(Nat->Int)×(Nat->Int)×(Nat->Int)),cs=[I J o.kd,I J o.on,I J o.a,I J o.b,I J o.c,I i32 o.v,I J o.te,I J o.tn,I J o.fs,I J o.fe,I J o.fd,I J o.fw,I J o.fk,I J o.fq,.slice o.fa o.fn o.fc]/\TS w o.fa o.fn T.1 T.2.1 T.2.2/\((∀y∈x.1.weights prog 68,y<=reachBytes)->o.fits):=by
 obtain⟨xs,m,_,rfl,hl,F,C⟩:=DataW.trod_struct underlying68 h
 rw[Tryz.cellsOp]at hl
 match cs,hl with
 |[k,l,p,q,r,t,u,z,A,B,d,e,f,g,i],_=>
  match xs,F with
  |[y0,y1,y2,y3,y4,y5,y6,y7],_=>
   have q0:DataW.trod enc prog w 0 (fun _=>true) held m 3 [k]=O y0:=by have h:DataW.trod enc prog w 0 (fun _=>true) held m 3 (([k,l,p,q,r,t,u,z,A,B,d,e,f,g,i].drop 0).take (prog.cellsOf 3))=O y0:=C 0 _ rfl;rw[Tryz.cellsInt]at h;exact h
   have q1:DataW.trod enc prog w 0 (fun _=>true) held m 3 [l]=O y1:=by have h:DataW.trod enc prog w 0 (fun _=>true) held m 3 (([k,l,p,q,r,t,u,z,A,B,d,e,f,g,i].drop 1).take (prog.cellsOf 3))=O y1:=C 1 _ rfl;rw[Tryz.cellsInt]at h;exact h
   have q2:DataW.trod enc prog w 0 (fun _=>true) held m 3 [p]=O y2:=by have h:DataW.trod enc prog w 0 (fun _=>true) held m 3 (([k,l,p,q,r,t,u,z,A,B,d,e,f,g,i].drop 2).take (prog.cellsOf 3))=O y2:=C 2 _ rfl;rw[Tryz.cellsInt]at h;exact h
   have q3:DataW.trod enc prog w 0 (fun _=>true) held m 3 [q]=O y3:=by have h:DataW.trod enc prog w 0 (fun _=>true) held m 3 (([k,l,p,q,r,t,u,z,A,B,d,e,f,g,i].drop 3).take (prog.cellsOf 3))=O y3:=C 3 _ rfl;rw[Tryz.cellsInt]at h;exact h
   have q4:DataW.trod enc prog w 0 (fun _=>true) held m 3 [r]=O y4:=by have h:DataW.trod enc prog w 0 (fun _=>true) held m 3 (([k,l,p,q,r,t,u,z,A,B,d,e,f,g,i].drop 4).take (prog.cellsOf 3))=O y4:=C 4 _ rfl;rw[Tryz.cellsInt]at h;exact h
   have q5:DataW.trod enc prog w 0 (fun _=>true) held m 21 [t]=O y5:=by have h:DataW.trod enc prog w 0 (fun _=>true) held m 21 (([k,l,p,q,r,t,u,z,A,B,d,e,f,g,i].drop 5).take (prog.cellsOf 21))=O y5:=C 5 _ rfl;rw[Tryz.cellsInt32]at h;exact h
   have q6:DataW.trod enc prog w 0 (fun _=>true) held m 49 [u,z]=O y6:=by have h:DataW.trod enc prog w 0 (fun _=>true) held m 49 (([k,l,p,q,r,t,u,z,A,B,d,e,f,g,i].drop 6).take (prog.cellsOf 49))=O y6:=C 6 _ rfl;rw[Tryz.cellsToken]at h;exact h
   have q7:DataW.trod enc prog w 0 (fun _=>true) held m 27 [A,B,d,e,f,g,i]=O y7:=by have h:DataW.trod enc prog w 0 (fun _=>true) held m 27 (([k,l,p,q,r,t,u,z,A,B,d,e,f,g,i].drop 8).take (prog.cellsOf 27))=O y7:=C 7 _ rfl;rw[Tryz.cellsConfig]at h;exact h
   obtain⟨a0,e0,_,w0⟩:=DataW.trod_int underlying3 q0
   obtain⟨a1,e1,_,w1⟩:=DataW.trod_int underlying3 q1
   obtain⟨a2,e2,_,w2⟩:=DataW.trod_int underlying3 q2
   obtain⟨a3,e3,_,w3⟩:=DataW.trod_int underlying3 q3
   obtain⟨a4,e4,_,w4⟩:=DataW.trod_int underlying3 q4
   obtain⟨a5,e5,_,w5⟩:=DataW.trod_int underlying21 q5
   obtain⟨t0,t1,e6,g0,g1⟩:=zdq q6
   obtain⟨s,le,la,wi,ke,qu,a,n,cap,Fr,Wd,K,e7,X,a6,Z⟩:=zbc q7
   simp at e0 e1 e2 e3 e4 e5 e6 e7
   obtain⟨G,L⟩:=e6
   obtain⟨M,N,P,R,S,V,W⟩:=e7
   refine⟨⟨a0,a1,a2,a3,a4,a5,t0,t1,s,le,la,wi,ke,qu,a,n,cap⟩,(Fr,Wd,K),by rw[e0,e1,e2,e3,e4,e5,G,L,M,N,P,R,S,V,W],X,fun hw=>⟨zam w1,zam w2,zlj w5,g0,g1,?_⟩⟩
   have hh:=Z (fun y hy=>hw y (by
    simp only[DataW.weights,underlying68]
    exact DataW.weights_mem_each (j:=7) rfl rfl y hy))
   simp only[reachBytes]at hh
   show 24*(n+1)<=281474976710656
   omega
theorem zhU{k:Nat}{cs:List Value}{x:DataW H×List MemPlace}(h:DataW.trod enc prog w 0 (fun _=>true) held k 22 cs=O x)(A:∀y∈x.1.weights prog 22,y<=reachBytes):
  ∃(a:Option Addr) (n cap:Nat) (G:Nat->Ops) (T:Nat->(Nat->Int)×(Nat->Int)×(Nat->Int)),cs=[.slice a n cap]/\OS w a n G/\n<=1099511627776/\(∀i,i<n->TS w (G i).fa (G i).fn (T i).1 (T i).2.1 (T i).2.2)/\∀i,i<n->(G i).fits:=by
 rcases Go.Deep.open_slice underlying22 h with⟨rfl,rfl⟩|⟨a,len,cap,m,n,D,S,rfl,V,W,X,z,rfl,C⟩
 ·exact⟨E,0,0,fun _=>⟨0,0,0,0,0,0,0,0,0,0,0,0,0,0,E,0,0⟩,fun _=>(fun _=>0,fun _=>0,fun _=>0),rfl,fun t=>absurd t (Nat.lt_irrefl _),Nat.zero_le _,fun i f=>absurd f (Nat.not_lt_zero _),fun i f=>absurd f (Nat.not_lt_zero _)⟩
 ·rw[Tryz.cellsOp]at C
  obtain⟨G,s⟩:=Go.Deep.choose_lt (α:=Ops×((Nat->Int)×(Nat->Int)×(Nat->Int))) (n:=len) (p:=fun i g=>w.cells? 0 (a.add (i*15)) 15=O [I J g.1.kd,I J g.1.on,I J g.1.a,I J g.1.b,I J g.1.c,I i32 g.1.v,I J g.1.te,I J g.1.tn,I J g.1.fs,I J g.1.fe,I J g.1.fd,I J g.1.fw,I J g.1.fk,I J g.1.fq,.slice g.1.fa g.1.fn g.1.fc]/\TS w g.1.fa g.1.fn g.2.1 g.2.2.1 g.2.2.2/\((∀y∈(D i).weights prog 68,y<=reachBytes)->g.1.fits)) (fun i f=>by
   obtain⟨F,K,L⟩:=C i (by rw[z];simp;omega)
   obtain⟨o,T,rfl,M,N⟩:=zjG L
   exact⟨(o,T),K,M,N⟩)
  simp only[DataW.weights,underlying22,Tryz.bytesOp]at A
  have l:len<=1099511627776:=by
   have:=A _ (List.mem_cons_self ..)
   simp only[reachBytes,List.length_map,List.length_range]at this
   omega
  refine⟨O a,len,cap,fun i=>(G i).1,fun i=>(G i).2,rfl,fun t=>?_,l,fun i f=>(s i f).2.1,fun i f=>(s i f).2.2 (fun y R=>A y (List.mem_cons_of_mem _ (List.mem_append_left _ (ziO (d:=D i) (List.mem_map.2 ⟨i,List.mem_range.2 f,rfl⟩) y R))))⟩
  obtain⟨b,q,r⟩:=a
  have B:=(World.cells?_some (s 0 t).1).2.2 0 (by omega)
  have j:r=E:=by simpa[Addr.add]using World.cell?_spot (B.trans (by rfl))
  subst j
  have u:b<w.1.size:=by
   have:w.cell? ⟨b,q,E⟩=O (I J (G 0).1.kd):=by simpa[Addr.add]using B
   by_cases P:b<w.1.size
   ·exact P
   ·simp[World.cell?,Array.getElem?_eq_none (show w.1.size<=b by omega)]at this
  refine⟨b,q,rfl,u,fun i f=>?_⟩
  have e:=(World.cells?_some (s i f).1).2.2
  refine⟨?_,?_,?_,?_,?_,?_,?_,?_,?_,?_,?_,?_,?_,?_,?_⟩
  ·have:=e 0 (by omega);simpa[xi]using this
  ·have:=e 1 (by omega);simpa[xi]using this
  ·have:=e 2 (by omega);simpa[xi]using this
  ·have:=e 3 (by omega);simpa[xi]using this
  ·have:=e 4 (by omega);simpa[xi]using this
  ·have:=e 5 (by omega);simpa[xi]using this
  ·have:=e 6 (by omega);simpa[xi]using this
  ·have:=e 7 (by omega);simpa[xi]using this
  ·have:=e 8 (by omega);simpa[xi]using this
  ·have:=e 9 (by omega);simpa[xi]using this
  ·have:=e 10 (by omega);simpa[xi]using this
  ·have:=e 11 (by omega);simpa[xi]using this
  ·have:=e 12 (by omega);simpa[xi]using this
  ·have:=e 13 (by omega);simpa[xi]using this
  ·have:=e 14 (by omega);simpa[xi]using this
end
end Go.Proofs.YtpbimdkclnekeaaGreat
namespace Go.Proofs.YtpbimdkclnekeaaGreat
open Go.RowKit
def zw(x d:Nat)(c:Cf)(ct a b:Value)(ep:Int):Obj:=.cells #[.pointer (O ⟨x,0,E⟩),.pointer (O ⟨d,0,E⟩),I J c.s,I J c.le,I J c.la,I J c.wi,I J c.ke,I J c.qu,ct,a,.slice E 0 0,b,I J ep,.bool false,.bool false] 106 (0,0)
theorem zgS{w:World}{g x d:Nat}{ct l h:Value}{j:Int}(i:Cf)(f:w.1[g]?=O (zw x d i ct l h j))(o:Ops)(n:¬o.b=0):
  Calls prog 102 #[.pointer (O ⟨g,0,E⟩),.agg #[I J o.kd,I J o.on,I J o.a,I J o.b,I J o.c,I i32 o.v,I J o.te,I J o.tn,I J o.fs,I J o.fe,I J o.fd,I J o.fw,I J o.fk,I J o.fq,.slice o.fa o.fn o.fc]] w fun e w'=>e=.returned (.agg #[I J o.te,I J o.tn])/\Y w.1.size w w':=by
 have m:w.cell? ⟨g,11,E⟩=O h:=by unfold zw at f;rw[zN f];rfl
 have k:=zd f
 clear f
 go_enter func102,ntmps102
 go_wp2_with fail
 all_goals
  refine bodyPost_ret (v:=.agg #[I J o.te,I J o.tn]) (results_cell_row results102 _ _ (w.1.size+1) _ _ _ _ rfl (box2 w _ _).2.1 underlying49 rfl (by kernel_rfl)) rfl ?_
  exact⟨rfl,(box2 w _ _).2.2.1⟩
theorem zec{w:World}{g x d cap:Nat}{a:Option Addr}{ct k:Value}{i:Int}(h:Cf)(f:w.1[g]?=O (zw x d h ct k (.slice a 0 cap) i))(o:Ops):
  Calls prog 102 #[.pointer (O ⟨g,0,E⟩),.agg #[I J o.kd,I J o.on,I J o.a,I J o.b,I J o.c,I i32 o.v,I J o.te,I J o.tn,I J o.fs,I J o.fe,I J o.fd,I J o.fw,I J o.fk,I J o.fq,.slice o.fa o.fn o.fc]] w fun e w'=>e=.returned (.agg #[I J o.te,I J o.tn])/\Y w.1.size w w':=by
 have l:w.cell? ⟨g,11,E⟩=O (.slice a 0 cap):=by unfold zw at f;rw[zN f];rfl
 have j:=zd f
 clear f
 go_enter func102,ntmps102
 go_wp2_with fail
 all_goals
  refine bodyPost_ret (v:=.agg #[I J o.te,I J o.tn]) (results_cell_row results102 _ _ (w.1.size+1) _ _ _ _ rfl (box2 w _ _).2.1 underlying49 rfl (by kernel_rfl)) rfl ?_
  exact⟨rfl,(box2 w _ _).2.2.1⟩
theorem zed{w:World}{m x d g n cap:Nat}{ct S:Value}{K te tn:Int}(F:Cf)(u:w.1[m]?=O (zw x d F ct S (.slice (O ⟨g,0,E⟩) n cap) K))(o:Ops)(C:o.b=0)(D:g<w.1.size){i j:Nat}(hj:(n:Int)-1-(i:Int)=(j:Int))(P:j<n)(hn:n<=1099511627776)(l:∀w:World,Calls prog 54 #[I J o.a,I J n] w fun e w'=>e=.returned (I J i)/\w'=w)(A:w.cell? ⟨g,j*2,E⟩=O (I J te))(B:w.cell? ⟨g,j*2+1,E⟩=O (I J tn)):
  Calls prog 102 #[.pointer (O ⟨m,0,E⟩),.agg #[I J o.kd,I J o.on,I J o.a,I J o.b,I J o.c,I i32 o.v,I J o.te,I J o.tn,I J o.fs,I J o.fe,I J o.fd,I J o.fw,I J o.fk,I J o.fq,.slice o.fa o.fn o.fc]] w fun e w'=>e=.returned (.agg #[I J te,I J tn])/\Y w.1.size w w':=by
 obtain⟨q,z,f,Z⟩:=box2 w (.cells #[I J o.kd,I J o.on,I J o.a,I J o.b,I J o.c,I i32 o.v,I J o.te,I J o.tn,I J o.fs,I J o.fe,I J o.fd,I J o.fw,I J o.fk,I J o.fq,.slice o.fa o.fn o.fc] 68) (.cells #[I J 0,I J 0] 49)
 have y:=zd u
 have h:=(f.block m y).trans u
 have V:((w.alloc (.cells #[I J o.kd,I J o.on,I J o.a,I J o.b,I J o.c,I i32 o.v,I J o.te,I J o.tn,I J o.fs,I J o.fe,I J o.fd,I J o.fw,I J o.fk,I J o.fq,.slice o.fa o.fn o.fc] 68)).alloc (.cells #[I J 0,I J 0] 49)).cell? ⟨m,11,E⟩=O (.slice (O ⟨g,0,E⟩) n cap):=by unfold zw at h;rw[zN h];rfl
 obtain⟨-,-,c2,-⟩:=zc q
 have c3:((w.alloc (.cells #[I J o.kd,I J o.on,I J o.a,I J o.b,I J o.c,I i32 o.v,I J o.te,I J o.tn,I J o.fs,I J o.fe,I J o.fd,I J o.fw,I J o.fk,I J o.fq,.slice o.fa o.fn o.fc] 68)).alloc (.cells #[I J 0,I J 0] 49)).cell? ⟨w.1.size,3,E⟩=O (I J 0):=by rw[zN q,C];rfl
 have g0:=(f.cell (p:=⟨g,j*2,E⟩) D).trans A
 have g1:=(f.cell (p:=⟨g,j*2+1,E⟩) D).trans B
 have s:=fun W=>ze (l W)
 have R:¬(n:Int)=0:=by omega
 have N:(j:Int)<(n:Int):=by omega
 have M:0<=(n:Int)-1-(i:Int):=by omega
 have t:=ze z
 have r:=ze f
 have q1:m<w.1.size+2:=by omega
 have q2:g<w.1.size+2:=by omega
 have q3:w.1.size<w.1.size+2:=by omega
 clear u h l A B q z f Z C
 go_enter func102,ntmps102
 generalize o.b=T at*
 go_wp2_with fail
 generalize((w.alloc (.cells #[I J o.kd,I J o.on,I J o.a,I J T,I J o.c,I i32 o.v,I J o.te,I J o.tn,I J o.fs,I J o.fe,I J o.fd,I J o.fw,I J o.fk,I J o.fq,.slice o.fa o.fn o.fc] 68)).alloc (.cells #[I J 0,I J 0] 49))=X at*
 obtain⟨q,z,-⟩:=zc (ud t)
 have yf:=fun k=>zD (ud t) k
 refine xH 21 (by kernel_rfl) (by kernel_rfl) ?_
 simp only[List.take_succ_cons,List.take_zero,List.drop_succ_cons,List.drop_zero]
 iterate 17 still_step
 still_call (ud (s _))
 still_step
 have G:IntKind.i64.wrap ((n:Int)-1)=(n:Int)-1:=by rw[IntKind.wrap_i64];omega
 have H:IntKind.i64.wrap ((n:Int)-1-(i:Int))=(j:Int):=by rw[IntKind.wrap_i64];omega
 rw[G,H]
 repeat still_step
 refine wpStill_nil ?_
 go_wp2_with fail
 have L:(((X.setCell ⟨w.1.size+1,0,E⟩ (I J te)).setCell ⟨w.1.size+1,1,E⟩ (I J tn)).drew).1[w.1.size+1]?=O (.cells #[I J te,I J tn] 49 (0,0)):=xm (i:=1) (xm (i:=0) (ud t) _) _
 refine bodyPost_ret (v:=.agg #[I J te,I J tn]) (results_cell_row results102 _ _ (w.1.size+1) _ _ _ _ rfl L underlying49 rfl (by kernel_rfl)) rfl ?_
 exact⟨rfl,(((ud r).setCell (p:=⟨w.1.size+1,0,E⟩) (show w.1.size<=w.1.size+1 by omega) _).setCell (p:=⟨w.1.size+1,1,E⟩) (show w.1.size<=w.1.size+1 by omega) _).drew⟩
theorem VB(s c b f ke d:Int)(a:Option Addr)(n cap:Nat)(w:World)(h:zaQ s c b f ke d n=false):
  Calls prog 49 #[.agg #[I J s,I J c,I J b,I J f,I J ke,I J d,.slice a n cap]] w fun e w'=>e=.returned (I J 1)/\Y w.1.size w w':=by
 cases g:inB s 1 4
 ·clear h
  go_enter func49,ntmps49
  go_wp2_with(go_at_call 99;refine(jp _ _ _ _).mono ?_;rintro e w' ⟨rfl,rfl⟩)
  go_ret
  exact⟨rfl,(U _ _).alloc (Q _) _⟩
 cases i:inB c 1 100
 ·clear h
  go_enter func49,ntmps49
  go_wp2_with(go_at_call 99;refine(jp _ _ _ _).mono ?_;rintro e w' ⟨rfl,rfl⟩)
  go_ret
  exact⟨rfl,(U _ _).alloc (Q _) _⟩
 cases j:inB b 0 100
 ·clear h
  go_enter func49,ntmps49
  go_wp2_with(go_at_call 99;refine(jp _ _ _ _).mono ?_;rintro e w' ⟨rfl,rfl⟩)
  go_ret
  exact⟨rfl,(U _ _).alloc (Q _) _⟩
 cases k:inB f 1 50
 ·clear h
  go_enter func49,ntmps49
  go_wp2_with(go_at_call 99;refine(jp _ _ _ _).mono ?_;rintro e w' ⟨rfl,rfl⟩)
  go_ret
  exact⟨rfl,(U _ _).alloc (Q _) _⟩
 cases l:inB ke 0 1000
 ·clear h
  go_enter func49,ntmps49
  go_wp2_with(go_at_call 99;refine(jp _ _ _ _).mono ?_;rintro e w' ⟨rfl,rfl⟩)
  go_ret
  exact⟨rfl,(U _ _).alloc (Q _) _⟩
 cases m:inB d 1 400
 ·clear h
  go_enter func49,ntmps49
  go_wp2_with(go_at_call 99;refine(jp _ _ _ _).mono ?_;rintro e w' ⟨rfl,rfl⟩)
  go_ret
  exact⟨rfl,(U _ _).alloc (Q _) _⟩
 cases o:inB (n:Int) 1 4
 ·clear h
  go_enter func49,ntmps49
  go_wp2_with(go_at_call 99;refine(jp _ _ _ _).mono ?_;rintro e w' ⟨rfl,rfl⟩)
  go_ret
  exact⟨rfl,(U _ _).alloc (Q _) _⟩
 simp[zaQ,g,i,j,k,l,m,o]at h
theorem VC(s x v d ke z:Int)(a:Option Addr)(n cap:Nat)(F W K:Nat->Int)(w:World)(h:TS w a n F W K)(hh:zaQ s x v d ke z n=true):
  Calls prog 49 #[.agg #[I J s,I J x,I J v,I J d,I J ke,I J z,.slice a n cap]] w fun e w'=>e=.returned (I J (ZZ (kR n (vt n F W K)&&kR n (zbN d F W))))/\Y w.1.size w w':=by
 simp only[zaQ,Bool.and_eq_true]at hh
 obtain⟨⟨⟨⟨⟨⟨e0,e1⟩,e2⟩,e3⟩,e4⟩,e5⟩,e6⟩:=hh
 have hn:n<=4:=by rw[qq]at e6;omega
 have a4:1<=d/\d<=1000:=by rw[qq]at e3;omega
 have P:Y w.1.size w (w.alloc (.cells #[I J s,I J x,I J v,I J d,I J ke,I J z,.slice a n cap] 27)):=(U _ _).alloc (Q _) _
 go_enter func49,ntmps49
 go_wp2_with(go_at_call 99;refine(jp _ _ _ _).mono ?_;rintro e w' ⟨rfl,rfl⟩)
 go_loopw [2,10,11,12,13,14] (fun _ y _ _ _ _ wr=>∃(k:Nat),k<=n/\y=I J k/\kR k (vt n F W K)=true/\Y (w.1.size+1) (w.alloc (.cells #[I J s,I J x,I J v,I J d,I J ke,I J z,.slice a n cap] 27)) wr) (fun _ y _ _ _ _ _=>n-(intOf y).toNat)
 case atStart=>exact⟨0,Nat.zero_le _,rfl,ZR _,U _ _⟩
 case round=>
  obtain⟨k,hk,rfl,R,B⟩:=hrel
  have D:Hid (kR k (vt n F W K)=true):=R
  clear R
  have l:Y w.1.size w wr:=P.trans (B.mono (by omega))
  have C:w.1.size<wr.1.size:=by have:=B.size;simp at this;omega
  obtain⟨_,c0,c1,c2,c3,c4,c5,T⟩:=(CF.made w 27 (0,0) s x v d ke z a n cap).below B (by omega)
  by_cases g:k<n
  ·have r:=h.below l
   obtain⟨b,M,rfl,G,S⟩:=h.below l (by omega)
   obtain⟨h1,h2,h3⟩:=S k g
   have a0:(k:Int)<n:=by omega
   clear S
   cases f0:xc n F (n+1) k
   ·have A:Hid ((kR n (vt n F W K)&&kR n (zbN d F W))=false):=by show _=_;rw[xP _ _ k g (by simp[vt,f0])];rfl
    go_wp2_with(first|(go_at_call 99;refine(jp _ _ _ _).mono ?_;rintro e w' ⟨rfl,rfl⟩)|(go_at_call 100;refine(X6 s x v d ke z _ n cap F W K k g hn _ (r.below ((U _ _).alloc (Q _) _))).mono ?_;rintro e m ⟨rfl,c⟩;have f:Y wr.1.size wr m:=((U _ _).alloc (Q _) _).trans (c.mono (by simp));have t:∀o,m.cell? ⟨wr.1.size,o,E⟩=_:=(fun o=>(c.cell (p:=⟨wr.1.size,o,E⟩) (by simp)).trans (QO _ _ _ _ _ _ rfl));have x1:=t 1;have x2:=t 2;clear t c))
    go_ret
    exact⟨jK (kc A.out).symm,l.trans (f.mono (by omega))⟩
   ·cases f1:inB (W k) 1 1000
    ·have A:Hid ((kR n (vt n F W K)&&kR n (zbN d F W))=false):=by show _=_;rw[xP _ _ k g (by simp[vt,f1])];rfl
     go_wp2_with(first|(go_at_call 99;refine(jp _ _ _ _).mono ?_;rintro e w' ⟨rfl,rfl⟩)|(go_at_call 100;refine(X6 s x v d ke z _ n cap F W K k g hn _ (r.below ((U _ _).alloc (Q _) _))).mono ?_;rintro e m ⟨rfl,c⟩;have f:Y wr.1.size wr m:=((U _ _).alloc (Q _) _).trans (c.mono (by simp));have t:∀o,m.cell? ⟨wr.1.size,o,E⟩=_:=(fun o=>(c.cell (p:=⟨wr.1.size,o,E⟩) (by simp)).trans (QO _ _ _ _ _ _ rfl));have x1:=t 1;have x2:=t 2;clear t c))
     go_ret
     exact⟨jK (kc A.out).symm,l.trans (f.mono (by omega))⟩
    ·cases f2:inB (K k) 0 1000
     ·have A:Hid ((kR n (vt n F W K)&&kR n (zbN d F W))=false):=by show _=_;rw[xP _ _ k g (by simp[vt,f2])];rfl
      go_wp2_with(first|(go_at_call 99;refine(jp _ _ _ _).mono ?_;rintro e w' ⟨rfl,rfl⟩)|(go_at_call 100;refine(X6 s x v d ke z _ n cap F W K k g hn _ (r.below ((U _ _).alloc (Q _) _))).mono ?_;rintro e m ⟨rfl,c⟩;have f:Y wr.1.size wr m:=((U _ _).alloc (Q _) _).trans (c.mono (by simp));have t:∀o,m.cell? ⟨wr.1.size,o,E⟩=_:=(fun o=>(c.cell (p:=⟨wr.1.size,o,E⟩) (by simp)).trans (QO _ _ _ _ _ _ rfl));have x1:=t 1;have x2:=t 2;clear t c))
      go_ret
      exact⟨jK (kc A.out).symm,l.trans (f.mono (by omega))⟩
     ·have A:Hid (kR (k+1) (vt n F W K)=true):=by
       show _=_
       rw[ZQ,D.out];simp[vt,f0,f1,f2]
      go_wp2_with(first|(go_at_call 99;refine(jp _ _ _ _).mono ?_;rintro e w' ⟨rfl,rfl⟩)|(go_at_call 100;refine(X6 s x v d ke z _ n cap F W K k g hn _ (r.below ((U _ _).alloc (Q _) _))).mono ?_;rintro e m ⟨rfl,c⟩;have f:Y wr.1.size wr m:=((U _ _).alloc (Q _) _).trans (c.mono (by simp));have t:∀o,m.cell? ⟨wr.1.size,o,E⟩=_:=(fun o=>(c.cell (p:=⟨wr.1.size,o,E⟩) (by simp)).trans (QO _ _ _ _ _ _ rfl));have x1:=t 1;have x2:=t 2;clear t c))
      go_roundw
      case rel=>exact⟨k+1,by omega,by go_num,A.out,B.trans (f.mono (by omega))⟩
      case measure=>simp[intOf];omega
  ·have e:k=n:=by omega
   subst e
   have hW:∀i,i<k->1<=W i/\W i<=1000:=fun i X=>by
    have:=(yV _ _).1 D.out i X;simp only[vt,Bool.and_eq_true,qq]at this;omega
   have hF:∀i,i<k-> -1<=F i/\F i<k:=fun i X=>by
    have:=(yV _ _).1 D.out i X;simp only[vt,Bool.and_eq_true]at this;exact Zp k F i X this.1.1
   have Z:Hid (kR k (vt k F W K)=true):=D
   clear D
   go_wp2
   go_loopw [2,15,16] (fun _ y _ wr=>∃(j:Nat),j<=k/\y=I J j/\kR j (zbN d F W)=true/\Y (w.1.size+1) (w.alloc (.cells #[I J s,I J x,I J v,I J d,I J ke,I J z,.slice a k cap] 27)) wr) (fun _ y _ _=>k-(intOf y).toNat)
   case atStart=>exact⟨0,Nat.zero_le _,rfl,ZR _,B⟩
   case round=>
    clear B l C c0 c1 c2 c3 c4 c5 T
    obtain⟨j,hj,rfl,R,B⟩:=hrel
    have D:Hid (kR j (zbN d F W)=true):=R
    clear R
    have l:Y w.1.size w wr:=P.trans (B.mono (by omega))
    have C:w.1.size<wr.1.size:=by have:=B.size;simp at this;omega
    obtain⟨_,c0,c1,c2,c3,c4,c5,T⟩:=(CF.made w 27 (0,0) s x v d ke z a k cap).below B (by omega)
    by_cases g:j<k
    ·have r:=h.below l
     obtain⟨b,M,rfl,G,S⟩:=h.below l (by omega)
     obtain⟨h1,h2,h3⟩:=S j g
     have a0:(j:Int)<k:=by omega
     have V:=hF j g
     clear S
     have a1:1<=xd d W (F j)/\xd d W (F j)<=1000:=by
      unfold xd
      by_cases e:F j= -1
      ·rw[if_pos e];omega
      ·rw[if_neg e];exact hW _ (by omega)
     obtain⟨a2,a3⟩:=a1
     have a5:=hW j g
     by_cases N:W j%xd d W (F j)=0
     ·have hq:(W j%xd d W (F j) !=0)=false:=by simp[N]
      have A:Hid (kR (j+1) (zbN d F W)=true):=by
       show _=_
       rw[ZQ,D.out];simp[zbN,N]
      clear N
      have L:Nonempty (zm wr.1.size wr):=zm.some _ _
      have H:=fun(u:zm wr.1.size wr) b o h=>u.cell b o h
      go_wp2
      refine zh wr.1.size (by kernel_rfl) (by kernel_rfl) ?_
      repeat(go_big_quiet_step ((go_at_call 101;exact Calls.later (Q _) (vH s x v d ke z _ k cap F W K _ V.1 V.2 hn _ (r.below (Subtype.property _))))))
      refine wpQuiet_nil ?_
      rintro⟨m,f⟩
      clear H L
      obtain⟨q,_⟩:=zku f
      have d6:m.cell? ⟨w.1.size,6,E⟩=_:=(q _ _ C).trans T
      have d2:m.cell? ⟨b,M+j*3+1,E⟩=_:=(q _ _ G).trans h2
      clear q
      dsimp only
      go_wp2
      go_roundw
      case rel=>exact⟨j+1,by omega,by go_num,A.out,B.trans (f.mono (by omega))⟩
      case measure=>simp[intOf];omega
     ·have hq:(W j%xd d W (F j) !=0)=true:=by simp[N]
      have A:Hid ((kR k (vt k F W K)&&kR k (zbN d F W))=false):=by show _=_;rw[xP k (zbN d F W) j g (by simp[zbN,N])];simp
      clear N
      have L:Nonempty (zm wr.1.size wr):=zm.some _ _
      have H:=fun(u:zm wr.1.size wr) b o h=>u.cell b o h
      go_wp2
      refine zh wr.1.size (by kernel_rfl) (by kernel_rfl) ?_
      repeat(go_big_quiet_step ((go_at_call 101;exact Calls.later (Q _) (vH s x v d ke z _ k cap F W K _ V.1 V.2 hn _ (r.below (Subtype.property _))))))
      refine wpQuiet_nil ?_
      rintro⟨m,f⟩
      clear H L
      obtain⟨q,_⟩:=zku f
      have d6:m.cell? ⟨w.1.size,6,E⟩=_:=(q _ _ C).trans T
      have d2:m.cell? ⟨b,M+j*3+1,E⟩=_:=(q _ _ G).trans h2
      clear q
      dsimp only
      go_wp2
      go_ret
      exact⟨jK (kc A.out).symm,l.trans (f.mono (by omega))⟩
    ·have e:j=k:=by omega
     subst e
     have HT:Hid ((kR j (vt j F W K)&&kR j (zbN d F W))=true):=by show _=_;rw[D.out,Z.out];rfl
     go_wp2
     go_ret
     exact⟨jK (zaF HT.out).symm,l⟩
theorem Qc(s d c b ke f:Int)(a:Option Addr)(n cap:Nat)(F W K:Nat->Int)(w:World)(h:TS w a n F W K):
  Calls prog 49 #[.agg #[I J s,I J d,I J c,I J b,I J ke,I J f,.slice a n cap]] w fun e w'=>e=.returned (I J (ZZ (xF s d c b ke f n F W K)))/\Y w.1.size w w':=by
 rw[zdP]
 cases g:zaQ s d c b ke f n
 ·rw[kc (by simp[JT,g])]
  exact VB s d c b ke f a n cap w g
 ·have e:JT s d c b ke f n F W K=(kR n (vt n F W K)&&kR n (zbN b F W)):=by simp[JT,g]
  rw[e]
  exact VC s d c b ke f a n cap F W K w h g
theorem Tryz.infoRefP:(prog.info? 108).map (fun i=>(i.zero,i.size,i.bytes))=O (O (.pointer E),1,8):=by kernel_rfl
theorem Zz(w:World)(o a:Obj):((w.alloc o).alloc a).1[w.1.size+1]?=O a:=(box2 w o a).2.1
theorem YG{w:World}{n x d r q f:Nat}{c:Cf}{ct P:Value}{ep:Int}(t:w.1[n]?=O (zw x d c ct (.slice (O ⟨q,0,E⟩) 1 f) P ep))(L:w.cell? ⟨q,0,E⟩=O (.pointer (O ⟨r,0,E⟩)))(G:q<w.1.size):
  Calls prog 106 #[.pointer (O ⟨n,0,E⟩)] w fun e w'=>∃g cap,e=.returned (.slice (O ⟨g,0,E⟩) 1 cap)/\w'.ownsRow 0 108 1 (.slice (O ⟨g,0,E⟩) 1 cap) 1 [.pointer (O ⟨r,0,E⟩)]/\Y w.1.size w w':=by
 have D:=zd t
 have N:w.cell? ⟨n,9,E⟩=O (.slice (O ⟨q,0,E⟩) 1 f):=by have h:=t;unfold zw at h;rw[zN h];rfl
 have A:0<1:=by decide
 have B:0+1<=maxLen:=by simp[maxLen]
 have C:(0+1)*8<=140737488355328:=by omega
 have K:=ze t
 clear t
 go_enter func106,ntmps106
 go_wp2_with fail
 refine wp_loop_rounds 2 ?_
 rw[rounds_succ]
 go_wp2_with(first|(at_builtin;refine zP rfl _ _ 104 rfl 0 108 _ 1 8 underlying104 Tryz.infoRefP rfl (by decide) (.slice E 0 0) 0 [] rfl (World.ownsRow_nil _ _ _ _) ⟨w.1.size,0,E⟩ 1 1 [.pointer (O ⟨r,0,E⟩)] rfl rfl (World.news_of_block (cs:=#[.pointer (O ⟨r,0,E⟩)]) (zo w _)) (by intro u H;simp at H;subst H;rfl) A B C (Nat.zero_le _) ?_;intro g o s b l a p F;have z:=ze b;have y:=ze a;clear b l a p)|go_in)
 have i:Y w.1.size w (w.alloc (.cells #[.pointer (O ⟨r,0,E⟩)] 108)):=(U _ _).alloc (Q _) _
 have j:Y w.1.size w s:=i.grown (show(w.alloc (.cells #[.pointer (O ⟨r,0,E⟩)] 108)).grownBy s E from ud y) i.size (fun k e=>by cases e)
 have m:=(j.block n D).trans (ud K)
 have R:s.cell? ⟨n,9,E⟩=O (.slice (O ⟨q,0,E⟩) 1 f):=by have h:=m;unfold zw at h;rw[zN h];rfl
 have M:s.cell? ⟨n,10,E⟩=O (.slice E 0 0):=by have h:=m;unfold zw at h;rw[zN h];rfl
 have v:=ze j
 clear i j m N
 refine wp_loop_rounds 1 ?_
 rw[rounds_succ]
 go_wp2_with fail
 rw[rounds_succ]
 go_wp2_with fail
 go_ret
 exact⟨g,o,rfl,ud z,ud v⟩
end Go.Proofs.YtpbimdkclnekeaaGreat
