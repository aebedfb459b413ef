import Derived.Test.YtpbimdkclnekeaaGreatVLater
import Derived.ProofKit
import Derived.OpenShut
import Derived.Deep.Slices
import Derived.Deep.Strs
import Derived.SizedLaws
import Derived.Deep.WholeRow
open Option renaming some → I
open Go renaming Value → J
open Go renaming World → O
open Go.Value (int)
open Go.IntKind (i64)
open Go.IntKind (i32)
set_option linter.unusedVariables false
set_option maxRecDepth 20000
set_option maxHeartbeats 1000000
open Go.Proofs.Tryz
namespace Go.Proofs.YtpbimdkclnekeaaGreat
open Go.RowKit Go.ChangeShapes Go.WideShapes
theorem Tryz.cellsConfig:prog.cellsOf 27=7:=by kernel_rfl
theorem Tryz.cellsTier:prog.cellsOf 66=3:=by kernel_rfl
theorem Tryz.cellsInt:prog.cellsOf 3=1:=by kernel_rfl
theorem Tryz.cellsTiers:prog.cellsOf 25=1:=by kernel_rfl
theorem Tryz.bytesTier:prog.bytesOf 66=24:=by kernel_rfl
section
variable {H:Type} {enc:TypeId×J->H} {w:O} {held:Bool}
theorem zfC{a:Nat}{cs:List J}{x:DataW H×List MemPlace}(h:DataW.trod enc prog w 0 (fun _=>true) held a 66 cs=I x):∃f wd k:Int,cs=[int i64 f,int i64 wd,int i64 k]:=by
 obtain⟨xs,m,_,rfl,n,b,g⟩:=DataW.trod_struct underlying66 h
 rw[Tryz.cellsTier]at n
 match cs,n with
 |[c,d,e],_=>
  match xs,b with
  |[o,p,q],_=>
   have u:DataW.trod enc prog w 0 (fun _=>true) held m 3 [c]=I o:=by have h:DataW.trod enc prog w 0 (fun _=>true) held m 3 (([c,d,e].drop 0).take (prog.cellsOf 3))=I o:=g 0 _ rfl;rw[Tryz.cellsInt]at h;exact h
   have v:DataW.trod enc prog w 0 (fun _=>true) held m 3 [d]=I p:=by have h:DataW.trod enc prog w 0 (fun _=>true) held m 3 (([c,d,e].drop 1).take (prog.cellsOf 3))=I p:=g 1 _ rfl;rw[Tryz.cellsInt]at h;exact h
   have y:DataW.trod enc prog w 0 (fun _=>true) held m 3 [e]=I q:=by have h:DataW.trod enc prog w 0 (fun _=>true) held m 3 (([c,d,e].drop 2).take (prog.cellsOf 3))=I q:=g 2 _ rfl;rw[Tryz.cellsInt]at h;exact h
   obtain⟨r,i,_,_⟩:=DataW.trod_int underlying3 u
   obtain⟨s,j,_,_⟩:=DataW.trod_int underlying3 v
   obtain⟨t,l,_,_⟩:=DataW.trod_int underlying3 y
   simp at i j l
   exact⟨r,s,t,by rw[i,j,l]⟩
theorem xi(b a j:Nat):(⟨b,a,none⟩:Addr).add j=⟨b,a+j,none⟩:=by unfold Addr.add;split<;>simp_all
theorem zdp{l:Nat}{cs:List J}{x:DataW H×List MemPlace}(h:DataW.trod enc prog w 0 (fun _=>true) held l 25 cs=I x):
  ∃(a:Option Addr) (n cap:Nat) (F W K:Nat->Int),cs=[.slice a n cap]/\TS w a n F W K/\n<=cap/\((n=0/\x.1=.nil)\/∃c j,x.1=.slice c j/\c.length=n):=by
 rcases Go.Deep.open_slice underlying25 h with⟨rfl,rfl⟩|⟨a,len,cap,m,n,D,M,rfl,N,L,P,t,rfl,z⟩
 ·exact⟨none,0,0,fun _=>0,fun _=>0,fun _=>0,rfl,fun r=>absurd r (Nat.lt_irrefl _),Nat.le_refl _,.inl ⟨rfl,rfl⟩⟩
 ·rw[Tryz.cellsTier]at z
  obtain⟨G,v⟩:=Go.Deep.choose_lt (α:=Int×Int×Int) (n:=len) (p:=fun i g=>w.cells? 0 (a.add (i*3)) 3=I [int i64 g.1,int i64 g.2.1,int i64 g.2.2]) (fun i y=>by
   obtain⟨A,B,C⟩:=z i (by rw[t];simp;omega)
   obtain⟨f,wd,k,rfl⟩:=zfC C
   exact⟨(f,wd,k),B⟩)
  refine⟨I a,len,cap,fun i=>(G i).1,fun i=>(G i).2.1,fun i=>(G i).2.2,rfl,fun r=>?_,L,.inr ⟨_,_,rfl,by simp⟩⟩
  obtain⟨b,o,q⟩:=a
  have u:=(World.cells?_some (v 0 r)).2.2 0 (by omega)
  have d:q=none:=by simpa[Addr.add]using World.cell?_spot (u.trans (by rfl))
  subst d
  have s:b<w.1.size:=by
   have:w.cell? ⟨b,o,none⟩=I (int i64 (G 0).1):=by simpa[Addr.add]using u
   by_cases E:b<w.1.size
   ·exact E
   ·simp[World.cell?,Array.getElem?_eq_none (show w.1.size<=b by omega)]at this
  refine⟨b,o,rfl,s,fun i y=>?_⟩
  have e:=(World.cells?_some (v i y)).2.2
  refine⟨?_,?_,?_⟩
  ·have:=e 0 (by omega);simpa[xi]using this
  ·have:=e 1 (by omega);simpa[xi]using this
  ·have:=e 2 (by omega);simpa[xi]using this
theorem zbc{p:Nat}{cs:List J}{x:DataW H×List MemPlace}(h:DataW.trod enc prog w 0 (fun _=>true) held p 27 cs=I x):
  ∃(s le la wi ke qu:Int) (a:Option Addr) (n cap:Nat) (F W K:Nat->Int),cs=[int i64 s,int i64 le,int i64 la,int i64 wi,int i64 ke,int i64 qu,.slice a n cap]/\TS w a n F W K/\n<=cap/\
   ((∀y∈x.1.weights prog 27,y<=reachBytes)->24*n<=reachBytes):=by
 obtain⟨xs,m,_,rfl,M,q,l⟩:=DataW.trod_struct underlying27 h
 rw[Tryz.cellsConfig]at M
 match cs,M with
 |[b,c,d,e,f,g,i],_=>
  match xs,q with
  |[N,P,Q,R,S,T,z],_=>
   have q0:DataW.trod enc prog w 0 (fun _=>true) held m 3 [b]=I N:=by have h:DataW.trod enc prog w 0 (fun _=>true) held m 3 (([b,c,d,e,f,g,i].drop 0).take (prog.cellsOf 3))=I N:=l 0 _ rfl;rw[Tryz.cellsInt]at h;exact h
   have q1:DataW.trod enc prog w 0 (fun _=>true) held m 3 [c]=I P:=by have h:DataW.trod enc prog w 0 (fun _=>true) held m 3 (([b,c,d,e,f,g,i].drop 1).take (prog.cellsOf 3))=I P:=l 1 _ rfl;rw[Tryz.cellsInt]at h;exact h
   have q2:DataW.trod enc prog w 0 (fun _=>true) held m 3 [d]=I Q:=by have h:DataW.trod enc prog w 0 (fun _=>true) held m 3 (([b,c,d,e,f,g,i].drop 2).take (prog.cellsOf 3))=I Q:=l 2 _ rfl;rw[Tryz.cellsInt]at h;exact h
   have q3:DataW.trod enc prog w 0 (fun _=>true) held m 3 [e]=I R:=by have h:DataW.trod enc prog w 0 (fun _=>true) held m 3 (([b,c,d,e,f,g,i].drop 3).take (prog.cellsOf 3))=I R:=l 3 _ rfl;rw[Tryz.cellsInt]at h;exact h
   have q4:DataW.trod enc prog w 0 (fun _=>true) held m 3 [f]=I S:=by have h:DataW.trod enc prog w 0 (fun _=>true) held m 3 (([b,c,d,e,f,g,i].drop 4).take (prog.cellsOf 3))=I S:=l 4 _ rfl;rw[Tryz.cellsInt]at h;exact h
   have q5:DataW.trod enc prog w 0 (fun _=>true) held m 3 [g]=I T:=by have h:DataW.trod enc prog w 0 (fun _=>true) held m 3 (([b,c,d,e,f,g,i].drop 5).take (prog.cellsOf 3))=I T:=l 5 _ rfl;rw[Tryz.cellsInt]at h;exact h
   have q6:DataW.trod enc prog w 0 (fun _=>true) held m 25 [i]=I z:=by have h:DataW.trod enc prog w 0 (fun _=>true) held m 25 (([b,c,d,e,f,g,i].drop 6).take (prog.cellsOf 25))=I z:=l 6 _ rfl;rw[Tryz.cellsTiers]at h;exact h
   obtain⟨U,A,_,_⟩:=DataW.trod_int underlying3 q0
   obtain⟨V,B,_,_⟩:=DataW.trod_int underlying3 q1
   obtain⟨X,C,_,_⟩:=DataW.trod_int underlying3 q2
   obtain⟨Y,D,_,_⟩:=DataW.trod_int underlying3 q3
   obtain⟨Z,E,_,_⟩:=DataW.trod_int underlying3 q4
   obtain⟨a5,G,_,_⟩:=DataW.trod_int underlying3 q5
   obtain⟨a,n,cap,F,W,K,L,v,u,r⟩:=zdp q6
   simp at A B C D E G L
   refine⟨U,V,X,Y,Z,a5,a,n,cap,F,W,K,by rw[A,B,C,D,E,G,L],v,u,fun hw=>?_⟩
   rcases r with⟨rfl,_⟩|⟨k,o,r,t⟩
   ·simp
   ·have hh:=hw ((k.length+o.length)*24) (by
     refine(show∀n∈z.1.weights prog 25,n∈_ from fun n hn=>?_) _ (by rw[r];simp[DataW.weights,underlying25,Tryz.bytesTier])
     simp only[DataW.weights,underlying27]
     exact DataW.weights_mem_each (j:=6) rfl rfl n hn)
    rw[t]at hh
    omega
end
end Go.Proofs.YtpbimdkclnekeaaGreat
namespace Go.Proofs.YtpbimdkclnekeaaGreat
open Go.RowKit
theorem zN{w:O}{g:Nat}{cs:Array J}{t:TypeId}{a:Nat×Nat}(h:w.1[g]?=I (.cells cs t a))(i:Nat):w.cell? ⟨g,i,none⟩=cs[i]?:=by simp[World.cell?,h]
def cF(w:O)(g:Nat):List Nat->List J->Prop
 |i::l,v::r=>w.cell? ⟨g,i,none⟩=I v/\cF w g l r
 |_,_=>True
theorem zkx{w:O}{g:Nat}{cs:Array J}{t:TypeId}{b:Nat×Nat}(h:w.1[g]?=I (.cells cs t b)):∀(m n:Nat) (l:List J),(∀i,l[i]?=cs[n+i]?)->cF w g (List.range' n m) l
 |0,_,_,_=>by simp[List.range',cF]
 |m+1,n,[],_=>by simp[List.range',cF]
 |m+1,n,v::r,a=>by
  rw[List.range'_succ]
  refine⟨?_,zkx h m (n+1) r (fun i=>?_)⟩
  ·rw[zN h];have:=a 0;simpa using this.symm
  ·have:=a (i+1);rw[show n+1+i=n+(i+1) by omega,<-this];simp
theorem zc{w:O}{g:Nat}{cs:Array J}{t:TypeId}{a:Nat×Nat}(h:w.1[g]?=I (.cells cs t a)):cF w g [0,1,2,3,4,5,6,7,8,9,10,11,12,13,14] cs.toList:=zkx h 15 0 cs.toList (fun i=>by simp)
theorem zD{w:O}{g:Nat}{cs:Array J}{t:TypeId}(h:w.1[g]?=I (.cells cs t (0,0)))(i:Nat):w.frozen? ⟨g,i,none⟩=false:=by simp[World.frozen?,h]
theorem zo(w:O)(o:Obj):(w.alloc o).1[w.1.size]?=I o:=heap_alloc_last w o
theorem zF(w:O)(o:Obj):(w.alloc o).1.size=w.1.size+1:=by simp
theorem xr{α:Type}{l:List α}{i:Nat}(h:i<l.length):∃a,l[i]?=I a:=⟨_,List.getElem?_eq_getElem h⟩
theorem zbn{w:O}{B:Nat}{e:TypeId}{v:J}{l:List Sg}(h:w.ownsRow B e 3 v l.length (l.flatMap sgV)){i:Nat}{x:Sg}(a:l[i]?=I x):
  ∃g cap,v=.slice (I ⟨g,0,none⟩) l.length cap/\B<=g/\g<w.1.size/\w.cell? ⟨g,i*3,none⟩=I (int i64 x.t)/\w.cell? ⟨g,i*3+1,none⟩=I (int i64 x.se)/\w.cell? ⟨g,i*3+2,none⟩=I (int i64 x.we):=by
 have d:i<l.length:=(List.getElem?_eq_some_iff.1 a).1
 obtain⟨g,cap,hv,c,b⟩:=h.form (by omega)
 rw[hv]at h
 refine⟨g,cap,hv,c,b,?_,?_,?_⟩
 ·rw[h.cellAt _ (by omega)];exact ql (f:=sgV) zbm l i x 0 a (by omega)
 ·rw[h.cellAt _ (by omega)];exact ql (f:=sgV) zbm l i x 1 a (by omega)
 ·rw[h.cellAt _ (by omega)];exact ql (f:=sgV) zbm l i x 2 a (by omega)
theorem zkU{w:O}{B:Nat}{e:TypeId}{v:J}{l:List Nm}(h:w.ownsRow B e 3 v l.length (l.flatMap nmV)){i:Nat}{x:Nm}(a:l[i]?=I x):
  ∃g cap,v=.slice (I ⟨g,0,none⟩) l.length cap/\B<=g/\g<w.1.size/\w.cell? ⟨g,i*3,none⟩=I (int i64 x.se)/\w.cell? ⟨g,i*3+1,none⟩=I (int i64 x.tm)/\w.cell? ⟨g,i*3+2,none⟩=I (int i32 x.val):=by
 have d:i<l.length:=(List.getElem?_eq_some_iff.1 a).1
 obtain⟨g,cap,hv,c,b⟩:=h.form (by omega)
 rw[hv]at h
 refine⟨g,cap,hv,c,b,?_,?_,?_⟩
 ·rw[h.cellAt _ (by omega)];exact ql (f:=nmV) zaZ l i x 0 a (by omega)
 ·rw[h.cellAt _ (by omega)];exact ql (f:=nmV) zaZ l i x 1 a (by omega)
 ·rw[h.cellAt _ (by omega)];exact ql (f:=nmV) zaZ l i x 2 a (by omega)
theorem zq{w:O}{B:Nat}{e:TypeId}{size:Nat}{v:J}{n:Nat}{xs:List J}(h:w.ownsRow B e size v n xs):∃a cap,v=.slice a n cap:=by
 rcases h.2 with⟨b,c⟩|⟨g,cap,_,b,_⟩
 ·exact⟨none,0,by rw[b,c]⟩
 ·exact⟨_,cap,b⟩
theorem xv{w w':O}{B:Nat}{e:TypeId}{size:Nat}{v:J}{n:Nat}{xs:List J}(h:w.ownsRow B e size v n xs)(a:Below w.1.size w w'):w'.ownsRow B e size v n xs:=
 zi h (zk.of_below (f:=fun _=>False) a) (fun _ _ b=>b)
def vj(s:Sg):J:=.agg #[int i64 s.t,int i64 s.se,int i64 s.we]
theorem zjS{x s:Sg}(h:¬x=s):(x.t==s.t)=false\/((x.t==s.t)=true/\(x.se==s.se)=false)\/((x.t==s.t)=true/\(x.se==s.se)=true/\(x.we==s.we)=false):=by
 by_cases a:x.t=s.t
 ·by_cases b:x.se=s.se
  ·by_cases c:x.we=s.we
   ·exact absurd (by cases x;cases s;simp_all) h
   ·exact .inr (.inr (by simp[a,b,c]))
  ·exact .inr (.inl (by simp[a,b]))
 ·exact .inl (by simp[a])
def je(s:Sg)(l:List Sg):Bool:=decide (s∈l)
theorem vf{s:Sg}{l:List Sg}(h:s∈l):je s l=true:=by simp[je,h]
theorem XL{s:Sg}{l:List Sg}(h:¬s∈l):je s l=false:=by simp[je,h]
theorem zdn{s:Sg}{l:List Sg}(h:∀j x,j<l.length->l[j]?=I x->x≠s):¬s∈l:=fun b=>by
 obtain⟨j,a⟩:=List.getElem?_of_mem b
 exact h j s (List.getElem?_eq_some_iff.1 a).1 a rfl
theorem xT(B:Nat)(l:List Sg)(v:J)(s:Sg)(w:O)(X:l.length<=1099511627776)(h:w.ownsRow B 232 3 v l.length (l.flatMap sgV)):
  Calls prog 159 #[v,.agg #[int i64 s.t,int i64 s.se,int i64 s.we]] w fun e w'=>e=.returned (.bool (je s l))/\Below w.1.size w w':=by
 obtain⟨a,cap,hv⟩:=zq h
 subst hv
 go_enter func159,ntmps159
 go_wp2_with fail
 go_loopw [5] (fun y wr=>∃(k:Nat),k<=l.length/\y=int i64 k/\(∀j x,j<k->l[j]?=I x->x≠s)/\Below (w.1.size+1) (w.alloc (.cells #[int i64 s.t,int i64 s.se,int i64 s.we] 232)) wr) (fun y _=>l.length-(intOf y).toNat)
 case atStart=>exact⟨0,Nat.zero_le _,rfl,fun j x E=>absurd E (Nat.not_lt_zero _),Below.refl _ _⟩
 case round=>
  obtain⟨k,W,rfl,N,A⟩:=hrel
  have H:=ze N
  clear N
  have m:Below w.1.size w wr:=((Below.refl _ _).alloc (Nat.le_refl _) _).trans (A.mono (by omega))
  have S:w.1.size<wr.1.size:=by have:=A.size;simp at this;omega
  have i:=(A.block w.1.size (by omega)).trans (zo w _)
  obtain⟨Y,Z,s2,-⟩:=zc i
  clear i
  by_cases F:k<l.length
  ·have M:=xv h m
   obtain⟨x,z⟩:=xr F
   obtain⟨g,L,hv,_,Q,T,U,V⟩:=zbn M z
   cases hv
   have K:=ze z
   have R:(k:Int)<l.length:=by omega
   clear z h M
   have r:Nonempty (zm wr.1.size wr):=zm.some _ _
   have q:=fun(u:zm wr.1.size wr) b o h=>u.cell b o h
   by_cases f:x=s
   ·subst f
    go_wp2_with fail
    refine zh wr.1.size (by kernel_rfl) (by kernel_rfl) ?_
    repeat(go_big_quiet_step (fail))
    refine wpQuiet_nil ?_
    rintro⟨n,c⟩
    clear q r
    dsimp only
    go_wp2_with fail
    go_ret
    exact⟨zL (vf (List.mem_of_getElem? (ud K))).symm,m.trans (c.mono (by omega))⟩
   ·have d:∀(n:O),Below wr.1.size wr n->∃(G:Nat),G<=l.length/\int i64 ((k:Int)+1)=int i64 G/\(∀j x,j<G->l[j]?=I x->x≠s)/\Below (w.1.size+1) (w.alloc (.cells #[int i64 s.t,int i64 s.se,int i64 s.we] 232)) n:=fun n c=>by
     refine⟨k+1,by omega,by go_num,fun j y E hj'=>?_,A.trans (c.mono (by omega))⟩
     by_cases e:j=k
     ·subst e;rw[ud K]at hj';cases hj';exact f
     ·exact ud H j y (by omega) hj'
    have p:=ze d
    clear d
    have C:=zjS f
    clear f
    rcases C with C|⟨D,C⟩|⟨D,P,C⟩
    all_goals
     go_wp2_with fail
     refine zh wr.1.size (by kernel_rfl) (by kernel_rfl) ?_
     repeat(go_big_quiet_step (fail))
     refine wpQuiet_nil ?_
     rintro⟨n,c⟩
     clear q r
     dsimp only
     go_wp2_with fail
     go_roundw
     case rel=>exact ud p n c
     case measure=>simp[intOf];omega
  ·go_wp2_with fail
   go_ret
   exact⟨zL (XL (zdn (fun j x E z=>ud H j x (by omega) z))).symm,m⟩
end Go.Proofs.YtpbimdkclnekeaaGreat
