import Derived.Test.YtndhpgciopcncaaGreatDoorYWide
import Derived.ProofKit
import Derived.OpenShut
import Derived.Deep.Slices
import Derived.Deep.Strs
import Derived.SizedLaws
import Derived.Test.YtndhpgciopcncaaGreatDoorYKit0
import Derived.Deep.WholeRow
open Option renaming some → I
open Go.Value renaming int → J
open Go.IntKind renaming i64 → O
open Nat renaming le_refl → E
open Go.RowKit.Below renaming refl → Q
open Go renaming Value → U
open Go renaming World → Y
open Go.RowKit renaming Below → Z
open Go.IntKind (i32)
set_option linter.unusedVariables false
set_option maxRecDepth 20000
set_option maxHeartbeats 1000000
open Go.Proofs.Tryz
namespace Go.Proofs.YtndhpgciopcncaaGreatDoor
open Go.RowKit
theorem zin(s z x c ke A:Int)(a:Option Addr)(n cap:Nat)(F W K:Nat->Int)(hn:n<=4)(C:∀i,i<n-> -1<=F i/\F i<n)(a2:1<=c/\c<=1000)(P:∀i,i<n->1<=W i/\W i<=1000)(w:Y)(h:TS w a n F W K):
  Calls prog 196 #[.agg #[J O s,J O z,J O x,J O c,J O ke,J O A,.slice a n cap]] w fun e w'=>e=.returned (.bool (kq n (zaf n c F W)))/\Z w.1.size w w':=by
 go_enter func196,ntmps196
 go_wp2
 go_loopw [2,3,4,8] (fun _ _ _ y wr=>∃(k:Nat),k<=n/\y=J O k/\kq k (zaf n c F W)=true/\Z (w.1.size+1) (w.alloc (.cells #[J O s,J O z,J O x,J O c,J O ke,J O A,.slice a n cap] 27)) wr) (fun _ _ _ y _=>n-(intOf y).toNat)
 case atStart=>exact⟨0,Nat.zero_le _,rfl,Zm _,Q _ _⟩
 case round=>
  obtain⟨k,hk,rfl,R,D⟩:=hrel
  have M:Hid (kq k (zaf n c F W)=true):=R
  clear R
  have q:Z w.1.size w wr:=((Q _ _).alloc (E _) _).trans (D.mono (by omega))
  have a1:w.1.size<wr.1.size:=by have:=D.size;simp at this;omega
  by_cases d:k<n
  ·have G:=h.below q
   have H:=(CF.made w 27 (0,0) s z x c ke A a n cap).below D (by omega)
   obtain⟨_,c0,c1,c2,c3,c4,c5,c6⟩:=H
   have f:=G
   obtain⟨b,a4,rfl,X,S⟩:=G (by omega)
   obtain⟨h1,h2,h3⟩:=S k d
   have a0:(k:Int)<n:=by omega
   have v:=C k d
   clear S h G
   have L:1<=zY c W (F k)/\zY c W (F k)<=1000:=by
    unfold zY
    by_cases e:F k= -1
    ·rw[if_pos e];omega
    ·rw[if_neg e];exact P _ (by omega)
   obtain⟨T,V⟩:=L
   have a3:=P k d
   by_cases t:W k%zY c W (F k)=0
   ·have hq:(W k%zY c W (F k) !=0)=false:=by simp[t]
    cases N:down F n k
    ·have B:Hid (kq n (zaf n c F W)=false):=xD _ _ k d (by simp[zaf,N])
     clear t
     have p:Nonempty (zj (wr.1.size+1) (wr.alloc (Obj.cells #[Value.int IntKind.i64 (F k),Value.int IntKind.i64 (W k),Value.int IntKind.i64 (K k)] 80))):=zj.some _ _
     have m:=fun(u:zj (wr.1.size+1) (wr.alloc (Obj.cells #[Value.int IntKind.i64 (F k),Value.int IntKind.i64 (W k),Value.int IntKind.i64 (K k)] 80))) b o h=>u.cell b o h
     go_wp2
     refine ze (wr.1.size+1) (by kernel_rfl) (by kernel_rfl) ?_
     repeat(go_big_quiet_step (first
      |(go_at_call 237;exact Calls.later (by simp) (vs s z x c ke A _ n cap F W K _ v.1 v.2 hn _ (f.below (((Q _ _).alloc (E _) _).trans (Below.mono (Subtype.property _) (by omega))))))
      |(go_at_call 240;exact Calls.later_same (kT _ n cap F W K k d hn C _ (f.below (((Q _ _).alloc (E _) _).trans (Below.mono (Subtype.property _) (by omega))))))))
     refine wpQuiet_nil ?_
     rintro⟨r,g⟩
     have j:Z (wr.1.size) wr r:=((Q _ _).alloc (E _) _).trans (g.mono (by omega))
     have l:Z (w.1.size+1) wr r:=j.mono (by omega)
     clear m p
     dsimp only
     go_wp2
     go_ret
     exact⟨zy B.out.symm,q.trans (l.mono (by omega))⟩
    ·have B:Hid (kq (k+1) (zaf n c F W)=true):=by
      show _=_
      rw[Zl,M.out];simp[zaf,t,N]
     clear t
     have p:Nonempty (zj (wr.1.size+1) (wr.alloc (Obj.cells #[Value.int IntKind.i64 (F k),Value.int IntKind.i64 (W k),Value.int IntKind.i64 (K k)] 80))):=zj.some _ _
     have m:=fun(u:zj (wr.1.size+1) (wr.alloc (Obj.cells #[Value.int IntKind.i64 (F k),Value.int IntKind.i64 (W k),Value.int IntKind.i64 (K k)] 80))) b o h=>u.cell b o h
     go_wp2
     refine ze (wr.1.size+1) (by kernel_rfl) (by kernel_rfl) ?_
     repeat(go_big_quiet_step (first
      |(go_at_call 237;exact Calls.later (by simp) (vs s z x c ke A _ n cap F W K _ v.1 v.2 hn _ (f.below (((Q _ _).alloc (E _) _).trans (Below.mono (Subtype.property _) (by omega))))))
      |(go_at_call 240;exact Calls.later_same (kT _ n cap F W K k d hn C _ (f.below (((Q _ _).alloc (E _) _).trans (Below.mono (Subtype.property _) (by omega))))))))
     refine wpQuiet_nil ?_
     rintro⟨r,g⟩
     have j:Z (wr.1.size) wr r:=((Q _ _).alloc (E _) _).trans (g.mono (by omega))
     have l:Z (w.1.size+1) wr r:=j.mono (by omega)
     clear m p
     dsimp only
     go_wp2
     go_roundw
     case rel=>exact⟨k+1,by omega,by go_num,B.out,D.trans l⟩
     case measure=>simp[intOf];omega
   ·have hq:(W k%zY c W (F k) !=0)=true:=by simp[t]
    have B:Hid (kq n (zaf n c F W)=false):=xD _ _ k d (by simp[zaf,t])
    clear t
    have p:Nonempty (zj (wr.1.size+1) (wr.alloc (Obj.cells #[Value.int IntKind.i64 (F k),Value.int IntKind.i64 (W k),Value.int IntKind.i64 (K k)] 80))):=zj.some _ _
    have m:=fun(u:zj (wr.1.size+1) (wr.alloc (Obj.cells #[Value.int IntKind.i64 (F k),Value.int IntKind.i64 (W k),Value.int IntKind.i64 (K k)] 80))) b o h=>u.cell b o h
    go_wp2
    refine ze (wr.1.size+1) (by kernel_rfl) (by kernel_rfl) ?_
    repeat(go_big_quiet_step (first
     |(go_at_call 237;exact Calls.later (by simp) (vs s z x c ke A _ n cap F W K _ v.1 v.2 hn _ (f.below (((Q _ _).alloc (E _) _).trans (Below.mono (Subtype.property _) (by omega))))))
     |(go_at_call 240;exact Calls.later_same (kT _ n cap F W K k d hn C _ (f.below (((Q _ _).alloc (E _) _).trans (Below.mono (Subtype.property _) (by omega))))))))
    refine wpQuiet_nil ?_
    rintro⟨r,g⟩
    have j:Z (wr.1.size) wr r:=((Q _ _).alloc (E _) _).trans (g.mono (by omega))
    have l:Z (w.1.size+1) wr r:=j.mono (by omega)
    clear m p
    dsimp only
    go_wp2
    go_ret
    exact⟨zy B.out.symm,q.trans (l.mono (by omega))⟩
  ·have e:k=n:=by omega
   subst e
   go_wp2
   go_ret
   exact⟨zy M.out.symm,q⟩
end Go.Proofs.YtndhpgciopcncaaGreatDoor
namespace Go.Proofs.YtndhpgciopcncaaGreatDoor
open Go.RowKit Go.ChangeShapes Go.WideShapes
theorem Tryz.cellsConfig:prog.cellsOf 27=7:=by kernel_rfl
theorem Tryz.cellsTier:prog.cellsOf 80=3:=by kernel_rfl
theorem Tryz.cellsInt:prog.cellsOf 3=1:=by kernel_rfl
theorem Tryz.cellsTiers:prog.cellsOf 25=1:=by kernel_rfl
theorem Tryz.bytesTier:prog.bytesOf 80=24:=by kernel_rfl
section
variable {H:Type} {enc:TypeId×U->H} {w:Y} {held:Bool}
theorem zeJ{a:Nat}{cs:List U}{x:DataW H×List MemPlace}(h:DataW.trod enc prog w 0 (fun _=>true) held a 80 cs=I x):∃f wd k:Int,cs=[J O f,J O wd,J O k]:=by
 obtain⟨xs,m,_,rfl,n,b,g⟩:=DataW.trod_struct underlying80 h
 rw[Tryz.cellsTier]at n
 match cs,n with
 |[c,d,e],_=>
  match xs,b with
  |[o,p,q],_=>
   have t:DataW.trod enc prog w 0 (fun _=>true) held m 3 [c]=I o:=by have h:DataW.trod enc prog w 0 (fun _=>true) held m 3 (([c,d,e].drop 0).take (prog.cellsOf 3))=I o:=g 0 _ rfl;rw[Tryz.cellsInt]at h;exact h
   have u:DataW.trod enc prog w 0 (fun _=>true) held m 3 [d]=I p:=by have h:DataW.trod enc prog w 0 (fun _=>true) held m 3 (([c,d,e].drop 1).take (prog.cellsOf 3))=I p:=g 1 _ rfl;rw[Tryz.cellsInt]at h;exact h
   have v:DataW.trod enc prog w 0 (fun _=>true) held m 3 [e]=I q:=by have h:DataW.trod enc prog w 0 (fun _=>true) held m 3 (([c,d,e].drop 2).take (prog.cellsOf 3))=I q:=g 2 _ rfl;rw[Tryz.cellsInt]at h;exact h
   obtain⟨a0,i,_,_⟩:=DataW.trod_int underlying3 t
   obtain⟨r,j,_,_⟩:=DataW.trod_int underlying3 u
   obtain⟨s,l,_,_⟩:=DataW.trod_int underlying3 v
   simp at i j l
   exact⟨a0,r,s,by rw[i,j,l]⟩
theorem zV(b a j:Nat):(⟨b,a,none⟩:Addr).add j=⟨b,a+j,none⟩:=by unfold Addr.add;split<;>simp_all
theorem zcK{l:Nat}{cs:List U}{x:DataW H×List MemPlace}(h:DataW.trod enc prog w 0 (fun _=>true) held l 25 cs=I x):
  ∃(a:Option Addr) (n cap:Nat) (F W K:Nat->Int),cs=[.slice a n cap]/\TS w a n F W K/\n<=cap/\((n=0/\x.1=.nil)\/∃c j,x.1=.slice c j/\c.length=n):=by
 rcases Go.Deep.open_slice underlying25 h with⟨rfl,rfl⟩|⟨a,len,cap,m,n,D,N,rfl,P,M,R,t,rfl,z⟩
 ·exact⟨none,0,0,fun _=>0,fun _=>0,fun _=>0,rfl,fun r=>absurd r (Nat.lt_irrefl _),E _,.inl ⟨rfl,rfl⟩⟩
 ·rw[Tryz.cellsTier]at z
  obtain⟨G,v⟩:=Go.Deep.choose_lt (α:=Int×Int×Int) (n:=len) (p:=fun i g=>w.cells? 0 (a.add (i*3)) 3=I [J O g.1,J O g.2.1,J O g.2.2]) (fun i y=>by
   obtain⟨A,B,C⟩:=z i (by rw[t];simp;omega)
   obtain⟨f,wd,k,rfl⟩:=zeJ C
   exact⟨(f,wd,k),B⟩)
  refine⟨I a,len,cap,fun i=>(G i).1,fun i=>(G i).2.1,fun i=>(G i).2.2,rfl,fun r=>?_,M,.inr ⟨_,_,rfl,by simp⟩⟩
  obtain⟨b,o,q⟩:=a
  have u:=(World.cells?_some (v 0 r)).2.2 0 (by omega)
  have d:q=none:=by simpa[Addr.add]using World.cell?_spot (u.trans (by rfl))
  subst d
  have s:b<w.1.size:=by
   have:w.cell? ⟨b,o,none⟩=I (J O (G 0).1):=by simpa[Addr.add]using u
   by_cases L:b<w.1.size
   ·exact L
   ·simp[World.cell?,Array.getElem?_eq_none (show w.1.size<=b by omega)]at this
  refine⟨b,o,rfl,s,fun i y=>?_⟩
  have e:=(World.cells?_some (v i y)).2.2
  refine⟨?_,?_,?_⟩
  ·have:=e 0 (by omega);simpa[zV]using this
  ·have:=e 1 (by omega);simpa[zV]using this
  ·have:=e 2 (by omega);simpa[zV]using this
theorem zap{p:Nat}{cs:List U}{x:DataW H×List MemPlace}(h:DataW.trod enc prog w 0 (fun _=>true) held p 27 cs=I x):
  ∃(s le la wi ke qu:Int) (a:Option Addr) (n cap:Nat) (F W K:Nat->Int),cs=[J O s,J O le,J O la,J O wi,J O ke,J O qu,.slice a n cap]/\TS w a n F W K/\n<=cap/\
   ((∀y∈x.1.weights prog 27,y<=reachBytes)->24*n<=reachBytes):=by
 obtain⟨xs,m,_,rfl,N,q,l⟩:=DataW.trod_struct underlying27 h
 rw[Tryz.cellsConfig]at N
 match cs,N with
 |[b,c,d,e,f,g,i],_=>
  match xs,q with
  |[P,R,S,T,V,X,z],_=>
   have q0:DataW.trod enc prog w 0 (fun _=>true) held m 3 [b]=I P:=by have h:DataW.trod enc prog w 0 (fun _=>true) held m 3 (([b,c,d,e,f,g,i].drop 0).take (prog.cellsOf 3))=I P:=l 0 _ rfl;rw[Tryz.cellsInt]at h;exact h
   have q1:DataW.trod enc prog w 0 (fun _=>true) held m 3 [c]=I R:=by have h:DataW.trod enc prog w 0 (fun _=>true) held m 3 (([b,c,d,e,f,g,i].drop 1).take (prog.cellsOf 3))=I R:=l 1 _ rfl;rw[Tryz.cellsInt]at h;exact h
   have q2:DataW.trod enc prog w 0 (fun _=>true) held m 3 [d]=I S:=by have h:DataW.trod enc prog w 0 (fun _=>true) held m 3 (([b,c,d,e,f,g,i].drop 2).take (prog.cellsOf 3))=I S:=l 2 _ rfl;rw[Tryz.cellsInt]at h;exact h
   have q3:DataW.trod enc prog w 0 (fun _=>true) held m 3 [e]=I T:=by have h:DataW.trod enc prog w 0 (fun _=>true) held m 3 (([b,c,d,e,f,g,i].drop 3).take (prog.cellsOf 3))=I T:=l 3 _ rfl;rw[Tryz.cellsInt]at h;exact h
   have q4:DataW.trod enc prog w 0 (fun _=>true) held m 3 [f]=I V:=by have h:DataW.trod enc prog w 0 (fun _=>true) held m 3 (([b,c,d,e,f,g,i].drop 4).take (prog.cellsOf 3))=I V:=l 4 _ rfl;rw[Tryz.cellsInt]at h;exact h
   have q5:DataW.trod enc prog w 0 (fun _=>true) held m 3 [g]=I X:=by have h:DataW.trod enc prog w 0 (fun _=>true) held m 3 (([b,c,d,e,f,g,i].drop 5).take (prog.cellsOf 3))=I X:=l 5 _ rfl;rw[Tryz.cellsInt]at h;exact h
   have q6:DataW.trod enc prog w 0 (fun _=>true) held m 25 [i]=I z:=by have h:DataW.trod enc prog w 0 (fun _=>true) held m 25 (([b,c,d,e,f,g,i].drop 6).take (prog.cellsOf 25))=I z:=l 6 _ rfl;rw[Tryz.cellsTiers]at h;exact h
   obtain⟨a0,A,_,_⟩:=DataW.trod_int underlying3 q0
   obtain⟨a1,B,_,_⟩:=DataW.trod_int underlying3 q1
   obtain⟨a2,C,_,_⟩:=DataW.trod_int underlying3 q2
   obtain⟨a3,D,_,_⟩:=DataW.trod_int underlying3 q3
   obtain⟨a4,G,_,_⟩:=DataW.trod_int underlying3 q4
   obtain⟨a5,L,_,_⟩:=DataW.trod_int underlying3 q5
   obtain⟨a,n,cap,F,W,K,M,v,u,r⟩:=zcK q6
   simp at A B C D G L M
   refine⟨a0,a1,a2,a3,a4,a5,a,n,cap,F,W,K,by rw[A,B,C,D,G,L,M],v,u,fun hw=>?_⟩
   rcases r with⟨rfl,_⟩|⟨k,o,r,t⟩
   ·simp
   ·have hh:=hw ((k.length+o.length)*24) (by
     refine(show∀n∈z.1.weights prog 25,n∈_ from fun n hn=>?_) _ (by rw[r];simp[DataW.weights,underlying25,Tryz.bytesTier])
     simp only[DataW.weights,underlying27]
     exact DataW.weights_mem_each (j:=6) rfl rfl n hn)
    rw[t]at hh
    omega
end
end Go.Proofs.YtndhpgciopcncaaGreatDoor
namespace Go.Proofs.YtndhpgciopcncaaGreatDoor
open Go.RowKit
theorem xd{w:Y}{g:Nat}{cs:Array U}{t:TypeId}{a:Nat×Nat}(h:w.1[g]?=I (.cells cs t a))(i:Nat):w.cell? ⟨g,i,none⟩=cs[i]?:=by simp[World.cell?,h]
def cF(w:Y)(g:Nat):List Nat->List U->Prop
 |i::l,v::r=>w.cell? ⟨g,i,none⟩=I v/\cF w g l r
 |_,_=>True
theorem zjG{w:Y}{g:Nat}{cs:Array U}{t:TypeId}{b:Nat×Nat}(h:w.1[g]?=I (.cells cs t b)):∀(m n:Nat) (l:List U),(∀i,l[i]?=cs[n+i]?)->cF w g (List.range' n m) l
 |0,_,_,_=>by simp[List.range',cF]
 |m+1,n,[],_=>by simp[List.range',cF]
 |m+1,n,v::r,a=>by
  rw[List.range'_succ]
  refine⟨?_,zjG h m (n+1) r (fun i=>?_)⟩
  ·rw[xd h];have:=a 0;simpa using this.symm
  ·have:=a (i+1);rw[show n+1+i=n+(i+1) by omega,<-this];simp
theorem zc{w:Y}{g:Nat}{cs:Array U}{t:TypeId}{a:Nat×Nat}(h:w.1[g]?=I (.cells cs t a)):cF w g [0,1,2,3,4,5,6,7,8,9,10,11,12,13,14] cs.toList:=zjG h 15 0 cs.toList (fun i=>by simp)
theorem zH{w:Y}{g:Nat}{cs:Array U}{t:TypeId}(h:w.1[g]?=I (.cells cs t (0,0)))(i:Nat):w.frozen? ⟨g,i,none⟩=false:=by simp[World.frozen?,h]
theorem zr(w:Y)(o:Obj):(w.alloc o).1[w.1.size]?=I o:=heap_alloc_last w o
theorem zG(w:Y)(o:Obj):(w.alloc o).1.size=w.1.size+1:=by simp
theorem xz{α:Type}{l:List α}{i:Nat}(h:i<l.length):∃a,l[i]?=I a:=⟨_,List.getElem?_eq_getElem h⟩
theorem zaF{w:Y}{B:Nat}{e:TypeId}{v:U}{l:List Sg}(h:w.ownsRow B e 3 v l.length (l.flatMap sgV)){i:Nat}{x:Sg}(a:l[i]?=I x):
  ∃g cap,v=.slice (I ⟨g,0,none⟩) l.length cap/\B<=g/\g<w.1.size/\w.cell? ⟨g,i*3,none⟩=I (J O x.t)/\w.cell? ⟨g,i*3+1,none⟩=I (J O x.se)/\w.cell? ⟨g,i*3+2,none⟩=I (J O x.wn):=by
 have d:i<l.length:=(List.getElem?_eq_some_iff.1 a).1
 obtain⟨g,cap,hv,c,b⟩:=h.form (by omega)
 rw[hv]at h
 refine⟨g,cap,hv,c,b,?_,?_,?_⟩
 ·rw[h.cellAt _ (by omega)];exact qw (f:=sgV) zaE l i x 0 a (by omega)
 ·rw[h.cellAt _ (by omega)];exact qw (f:=sgV) zaE l i x 1 a (by omega)
 ·rw[h.cellAt _ (by omega)];exact qw (f:=sgV) zaE l i x 2 a (by omega)
theorem zka{w:Y}{B:Nat}{e:TypeId}{v:U}{l:List Nm}(h:w.ownsRow B e 3 v l.length (l.flatMap nmV)){i:Nat}{x:Nm}(a:l[i]?=I x):
  ∃g cap,v=.slice (I ⟨g,0,none⟩) l.length cap/\B<=g/\g<w.1.size/\w.cell? ⟨g,i*3,none⟩=I (J O x.se)/\w.cell? ⟨g,i*3+1,none⟩=I (J O x.tm)/\w.cell? ⟨g,i*3+2,none⟩=I (J i32 x.val):=by
 have d:i<l.length:=(List.getElem?_eq_some_iff.1 a).1
 obtain⟨g,cap,hv,c,b⟩:=h.form (by omega)
 rw[hv]at h
 refine⟨g,cap,hv,c,b,?_,?_,?_⟩
 ·rw[h.cellAt _ (by omega)];exact qw (f:=nmV) zao l i x 0 a (by omega)
 ·rw[h.cellAt _ (by omega)];exact qw (f:=nmV) zao l i x 1 a (by omega)
 ·rw[h.cellAt _ (by omega)];exact qw (f:=nmV) zao l i x 2 a (by omega)
theorem zm{w:Y}{B:Nat}{e:TypeId}{size:Nat}{v:U}{n:Nat}{xs:List U}(h:w.ownsRow B e size v n xs):∃a cap,v=.slice a n cap:=by
 rcases h.2 with⟨b,c⟩|⟨g,cap,_,b,_⟩
 ·exact⟨none,0,by rw[b,c]⟩
 ·exact⟨_,cap,b⟩
theorem zM{w w':Y}{B:Nat}{e:TypeId}{size:Nat}{v:U}{n:Nat}{xs:List U}(h:w.ownsRow B e size v n xs)(a:Z w.1.size w w'):w'.ownsRow B e size v n xs:=
 zg h (zk.of_below (f:=fun _=>False) a) (fun _ _ b=>b)
def yO(s:Sg):U:=.agg #[J O s.t,J O s.se,J O s.wn]
theorem ziZ{x s:Sg}(h:¬x=s):(x.t==s.t)=false\/((x.t==s.t)=true/\(x.se==s.se)=false)\/((x.t==s.t)=true/\(x.se==s.se)=true/\(x.wn==s.wn)=false):=by
 by_cases a:x.t=s.t
 ·by_cases b:x.se=s.se
  ·by_cases c:x.wn=s.wn
   ·exact absurd (by cases x;cases s;simp_all) h
   ·exact .inr (.inr (by simp[a,b,c]))
  ·exact .inr (.inl (by simp[a,b]))
 ·exact .inl (by simp[a])
def vv(s:Sg)(l:List Sg):Bool:=decide (s∈l)
theorem kz{s:Sg}{l:List Sg}(h:s∈l):vv s l=true:=by simp[vv,h]
theorem Xh{s:Sg}{l:List Sg}(h:¬s∈l):vv s l=false:=by simp[vv,h]
theorem zcH{s:Sg}{l:List Sg}(h:∀j x,j<l.length->l[j]?=I x->x≠s):¬s∈l:=fun b=>by
 obtain⟨j,a⟩:=List.getElem?_of_mem b
 exact h j s (List.getElem?_eq_some_iff.1 a).1 a rfl
theorem xH(B:Nat)(l:List Sg)(v:U)(s:Sg)(w:Y)(hl:l.length<=1099511627776)(h:w.ownsRow B 287 3 v l.length (l.flatMap sgV)):
  Calls prog 218 #[v,.agg #[J O s.t,J O s.se,J O s.wn]] w fun e w'=>e=.returned (.bool (vv s l))/\Z w.1.size w w':=by
 obtain⟨a,cap,hv⟩:=zm h
 subst hv
 go_enter func218,ntmps218
 go_wp2_with fail
 go_loopw [5] (fun y wr=>∃(k:Nat),k<=l.length/\y=J O k/\(∀j x,j<k->l[j]?=I x->x≠s)/\Z (w.1.size+1) (w.alloc (.cells #[J O s.t,J O s.se,J O s.wn] 287)) wr) (fun y _=>l.length-(intOf y).toNat)
 case atStart=>exact⟨0,Nat.zero_le _,rfl,fun j x G=>absurd G (Nat.not_lt_zero _),Q _ _⟩
 case round=>
  obtain⟨k,hk,rfl,R,C⟩:=hrel
  have L:=zd R
  clear R
  have m:Z w.1.size w wr:=((Q _ _).alloc (E _) _).trans (C.mono (by omega))
  have W:w.1.size<wr.1.size:=by have:=C.size;simp at this;omega
  have i:=(C.block w.1.size (by omega)).trans (zr w _)
  obtain⟨s0,s1,s2,-⟩:=zc i
  clear i
  by_cases H:k<l.length
  ·have P:=zM h m
   obtain⟨x,A⟩:=xz H
   obtain⟨g,N,hv,_,T,X,h2,h3⟩:=zaF P A
   cases hv
   have M:=zd A
   have V:(k:Int)<l.length:=by omega
   clear A h P
   have z:Nonempty (zj wr.1.size wr):=zj.some _ _
   have r:=fun(u:zj wr.1.size wr) b o h=>u.cell b o h
   by_cases f:x=s
   ·subst f
    go_wp2_with fail
    refine ze wr.1.size (by kernel_rfl) (by kernel_rfl) ?_
    repeat(go_big_quiet_step (fail))
    refine wpQuiet_nil ?_
    rintro⟨p,c⟩
    clear r z
    dsimp only
    go_wp2_with fail
    go_ret
    exact⟨zy (kz (List.mem_of_getElem? (ud M))).symm,m.trans (c.mono (by omega))⟩
   ·have d:∀(p:Y),Z wr.1.size wr p->∃(K:Nat),K<=l.length/\J O ((k:Int)+1)=J O K/\(∀j x,j<K->l[j]?=I x->x≠s)/\Z (w.1.size+1) (w.alloc (.cells #[J O s.t,J O s.se,J O s.wn] 287)) p:=fun p c=>by
     refine⟨k+1,by omega,by go_num,fun j y G n=>?_,C.trans (c.mono (by omega))⟩
     by_cases e:j=k
     ·subst e;rw[ud M]at n;cases n;exact f
     ·exact ud L j y (by omega) n
    have q:=zd d
    clear d
    have D:=ziZ f
    clear f
    rcases D with D|⟨F,D⟩|⟨F,S,D⟩
    all_goals
     go_wp2_with fail
     refine ze wr.1.size (by kernel_rfl) (by kernel_rfl) ?_
     repeat(go_big_quiet_step (fail))
     refine wpQuiet_nil ?_
     rintro⟨p,c⟩
     clear r z
     dsimp only
     go_wp2_with fail
     go_roundw
     case rel=>exact ud q p c
     case measure=>simp[intOf];omega
  ·go_wp2_with fail
   go_ret
   exact⟨zy (Xh (zcH (fun j x G A=>ud L j x (by omega) A))).symm,m⟩
end Go.Proofs.YtndhpgciopcncaaGreatDoor
