import Derived.Test.YtndhpgciopcncaaGreatDoorUConf1
import Derived.ProofKit
import Derived.OpenShut
import Derived.Deep.Slices
import Derived.Deep.Strs
import Derived.SizedLaws
import Derived.Test.YtndhpgciopcncaaGreatDoorUKit0
import Derived.Deep.WholeRow
open Option renaming some → I
open Go.Value renaming int → J
open Go.IntKind renaming i64 → O
open Nat renaming le_refl → E
open Go.RowKit.Below renaming refl → Q
open Go renaming Value → U
open Option renaming none → Y
open Go renaming World → Z
open Go.IntKind (i32)
set_option linter.unusedVariables false
set_option maxRecDepth 20000
set_option maxHeartbeats 1000000
open Go.Proofs.Tryz
namespace Go.Proofs.YtndhpgciopcncaaGreatDoor
open Go.RowKit
theorem zgZ(s le la wi ke qu:Int)(a:Option Addr)(n cap:Nat)(F W K:Nat->Int)(hn:n<=4)(x:∀i,i<n-> -1<=F i/\F i<n)(X:1<=wi/\wi<=1000)(H:∀i,i<n->1<=W i/\W i<=1000)(w:Z)(h:TS w a n F W K):
  Calls prog 196 #[.agg #[J O s,J O le,J O la,J O wi,J O ke,J O qu,.slice a n cap]] w fun e w'=>e=.returned (.bool (X6 n (zbH n wi F W)))/\Below w.1.size w w':=by
 go_enter func196,ntmps196
 go_wp2
 go_loopw [2,3,4,8] (fun _ _ _ y wr=>∃(k:Nat),k<=n/\y=J O k/\X6 k (zbH n wi F W)=true/\Below (w.1.size+1) (w.alloc (.cells #[J O s,J O le,J O la,J O wi,J O ke,J O qu,.slice a n cap] 27)) wr) (fun _ _ _ y _=>n-(intOf y).toNat)
 case atStart=>exact⟨0,Nat.zero_le _,rfl,K8 _,Q _ _⟩
 case round=>
  obtain⟨k,hk,rfl,L,z⟩:=hrel
  have D:Hid (X6 k (zbH n wi F W)=true):=L
  clear L
  have p:Below w.1.size w wr:=((Q _ _).alloc (E _) _).trans (z.mono (by omega))
  have V:w.1.size<wr.1.size:=by have:=z.size;simp at this;omega
  by_cases c:k<n
  ·have A:=h.below p
   have B:=(CF.made w 27 (0,0) s le la wi ke qu a n cap).below z (by omega)
   obtain⟨_,c0,c1,c2,c3,c4,c5,c6⟩:=B
   have d:=A
   obtain⟨b,a1,rfl,R,M⟩:=A (by omega)
   obtain⟨h1,h2,h3⟩:=M k c
   have S:(k:Int)<n:=by omega
   have t:=x k c
   clear M h A
   have C:1<=zT wi W (F k)/\zT wi W (F k)<=1000:=by
    unfold zT
    by_cases e:F k= -1
    ·rw[if_pos e];omega
    ·rw[if_neg e];exact H _ (by omega)
   obtain⟨N,P⟩:=C
   have a0:=H k c
   by_cases r:W k%zT wi W (F k)=0
   ·have T:(W k%zT wi W (F k) !=0)=false:=by simp[r]
    cases G:down F n k
    ·have v:Hid (X6 n (zbH n wi F W)=false):=qV _ _ k c (by simp[zbH,G])
     clear r
     have m:Nonempty (zU (wr.1.size+1) (wr.alloc (Obj.cells #[Value.int IntKind.i64 (F k),Value.int IntKind.i64 (W k),Value.int IntKind.i64 (K k)] 80))):=zU.some _ _
     have l:=fun(u:zU (wr.1.size+1) (wr.alloc (Obj.cells #[Value.int IntKind.i64 (F k),Value.int IntKind.i64 (W k),Value.int IntKind.i64 (K k)] 80))) b o h=>u.cell b o h
     go_wp2
     refine zv (wr.1.size+1) (by kernel_rfl) (by kernel_rfl) ?_
     repeat(go_big_quiet_step (first
      |(go_at_call 237;exact Calls.later (by simp) (yu s le la wi ke qu _ n cap F W K _ t.1 t.2 hn _ (d.below (((Q _ _).alloc (E _) _).trans (Below.mono (Subtype.property _) (by omega))))))
      |(go_at_call 240;exact Calls.later_same (kF _ n cap F W K k c hn x _ (d.below (((Q _ _).alloc (E _) _).trans (Below.mono (Subtype.property _) (by omega))))))))
     refine wpQuiet_nil ?_
     rintro⟨q,f⟩
     have g:Below (wr.1.size) wr q:=((Q _ _).alloc (E _) _).trans (f.mono (by omega))
     have j:Below (w.1.size+1) wr q:=g.mono (by omega)
     clear l m
     dsimp only
     go_wp2
     go_ret
     exact⟨xH v.out.symm,p.trans (j.mono (by omega))⟩
    ·have v:Hid (X6 (k+1) (zbH n wi F W)=true):=by
      show _=_
      rw[K7,D.out];simp[zbH,r,G]
     clear r
     have m:Nonempty (zU (wr.1.size+1) (wr.alloc (Obj.cells #[Value.int IntKind.i64 (F k),Value.int IntKind.i64 (W k),Value.int IntKind.i64 (K k)] 80))):=zU.some _ _
     have l:=fun(u:zU (wr.1.size+1) (wr.alloc (Obj.cells #[Value.int IntKind.i64 (F k),Value.int IntKind.i64 (W k),Value.int IntKind.i64 (K k)] 80))) b o h=>u.cell b o h
     go_wp2
     refine zv (wr.1.size+1) (by kernel_rfl) (by kernel_rfl) ?_
     repeat(go_big_quiet_step (first
      |(go_at_call 237;exact Calls.later (by simp) (yu s le la wi ke qu _ n cap F W K _ t.1 t.2 hn _ (d.below (((Q _ _).alloc (E _) _).trans (Below.mono (Subtype.property _) (by omega))))))
      |(go_at_call 240;exact Calls.later_same (kF _ n cap F W K k c hn x _ (d.below (((Q _ _).alloc (E _) _).trans (Below.mono (Subtype.property _) (by omega))))))))
     refine wpQuiet_nil ?_
     rintro⟨q,f⟩
     have g:Below (wr.1.size) wr q:=((Q _ _).alloc (E _) _).trans (f.mono (by omega))
     have j:Below (w.1.size+1) wr q:=g.mono (by omega)
     clear l m
     dsimp only
     go_wp2
     go_roundw
     case rel=>exact⟨k+1,by omega,by go_num,v.out,z.trans j⟩
     case measure=>simp[intOf];omega
   ·have T:(W k%zT wi W (F k) !=0)=true:=by simp[r]
    have v:Hid (X6 n (zbH n wi F W)=false):=qV _ _ k c (by simp[zbH,r])
    clear r
    have m:Nonempty (zU (wr.1.size+1) (wr.alloc (Obj.cells #[Value.int IntKind.i64 (F k),Value.int IntKind.i64 (W k),Value.int IntKind.i64 (K k)] 80))):=zU.some _ _
    have l:=fun(u:zU (wr.1.size+1) (wr.alloc (Obj.cells #[Value.int IntKind.i64 (F k),Value.int IntKind.i64 (W k),Value.int IntKind.i64 (K k)] 80))) b o h=>u.cell b o h
    go_wp2
    refine zv (wr.1.size+1) (by kernel_rfl) (by kernel_rfl) ?_
    repeat(go_big_quiet_step (first
     |(go_at_call 237;exact Calls.later (by simp) (yu s le la wi ke qu _ n cap F W K _ t.1 t.2 hn _ (d.below (((Q _ _).alloc (E _) _).trans (Below.mono (Subtype.property _) (by omega))))))
     |(go_at_call 240;exact Calls.later_same (kF _ n cap F W K k c hn x _ (d.below (((Q _ _).alloc (E _) _).trans (Below.mono (Subtype.property _) (by omega))))))))
    refine wpQuiet_nil ?_
    rintro⟨q,f⟩
    have g:Below (wr.1.size) wr q:=((Q _ _).alloc (E _) _).trans (f.mono (by omega))
    have j:Below (w.1.size+1) wr q:=g.mono (by omega)
    clear l m
    dsimp only
    go_wp2
    go_ret
    exact⟨xH v.out.symm,p.trans (j.mono (by omega))⟩
  ·have e:k=n:=by omega
   subst e
   go_wp2
   go_ret
   exact⟨xH D.out.symm,p⟩
end Go.Proofs.YtndhpgciopcncaaGreatDoor
namespace Go.Proofs.YtndhpgciopcncaaGreatDoor
open Go.RowKit Go.ChangeShapes Go.WideShapes
theorem Tryz.cellsConfig:prog.cellsOf 27=7:=by kernel_rfl
theorem Tryz.cellsTier:prog.cellsOf 80=3:=by kernel_rfl
theorem Tryz.cellsInt:prog.cellsOf 3=1:=by kernel_rfl
theorem Tryz.cellsTiers:prog.cellsOf 25=1:=by kernel_rfl
theorem Tryz.bytesTier:prog.bytesOf 80=24:=by kernel_rfl
section
variable {H:Type} {enc:TypeId×U->H} {w:Z} {held:Bool}
theorem qK(b a j:Nat):(⟨b,a,Y⟩:Addr).add j=⟨b,a+j,Y⟩:=by unfold Addr.add;split<;>simp_all
end
end Go.Proofs.YtndhpgciopcncaaGreatDoor
namespace Go.Proofs.YtndhpgciopcncaaGreatDoor
open Go.RowKit
theorem xD{w:Z}{g:Nat}{cs:Array U}{t:TypeId}{a:Nat×Nat}(h:w.1[g]?=I (.cells cs t a))(i:Nat):w.cell? ⟨g,i,Y⟩=cs[i]?:=by simp[World.cell?,h]
def cF(w:Z)(g:Nat):List Nat->List U->Prop
 |i::l,v::r=>w.cell? ⟨g,i,Y⟩=I v/\cF w g l r
 |_,_=>True
theorem ziL{w:Z}{g:Nat}{cs:Array U}{t:TypeId}{b:Nat×Nat}(h:w.1[g]?=I (.cells cs t b)):∀(m n:Nat) (l:List U),(∀i,l[i]?=cs[n+i]?)->cF w g (List.range' n m) l
 |0,_,_,_=>by simp[List.range',cF]
 |m+1,n,[],_=>by simp[List.range',cF]
 |m+1,n,v::r,a=>by
  rw[List.range'_succ]
  refine⟨?_,ziL h m (n+1) r (fun i=>?_)⟩
  ·rw[xD h];have:=a 0;simpa using this.symm
  ·have:=a (i+1);rw[show n+1+i=n+(i+1) by omega,<-this];simp
theorem zc{w:Z}{g:Nat}{cs:Array U}{t:TypeId}{a:Nat×Nat}(h:w.1[g]?=I (.cells cs t a)):cF w g [0,1,2,3,4,5,6,7,8,9,10,11,12,13,14] cs.toList:=ziL h 15 0 cs.toList (fun i=>by simp)
theorem zE{w:Z}{g:Nat}{cs:Array U}{t:TypeId}(h:w.1[g]?=I (.cells cs t (0,0)))(i:Nat):w.frozen? ⟨g,i,Y⟩=false:=by simp[World.frozen?,h]
theorem zm(w:Z)(o:Obj):(w.alloc o).1[w.1.size]?=I o:=heap_alloc_last w o
theorem zL(w:Z)(o:Obj):(w.alloc o).1.size=w.1.size+1:=by simp
theorem ja{α:Type}{l:List α}{i:Nat}(h:i<l.length):∃a,l[i]?=I a:=⟨_,List.getElem?_eq_getElem h⟩
theorem zjb{w:Z}{B:Nat}{e:TypeId}{v:U}{l:List Nm}(h:w.ownsRow B e 3 v l.length (l.flatMap nmV)){i:Nat}{x:Nm}(a:l[i]?=I x):
  ∃g cap,v=.slice (I ⟨g,0,Y⟩) l.length cap/\B<=g/\g<w.1.size/\w.cell? ⟨g,i*3,Y⟩=I (J O x.sr)/\w.cell? ⟨g,i*3+1,Y⟩=I (J O x.tm)/\w.cell? ⟨g,i*3+2,Y⟩=I (J i32 x.val):=by
 have d:i<l.length:=(List.getElem?_eq_some_iff.1 a).1
 obtain⟨g,cap,hv,c,b⟩:=h.form (by omega)
 rw[hv]at h
 refine⟨g,cap,hv,c,b,?_,?_,?_⟩
 ·rw[h.cellAt _ (by omega)];exact vh (f:=nmV) J5 l i x 0 a (by omega)
 ·rw[h.cellAt _ (by omega)];exact vh (f:=nmV) J5 l i x 1 a (by omega)
 ·rw[h.cellAt _ (by omega)];exact vh (f:=nmV) J5 l i x 2 a (by omega)
theorem zS{w:Z}{B:Nat}{e:TypeId}{size:Nat}{v:U}{n:Nat}{xs:List U}(h:w.ownsRow B e size v n xs):∃a cap,v=.slice a n cap:=by
 rcases h.2 with⟨b,c⟩|⟨g,cap,_,b,_⟩
 ·exact⟨Y,0,by rw[b,c]⟩
 ·exact⟨_,cap,b⟩
theorem xm{w w':Z}{B:Nat}{e:TypeId}{size:Nat}{v:U}{n:Nat}{xs:List U}(h:w.ownsRow B e size v n xs)(a:Below w.1.size w w'):w'.ownsRow B e size v n xs:=
 zk h (zo.of_below (f:=fun _=>False) a) (fun _ _ b=>b)
def yD(s:Sg):U:=.agg #[J O s.t,J O s.sr,J O s.wa]
end Go.Proofs.YtndhpgciopcncaaGreatDoor
namespace Go.Proofs.YtndhpgciopcncaaGreatDoor
open Go.RowKit Go.ChangeShapes Go.WideShapes
theorem Tryz.cellsStep:prog.cellsOf 33=4:=by kernel_rfl
theorem Tryz.cellsInt32K:prog.cellsOf 21=1:=by kernel_rfl
theorem Tryz.bytesStep:prog.bytesOf 33=32:=by kernel_rfl
theorem kg{k:Int}(h:(Lit.int .i64 k).wf=true): -9223372036854775808<=k/\k<=9223372036854775807:=by
 have a:IntKind.min .i64= -9223372036854775808:=by decide
 have b:IntKind.max .i64=9223372036854775807:=by decide
 simp[Lit.wf]at h;omega
theorem zhl{k:Int}(h:(Lit.int .i32 k).wf=true): -2147483648<=k/\k<=2147483647:=by
 have a:IntKind.min .i32= -2147483648:=by decide
 have b:IntKind.max .i32=2147483647:=by decide
 simp[Lit.wf]at h;omega
structure Y4 where
 kd:Int
 a:Int
 b:Int
 v:Int
instance:Inhabited Y4:=⟨⟨0,0,0,0⟩⟩
structure Y4.fits(o:Y4):Prop where
 a: -9223372036854775808<=o.a/\o.a<=9223372036854775807
 b: -9223372036854775808<=o.b/\o.b<=9223372036854775807
 v: -2147483648<=o.v/\o.v<=2147483647
def KS(w:Z)(a:Option Addr)(n:Nat)(G:Nat->Y4):Prop:=
 0<n->∃b c,a=I ⟨b,c,Y⟩/\b<w.1.size/\∀i,i<n->w.cell? ⟨b,c+i*4,Y⟩=I (J O (G i).kd)/\w.cell? ⟨b,c+i*4+1,Y⟩=I (J O (G i).a)/\w.cell? ⟨b,c+i*4+2,Y⟩=I (J O (G i).b)/\w.cell? ⟨b,c+i*4+3,Y⟩=I (J i32 (G i).v)
section
variable {H:Type} {enc:TypeId×U->H} {w:Z} {held:Bool}
theorem zaL{a:Nat}{cs:List U}{x:DataW H×List MemPlace}(h:DataW.trod enc prog w 0 (fun _=>true) held a 80 cs=I x):
  ∃f wd k:Int,cs=[J O f,J O wd,J O k]/\(-9223372036854775808<=f/\f<=9223372036854775807)/\(-9223372036854775808<=wd/\wd<=9223372036854775807)/\(-9223372036854775808<=k/\k<=9223372036854775807):=by
 obtain⟨xs,m,_,rfl,n,b,g⟩:=DataW.trod_struct underlying80 h
 rw[Tryz.cellsTier]at n
 match cs,n with
 |[c,d,e],_=>
  match xs,b with
  |[o,p,q],_=>
   have s:DataW.trod enc prog w 0 (fun _=>true) held m 3 [c]=I o:=by have h:DataW.trod enc prog w 0 (fun _=>true) held m 3 (([c,d,e].drop 0).take (prog.cellsOf 3))=I o:=g 0 _ rfl;rw[Tryz.cellsInt]at h;exact h
   have t:DataW.trod enc prog w 0 (fun _=>true) held m 3 [d]=I p:=by have h:DataW.trod enc prog w 0 (fun _=>true) held m 3 (([c,d,e].drop 1).take (prog.cellsOf 3))=I p:=g 1 _ rfl;rw[Tryz.cellsInt]at h;exact h
   have u:DataW.trod enc prog w 0 (fun _=>true) held m 3 [e]=I q:=by have h:DataW.trod enc prog w 0 (fun _=>true) held m 3 (([c,d,e].drop 2).take (prog.cellsOf 3))=I q:=g 2 _ rfl;rw[Tryz.cellsInt]at h;exact h
   obtain⟨a0,i,_,v⟩:=DataW.trod_int underlying3 s
   obtain⟨r,j,_,y⟩:=DataW.trod_int underlying3 t
   obtain⟨a2,l,_,z⟩:=DataW.trod_int underlying3 u
   simp at i j l
   exact⟨a0,r,a2,by rw[i,j,l],kg v,kg y,kg z⟩
theorem VY{o:Nat}{cs:List U}{x:DataW H×List MemPlace}(h:DataW.trod enc prog w 0 (fun _=>true) held o 25 cs=I x):
  ∃(a:Option Addr) (n cap:Nat) (F W K:Nat->Int),cs=[.slice a n cap]/\TS w a n F W K/\((∀i,i<n->(-9223372036854775808<=F i/\F i<=9223372036854775807))/\(∀i,i<n->(-9223372036854775808<=W i/\W i<=9223372036854775807))/\(∀i,i<n->(-9223372036854775808<=K i/\K i<=9223372036854775807)))/\((n=0/\x.1=.nil)\/∃d l,x.1=.slice d l/\d.length=n):=by
 rcases Go.Deep.open_slice underlying25 h with⟨rfl,rfl⟩|⟨a,len,cap,m,n,D,N,rfl,P,R,S,v,rfl,z⟩
 ·exact⟨Y,0,0,fun _=>0,fun _=>0,fun _=>0,rfl,fun t=>absurd t (Nat.lt_irrefl _),⟨fun i c=>absurd c (Nat.not_lt_zero _),fun i c=>absurd c (Nat.not_lt_zero _),fun i c=>absurd c (Nat.not_lt_zero _)⟩,.inl ⟨rfl,rfl⟩⟩
 ·rw[Tryz.cellsTier]at z
  obtain⟨G,q⟩:=Go.Deep.choose_lt (α:=Int×Int×Int) (n:=len) (p:=fun i g=>w.cells? 0 (a.add (i*3)) 3=I [J O g.1,J O g.2.1,J O g.2.2]/\(-9223372036854775808<=g.1/\g.1<=9223372036854775807)/\(-9223372036854775808<=g.2.1/\g.2.1<=9223372036854775807)/\(-9223372036854775808<=g.2.2/\g.2.2<=9223372036854775807)) (fun i c=>by
   obtain⟨A,B,C⟩:=z i (by rw[v];simp;omega)
   obtain⟨f,wd,k,rfl,L⟩:=zaL C
   exact⟨(f,wd,k),B,L⟩)
  refine⟨I a,len,cap,fun i=>(G i).1,fun i=>(G i).2.1,fun i=>(G i).2.2,rfl,fun t=>?_,⟨fun i c=>(q i c).2.1,fun i c=>(q i c).2.2.1,fun i c=>(q i c).2.2.2⟩,.inr ⟨_,_,rfl,by simp⟩⟩
  obtain⟨b,r,s⟩:=a
  have y:=(World.cells?_some (q 0 t).1).2.2 0 (by omega)
  have j:s=Y:=by simpa[Addr.add]using World.cell?_spot (y.trans (by rfl))
  subst j
  have u:b<w.1.size:=by
   have:w.cell? ⟨b,r,Y⟩=I (J O (G 0).1):=by simpa[Addr.add]using y
   by_cases M:b<w.1.size
   ·exact M
   ·simp[World.cell?,Array.getElem?_eq_none (show w.1.size<=b by omega)]at this
  refine⟨b,r,rfl,u,fun i c=>?_⟩
  have e:=(World.cells?_some (q i c).1).2.2
  refine⟨?_,?_,?_⟩
  ·have:=e 0 (by omega);simpa[qK]using this
  ·have:=e 1 (by omega);simpa[qK]using this
  ·have:=e 2 (by omega);simpa[qK]using this
theorem KG{q:Nat}{cs:List U}{x:DataW H×List MemPlace}(h:DataW.trod enc prog w 0 (fun _=>true) held q 27 cs=I x):
  ∃(s le la wi ke qu:Int) (a:Option Addr) (n cap:Nat) (F W K:Nat->Int),cs=[J O s,J O le,J O la,J O wi,J O ke,J O qu,.slice a n cap]/\TS w a n F W K/\((-9223372036854775808<=s/\s<=9223372036854775807)/\(-9223372036854775808<=le/\le<=9223372036854775807)/\(-9223372036854775808<=la/\la<=9223372036854775807)/\(-9223372036854775808<=wi/\wi<=9223372036854775807)/\(-9223372036854775808<=ke/\ke<=9223372036854775807)/\(-9223372036854775808<=qu/\qu<=9223372036854775807))/\((∀i,i<n->(-9223372036854775808<=F i/\F i<=9223372036854775807))/\(∀i,i<n->(-9223372036854775808<=W i/\W i<=9223372036854775807))/\(∀i,i<n->(-9223372036854775808<=K i/\K i<=9223372036854775807)))/\
   ((∀y∈x.1.weights prog 27,y<=reachBytes)->24*n<=reachBytes):=by
 obtain⟨xs,m,_,rfl,P,r,o⟩:=DataW.trod_struct underlying27 h
 rw[Tryz.cellsConfig]at P
 match cs,P with
 |[b,c,d,e,f,g,k],_=>
  match xs,r with
  |[R,S,T,V,X,y5,A],_=>
   have q0:DataW.trod enc prog w 0 (fun _=>true) held m 3 [b]=I R:=by have h:DataW.trod enc prog w 0 (fun _=>true) held m 3 (([b,c,d,e,f,g,k].drop 0).take (prog.cellsOf 3))=I R:=o 0 _ rfl;rw[Tryz.cellsInt]at h;exact h
   have q1:DataW.trod enc prog w 0 (fun _=>true) held m 3 [c]=I S:=by have h:DataW.trod enc prog w 0 (fun _=>true) held m 3 (([b,c,d,e,f,g,k].drop 1).take (prog.cellsOf 3))=I S:=o 1 _ rfl;rw[Tryz.cellsInt]at h;exact h
   have q2:DataW.trod enc prog w 0 (fun _=>true) held m 3 [d]=I T:=by have h:DataW.trod enc prog w 0 (fun _=>true) held m 3 (([b,c,d,e,f,g,k].drop 2).take (prog.cellsOf 3))=I T:=o 2 _ rfl;rw[Tryz.cellsInt]at h;exact h
   have q3:DataW.trod enc prog w 0 (fun _=>true) held m 3 [e]=I V:=by have h:DataW.trod enc prog w 0 (fun _=>true) held m 3 (([b,c,d,e,f,g,k].drop 3).take (prog.cellsOf 3))=I V:=o 3 _ rfl;rw[Tryz.cellsInt]at h;exact h
   have q4:DataW.trod enc prog w 0 (fun _=>true) held m 3 [f]=I X:=by have h:DataW.trod enc prog w 0 (fun _=>true) held m 3 (([b,c,d,e,f,g,k].drop 4).take (prog.cellsOf 3))=I X:=o 4 _ rfl;rw[Tryz.cellsInt]at h;exact h
   have q5:DataW.trod enc prog w 0 (fun _=>true) held m 3 [g]=I y5:=by have h:DataW.trod enc prog w 0 (fun _=>true) held m 3 (([b,c,d,e,f,g,k].drop 5).take (prog.cellsOf 3))=I y5:=o 5 _ rfl;rw[Tryz.cellsInt]at h;exact h
   have q6:DataW.trod enc prog w 0 (fun _=>true) held m 25 [k]=I A:=by have h:DataW.trod enc prog w 0 (fun _=>true) held m 25 (([b,c,d,e,f,g,k].drop 6).take (prog.cellsOf 25))=I A:=o 6 _ rfl;rw[Tryz.cellsTiers]at h;exact h
   obtain⟨a0,B,_,w0⟩:=DataW.trod_int underlying3 q0
   obtain⟨a1,C,_,w1⟩:=DataW.trod_int underlying3 q1
   obtain⟨a2,D,_,w2⟩:=DataW.trod_int underlying3 q2
   obtain⟨a3,G,_,w3⟩:=DataW.trod_int underlying3 q3
   obtain⟨a4,L,_,w4⟩:=DataW.trod_int underlying3 q4
   obtain⟨a5,M,_,w5⟩:=DataW.trod_int underlying3 q5
   obtain⟨a,n,cap,F,W,K,N,z,t,u⟩:=VY q6
   simp at B C D G L M N
   refine⟨a0,a1,a2,a3,a4,a5,a,n,cap,F,W,K,by rw[B,C,D,G,L,M,N],z,⟨kg w0,kg w1,kg w2,kg w3,kg w4,kg w5⟩,t,fun hw=>?_⟩
   rcases u with⟨rfl,_⟩|⟨l,p,u,v⟩
   ·simp
   ·have hh:=hw ((l.length+p.length)*24) (by
     refine(show∀n∈A.1.weights prog 25,n∈_ from fun n hn=>?_) _ (by rw[u];simp[DataW.weights,underlying25,Tryz.bytesTier])
     simp only[DataW.weights,underlying27]
     exact DataW.weights_mem_each (j:=6) rfl rfl n hn)
    rw[v]at hh
    omega
theorem zaK{g:Nat}{cs:List U}{x:DataW H×List MemPlace}(h:DataW.trod enc prog w 0 (fun _=>true) held g 33 cs=I x):
  ∃o:Y4,cs=[J O o.kd,J O o.a,J O o.b,J i32 o.v]/\o.fits:=by
 obtain⟨xs,m,_,rfl,q,i,j⟩:=DataW.trod_struct underlying33 h
 rw[Tryz.cellsStep]at q
 match cs,q with
 |[c,d,e,f],_=>
  match xs,i with
  |[r,s,t,u],_=>
   have z:DataW.trod enc prog w 0 (fun _=>true) held m 3 [c]=I r:=by have h:DataW.trod enc prog w 0 (fun _=>true) held m 3 (([c,d,e,f].drop 0).take (prog.cellsOf 3))=I r:=j 0 _ rfl;rw[Tryz.cellsInt]at h;exact h
   have A:DataW.trod enc prog w 0 (fun _=>true) held m 3 [d]=I s:=by have h:DataW.trod enc prog w 0 (fun _=>true) held m 3 (([c,d,e,f].drop 1).take (prog.cellsOf 3))=I s:=j 1 _ rfl;rw[Tryz.cellsInt]at h;exact h
   have B:DataW.trod enc prog w 0 (fun _=>true) held m 3 [e]=I t:=by have h:DataW.trod enc prog w 0 (fun _=>true) held m 3 (([c,d,e,f].drop 2).take (prog.cellsOf 3))=I t:=j 2 _ rfl;rw[Tryz.cellsInt]at h;exact h
   have C:DataW.trod enc prog w 0 (fun _=>true) held m 21 [f]=I u:=by have h:DataW.trod enc prog w 0 (fun _=>true) held m 21 (([c,d,e,f].drop 3).take (prog.cellsOf 21))=I u:=j 3 _ rfl;rw[Tryz.cellsInt32K]at h;exact h
   obtain⟨a0,k,_,K⟩:=DataW.trod_int underlying3 z
   obtain⟨y,l,_,D⟩:=DataW.trod_int underlying3 A
   obtain⟨a2,n,_,F⟩:=DataW.trod_int underlying3 B
   obtain⟨a3,p,_,G⟩:=DataW.trod_int underlying21 C
   simp at k l n p
   exact⟨⟨a0,y,a2,a3⟩,by rw[k,l,n,p],⟨kg D,kg F,zhl G⟩⟩
theorem VX{f:Nat}{cs:List U}{x:DataW H×List MemPlace}(h:DataW.trod enc prog w 0 (fun _=>true) held f 28 cs=I x)(z:∀y∈x.1.weights prog 28,y<=reachBytes):
  ∃(a:Option Addr) (n cap:Nat) (G:Nat->Y4),cs=[.slice a n cap]/\KS w a n G/\n<4398046511104/\∀i,i<n->(G i).fits:=by
 rcases Go.Deep.open_slice underlying28 h with⟨rfl,rfl⟩|⟨a,len,cap,m,n,D,M,rfl,N,P,R,t,rfl,A⟩
 ·exact⟨Y,0,0,fun _=>⟨0,0,0,0⟩,rfl,fun q=>absurd q (Nat.lt_irrefl _),by omega,fun i d=>absurd d (Nat.not_lt_zero _)⟩
 ·rw[Tryz.cellsStep]at A
  obtain⟨G,r⟩:=Go.Deep.choose_lt (α:=Y4) (n:=len) (p:=fun i g=>w.cells? 0 (a.add (i*4)) 4=I [J O g.kd,J O g.a,J O g.b,J i32 g.v]/\g.fits) (fun i d=>by
   obtain⟨B,C,F⟩:=A i (by rw[t];simp;omega)
   obtain⟨o,rfl,K⟩:=zaK F
   exact⟨o,C,K⟩)
  simp only[DataW.weights,underlying28,Tryz.bytesStep]at z
  have j:len<4398046511104:=by
   have:=z _ (List.mem_cons_self ..)
   simp only[reachBytes,List.length_map,List.length_range]at this
   omega
  refine⟨I a,len,cap,G,rfl,fun q=>?_,j,fun i d=>(r i d).2⟩
  obtain⟨b,k,l⟩:=a
  have u:=(World.cells?_some (r 0 q).1).2.2 0 (by omega)
  have c:l=Y:=by simpa[Addr.add]using World.cell?_spot (u.trans (by rfl))
  subst c
  have s:b<w.1.size:=by
   have:w.cell? ⟨b,k,Y⟩=I (J O (G 0).kd):=by simpa[Addr.add]using u
   by_cases L:b<w.1.size
   ·exact L
   ·simp[World.cell?,Array.getElem?_eq_none (show w.1.size<=b by omega)]at this
  refine⟨b,k,rfl,s,fun i d=>?_⟩
  have e:=(World.cells?_some (r i d).1).2.2
  refine⟨?_,?_,?_,?_⟩
  ·have:=e 0 (by omega);simpa[qK]using this
  ·have:=e 1 (by omega);simpa[qK]using this
  ·have:=e 2 (by omega);simpa[qK]using this
  ·have:=e 3 (by omega);simpa[qK]using this
end
end Go.Proofs.YtndhpgciopcncaaGreatDoor
