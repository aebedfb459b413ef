import Derived.Test.YtndhpgciopcncaaGreatDoorRows
import Derived.Test.YtndhpgciopcncaaGreatDoorChecked
import Derived.WalkKit
import Derived.ProofKit
import Derived.Test.YtndhpgciopcncaaGreatDoorVJn2
set_option linter.unusedVariables false
namespace Go.Proofs.YtndhpgciopcncaaGreatDoor
open Go.ChangeShapes Go.WideShapes Go.ChangeAt Go.RowKit
set_option maxRecDepth 100000
theorem zgk:(Rows.rolledRow.inPlace==Tryz.pinned.checked.prog.inPlace 5)=true:=by kernel_rfl
theorem zgl:(Rows.rolledRow.unfollowed==Tryz.pinned.checked.prog.unfollowed 5)=true:=by kernel_rfl
theorem zgm:(Rows.rolledRow.recurses==Tryz.pinned.checked.prog.recurses 5)=true:=by kernel_rfl
theorem zgn:(Rows.rolledRow.named==Tryz.pinned.checked.prog.varsNamed 5)=true:=by kernel_rfl
theorem Vs:joinedFacts Tryz.pinned.checked.prog 5 Tryz.f5 Rows.rolledSpec Rows.rolledRow=true:=by
 simp only[joinedFacts,Bool.and_eq_true]
 repeat' apply And.intro
 all_goals first|with_reducible exact zgk|with_reducible exact zgl|with_reducible exact zgm|with_reducible exact zgn|kernel_rfl
end Go.Proofs.YtndhpgciopcncaaGreatDoor
namespace Go.Proofs.YtndhpgciopcncaaGreatDoor
open Go.RowKit Go.Maps Go.Shelf
def vD(P:Nm->Prop)[DecidablePred P]:List Nm->Int
 |[]=>0
 |x::r=>(if P x then 1 else 0)+vD P r
def Kh(P:Nm->Prop)[DecidablePred P]:List Nm->Int
 |[]=>0
 |x::r=>(if P x then x.val else 0)+Kh P r
structure IsC(P:Nm->Prop)[DecidablePred P](ns:List Nm)(a:Cl):Prop where
 cnt:a.cnt=vD P ns
 sum:a.sum=wrap64 (Kh P ns)
 none:vD P ns=0->a.mn=0/\a.mx=0
 mn:vD P ns≠0->(∃x∈ns,P x/\x.val=a.mn)/\∀x∈ns,P x->a.mn<=x.val
 mx:vD P ns≠0->(∃x∈ns,P x/\x.val=a.mx)/\∀x∈ns,P x->x.val<=a.mx
section
variable {P Q:Nm->Prop} [DecidablePred P] [DecidablePred Q] {ns:List Nm}
theorem qM:∀ns:List Nm,0<=vD P ns/\vD P ns<=ns.length
 |[]=>by simp[vD]
 |x::r=>by
  have:=qM r
  simp only[vD,List.length_cons]
  split<;>omega
theorem yr:∀{ns:List Nm},vD P ns=0↔∀x∈ns,¬P x
 |[]=>by simp[vD]
 |x::r=>by
  have e:=qM (P:=P) r
  have b:=yr (ns:=r)
  simp only[vD,List.mem_cons,forall_eq_or_imp]
  constructor
  ·intro h
   by_cases a:P x
   ·rw[if_pos a]at h;omega
   ·rw[if_neg a]at h;exact⟨a,b.1 (by omega)⟩
  ·rintro⟨c,d⟩
   rw[if_neg c,b.2 d];rfl
theorem VD:∀{ns:List Nm},(∀x∈ns,¬P x)->Kh P ns=0
 |[],_=>by simp[Kh]
 |x::r,h=>by
  have a:=VD (ns:=r) (fun y b=>h y (by simp[b]))
  simp only[Kh]
  rw[if_neg (h x (by simp)),a];rfl
theorem ZB:∀{ns:List Nm},(∀x∈ns,P x↔Q x)->vD P ns=vD Q ns/\Kh P ns=Kh Q ns
 |[],_=>by simp[vD,Kh]
 |x::r,h=>by
  have a:=ZB (ns:=r) (fun y c=>h y (by simp[c]))
  have b:=h x (by simp)
  simp only[vD,Kh,b,a.1,a.2,and_self]
theorem zcD{R:Nm->Prop}[DecidablePred R]:∀{ns:List Nm},(∀x∈ns,R x↔P x\/Q x)->(∀x∈ns,¬(P x/\Q x))->vD R ns=vD P ns+vD Q ns/\Kh R ns=Kh P ns+Kh Q ns
 |[],_,_=>by simp[vD,Kh]
 |x::r,h,hn=>by
  have c:=zcD (ns:=r) (fun y b=>h y (by simp[b])) (fun y b=>hn y (by simp[b]))
  have a:=h x (by simp)
  have d:=hn x (by simp)
  simp only[vD,Kh,c.1,c.2]
  by_cases p:P x
  ·have q:¬Q x:=fun q=>d ⟨p,q⟩
   simp only[a,p,q,true_or,if_true,if_false];constructor<;>omega
  ·by_cases q:Q x
   ·simp only[a,p,q,or_true,if_true,if_false];constructor<;>omega
   ·simp only[a,p,q,or_self,if_false];constructor<;>omega
theorem IsC.congr{a:Cl}(h:IsC P ns a)(c:∀x∈ns,P x↔Q x):IsC Q ns a:=by
 obtain⟨f,k⟩:=ZB c
 refine⟨by rw[h.cnt,f],by rw[h.sum,k],fun b=>h.none (by rw[f];exact b),fun b=>?_,fun b=>?_⟩
 ·obtain⟨⟨x,d,i,ex⟩,g⟩:=h.mn (by rw[f];exact b)
  exact⟨⟨x,d,(c x d).1 i,ex⟩,fun y e j=>g y e ((c y e).2 j)⟩
 ·obtain⟨⟨x,d,i,ex⟩,g⟩:=h.mx (by rw[f];exact b)
  exact⟨⟨x,d,(c x d).1 i,ex⟩,fun y e j=>g y e ((c y e).2 j)⟩
theorem IsC.one{a b:Cl}(h:IsC P ns a)(k:IsC P ns b):a=b:=by
 obtain⟨G,H,a3,a4⟩:=a
 obtain⟨I,J,n,o⟩:=b
 have f:=h.cnt.trans k.cnt.symm
 have g:=h.sum.trans k.sum.symm
 simp only at f g
 subst f g
 by_cases c:vD P ns=0
 ·obtain⟨j,d⟩:=h.none c
  obtain⟨l,e⟩:=k.none c
  simp only at j d l e
  subst j d l e;rfl
 ·obtain⟨⟨x,w,D,ex⟩,d⟩:=h.mn c
  obtain⟨⟨y,A,E,s⟩,e⟩:=k.mn c
  obtain⟨⟨z,B,F,t⟩,m⟩:=h.mx c
  obtain⟨⟨u,v,C,r⟩,i⟩:=k.mx c
  simp only at ex s t r d e m i
  have:=d y A E;have:=e x w D;have:=m u v C;have:=i z B F
  have p:a3=n:=by omega
  have q:a4=o:=by omega
  subst p q;rfl
theorem IsC.zero(h:∀x∈ns,¬P x):IsC P ns qc:=by
 have b:=yr.2 h
 have c:=VD h
 exact⟨by rw[b];rfl,by rw[c];show(0:Int)=wrap64 0;unfold wrap64;omega,fun _=>⟨rfl,rfl⟩,fun a=>absurd b a,fun a=>absurd b a⟩
theorem Xz(x:Nm):∀ns:List Nm,vD P (ns++[x])=vD P ns+(if P x then 1 else 0)/\Kh P (ns++[x])=Kh P ns+(if P x then x.val else 0)
 |[]=>by simp[vD,Kh]
 |y::r=>by
  have h:=Xz x r
  simp only[List.cons_append,vD,Kh,h.1,h.2]
  constructor<;>omega
theorem IsC.skip{a:Cl}{x:Nm}(h:IsC P ns a)(g:¬P x):IsC P (ns++[x]) a:=by
 obtain⟨c,l⟩:=Xz (P:=P) x ns
 rw[if_neg g,Int.add_zero]at c l
 refine⟨by rw[h.cnt,c],by rw[h.sum,l],fun d=>h.none (by rw[<-c];exact d),fun d=>?_,fun d=>?_⟩
 ·obtain⟨⟨y,i,j,f⟩,k⟩:=h.mn (by rw[<-c];exact d)
  refine⟨⟨y,by simp[i],j,f⟩,fun z b e=>?_⟩
  rcases List.mem_append.1 b with b|b
  ·exact k z b e
  ·rw[List.mem_singleton]at b;subst b;exact absurd e g
 ·obtain⟨⟨y,i,j,f⟩,k⟩:=h.mx (by rw[<-c];exact d)
  refine⟨⟨y,by simp[i],j,f⟩,fun z b e=>?_⟩
  rcases List.mem_append.1 b with b|b
  ·exact k z b e
  ·rw[List.mem_singleton]at b;subst b;exact absurd e g
def QF(a:Cl)(v:Int):Cl:=⟨a.cnt+1,wrap64 (a.sum+v),if a.cnt=0\/v<a.mn then v else a.mn,if a.cnt=0\/a.mx<v then v else a.mx⟩
theorem IsC.add{a:Cl}{x:Nm}(h:IsC P ns a)(e:P x):IsC P (ns++[x]) (QF a x.val):=by
 obtain⟨p,n⟩:=Xz (P:=P) x ns
 rw[if_pos e]at p n
 have hn:=qM (P:=P) ns
 have q:=h.cnt
 refine⟨by show a.cnt+1=_;omega,by show wrap64 (a.sum+x.val)=_;rw[h.sum,zeK,n],fun o=>by omega,fun o=>?_,fun o=>?_⟩
 ·by_cases f:vD P ns=0
  ·have d:=yr.1 f
   refine⟨⟨x,by simp,e,?_⟩,fun z b c=>?_⟩
   ·show x.val=if a.cnt=0\/x.val<a.mn then x.val else a.mn
    rw[if_pos (.inl (by omega))]
   ·show(if a.cnt=0\/x.val<a.mn then x.val else a.mn)<=z.val
    rw[if_pos (.inl (by omega))]
    rcases List.mem_append.1 b with b|b
    ·exact absurd c (d z b)
    ·rw[List.mem_singleton]at b;subst b;omega
  ·obtain⟨⟨y,k,m,i⟩,g⟩:=h.mn f
   have l:¬a.cnt=0:=by omega
   show(∃z∈ns++[x],P z/\z.val=(if a.cnt=0\/x.val<a.mn then x.val else a.mn))/\∀z∈ns++[x],P z->(if a.cnt=0\/x.val<a.mn then x.val else a.mn)<=z.val
   by_cases j:x.val<a.mn
   ·rw[if_pos (.inr j)]
    refine⟨⟨x,by simp,e,rfl⟩,fun z b c=>?_⟩
    rcases List.mem_append.1 b with b|b
    ·have:=g z b c;omega
    ·rw[List.mem_singleton]at b;subst b;omega
   ·rw[if_neg (by omega)]
    refine⟨⟨y,by simp[k],m,i⟩,fun z b c=>?_⟩
    rcases List.mem_append.1 b with b|b
    ·exact g z b c
    ·rw[List.mem_singleton]at b;subst b;omega
 ·by_cases f:vD P ns=0
  ·have d:=yr.1 f
   refine⟨⟨x,by simp,e,?_⟩,fun z b c=>?_⟩
   ·show x.val=if a.cnt=0\/a.mx<x.val then x.val else a.mx
    rw[if_pos (.inl (by omega))]
   ·show z.val<=(if a.cnt=0\/a.mx<x.val then x.val else a.mx)
    rw[if_pos (.inl (by omega))]
    rcases List.mem_append.1 b with b|b
    ·exact absurd c (d z b)
    ·rw[List.mem_singleton]at b;subst b;omega
  ·obtain⟨⟨y,k,m,i⟩,g⟩:=h.mx f
   have l:¬a.cnt=0:=by omega
   show(∃z∈ns++[x],P z/\z.val=(if a.cnt=0\/a.mx<x.val then x.val else a.mx))/\∀z∈ns++[x],P z->z.val<=(if a.cnt=0\/a.mx<x.val then x.val else a.mx)
   by_cases j:a.mx<x.val
   ·rw[if_pos (.inr j)]
    refine⟨⟨x,by simp,e,rfl⟩,fun z b c=>?_⟩
    rcases List.mem_append.1 b with b|b
    ·have:=g z b c;omega
    ·rw[List.mem_singleton]at b;subst b;omega
   ·rw[if_neg (by omega)]
    refine⟨⟨y,by simp[k],m,i⟩,fun z b c=>?_⟩
    rcases List.mem_append.1 b with b|b
    ·exact g z b c
    ·rw[List.mem_singleton]at b;subst b;omega
end
theorem IsC.join{P Q R:Nm->Prop}[DecidablePred P][DecidablePred Q][DecidablePred R]{ns:List Nm}{zs:List Cl}{z:Cl}(h:IsC P ns (xz zs))(A:zs=[]↔vD P ns=0)(k:IsC Q ns z)(J:vD Q ns≠0)(f:∀x∈ns,R x↔P x\/Q x)(hn:∀x∈ns,¬(P x/\Q x))(Z:(ns.length:Int)<9223372036854775808):
  IsC R ns (xz (zs++[z]))/\vD R ns≠0:=by
 obtain⟨M,N⟩:=zcD f hn
 have W:=qM (P:=P) ns
 have X:=qM (P:=Q) ns
 have Y:=qM (P:=R) ns
 have I:vD R ns≠0:=by omega
 have K:=h.cnt
 have L:=h.sum
 have S:(xz (zs++[z])).cnt=wrap64 ((xz zs).cnt+z.cnt):=by simp only[xz,List.map_append,List.map_cons,List.map_nil,Zx]
 have T:(xz (zs++[z])).sum=wrap64 ((xz zs).sum+z.sum):=by simp only[xz,List.map_append,List.map_cons,List.map_nil,Zx]
 have U:=k.cnt
 have V:=k.sum
 obtain⟨⟨B,o,w,t⟩,F⟩:=k.mn J
 obtain⟨⟨C,p,y,u⟩,H⟩:=k.mx J
 have D:(∃x∈ns,R x/\x.val=(xz (zs++[z])).mn)/\∀x∈ns,R x->(xz (zs++[z])).mn<=x.val:=by
  simp only[xz,yR]
  cases b:qt Q5 zs with
  |none=>
   have d:zs=[]:=by
    rcases List.eq_nil_or_concat zs with h|⟨l,x,rfl⟩
    ·exact h
    ·rw[List.concat_eq_append,yR]at b;unfold kL at b;split at b<;>(try split at b)<;>cases b
   have c:=yr.1 (A.1 d)
   simp only[kL,Option.getD_some]
   exact⟨⟨B,o,(f B o).2 (.inr w),t⟩,fun x a n=>((f x a).1 n).elim (fun s=>absurd s (c x a)) (F x a)⟩
  |some g=>
   have d:zs≠[]:=fun e=>by rw[e]at b;cases b
   have c:vD P ns≠0:=fun e=>d (A.2 e)
   obtain⟨⟨v,m,r,i⟩,q⟩:=h.mn c
   simp only[xz,b,Option.getD_some]at i q
   simp only[kL,Q5,zaD]
   by_cases j:z.mn<g.mn
   ·simp only[j,if_true,show(-1:Int)<0 by omega,Option.getD_some]
    refine⟨⟨B,o,(f B o).2 (.inr w),t⟩,fun x a n=>((f x a).1 n).elim (fun s=>?_) (F x a)⟩
    have:=q x a s;omega
   ·have:¬(if z.mn<g.mn then(-1:Int)else if g.mn<z.mn then 1 else 0)<0:=by rw[if_neg j];split<;>omega
    simp only[this,if_false,Option.getD_some]
    refine⟨⟨v,m,(f v m).2 (.inl r),i⟩,fun x a n=>((f x a).1 n).elim (q x a) (fun G=>?_)⟩
    have:=F x a G;omega
 have E:(∃x∈ns,R x/\x.val=(xz (zs++[z])).mx)/\∀x∈ns,R x->x.val<=(xz (zs++[z])).mx:=by
  simp only[xz,yR]
  cases b:qt Q6 zs with
  |none=>
   have d:zs=[]:=by
    rcases List.eq_nil_or_concat zs with h|⟨l,x,rfl⟩
    ·exact h
    ·rw[List.concat_eq_append,yR]at b;unfold kL at b;split at b<;>(try split at b)<;>cases b
   have c:=yr.1 (A.1 d)
   simp only[kL,Option.getD_some]
   exact⟨⟨C,p,(f C p).2 (.inr y),u⟩,fun x a n=>((f x a).1 n).elim (fun s=>absurd s (c x a)) (H x a)⟩
  |some g=>
   have d:zs≠[]:=fun e=>by rw[e]at b;cases b
   have c:vD P ns≠0:=fun e=>d (A.2 e)
   obtain⟨⟨v,m,r,i⟩,q⟩:=h.mx c
   simp only[xz,b,Option.getD_some]at i q
   simp only[kL,Q6,zaD]
   by_cases j:g.mx<z.mx
   ·simp only[j,if_true,show(-1:Int)<0 by omega,Option.getD_some]
    refine⟨⟨C,p,(f C p).2 (.inr y),u⟩,fun x a n=>((f x a).1 n).elim (fun s=>?_) (H x a)⟩
    have:=q x a s;omega
   ·have:¬(if g.mx<z.mx then(-1:Int)else if z.mx<g.mx then 1 else 0)<0:=by rw[if_neg j];split<;>omega
    simp only[this,if_false,Option.getD_some]
    refine⟨⟨v,m,(f v m).2 (.inl r),i⟩,fun x a n=>((f x a).1 n).elim (q x a) (fun G=>?_)⟩
    have:=H x a G;omega
 refine⟨⟨?_,?_,fun O=>absurd O I,fun _=>D,fun _=>E⟩,I⟩
 ·rw[S,K,U,<-M];unfold wrap64;omega
 ·rw[T,L,V,N];unfold wrap64;omega
theorem VA{L:LV}{wd f sr a:Int}{ns:List Nm}(p:(ns.length:Int)<9223372036854775808):∀j:Nat,
  (∀i:Nat,i<j->(∀v,yA L ⟨f,sr,a+i⟩=some v->IsC (fun x:Nm=>x.sr=sr/\x.tm/wd=a+i) ns v.cl/\vD (fun x:Nm=>x.sr=sr/\x.tm/wd=a+i) ns≠0)/\(yA L ⟨f,sr,a+i⟩=none->∀x∈ns,¬(x.sr=sr/\x.tm/wd=a+i)))->
  IsC (fun x:Nm=>x.sr=sr/\a<=x.tm/wd/\x.tm/wd<a+j) ns (xz (ql L f sr a j))/\(ql L f sr a j=[]↔vD (fun x:Nm=>x.sr=sr/\a<=x.tm/wd/\x.tm/wd<a+j) ns=0)
 |0,_=>by
  have m:∀x∈ns,¬(x.sr=sr/\a<=x.tm/wd/\x.tm/wd<a+(0:Nat)):=fun x _ ⟨_,b,c⟩=>by
   have:((0:Nat):Int)=0:=rfl
   omega
  exact⟨IsC.zero m,by simp only[ql,List.range_zero,List.filterMap_nil,true_iff];exact yr.2 m⟩
 |j+1,h=>by
  obtain⟨q,r⟩:=VA p j (fun i B=>h i (by omega))
  obtain⟨s,t⟩:=h j (by omega)
  have g:((j+1:Nat):Int)=(j:Int)+1:=by omega
  rw[Qi]
  cases o:yA L ⟨f,sr,a+j⟩with
  |none=>
   have k:=t o
   have n:∀x∈ns,(x.sr=sr/\a<=x.tm/wd/\x.tm/wd<a+j)↔(x.sr=sr/\a<=x.tm/wd/\x.tm/wd<a+(j+1:Nat)):=fun x l=>by
    have:=k x l
    constructor
    ·rintro⟨b,c,d⟩;exact⟨b,c,by omega⟩
    ·rintro⟨b,c,d⟩
     refine⟨b,c,?_⟩
     have:x.tm/wd≠a+j:=fun e=>this ⟨b,e⟩
     omega
   simp only[List.append_nil]
   exact⟨q.congr n,by rw[r,(ZB n).1]⟩
  |some v=>
   obtain⟨z,A⟩:=s v o
   obtain⟨w,y⟩:=IsC.join (R:=fun x:Nm=>x.sr=sr/\a<=x.tm/wd/\x.tm/wd<a+(j+1:Nat)) q r z A (fun x l=>by
    constructor
    ·rintro⟨b,c,d⟩
     by_cases u:x.tm/wd=a+j
     ·exact .inr ⟨b,u⟩
     ·exact .inl ⟨b,c,by omega⟩
    ·rintro(⟨b,c,d⟩|⟨b,c⟩)
     ·exact⟨b,c,by omega⟩
     ·exact⟨b,by omega,by omega⟩) (fun x l ⟨⟨_,_,b⟩,_,c⟩=>by omega) p
   exact⟨w,by simp only[List.append_eq_nil_iff,List.cons_ne_nil,and_false,false_iff];exact y⟩
end Go.Proofs.YtndhpgciopcncaaGreatDoor
