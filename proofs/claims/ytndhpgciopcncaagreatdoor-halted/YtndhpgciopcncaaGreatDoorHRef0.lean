import Derived.Test.YtndhpgciopcncaaGreatDoorHAbb
import Derived.WalkKit
import Derived.Test.YtndhpgciopcncaaGreatDoorHConf0
import Derived.Laws.CopyRow
import Derived.Laws.IdiomCopy
import Derived.Laws.CopyOwn
import Derived.Deep.WholeRow
import Derived.Tactics
import Derived.Below
open Go.Value (int)
open Go.IntKind (i32)
namespace Go.Proofs.YtndhpgciopcncaaGreatDoor
open Go.RowKit
structure Cf where
 s:Int
 le:Int
 la:Int
 wi:Int
 ke:Int
 qu:Int
 n:Nat
 F:Nat->Int
 W:Nat->Int
 K:Nat->Int
abbrev aZz(c:Cf)(a:Option Addr)(k:Nat):Array Value:=#[I c.s,I c.le,I c.la,I c.wi,I c.ke,I c.qu,.slice a c.n k]
abbrev cZz(c:Cf)(a:Option Addr)(k:Nat):Value:=.agg (aZz c a k)
abbrev kZz(a b c d:Int):Array Value:=#[I a,I b,I c,int i32 d]
structure Nm where
 sr:Int
 tm:Int
 val:Int
structure Sg where
 t:Int
 sr:Int
 wn:Int
deriving DecidableEq
structure Cl where
 cnt:Int
 sum:Int
 mn:Int
 mx:Int
structure Tk where
 kind:Int
 s:Sg
 se:Int
 ti:Int
 rest:Int
 ep:Int
 num:Int
 slot:Int
 till:Int
structure RM where
 c:Cf
 now:Int
 nu:List Nm
 pub:List Sg
 gone:List Sg
 td:List Tk
 epoch:Int
 picks:Int
def nmV(x:Nm):List Value:=[I x.sr,I x.tm,int i32 x.val]
section
variable {α:Type}
theorem kZ{f:α->List Value}{k:Nat}(c:∀a,(f a).length=k):∀(l:List α) (i:Nat) (a:α) (j:Nat),l[i]?=some a->j<k->(l.flatMap f)[i*k+j]?=(f a)[j]?
 |[],i,a,j,h,_=>by simp at h
 |b::l,0,a,j,h,d=>by
  simp at h;subst h;rw[List.flatMap_cons,List.getElem?_append_left (by rw[c];omega)];simp
 |b::l,i+1,a,j,h,d=>by
  have:=kZ c l i a j (by simpa using h) d;rw[List.flatMap_cons,List.getElem?_append_right (by rw[c,Nat.add_mul];omega),c,<-this];congr 1;rw[Nat.add_mul];omega
theorem zbj(f:α->List Value)(l:List α)(a:α):(l++[a]).flatMap f=l.flatMap f++f a:=by simp
end
theorem zdo(x:Nm):(nmV x).length=3:=rfl
structure Cf.ok(c:Cf):Prop where
 n1:1<=c.n
 n4:c.n<=4
 wi1:1<=c.wi
 wi2:c.wi<=1000
 W:∀i,i<c.n->1<=c.W i/\c.W i<=1000
 F:∀i,i<c.n-> -1<=c.F i/\c.F i<c.n
 K:∀i,i<c.n->0<=c.K i/\c.K i<=1000
 ke:0<=c.ke/\c.ke<=1000
 la:0<=c.la/\c.la<=100
 qu:1<=c.qu/\c.qu<=400
 sl:1<=c.s/\c.s<=4
 le:1<=c.le/\c.le<=100
def Cf.wh(c:Cf)(t:Int):Int:=zQ c.wi c.W t
variable {c:Cf}
theorem Cf.ok.wh(h:c.ok){t:Int}(a: -1<=t)(b:t<c.n):1<=c.wh t/\c.wh t<=1000:=by
 unfold Cf.wh zQ;split
 ·exact⟨h.wi1,h.wi2⟩
 ·exact h.W _ (by omega)
def zG(c:Cf)(t:Int)(x:Nm):Sg:=⟨t,x.sr,x.tm/c.wh t⟩
def Vi(l:List Sg)(s:Sg):List Sg:=if s∈l then l else l++[s]
def k7(c:Cf)(t:Int)(nu:List Nm)(l:List Sg):List Sg:=nu.foldl (fun l x=>Vi l (zG c t x)) l
def ZD(c:Cf)(nu:List Nm)(k:Nat):List Sg:=(List.range k).foldl (fun l (j:Nat)=>k7 c ((j:Int)-1) nu l) []
def xd(c:Cf)(nu:List Nm):List Sg:=ZD c nu (c.n+1)
theorem XE(c:Cf)(nu:List Nm)(k:Nat):ZD c nu (k+1)=k7 c ((k:Int)-1) nu (ZD c nu k):=by
 simp[ZD,List.range_succ]
theorem zhj(l:List Sg)(s:Sg):(Vi l s).length<=l.length+1:=by unfold Vi;split<;>simp
theorem Y7(c:Cf)(t:Int):∀(nu:List Nm) (l:List Sg),(k7 c t nu l).length<=l.length+nu.length
 |[],l=>by simp[k7]
 |x::r,l=>by
  have:=Y7 c t r (Vi l (zG c t x));have a:=zhj l (zG c t x);simp only[k7,List.foldl_cons,List.length_cons]at*;omega
theorem zgC(c:Cf)(nu:List Nm):∀k,(ZD c nu k).length<=k*nu.length
 |0=>by simp[ZD]
 |k+1=>by
  have:=zgC c nu k;have a:=Y7 c ((k:Int)-1) nu (ZD c nu k);rw[XE,Nat.add_mul];omega
variable {l:List Sg} {s:Sg}
theorem ziD{x:Sg}:x∈Vi l s↔x∈l\/x=s:=by
 unfold Vi;split
 ·rename_i h;constructor
  ·exact .inl
  ·rintro(a|rfl)<;>assumption
 ·simp
theorem QV(c:Cf)(t:Int)(s:Sg):∀(nu:List Nm) (l:List Sg),s∈k7 c t nu l↔s∈l\/∃x∈nu,s=zG c t x
 |[],l=>by simp[k7]
 |x::r,l=>by
  have:=QV c t s r (Vi l (zG c t x));simp only[k7,List.foldl_cons]at this ⊢;rw[this,ziD];simp only[List.mem_cons,exists_eq_or_imp];constructor
  ·rintro((h|h)|h)
   ·exact .inl h
   ·exact .inr (.inl h)
   ·exact .inr (.inr h)
  ·rintro(h|h|h)
   ·exact .inl (.inl h)
   ·exact .inl (.inr h)
   ·exact .inr h
theorem J0(c:Cf)(nu:List Nm)(s:Sg):∀k,s∈ZD c nu k↔∃j,j<k/\∃x∈nu,s=zG c ((j:Int)-1) x
 |0=>by simp[ZD]
 |k+1=>by
  rw[XE,QV,J0 c nu s k];constructor
  ·rintro(⟨j,a,h⟩|h)
   ·exact⟨j,by omega,h⟩
   ·exact⟨k,by omega,h⟩
  ·rintro⟨j,a,h⟩;by_cases e:j=k
   ·subst e;exact .inr h
   ·exact .inl ⟨j,by omega,h⟩
variable {nu:List Nm}
theorem jE:s∈xd c nu↔ -1<=s.t/\s.t<c.n/\∃x∈nu,s=zG c s.t x:=by
 unfold xd;rw[J0];constructor
 ·rintro⟨j,e,x,a,rfl⟩;refine⟨?_,?_,x,a,rfl⟩<;>simp only[zG]<;>omega
 ·rintro⟨b,d,x,a,h⟩;refine⟨(s.t+1).toNat,by omega,x,a,?_⟩;have:(((s.t+1).toNat:Nat):Int)-1=s.t:=by omega
  rw[this];exact h
theorem zcE(h:l.Nodup):(Vi l s).Nodup:=by
 unfold Vi;split
 ·exact h
 ·rename_i hn;rw[List.nodup_append];exact⟨h,by simp,fun a d b c=>by simp at c;subst c;intro e;subst e;exact hn d⟩
theorem Xk(c:Cf)(t:Int):∀(nu:List Nm) (l:List Sg),l.Nodup->(k7 c t nu l).Nodup
 |[],l,h=>by simpa[k7]using h
 |x::r,l,h=>by
  have:=Xk c t r (Vi l (zG c t x)) (zcE h);simpa only[k7,List.foldl_cons]using this
theorem Y8(c:Cf)(nu:List Nm):∀k,(ZD c nu k).Nodup
 |0=>by simp[ZD]
 |k+1=>by rw[XE];exact Xk c _ nu _ (Y8 c nu k)
theorem Y6(c:Cf)(nu:List Nm):(xd c nu).Nodup:=Y8 c nu _
def zfj(a:Cl)(v:Int):Cl:=⟨a.cnt+1,a.sum+v,if a.cnt=0\/v<a.mn then v else a.mn,if a.cnt=0\/a.mx<v then v else a.mx⟩
def yA(c:Cf)(s:Sg)(a:Cl)(x:Nm):Cl:=if zG c s.t x=s then zfj a x.val else a
def qB(c:Cf)(s:Sg)(nu:List Nm):Cl:=nu.foldl (yA c s) ⟨0,0,0,0⟩
theorem zcM(c:Cf)(s:Sg)(nu:List Nm)(i:Nat)(x:Nm)(h:nu[i]?=some x):qB c s (nu.take (i+1))=yA c s (qB c s (nu.take i)) x:=by
 obtain⟨a,b⟩:=List.getElem?_eq_some_iff.1 h;rw[List.take_succ_eq_append_getElem a,b];simp[qB]
def zmB(c:Cf)(nu:List Nm)(a:List Sg)(s:Sg):Int:=if s∈a then 0 else if s.t= -1 then(qB c s nu).cnt else 2
def zne(c:Cf)(nu:List Nm)(a l:List Sg):Int:=l.foldl (fun n s=>n+zmB c nu a s) 0
def RM.used(m:RM):Int:=zne m.c m.nu m.gone (xd m.c m.nu)
def Nm.ok(x:Nm):Prop:= -2147483648<=x.val/\x.val<=2147483647/\0<=x.tm/\x.tm<=100000/\0<=x.sr/\x.sr<4
theorem XS(c:Cf)(s:Sg):∀(nu:List Nm) (a:Cl) (k:Nat),(∀x∈nu,x.ok)->(0<=a.cnt/\a.cnt<=k/\ -(2147483648*(k:Int))<=a.sum/\a.sum<=2147483648*(k:Int))->
  0<=(nu.foldl (yA c s) a).cnt/\(nu.foldl (yA c s) a).cnt<=k+nu.length/\ -(2147483648*((k:Int)+nu.length))<=(nu.foldl (yA c s) a).sum/\(nu.foldl (yA c s) a).sum<=2147483648*((k:Int)+nu.length)
 |[],a,k,_,h=>by simp;omega
 |x::r,a,k,b,h=>by
  have d:=b x (by simp);unfold Nm.ok at d;have:=XS c s r (yA c s a x) (k+1) (fun y e=>b y (by simp[e])) (by
   unfold yA;split
   ·simp only[zfj];omega
   ·omega)
  rw[List.foldl_cons,List.length_cons];omega
theorem zaU(h:∀x∈nu,x.ok):0<=(qB c s nu).cnt/\(qB c s nu).cnt<=nu.length/\ -(2147483648*(nu.length:Int))<=(qB c s nu).sum/\(qB c s nu).sum<=2147483648*(nu.length:Int):=by
 have:=XS c s nu ⟨0,0,0,0⟩ 0 h (by simp);simpa[qB]using this
theorem zar{P:Program}(w:World)(q D E d:TypeId)(sz:Nat)(g a f:Nat)(p:Option Addr)(b l:Nat)(c:Array Value)(t:TypeId)(cs:List Value)(y:P.underlying q=some (.slice d))(u:(P.info? d).map (·.size)=some sz)(r:w.1[g]?=some (.cells c t (0,0)))(hn:cs.length=Nat.min b a*sz)(k:0<cs.length->∃ad,p=some ad/\∀j v,cs[j]?=some v->w.cell? (ad.add j)=some v)(h:cs.length<=c.size)(A:∀v∈cs,v.oneCell'=true):
  (Builtin.copy_ #[q,D] E #[.slice (some (U g 0)) a f,.slice p b l]).run P w=.ok (goInt (Nat.min b a)) (w.setRow g (cs++c.toList.drop cs.length).toArray):=by
 have o:=run_storeCells_at P g 0 t cs 0 c w r (by simpa using h) A;cases m:P.info? d with
 |none=>simp[m]at u
 |some i=>
  have s:i.size=sz:=by simpa[m]using u
  by_cases z:cs.length=0
  ·obtain rfl:cs=[]:=List.eq_nil_of_length_eq_zero z;have C:Nat.min b a*sz=0:=(by simpa using hn.symm);have n:∀(x:Addr),(loadCells x 0).run P w=.ok #[] w:=fun x=> (by simpa using run_loadCells_list (P:=P) w x [] (by simp));have e:=setRow_self w g c t (0,0) r;cases p<;>simp[Builtin.copy_,run_underlying y,Builtin.lenOf,Builtin.firstCells,sizeOf,typeInfo,m,s,C,storeCells,n,e]
  ·obtain⟨ad,rfl,B⟩:=k (by omega);have n:=run_loadCells_list (P:=P) w ad cs B;simp[Builtin.copy_,run_underlying y,Builtin.lenOf,Builtin.firstCells,sizeOf,typeInfo,m,s,<-hn,n,o]
def Zl(F W K:Nat->Int)(j:Nat):Value:=if j%3=0 then I (F (j/3))else if j%3=1 then I (W (j/3))else I (K (j/3))
theorem znG(F W K:Nat->Int)(i:Nat):Zl F W K (i*3)=I (F i):=by
 unfold Zl;rw[if_pos (by omega),show i*3/3=i by omega]
theorem zhD(F W K:Nat->Int)(i:Nat):Zl F W K (i*3+1)=I (W i):=by
 unfold Zl;rw[if_neg (by omega),if_pos (by omega),show(i*3+1)/3=i by omega]
theorem znH(F W K:Nat->Int)(i:Nat):Zl F W K (i*3+2)=I (K i):=by
 unfold Zl;rw[if_neg (by omega),if_neg (by omega),show(i*3+2)/3=i by omega]
def ZC(n:Nat)(F W K:Nat->Int):List Value:=(List.range (n*3)).map (Zl F W K)
theorem qI(n:Nat)(F W K:Nat->Int):(ZC n F W K).length=n*3:=by simp[ZC]
theorem zaq(n:Nat)(F W K:Nat->Int)(j:Nat)(h:j<n*3):(ZC n F W K)[j]?=some (Zl F W K j):=by simp[ZC,h]
theorem zeL(n:Nat)(F W K:Nat->Int):∀v∈ZC n F W K,v.oneCell'=true:=by
 intro v hv;simp only[ZC,List.mem_map]at hv;obtain⟨j,_,rfl⟩:=hv;unfold Zl;split
 ·rfl
 ·split<;>rfl
end Go.Proofs.YtndhpgciopcncaaGreatDoor
