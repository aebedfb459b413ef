import Derived.Test.YtndhpgciopcncaaGreatDoorPAbb
import Derived.WalkKit
import Derived.Test.YtndhpgciopcncaaGreatDoorPConf0
import Derived.Laws.CopyRow
import Derived.Laws.IdiomCopy
import Derived.Laws.CopyOwn
import Derived.Deep.WholeRow
import Derived.Tactics
import Derived.Below
open Go.Value (int)
open Go.IntKind (i32)
namespace Go.Proofs.YtndhpgciopcncaaGreatDoor
open Go.RowKit
structure Cf where
 s:Int
 le:Int
 la:Int
 wi:Int
 ke:Int
 qu:Int
 n:Nat
 F:Nat->Int
 W:Nat->Int
 K:Nat->Int
abbrev aZz(c:Cf)(a:Option Addr)(k:Nat):Array Value:=#[I c.s,I c.le,I c.la,I c.wi,I c.ke,I c.qu,.slice a c.n k]
abbrev cZz(c:Cf)(a:Option Addr)(k:Nat):Value:=.agg (aZz c a k)
abbrev kZz(a b c d:Int):Array Value:=#[I a,I b,I c,int i32 d]
structure Nm where
 sr:Int
 tm:Int
 val:Int
structure Sg where
 t:Int
 sr:Int
 wn:Int
deriving DecidableEq
structure Cl where
 cnt:Int
 sum:Int
 mn:Int
 mx:Int
structure Tk where
 kind:Int
 s:Sg
 se:Int
 ti:Int
 rest:Int
 ep:Int
 num:Int
 slot:Int
 till:Int
structure RM where
 c:Cf
 now:Int
 nu:List Nm
 pub:List Sg
 gone:List Sg
 td:List Tk
 epoch:Int
 picks:Int
def nmV(x:Nm):List Value:=[I x.sr,I x.tm,int i32 x.val]
section
variable {α:Type}
theorem kI{f:α->List Value}{k:Nat}(c:∀a,(f a).length=k):∀(l:List α) (i:Nat) (a:α) (j:Nat),l[i]?=some a->j<k->(l.flatMap f)[i*k+j]?=(f a)[j]?
 |[],i,a,j,h,_=>by simp at h
 |b::l,0,a,j,h,d=>by
  simp at h;subst h
  rw[List.flatMap_cons,List.getElem?_append_left (by rw[c];omega)];simp
 |b::l,i+1,a,j,h,d=>by
  have:=kI c l i a j (by simpa using h) d
  rw[List.flatMap_cons,List.getElem?_append_right (by rw[c,Nat.add_mul];omega),c,<-this]
  congr 1;rw[Nat.add_mul];omega
theorem zaE(f:α->List Value)(l:List α)(a:α):(l++[a]).flatMap f=l.flatMap f++f a:=by simp
end
theorem zcH(x:Nm):(nmV x).length=3:=rfl
structure Cf.ok(c:Cf):Prop where
 n1:1<=c.n
 n4:c.n<=4
 wi1:1<=c.wi
 wi2:c.wi<=1000
 W:∀i,i<c.n->1<=c.W i/\c.W i<=1000
 F:∀i,i<c.n-> -1<=c.F i/\c.F i<c.n
 K:∀i,i<c.n->0<=c.K i/\c.K i<=1000
 ke:0<=c.ke/\c.ke<=1000
 la:0<=c.la/\c.la<=100
 qu:1<=c.qu/\c.qu<=400
 sl:1<=c.s/\c.s<=4
 le:1<=c.le/\c.le<=100
def Cf.wh(c:Cf)(t:Int):Int:=zP c.wi c.W t
theorem Cf.ok.wh{c:Cf}(h:c.ok){t:Int}(a: -1<=t)(b:t<c.n):1<=c.wh t/\c.wh t<=1000:=by
 unfold Cf.wh zP
 split
 ·exact⟨h.wi1,h.wi2⟩
 ·exact h.W _ (by omega)
def zF(c:Cf)(t:Int)(x:Nm):Sg:=⟨t,x.sr,x.tm/c.wh t⟩
def KL(l:List Sg)(s:Sg):List Sg:=if s∈l then l else l++[s]
def yS(c:Cf)(t:Int)(nu:List Nm)(l:List Sg):List Sg:=nu.foldl (fun l x=>KL l (zF c t x)) l
def Zj(c:Cf)(nu:List Nm)(k:Nat):List Sg:=(List.range k).foldl (fun l (j:Nat)=>yS c ((j:Int)-1) nu l) []
def xb(c:Cf)(nu:List Nm):List Sg:=Zj c nu (c.n+1)
theorem Xq(c:Cf)(nu:List Nm)(k:Nat):Zj c nu (k+1)=yS c ((k:Int)-1) nu (Zj c nu k):=by
 simp[Zj,List.range_succ]
theorem zgV(l:List Sg)(s:Sg):(KL l s).length<=l.length+1:=by unfold KL;split<;>simp
theorem QU(c:Cf)(t:Int):∀(nu:List Nm) (l:List Sg),(yS c t nu l).length<=l.length+nu.length
 |[],l=>by simp[yS]
 |x::r,l=>by
  have:=QU c t r (KL l (zF c t x));have a:=zgV l (zF c t x)
  simp only[yS,List.foldl_cons,List.length_cons]at*;omega
theorem zgl(c:Cf)(nu:List Nm):∀k,(Zj c nu k).length<=k*nu.length
 |0=>by simp[Zj]
 |k+1=>by
  have:=zgl c nu k;have a:=QU c ((k:Int)-1) nu (Zj c nu k)
  rw[Xq,Nat.add_mul];omega
theorem ziu{l:List Sg}{s x:Sg}:x∈KL l s↔x∈l\/x=s:=by
 unfold KL;split
 ·rename_i h;constructor
  ·exact .inl
  ·rintro(a|rfl)<;>assumption
 ·simp
theorem QM(c:Cf)(t:Int)(s:Sg):∀(nu:List Nm) (l:List Sg),s∈yS c t nu l↔s∈l\/∃x∈nu,s=zF c t x
 |[],l=>by simp[yS]
 |x::r,l=>by
  have:=QM c t s r (KL l (zF c t x))
  simp only[yS,List.foldl_cons]at this ⊢
  rw[this,ziu];simp only[List.mem_cons,exists_eq_or_imp]
  constructor
  ·rintro((h|h)|h)
   ·exact .inl h
   ·exact .inr (.inl h)
   ·exact .inr (.inr h)
  ·rintro(h|h|h)
   ·exact .inl (.inl h)
   ·exact .inl (.inr h)
   ·exact .inr h
theorem VF(c:Cf)(nu:List Nm)(s:Sg):∀k,s∈Zj c nu k↔∃j,j<k/\∃x∈nu,s=zF c ((j:Int)-1) x
 |0=>by simp[Zj]
 |k+1=>by
  rw[Xq,QM,VF c nu s k]
  constructor
  ·rintro(⟨j,a,h⟩|h)
   ·exact⟨j,by omega,h⟩
   ·exact⟨k,by omega,h⟩
  ·rintro⟨j,a,h⟩
   by_cases e:j=k
   ·subst e;exact .inr h
   ·exact .inl ⟨j,by omega,h⟩
theorem jj{c:Cf}{nu:List Nm}{s:Sg}:s∈xb c nu↔ -1<=s.t/\s.t<c.n/\∃x∈nu,s=zF c s.t x:=by
 unfold xb;rw[VF]
 constructor
 ·rintro⟨j,e,x,a,rfl⟩
  refine⟨?_,?_,x,a,rfl⟩<;>simp only[zF]<;>omega
 ·rintro⟨b,d,x,a,h⟩
  refine⟨(s.t+1).toNat,by omega,x,a,?_⟩
  have:(((s.t+1).toNat:Nat):Int)-1=s.t:=by omega
  rw[this];exact h
theorem zbZ{l:List Sg}{s:Sg}(h:l.Nodup):(KL l s).Nodup:=by
 unfold KL;split
 ·exact h
 ·rename_i hn;rw[List.nodup_append]
  exact⟨h,by simp,fun a d b c=>by simp at c;subst c;intro e;subst e;exact hn d⟩
theorem X6(c:Cf)(t:Int):∀(nu:List Nm) (l:List Sg),l.Nodup->(yS c t nu l).Nodup
 |[],l,h=>by simpa[yS]using h
 |x::r,l,h=>by
  have:=X6 c t r (KL l (zF c t x)) (zbZ h)
  simpa only[yS,List.foldl_cons]using this
theorem QV(c:Cf)(nu:List Nm):∀k,(Zj c nu k).Nodup
 |0=>by simp[Zj]
 |k+1=>by rw[Xq];exact X6 c _ nu _ (QV c nu k)
theorem QT(c:Cf)(nu:List Nm):(xb c nu).Nodup:=QV c nu _
def zeG(a:Cl)(v:Int):Cl:=⟨a.cnt+1,a.sum+v,if a.cnt=0\/v<a.mn then v else a.mn,if a.cnt=0\/a.mx<v then v else a.mx⟩
def ym(c:Cf)(s:Sg)(a:Cl)(x:Nm):Cl:=if zF c s.t x=s then zeG a x.val else a
def qi(c:Cf)(s:Sg)(nu:List Nm):Cl:=nu.foldl (ym c s) ⟨0,0,0,0⟩
theorem zcg(c:Cf)(s:Sg)(nu:List Nm)(i:Nat)(x:Nm)(h:nu[i]?=some x):qi c s (nu.take (i+1))=ym c s (qi c s (nu.take i)) x:=by
 obtain⟨a,b⟩:=List.getElem?_eq_some_iff.1 h
 rw[List.take_succ_eq_append_getElem a,b];simp[qi]
def zmt(c:Cf)(nu:List Nm)(a:List Sg)(s:Sg):Int:=if s∈a then 0 else if s.t= -1 then(qi c s nu).cnt else 2
def zmM(c:Cf)(nu:List Nm)(a l:List Sg):Int:=l.foldl (fun n s=>n+zmt c nu a s) 0
def RM.used(m:RM):Int:=zmM m.c m.nu m.gone (xb m.c m.nu)
def Nm.ok(x:Nm):Prop:= -2147483648<=x.val/\x.val<=2147483647/\0<=x.tm/\x.tm<=100000/\0<=x.sr/\x.sr<4
theorem XG(c:Cf)(s:Sg):∀(nu:List Nm) (a:Cl) (k:Nat),(∀x∈nu,x.ok)->(0<=a.cnt/\a.cnt<=k/\ -(2147483648*(k:Int))<=a.sum/\a.sum<=2147483648*(k:Int))->
  0<=(nu.foldl (ym c s) a).cnt/\(nu.foldl (ym c s) a).cnt<=k+nu.length/\ -(2147483648*((k:Int)+nu.length))<=(nu.foldl (ym c s) a).sum/\(nu.foldl (ym c s) a).sum<=2147483648*((k:Int)+nu.length)
 |[],a,k,_,h=>by simp;omega
 |x::r,a,k,b,h=>by
  have d:=b x (by simp)
  unfold Nm.ok at d
  have:=XG c s r (ym c s a x) (k+1) (fun y e=>b y (by simp[e])) (by
   unfold ym;split
   ·simp only[zeG];omega
   ·omega)
  rw[List.foldl_cons,List.length_cons]
  omega
theorem zav{c:Cf}{s:Sg}{nu:List Nm}(h:∀x∈nu,x.ok):0<=(qi c s nu).cnt/\(qi c s nu).cnt<=nu.length/\ -(2147483648*(nu.length:Int))<=(qi c s nu).sum/\(qi c s nu).sum<=2147483648*(nu.length:Int):=by
 have:=XG c s nu ⟨0,0,0,0⟩ 0 h (by simp)
 simpa[qi]using this
theorem JR{P:Program}(w:World)(r E F d:TypeId)(n:Nat)(g a f:Nat)(q:Option Addr)(b l:Nat)(c:Array Value)(t:TypeId)(cs:List Value)
  (z:P.underlying r=some (.slice d)) (y:(P.info? d).map (·.size)=some n) (s:w.1[g]?=some (.cells c t (0,0))) (hn:cs.length=Nat.min b a*n)
  (k:0<cs.length->∃ad,q=some ad/\∀j v,cs[j]?=some v->w.cell? (ad.add j)=some v) (h:cs.length<=c.size) (B:∀v∈cs,v.oneCell'=true):
  (Builtin.copy_ #[r,E] F #[.slice (some (U g 0)) a f,.slice q b l]).run P w=.ok (goInt (Nat.min b a)) (w.setRow g (cs++c.toList.drop cs.length).toArray):=by
 have p:=run_storeCells_at P g 0 t cs 0 c w s (by simpa using h) B
 cases m:P.info? d with
 |none=>simp[m]at y
 |some i=>
  have u:i.size=n:=by simpa[m]using y
  by_cases A:cs.length=0
  ·obtain rfl:cs=[]:=List.eq_nil_of_length_eq_zero A
   have D:Nat.min b a*n=0:=by simpa using hn.symm
   have o:∀(x:Addr),(loadCells x 0).run P w=.ok #[] w:=fun x=>by simpa using run_loadCells_list (P:=P) w x [] (by simp)
   have e:=setRow_self w g c t (0,0) s
   cases q<;>simp[Builtin.copy_,run_underlying z,Builtin.lenOf,Builtin.firstCells,sizeOf,typeInfo,m,u,D,storeCells,o,e]
  ·obtain⟨ad,rfl,C⟩:=k (by omega)
   have o:=run_loadCells_list (P:=P) w ad cs C
   simp[Builtin.copy_,run_underlying z,Builtin.lenOf,Builtin.firstCells,sizeOf,typeInfo,m,u,<-hn,o,p]
def Z3(F W K:Nat->Int)(j:Nat):Value:=if j%3=0 then I (F (j/3))else if j%3=1 then I (W (j/3))else I (K (j/3))
theorem znk(F W K:Nat->Int)(i:Nat):Z3 F W K (i*3)=I (F i):=by
 unfold Z3;rw[if_pos (by omega),show i*3/3=i by omega]
theorem zhq(F W K:Nat->Int)(i:Nat):Z3 F W K (i*3+1)=I (W i):=by
 unfold Z3;rw[if_neg (by omega),if_pos (by omega),show(i*3+1)/3=i by omega]
theorem znl(F W K:Nat->Int)(i:Nat):Z3 F W K (i*3+2)=I (K i):=by
 unfold Z3;rw[if_neg (by omega),if_neg (by omega),show(i*3+2)/3=i by omega]
def ZN(n:Nat)(F W K:Nat->Int):List Value:=(List.range (n*3)).map (Z3 F W K)
theorem qv(n:Nat)(F W K:Nat->Int):(ZN n F W K).length=n*3:=by simp[ZN]
theorem JQ(n:Nat)(F W K:Nat->Int)(j:Nat)(h:j<n*3):(ZN n F W K)[j]?=some (Z3 F W K j):=by simp[ZN,h]
theorem zek(n:Nat)(F W K:Nat->Int):∀v∈ZN n F W K,v.oneCell'=true:=by
 intro v hv
 simp only[ZN,List.mem_map]at hv
 obtain⟨j,_,rfl⟩:=hv
 unfold Z3
 split
 ·rfl
 ·split<;>rfl
end Go.Proofs.YtndhpgciopcncaaGreatDoor
