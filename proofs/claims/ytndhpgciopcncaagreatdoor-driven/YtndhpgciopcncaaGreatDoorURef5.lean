import Derived.Test.YtndhpgciopcncaaGreatDoorURef3
import Derived.Shelf.Abstract
import Derived.Laws.ResultCell
import Derived.Maps.Keyed
import Derived.Maps.RangeRun
import Derived.DeepKeys4
import Derived.RangeFuncOwn
import Derived.RangeFuncNested
import Derived.RangeFuncBound
import Derived.RangeFuncCalls
import Derived.RangeFuncLeaves
import Derived.Shelf.RegionOpen
import Derived.WalkKit
import Derived.OwnWalkIn
import Derived.TacticsInMore
import Derived.LoopNIn
import Derived.LoopIn
open Option renaming some → I
open Go renaming World → J
open Go renaming Value → O
open Option renaming none → U
open Go.Value (int)
open Go.IntKind (i64)
open Go.IntKind (i32)
set_option linter.unusedVariables false
set_option maxRecDepth 8000
set_option maxHeartbeats 1000000
open Go.Proofs.Tryz
namespace Go.Proofs.YtndhpgciopcncaaGreatDoor
open Go.RowKit
theorem zeR{α:Type}{f:α->List O}{w:J}{base:Nat}{e:TypeId}{k:Nat}{v:O}{l:List α}{a:α}(h:w.ownsRow base e k v (l.length+1) (l.flatMap f++f a)):w.ownsRow base e k v (l++[a]).length ((l++[a]).flatMap f):=by
 rw[Kr,List.length_append];exact h
theorem zcY(c n:Int)(hn:0<n):∃r:Int,c%n=r/\0<=r/\r<n:=⟨_,rfl,Int.emod_nonneg c (by omega),Int.emod_lt_of_pos c hn⟩
theorem xS(c n:Int)(i: -9223372036854775808<=c/\c<=9223372036854775807)(hn:0<n):
  ∃r:Int,0<=r/\r<n/\∀w:J,Calls prog 31 #[int i64 c,int i64 n] w fun e w'=>e=.returned (int i64 r)/\w'=w:=by
 have k:¬n=0:=by omega
 obtain⟨j,hc2⟩:=i
 by_cases h:c<0
 ·obtain⟨r,d,a,b⟩:=zcY (-(c+1)) n hn
  refine⟨r,a,b,fun w=>?_⟩
  have f:=zd d
  clear d a b
  go_enter func31,ntmps31
  go_wp2
  go_ret
  have g: -(c+1).tmod n=(-(c+1))%n:=by rw[<-Int.neg_tmod,Int.tmod_eq_emod_of_nonneg (by omega)]
  exact⟨by show Ending.returned (int i64 (-(c+1).tmod n))=_;rw[g,ud f],rfl⟩
 ·obtain⟨r,d,a,b⟩:=zcY c n hn
  refine⟨r,a,b,fun w=>?_⟩
  have f:=zd d
  clear d a b
  go_enter func31,ntmps31
  go_wp2
  go_ret
  exact⟨by show Ending.returned (int i64 (c%n))=_;rw[ud f],rfl⟩
theorem ji{w:J}{ops:Array Oper}{o:Oper}{a:Act}{K:Act->J->Prop}{Q:Exit->Act->J->Prop}{E:Prop}(b:o.guard=U)(x y:Operand)(ts:Array TypeId)
  (j:o.op=.call {callee:=.value (.func 31),args:=#[x,y],argTypes:=ts}) (c d:O) (l:a.eval x=c) (m:a.eval y=d) (v:O) (f:Calls prog 31 #[c,d] w fun e w'=>e=.returned v/\w'=w)
  (h:K (a.put o.dst v) w):if Region.wanted o (yielded ops a.tmps)=true then Oper.wp prog o a w K Q else E:=by
 have k:Region.wanted o (yielded ops a.tmps)=true:=by simp[Region.wanted,b]
 rw[if_pos k]
 have g:(execOp a.eval o).run prog w=.ok (.enter 31 #[c,d]) w:=by
  have i:a.eval (.func 31)=.func (.func 31) #[] #[]:=rfl
  simp[execOp,j,resolve,invoke,l,m,i,Deferred.ofValue]
 unfold Oper.wp
 rw[g,Oper.upon_enter]
 refine f.mono ?_
 rintro e w' ⟨rfl,rfl⟩
 exact h
theorem kZ{w:J}{ops:Array Oper}{o:Oper}{a:Act}{K:Act->J->Prop}{Q:Exit->Act->J->Prop}{E:Prop}(m:o.guard=U)(s x:Operand)(t e:TypeId)(size c:Nat){z:O}
  (G:o.op=.call {callee:=.builtin .append,args:=#[s,x],argTypes:=#[t,t]}) (M:prog.underlying t=I (.slice e)) (d:(prog.info? e).map (fun i=>(i.zero,i.size,i.bytes))=I (I z,size,c)) (r:z.cells.size=size) (q:0<size)
  (base:Nat) (v:O) (n:Nat) (xs:List O) (L:a.eval s=v) (j:w.ownsRow base e size v n xs) (k:Nat) (b:List O) (T:TypeId) (y:Nat×Nat) (R:a.eval x=.slice (I ⟨k,0,U⟩) 1 1) (l:w.1[k]?=I (.cells b.toArray T y)) (V:b.length=size) (A:∀u∈b,u.oneCell'=true)
  (h63:n+1<=maxLen) (hbytes:(n+1)*c<=140737488355328) (hbase:base<=w.1.size)
  (h:∀g cap w',w'.ownsRow base e size (.slice (I ⟨g,0,U⟩) (n+1) cap) (n+1) (xs++b)->w.grownBy w' v.ownBlock->(v.ownBlock=I g\/g=w.1.size)->g<w'.1.size->K (a.put o.dst (.slice (I ⟨g,0,U⟩) (n+1) cap)) w'):
  if Region.wanted o (yielded ops a.tmps)=true then Oper.wp prog o a w K Q else E:=by
 have N:Region.wanted o (yielded ops a.tmps)=true:=by simp[Region.wanted,m]
 rw[if_pos N]
 cases p:prog.info? e with
 |none=>simp[p]at d
 |some i=>
  simp only[p,Option.map_some,Option.some.injEq,Prod.mk.injEq]at d
  obtain⟨S,f,hby⟩:=d
  have hn:=World.news_of_block (cs:=b.toArray) l
  obtain⟨g,cap,w',H,B,_,C,D,F⟩:=vS (P:=prog) w t o.type base e i _ size c M p S f hby r q v n xs j ⟨k,0,U⟩ 1 1 b (by omega) hn A (by decide) h63 hbytes hbase
  unfold Oper.wp
  simp[execOp,G,resolve,invoke,builtin,L,R,H,Result.andThen]
  exact h g cap w' B C D F
theorem zi{f:Nat->Prop}{a w:J}{g i:Nat}{v:O}(h:zo f a w)(b:f g):zo f a (w.setCell ⟨g,i,U⟩ v):=h.setCell (p:=⟨g,i,U⟩) (fun _=>b) v
theorem Zs{f:Nat->Prop}{a w w':J}(h:zo f a w)(b:Below w.1.size w w'):zo f a w':=h.trans (zo.of_below (f:=f) b) (fun _ _ h=>h)
theorem zR{P:Program}{fn:Func}{p u:Tmp}{a:TypeId}(h:fn.results=#[.cell p a,.tmp u])(tmps:Array O)(w:J)(g:Nat)(t:TypeId)(cs:Array O)(b:Nat×Nat)(d:TypeDesc)(x:O)
  (i:tmps.getD p undef=.pointer (I ⟨g,0,U⟩)) (k:tmps.getD u undef=x) (e:w.1[g]?=I (.cells cs t b))
  (j:P.underlying a=I d) (c:(match d with| .struct _| .array _ _=>true|_=>false)=true) (f:(P.info? a).map (·.size)=I cs.size):
  (results fn tmps).run P w=.ok (.tuple #[.agg cs,x]) w:=by
 rw[results_cell_tmp h,i,k]
 simp[asAddr,run_loadVar_row w g t a cs b d e j c f,Result.andThen]
def clV(A:Cl):O:=.agg #[int i64 A.cnt,int i64 A.sum,int i32 A.mn,int i32 A.mx]
theorem kj{w:J}{b b':Nat}{e:TypeId}{size:Nat}{v:O}{n:Nat}{xs:List O}(h:w.ownsRow b e size v n xs)(d:b'<=b):w.ownsRow b' e size v n xs:=by
 refine⟨h.1,?_⟩
 rcases h.2 with c|⟨g,cap,a,rfl,f,r⟩
 ·exact .inl c
 ·exact .inr ⟨g,cap,a,rfl,Nat.le_trans d f,r⟩
theorem zu{w:J}{p:Nat}{cs:Array O}{T e:TypeId}{d:Nat×Nat}{B size n:Nat}{v:O}{xs:List O}(h:w.1[p]?=I (.cells cs T d))(i:w.ownsRow B e size v n xs)(f:T≠e):∀k,v.ownBlock=I k->¬k=p:=fun k g b=>by
 subst b
 obtain⟨c,a⟩:=zG i g
 rw[h]at a
 injection a with a;injection a with _ a;exact f a
theorem je{w:J}{base size n:Nat}{e:TypeId}{v:O}{xs:List O}(h:w.ownsRow base e size v n xs):w.drew.ownsRow base e size v n xs:=h
theorem vn{w w':J}{a:Option Nat}(h:w.drew.grownBy w' a):w.grownBy w' a:=⟨h.os,h.tape,h.output,h.size,h.block⟩
theorem jd(w:J)(o:Obj):(w.alloc o).drew.1[w.1.size]?=I o:=zm w o
theorem xr{w:J}{h i q r o p:Nat}{d e:TypeId}{f g:O}{s t:List O}(j:w.ownsRow h d q f o s)(l:w.ownsRow i e r g p t)(m:d≠e):∀k,f.ownBlock=I k->¬g.ownBlock=I k:=fun k n c=>by
 obtain⟨u,b⟩:=zG j n
 obtain⟨v,hc2⟩:=zG l c
 rw[b]at hc2
 injection hc2 with a;injection a with _ a;exact m a
structure SV where
 st:Int
 cl:Cl
abbrev LV:=List (Sg×SV)
def xY:Cl:=⟨0,0,0,0⟩
def zr(L:LV):List Sg:=L.map (·.1)
def yy(L:LV)(s:Sg):Option SV:=(L.find? (fun p=>decide (p.1=s))).map (·.2)
def qT(L:LV)(s:Sg)(v:SV):LV:=if s∈zr L then L.map (fun p=>if p.1=s then(s,v)else p)else L++[(s,v)]
def stL(L:LV)(s:Sg):SV:=(yy L s).getD ⟨0,xY⟩
def qO(v:SV):Int:=if v.st=1 then v.cl.cnt else 2
def qr:List Int->Int
 |[]=>0
 |a::l=>a+qr l
def zp(L:LV):Int:=qr (L.map (fun p=>qO p.2))
def Qz(k:Int)(v:SV):Int:=if v.st=k then 1 else 0
def zg(L:LV)(k:Int):Int:=qr (L.map (fun p=>Qz k p.2))
theorem Jp(a b:List Int):qr (a++b)=qr a+qr b:=by
 induction a with
 |nil=>simp[qr]
 |cons x l c=>simp only[List.cons_append,qr,c];omega
theorem Vs{a b:List Int}(h:a.Perm b):qr a=qr b:=by
 induction h with
 |nil=>rfl
 |cons x _ e=>simp only[qr,e]
 |swap x y l=>simp only[qr];omega
 |trans _ _ c d=>exact c.trans d
theorem yp{L:LV}{s:Sg}:yy L s=U↔s∉zr L:=by
 unfold yy zr
 rw[Option.map_eq_none_iff,List.find?_eq_none]
 simp only[decide_eq_true_eq,List.mem_map]
 constructor
 ·rintro h ⟨p,a,rfl⟩;exact h p a rfl
 ·rintro h p a e;exact h ⟨p,a,e⟩
theorem kA{L:LV}{s:Sg}{v:SV}(h:yy L s=I v):(s,v)∈L:=by
 unfold yy at h
 rw[Option.map_eq_some_iff]at h
 obtain⟨p,b,rfl⟩:=h
 have a:=List.find?_some b
 have c:=List.mem_of_find?_eq_some b
 simp at a;subst a;exact c
theorem Yf{L:LV}{s:Sg}(h:s∈zr L):∃v,yy L s=I v/\(s,v)∈L:=by
 cases e:yy L s with
 |none=>exact absurd h (yp.1 e)
 |some v=>exact⟨v,rfl,kA e⟩
theorem xG{L:LV}{s:Sg}{v:SV}{k:Sg}:k∈zr (qT L s v)↔k∈zr L\/k=s:=by
 unfold qT
 by_cases h:s∈zr L
 ·rw[if_pos h]
  have:zr (L.map (fun p=>if p.1=s then(s,v)else p))=zr L:=by
   unfold zr
   rw[List.map_map]
   apply List.map_congr_left
   intro p _
   simp only[Function.comp]
   split<;>simp_all
  rw[this]
  constructor
  ·exact .inl
  ·rintro(a|rfl)<;>assumption
 ·rw[if_neg h];simp[zr]
theorem yU{L:LV}{s:Sg}{v:SV}(h:(zr L).Nodup):(zr (qT L s v)).Nodup:=by
 unfold qT
 by_cases c:s∈zr L
 ·rw[if_pos c]
  have:zr (L.map (fun p=>if p.1=s then(s,v)else p))=zr L:=by
   unfold zr
   rw[List.map_map]
   apply List.map_congr_left
   intro p _
   simp only[Function.comp]
   split<;>simp_all
  rw[this];exact h
 ·rw[if_neg c]
  unfold zr at*
  rw[List.map_append,List.nodup_append]
  refine⟨h,by simp,fun a f b d=>?_⟩
  simp at d;subst d;intro e;subst e;exact c f
theorem qh{L:LV}{s:Sg}{v:SV}{p:Sg×SV}(h:p∈qT L s v):p=(s,v)\/(p∈L/\p.1≠s):=by
 unfold qT at h
 by_cases a:s∈zr L
 ·rw[if_pos a,List.mem_map]at h
  obtain⟨q,b,rfl⟩:=h
  by_cases e:q.1=s
  ·left;simp[e]
  ·right;simp[e,b]
 ·rw[if_neg a,List.mem_append]at h
  rcases h with h|h
  ·right;exact⟨h,fun e=>a (by unfold zr;exact List.mem_map.2 ⟨p,h,e⟩)⟩
  ·left;simpa using h
theorem jR{L:LV}{s:Sg}{v:SV}(f:SV->Int)(h:s∉zr L):qr ((qT L s v).map (fun p=>f p.2))=qr (L.map (fun p=>f p.2))+f v:=by
 unfold qT;rw[if_neg h,List.map_append,Jp];simp[qr]
theorem zaR{L:LV}{s:Sg}{v:SV}(f:SV->Int):s∉zr L->(L.map (fun p=>if p.1=s then(s,v)else p)).map (fun p=>f p.2)=L.map (fun p=>f p.2):=by
 intro h
 rw[List.map_map]
 apply List.map_congr_left
 intro p a
 have:¬p.1=s:=fun e=>h (by unfold zr;exact List.mem_map.2 ⟨p,a,e⟩)
 simp[this]
theorem Qc{s:Sg}{u v:SV}(f:SV->Int):∀{L:LV},(zr L).Nodup->(s,u)∈L->qr ((L.map (fun p=>if p.1=s then(s,v)else p)).map (fun p=>f p.2))=qr (L.map (fun p=>f p.2))-f u+f v
 |[],_,h=>by simp at h
 |q::L,hn,h=>by
  unfold zr at hn
  rw[List.map_cons,List.nodup_cons]at hn
  rw[List.mem_cons]at h
  rcases h with rfl|h
  ·have a:=zaR (L:=L) (s:=s) (v:=v) f hn.1
   rw[List.map_cons,List.map_cons,List.map_cons,a]
   simp only[qr,if_true];omega
  ·have b:¬q.1=s:=fun e=>hn.1 (by rw[e];exact List.mem_map.2 ⟨_,h,rfl⟩)
   have:=Qc f (L:=L) (s:=s) (u:=u) (v:=v) hn.2 h
   rw[List.map_cons,List.map_cons,List.map_cons]
   simp only[b,if_false,qr]
   rw[this];omega
def zhg(c:Cf)(nu:List Nm)(s:Sg):SV:=if s.t= -1 then⟨1,ziM c s nu⟩else⟨2,xY⟩
section
variable {c:Cf} {nu:List Nm} {L:LV}
end
def qp(v:Int):Option Cl->Cl
 |none=>⟨1,v,v,v⟩
 |some o=>⟨1+o.cnt,v+o.sum,if o.mn<v then o.mn else v,if v<o.mx then o.mx else v⟩
def xk(c:Cf)(x:Nm):Sg:=zB c (-1) x
def qw(c:Cf)(L:LV)(x:Nm):LV:=qT L (xk c x) ⟨1,qp x.val ((yy L (xk c x)).map (·.cl))⟩
def xL(c:Cf)(x:Nm)(k:Nat)(L:LV):LV:=if zB c (k:Int) x∈zr L then L else qT L (zB c (k:Int) x) ⟨2,xY⟩
def yw(c:Cf)(x:Nm):Nat->LV->LV
 |0,L=>L
 |k+1,L=>xL c x k (yw c x k L)
def kL(c:Cf)(L:LV)(x:Nm):LV:=yw c x c.n (qw c L x)
def yi(c:Cf)(L:LV)(x:Nm):Nat->Int
 |0=>0
 |k+1=>yi c L x k+(if zB c (k:Int) x∈zr L then 0 else 1)
theorem qS(c:Cf)(L:LV)(x:Nm):∀k:Nat,0<=yi c L x k/\yi c L x k<=k
 |0=>by simp[yi]
 |k+1=>by have:=qS c L x k;simp only[yi];split<;>omega
section
variable {c:Cf} {nu:List Nm} {L:LV}
theorem zdA{x:Nm}{i j:Int}(h:i≠j):zB c i x≠zB c j x:=fun e=>h (by injection e)
structure Mid(c:Cf)(nu:List Nm)(x:Nm)(k:Nat)(L:LV):Prop where
 nodup:(zr L).Nodup
 keys:∀s,s∈zr L↔s∈zji c nu\/s=xk c x\/∃j:Nat,j<k/\s=zB c (j:Int) x
 vals:∀p∈L,p.2=zhg c (nu++[x]) p.1
theorem Mid.step{x:Nm}{k:Nat}(h:Mid c nu x k L):Mid c nu x (k+1) (xL c x k L):=by
 unfold xL
 by_cases d:zB c (k:Int) x∈zr L
 ·rw[if_pos d]
  refine⟨h.nodup,fun s=>?_,h.vals⟩
  rw[h.keys]
  constructor
  ·rintro(a|a|⟨j,b,a⟩)
   ·exact .inl a
   ·exact .inr (.inl a)
   ·exact .inr (.inr ⟨j,by omega,a⟩)
  ·rintro(a|a|⟨j,b,a⟩)
   ·exact .inl a
   ·exact .inr (.inl a)
   ·by_cases e:j=k
    ·subst e;subst a;exact(h.keys _).1 d
    ·exact .inr (.inr ⟨j,by omega,a⟩)
 ·rw[if_neg d]
  refine⟨yU h.nodup,fun s=>?_,fun p f=>?_⟩
  ·rw[xG,h.keys]
   constructor
   ·rintro((a|a|⟨j,b,a⟩)|a)
    ·exact .inl a
    ·exact .inr (.inl a)
    ·exact .inr (.inr ⟨j,by omega,a⟩)
    ·exact .inr (.inr ⟨k,by omega,a⟩)
   ·rintro(a|a|⟨j,b,a⟩)
    ·exact .inl (.inl a)
    ·exact .inl (.inr (.inl a))
    ·by_cases e:j=k
     ·subst e;exact .inr a
     ·exact .inl (.inr (.inr ⟨j,by omega,a⟩))
  ·rcases qh f with rfl|⟨f,_⟩
   ·show(⟨2,xY⟩:SV)=zhg c (nu++[x]) (zB c (k:Int) x)
    unfold zhg
    rw[if_neg (show¬(zB c (k:Int) x).t= -1 by simp only[zB];omega)]
   ·exact h.vals p f
theorem Mid.to{x:Nm}(h:Mid c nu x 0 L):∀k,Mid c nu x k (yw c x k L)
 |0=>h
 |k+1=>(Mid.to h k).step
theorem Yn(x:Nm)(j:Nat)(k:Nat):zB c (j:Int) x∈zr (yw c x k (qw c L x))↔zB c (j:Int) x∈zr L\/j<k:=by
 induction k with
 |zero=>
  show _∈zr (qT _ _ _)↔_
  rw[xG]
  constructor
  ·rintro(h|h)
   ·exact .inl h
   ·exact absurd h (zdA (by omega))
  ·rintro(h|h)
   ·exact .inl h
   ·omega
 |succ k b=>
  show _∈zr (xL c x k _)↔_
  unfold xL
  by_cases a:zB c (k:Int) x∈zr (yw c x k (qw c L x))
  ·rw[if_pos a,b]
   constructor
   ·rintro(h|h)
    ·exact .inl h
    ·exact .inr (by omega)
   ·rintro(h|h)
    ·exact .inl h
    ·by_cases e:j=k
     ·subst e;exact b.1 a
     ·exact .inr (by omega)
  ·rw[if_neg a,xG,b]
   constructor
   ·rintro((h|h)|h)
    ·exact .inl h
    ·exact .inr (by omega)
    ·right
     have:(j:Int)=(k:Int):=by injection h
     omega
   ·rintro(h|h)
    ·exact .inl (.inl h)
    ·by_cases e:j=k
     ·subst e;exact .inr rfl
     ·exact .inl (.inr (by omega))
theorem zim(x:Nm)(k:Nat):zp (yw c x k (qw c L x))=zp (qw c L x)+2*yi c L x k:=by
 induction k with
 |zero=>simp[yw,yi]
 |succ k d=>
  show zp (xL c x k _)=_
  unfold xL
  have b:=Yn (c:=c) (L:=L) x k k
  simp only[Nat.lt_irrefl,or_false]at b
  by_cases h:zB c (k:Int) x∈zr L
  ·rw[if_pos (b.2 h),d];simp[yi,h]
  ·rw[if_neg (fun a=>h (b.1 a))]
   unfold zp at d ⊢
   rw[jR qO (fun a=>h (b.1 a)),d];simp[yi,h,qO];omega
end
theorem Tryz.infoTierR:(prog.info? 80).map (fun i=>(i.zero,i.size,i.bytes))=I (I (.agg #[int i64 0,int i64 0,int i64 0]),3,24):=by kernel_rfl
theorem zdZ{w:J}{a:Option Addr}{n:Nat}{F W K:Nat->Int}(h:TS w a n F W K):0<(jn n F W K).length->∃ad,a=I ad/\∀j v,(jn n F W K)[j]?=I v->w.cell? (ad.add j)=I v:=by
 intro l
 rw[xV]at l
 obtain⟨b,f,rfl,_,m⟩:=h (by omega)
 refine⟨_,rfl,fun j v hv=>?_⟩
 have o:j<n*3:=by
  have:=(List.getElem?_eq_some_iff.1 hv).1;rwa[xV]at this
 rw[YH n F W K j o]at hv
 cases hv
 have d:(⟨b,f,U⟩:Addr).add j=⟨b,f+j,U⟩:=by unfold Addr.add;split<;>simp_all
 rw[d]
 obtain⟨g,i,k⟩:=m (j/3) (by omega)
 rcases(show j%3=0\/j%3=1\/j%3=2 by omega)with e|e|e
 ·have c:j=j/3*3:=by omega
  rw[c,zgM];exact g
 ·have c:j=j/3*3+1:=by omega
  rw[c,zch];exact i
 ·have c:j=j/3*3+2:=by omega
  rw[c,zgN];exact k
end Go.Proofs.YtndhpgciopcncaaGreatDoor
namespace Go.Proofs.YtndhpgciopcncaaGreatDoor
open Go.RowKit Go.Maps
open Go.ChangeMaps (setBlock modify_eq_set)
abbrev SX:=Sg×SV
def zX:SX:=(⟨0,0,0⟩,⟨0,xY⟩)
def yP(x:SX):O:=.agg #[int i64 x.1.t,int i64 x.1.sr,int i64 x.1.wa,int i64 x.2.st,int i64 x.2.cl.cnt,int i64 x.2.cl.sum,int i32 x.2.cl.mn,int i32 x.2.cl.mx]
def xh(n:Int):Prop:= -9223372036854775808<=n/\n<=9223372036854775807
def Sg.wf(s:Sg):Prop:=xh s.t/\xh s.sr/\xh s.wa
theorem Tryz.laidOut:laidOutB prog=true:=by kernel_rfl
theorem ziU:(146:TypeId)<prog.types.size:=of_decide_eq_true (by kernel_rfl)
theorem Z8:Keyed prog 146:=Keyed.of_law (deep_law_laid Tryz.laidOut (m:=2) (Nat.le_of_ble_eq_true rfl) ziU (by kernel_rfl) (by kernel_rfl))
theorem zfg:∃m,prog.types.size=m+1:=by
 have h:0<prog.types.size:=of_decide_eq_true (by kernel_rfl)
 exact⟨prog.types.size-1,by omega⟩
theorem XJ:prog.cellsOf 146=3:=by kernel_rfl
theorem XD:prog.cellsOf 3=1:=by kernel_rfl
theorem zfh:prog.keyType 146=true:=by kernel_rfl
theorem zad{s k:Sg}(h:yD s=yD k):s=k:=by
 unfold yD at h
 injection h with h
 injection h with h
 injection h with a h
 injection h with b h
 injection h with c h
 injection a with _ a
 injection b with _ b
 injection c with _ c
 cases s;cases k;simp at*;exact⟨a,b,c⟩
theorem zga{n:Int}(h:xh n):(Lit.int .i64 n).wf=true:=WalkArith.wf_i64 (by unfold xh at h;omega)
theorem Vo{s:Sg}(h:s.wf):∃i,keyOf prog 146 (yD s)=I i:=by
 obtain⟨m,g⟩:=zfg
 obtain⟨c,d,e⟩:=h
 have f:(yD s).formed prog 146=true:=by
  simp[Value.formed,yD,underlying146,XJ]
 unfold keyOf
 simp only[underlying146,zfh,f,Bool.and_self,if_true]
 have:∃b,prog.keyLits (prog.types.size+1) 146 (yD s).cells.toList=I b:=by
  rw[g]
  simp[Program.keyLits,underlying146,underlying3,yD,Value.cells,XJ,XD,zga c,zga d,zga e]
 obtain⟨b,a⟩:=this
 exact⟨_,by rw[a];rfl⟩
structure zix(es:Array MapEntry)(clock:Nat)(L:LV):Prop where
 kv:es.toList.map (fun e=>(e.key,e.val))=L.map (fun p=>(yD p.1,yP p))
 born:∀e∈es.toList,e.born<clock
 once:(es.toList.map (·.born)).Nodup
 wf:∀p∈L,p.1.wf
 nodup:(zr L).Nodup
 size:es.size<=maxLen
def qQ(w:J)(b:Nat)(L:LV):Prop:=∃c a,w.1[b]?=I (.map c a)/\zix c a L
theorem qQ.lt{w:J}{b:Nat}{L:LV}(h:qQ w b L):b<w.1.size:=by
 obtain⟨d,a,c,_⟩:=h;exact za c
theorem qQ.kept{f:Nat->Prop}{w w':J}{b:Nat}{L:LV}(h:qQ w b L)(g:zo f w w')(hn:¬f b):qQ w' b L:=by
 obtain⟨c,a,d,e⟩:=h;exact⟨c,a,g.heap d hn,e⟩
theorem qQ.later{w w':J}{b:Nat}{L:LV}(h:qQ w b L)(a:Below w.1.size w w'):qQ w' b L:=
 h.kept (f:=fun _=>False) (zo.of_below a) (fun h=>h)
theorem qQ.wf{w:J}{b:Nat}{L:LV}(h:qQ w b L):∀p∈L,p.1.wf:=by obtain⟨d,a,e,c⟩:=h;exact c.wf
theorem qQ.made(w:J):qQ (w.alloc (.map #[] 0)) w.1.size []:=⟨#[],0,zm _ _,⟨rfl,by simp,by simp,by simp,by simp[zr],by simp⟩⟩
theorem zix.keys{c:Array MapEntry}{a:Nat}{L:LV}(h:zix c a L):∀e∈c.toList,∃l,keyOf prog 146 e.key=I l:=fun e d=>by
 have f:(e.key,e.val)∈L.map (fun p=>(yD p.1,yP p)):=h.kv▸List.mem_map.2 ⟨e,d,rfl⟩
 obtain⟨p,g,b⟩:=List.mem_map.1 f
 injection b with b i
 rw[<-b];exact Vo (h.wf p g)
theorem zix.at{c:Array MapEntry}{a:Nat}{L:LV}(h:zix c a L){j:Nat}{e:MapEntry}(f:c.toList[j]?=I e):∃p,L[j]?=I p/\e.key=yD p.1/\e.val=yP p:=by
 have b:(c.toList.map (fun e=>(e.key,e.val)))[j]?=I (e.key,e.val):=by simp[f]
 rw[h.kv,List.getElem?_map]at b
 cases d:L[j]? with
 |none=>simp[d]at b
 |some p=>
  rw[d]at b
  simp at b
  exact⟨p,rfl,b.1.symm,b.2.symm⟩
theorem zcL{L:LV}{s:Sg}{j:Nat}{p:Sg×SV}(a:L[j]?=I p)(e:p.1=s):s∈zr L:=by
 unfold zr;exact List.mem_map.2 ⟨p,List.mem_of_getElem? a,e⟩
theorem zhc{L:LV}(hn:(zr L).Nodup){j:Nat}{p:Sg×SV}(m:L[j]?=I p):yy L p.1=I p.2:=by
 obtain⟨v,hv,n⟩:=Yf (zcL m rfl)
 rw[hv]
 have k:=List.mem_of_getElem? m
 have:(p.1,v)=p:=by
  have f:L.Pairwise (fun a b=>a.1≠b.1):=by unfold zr at hn;exact List.pairwise_map.1 hn
  by_cases e:(p.1,v)=p
  ·exact e
  ·obtain⟨i,l,g⟩:=List.getElem_of_mem n
   obtain⟨i2,d,c⟩:=List.getElem_of_mem k
   rcases Nat.lt_trichotomy i i2 with h|h|h
   ·have:=List.pairwise_iff_getElem.1 f i i2 l d h;rw[g,c]at this;exact absurd rfl this
   ·subst h;rw[g]at c;exact c
   ·have:=List.pairwise_iff_getElem.1 f i2 i d l h;rw[g,c]at this;exact absurd rfl this
 rw[<-this]
def J0(c:Bool)(z:O)(L:LV)(s:Sg):O:=match yy L s with
 |none=>if c then .tuple #[z,.bool false]else z
 |some v=>if c then .tuple #[yP (s,v),.bool true]else yP (s,v)
theorem zaa(c:Bool){w:J}{b:Nat}{L:LV}(h:qQ w b L){s:Sg}(z:s.wf):
  (Instr.lookup 152 (.map (I b)) (yD s) c).run prog w=.ok (J0 c (yP zX) L s) w:=by
 obtain⟨q,g,r,f⟩:=h
 obtain⟨E,a⟩:=Vo z
 have B:(zeroValue 148).run prog w=.ok (yP zX) w:=by kernel_rfl
 rcases Z8.find w a q.toList f.keys with⟨i,k⟩|⟨j,C,i,k,u⟩
 ·have l:yy L s=U:=yp.2 (fun y=>by
   obtain⟨p,n,e⟩:=List.mem_map.1 (show s∈L.map (·.1)from y)
   have m:(yD p.1,yP p)∈q.toList.map (fun e=>(e.key,e.val)):=f.kv▸List.mem_map.2 ⟨p,n,rfl⟩
   obtain⟨x,A,ex⟩:=List.mem_map.1 m
   injection ex with t D
   exact k x A (by rw[t,e]))
  simp[Instr.lookup,run_underlying underlying152,MapKept.run_getObj_map r,Z8.check w _ a,i,B,Result.andThen,J0,l]
 ·obtain⟨p,n,v,hv⟩:=f.at k
  have d:p.1=s:=zad (v.symm.trans u)
  have l:yy L s=I p.2:=by rw[<-d];exact zhc f.nodup n
  have o:p=(s,p.2):=by rw[<-d]
  rw[o]at hv
  simp[Instr.lookup,run_underlying underlying152,MapKept.run_getObj_map r,Z8.check w _ a,i,Result.andThen,J0,l,hv]
theorem zhV{b:Array MapEntry}{a:Nat}{L:LV}(h:zix b a L):b.size=L.length:=by
 have:=congrArg List.length h.kv;simpa using this
theorem Vl{w:J}{b:Nat}{L:LV}(h:qQ w b L)(P:L.length<maxLen){s:Sg}(Q:s.wf)(v:SV):
  ∃o,(Instr.mapUpdate 152 (.map (I b)) (yD s) (yP (s,v))).run prog w=.ok () (setBlock w b o)/\qQ (setBlock w b o) b (qT L s v)/\zo (fun k=>k=b) w (setBlock w b o)/\o.isCells=false:=by
 have K:=h.lt
 have Y:∀o,zo (fun k=>k=b) w (setBlock w b o):=fun o=>⟨rfl,rfl,rfl,by simp[setBlock],fun k X z=>by
  simp only[setBlock];rw[Array.getElem?_setIfInBounds_ne (fun e=>z e.symm)]⟩
 have B:∀o,(setBlock w b o).1[b]?=I o:=fun o=>by simp[setBlock,K]
 obtain⟨r,g,F,d⟩:=h
 obtain⟨kl,t⟩:=Vo Q
 rcases Z8.find w t r.toList d.keys with⟨H,y⟩|⟨j,A,H,y,V⟩
 ·have hg:s∉zr L:=(fun hm=>by
   obtain⟨p,f,e⟩:=List.mem_map.1 (show s∈L.map (·.1)from hm)
   have M:(yD p.1,yP p)∈r.toList.map (fun e=>(e.key,e.val)):=d.kv▸List.mem_map.2 ⟨p,f,rfl⟩
   obtain⟨x,n,ex⟩:=List.mem_map.1 M
   injection ex with Z e2
   exact y x n (by rw[Z,e]))
  refine⟨.map (r.push ⟨yD s,yP (s,v),g⟩) (g+1),?_,⟨_,_,B _,?_⟩,Y _,rfl⟩
  ·simp[Instr.mapUpdate,run_underlying underlying152,MapKept.run_getObj_map F,Z8.check w false t,H,MapKept.run_setObj_map _ F,Result.andThen,setBlock]
  ·have f:qT L s v=L++[(s,v)]:=by unfold qT;rw[if_neg hg]
   refine⟨by rw[f];simp[d.kv],?_,?_,?_,yU d.nodup,by have:=zhV d;simp;omega⟩
   ·intro x n
    simp at n
    rcases n with n|rfl
    ·have:=d.born x (by simpa using n);omega
    ·simp
   ·rw[Array.toList_push,List.map_append,List.nodup_append]
    refine⟨d.once,by simp,fun a ha c W=>?_⟩
    simp at W;subst W
    obtain⟨x,n,rfl⟩:=List.mem_map.1 ha
    have:=d.born x n;omega
   ·rw[f];intro p f
    rcases List.mem_append.1 f with f|f
    ·exact d.wf p f
    ·simp at f;subst f;exact Q
 ·obtain⟨p,f,X,hv⟩:=d.at y
  have u:p.1=s:=zad (X.symm.trans V)
  have hj:r[j]?=I A:=by simpa using y
  have hin:s∈zr L:=zcL f u
  have l:(r.modify j (fun G=>{G with key:=yD s,val:=yP (s,v)})).toList=r.toList.set j {A with key:=yD s,val:=yP (s,v)}:=by rw[Array.toList_modify,modify_eq_set _ _ _ _ y]
  refine⟨.map (r.modify j (fun G=>{G with key:=yD s,val:=yP (s,v)})) g,?_,⟨_,_,B _,?_⟩,Y _,rfl⟩
  ·simp[Instr.mapUpdate,run_underlying underlying152,MapKept.run_getObj_map F,Z8.check w false t,H,hj,V,Z8.stays w t,MapKept.run_setObj_map _ F,Result.andThen,setBlock]
  ·have D:qT L s v=L.set j (s,v):=by
    unfold qT;rw[if_pos hin]
    apply List.ext_getElem?
    intro i
    rw[List.getElem?_map,List.getElem?_set]
    by_cases e:j=i
    ·subst e
     have m:j<L.length:=(List.getElem?_eq_some_iff.1 f).1
     rw[f];simp only[Option.map_some,u,if_true,m]
    ·rw[if_neg e]
     cases hi:L[i]? with
     |none=>simp
     |some q=>
      have z:q.1≠s:=fun T=>by
       have E:L.Pairwise (fun a b=>a.1≠b.1):=List.pairwise_map.1 d.nodup
       obtain⟨C,R⟩:=List.getElem?_eq_some_iff.1 hi
       obtain⟨m,S⟩:=List.getElem?_eq_some_iff.1 f
       rcases Nat.lt_or_gt_of_ne e with h|h
       ·have:=List.pairwise_iff_getElem.1 E j i m C h;rw[R,S]at this;exact this (u.trans T.symm)
       ·have:=List.pairwise_iff_getElem.1 E i j C m h;rw[R,S]at this;exact this (T.trans u.symm)
      simp[z]
   refine⟨?_,?_,?_,?_,yU d.nodup,by simpa using d.size⟩
   ·rw[l,D,List.map_set,List.map_set,d.kv]
   ·intro x n
    rw[l]at n
    rcases List.mem_or_eq_of_mem_set n with n|rfl
    ·exact d.born x n
    ·exact d.born A (List.mem_of_getElem? y)
   ·rw[l,List.map_set]
    have:(r.toList.map (·.born)).set j A.born=r.toList.map (·.born):=by
     apply List.ext_getElem?
     intro i
     rw[List.getElem?_set]
     by_cases e:j=i
     ·subst e
      have m:j<r.toList.length:=(List.getElem?_eq_some_iff.1 y).1
      simp only[List.length_map,m,if_true,List.getElem?_map,y,Option.map_some]
     ·rw[if_neg e]
    show((r.toList.map (·.born)).set j A.born).Nodup
    rw[this];exact d.once
   ·intro q N
    rcases qh N with rfl|⟨N,_⟩
    ·exact Q
    ·exact d.wf q N
end Go.Proofs.YtndhpgciopcncaaGreatDoor
namespace Go.Proofs.YtndhpgciopcncaaGreatDoor
open Go.ChangeMaps (setBlock)
open Go.RowKit Go.Maps Go.Shelf
attribute [local go_sem] Oper.semAt_some
theorem xE{w:J}{r:Nat}(h:r<w.1.size)(o:Obj):(setBlock w r o).1[r]?=I o:=by simp[setBlock,h]
theorem xn{w:J}{r k:Nat}(h:k≠r)(o:Obj):(setBlock w r o).1[k]?=w.1[k]?:=by
 simp only[setBlock];rw[Array.getElem?_setIfInBounds_ne (fun e=>h e.symm)]
theorem xb(w:J)(r:Nat)(o:Obj):w.grownBy (setBlock w r o) (I r):=
 ⟨rfl,rfl,rfl,by simp[setBlock],fun k _ a=>xn (fun e=>a (by rw[e])) o⟩
def vP(b:Array MapEntry)(r:Nat)(w:J):Nat:=match w.1[r]? with
 |some (.mapIter _ _ a _)=>(leftOf b a).size
 |_=>0
theorem xg{b:Array MapEntry}{r:Nat}{w:J}{m:Option Nat}{s:Nat}{a:Array Nat}{c:Nat}(h:w.1[r]?=I (.mapIter m s a c)):vP b r w=(leftOf b a).size:=by
 unfold vP;rw[h]
theorem xq{b:Array MapEntry}{a:Array Nat}{e:MapEntry}:e∈(leftOf b a).toList↔e∈b.toList/\e.born∉a.toList:=by
 simp[leftOf]
theorem qC{b:Array MapEntry}{a:Array Nat}{e:MapEntry}(d:e∈(leftOf b a).toList):(leftOf b (a.push e.born)).size<(leftOf b a).size:=by
 have c:leftOf b (a.push e.born)=(leftOf b a).filter (fun x=>x.born !=e.born):=by
  unfold leftOf
  rw[Array.filter_filter]
  congr 1
  funext x
  by_cases h:x.born=e.born<;>simp[h]
 rw[c]
 simp
 exact⟨e,Array.mem_toList_iff.1 d,rfl⟩
structure Js(es:Array MapEntry)(seen:Array Nat)(ps:List MapEntry):Prop where
 born:ps.map (·.born)=seen.toList
 once:(ps.map (·.born)).Nodup
 sub:∀e∈ps,e∈es.toList
theorem Js.step{f:Array MapEntry}{c:Array Nat}{ps:List MapEntry}(h:Js f c ps){e:MapEntry}(m:e∈(leftOf f c).toList):Js f (c.push e.born) (ps++[e]):=by
 obtain⟨k,l⟩:=xq.1 m
 refine⟨by simp[h.born],?_,fun x d=>?_⟩
 ·rw[List.map_append,List.nodup_append]
  refine⟨h.once,by simp,fun a g b i=>?_⟩
  simp at i;subst i;intro j;subst j;rw[h.born]at g;exact l g
 ·rcases List.mem_append.1 d with d|d
  ·exact h.sub x d
  ·simp at d;subst d;exact k
theorem zgK{e:Array MapEntry}(hn:(e.toList.map (·.born)).Nodup){a b:MapEntry}(m:a∈e.toList)(n:b∈e.toList)(h:a.born=b.born):a=b:=by
 have d:e.toList.Pairwise (fun a b=>a.born≠b.born):=List.pairwise_map.1 hn
 obtain⟨i,k,f⟩:=List.getElem_of_mem m
 obtain⟨j,l,g⟩:=List.getElem_of_mem n
 rcases Nat.lt_trichotomy i j with c|c|c
 ·have:=List.pairwise_iff_getElem.1 d i j k l c;rw[f,g]at this;exact absurd h this
 ·subst c;rw[<-f,g]
 ·have:=List.pairwise_iff_getElem.1 d j i l k c;rw[f,g]at this;exact absurd h.symm this
theorem Js.all{d:Array MapEntry}{c:Array Nat}{ps:List MapEntry}(h:Js d c ps)(hn:(d.toList.map (·.born)).Nodup)(n:(leftOf d c).size=0):ps.Perm d.toList:=by
 have g:ps.Nodup:=List.Pairwise.of_map (·.born) (fun a b h e=>h (by rw[e])) h.once
 have f:d.toList.Nodup:=List.Pairwise.of_map (·.born) (fun a b h e=>h (by rw[e])) hn
 refine(List.perm_ext_iff_of_nodup g f).2 (fun e=>⟨h.sub e,fun j=>?_⟩)
 have k:e.born∈c.toList:=by
  by_cases i:e.born∈c.toList
  ·exact i
  ·have:e∈(leftOf d c).toList:=xq.2 ⟨j,i⟩
   have o:(leftOf d c).toList=[]:=by
    apply List.eq_nil_of_length_eq_zero;simpa using n
   rw[o]at this;simp at this
 rw[<-h.born]at k
 obtain⟨x,l,m⟩:=List.mem_map.1 k
 rw[<-zgK hn (h.sub x l) j m];exact l
theorem Js.lt{d:Array MapEntry}{c:Array Nat}{ps:List MapEntry}(h:Js d c ps){e:MapEntry}(i:e∈(leftOf d c).toList):ps.length<d.size:=by
 have g:=(h.step i)
 have f:(ps++[e]).Nodup:=List.Pairwise.of_map (·.born) (fun a b h e=>h (by rw[e])) g.once
 have:=List.Nodup.length_le_of_subset f (fun x j=>g.sub x j)
 simp at this;omega
attribute [local go_sem] Oper.semAt_some
abbrev WSg:={s:Sg//s.wf}
theorem ziw:(⟨0,0,0⟩:Sg).wf:=by refine⟨?_,?_,?_⟩<;>(unfold xh;simp)
noncomputable def zem (s:Sg):WSg:=by classical exact if h:s.wf then⟨s,h⟩else⟨⟨0,0,0⟩,ziw⟩
theorem Xg{s:Sg}(h:s.wf):(zem s).1=s:=by unfold zem;rw[dif_pos h]
def kq(l:List Int):Int:=l.foldl (fun s x=>wrap64 (s+x)) 0
theorem Zj(l:List Int)(x:Int):kq (l++[x])=wrap64 (kq l+x):=by simp[kq]
theorem zeh(a b:Int):wrap64 (wrap64 a+b)=wrap64 (a+b):=by unfold wrap64;omega
theorem zei:∀l:List Int,kq l=wrap64 (qr l):=by
 intro l
 have h:∀(l:List Int) (s:Int),l.foldl (fun s x=>wrap64 (s+x)) (wrap64 s)=wrap64 (s+qr l):=by
  intro l
  induction l with
  |nil=>intro s;simp[qr]
  |cons x l a=>intro s;rw[List.foldl_cons,zeh,a,qr];congr 1;omega
 have:=h l 0
 have e:wrap64 0=0:=by unfold wrap64;omega
 rw[e]at this
 unfold kq;rw[this];congr 1;omega
theorem yV{l:List Int}(h: -9223372036854775808<=qr l/\qr l<=9223372036854775807):kq l=qr l:=by
 rw[zei];unfold wrap64;omega
theorem zt{W c:J}{a:Option Nat}{k:Nat}{cs:Array O}{t:TypeId}{d:Nat×Nat}(h:W.1[k]?=I (.cells cs t d))(g:W.grownBy c a)(i:∀r,a=I r->∃o:Obj,W.1[r]?=I o/\o.isCells=false):c.1[k]?=I (.cells cs t d):=by
 refine(g.block k (za h) (fun e=>?_)).trans h
 obtain⟨o,b,f⟩:=i k e.symm
 rw[h]at b
 injection b with b
 subst b
 simp[Obj.isCells]at f
theorem qM{W a:J}(h:Below W.1.size W a):KeepsOthers W a:=⟨h.size,fun k o b _=>(h.block k (za b)).trans b⟩
theorem xj{n D:Nat}{w W:J}{o:Obj}(h:Below n w W)(hn:n<=w.1.size)(b:n<=D)(c:W.1[D]?=I o)(a:Obj):Below n w (W.putObj D a):=
 h.grown (grownBy_putObj' W D a) (Nat.le_trans hn h.size) (fun k e=>by cases e;exact b)
structure vC(n:Nat)(Kp:J->J->Prop):Prop where
 t:∀{A B C:J},Kp A B->Kp B C->Kp A C
 b:∀(W:J) (l:Nat) (o o':Obj),n<=l->W.1[l]?=I o->o.isCells=false->o.isWalk=false->Kp W (W.putObj l o')
 of:∀(W W':J),KeepsOthers W W'->Below n W W'->Kp W W'
theorem yK(n:Nat):vC n (Below n):=⟨fun h k=>h.trans k,fun W l o b a h _ _=>(Below.refl n W).grown (grownBy_putObj' W l b) (by have:=za h;omega) (fun k e=>by cases e;exact a),fun W c _ h=>h⟩
theorem Vu{α:Type}{w W w':J}{Kp:J->J->Prop}{f:α->Int}{a:List α}{x:α}{v:O}{t t2:TypeId}{B:Nat}{u:O}(m:u=int i64 (wrap64 (kq (a.map f)+f x)))
  (i1:W.1[w.1.size]?=I (.cells #[v] t (0,0))) (i2:W.1[w.1.size+1]?=I (.cells #[int i64 (kq (a.map f))] t2 (0,0))) (i3:Below w.1.size w W) (d:vC w.1.size Kp) (b:Below W.1.size W w'):
  KeepsFrom B W (w'.setCell ⟨w.1.size+1,0,U⟩ u)/\Kp W (w'.setCell ⟨w.1.size+1,0,U⟩ u)/\((w'.setCell ⟨w.1.size+1,0,U⟩ u).1[w.1.size]?=I (.cells #[v] t (0,0))/\(w'.setCell ⟨w.1.size+1,0,U⟩ u).1[w.1.size+1]?=I (.cells #[int i64 (kq ((a++[x]).map f))] t2 (0,0))/\Below w.1.size w (w'.setCell ⟨w.1.size+1,0,U⟩ u)):=by
 subst m
 have e:=za i1
 have g:=za i2
 have h:KeepsOthers W (w'.setCell ⟨w.1.size+1,0,U⟩ (int i64 (wrap64 (kq (a.map f)+f x)))):=(qM b).trans (KeepsOthers.setCell _ _ _)
 have j:Below w.1.size W (w'.setCell ⟨w.1.size+1,0,U⟩ (int i64 (wrap64 (kq (a.map f)+f x)))):=((b.mono i3.size).setCell (p:=⟨w.1.size+1,0,U⟩) (Nat.le_succ _) _)
 refine⟨h.from _,d.of _ _ h j,?_,?_,i3.trans j⟩
 ·have k:=(b.block _ e).trans i1
  show(w'.setCell ⟨w.1.size+1,0,U⟩ _).1[w.1.size]?=_
  have c:=((Below.refl (w.1.size+1) w').setCell (p:=⟨w.1.size+1,0,U⟩) (Nat.le_refl _) (int i64 (wrap64 (kq (a.map f)+f x)))).block w.1.size (Nat.lt_succ_self _)
  exact c.trans k
 ·have l:=(b.block _ g).trans i2
  rw[List.map_append,List.map_singleton,Zj]
  exact xy (i:=0) l _
end Go.Proofs.YtndhpgciopcncaaGreatDoor
