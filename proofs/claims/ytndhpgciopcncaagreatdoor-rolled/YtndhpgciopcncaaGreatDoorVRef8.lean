import Derived.Test.YtndhpgciopcncaaGreatDoorVRef5
import Derived.Laws.ResultCell
import Derived.Maps.Keyed
import Derived.Maps.RangeRun
import Derived.DeepKeys4
import Derived.RangeFuncOwn
import Derived.RangeFuncNested
import Derived.RangeFuncBound
import Derived.RangeFuncCalls
import Derived.RangeFuncLeaves
import Derived.Shelf.Abstract
import Derived.Shelf.RegionOpen
import Derived.WalkKit
import Derived.OwnWalkIn
import Derived.TacticsInMore
import Derived.LoopNIn
import Derived.LoopIn
open Option renaming some → I
open Go renaming World → J
open Go renaming Value → O
open Option renaming none → E
open Go.Value (int)
open Go.IntKind (i64)
open Go.IntKind (i32)
set_option linter.unusedVariables false
open Go.Proofs.Tryz
namespace Go.Proofs.YtndhpgciopcncaaGreatDoor
open Go.RowKit
theorem zQ{P:Program}{fn:Func}{p u:Tmp}{a:TypeId}(h:fn.results=#[.cell p a,.tmp u])(tmps:Array O)(w:J)(g:Nat)(t:TypeId)(cs:Array O)(b:Nat×Nat)(d:TypeDesc)(x:O)
  (i:tmps.getD p undef=.pointer (I ⟨g,0,E⟩)) (k:tmps.getD u undef=x) (e:w.1[g]?=I (.cells cs t b))
  (j:P.underlying a=I d) (c:(match d with| .struct _| .array _ _=>true|_=>false)=true) (f:(P.info? a).map (·.size)=I cs.size):
  (results fn tmps).run P w=.ok (.tuple #[.agg cs,x]) w:=by
 rw[results_cell_tmp h,i,k]
 simp[asAddr,run_loadVar_row w g t a cs b d e j c f,Result.andThen]
def clV(A:Cl):O:=.agg #[int i64 A.cnt,int i64 A.sum,int i32 A.mn,int i32 A.mx]
theorem yu{w:J}{b b':Nat}{e:TypeId}{size:Nat}{v:O}{n:Nat}{xs:List O}(h:w.ownsRow b e size v n xs)(d:b'<=b):w.ownsRow b' e size v n xs:=by
 refine⟨h.1,?_⟩
 rcases h.2 with c|⟨g,cap,a,rfl,f,r⟩
 ·exact .inl c
 ·exact .inr ⟨g,cap,a,rfl,Nat.le_trans d f,r⟩
theorem zu{w:J}{p:Nat}{cs:Array O}{T e:TypeId}{d:Nat×Nat}{B size n:Nat}{v:O}{xs:List O}(h:w.1[p]?=I (.cells cs T d))(i:w.ownsRow B e size v n xs)(f:T≠e):∀k,v.ownBlock=I k->¬k=p:=fun k g b=>by
 subst b
 obtain⟨c,a⟩:=zH i g
 rw[h]at a
 injection a with a;injection a with _ a;exact f a
theorem jh{w:J}{base size n:Nat}{e:TypeId}{v:O}{xs:List O}(h:w.ownsRow base e size v n xs):w.drew.ownsRow base e size v n xs:=h
theorem vo{w w':J}{a:Option Nat}(h:w.drew.grownBy w' a):w.grownBy w' a:=⟨h.os,h.tape,h.output,h.size,h.block⟩
theorem jg(w:J)(o:Obj):(w.alloc o).drew.1[w.1.size]?=I o:=zk w o
theorem xo{w:J}{h i q r o p:Nat}{d e:TypeId}{f g:O}{s t:List O}(j:w.ownsRow h d q f o s)(l:w.ownsRow i e r g p t)(m:d≠e):∀k,f.ownBlock=I k->¬g.ownBlock=I k:=fun k n c=>by
 obtain⟨u,b⟩:=zH j n
 obtain⟨v,hc2⟩:=zH l c
 rw[b]at hc2
 injection hc2 with a;injection a with _ a;exact m a
structure SV where
 st:Int
 cl:Cl
abbrev LV:=List (Sg×SV)
def qc:Cl:=⟨0,0,0,0⟩
def zt(L:LV):List Sg:=L.map (·.1)
def yA(L:LV)(s:Sg):Option SV:=(L.find? (fun p=>decide (p.1=s))).map (·.2)
def ya(L:LV)(s:Sg)(v:SV):LV:=if s∈zt L then L.map (fun p=>if p.1=s then(s,v)else p)else L++[(s,v)]
def stL(L:LV)(s:Sg):SV:=(yA L s).getD ⟨0,qc⟩
def qD(v:SV):Int:=if v.st=1 then v.cl.cnt else 2
def qq:List Int->Int
 |[]=>0
 |a::l=>a+qq l
def zm(L:LV):Int:=qq (L.map (fun p=>qD p.2))
def QN(k:Int)(v:SV):Int:=if v.st=k then 1 else 0
def ze(L:LV)(k:Int):Int:=qq (L.map (fun p=>QN k p.2))
theorem JF(a b:List Int):qq (a++b)=qq a+qq b:=by
 induction a with
 |nil=>simp[qq]
 |cons x l c=>simp only[List.cons_append,qq,c];omega
theorem VC{a b:List Int}(h:a.Perm b):qq a=qq b:=by
 induction h with
 |nil=>rfl
 |cons x _ e=>simp only[qq,e]
 |swap x y l=>simp only[qq];omega
 |trans _ _ c d=>exact c.trans d
theorem kh{L:LV}{s:Sg}:yA L s=E↔s∉zt L:=by
 unfold yA zt
 rw[Option.map_eq_none_iff,List.find?_eq_none]
 simp only[decide_eq_true_eq,List.mem_map]
 constructor
 ·rintro h ⟨p,a,rfl⟩;exact h p a rfl
 ·rintro h p a e;exact h ⟨p,a,e⟩
theorem kz{L:LV}{s:Sg}{v:SV}(h:yA L s=I v):(s,v)∈L:=by
 unfold yA at h
 rw[Option.map_eq_some_iff]at h
 obtain⟨p,b,rfl⟩:=h
 have a:=List.find?_some b
 have c:=List.mem_of_find?_eq_some b
 simp at a;subst a;exact c
theorem Yr{L:LV}{s:Sg}(h:s∈zt L):∃v,yA L s=I v/\(s,v)∈L:=by
 cases e:yA L s with
 |none=>exact absurd h (kh.1 e)
 |some v=>exact⟨v,rfl,kz e⟩
theorem xF{L:LV}{s:Sg}{v:SV}{k:Sg}:k∈zt (ya L s v)↔k∈zt L\/k=s:=by
 unfold ya
 by_cases h:s∈zt L
 ·rw[if_pos h]
  have:zt (L.map (fun p=>if p.1=s then(s,v)else p))=zt L:=by
   unfold zt
   rw[List.map_map]
   apply List.map_congr_left
   intro p _
   simp only[Function.comp]
   split<;>simp_all
  rw[this]
  constructor
  ·exact .inl
  ·rintro(a|rfl)<;>assumption
 ·rw[if_neg h];simp[zt]
theorem yT{L:LV}{s:Sg}{v:SV}(h:(zt L).Nodup):(zt (ya L s v)).Nodup:=by
 unfold ya
 by_cases c:s∈zt L
 ·rw[if_pos c]
  have:zt (L.map (fun p=>if p.1=s then(s,v)else p))=zt L:=by
   unfold zt
   rw[List.map_map]
   apply List.map_congr_left
   intro p _
   simp only[Function.comp]
   split<;>simp_all
  rw[this];exact h
 ·rw[if_neg c]
  unfold zt at*
  rw[List.map_append,List.nodup_append]
  refine⟨h,by simp,fun a f b d=>?_⟩
  simp at d;subst d;intro e;subst e;exact c f
theorem qh{L:LV}{s:Sg}{v:SV}{p:Sg×SV}(h:p∈ya L s v):p=(s,v)\/(p∈L/\p.1≠s):=by
 unfold ya at h
 by_cases a:s∈zt L
 ·rw[if_pos a,List.mem_map]at h
  obtain⟨q,b,rfl⟩:=h
  by_cases e:q.1=s
  ·left;simp[e]
  ·right;simp[e,b]
 ·rw[if_neg a,List.mem_append]at h
  rcases h with h|h
  ·right;exact⟨h,fun e=>a (by unfold zt;exact List.mem_map.2 ⟨p,h,e⟩)⟩
  ·left;simpa using h
theorem Z0{L:LV}{s:Sg}{v:SV}(f:SV->Int)(h:s∉zt L):qq ((ya L s v).map (fun p=>f p.2))=qq (L.map (fun p=>f p.2))+f v:=by
 unfold ya;rw[if_neg h,List.map_append,JF];simp[qq]
theorem zbc{L:LV}{s:Sg}{v:SV}(f:SV->Int):s∉zt L->(L.map (fun p=>if p.1=s then(s,v)else p)).map (fun p=>f p.2)=L.map (fun p=>f p.2):=by
 intro h
 rw[List.map_map]
 apply List.map_congr_left
 intro p a
 have:¬p.1=s:=fun e=>h (by unfold zt;exact List.mem_map.2 ⟨p,a,e⟩)
 simp[this]
theorem Ql{s:Sg}{u v:SV}(f:SV->Int):∀{L:LV},(zt L).Nodup->(s,u)∈L->qq ((L.map (fun p=>if p.1=s then(s,v)else p)).map (fun p=>f p.2))=qq (L.map (fun p=>f p.2))-f u+f v
 |[],_,h=>by simp at h
 |q::L,hn,h=>by
  unfold zt at hn
  rw[List.map_cons,List.nodup_cons]at hn
  rw[List.mem_cons]at h
  rcases h with rfl|h
  ·have a:=zbc (L:=L) (s:=s) (v:=v) f hn.1
   rw[List.map_cons,List.map_cons,List.map_cons,a]
   simp only[qq,if_true];omega
  ·have b:¬q.1=s:=fun e=>hn.1 (by rw[e];exact List.mem_map.2 ⟨_,h,rfl⟩)
   have:=Ql f (L:=L) (s:=s) (u:=u) (v:=v) hn.2 h
   rw[List.map_cons,List.map_cons,List.map_cons]
   simp only[b,if_false,qq]
   rw[this];omega
def zhN(c:Cf)(nu:List Nm)(s:Sg):SV:=if s.t= -1 then⟨1,zjs c s nu⟩else⟨2,qc⟩
section
variable {c:Cf} {nu:List Nm} {L:LV}
end
def qp(v:Int):Option Cl->Cl
 |none=>⟨1,v,v,v⟩
 |some o=>⟨1+o.cnt,v+o.sum,if o.mn<v then o.mn else v,if v<o.mx then o.mx else v⟩
def xk(c:Cf)(x:Nm):Sg:=zG c (-1) x
def qs(c:Cf)(L:LV)(x:Nm):LV:=ya L (xk c x) ⟨1,qp x.val ((yA L (xk c x)).map (·.cl))⟩
def xN(c:Cf)(x:Nm)(k:Nat)(L:LV):LV:=if zG c (k:Int) x∈zt L then L else ya L (zG c (k:Int) x) ⟨2,qc⟩
def yx(c:Cf)(x:Nm):Nat->LV->LV
 |0,L=>L
 |k+1,L=>xN c x k (yx c x k L)
def kN(c:Cf)(L:LV)(x:Nm):LV:=yx c x c.n (qs c L x)
def yk(c:Cf)(L:LV)(x:Nm):Nat->Int
 |0=>0
 |k+1=>yk c L x k+(if zG c (k:Int) x∈zt L then 0 else 1)
theorem qS(c:Cf)(L:LV)(x:Nm):∀k:Nat,0<=yk c L x k/\yk c L x k<=k
 |0=>by simp[yk]
 |k+1=>by have:=qS c L x k;simp only[yk];split<;>omega
section
variable {c:Cf} {nu:List Nm} {L:LV}
theorem zdX{x:Nm}{i j:Int}(h:i≠j):zG c i x≠zG c j x:=fun e=>h (by injection e)
structure Mid(c:Cf)(nu:List Nm)(x:Nm)(k:Nat)(L:LV):Prop where
 nodup:(zt L).Nodup
 keys:∀s,s∈zt L↔s∈zjQ c nu\/s=xk c x\/∃j:Nat,j<k/\s=zG c (j:Int) x
 vals:∀p∈L,p.2=zhN c (nu++[x]) p.1
theorem Mid.step{x:Nm}{k:Nat}(h:Mid c nu x k L):Mid c nu x (k+1) (xN c x k L):=by
 unfold xN
 by_cases d:zG c (k:Int) x∈zt L
 ·rw[if_pos d]
  refine⟨h.nodup,fun s=>?_,h.vals⟩
  rw[h.keys]
  constructor
  ·rintro(a|a|⟨j,b,a⟩)
   ·exact .inl a
   ·exact .inr (.inl a)
   ·exact .inr (.inr ⟨j,by omega,a⟩)
  ·rintro(a|a|⟨j,b,a⟩)
   ·exact .inl a
   ·exact .inr (.inl a)
   ·by_cases e:j=k
    ·subst e;subst a;exact(h.keys _).1 d
    ·exact .inr (.inr ⟨j,by omega,a⟩)
 ·rw[if_neg d]
  refine⟨yT h.nodup,fun s=>?_,fun p f=>?_⟩
  ·rw[xF,h.keys]
   constructor
   ·rintro((a|a|⟨j,b,a⟩)|a)
    ·exact .inl a
    ·exact .inr (.inl a)
    ·exact .inr (.inr ⟨j,by omega,a⟩)
    ·exact .inr (.inr ⟨k,by omega,a⟩)
   ·rintro(a|a|⟨j,b,a⟩)
    ·exact .inl (.inl a)
    ·exact .inl (.inr (.inl a))
    ·by_cases e:j=k
     ·subst e;exact .inr a
     ·exact .inl (.inr (.inr ⟨j,by omega,a⟩))
  ·rcases qh f with rfl|⟨f,_⟩
   ·show(⟨2,qc⟩:SV)=zhN c (nu++[x]) (zG c (k:Int) x)
    unfold zhN
    rw[if_neg (show¬(zG c (k:Int) x).t= -1 by simp only[zG];omega)]
   ·exact h.vals p f
theorem Mid.to{x:Nm}(h:Mid c nu x 0 L):∀k,Mid c nu x k (yx c x k L)
 |0=>h
 |k+1=>(Mid.to h k).step
theorem Yz(x:Nm)(j:Nat)(k:Nat):zG c (j:Int) x∈zt (yx c x k (qs c L x))↔zG c (j:Int) x∈zt L\/j<k:=by
 induction k with
 |zero=>
  show _∈zt (ya _ _ _)↔_
  rw[xF]
  constructor
  ·rintro(h|h)
   ·exact .inl h
   ·exact absurd h (zdX (by omega))
  ·rintro(h|h)
   ·exact .inl h
   ·omega
 |succ k b=>
  show _∈zt (xN c x k _)↔_
  unfold xN
  by_cases a:zG c (k:Int) x∈zt (yx c x k (qs c L x))
  ·rw[if_pos a,b]
   constructor
   ·rintro(h|h)
    ·exact .inl h
    ·exact .inr (by omega)
   ·rintro(h|h)
    ·exact .inl h
    ·by_cases e:j=k
     ·subst e;exact b.1 a
     ·exact .inr (by omega)
  ·rw[if_neg a,xF,b]
   constructor
   ·rintro((h|h)|h)
    ·exact .inl h
    ·exact .inr (by omega)
    ·right
     have:(j:Int)=(k:Int):=by injection h
     omega
   ·rintro(h|h)
    ·exact .inl (.inl h)
    ·by_cases e:j=k
     ·subst e;exact .inr rfl
     ·exact .inl (.inr (by omega))
theorem ziT(x:Nm)(k:Nat):zm (yx c x k (qs c L x))=zm (qs c L x)+2*yk c L x k:=by
 induction k with
 |zero=>simp[yx,yk]
 |succ k d=>
  show zm (xN c x k _)=_
  unfold xN
  have b:=Yz (c:=c) (L:=L) x k k
  simp only[Nat.lt_irrefl,or_false]at b
  by_cases h:zG c (k:Int) x∈zt L
  ·rw[if_pos (b.2 h),d];simp[yk,h]
  ·rw[if_neg (fun a=>h (b.1 a))]
   unfold zm at d ⊢
   rw[Z0 qD (fun a=>h (b.1 a)),d];simp[yk,h,qD];omega
end
theorem Tryz.infoTierR:(prog.info? 80).map (fun i=>(i.zero,i.size,i.bytes))=I (I (.agg #[int i64 0,int i64 0,int i64 0]),3,24):=by kernel_rfl
theorem zeB{w:J}{a:Option Addr}{n:Nat}{F W K:Nat->Int}(h:TS w a n F W K):0<(jv n F W K).length->∃ad,a=I ad/\∀j v,(jv n F W K)[j]?=I v->w.cell? (ad.add j)=I v:=by
 intro l
 rw[xW]at l
 obtain⟨b,f,rfl,_,m⟩:=h (by omega)
 refine⟨_,rfl,fun j v hv=>?_⟩
 have o:j<n*3:=by
  have:=(List.getElem?_eq_some_iff.1 hv).1;rwa[xW]at this
 rw[YU n F W K j o]at hv
 cases hv
 have d:(⟨b,f,E⟩:Addr).add j=⟨b,f+j,E⟩:=by unfold Addr.add;split<;>simp_all
 rw[d]
 obtain⟨g,i,k⟩:=m (j/3) (by omega)
 rcases(show j%3=0\/j%3=1\/j%3=2 by omega)with e|e|e
 ·have c:j=j/3*3:=by omega
  rw[c,zhu];exact g
 ·have c:j=j/3*3+1:=by omega
  rw[c,zcA];exact i
 ·have c:j=j/3*3+2:=by omega
  rw[c,zhv];exact k
end Go.Proofs.YtndhpgciopcncaaGreatDoor
namespace Go.Proofs.YtndhpgciopcncaaGreatDoor
open Go.RowKit Go.Maps
open Go.ChangeMaps (setBlock modify_eq_set)
abbrev SX:=Sg×SV
def zX:SX:=(⟨0,0,0⟩,⟨0,qc⟩)
def yO(x:SX):O:=.agg #[int i64 x.1.t,int i64 x.1.sr,int i64 x.1.wa,int i64 x.2.st,int i64 x.2.cl.cnt,int i64 x.2.cl.sum,int i32 x.2.cl.mn,int i32 x.2.cl.mx]
def xg(n:Int):Prop:= -9223372036854775808<=n/\n<=9223372036854775807
def Sg.wf(s:Sg):Prop:=xg s.t/\xg s.sr/\xg s.wa
theorem Tryz.laidOut:laidOutB prog=true:=by kernel_rfl
theorem zjB:(146:TypeId)<prog.types.size:=of_decide_eq_true (by kernel_rfl)
theorem Zk:Keyed prog 146:=Keyed.of_law (deep_law_laid Tryz.laidOut (m:=2) (Nat.le_of_ble_eq_true rfl) zjB (by kernel_rfl) (by kernel_rfl))
theorem zfK:∃m,prog.types.size=m+1:=by
 have h:0<prog.types.size:=of_decide_eq_true (by kernel_rfl)
 exact⟨prog.types.size-1,by omega⟩
theorem XT:prog.cellsOf 146=3:=by kernel_rfl
theorem XO:prog.cellsOf 3=1:=by kernel_rfl
theorem zfL:prog.keyType 146=true:=by kernel_rfl
theorem zal{s k:Sg}(h:yE s=yE k):s=k:=by
 unfold yE at h
 injection h with h
 injection h with h
 injection h with a h
 injection h with b h
 injection h with c h
 injection a with _ a
 injection b with _ b
 injection c with _ c
 cases s;cases k;simp at*;exact⟨a,b,c⟩
theorem zgK{n:Int}(h:xg n):(Lit.int .i64 n).wf=true:=WalkArith.wf_i64 (by unfold xg at h;omega)
theorem Vy{s:Sg}(h:s.wf):∃i,keyOf prog 146 (yE s)=I i:=by
 obtain⟨m,g⟩:=zfK
 obtain⟨c,d,e⟩:=h
 have f:(yE s).formed prog 146=true:=by
  simp[Value.formed,yE,underlying146,XT]
 unfold keyOf
 simp only[underlying146,zfL,f,Bool.and_self,if_true]
 have:∃b,prog.keyLits (prog.types.size+1) 146 (yE s).cells.toList=I b:=by
  rw[g]
  simp[Program.keyLits,underlying146,underlying3,yE,Value.cells,XT,XO,zgK c,zgK d,zgK e]
 obtain⟨b,a⟩:=this
 exact⟨_,by rw[a];rfl⟩
structure zjd(es:Array MapEntry)(clock:Nat)(L:LV):Prop where
 kv:es.toList.map (fun e=>(e.key,e.val))=L.map (fun p=>(yE p.1,yO p))
 born:∀e∈es.toList,e.born<clock
 once:(es.toList.map (·.born)).Nodup
 wf:∀p∈L,p.1.wf
 nodup:(zt L).Nodup
 size:es.size<=maxLen
def qP(w:J)(b:Nat)(L:LV):Prop:=∃c a,w.1[b]?=I (.map c a)/\zjd c a L
theorem qP.lt{w:J}{b:Nat}{L:LV}(h:qP w b L):b<w.1.size:=by
 obtain⟨d,a,c,_⟩:=h;exact za c
theorem qP.kept{f:Nat->Prop}{w w':J}{b:Nat}{L:LV}(h:qP w b L)(g:zo f w w')(hn:¬f b):qP w' b L:=by
 obtain⟨c,a,d,e⟩:=h;exact⟨c,a,g.heap d hn,e⟩
theorem qP.later{w w':J}{b:Nat}{L:LV}(h:qP w b L)(a:Below w.1.size w w'):qP w' b L:=
 h.kept (f:=fun _=>False) (zo.of_below a) (fun h=>h)
theorem qP.wf{w:J}{b:Nat}{L:LV}(h:qP w b L):∀p∈L,p.1.wf:=by obtain⟨d,a,e,c⟩:=h;exact c.wf
theorem qP.made(w:J):qP (w.alloc (.map #[] 0)) w.1.size []:=⟨#[],0,zk _ _,⟨rfl,by simp,by simp,by simp,by simp[zt],by simp⟩⟩
theorem zjd.keys{c:Array MapEntry}{a:Nat}{L:LV}(h:zjd c a L):∀e∈c.toList,∃l,keyOf prog 146 e.key=I l:=fun e d=>by
 have f:(e.key,e.val)∈L.map (fun p=>(yE p.1,yO p)):=h.kv▸List.mem_map.2 ⟨e,d,rfl⟩
 obtain⟨p,g,b⟩:=List.mem_map.1 f
 injection b with b i
 rw[<-b];exact Vy (h.wf p g)
theorem zjd.at{c:Array MapEntry}{a:Nat}{L:LV}(h:zjd c a L){j:Nat}{e:MapEntry}(f:c.toList[j]?=I e):∃p,L[j]?=I p/\e.key=yE p.1/\e.val=yO p:=by
 have b:(c.toList.map (fun e=>(e.key,e.val)))[j]?=I (e.key,e.val):=by simp[f]
 rw[h.kv,List.getElem?_map]at b
 cases d:L[j]? with
 |none=>simp[d]at b
 |some p=>
  rw[d]at b
  simp at b
  exact⟨p,rfl,b.1.symm,b.2.symm⟩
theorem zdh{L:LV}{s:Sg}{j:Nat}{p:Sg×SV}(a:L[j]?=I p)(e:p.1=s):s∈zt L:=by
 unfold zt;exact List.mem_map.2 ⟨p,List.mem_of_getElem? a,e⟩
theorem zhK{L:LV}(hn:(zt L).Nodup){j:Nat}{p:Sg×SV}(m:L[j]?=I p):yA L p.1=I p.2:=by
 obtain⟨v,hv,n⟩:=Yr (zdh m rfl)
 rw[hv]
 have k:=List.mem_of_getElem? m
 have:(p.1,v)=p:=by
  have f:L.Pairwise (fun a b=>a.1≠b.1):=by unfold zt at hn;exact List.pairwise_map.1 hn
  by_cases e:(p.1,v)=p
  ·exact e
  ·obtain⟨i,l,g⟩:=List.getElem_of_mem n
   obtain⟨i2,d,c⟩:=List.getElem_of_mem k
   rcases Nat.lt_trichotomy i i2 with h|h|h
   ·have:=List.pairwise_iff_getElem.1 f i i2 l d h;rw[g,c]at this;exact absurd rfl this
   ·subst h;rw[g]at c;exact c
   ·have:=List.pairwise_iff_getElem.1 f i2 i d l h;rw[g,c]at this;exact absurd rfl this
 rw[<-this]
def Je(c:Bool)(z:O)(L:LV)(s:Sg):O:=match yA L s with
 |none=>if c then .tuple #[z,.bool false]else z
 |some v=>if c then .tuple #[yO (s,v),.bool true]else yO (s,v)
theorem zaj(c:Bool){w:J}{b:Nat}{L:LV}(h:qP w b L){s:Sg}(z:s.wf):
  (Instr.lookup 152 (.map (I b)) (yE s) c).run prog w=.ok (Je c (yO zX) L s) w:=by
 obtain⟨q,g,r,f⟩:=h
 obtain⟨F,a⟩:=Vy z
 have B:(zeroValue 148).run prog w=.ok (yO zX) w:=by kernel_rfl
 rcases Zk.find w a q.toList f.keys with⟨i,k⟩|⟨j,C,i,k,u⟩
 ·have l:yA L s=E:=kh.2 (fun y=>by
   obtain⟨p,n,e⟩:=List.mem_map.1 (show s∈L.map (·.1)from y)
   have m:(yE p.1,yO p)∈q.toList.map (fun e=>(e.key,e.val)):=f.kv▸List.mem_map.2 ⟨p,n,rfl⟩
   obtain⟨x,A,ex⟩:=List.mem_map.1 m
   injection ex with t D
   exact k x A (by rw[t,e]))
  simp[Instr.lookup,run_underlying underlying152,MapKept.run_getObj_map r,Zk.check w _ a,i,B,Result.andThen,Je,l]
 ·obtain⟨p,n,v,hv⟩:=f.at k
  have d:p.1=s:=zal (v.symm.trans u)
  have l:yA L s=I p.2:=by rw[<-d];exact zhK f.nodup n
  have o:p=(s,p.2):=by rw[<-d]
  rw[o]at hv
  simp[Instr.lookup,run_underlying underlying152,MapKept.run_getObj_map r,Zk.check w _ a,i,Result.andThen,Je,l,hv]
theorem ziB{b:Array MapEntry}{a:Nat}{L:LV}(h:zjd b a L):b.size=L.length:=by
 have:=congrArg List.length h.kv;simpa using this
theorem Vv{w:J}{b:Nat}{L:LV}(h:qP w b L)(Q:L.length<maxLen){s:Sg}(R:s.wf)(v:SV):
  ∃o,(Instr.mapUpdate 152 (.map (I b)) (yE s) (yO (s,v))).run prog w=.ok () (setBlock w b o)/\qP (setBlock w b o) b (ya L s v)/\zo (fun k=>k=b) w (setBlock w b o)/\o.isCells=false:=by
 have M:=h.lt
 have Y:∀o,zo (fun k=>k=b) w (setBlock w b o):=fun o=>⟨rfl,rfl,rfl,by simp[setBlock],fun k X z=>by
  simp only[setBlock];rw[Array.getElem?_setIfInBounds_ne (fun e=>z e.symm)]⟩
 have B:∀o,(setBlock w b o).1[b]?=I o:=fun o=>by simp[setBlock,M]
 obtain⟨r,g,G,d⟩:=h
 obtain⟨kl,t⟩:=Vy R
 rcases Zk.find w t r.toList d.keys with⟨K,y⟩|⟨j,A,K,y,V⟩
 ·have hg:s∉zt L:=(fun hm=>by
   obtain⟨p,f,e⟩:=List.mem_map.1 (show s∈L.map (·.1)from hm)
   have N:(yE p.1,yO p)∈r.toList.map (fun e=>(e.key,e.val)):=d.kv▸List.mem_map.2 ⟨p,f,rfl⟩
   obtain⟨x,n,ex⟩:=List.mem_map.1 N
   injection ex with Z e2
   exact y x n (by rw[Z,e]))
  refine⟨.map (r.push ⟨yE s,yO (s,v),g⟩) (g+1),?_,⟨_,_,B _,?_⟩,Y _,rfl⟩
  ·simp[Instr.mapUpdate,run_underlying underlying152,MapKept.run_getObj_map G,Zk.check w false t,K,MapKept.run_setObj_map _ G,Result.andThen,setBlock]
  ·have f:ya L s v=L++[(s,v)]:=by unfold ya;rw[if_neg hg]
   refine⟨by rw[f];simp[d.kv],?_,?_,?_,yT d.nodup,by have:=ziB d;simp;omega⟩
   ·intro x n
    simp at n
    rcases n with n|rfl
    ·have:=d.born x (by simpa using n);omega
    ·simp
   ·rw[Array.toList_push,List.map_append,List.nodup_append]
    refine⟨d.once,by simp,fun a ha c W=>?_⟩
    simp at W;subst W
    obtain⟨x,n,rfl⟩:=List.mem_map.1 ha
    have:=d.born x n;omega
   ·rw[f];intro p f
    rcases List.mem_append.1 f with f|f
    ·exact d.wf p f
    ·simp at f;subst f;exact R
 ·obtain⟨p,f,X,hv⟩:=d.at y
  have u:p.1=s:=zal (X.symm.trans V)
  have hj:r[j]?=I A:=by simpa using y
  have hin:s∈zt L:=zdh f u
  have l:(r.modify j (fun H=>{H with key:=yE s,val:=yO (s,v)})).toList=r.toList.set j {A with key:=yE s,val:=yO (s,v)}:=by rw[Array.toList_modify,modify_eq_set _ _ _ _ y]
  refine⟨.map (r.modify j (fun H=>{H with key:=yE s,val:=yO (s,v)})) g,?_,⟨_,_,B _,?_⟩,Y _,rfl⟩
  ·simp[Instr.mapUpdate,run_underlying underlying152,MapKept.run_getObj_map G,Zk.check w false t,K,hj,V,Zk.stays w t,MapKept.run_setObj_map _ G,Result.andThen,setBlock]
  ·have D:ya L s v=L.set j (s,v):=by
    unfold ya;rw[if_pos hin]
    apply List.ext_getElem?
    intro i
    rw[List.getElem?_map,List.getElem?_set]
    by_cases e:j=i
    ·subst e
     have m:j<L.length:=(List.getElem?_eq_some_iff.1 f).1
     rw[f];simp only[Option.map_some,u,if_true,m]
    ·rw[if_neg e]
     cases hi:L[i]? with
     |none=>simp
     |some q=>
      have z:q.1≠s:=fun U=>by
       have F:L.Pairwise (fun a b=>a.1≠b.1):=List.pairwise_map.1 d.nodup
       obtain⟨C,S⟩:=List.getElem?_eq_some_iff.1 hi
       obtain⟨m,T⟩:=List.getElem?_eq_some_iff.1 f
       rcases Nat.lt_or_gt_of_ne e with h|h
       ·have:=List.pairwise_iff_getElem.1 F j i m C h;rw[S,T]at this;exact this (u.trans U.symm)
       ·have:=List.pairwise_iff_getElem.1 F i j C m h;rw[S,T]at this;exact this (U.trans u.symm)
      simp[z]
   refine⟨?_,?_,?_,?_,yT d.nodup,by simpa using d.size⟩
   ·rw[l,D,List.map_set,List.map_set,d.kv]
   ·intro x n
    rw[l]at n
    rcases List.mem_or_eq_of_mem_set n with n|rfl
    ·exact d.born x n
    ·exact d.born A (List.mem_of_getElem? y)
   ·rw[l,List.map_set]
    have:(r.toList.map (·.born)).set j A.born=r.toList.map (·.born):=by
     apply List.ext_getElem?
     intro i
     rw[List.getElem?_set]
     by_cases e:j=i
     ·subst e
      have m:j<r.toList.length:=(List.getElem?_eq_some_iff.1 y).1
      simp only[List.length_map,m,if_true,List.getElem?_map,y,Option.map_some]
     ·rw[if_neg e]
    show((r.toList.map (·.born)).set j A.born).Nodup
    rw[this];exact d.once
   ·intro q P
    rcases qh P with rfl|⟨P,_⟩
    ·exact R
    ·exact d.wf q P
end Go.Proofs.YtndhpgciopcncaaGreatDoor
namespace Go.Proofs.YtndhpgciopcncaaGreatDoor
open Go.ChangeMaps (setBlock)
open Go.RowKit Go.Maps Go.Shelf
attribute [local go_sem] Oper.semAt_some
theorem xw{w:J}{r:Nat}(h:r<w.1.size)(o:Obj):(setBlock w r o).1[r]?=I o:=by simp[setBlock,h]
theorem zZ{w:J}{r k:Nat}(h:k≠r)(o:Obj):(setBlock w r o).1[k]?=w.1[k]?:=by
 simp only[setBlock];rw[Array.getElem?_setIfInBounds_ne (fun e=>h e.symm)]
theorem xd(w:J)(r:Nat)(o:Obj):w.grownBy (setBlock w r o) (I r):=
 ⟨rfl,rfl,rfl,by simp[setBlock],fun k _ a=>zZ (fun e=>a (by rw[e])) o⟩
def vw(b:Array MapEntry)(r:Nat)(w:J):Nat:=match w.1[r]? with
 |some (.mapIter _ _ a _)=>(leftOf b a).size
 |_=>0
theorem xa{b:Array MapEntry}{r:Nat}{w:J}{m:Option Nat}{s:Nat}{a:Array Nat}{c:Nat}(h:w.1[r]?=I (.mapIter m s a c)):vw b r w=(leftOf b a).size:=by
 unfold vw;rw[h]
theorem xj{b:Array MapEntry}{a:Array Nat}{e:MapEntry}:e∈(leftOf b a).toList↔e∈b.toList/\e.born∉a.toList:=by
 simp[leftOf]
theorem qk{b:Array MapEntry}{a:Array Nat}{e:MapEntry}(d:e∈(leftOf b a).toList):(leftOf b (a.push e.born)).size<(leftOf b a).size:=by
 have c:leftOf b (a.push e.born)=(leftOf b a).filter (fun x=>x.born !=e.born):=by
  unfold leftOf
  rw[Array.filter_filter]
  congr 1
  funext x
  by_cases h:x.born=e.born<;>simp[h]
 rw[c]
 simp
 exact⟨e,Array.mem_toList_iff.1 d,rfl⟩
structure JH(es:Array MapEntry)(seen:Array Nat)(ps:List MapEntry):Prop where
 born:ps.map (·.born)=seen.toList
 once:(ps.map (·.born)).Nodup
 sub:∀e∈ps,e∈es.toList
theorem JH.step{f:Array MapEntry}{c:Array Nat}{ps:List MapEntry}(h:JH f c ps){e:MapEntry}(m:e∈(leftOf f c).toList):JH f (c.push e.born) (ps++[e]):=by
 obtain⟨k,l⟩:=xj.1 m
 refine⟨by simp[h.born],?_,fun x d=>?_⟩
 ·rw[List.map_append,List.nodup_append]
  refine⟨h.once,by simp,fun a g b i=>?_⟩
  simp at i;subst i;intro j;subst j;rw[h.born]at g;exact l g
 ·rcases List.mem_append.1 d with d|d
  ·exact h.sub x d
  ·simp at d;subst d;exact k
theorem zhs{e:Array MapEntry}(hn:(e.toList.map (·.born)).Nodup){a b:MapEntry}(m:a∈e.toList)(n:b∈e.toList)(h:a.born=b.born):a=b:=by
 have d:e.toList.Pairwise (fun a b=>a.born≠b.born):=List.pairwise_map.1 hn
 obtain⟨i,k,f⟩:=List.getElem_of_mem m
 obtain⟨j,l,g⟩:=List.getElem_of_mem n
 rcases Nat.lt_trichotomy i j with c|c|c
 ·have:=List.pairwise_iff_getElem.1 d i j k l c;rw[f,g]at this;exact absurd h this
 ·subst c;rw[<-f,g]
 ·have:=List.pairwise_iff_getElem.1 d j i l k c;rw[f,g]at this;exact absurd h.symm this
theorem JH.all{d:Array MapEntry}{c:Array Nat}{ps:List MapEntry}(h:JH d c ps)(hn:(d.toList.map (·.born)).Nodup)(n:(leftOf d c).size=0):ps.Perm d.toList:=by
 have g:ps.Nodup:=List.Pairwise.of_map (·.born) (fun a b h e=>h (by rw[e])) h.once
 have f:d.toList.Nodup:=List.Pairwise.of_map (·.born) (fun a b h e=>h (by rw[e])) hn
 refine(List.perm_ext_iff_of_nodup g f).2 (fun e=>⟨h.sub e,fun j=>?_⟩)
 have k:e.born∈c.toList:=by
  by_cases i:e.born∈c.toList
  ·exact i
  ·have:e∈(leftOf d c).toList:=xj.2 ⟨j,i⟩
   have o:(leftOf d c).toList=[]:=by
    apply List.eq_nil_of_length_eq_zero;simpa using n
   rw[o]at this;simp at this
 rw[<-h.born]at k
 obtain⟨x,l,m⟩:=List.mem_map.1 k
 rw[<-zhs hn (h.sub x l) j m];exact l
theorem JH.lt{d:Array MapEntry}{c:Array Nat}{ps:List MapEntry}(h:JH d c ps){e:MapEntry}(i:e∈(leftOf d c).toList):ps.length<d.size:=by
 have g:=(h.step i)
 have f:(ps++[e]).Nodup:=List.Pairwise.of_map (·.born) (fun a b h e=>h (by rw[e])) g.once
 have:=List.Nodup.length_le_of_subset f (fun x j=>g.sub x j)
 simp at this;omega
attribute [local go_sem] Oper.semAt_some
abbrev WSg:={s:Sg//s.wf}
theorem zjc:(⟨0,0,0⟩:Sg).wf:=by refine⟨?_,?_,?_⟩<;>(unfold xg;simp)
noncomputable def zeP (s:Sg):WSg:=by classical exact if h:s.wf then⟨s,h⟩else⟨⟨0,0,0⟩,zjc⟩
theorem Xq{s:Sg}(h:s.wf):(zeP s).1=s:=by unfold zeP;rw[dif_pos h]
def kq(l:List Int):Int:=l.foldl (fun s x=>wrap64 (s+x)) 0
theorem Zx(l:List Int)(x:Int):kq (l++[x])=wrap64 (kq l+x):=by simp[kq]
theorem zeK(a b:Int):wrap64 (wrap64 a+b)=wrap64 (a+b):=by unfold wrap64;omega
theorem zeL:∀l:List Int,kq l=wrap64 (qq l):=by
 intro l
 have h:∀(l:List Int) (s:Int),l.foldl (fun s x=>wrap64 (s+x)) (wrap64 s)=wrap64 (s+qq l):=by
  intro l
  induction l with
  |nil=>intro s;simp[qq]
  |cons x l a=>intro s;rw[List.foldl_cons,zeK,a,qq];congr 1;omega
 have:=h l 0
 have e:wrap64 0=0:=by unfold wrap64;omega
 rw[e]at this
 unfold kq;rw[this];congr 1;omega
theorem yV{l:List Int}(h: -9223372036854775808<=qq l/\qq l<=9223372036854775807):kq l=qq l:=by
 rw[zeL];unfold wrap64;omega
theorem zr{W c:J}{a:Option Nat}{k:Nat}{cs:Array O}{t:TypeId}{d:Nat×Nat}(h:W.1[k]?=I (.cells cs t d))(g:W.grownBy c a)(i:∀r,a=I r->∃o:Obj,W.1[r]?=I o/\o.isCells=false):c.1[k]?=I (.cells cs t d):=by
 refine(g.block k (za h) (fun e=>?_)).trans h
 obtain⟨o,b,f⟩:=i k e.symm
 rw[h]at b
 injection b with b
 subst b
 simp[Obj.isCells]at f
theorem qN{W a:J}(h:Below W.1.size W a):KeepsOthers W a:=⟨h.size,fun k o b _=>(h.block k (za b)).trans b⟩
theorem xi{n D:Nat}{w W:J}{o:Obj}(h:Below n w W)(hn:n<=w.1.size)(b:n<=D)(c:W.1[D]?=I o)(a:Obj):Below n w (W.putObj D a):=
 h.grown (grownBy_putObj' W D a) (Nat.le_trans hn h.size) (fun k e=>by cases e;exact b)
structure vE(n:Nat)(Kp:J->J->Prop):Prop where
 t:∀{A B C:J},Kp A B->Kp B C->Kp A C
 b:∀(W:J) (l:Nat) (o o':Obj),n<=l->W.1[l]?=I o->o.isCells=false->o.isWalk=false->Kp W (W.putObj l o')
 of:∀(W W':J),KeepsOthers W W'->Below n W W'->Kp W W'
theorem yK(n:Nat):vE n (Below n):=⟨fun h k=>h.trans k,fun W l o b a h _ _=>(Below.refl n W).grown (grownBy_putObj' W l b) (by have:=za h;omega) (fun k e=>by cases e;exact a),fun W c _ h=>h⟩
theorem VE{α:Type}{w W w':J}{Kp:J->J->Prop}{f:α->Int}{a:List α}{x:α}{v:O}{t t2:TypeId}{B:Nat}{u:O}(m:u=int i64 (wrap64 (kq (a.map f)+f x)))
  (i1:W.1[w.1.size]?=I (.cells #[v] t (0,0))) (i2:W.1[w.1.size+1]?=I (.cells #[int i64 (kq (a.map f))] t2 (0,0))) (i3:Below w.1.size w W) (d:vE w.1.size Kp) (b:Below W.1.size W w'):
  KeepsFrom B W (w'.setCell ⟨w.1.size+1,0,E⟩ u)/\Kp W (w'.setCell ⟨w.1.size+1,0,E⟩ u)/\((w'.setCell ⟨w.1.size+1,0,E⟩ u).1[w.1.size]?=I (.cells #[v] t (0,0))/\(w'.setCell ⟨w.1.size+1,0,E⟩ u).1[w.1.size+1]?=I (.cells #[int i64 (kq ((a++[x]).map f))] t2 (0,0))/\Below w.1.size w (w'.setCell ⟨w.1.size+1,0,E⟩ u)):=by
 subst m
 have e:=za i1
 have g:=za i2
 have h:KeepsOthers W (w'.setCell ⟨w.1.size+1,0,E⟩ (int i64 (wrap64 (kq (a.map f)+f x)))):=(qN b).trans (KeepsOthers.setCell _ _ _)
 have j:Below w.1.size W (w'.setCell ⟨w.1.size+1,0,E⟩ (int i64 (wrap64 (kq (a.map f)+f x)))):=((b.mono i3.size).setCell (p:=⟨w.1.size+1,0,E⟩) (Nat.le_succ _) _)
 refine⟨h.from _,d.of _ _ h j,?_,?_,i3.trans j⟩
 ·have k:=(b.block _ e).trans i1
  show(w'.setCell ⟨w.1.size+1,0,E⟩ _).1[w.1.size]?=_
  have c:=((Below.refl (w.1.size+1) w').setCell (p:=⟨w.1.size+1,0,E⟩) (Nat.le_refl _) (int i64 (wrap64 (kq (a.map f)+f x)))).block w.1.size (Nat.lt_succ_self _)
  exact c.trans k
 ·have l:=(b.block _ g).trans i2
  rw[List.map_append,List.map_singleton,Zx]
  exact xy (i:=0) l _
end Go.Proofs.YtndhpgciopcncaaGreatDoor
