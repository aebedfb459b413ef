import Derived.Test.YtndhpgciopcncaaGreatDoorPRef3
import Derived.Shelf.Abstract
import Derived.Laws.ResultCell
open Go renaming World → J
open Go renaming Value → Y
open Go.Value (int)
open Go.IntKind (i32)
set_option linter.unusedVariables false
set_option maxRecDepth 8000
set_option maxHeartbeats 1000000
open Go.Proofs.Tryz
namespace Go.Proofs.YtndhpgciopcncaaGreatDoor
open Go.RowKit Go.Maps Go.Shelf
theorem zkO{α:Type}{f:α->List Y}{w:J}{base:Nat}{e:TypeId}{k:Nat}{v:Y}{l:List α}{a:α}(h:w.ownsRow base e k v (l.length+1) (l.flatMap f++f a)):w.ownsRow base e k v (l++[a]).length ((l++[a]).flatMap f):=by
 rw[zaE,List.length_append];exact h
def RM.tight(m:RM):Bool:=decide (3*m.c.qu<4*m.used)
theorem ziw(c n:Int)(hn:0<n):∃r:Int,c%n=r/\0<=r/\r<n:=⟨_,rfl,Int.emod_nonneg c (by omega),Int.emod_lt_of_pos c hn⟩
theorem zlg(c n:Int)(i: -9223372036854775808<=c/\c<=9223372036854775807)(hn:0<n):
  ∃r:Int,0<=r/\r<n/\∀w:J,Calls prog 31 #[I c,I n] w fun e w'=>e=.returned (I r)/\w'=w:=by
 have k:¬n=0:=by omega
 obtain⟨j,hc2⟩:=i
 by_cases h:c<0
 ·obtain⟨r,d,a,b⟩:=ziw (-(c+1)) n hn
  refine⟨r,a,b,fun w=>?_⟩
  have f:=ze d
  clear d a b
  go_enter func31,ntmps31
  go_wp2
  go_ret
  have g: -(c+1).tmod n=(-(c+1))%n:=by rw[<-Int.neg_tmod,Int.tmod_eq_emod_of_nonneg (by omega)]
  exact⟨by show Ending.returned (I (-(c+1).tmod n))=_;rw[g,ud f],rfl⟩
 ·obtain⟨r,d,a,b⟩:=ziw c n hn
  refine⟨r,a,b,fun w=>?_⟩
  have f:=ze d
  clear d a b
  go_enter func31,ntmps31
  go_wp2
  go_ret
  exact⟨by show Ending.returned (I (c%n))=_;rw[ud f],rfl⟩
theorem ZF{w:J}{ops:Array Oper}{o:Oper}{a:Act}{K:Act->J->Prop}{Q:Exit->Act->J->Prop}{E:Prop}(b:o.guard=none)(x y:Operand)(m:Array TypeId)
  (i:o.op=.call {callee:=.value (.func 31),args:=#[x,y],argTypes:=m}) (c v2:Y) (k:a.eval x=c) (l:a.eval y=v2) (v:Y) (d:Calls prog 31 #[c,v2] w fun e w'=>e=.returned v/\w'=w)
  (h:K (a.put o.dst v) w):if Region.wanted o (yielded ops a.tmps)=true then Oper.wp prog o a w K Q else E:=by
 have j:Region.wanted o (yielded ops a.tmps)=true:=by simp[Region.wanted,b]
 rw[if_pos j]
 have f:(execOp a.eval o).run prog w=.ok (.enter 31 #[c,v2]) w:=by
  have g:a.eval (.func 31)=.func (.func 31) #[] #[]:=rfl
  simp[execOp,i,resolve,invoke,k,l,g,Deferred.ofValue]
 unfold Oper.wp
 rw[f,Oper.upon_enter]
 refine d.mono ?_
 rintro e w' ⟨rfl,rfl⟩
 exact h
theorem vs{w:J}{ops:Array Oper}{o:Oper}{a:Act}{K:Act->J->Prop}{Q:Exit->Act->J->Prop}{E:Prop}(m:o.guard=none)(s x:Operand)(t e:TypeId)(size c:Nat){z:Y}
  (G:o.op=.call {callee:=.builtin .append,args:=#[s,x],argTypes:=#[t,t]}) (L:prog.underlying t=some (.slice e)) (d:(prog.info? e).map (fun i=>(i.zero,i.size,i.bytes))=some (some z,size,c)) (r:z.cells.size=size) (q:0<size)
  (base:Nat) (v:Y) (n:Nat) (xs:List Y) (I:a.eval s=v) (j:w.ownsRow base e size v n xs) (k:Nat) (b:List Y) (R:TypeId) (y:Nat×Nat) (N:a.eval x=.slice (some (U k 0)) 1 1) (l:w.1[k]?=some (.cells b.toArray R y)) (S:b.length=size) (A:∀u∈b,u.oneCell'=true)
  (h63:n+1<=maxLen) (hbytes:(n+1)*c<=140737488355328) (hbase:base<=w.1.size)
  (h:∀g cap w',w'.ownsRow base e size (.slice (some (U g 0)) (n+1) cap) (n+1) (xs++b)->w.grownBy w' v.ownBlock->(v.ownBlock=some g\/g=w.1.size)->g<w'.1.size->K (a.put o.dst (.slice (some (U g 0)) (n+1) cap)) w'):
  if Region.wanted o (yielded ops a.tmps)=true then Oper.wp prog o a w K Q else E:=by
 have M:Region.wanted o (yielded ops a.tmps)=true:=by simp[Region.wanted,m]
 rw[if_pos M]
 cases p:prog.info? e with
 |none=>simp[p]at d
 |some i=>
  simp only[p,Option.map_some,Option.some.injEq,Prod.mk.injEq]at d
  obtain⟨O,f,hby⟩:=d
  have hn:=World.news_of_block (cs:=b.toArray) l
  obtain⟨g,cap,w',H,B,_,C,D,F⟩:=vp (P:=prog) w t o.type base e i _ size c L p O f hby r q v n xs j (U k 0) 1 1 b (by omega) hn A (by decide) h63 hbytes hbase
  unfold Oper.wp
  simp[execOp,G,resolve,invoke,builtin,I,N,H,Result.andThen]
  exact h g cap w' B C D F
def RM.tightI(m:RM):Int:=if m.tight then 1 else 0
theorem zg{f:Nat->Prop}{a w:J}{g i:Nat}{v:Y}(h:zh f a w)(b:f g):zh f a (w.setCell (U g i) v):=h.setCell (p:=(U g i)) (fun _=>b) v
theorem Zv{f:Nat->Prop}{a w w':J}(h:zh f a w)(b:Below w.1.size w w'):zh f a w':=h.trans (zh.of_below (f:=f) b) (fun _ _ h=>h)
noncomputable def pkV (c n:Int):Int:=Classical.epsilon (fun r:Int=>0<=r/\r<n/\∀w:J,Calls prog 31 #[I c,I n] w fun e w'=>e=.returned (I r)/\w'=w)
theorem kr(c n:Int)(a: -9223372036854775808<=c/\c<=9223372036854775807)(hn:0<n):0<=pkV c n/\pkV c n<n/\∀w:J,Calls prog 31 #[I c,I n] w fun e w'=>e=.returned (I (pkV c n))/\w'=w:=Classical.epsilon_spec (zlg c n a hn)
theorem zZ{P:Program}{fn:Func}{p u:Tmp}{a:TypeId}(h:fn.results=#[.cell p a,.tmp u])(tmps:Array Y)(w:J)(g:Nat)(t:TypeId)(cs:Array Y)(b:Nat×Nat)(d:TypeDesc)(x:Y)
  (i:tmps.getD p undef=(O g)) (k:tmps.getD u undef=x) (e:w.1[g]?=some (.cells cs t b))
  (j:P.underlying a=some d) (c:(match d with| .struct _| .array _ _=>true|_=>false)=true) (f:(P.info? a).map (·.size)=some cs.size):
  (results fn tmps).run P w=.ok (.tuple #[.agg cs,x]) w:=by
 rw[results_cell_tmp h,i,k]
 simp[asAddr,run_loadVar_row w g t a cs b d e j c f,Result.andThen]
def RM.query(m:RM)(t sr wn:Int):Cl×Int:=
 if t< -1\/m.c.n<=t\/sr<0\/4<=sr\/wn<0\/100000<wn then(⟨0,0,0,0⟩,2)
 else if m.now-m.c.la<m.c.end ⟨t,sr,wn⟩then(⟨0,0,0,0⟩,9)
 else if(qi m.c ⟨t,sr,wn⟩ m.nu).cnt=0 then(⟨0,0,0,0⟩,10)
 else if(⟨t,sr,wn⟩:Sg)∈m.gone then(⟨0,0,0,0⟩,12)
 else if 0<=t/\¬(⟨t,sr,wn⟩:Sg)∈m.pub then(⟨0,0,0,0⟩,11)
 else(qi m.c ⟨t,sr,wn⟩ m.nu,0)
theorem zfM{m:RM}{t sr wn:Int}(h:¬(t< -1\/m.c.n<=t\/sr<0\/4<=sr\/wn<0\/100000<wn))(a:m.now-m.c.la<m.c.end ⟨t,sr,wn⟩):m.query t sr wn=(⟨0,0,0,0⟩,9):=by
 unfold RM.query;rw[if_neg h,if_pos a]
theorem zcR{m:RM}{t sr wn:Int}(h:¬(t< -1\/m.c.n<=t\/sr<0\/4<=sr\/wn<0\/100000<wn))(a:¬m.now-m.c.la<m.c.end ⟨t,sr,wn⟩)(b:(qi m.c ⟨t,sr,wn⟩ m.nu).cnt=0):m.query t sr wn=(⟨0,0,0,0⟩,10):=by
 unfold RM.query;rw[if_neg h,if_neg a,if_pos b]
theorem zfL{m:RM}{t sr wn:Int}(h:¬(t< -1\/m.c.n<=t\/sr<0\/4<=sr\/wn<0\/100000<wn))(a:¬m.now-m.c.la<m.c.end ⟨t,sr,wn⟩)(b:¬(qi m.c ⟨t,sr,wn⟩ m.nu).cnt=0)(d:(⟨t,sr,wn⟩:Sg)∈m.gone):m.query t sr wn=(⟨0,0,0,0⟩,12):=by
 unfold RM.query;rw[if_neg h,if_neg a,if_neg b,if_pos d]
theorem zfN{m:RM}{t sr wn:Int}(h:¬(t< -1\/m.c.n<=t\/sr<0\/4<=sr\/wn<0\/100000<wn))(a:¬m.now-m.c.la<m.c.end ⟨t,sr,wn⟩)(b:¬(qi m.c ⟨t,sr,wn⟩ m.nu).cnt=0)(d:¬(⟨t,sr,wn⟩:Sg)∈m.gone)(e:0<=t/\¬(⟨t,sr,wn⟩:Sg)∈m.pub):m.query t sr wn=(⟨0,0,0,0⟩,11):=by
 unfold RM.query;rw[if_neg h,if_neg a,if_neg b,if_neg d,if_pos e]
theorem zee{m:RM}{t sr wn:Int}(h:¬(t< -1\/m.c.n<=t\/sr<0\/4<=sr\/wn<0\/100000<wn))(a:¬m.now-m.c.la<m.c.end ⟨t,sr,wn⟩)(b:¬(qi m.c ⟨t,sr,wn⟩ m.nu).cnt=0)(d:¬(⟨t,sr,wn⟩:Sg)∈m.gone)(e:¬(0<=t/\¬(⟨t,sr,wn⟩:Sg)∈m.pub)):m.query t sr wn=(qi m.c ⟨t,sr,wn⟩ m.nu,0):=by
 unfold RM.query;rw[if_neg h,if_neg a,if_neg b,if_neg d,if_neg e]
def clV(A:Cl):Y:=.agg #[I A.cnt,I A.sum,int i32 A.mn,int i32 A.mx]
end Go.Proofs.YtndhpgciopcncaaGreatDoor
