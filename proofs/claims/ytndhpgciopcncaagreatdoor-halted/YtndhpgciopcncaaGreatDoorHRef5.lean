import Derived.Test.YtndhpgciopcncaaGreatDoorHRef3
import Derived.Shelf.Abstract
import Derived.Laws.ResultCell
open Go.Value (int)
open Go.IntKind (i32)
set_option linter.unusedVariables false
set_option maxRecDepth 8000
set_option maxHeartbeats 1000000
open Go.Proofs.Tryz
namespace Go.Proofs.YtndhpgciopcncaaGreatDoor
open Go.RowKit Go.Maps Go.Shelf
variable {a:Act} {K:Act->World->Prop} {ops:Array Oper} {Q:Exit->Act->World->Prop} {sr t wn:Int} {f:Nat->Prop} {o:Oper} {E:Prop} {v:Value} {w:World}
theorem zkV{α:Type}{f:α->List Value}{base:Nat}{e:TypeId}{k:Nat}{l:List α}{a:α}(h:w.ownsRow base e k v (l.length+1) (l.flatMap f++f a)):w.ownsRow base e k v (l++[a]).length ((l++[a]).flatMap f):=by
 rw[zbj,List.length_append];exact h
def RM.tight(m:RM):Bool:=decide (3*m.c.qu<4*m.used)
theorem ziE(c n:Int)(hn:0<n):∃r:Int,c%n=r/\0<=r/\r<n:=⟨_,rfl,Int.emod_nonneg c (by omega),Int.emod_lt_of_pos c hn⟩
theorem zev(c n:Int)(i: -9223372036854775808<=c/\c<=9223372036854775807)(hn:0<n):
  ∃r:Int,0<=r/\r<n/\∀w:World,Calls prog 31 #[I c,I n] w fun e w'=>e=.returned (I r)/\w'=w:=by
 have k:¬n=0:=by omega
 obtain⟨j,hc2⟩:=i;by_cases h:c<0
 ·obtain⟨r,d,a,b⟩:=ziE (-(c+1)) n hn;refine⟨r,a,b,fun w=>?_⟩;have f:=ze d;clear d a b;go_enter func31,ntmps31;go_wp2;go_ret;have g: -(c+1).tmod n=(-(c+1))%n:=by rw[<-Int.neg_tmod,Int.tmod_eq_emod_of_nonneg (by omega)]
  exact⟨by show Ending.returned (I (-(c+1).tmod n))=_;rw[g,ud f],rfl⟩
 ·obtain⟨r,d,a,b⟩:=ziE c n hn;refine⟨r,a,b,fun w=>?_⟩;have f:=ze d;clear d a b;go_enter func31,ntmps31;go_wp2;go_ret;exact⟨by show Ending.returned (I (c%n))=_;rw[ud f],rfl⟩
theorem ZZ(b:o.guard=none)(x y:Operand)(ts:Array TypeId)(i:o.op=.call {callee:=.value (.func 31),args:=#[x,y],argTypes:=ts})(c v2:Value)(k:a.eval x=c)(l:a.eval y=v2)(v:Value)(d:Calls prog 31 #[c,v2] w fun e w'=>e=.returned v/\w'=w)(h:K (a.put o.dst v) w):if Region.wanted o (yielded ops a.tmps)=true then Oper.wp prog o a w K Q else E:=by
 have j:Region.wanted o (yielded ops a.tmps)=true:=by simp[Region.wanted,b]
 rw[if_pos j];have f:(execOp a.eval o).run prog w=.ok (.enter 31 #[c,v2]) w:=by
  have g:a.eval (.func 31)=.func (.func 31) #[] #[]:=rfl;simp[execOp,i,resolve,invoke,k,l,g,Deferred.ofValue]
 unfold Oper.wp;rw[f,Oper.upon_enter];refine d.mono ?_;rintro e w' ⟨rfl,rfl⟩;exact h
theorem vI(l:o.guard=none)(s x:Operand)(t e:TypeId)(size c:Nat){z:Value}(D:o.op=.call {callee:=.builtin .append,args:=#[s,x],argTypes:=#[t,t]})(H:prog.underlying t=some (.slice e))(d:(prog.info? e).map (fun i=>(i.zero,i.size,i.bytes))=some (some z,size,c))(q:z.cells.size=size)(p:0<size)(base:Nat)(v:Value)(n:Nat)(xs:List Value)(G:a.eval s=v)(j:w.ownsRow base e size v n xs)(B1:Nat)(b:List Value)(M:TypeId)(fr:Nat×Nat)(J:a.eval x=.slice (some (U B1 0)) 1 1)(k:w.1[B1]?=some (.cells b.toArray M fr))(N:b.length=size)(r:∀u∈b,u.oneCell'=true)(h63:n+1<=maxLen)(hbytes:(n+1)*c<=140737488355328)(hbase:base<=w.1.size)(h:∀g cap w',w'.ownsRow base e size (.slice (some (U g 0)) (n+1) cap) (n+1) (xs++b)->w.grownBy w' v.ownBlock->(v.ownBlock=some g\/g=w.1.size)->g<w'.1.size->K (a.put o.dst (.slice (some (U g 0)) (n+1) cap)) w'):
  if Region.wanted o (yielded ops a.tmps)=true then Oper.wp prog o a w K Q else E:=by
 have I:Region.wanted o (yielded ops a.tmps)=true:=by simp[Region.wanted,l]
 rw[if_pos I];cases m:prog.info? e with
 |none=>simp[m]at d
 |some i=>
  simp only[m,Option.map_some,Option.some.injEq,Prod.mk.injEq]at d;obtain⟨L,f,hby⟩:=d;have hn:=World.news_of_block (cs:=b.toArray) k;obtain⟨g,cap,w',F,y,_,A,B,C⟩:=vH (P:=prog) w t o.type base e i _ size c H m L f hby q p v n xs j (U B1 0) 1 1 b (by omega) hn r (by decide) h63 hbytes hbase;unfold Oper.wp;simp[execOp,D,resolve,invoke,builtin,G,J,F,Result.andThen];exact h g cap w' y A B C
def RM.tightI(m:RM):Int:=if m.tight then 1 else 0
theorem zg{a:World}{g i:Nat}(h:zi f a w)(b:f g):zi f a (w.setCell (U g i) v):=h.setCell (p:=(U g i)) (fun _=>b) v
theorem ZR{a w':World}(h:zi f a w)(b:Below w.1.size w w'):zi f a w':=h.trans (zi.of_below (f:=f) b) (fun _ _ h=>h)
noncomputable def pkV (c n:Int):Int:=Classical.epsilon (fun r:Int=>0<=r/\r<n/\∀w:World,Calls prog 31 #[I c,I n] w fun e w'=>e=.returned (I r)/\w'=w)
theorem yt(c n:Int)(a: -9223372036854775808<=c/\c<=9223372036854775807)(hn:0<n):0<=pkV c n/\pkV c n<n/\∀w:World,Calls prog 31 #[I c,I n] w fun e w'=>e=.returned (I (pkV c n))/\w'=w:=Classical.epsilon_spec (zev c n a hn)
theorem xa{P:Program}{fn:Func}{p u:Tmp}{a:TypeId}(h:fn.results=#[.cell p a,.tmp u])(tmps:Array Value)(w:World)(g:Nat)(t:TypeId)(cs:Array Value)(fr:Nat×Nat)(d:TypeDesc)(x:Value)(f:tmps.getD p undef=(O g))(j:tmps.getD u undef=x)(c:w.1[g]?=some (.cells cs t fr))(i:P.underlying a=some d)(b:(match d with| .struct _| .array _ _=>true|_=>false)=true)(e:(P.info? a).map (·.size)=some cs.size):
  (results fn tmps).run P w=.ok (.tuple #[.agg cs,x]) w:=by
 rw[results_cell_tmp h,f,j];simp[asAddr,run_loadVar_row w g t a cs fr d c i b e,Result.andThen]
def RM.query(m:RM)(t sr wn:Int):Cl×Int:=
 if t< -1\/m.c.n<=t\/sr<0\/4<=sr\/wn<0\/100000<wn then(⟨0,0,0,0⟩,2)
 else if m.now-m.c.la<m.c.end ⟨t,sr,wn⟩then(⟨0,0,0,0⟩,9)
 else if(qB m.c ⟨t,sr,wn⟩ m.nu).cnt=0 then(⟨0,0,0,0⟩,10)
 else if(⟨t,sr,wn⟩:Sg)∈m.gone then(⟨0,0,0,0⟩,12)
 else if 0<=t/\¬(⟨t,sr,wn⟩:Sg)∈m.pub then(⟨0,0,0,0⟩,11)
 else(qB m.c ⟨t,sr,wn⟩ m.nu,0)
variable {m:RM}
theorem zgj(h:¬(t< -1\/m.c.n<=t\/sr<0\/4<=sr\/wn<0\/100000<wn))(a:m.now-m.c.la<m.c.end ⟨t,sr,wn⟩):m.query t sr wn=(⟨0,0,0,0⟩,9):=by
 unfold RM.query;rw[if_neg h,if_pos a]
theorem zdx(h:¬(t< -1\/m.c.n<=t\/sr<0\/4<=sr\/wn<0\/100000<wn))(a:¬m.now-m.c.la<m.c.end ⟨t,sr,wn⟩)(b:(qB m.c ⟨t,sr,wn⟩ m.nu).cnt=0):m.query t sr wn=(⟨0,0,0,0⟩,10):=by
 unfold RM.query;rw[if_neg h,if_neg a,if_pos b]
theorem zgi(h:¬(t< -1\/m.c.n<=t\/sr<0\/4<=sr\/wn<0\/100000<wn))(a:¬m.now-m.c.la<m.c.end ⟨t,sr,wn⟩)(b:¬(qB m.c ⟨t,sr,wn⟩ m.nu).cnt=0)(d:(⟨t,sr,wn⟩:Sg)∈m.gone):m.query t sr wn=(⟨0,0,0,0⟩,12):=by
 unfold RM.query;rw[if_neg h,if_neg a,if_neg b,if_pos d]
theorem zgk(h:¬(t< -1\/m.c.n<=t\/sr<0\/4<=sr\/wn<0\/100000<wn))(a:¬m.now-m.c.la<m.c.end ⟨t,sr,wn⟩)(b:¬(qB m.c ⟨t,sr,wn⟩ m.nu).cnt=0)(d:¬(⟨t,sr,wn⟩:Sg)∈m.gone)(e:0<=t/\¬(⟨t,sr,wn⟩:Sg)∈m.pub):m.query t sr wn=(⟨0,0,0,0⟩,11):=by
 unfold RM.query;rw[if_neg h,if_neg a,if_neg b,if_neg d,if_pos e]
theorem zeH(h:¬(t< -1\/m.c.n<=t\/sr<0\/4<=sr\/wn<0\/100000<wn))(a:¬m.now-m.c.la<m.c.end ⟨t,sr,wn⟩)(b:¬(qB m.c ⟨t,sr,wn⟩ m.nu).cnt=0)(d:¬(⟨t,sr,wn⟩:Sg)∈m.gone)(e:¬(0<=t/\¬(⟨t,sr,wn⟩:Sg)∈m.pub)):m.query t sr wn=(qB m.c ⟨t,sr,wn⟩ m.nu,0):=by
 unfold RM.query;rw[if_neg h,if_neg a,if_neg b,if_neg d,if_neg e]
def clV(A:Cl):Value:=.agg #[I A.cnt,I A.sum,int i32 A.mn,int i32 A.mx]
end Go.Proofs.YtndhpgciopcncaaGreatDoor
