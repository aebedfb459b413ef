import Derived.Test.YtndhpgciopcncaaGreatDoorVRef3
import Derived.Shelf.Abstract
open Go.Value (int)
open Go.IntKind (i64)
set_option linter.unusedVariables false
set_option maxRecDepth 8000
set_option maxHeartbeats 1000000
open Go.Proofs.Tryz
namespace Go.Proofs.YtndhpgciopcncaaGreatDoor
open Go.RowKit
theorem zfv{α:Type}{f:α->List Value}{w:World}{base:Nat}{e:TypeId}{k:Nat}{v:Value}{l:List α}{a:α}(h:w.ownsRow base e k v (l.length+1) (l.flatMap f++f a)):w.ownsRow base e k v (l++[a]).length ((l++[a]).flatMap f):=by
 rw[KC,List.length_append];exact h
theorem zdu(c n:Int)(hn:0<n):∃r:Int,c%n=r/\0<=r/\r<n:=⟨_,rfl,Int.emod_nonneg c (by omega),Int.emod_lt_of_pos c hn⟩
theorem xT(c n:Int)(i: -9223372036854775808<=c/\c<=9223372036854775807)(hn:0<n):
  ∃r:Int,0<=r/\r<n/\∀w:World,Calls prog 31 #[int i64 c,int i64 n] w fun e w'=>e=.returned (int i64 r)/\w'=w:=by
 have k:¬n=0:=by omega
 obtain⟨j,hc2⟩:=i
 by_cases h:c<0
 ·obtain⟨r,d,a,b⟩:=zdu (-(c+1)) n hn
  refine⟨r,a,b,fun w=>?_⟩
  have f:=zd d
  clear d a b
  go_enter func31,ntmps31
  go_wp2
  go_ret
  have g: -(c+1).tmod n=(-(c+1))%n:=by rw[<-Int.neg_tmod,Int.tmod_eq_emod_of_nonneg (by omega)]
  exact⟨by show Ending.returned (int i64 (-(c+1).tmod n))=_;rw[g,ud f],rfl⟩
 ·obtain⟨r,d,a,b⟩:=zdu c n hn
  refine⟨r,a,b,fun w=>?_⟩
  have f:=zd d
  clear d a b
  go_enter func31,ntmps31
  go_wp2
  go_ret
  exact⟨by show Ending.returned (int i64 (c%n))=_;rw[ud f],rfl⟩
theorem jk{w:World}{ops:Array Oper}{o:Oper}{a:Act}{K:Act->World->Prop}{Q:Exit->Act->World->Prop}{E:Prop}(b:o.guard=none)(x y:Operand)(ts:Array TypeId)
  (j:o.op=.call {callee:=.value (.func 31),args:=#[x,y],argTypes:=ts}) (c d:Value) (l:a.eval x=c) (m:a.eval y=d) (v:Value) (f:Calls prog 31 #[c,d] w fun e w'=>e=.returned v/\w'=w)
  (h:K (a.put o.dst v) w):if Region.wanted o (yielded ops a.tmps)=true then Oper.wp prog o a w K Q else E:=by
 have k:Region.wanted o (yielded ops a.tmps)=true:=by simp[Region.wanted,b]
 rw[if_pos k]
 have g:(execOp a.eval o).run prog w=.ok (.enter 31 #[c,d]) w:=by
  have i:a.eval (.func 31)=.func (.func 31) #[] #[]:=rfl
  simp[execOp,j,resolve,invoke,l,m,i,Deferred.ofValue]
 unfold Oper.wp
 rw[g,Oper.upon_enter]
 refine f.mono ?_
 rintro e w' ⟨rfl,rfl⟩
 exact h
theorem kZ{w:World}{ops:Array Oper}{o:Oper}{a:Act}{K:Act->World->Prop}{Q:Exit->Act->World->Prop}{E:Prop}(m:o.guard=none)(s x:Operand)(t e:TypeId)(size c:Nat){z:Value}
  (G:o.op=.call {callee:=.builtin .append,args:=#[s,x],argTypes:=#[t,t]}) (J:prog.underlying t=some (.slice e)) (d:(prog.info? e).map (fun i=>(i.zero,i.size,i.bytes))=some (some z,size,c)) (r:z.cells.size=size) (q:0<size)
  (base:Nat) (v:Value) (n:Nat) (xs:List Value) (I:a.eval s=v) (j:w.ownsRow base e size v n xs) (k:Nat) (b:List Value) (O:TypeId) (y:Nat×Nat) (M:a.eval x=.slice (some ⟨k,0,none⟩) 1 1) (l:w.1[k]?=some (.cells b.toArray O y)) (R:b.length=size) (A:∀u∈b,u.oneCell'=true)
  (h63:n+1<=maxLen) (hbytes:(n+1)*c<=140737488355328) (hbase:base<=w.1.size)
  (h:∀g cap w',w'.ownsRow base e size (.slice (some ⟨g,0,none⟩) (n+1) cap) (n+1) (xs++b)->w.grownBy w' v.ownBlock->(v.ownBlock=some g\/g=w.1.size)->g<w'.1.size->K (a.put o.dst (.slice (some ⟨g,0,none⟩) (n+1) cap)) w'):
  if Region.wanted o (yielded ops a.tmps)=true then Oper.wp prog o a w K Q else E:=by
 have L:Region.wanted o (yielded ops a.tmps)=true:=by simp[Region.wanted,m]
 rw[if_pos L]
 cases p:prog.info? e with
 |none=>simp[p]at d
 |some i=>
  simp only[p,Option.map_some,Option.some.injEq,Prod.mk.injEq]at d
  obtain⟨N,f,hby⟩:=d
  have hn:=World.news_of_block (cs:=b.toArray) l
  obtain⟨g,cap,w',H,B,_,C,D,F⟩:=vS (P:=prog) w t o.type base e i _ size c J p N f hby r q v n xs j ⟨k,0,none⟩ 1 1 b (by omega) hn A (by decide) h63 hbytes hbase
  unfold Oper.wp
  simp[execOp,G,resolve,invoke,builtin,I,M,H,Result.andThen]
  exact h g cap w' B C D F
theorem zn{f:Nat->Prop}{a w:World}{g i:Nat}{v:Value}(h:zo f a w)(b:f g):zo f a (w.setCell ⟨g,i,none⟩ v):=h.setCell (p:=⟨g,i,none⟩) (fun _=>b) v
theorem j6{f:Nat->Prop}{a w w':World}(h:zo f a w)(b:Below w.1.size w w'):zo f a w':=h.trans (zo.of_below (f:=f) b) (fun _ _ h=>h)
end Go.Proofs.YtndhpgciopcncaaGreatDoor
