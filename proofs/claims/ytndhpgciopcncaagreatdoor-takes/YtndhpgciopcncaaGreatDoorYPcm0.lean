import Derived.Test.YtndhpgciopcncaaGreatDoorYBrd2
open Option renaming none → I
set_option linter.unusedVariables false
namespace Go.Proofs.YtndhpgciopcncaaGreatDoor
open Go.ChangeMaps (setBlock)
open Go.RowKit Go.Maps Go.Shelf
def Zh(c:Cf)(m:MS):Prop:=∃a:List (Sg×Unit),(∀x,x∈zo a↔∃k,k∈zl m.L/\(stL m.L k).st=2/\x∈yD c k)/\(∀s,s∈zl m.L->kJ c a m.L m.now s=true->(⟨1,s⟩:Jk)∈zo m.TL)/\(∀s,s∈zl m.L->kI c m.L m.now s=true->(⟨2,s⟩:Jk)∈zo m.TL)
theorem Kd{now:Int}:∀(c:List Sg) {T:List (Jk×Tsk)},(∀k,k∈zo T->k∈zo (c.foldl (qH now) T))/\∀s∈c,(⟨1,s⟩:Jk)∈zo (c.foldl (qH now) T)
 |[],T=>⟨fun _ h=>h,fun s b=>by cases b⟩
 |y::c,T=>by
  have d:∀k,k∈zo T\/k=⟨1,y⟩->k∈zo (qH now T y):=fun k a=>by
   unfold qH
   split
   ·rename_i x hx
    rcases a with a|rfl
    ·exact a
    ·exact List.mem_map.2 ⟨_,zA hx,rfl⟩
   ·exact xg.2 a
  obtain⟨e,f⟩:=Kd c (T:=qH now T y)
  refine⟨fun k a=>e k (d k (.inl a)),fun s b=>?_⟩
  rcases List.mem_cons.1 b with rfl|b
  ·exact e _ (d _ (.inr rfl))
  ·exact f s b
theorem Xj{now:Int}:∀(c:List Sg) {T:List (Jk×Tsk)},(∀k,k∈zo T->k∈zo (c.foldl (yd now) T))/\∀s∈c,(⟨2,s⟩:Jk)∈zo (c.foldl (yd now) T)
 |[],T=>⟨fun _ h=>h,fun s b=>by cases b⟩
 |y::c,T=>by
  have d:∀k,k∈zo T\/k=⟨2,y⟩->k∈zo (yd now T y):=fun k a=>by
   unfold yd
   split
   ·rename_i x hx
    rcases a with a|rfl
    ·exact a
    ·exact List.mem_map.2 ⟨_,zA hx,rfl⟩
   ·exact xg.2 a
  obtain⟨e,f⟩:=Xj c (T:=yd now T y)
  refine⟨fun k a=>e k (d k (.inl a)),fun s b=>?_⟩
  rcases List.mem_cons.1 b with rfl|b
  ·exact e _ (d _ (.inr rfl))
  ·exact f s b
section
variable {c:Cf} {ep:Int} {m:MS} {ns:List Nm}
theorem Zh.of{a:List (Jk×Tsk)}(k:qD c m a):Zh c {m with TL:=a}:=by
 obtain⟨g,f,b,j,h,i,rfl⟩:=k.to
 exact⟨g,j,fun s e d=>(Xj b).1 _ ((Kd f).2 s ((h s).2 ⟨e,d⟩)),fun s e d=>(Xj b).2 s ((i s).2 ⟨e,d⟩)⟩
end
theorem zhh{w:World}{g:Nat}{a0 v s a3 a4 a5 q p n a9 a:Value}{t:TypeId}{k:Nat×Nat}(h:w.1[g]?=some (.cells #[a0,v,s,a3,a4,a5,q,p,n,a9,a] t k))(b0 b c d e f j m o r l:Value):(((((((((((w.setCell ⟨g,0,I⟩ b0).setCell ⟨g,1,I⟩ b).setCell ⟨g,2,I⟩ c).setCell ⟨g,3,I⟩ d).setCell ⟨g,4,I⟩ e).setCell ⟨g,5,I⟩ f).setCell ⟨g,6,I⟩ j).setCell ⟨g,7,I⟩ m).setCell ⟨g,8,I⟩ o).setCell ⟨g,9,I⟩ r).setCell ⟨g,10,I⟩ l).1[g]?=some (.cells #[b0,b,c,d,e,f,j,m,o,r,l] t k):=by
 have x:(w.setCell ⟨g,0,I⟩ b0).1[g]?=some (.cells #[b0,v,s,a3,a4,a5,q,p,n,a9,a] t k):=xi (i:=0) h b0
 have y:((w.setCell ⟨g,0,I⟩ b0).setCell ⟨g,1,I⟩ b).1[g]?=some (.cells #[b0,b,s,a3,a4,a5,q,p,n,a9,a] t k):=xi (i:=1) x b
 have z:(((w.setCell ⟨g,0,I⟩ b0).setCell ⟨g,1,I⟩ b).setCell ⟨g,2,I⟩ c).1[g]?=some (.cells #[b0,b,c,a3,a4,a5,q,p,n,a9,a] t k):=xi (i:=2) y c
 have A:((((w.setCell ⟨g,0,I⟩ b0).setCell ⟨g,1,I⟩ b).setCell ⟨g,2,I⟩ c).setCell ⟨g,3,I⟩ d).1[g]?=some (.cells #[b0,b,c,d,a4,a5,q,p,n,a9,a] t k):=xi (i:=3) z d
 have B:(((((w.setCell ⟨g,0,I⟩ b0).setCell ⟨g,1,I⟩ b).setCell ⟨g,2,I⟩ c).setCell ⟨g,3,I⟩ d).setCell ⟨g,4,I⟩ e).1[g]?=some (.cells #[b0,b,c,d,e,a5,q,p,n,a9,a] t k):=xi (i:=4) A e
 have C:((((((w.setCell ⟨g,0,I⟩ b0).setCell ⟨g,1,I⟩ b).setCell ⟨g,2,I⟩ c).setCell ⟨g,3,I⟩ d).setCell ⟨g,4,I⟩ e).setCell ⟨g,5,I⟩ f).1[g]?=some (.cells #[b0,b,c,d,e,f,q,p,n,a9,a] t k):=xi (i:=5) B f
 have D:(((((((w.setCell ⟨g,0,I⟩ b0).setCell ⟨g,1,I⟩ b).setCell ⟨g,2,I⟩ c).setCell ⟨g,3,I⟩ d).setCell ⟨g,4,I⟩ e).setCell ⟨g,5,I⟩ f).setCell ⟨g,6,I⟩ j).1[g]?=some (.cells #[b0,b,c,d,e,f,j,p,n,a9,a] t k):=xi (i:=6) C j
 have E:((((((((w.setCell ⟨g,0,I⟩ b0).setCell ⟨g,1,I⟩ b).setCell ⟨g,2,I⟩ c).setCell ⟨g,3,I⟩ d).setCell ⟨g,4,I⟩ e).setCell ⟨g,5,I⟩ f).setCell ⟨g,6,I⟩ j).setCell ⟨g,7,I⟩ m).1[g]?=some (.cells #[b0,b,c,d,e,f,j,m,n,a9,a] t k):=xi (i:=7) D m
 have F:(((((((((w.setCell ⟨g,0,I⟩ b0).setCell ⟨g,1,I⟩ b).setCell ⟨g,2,I⟩ c).setCell ⟨g,3,I⟩ d).setCell ⟨g,4,I⟩ e).setCell ⟨g,5,I⟩ f).setCell ⟨g,6,I⟩ j).setCell ⟨g,7,I⟩ m).setCell ⟨g,8,I⟩ o).1[g]?=some (.cells #[b0,b,c,d,e,f,j,m,o,a9,a] t k):=xi (i:=8) E o
 have G:((((((((((w.setCell ⟨g,0,I⟩ b0).setCell ⟨g,1,I⟩ b).setCell ⟨g,2,I⟩ c).setCell ⟨g,3,I⟩ d).setCell ⟨g,4,I⟩ e).setCell ⟨g,5,I⟩ f).setCell ⟨g,6,I⟩ j).setCell ⟨g,7,I⟩ m).setCell ⟨g,8,I⟩ o).setCell ⟨g,9,I⟩ r).1[g]?=some (.cells #[b0,b,c,d,e,f,j,m,o,r,a] t k):=xi (i:=9) F r
 have u:(((((((((((w.setCell ⟨g,0,I⟩ b0).setCell ⟨g,1,I⟩ b).setCell ⟨g,2,I⟩ c).setCell ⟨g,3,I⟩ d).setCell ⟨g,4,I⟩ e).setCell ⟨g,5,I⟩ f).setCell ⟨g,6,I⟩ j).setCell ⟨g,7,I⟩ m).setCell ⟨g,8,I⟩ o).setCell ⟨g,9,I⟩ r).setCell ⟨g,10,I⟩ l).1[g]?=some (.cells #[b0,b,c,d,e,f,j,m,o,r,l] t k):=xi (i:=10) G l
 exact u
end Go.Proofs.YtndhpgciopcncaaGreatDoor
