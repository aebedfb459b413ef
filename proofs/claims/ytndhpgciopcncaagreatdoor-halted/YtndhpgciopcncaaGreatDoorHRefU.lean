import Derived.Test.YtndhpgciopcncaaGreatDoorHRefT
set_option linter.unusedVariables false
namespace Go.Proofs.YtndhpgciopcncaaGreatDoor
open Go.RowKit
variable {i:Nat}
def RM.freeT(m:RM)(x:Tk):Bool:=decide (x.slot<0)&&decide (x.rest<=m.now)
def RM.betterI(m:RM)(b:Option Nat)(i:Nat):Option Nat:=match m.td[i]? with
 |none=>b
 |some x=>if m.freeT x=true then match b with
  |none=>some i
  |some j=>match m.td[j]? with
   |none=>b
   |some y=>if m.aheadB m.tight x y=true then some i else b
  else b
def RM.bestI(m:RM)(k:Nat):Option Nat:=(List.range k).foldl m.betterI none
theorem Qs(m:RM)(k:Nat):m.bestI (k+1)=m.betterI (m.bestI k) k:=by
 unfold RM.bestI;rw[List.range_succ,List.foldl_append];rfl
variable {m:RM} {x:Tk}
theorem zhy{b:Option Nat}(h:m.td[i]?=some x)(a:m.freeT x=false):m.betterI b i=b:=by
 unfold RM.betterI;rw[h];simp[a]
theorem QS(h:m.td[i]?=some x)(a:m.freeT x=true):m.betterI none i=some i:=by
 unfold RM.betterI;rw[h];simp[a]
theorem zfo{j:Nat}{y:Tk}(h:m.td[i]?=some x)(a:m.freeT x=true)(b:m.td[j]?=some y):m.betterI (some j) i=if m.aheadB m.tight x y=true then some i else some j:=by
 unfold RM.betterI;rw[h];simp[a,b]
theorem Yv(m:RM):∀(k:Nat) {j:Nat},m.bestI k=some j->j<k/\∃x,m.td[j]?=some x/\m.freeT x=true
 |0,j,h=>by simp[RM.bestI]at h
 |k+1,j,h=>by
  rw[Qs]at h;have c:=fun{j}=>Yv m k (j:=j);unfold RM.betterI at h;split at h
  ·obtain⟨a,b⟩:=c h;exact⟨by omega,b⟩
  ·rename_i x hx;split at h
   ·rename_i hf;split at h
    ·cases h;exact⟨by omega,x,hx,hf⟩
    ·rename_i j' hj';split at h
     ·obtain⟨a,b⟩:=c h;exact⟨by omega,b⟩
     ·split at h
      ·cases h;exact⟨by omega,x,hx,hf⟩
      ·obtain⟨a,b⟩:=c h;exact⟨by omega,b⟩
   ·obtain⟨a,b⟩:=c h;exact⟨by omega,b⟩
def Tk.leased(ep num slot till:Int)(x:Tk):Tk:={x with ep:=ep,num:=num,slot:=slot,till:=till}
def zpu:Tk:=⟨0,⟨0,0,0⟩,0,0,0,0,0,0,0⟩
def RM.pick(m:RM)(slot:Int):RM×Tk×Int:=if slot<0\/m.c.s<=slot then(m,zpu,6)else if m.td.any (fun x=>x.slot==slot)=true then(m,zpu,6)else match m.bestI m.td.length with
 |none=>(m,zpu,7)
 |some j=>({m with picks:=m.picks+1,td:=m.td.modify j (Tk.leased m.epoch (m.picks+1) slot (m.now+m.c.le))},Tk.leased m.epoch (m.picks+1) slot (m.now+m.c.le) ((m.td[j]?).getD zpu),0)
end Go.Proofs.YtndhpgciopcncaaGreatDoor
