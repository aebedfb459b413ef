import Derived.Test.YtndhpgciopcncaaGreatDoorYOrd4
import Derived.Sort.Grow
import Derived.Sort.Statements
import Derived.Deep.Draws
import Derived.Test.YtndhpgciopcncaaGreatDoorYPcm0
set_option linter.unusedVariables false
namespace Go.Proofs.YtndhpgciopcncaaGreatDoor
open Go.ChangeMaps (setBlock)
open Go.RowKit Go.Maps Go.Shelf
structure zkr(c:Cf)(now:Int)(x:Tsk):Prop where
 t1: -1<=x.s.t
 t2:x.s.t<c.n
 wn:0<=x.s.wn/\x.s.wn<=100000
 si:0<=x.si/\x.si<=now
theorem Qe(x y:Tsk):zdT x y<0↔(x.kd<y.kd\/x.kd=y.kd/\(x.s.t<y.s.t\/x.s.t=y.s.t/\(x.s.se<y.s.se\/x.s.se=y.s.se/\x.s.wn<y.s.wn))):=by
 unfold zdT
 simp only[orL,jk]
 repeat' split
 all_goals omega
def XR(QL:List (Tok×Lse))(x:Tsk):Tok×Int×Int:=match QL.find? (fun p=>decide (p.2.job=x.key))with|some p=>(p.1,p.2.slot,p.2.til)|none=>(⟨0,0⟩,-1,0)
theorem kO{α β:Type}{f:α->β}:∀{l:List α},(l.map f).Nodup->∀x∈l,∀y∈l,f x=f y->x=y
 |[],_,x,d,_,_,_=>by cases d
 |a::l,h,x,d,y,g,e=>by
  rw[List.map_cons,List.nodup_cons]at h
  rcases List.mem_cons.1 d with rfl|c
  ·rcases List.mem_cons.1 g with rfl|b
   ·rfl
   ·exact absurd (List.mem_map.2 ⟨y,b,e.symm⟩) h.1
  ·rcases List.mem_cons.1 g with rfl|b
   ·exact absurd (List.mem_map.2 ⟨x,c,e⟩) h.1
   ·exact kO h.2 x c y b e
theorem zbw{w:World}{g:Nat}(b0 b c d e f h i j l a:Value):zk (fun k=>k=g) w (((((((((((w.setCell ⟨g,0,none⟩ b0).setCell ⟨g,1,none⟩ b).setCell ⟨g,2,none⟩ c).setCell ⟨g,3,none⟩ d).setCell ⟨g,4,none⟩ e).setCell ⟨g,5,none⟩ f).setCell ⟨g,6,none⟩ h).setCell ⟨g,7,none⟩ i).setCell ⟨g,8,none⟩ j).setCell ⟨g,9,none⟩ l).setCell ⟨g,10,none⟩ a):=(zq (zq (zq (zq (zq (zq (zq (zq (zq (zq (zq (zk.refl (fun k=>k=g) w) rfl) rfl) rfl) rfl) rfl) rfl) rfl) rfl) rfl) rfl) rfl)
end Go.Proofs.YtndhpgciopcncaaGreatDoor
