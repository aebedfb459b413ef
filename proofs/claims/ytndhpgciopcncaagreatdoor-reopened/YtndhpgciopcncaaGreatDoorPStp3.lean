import Derived.Test.YtndhpgciopcncaaGreatDoorPStp2
import Derived.StillTactics
set_option linter.unusedVariables false
namespace Go.Proofs.YtndhpgciopcncaaGreatDoor
open Go.RowKit Go.Maps Go.Shelf
def J2(w:World)(B p:Nat)(c:Cf)(ep:Int)(m:MS)(ns:List Nm)(j k:Nat):Prop:=∃s:Shp,s.p=p/\zV w B s c ep m m.now ns (Zn ep k) (yK ep m.QL k)/\m.num=k/\SOk c ep m ns.length/\k<=j/\ns.length<=j
theorem J2.size{w:World}{B p:Nat}{c:Cf}{ep:Int}{m:MS}{ns:List Nm}{j k:Nat}(h:J2 w B p c ep m ns j k):B<=w.1.size:=by
 obtain⟨s,rfl,a,_⟩:=h
 have:=a.lo;have:=a.lt;omega
theorem Xu(X:World)(g i:Nat)(v:Value):(X.setCell (U g i) v).drew.1.size=X.1.size:=by
 have h:(X.setCell (U g i) v).1.size=X.1.size:=by simp[World.setCell]
 exact h
theorem Qn{X:World}{g i k:Nat}{v:Value}(h:¬k=g):(X.setCell (U g i) v).drew.1[k]?=X.1[k]?:=zI (w:=X) h
theorem YH{X:World}{g i k j:Nat}{v:Value}(h:¬k=g):(X.setCell (U g i) v).drew.cell? (U k j)=X.cell? (U k j):=World.cell?_of_block (a:=(U k j)) (Qn h)
end Go.Proofs.YtndhpgciopcncaaGreatDoor
