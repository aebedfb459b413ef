import Derived.WalkKit
open Go.Value (int)
open Go.IntKind (i64)
open Go.IntKind (i32)
namespace Go.Proofs.YtndhpgciopcncaaGreatDoor
open Go.RowKit
abbrev I(x:Int):Value:=int i64 x
abbrev U(g i:Nat):Addr:=⟨g,i,none⟩
abbrev O(g:Nat):Value:=.pointer (some ⟨g,0,none⟩)
abbrev Rz(w:World)(v:Value):Ending->World->Prop:=fun e w'=>e=.returned v/\Below w.1.size w w'
abbrev Cz(w:World)(g i:Nat)(v:Value):Prop:=w.cell? ⟨g,i,none⟩=some v
theorem sZz{α:Type _}:(∀l:List α,l.toArray.size=l.length)/\(∀(a:α) (l:List α),(a::l).length=l.length+1)/\(([]:List α).length=0)/\(∀(n:Nat) (a:α),Array.replicate (n+1) a=(Array.replicate n a).push a)/\(∀a:α,Array.replicate 0 a=#[])/\(∀(l:List α) (a:α),l.toArray.push a=(l++[a]).toArray)/\(∀l m:List α,l.toArray++m.toArray=(l++m).toArray)/\(∀l:List α,[]++l=l)/\(∀(a:α) (l m:List α),(a::l)++m=a::(l++m)):=⟨fun _=>List.size_toArray,fun _ _=>List.length_cons,List.length_nil,fun _ _=>Array.replicate_succ,fun _=>Array.replicate_zero,fun _ _=>List.push_toArray ..,fun _ _=>List.append_toArray ..,fun _=>List.nil_append _,fun _ _ _=>List.cons_append⟩
abbrev yP:Obj:=.cells #[I 0,I 0,I 0,I 0,I 0,I 0,I 0,I 0] 37
abbrev Qn:Obj:=.cells #[I 0,I 0,int i32 0,int i32 0] 115
abbrev zaI:Obj:=.cells #[I 0,I 0,I 0,I 0,I 0,I 0,int i32 0,int i32 0] 148
abbrev zkj:Obj:=.cells #[I 0,I 0,I 0,I 0,I 0,I 0,I 0,I 0,I 0,I 0,I 0] 51
abbrev zkk:Obj:=.cells #[I 0,I 0,I 0,I 0,I 0,I 0,.slice none 0 0] 27
abbrev zcD:Obj:=.cells #[I 0,I 0,I 0,I 0] 162
abbrev zpo:Obj:=.cells #[I 2,I (-1),I 1,I 0,I 6,I 0,I 0,I 1,I 2,I 0,I 15] 51
abbrev zdS:Obj:=.cells #[.slice none 0 0] 105
abbrev zqo:Obj:=.cells #[I 1,I 0,I 1,I 0,I 6,I 0,I 0,I 1,I 1,I 0,I 15] 51
abbrev zgT:Obj:=.cells #[.bool false] 4
abbrev Vy:Obj:=.cells #[I 0] 3
abbrev zmD:Obj:=.cells #[I 0,I 0,I 0,int i32 0] 33
abbrev Vz:Obj:=.cells #[] 257
abbrev zpn:Obj:=.cells #[I 1,I 7,int i32 7,int i32 7] 115
abbrev zmE:Obj:=.cells #[.slice none 0 0] 186
end Go.Proofs.YtndhpgciopcncaaGreatDoor
