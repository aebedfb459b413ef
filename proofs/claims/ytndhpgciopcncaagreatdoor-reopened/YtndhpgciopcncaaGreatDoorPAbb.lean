import Derived.WalkKit
open Go.Value (int)
open Go.IntKind (i64)
open Go.IntKind (i32)
namespace Go.Proofs.YtndhpgciopcncaaGreatDoor
open Go.RowKit
abbrev I(x:Int):Value:=int i64 x
abbrev U(g i:Nat):Addr:=⟨g,i,none⟩
abbrev O(g:Nat):Value:=.pointer (some ⟨g,0,none⟩)
abbrev Rz(w:World)(v:Value):Ending->World->Prop:=fun e w'=>e=.returned v/\Below w.1.size w w'
abbrev Cz(w:World)(g i:Nat)(v:Value):Prop:=w.cell? ⟨g,i,none⟩=some v
theorem sZz{α:Type _}:(∀l:List α,l.toArray.size=l.length)/\(∀(a:α) (l:List α),(a::l).length=l.length+1)/\(([]:List α).length=0)/\(∀(n:Nat) (a:α),Array.replicate (n+1) a=(Array.replicate n a).push a)/\(∀a:α,Array.replicate 0 a=#[])/\(∀(l:List α) (a:α),l.toArray.push a=(l++[a]).toArray)/\(∀l m:List α,l.toArray++m.toArray=(l++m).toArray)/\(∀l:List α,[]++l=l)/\(∀(a:α) (l m:List α),(a::l)++m=a::(l++m)):=⟨fun _=>List.size_toArray,fun _ _=>List.length_cons,List.length_nil,fun _ _=>Array.replicate_succ,fun _=>Array.replicate_zero,fun _ _=>List.push_toArray ..,fun _ _=>List.append_toArray ..,fun _=>List.nil_append _,fun _ _ _=>List.cons_append⟩
abbrev yH:Obj:=.cells #[I 0,I 0,I 0,I 0,I 0,I 0,I 0,I 0] 37
abbrev Qd:Obj:=.cells #[I 0,I 0,int i32 0,int i32 0] 115
abbrev zak:Obj:=.cells #[I 0,I 0,I 0,I 0,I 0,I 0,int i32 0,int i32 0] 148
abbrev zjY:Obj:=.cells #[I 0,I 0,I 0,I 0,I 0,I 0,I 0,I 0,I 0,I 0,I 0] 51
abbrev zjZ:Obj:=.cells #[I 0,I 0,I 0,I 0,I 0,I 0,.slice none 0 0] 27
abbrev zbY:Obj:=.cells #[I 0,I 0,I 0,I 0] 162
abbrev zoO:Obj:=.cells #[I 2,I (-1),I 1,I 0,I 6,I 0,I 0,I 1,I 2,I 0,I 15] 51
abbrev zds:Obj:=.cells #[.slice none 0 0] 105
abbrev zpH:Obj:=.cells #[I 1,I 0,I 1,I 0,I 6,I 0,I 0,I 1,I 1,I 0,I 15] 51
abbrev zgC:Obj:=.cells #[.bool false] 4
abbrev Vh:Obj:=.cells #[I 0] 3
abbrev Vi:Obj:=.cells #[] 257
abbrev zoN:Obj:=.cells #[I 1,I 7,int i32 7,int i32 7] 115
abbrev zmv:Obj:=.cells #[.slice none 0 0] 186
end Go.Proofs.YtndhpgciopcncaaGreatDoor
