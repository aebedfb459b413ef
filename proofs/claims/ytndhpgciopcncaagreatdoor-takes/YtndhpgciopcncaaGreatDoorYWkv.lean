import Derived.Test.YtndhpgciopcncaaGreatDoorYWkt
import Derived.Deep.WholeRow
open Option renaming none → I
open Option renaming some → J
set_option linter.unusedVariables false
set_option maxRecDepth 8000
set_option maxHeartbeats 4000000
namespace Go.Proofs.YtndhpgciopcncaaGreatDoor
open Go.RowKit
theorem Tryz.infoRefP:(Tryz.prog.info? 138).map (fun i=>(i.zero,i.size,i.bytes))=J (J (.pointer I),1,8):=by kernel_rfl
theorem heap_second(w:World)(o a:Obj):((w.alloc o).alloc a).1[w.1.size+1]?=J a:=(box2 w o a).2.1
theorem JA{w:World}{n x d r q f:Nat}{c:Cf}{ct N:Value}{ep:Int}(t:w.1[n]?=J (zD x d c ct (.slice (J ⟨q,0,I⟩) 1 f) N ep))(K:w.cell? ⟨q,0,I⟩=J (.pointer (J ⟨r,0,I⟩)))(F:q<w.1.size):
  Calls Tryz.prog 143 #[.pointer (J ⟨n,0,I⟩)] w fun e w'=>∃g cap,e=.returned (.slice (J ⟨g,0,I⟩) 1 cap)/\w'.ownsRow 0 138 1 (.slice (J ⟨g,0,I⟩) 1 cap) 1 [.pointer (J ⟨r,0,I⟩)]/\Below w.1.size w w':=by
 have D:=zb t
 have M:w.cell? ⟨n,9,I⟩=J (.slice (J ⟨q,0,I⟩) 1 f):=by have h:=t;unfold zD at h;rw[xd h];rfl
 have A:0<1:=by decide
 have B:0+1<=maxLen:=by simp[maxLen]
 have C:(0+1)*8<=140737488355328:=by omega
 have H:=zd t
 clear t
 go_enter Tryz.func143,Tryz.ntmps143
 go_wp2_with fail
 refine wp_loop_rounds 2 ?_
 rw[rounds_succ]
 go_wp2_with(first|(at_builtin;refine zJ rfl _ _ 135 rfl 0 138 _ 1 8 Tryz.underlying135 Tryz.infoRefP rfl (by decide) (.slice I 0 0) 0 [] rfl (World.ownsRow_nil _ _ _ _) ⟨w.1.size,0,I⟩ 1 1 [.pointer (J ⟨r,0,I⟩)] rfl rfl (World.news_of_block (cs:=#[.pointer (J ⟨r,0,I⟩)]) (zr w _)) (by intro u G;simp at G;subst G;rfl) A B C (Nat.zero_le _) ?_;intro g o s b l a p E;have z:=zd b;have y:=zd a;clear b l a p)|go_in)
 have i:Below w.1.size w (w.alloc (.cells #[.pointer (J ⟨r,0,I⟩)] 138)):=(Below.refl _ _).alloc (Nat.le_refl _) _
 have j:Below w.1.size w s:=i.grown (show(w.alloc (.cells #[.pointer (J ⟨r,0,I⟩)] 138)).grownBy s I from ud y) i.size (fun k e=>by cases e)
 have m:=(j.block n D).trans (ud H)
 have O:s.cell? ⟨n,9,I⟩=J (.slice (J ⟨q,0,I⟩) 1 f):=by have h:=m;unfold zD at h;rw[xd h];rfl
 have L:s.cell? ⟨n,10,I⟩=J (.slice I 0 0):=by have h:=m;unfold zD at h;rw[xd h];rfl
 have v:=zd j
 clear i j m M
 refine wp_loop_rounds 1 ?_
 rw[rounds_succ]
 go_wp2_with fail
 rw[rounds_succ]
 go_wp2_with fail
 go_ret
 exact⟨g,o,rfl,ud z,ud v⟩
end Go.Proofs.YtndhpgciopcncaaGreatDoor
