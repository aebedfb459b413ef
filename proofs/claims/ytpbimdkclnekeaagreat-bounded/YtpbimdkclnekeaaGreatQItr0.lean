import Derived.Test.YtpbimdkclnekeaaGreatQKits0
import Derived.Test.YtpbimdkclnekeaaGreatQSum0

namespace Go.Proofs.YtpbimdkclnekeaaGreat
open Go.RowKit Go.Maps Go.Shelf
open Go.ChangeMaps (setBlock)
set_option linter.unusedVariables false

noncomputable def liveM : MK Sg SV := { P := Tryz.prog, T := 135, K := 137, E := 131, ke := sgVal, ve := svVal, wf := Sg.wf, z := svVal ⟨0, noCl⟩ }
theorem live_ok : liveM.Ok := ⟨keyLaw, Tryz.underlying135, fun a h => sg_key h, fun a b h => sg_inj h, fun w => by kernel_rfl⟩
theorem live_map {w : World} {b : Nat} {L : LV} : LiveAt w b L ↔ MapAt liveM w b L :=
  ⟨fun ⟨es, cl, h, e⟩ => ⟨es, cl, h, ⟨e.kv, e.born, e.once, e.wf, e.nodup, e.size⟩⟩, fun ⟨es, cl, h, e⟩ => ⟨es, cl, h, ⟨e.kv, e.born, e.once, e.wf, e.nodup, e.size⟩⟩⟩

section
variable {α β : Type} [Inhabited α] [Inhabited β] {M : MK α β}
/-- the pair that an entry stands for. -/
noncomputable def decE (M : MK α β) (L : List (α × β)) (e : MapEntry) : α × β := by
  classical exact if h : ∃ p ∈ L, e.key = M.ke p.1 ∧ e.val = M.ve p.2 then h.choose else default
theorem dec_eq (ok : M.Ok) {L : List (α × β)} (hn : (keysM L).Nodup) {e : MapEntry} {p : α × β} (hp : p ∈ L) (h1 : e.key = M.ke p.1) (h2 : e.val = M.ve p.2) : decE M L e = p := by
  unfold decE
  have h : ∃ p ∈ L, e.key = M.ke p.1 ∧ e.val = M.ve p.2 := ⟨p, hp, h1, h2⟩
  rw [dif_pos h]
  obtain ⟨hm, hk, _⟩ := h.choose_spec
  have e1 : h.choose.1 = p.1 := ok.inj _ _ (hk.symm.trans h1)
  have hpw : L.Pairwise (fun a b => a.1 ≠ b.1) := List.pairwise_map.1 hn
  obtain ⟨i, hi, ei⟩ := List.getElem_of_mem hm
  obtain ⟨j, hj, ej⟩ := List.getElem_of_mem hp
  rcases Nat.lt_trichotomy i j with h3 | h3 | h3
  · have := List.pairwise_iff_getElem.1 hpw i j hi hj h3; rw [ei, ej] at this; exact absurd e1 this
  · subst h3; rw [← ei, ej]
  · have := List.pairwise_iff_getElem.1 hpw j i hj hi h3; rw [ei, ej] at this; exact absurd e1.symm this
theorem dec_at (ok : M.Ok) {es : Array MapEntry} {clock : Nat} {L : List (α × β)} (he : MEnts M es clock L) {e : MapEntry} (h : e ∈ es.toList) : decE M L e ∈ L ∧ e.key = M.ke (decE M L e).1 ∧ e.val = M.ve (decE M L e).2 := by
  obtain ⟨i, hi⟩ := List.mem_iff_getElem?.1 h
  obtain ⟨p, hp, h1, h2⟩ := he.at hi
  have hpm := List.mem_of_getElem? hp
  rw [dec_eq ok he.nodup hpm h1 h2]
  exact ⟨hpm, h1, h2⟩
theorem dec_map (ok : M.Ok) {es : Array MapEntry} {clock : Nat} {L : List (α × β)} (he : MEnts M es clock L) : es.toList.map (decE M L) = L := by
  apply List.ext_getElem?
  intro i
  rw [List.getElem?_map]
  cases h : es.toList[i]? with
  | none =>
    have h1 : es.toList.length ≤ i := List.getElem?_eq_none_iff.1 h
    have h2 := he.count
    rw [List.getElem?_eq_none (by simp at h1; omega)]; rfl
  | some e =>
    obtain ⟨p, hp, h1, h2⟩ := he.at h
    rw [hp, Option.map_some, dec_eq ok he.nodup (List.mem_of_getElem? hp) h1 h2]
theorem dec_perm (ok : M.Ok) {es : Array MapEntry} {clock : Nat} {L : List (α × β)} (he : MEnts M es clock L) {ps : List MapEntry} (hp : ps.Perm es.toList) : (ps.map (decE M L)).Perm L := by
  have := hp.map (decE M L)
  rwa [dec_map ok he] at this
end
instance : Inhabited SV := ⟨⟨0, noCl⟩⟩
instance : Inhabited Lse := ⟨⟨0, ⟨0, 0, 0⟩, 0, 0⟩⟩
instance : Inhabited Tsk := ⟨⟨true, ⟨0, 0, 0⟩, 0, 0, 0⟩⟩
instance : Inhabited Jk := ⟨⟨0, ⟨0, 0, 0⟩⟩⟩
instance : Inhabited Tok := ⟨⟨0, 0⟩⟩
instance : Inhabited Sg := ⟨⟨0, 0, 0⟩⟩
end Go.Proofs.YtpbimdkclnekeaaGreat
