import PyProof.Rows.All
import Wide.All
import OpenK.AllK
import Wide.FinOn
import HandS.ForMost
import HandS.ForExc
import HandS.IsInst
import HandS.EndBits
import HandS.ExcIs
import HandS.WideBits
import PySem.Challenge.RW_phasor_k07_scaled_arithmetic
set_option Elab.async false
set_option linter.all false
set_option maxRecDepth 100000
namespace Mini
open PySem PySem.Spec PyProof.Rows L2

/-- a value as data: w tells that the node is owned (it may be written), otherwise it is never written again -/
inductive O where
  | non | bl (b : Bool) | int (i : Int) | str (s : Str)
  | tup (os : List O)
  | lst (w : Bool) (os : List O)
  | dct (w : Bool) (ks : List Key) (os : List O)
  | ins (w : Bool) (c : Nat) (ns : List Str) (os : List O)
  | exc (a : Addr)

mutual
def frz : O → O
  | .tup os => .tup (frzs os)
  | .lst _ os => .lst false (frzs os)
  | .dct _ ks os => .dct false ks (frzs os)
  | .ins _ c ns os => .ins false c ns (frzs os)
  | .non => .non
  | .bl b => .bl b
  | .int i => .int i
  | .str s => .str s
  | .exc a => .exc a
def frzs : List O → List O
  | [] => []
  | o :: os => frz o :: frzs os
end
mutual
def isFz : O → Bool
  | .tup os => isFzs os
  | .lst w os => !w && isFzs os
  | .dct w _ os => !w && isFzs os
  | .ins w _ _ os => !w && isFzs os
  | .non => true
  | .bl _ => true
  | .int _ => true
  | .str _ => true
  | .exc _ => true
def isFzs : List O → Bool
  | [] => true
  | o :: os => isFz o && isFzs os
end
/-! no node that is never written again but might be the caller's -/
mutual
def noFm : O → Bool
  | .tup os => noFms os
  | .lst w os => w && noFms os
  | .dct w _ os => w && noFms os
  | .ins w _ _ os => w && noFms os
  | .non => true
  | .bl _ => true
  | .int _ => true
  | .str _ => true
  | .exc _ => true
def noFms : List O → Bool
  | [] => true
  | o :: os => noFm o && noFms os
end

abbrev Fp := Addr → Nat
def zf : Fp := fun _ => 0
def bump (a : Addr) (f : Fp) : Fp := fun b => (if b = a then 1 else 0) + f b

mutual
def Rep (K : PySem.W.Frag) (ct : Nat → Addr) (F H : Hp) : O → V → Fp → Prop
  | .non, v, f => v = .non ∧ f = zf
  | .bl b, v, f => v = .bl b ∧ f = zf
  | .int i, v, f => v = .int i ∧ f = zf
  | .str s, v, f => v = .str s ∧ f = zf
  | .exc a, v, f => v = .ref a ∧ f = zf
  | .tup os, v, f => ∃ a xs, v = .ref a ∧ SqT K F a xs ∧ Reps K ct F H os xs f
  | .lst false os, v, f => ∃ a xs, v = .ref a ∧ SqL K F a xs ∧ Reps K ct F H os xs zf ∧ f = zf
  | .lst true os, v, f => ∃ a xs g, v = .ref a ∧ H a = some (.lst xs) ∧ Reps K ct F H os xs g ∧ f = bump a g
  | .dct false ks os, v, f => ∃ a kvs, v = .ref a ∧ F a = some (.dK kvs) ∧ ks = kvs.map (·.1) ∧ Reps K ct F H os (kvs.map (·.2)) zf ∧ f = zf
  | .dct true ks os, v, f => ∃ a kvs g, v = .ref a ∧ H a = some (.dK kvs) ∧ ks = kvs.map (·.1) ∧ Reps K ct F H os (kvs.map (·.2)) g ∧ f = bump a g
  | .ins false c ns os, v, f => ∃ a dx fs, v = .ref a ∧ F a = some (.ins (ct c) dx fs) ∧ ns = fs.map (·.1) ∧ Reps K ct F H os (fs.map (·.2)) zf ∧ f = zf
  | .ins true c ns os, v, f => ∃ a dx fs g, v = .ref a ∧ H a = some (.ins (ct c) dx fs) ∧ ns = fs.map (·.1) ∧ Reps K ct F H os (fs.map (·.2)) g ∧ f = bump a g
def Reps (K : PySem.W.Frag) (ct : Nat → Addr) (F H : Hp) : List O → List V → Fp → Prop
  | [], vs, f => vs = [] ∧ f = zf
  | o :: os, vs, f => ∃ v vr g h, vs = v :: vr ∧ Rep K ct F H o v g ∧ Reps K ct F H os vr h ∧ f = fun a => g a + h a
end

/-- an owned node -/
def Own (u : HO) : Prop := match u with
  | .lst _ => True
  | .dK _ => True
  | .ins _ _ _ => True
  | _ => False

section
variable {K : PySem.W.Frag} {ct : Nat → Addr} {F F' H H' : Hp}
theorem Same.seqT (e : Same H H') {a : Addr} {xs : List V} (h : SqT K H a xs) : SqT K H' a xs := by
  rcases h with (h | ⟨o, h⟩) | h
  · exact .inl (.inl (e _ _ h))
  · exact .inl (.inr ⟨o, e _ _ h⟩)
  · exact .inr h
mutual
theorem Rep.mono (hF : Same F F') : ∀ {o : O} {v : V} {f : Fp}, (∀ a, f a ≠ 0 → H' a = H a) → Rep K ct F H o v f → Rep K ct F' H' o v f
  | .non, _, _, _, h => h
  | .bl _, _, _, _, h => h
  | .int _, _, _, _, h => h
  | .str _, _, _, _, h => h
  | .exc _, _, _, _, h => h
  | .tup os, v, f, k, h => by
    obtain ⟨a, xs, e, s, r⟩ := h
    exact ⟨a, xs, e, Same.seqT hF s, Reps.mono hF k r⟩
  | .lst false os, v, f, k, h => by
    obtain ⟨a, xs, e, s, r, ef⟩ := h
    exact ⟨a, xs, e, Same.seq hF s, Reps.mono hF (fun b hb => absurd rfl hb) r, ef⟩
  | .lst true os, v, f, k, h => by
    obtain ⟨a, xs, g, e, s, r, ef⟩ := h
    refine ⟨a, xs, g, e, ?_, Reps.mono hF (fun b hb => k b ?_) r, ef⟩
    · rw [k a (by rw [ef]; simp [bump])]; exact s
    · rw [ef]; show (if b = a then 1 else 0) + g b ≠ 0; omega
  | .dct false ks os, v, f, k, h => by
    obtain ⟨a, kvs, e, s, ek, r, ef⟩ := h
    exact ⟨a, kvs, e, hF _ _ s, ek, Reps.mono hF (fun b hb => absurd rfl hb) r, ef⟩
  | .dct true ks os, v, f, k, h => by
    obtain ⟨a, kvs, g, e, s, ek, r, ef⟩ := h
    refine ⟨a, kvs, g, e, ?_, ek, Reps.mono hF (fun b hb => k b ?_) r, ef⟩
    · rw [k a (by rw [ef]; simp [bump])]; exact s
    · rw [ef]; show (if b = a then 1 else 0) + g b ≠ 0; omega
  | .ins false c ns os, v, f, k, h => by
    obtain ⟨a, dx, fs, e, s, ek, r, ef⟩ := h
    exact ⟨a, dx, fs, e, hF _ _ s, ek, Reps.mono hF (fun b hb => absurd rfl hb) r, ef⟩
  | .ins true c ns os, v, f, k, h => by
    obtain ⟨a, dx, fs, g, e, s, ek, r, ef⟩ := h
    refine ⟨a, dx, fs, g, e, ?_, ek, Reps.mono hF (fun b hb => k b ?_) r, ef⟩
    · rw [k a (by rw [ef]; simp [bump])]; exact s
    · rw [ef]; show (if b = a then 1 else 0) + g b ≠ 0; omega
theorem Reps.mono (hF : Same F F') : ∀ {os : List O} {vs : List V} {f : Fp}, (∀ a, f a ≠ 0 → H' a = H a) → Reps K ct F H os vs f → Reps K ct F' H' os vs f
  | [], _, _, _, h => h
  | o :: os, vs, f, k, h => by
    obtain ⟨v, vr, g, l, e, r, rs, ef⟩ := h
    refine ⟨v, vr, g, l, e, Rep.mono hF (fun b hb => k b ?_) r, Reps.mono hF (fun b hb => k b ?_) rs, ef⟩
    · rw [ef]; show g b + l b ≠ 0; omega
    · rw [ef]; show g b + l b ≠ 0; omega
end
mutual
theorem Rep.mem : ∀ {o : O} {v : V} {f : Fp}, Rep K ct F H o v f → ∀ a, f a ≠ 0 → ∃ u, H a = some u ∧ Own u
  | .non, _, _, h, a, ha => absurd (by rw [h.2]; rfl) ha
  | .bl _, _, _, h, a, ha => absurd (by rw [h.2]; rfl) ha
  | .int _, _, _, h, a, ha => absurd (by rw [h.2]; rfl) ha
  | .str _, _, _, h, a, ha => absurd (by rw [h.2]; rfl) ha
  | .exc _, _, _, h, a, ha => absurd (by rw [h.2]; rfl) ha
  | .tup os, v, f, h, a, ha => by
    obtain ⟨a', xs, e, s, r⟩ := h
    exact Reps.mem r a ha
  | .lst false os, v, f, h, a, ha => by
    obtain ⟨a', xs, e, s, r, ef⟩ := h
    exact absurd (by rw [ef]; rfl) ha
  | .lst true os, v, f, h, a, ha => by
    obtain ⟨a', xs, g, e, s, r, ef⟩ := h
    by_cases q : a = a'
    · subst q; exact ⟨_, s, True.intro⟩
    · refine Reps.mem r a ?_
      rw [ef] at ha
      simpa [bump, q] using ha
  | .dct false ks os, v, f, h, a, ha => by
    obtain ⟨a', kvs, e, s, ek, r, ef⟩ := h
    exact absurd (by rw [ef]; rfl) ha
  | .dct true ks os, v, f, h, a, ha => by
    obtain ⟨a', kvs, g, e, s, ek, r, ef⟩ := h
    by_cases q : a = a'
    · subst q; exact ⟨_, s, True.intro⟩
    · refine Reps.mem r a ?_
      rw [ef] at ha
      simpa [bump, q] using ha
  | .ins false c ns os, v, f, h, a, ha => by
    obtain ⟨a', dx, fs, e, s, ek, r, ef⟩ := h
    exact absurd (by rw [ef]; rfl) ha
  | .ins true c ns os, v, f, h, a, ha => by
    obtain ⟨a', dx, fs, g, e, s, ek, r, ef⟩ := h
    by_cases q : a = a'
    · subst q; exact ⟨_, s, True.intro⟩
    · refine Reps.mem r a ?_
      rw [ef] at ha
      simpa [bump, q] using ha
theorem Reps.mem : ∀ {os : List O} {vs : List V} {f : Fp}, Reps K ct F H os vs f → ∀ a, f a ≠ 0 → ∃ u, H a = some u ∧ Own u
  | [], _, _, h, a, ha => absurd (by rw [h.2]; rfl) ha
  | o :: os, vs, f, h, a, ha => by
    obtain ⟨v, vr, g, l, e, r, rs, ef⟩ := h
    by_cases q : g a = 0
    · refine Reps.mem rs a ?_
      rw [ef] at ha
      have ha' : g a + l a ≠ 0 := ha
      omega
    · exact Rep.mem r a q
end
theorem add_zf {g h : Fp} (e1 : g = zf) (e2 : h = zf) : (fun a => g a + h a) = zf := by subst e1 e2; rfl
mutual
theorem Rep.fz0 : ∀ {o : O} {v : V} {f : Fp}, Rep K ct F H o v f → isFz o = true → f = zf
  | .non, _, _, h, _ => h.2
  | .bl _, _, _, h, _ => h.2
  | .int _, _, _, h, _ => h.2
  | .str _, _, _, h, _ => h.2
  | .exc _, _, _, h, _ => h.2
  | .tup os, v, f, h, z => by
    obtain ⟨a', xs, e, s, r⟩ := h
    exact Reps.fz0 r (by simpa [isFz] using z)
  | .lst false os, v, f, h, z => by
    obtain ⟨a', xs, e, s, r, ef⟩ := h
    exact ef
  | .lst true os, v, f, h, z => by simp [isFz] at z
  | .dct false ks os, v, f, h, z => by
    obtain ⟨a', kvs, e, s, ek, r, ef⟩ := h
    exact ef
  | .dct true ks os, v, f, h, z => by simp [isFz] at z
  | .ins false c ns os, v, f, h, z => by
    obtain ⟨a', dx, fs, e, s, ek, r, ef⟩ := h
    exact ef
  | .ins true c ns os, v, f, h, z => by simp [isFz] at z
theorem Reps.fz0 : ∀ {os : List O} {vs : List V} {f : Fp}, Reps K ct F H os vs f → isFzs os = true → f = zf
  | [], _, _, h, _ => h.2
  | o :: os, vs, f, h, z => by
    obtain ⟨v, vr, g, l, e, r, rs, ef⟩ := h
    rw [isFzs, Bool.and_eq_true] at z
    rw [ef]
    exact add_zf (Rep.fz0 r z.1) (Reps.fz0 rs z.2)
end
/-! seen as frozen: the footprint goes into the frozen part -/
mutual
theorem Rep.frz (hF : Same F F') : ∀ {o : O} {v : V} {f : Fp}, (∀ a, f a ≠ 0 → F' a = H a) → Rep K ct F H o v f → Rep K ct F' H' (frz o) v zf
  | .non, _, _, _, h => ⟨h.1, rfl⟩
  | .bl _, _, _, _, h => ⟨h.1, rfl⟩
  | .int _, _, _, _, h => ⟨h.1, rfl⟩
  | .str _, _, _, _, h => ⟨h.1, rfl⟩
  | .exc _, _, _, _, h => ⟨h.1, rfl⟩
  | .tup os, v, f, k, h => by
    obtain ⟨a, xs, e, s, r⟩ := h
    exact ⟨a, xs, e, Same.seqT hF s, Reps.frz hF k r⟩
  | .lst false os, v, f, k, h => by
    obtain ⟨a, xs, e, s, r, ef⟩ := h
    exact ⟨a, xs, e, Same.seq hF s, Reps.frz hF (fun b hb => absurd rfl hb) r, rfl⟩
  | .lst true os, v, f, k, h => by
    obtain ⟨a, xs, g, e, s, r, ef⟩ := h
    refine ⟨a, xs, e, ?_, Reps.frz hF (fun b hb => k b ?_) r, rfl⟩
    · refine .inl (.inl ?_)
      rw [k a (by rw [ef]; simp [bump])]; exact s
    · rw [ef]; show (if b = a then 1 else 0) + g b ≠ 0; omega
  | .dct false ks os, v, f, k, h => by
    obtain ⟨a, kvs, e, s, ek, r, ef⟩ := h
    exact ⟨a, kvs, e, hF _ _ s, ek, Reps.frz hF (fun b hb => absurd rfl hb) r, rfl⟩
  | .dct true ks os, v, f, k, h => by
    obtain ⟨a, kvs, g, e, s, ek, r, ef⟩ := h
    refine ⟨a, kvs, e, ?_, ek, Reps.frz hF (fun b hb => k b ?_) r, rfl⟩
    · rw [k a (by rw [ef]; simp [bump])]; exact s
    · rw [ef]; show (if b = a then 1 else 0) + g b ≠ 0; omega
  | .ins false c ns os, v, f, k, h => by
    obtain ⟨a, dx, fs, e, s, ek, r, ef⟩ := h
    exact ⟨a, dx, fs, e, hF _ _ s, ek, Reps.frz hF (fun b hb => absurd rfl hb) r, rfl⟩
  | .ins true c ns os, v, f, k, h => by
    obtain ⟨a, dx, fs, g, e, s, ek, r, ef⟩ := h
    refine ⟨a, dx, fs, e, ?_, ek, Reps.frz hF (fun b hb => k b ?_) r, rfl⟩
    · rw [k a (by rw [ef]; simp [bump])]; exact s
    · rw [ef]; show (if b = a then 1 else 0) + g b ≠ 0; omega
theorem Reps.frz (hF : Same F F') : ∀ {os : List O} {vs : List V} {f : Fp}, (∀ a, f a ≠ 0 → F' a = H a) → Reps K ct F H os vs f → Reps K ct F' H' (frzs os) vs zf
  | [], _, _, _, h => ⟨h.1, rfl⟩
  | o :: os, vs, f, k, h => by
    obtain ⟨v, vr, g, l, e, r, rs, ef⟩ := h
    refine ⟨v, vr, zf, zf, e, Rep.frz hF (fun b hb => k b ?_) r, Reps.frz hF (fun b hb => k b ?_) rs, rfl⟩
    · rw [ef]; show g b + l b ≠ 0; omega
    · rw [ef]; show g b + l b ≠ 0; omega
end
/-- the frozen part grows smaller by nodes that are no tuples: what has no frozen lists stays -/
def NoTup (H : Hp) (a : Addr) : Prop := (∀ xs, H a ≠ some (.tup xs)) ∧ ∀ o xs, H a ≠ some (.frz o (.tup xs))
mutual
theorem Rep.thaw (hF : ∀ a, NoTup F a ∨ F' a = F a) : ∀ {o : O} {v : V} {f : Fp}, noFm o = true → Rep K ct F H o v f → Rep K ct F' H o v f
  | .non, _, _, _, h => h
  | .bl _, _, _, _, h => h
  | .int _, _, _, _, h => h
  | .str _, _, _, _, h => h
  | .exc _, _, _, _, h => h
  | .tup os, v, f, k, h => by
    obtain ⟨a, xs, e, s, r⟩ := h
    refine ⟨a, xs, e, ?_, Reps.thaw hF (by simpa [noFm] using k) r⟩
    rcases s with (s | ⟨o, s⟩) | s
    · rcases hF a with z | z
      · exact absurd s (z.1 _)
      · exact .inl (.inl (by rw [z]; exact s))
    · rcases hF a with z | z
      · exact absurd s (z.2 _ _)
      · exact .inl (.inr ⟨o, by rw [z]; exact s⟩)
    · exact .inr s
  | .lst false os, v, f, k, h => by simp [noFm] at k
  | .lst true os, v, f, k, h => by
    obtain ⟨a, xs, g, e, s, r, ef⟩ := h
    exact ⟨a, xs, g, e, s, Reps.thaw hF (by simpa [noFm] using k) r, ef⟩
  | .dct false ks os, v, f, k, h => by simp [noFm] at k
  | .dct true ks os, v, f, k, h => by
    obtain ⟨a, kvs, g, e, s, ek, r, ef⟩ := h
    exact ⟨a, kvs, g, e, s, ek, Reps.thaw hF (by simpa [noFm] using k) r, ef⟩
  | .ins false c ns os, v, f, k, h => by simp [noFm] at k
  | .ins true c ns os, v, f, k, h => by
    obtain ⟨a, dx, fs, g, e, s, ek, r, ef⟩ := h
    exact ⟨a, dx, fs, g, e, s, ek, Reps.thaw hF (by simpa [noFm] using k) r, ef⟩
theorem Reps.thaw (hF : ∀ a, NoTup F a ∨ F' a = F a) : ∀ {os : List O} {vs : List V} {f : Fp}, noFms os = true → Reps K ct F H os vs f → Reps K ct F' H os vs f
  | [], _, _, _, h => h
  | o :: os, vs, f, k, h => by
    obtain ⟨v, vr, g, l, e, r, rs, ef⟩ := h
    rw [noFms, Bool.and_eq_true] at k
    exact ⟨v, vr, g, l, e, Rep.thaw hF k.1 r, Reps.thaw hF k.2 rs, ef⟩
end
end
end Mini
namespace Mini
open PySem PySem.Spec PyProof.Rows L2

abbrev Env := List (Option O)
def look (ρ : Env) (i : Nat) : Option O := match ρ[i]? with
  | some (some o) => some o
  | _ => none
def SRep (K : PySem.W.Frag) (ct : Nat → Addr) (F H : Hp) : Env → L2.St → Fp → Prop
  | [], _, f => f = zf
  | none :: ρ, _ :: σ, f => SRep K ct F H ρ σ f
  | none :: _, [], _ => False
  | some o :: ρ, some v :: σ, f => ∃ g h, Rep K ct F H o v g ∧ SRep K ct F H ρ σ h ∧ f = fun a => g a + h a
  | some _ :: _, _, _ => False
structure Wf (F H : Hp) (f : Fp) : Prop where
  le : Same F H
  one : ∀ a, f a ≤ 1
  dj : ∀ a, f a ≠ 0 → F a = none
structure Ext (F H F' H' : Hp) : Prop where
  hF : Same F F'
  hH : Same H H'
  le : Same F' H'
  new : ∀ a, F' a ≠ none → F a ≠ none ∨ H a = none
def Gd (k : Bool) (f : Fp) (H F' : Hp) (g : Fp) : Prop :=
  if k = true then ∀ a, g a ≤ f a else (∀ a, g a ≤ 1) ∧ (∀ a, g a ≠ 0 → H a = none) ∧ ∀ a, g a ≠ 0 → F' a = none
theorem Ext.refl {F H : Hp} (le : Same F H) : Ext F H F H := ⟨Same.refl _, Same.refl _, le, fun _ h => .inl h⟩
theorem Ext.trans {F H F1 H1 F2 H2 : Hp} (a : Ext F H F1 H1) (b : Ext F1 H1 F2 H2) : Ext F H F2 H2 := by
  refine ⟨a.hF.trans b.hF, a.hH.trans b.hH, b.le, fun c h => ?_⟩
  rcases b.new c h with q | q
  · exact a.new c q
  · exact .inr (a.hH.free q)
theorem Gd.zero {k : Bool} {f : Fp} {H F' : Hp} : Gd k f H F' zf := by
  unfold Gd
  split
  · exact fun a => Nat.zero_le _
  · exact ⟨fun _ => Nat.zero_le _, fun _ h => absurd rfl h, fun _ h => absurd rfl h⟩
theorem Gd.n {f : Fp} {H F' : Hp} {g : Fp} (h : Gd false f H F' g) : (∀ a, g a ≤ 1) ∧ (∀ a, g a ≠ 0 → H a = none) ∧ ∀ a, g a ≠ 0 → F' a = none := by
  unfold Gd at h
  rwa [if_neg Bool.false_ne_true] at h
theorem Gd.b {f : Fp} {H F' : Hp} {g : Fp} (h : Gd true f H F' g) : ∀ a, g a ≤ f a := by
  unfold Gd at h
  rwa [if_pos rfl] at h
theorem Gd.mkn {f : Fp} {H F' : Hp} {g : Fp} (h1 : ∀ a, g a ≤ 1) (h2 : ∀ a, g a ≠ 0 → H a = none) (h3 : ∀ a, g a ≠ 0 → F' a = none) : Gd false f H F' g := by
  unfold Gd
  rw [if_neg Bool.false_ne_true]
  exact ⟨h1, h2, h3⟩
theorem Gd.mkb {f : Fp} {H F' : Hp} {g : Fp} (h : ∀ a, g a ≤ f a) : Gd true f H F' g := by
  unfold Gd
  rw [if_pos rfl]
  exact h
/-- a smaller footprint -/
theorem Gd.sub {k : Bool} {f : Fp} {H F' : Hp} {g g' : Fp} (h : Gd k f H F' g) (l : ∀ a, g' a ≤ g a) : Gd k f H F' g' := by
  unfold Gd at h ⊢
  split
  · rw [if_pos (by assumption)] at h
    exact fun a => Nat.le_trans (l a) (h a)
  · rw [if_neg (by assumption)] at h
    refine ⟨fun a => Nat.le_trans (l a) (h.1 a), fun a q => h.2.1 a ?_, fun a q => h.2.2 a ?_⟩
    · have := l a; omega
    · have := l a; omega

section
variable {K : PySem.W.Frag} {ct : Nat → Addr} {F F' H H' : Hp} {ρ : Env} {σ : L2.St} {f g : Fp}
theorem SRep.mono (hF : Same F F') : ∀ {ρ : Env} {σ : L2.St} {f : Fp}, (∀ a, f a ≠ 0 → H' a = H a) → SRep K ct F H ρ σ f → SRep K ct F' H' ρ σ f
  | [], _, _, _, h => h
  | none :: ρ, [], _, _, h => (show False from h).elim
  | none :: ρ, _ :: σ, f, k, h => SRep.mono (ρ := ρ) (σ := σ) hF k h
  | some o :: ρ, [], _, _, h => (show False from h).elim
  | some o :: ρ, none :: σ, _, _, h => (show False from h).elim
  | some o :: ρ, some v :: σ, f, k, h => by
    obtain ⟨g, l, r, rs, ef⟩ := (show ∃ g h, Rep K ct F H o v g ∧ SRep K ct F H ρ σ h ∧ f = fun a => g a + h a from h)
    refine ⟨g, l, Rep.mono hF (fun b hb => k b ?_) r, SRep.mono hF (fun b hb => k b ?_) rs, ef⟩
    · rw [ef]; show g b + l b ≠ 0; omega
    · rw [ef]; show g b + l b ≠ 0; omega
theorem SRep.mem : ∀ {ρ : Env} {σ : L2.St} {f : Fp}, SRep K ct F H ρ σ f → ∀ a, f a ≠ 0 → ∃ u, H a = some u ∧ Own u
  | [], _, _, h, a, ha => absurd (by rw [show _ = zf from h]; rfl) ha
  | none :: ρ, [], _, h, _, _ => (show False from h).elim
  | none :: ρ, _ :: σ, f, h, a, ha => SRep.mem (ρ := ρ) (σ := σ) h a ha
  | some o :: ρ, [], _, h, _, _ => (show False from h).elim
  | some o :: ρ, none :: σ, _, h, _, _ => (show False from h).elim
  | some o :: ρ, some v :: σ, f, h, a, ha => by
    obtain ⟨g, l, r, rs, ef⟩ := (show ∃ g h, Rep K ct F H o v g ∧ SRep K ct F H ρ σ h ∧ f = fun a => g a + h a from h)
    by_cases q : g a = 0
    · refine SRep.mem rs a ?_
      rw [ef] at ha
      have ha' : g a + l a ≠ 0 := ha
      omega
    · exact Rep.mem r a q
theorem SRep.get : ∀ {ρ : Env} {σ : L2.St} {f : Fp} {i : Nat} {o : O}, SRep K ct F H ρ σ f → look ρ i = some o → ∃ v g, σ[i]? = some (some v) ∧ Rep K ct F H o v g ∧ ∀ a, g a ≤ f a
  | [], _, _, i, o, _, e => by simp [look] at e
  | none :: ρ, [], _, _, _, h, _ => (show False from h).elim
  | none :: ρ, _ :: σ, f, 0, o, h, e => by simp [look] at e
  | none :: ρ, _ :: σ, f, i + 1, o, h, e => by
    obtain ⟨v, g, e1, r, l⟩ := SRep.get (ρ := ρ) (σ := σ) (i := i) (o := o) h (by simpa [look] using e)
    exact ⟨v, g, by simpa using e1, r, l⟩
  | some o' :: ρ, [], _, _, _, h, _ => (show False from h).elim
  | some o' :: ρ, none :: σ, _, _, _, h, _ => (show False from h).elim
  | some o' :: ρ, some v :: σ, f, 0, o, h, e => by
    obtain ⟨g, l, r, rs, ef⟩ := (show ∃ g h, Rep K ct F H o' v g ∧ SRep K ct F H ρ σ h ∧ f = fun a => g a + h a from h)
    have e' : o' = o := by simpa [look] using e
    subst e'
    exact ⟨v, g, rfl, r, fun a => by rw [ef]; exact Nat.le_add_right _ _⟩
  | some o' :: ρ, some v :: σ, f, i + 1, o, h, e => by
    obtain ⟨g, l, r, rs, ef⟩ := (show ∃ g h, Rep K ct F H o' v g ∧ SRep K ct F H ρ σ h ∧ f = fun a => g a + h a from h)
    obtain ⟨v', g', e1, r', l'⟩ := SRep.get (ρ := ρ) (σ := σ) (i := i) (o := o) rs (by simpa [look] using e)
    exact ⟨v', g', by simpa using e1, r', fun a => by rw [ef]; exact Nat.le_trans (l' a) (Nat.le_add_left _ _)⟩
theorem some_of_ne {α : Type} {x : Option α} (h : x ≠ none) : ∃ y, x = some y := by
  cases x with
  | none => exact absurd rfl h
  | some y => exact ⟨y, rfl⟩
theorem none_of_nn {α : Type} {x : Option α} (h : ¬ x ≠ none) : x = none := by
  cases x with
  | none => rfl
  | some y => exact absurd (fun z => nomatch z) h
theorem Ext.at (e : Ext F H F' H') {a : Addr} (h : ∃ u, H a = some u ∧ Own u) : H' a = H a := by
  obtain ⟨u, h, _⟩ := h
  rw [e.hH _ _ h, h]
theorem Rep.ext {o : O} {v : V} (e : Ext F H F' H') (h : Rep K ct F H o v g) : Rep K ct F' H' o v g := Rep.mono e.hF (fun a ha => e.at (h.mem a ha)) h
theorem Reps.ext {o : List O} {v : List V} (e : Ext F H F' H') (h : Reps K ct F H o v g) : Reps K ct F' H' o v g := Reps.mono e.hF (fun a ha => e.at (h.mem a ha)) h
theorem Wf.ext (w : Wf F H f) (e : Ext F H F' H') (m : ∀ a, f a ≠ 0 → ∃ u, H a = some u ∧ Own u) : Wf F' H' f := by
  refine ⟨e.le, w.one, fun a ha => none_of_nn fun q => ?_⟩
  rcases e.new a q with z | z
  · exact z (w.dj a ha)
  · obtain ⟨u, h, _⟩ := m a ha
    rw [z] at h; cases h
end

/-- the state at an expression -/
structure Sit (K : PySem.W.Frag) (ct : Nat → Addr) (F H : Hp) (ρ : Env) (σ : L2.St) (f : Fp) : Prop where
  wf : Wf F H f
  rep : SRep K ct F H ρ σ f
theorem Sit.ext {K : PySem.W.Frag} {ct : Nat → Addr} {F F' H H' : Hp} {ρ : Env} {σ : L2.St} {f : Fp} (s : Sit K ct F H ρ σ f) (e : Ext F H F' H') : Sit K ct F' H' ρ σ f :=
  ⟨s.wf.ext e s.rep.mem, SRep.mono e.hF (fun a ha => e.at (s.rep.mem a ha)) s.rep⟩

/-- what follows an expression whose value is o -/
def Kn (K : PySem.W.Frag) (ct : Nat → Addr) (k : Bool) (f : Fp) (F H : Hp) (o : O) (Q : VK) : Prop :=
  ∀ v F' H' g, Ext F H F' H' → Rep K ct F' H' o v g → Gd k f H F' g → Q v H'
def tX (ct : Nat → Addr) (K : PySem.W.Frag) (k : Bool) (d : Env → Option O) : TE := fun σ H Q =>
  ∃ F ρ f o, Sit K ct F H ρ σ f ∧ d ρ = some o ∧ Kn K ct k f F H o Q
/-- an expression: k tells that its value is a part of a variable -/
def SX (ct : Nat → Addr) (X : Cx) (k : Bool) (e : Expr) (d : Env → Option O) : Prop := PE X e (tX ct X.K k d)
theorem PE.imp {X : Cx} {e : Expr} {t t' : TE} (h : PE X e t) (i : ∀ σ H Q, t' σ H Q → t σ H Q) : PE X e t' :=
  ⟨fun pins s σ H Q I hq => h.run pins s σ H Q I (i σ H Q hq)⟩
theorem PT.imp {X : Cx} {e : Expr} {t t' : TT} (h : PT X e t) (i : ∀ σ H Q, t' σ H Q → t σ H Q) : PT X e t' :=
  ⟨fun pins s σ H Q I hq => h.run pins s σ H Q I (i σ H Q hq)⟩
theorem PS.imp {X : Cx} {e : Stmt} {t t' : TS} (h : PS X e t) (i : ∀ D σ H, t' D σ H → t D σ H) : PS X e t' :=
  ⟨fun pins s σ H Q I hq => h.run pins s σ H Q I (i Q σ H hq)⟩
theorem PSs.imp {X : Cx} {e : List Stmt} {t t' : TS} (h : PSs X e t) (i : ∀ D σ H, t' D σ H → t D σ H) : PSs X e t' :=
  ⟨fun pins s σ H Q I hq => h.run pins s σ H Q I (i Q σ H hq)⟩
theorem PA.imp {X : Cx} {e : List Expr} {t t' : TA} (h : PA X e t) (i : ∀ σ H Q, t' σ H Q → t σ H Q) : PA X e t' :=
  ⟨fun ps pins s σ H Q I hq => h.run ps pins s σ H Q I (i σ H Q hq)⟩

def dBind (d : Env → Option O) (fn : O → Option O) : Env → Option O := fun ρ => match d ρ with
  | some x => fn x
  | none => none
def dBin (fn : O → O → Option O) (da db : Env → Option O) : Env → Option O := fun ρ => match da ρ with
  | some x => match db ρ with
    | some y => fn x y
    | none => none
  | none => none
theorem dBind_some {d : Env → Option O} {fn : O → Option O} {ρ : Env} {z : O} (h : dBind d fn ρ = some z) : ∃ x, d ρ = some x ∧ fn x = some z := by
  unfold dBind at h
  split at h
  · rename_i x e; exact ⟨x, e, h⟩
  · cases h
theorem dBin_some {fn : O → O → Option O} {da db : Env → Option O} {ρ : Env} {z : O} (h : dBin fn da db ρ = some z) : ∃ x y, da ρ = some x ∧ db ρ = some y ∧ fn x y = some z := by
  unfold dBin at h
  split at h
  · rename_i x e
    split at h
    · rename_i y e2; exact ⟨x, y, e, e2, h⟩
    · cases h
  · cases h

section
variable {ct : Nat → Addr} {X : Cx} {a b e : Expr} {da db d : Env → Option O} {k k1 k2 : Bool} {pos : Pos}
/-- a scalar came -/
theorem Kn.scal {K : PySem.W.Frag} {f : Fp} {F H : Hp} {o : O} {Q : VK} (h : Kn K ct k f F H o Q) (le : Same F H) {v : V} (r : ∀ F H, Rep K ct F H o v zf) : Q v H :=
  h v F H zf (Ext.refl le) (r F H) Gd.zero
theorem sx_imp (h : SX ct X k e da) (i : ∀ ρ, db ρ = da ρ) : SX ct X k e db := PE.imp h fun σ H Q ⟨F, ρ, f, o, s, e, q⟩ => ⟨F, ρ, f, o, s, (i ρ) ▸ e, q⟩
/-- a name -/
theorem sx_var (i : Nat) {x : Str} (hN : X.N[i]? = some x := by rfl) (hv : Vis X.env.scope x := by first | exact Or.inl rfl | exact Or.inr (Or.inl rfl) | exact Or.inr (Or.inr rfl)) (hd : (x == ("__debug__" : Str)) = false := by decide)
    (hcd : (x == ("__classdict__" : Str)) = false := by decide) : SX ct X true (.Name x pos) (fun ρ => look ρ i) := by
  refine PE.imp (pe_var hN hv hd hcd) fun σ H Q h => ?_
  obtain ⟨F, ρ, f, o, s, e, q⟩ := h
  obtain ⟨v, g, e1, r, l⟩ := s.rep.get e
  exact ⟨v, e1, q v F H g (Ext.refl s.wf.le) r (Gd.mkb l)⟩
def copyO (o : O) : Option O := if isFz o = true then some o else none
/-- a frozen part of a variable, as a value of its own -/
theorem sx_copy (h : SX ct X k e d) : SX ct X false e (dBind d copyO) := by
  refine PE.imp h fun σ H Q h => ?_
  obtain ⟨F, ρ, f, o, s, e, q⟩ := h
  obtain ⟨x, e1, e2⟩ := dBind_some e
  unfold copyO at e2
  by_cases z : isFz x = true
  · rw [if_pos z] at e2
    cases e2
    refine ⟨F, ρ, f, _, s, e1, fun v F' H' g ex r gd => ?_⟩
    have ez := r.fz0 z
    subst ez
    exact q v F' H' zf ex r Gd.zero
  · rw [if_neg z] at e2; cases e2
theorem sx_const {v : V} {o : O} (h : PE X e (tC v)) (r : ∀ F H, Rep X.K ct F H o v zf) : SX ct X false e (fun _ => some o) := by
  refine PE.imp h fun σ H Q h => ?_
  obtain ⟨F, ρ, f, o', s, e, q⟩ := h
  cases e
  exact q.scal s.wf.le r
theorem sx_int {i : Int} {j} : SX ct X false (.Constant (.int i) j pos) (fun _ => some (.int i)) := sx_const pe_int fun _ _ => ⟨rfl, rfl⟩
theorem sx_str {x : Str} {j} : SX ct X false (.Constant (.str x) j pos) (fun _ => some (.str x)) := sx_const pe_str fun _ _ => ⟨rfl, rfl⟩
theorem sx_bl {b : Bool} {j} : SX ct X false (.Constant (.bool b) j pos) (fun _ => some (.bl b)) := sx_const pe_bl fun _ _ => ⟨rfl, rfl⟩
theorem sx_non {j} : SX ct X false (.Constant .none j pos) (fun _ => some .non) := sx_const pe_non fun _ _ => ⟨rfl, rfl⟩

/-- what a two-place rule gives: a new value -/
def Fn2 (X : Cx) (ct : Nat → Addr) (r : R2) (fn : O → O → Option O) : Prop :=
  ∀ F H x y z u v g h Q, Same F H → Rep X.K ct F H x u g → Rep X.K ct F H y v h → fn x y = some z → Kn X.K ct false zf F H z Q → r u v H Q
theorem Kn.go {K : PySem.W.Frag} {f f' : Fp} {F H F1 H1 : Hp} {o : O} {Q : VK} (h : Kn K ct false f F H o Q) (e : Ext F H F1 H1) : Kn K ct false f' F1 H1 o Q := fun v F' H' g e' r gd => by
  obtain ⟨g1, g2, g3⟩ := gd.n
  exact h v F' H' g (e.trans e') r (Gd.mkn g1 (fun a q => e.hH.free (g2 a q)) g3)
theorem two_go {r : R2} {fn : O → O → Option O} (hr : Fn2 X ct r fn) {σ : L2.St} {H : Hp} {Q : VK} (h : tX ct X.K false (dBin fn da db) σ H Q) : tOp r (tX ct X.K k1 da) (tX ct X.K k2 db) σ H Q := by
  obtain ⟨F, ρ, f, o, s, e, q⟩ := h
  obtain ⟨x, y, e1, e2, e3⟩ := dBin_some e
  refine ⟨F, ρ, f, x, s, e1, fun u F1 H1 g ex1 r1 gd1 => ?_⟩
  refine ⟨F1, ρ, f, y, s.ext ex1, e2, fun v F2 H2 h ex2 r2 gd2 => ?_⟩
  exact hr F2 H2 x y o u v g h Q ex2.le (r1.ext ex2) r2 e3 (q.go (ex1.trans ex2))
theorem sx_bin {op : Operator} {r : R2} {fn : O → O → Option O} (ho : OpR X (binaryOp op) r) (hr : Fn2 X ct r fn) (ha : SX ct X k1 a da) (hb : SX ct X k2 b db) : SX ct X false (.BinOp a op b pos) (dBin fn da db) :=
  PE.imp (pe_op ho ha hb) fun σ H Q h => two_go hr h
theorem sx_cmp {op : CmpOp} {r : R2} {fn : O → O → Option O} (ho : OpR X (compareOp op) r) (hr : Fn2 X ct r fn) (ha : SX ct X k1 a da) (hb : SX ct X k2 b db) (hm : behindInMarks op b = false) : SX ct X false (.Compare a [op] [b] pos) (dBin fn da db) :=
  PE.imp (pe_cmpR ho ha hb hm) fun σ H Q h => two_go hr h

/-! ints -/
def intsO (C : Int → Int → Bool) (g : Int → Int → O) : O → O → Option O
  | .int i, .int j => if C i j = true then some (g i j) else none
  | _, _ => none
theorem intsO_some {C : Int → Int → Bool} {g : Int → Int → O} {x y z : O} (h : intsO C g x y = some z) : ∃ i j, x = .int i ∧ y = .int j ∧ C i j = true ∧ z = g i j := by
  unfold intsO at h
  split at h
  · split at h
    · cases h; exact ⟨_, _, rfl, rfl, by assumption, rfl⟩
    · cases h
  · cases h
theorem fn2_I {C : Int → Int → Prop} {Cb : Int → Int → Bool} {g : Int → Int → V} {g' : Int → Int → O} (hC : ∀ i j, Cb i j = true → C i j) (hg : ∀ i j K F H, Rep K ct F H (g' i j) (g i j) zf) : Fn2 X ct (rI C g) (intsO Cb g') := by
  intro F H x y z u v g h Q le rx ry e q
  obtain ⟨i, j, rfl, rfl, c, rfl⟩ := intsO_some e
  exact ⟨i, j, rx.1, ry.1, hC i j c, q.scal le fun F H => hg i j _ F H⟩
theorem fn2_I0 {g : Int → Int → V} {g' : Int → Int → O} (hg : ∀ i j K F H, Rep K ct F H (g' i j) (g i j) zf) : Fn2 X ct (rI0 g) (intsO (fun _ _ => true) g') := by
  intro F H x y z u v g h Q le rx ry e q
  obtain ⟨i, j, rfl, rfl, c, rfl⟩ := intsO_some e
  exact ⟨i, j, rx.1, ry.1, q.scal le fun F H => hg i j _ F H⟩
def oAdd := intsO (fun _ _ => true) fun i j => .int (i + j)
def oSub := intsO (fun _ _ => true) fun i j => .int (i - j)
def mulOk (i j : Int) : Bool := decide (i.natAbs.log2 + j.natAbs.log2 < 100000000)
def oMul := intsO mulOk fun i j => .int (i * j)
def oDiv := intsO (fun _ j => decide (0 < j) && decide (j.natAbs.log2 < 9000)) fun i j => .int (i / j)
def oMod := intsO (fun _ j => decide (0 < j)) fun i j => .int (i % j)
def oAnd := intsO (fun _ _ => true) fun i j => .int (Builtin.bitAnd i j)
def oOr := intsO (fun _ _ => true) fun i j => .int (Builtin.bitOr i j)
def oXor := intsO (fun _ _ => true) fun i j => .int (Builtin.bitXor i j)
def oShr := intsO (fun _ j => decide (0 ≤ j)) fun i j => .int (i / 2 ^ j.toNat)
def oLt := intsO (fun _ _ => true) fun i j => .bl (decide (i < j))
def oLe := intsO (fun _ _ => true) fun i j => .bl (decide (i ≤ j))
def oGt := intsO (fun _ _ => true) fun i j => .bl (decide (j < i))
def oGe := intsO (fun _ _ => true) fun i j => .bl (decide (j ≤ i))
theorem mulOk_ok {i j : Int} (h : mulOk i j = true) : IntMulOk i j := by
  have b : ∀ x : Int, Builtin.Int.intBits x ≤ x.natAbs.log2 + 1 := fun x => by
    unfold Builtin.Int.intBits
    split <;> omega
  have h1 := b i
  have h2 := b j
  have h3 : i.natAbs.log2 + j.natAbs.log2 < 100000000 := of_decide_eq_true h
  have e : bitsLine = 134217728 := by decide
  unfold IntMulOk
  intro z
  rw [Bool.and_eq_true] at z
  have z2 := z.2
  unfold Builtin.Int.intTooBig at z2
  have z3 := of_decide_eq_true z2
  rw [e] at z3
  omega
theorem op_mulM : OpR X (binaryOp .Mult) (rI (fun i j => mulOk i j = true) fun i j => .int (i * j)) := opI fun _ _ _ _ _ _ _ hc q => mul_int q (mulOk_ok hc)
theorem op_divM : OpR X (binaryOp .FloorDiv) (rI (fun _ j => 0 < j ∧ j.natAbs.log2 < 9000) fun i j => .int (i / j)) := opI fun i j _ _ _ _ _ hc q => by
  have h1 : (0 : Int) < j := hc.1
  exact floordiv_int (by omega) (by rw [Int.fdiv_eq_ediv_of_nonneg i (by omega)]; exact q) (.inl (PyProof.noPylong_of_log2 hc.2))
theorem sx_add (ha : SX ct X k1 a da) (hb : SX ct X k2 b db) : SX ct X false (.BinOp a .Add b pos) (dBin oAdd da db) := sx_bin op_add (fn2_I0 fun _ _ _ _ _ => ⟨rfl, rfl⟩) ha hb
theorem sx_sub (ha : SX ct X k1 a da) (hb : SX ct X k2 b db) : SX ct X false (.BinOp a .Sub b pos) (dBin oSub da db) := sx_bin op_sub (fn2_I0 fun _ _ _ _ _ => ⟨rfl, rfl⟩) ha hb
theorem sx_mul (ha : SX ct X k1 a da) (hb : SX ct X k2 b db) : SX ct X false (.BinOp a .Mult b pos) (dBin oMul da db) := sx_bin op_mulM (fn2_I (fun _ _ h => h) fun _ _ _ _ _ => ⟨rfl, rfl⟩) ha hb
theorem sx_div (ha : SX ct X k1 a da) (hb : SX ct X k2 b db) : SX ct X false (.BinOp a .FloorDiv b pos) (dBin oDiv da db) :=
  sx_bin op_divM (fn2_I (fun i j h => by rw [Bool.and_eq_true] at h; exact ⟨of_decide_eq_true h.1, of_decide_eq_true h.2⟩) fun _ _ _ _ _ => ⟨rfl, rfl⟩) ha hb
theorem sx_mod (ha : SX ct X k1 a da) (hb : SX ct X k2 b db) : SX ct X false (.BinOp a .Mod b pos) (dBin oMod da db) := sx_bin op_mod (fn2_I (fun _ _ h => of_decide_eq_true h) fun _ _ _ _ _ => ⟨rfl, rfl⟩) ha hb
theorem sx_band (ha : SX ct X k1 a da) (hb : SX ct X k2 b db) : SX ct X false (.BinOp a .BitAnd b pos) (dBin oAnd da db) := sx_bin op_and (fn2_I0 fun _ _ _ _ _ => ⟨rfl, rfl⟩) ha hb
theorem sx_bor (ha : SX ct X k1 a da) (hb : SX ct X k2 b db) : SX ct X false (.BinOp a .BitOr b pos) (dBin oOr da db) := sx_bin op_or (fn2_I0 fun _ _ _ _ _ => ⟨rfl, rfl⟩) ha hb
theorem sx_bxor (ha : SX ct X k1 a da) (hb : SX ct X k2 b db) : SX ct X false (.BinOp a .BitXor b pos) (dBin oXor da db) := sx_bin op_xor (fn2_I0 fun _ _ _ _ _ => ⟨rfl, rfl⟩) ha hb
theorem sx_shr (ha : SX ct X k1 a da) (hb : SX ct X k2 b db) : SX ct X false (.BinOp a .RShift b pos) (dBin oShr da db) := sx_bin op_shr (fn2_I (fun _ _ h => of_decide_eq_true h) fun _ _ _ _ _ => ⟨rfl, rfl⟩) ha hb
theorem sx_lt (ha : SX ct X k1 a da) (hb : SX ct X k2 b db) : SX ct X false (.Compare a [.Lt] [b] pos) (dBin oLt da db) := sx_cmp op_lt (fn2_I0 fun _ _ _ _ _ => ⟨rfl, rfl⟩) ha hb (nomark _)
theorem sx_le (ha : SX ct X k1 a da) (hb : SX ct X k2 b db) : SX ct X false (.Compare a [.LtE] [b] pos) (dBin oLe da db) := sx_cmp op_le (fn2_I0 fun _ _ _ _ _ => ⟨rfl, rfl⟩) ha hb (nomark _)
theorem sx_gt (ha : SX ct X k1 a da) (hb : SX ct X k2 b db) : SX ct X false (.Compare a [.Gt] [b] pos) (dBin oGt da db) := sx_cmp op_gt (fn2_I0 fun _ _ _ _ _ => ⟨rfl, rfl⟩) ha hb (nomark _)
theorem sx_ge (ha : SX ct X k1 a da) (hb : SX ct X k2 b db) : SX ct X false (.Compare a [.GtE] [b] pos) (dBin oGe da db) := sx_cmp op_ge (fn2_I0 fun _ _ _ _ _ => ⟨rfl, rfl⟩) ha hb (nomark _)

/-! == of data -/
mutual
def toPy : O → PyData
  | .non => .none
  | .bl b => .bool b
  | .int i => .int i
  | .str s => .str s
  | .tup os => .tuple (toPys os)
  | .lst _ os => .list (toPys os)
  | .dct _ _ _ => .dict []
  | .ins _ _ _ _ => .dict []
  | .exc _ => .dict []
def toPys : List O → List PyData
  | [] => []
  | o :: os => toPy o :: toPys os
end
theorem Rep.list {K : PySem.W.Frag} {F H : Hp} {w : Bool} {os : List O} {v : V} {f : Fp} (le : Same F H) (h : Rep K ct F H (.lst w os) v f) : ∃ a xs g, v = .ref a ∧ SqL K H a xs ∧ Reps K ct F H os xs g ∧ ∀ b, g b ≤ f b := by
  cases w with
  | false =>
    obtain ⟨a, xs, e, s, r, ef⟩ := h
    exact ⟨a, xs, zf, e, Same.seq le s, r, fun _ => Nat.zero_le _⟩
  | true =>
    obtain ⟨a, xs, g, e, s, r, ef⟩ := h
    exact ⟨a, xs, g, e, SqL.of s, r, fun b => by rw [ef]; exact Nat.le_add_left _ _⟩
mutual
theorem Rep.dp {K : PySem.W.Frag} {F H : Hp} (le : Same F H) : ∀ {o : O} {v : V} {f : Fp}, (toPy o).canLay0 = true → Rep K ct F H o v f → Dp K H v (toPy o)
  | .non, _, _, _, h => by obtain ⟨e, _⟩ := h; subst e; exact .non
  | .bl b, _, _, _, h => by obtain ⟨e, _⟩ := h; subst e; exact .bl b
  | .int b, _, _, _, h => by obtain ⟨e, _⟩ := h; subst e; exact .int b
  | .str b, _, _, _, h => by obtain ⟨e, _⟩ := h; subst e; exact .str b
  | .tup os, v, f, c, h => by
    obtain ⟨a, xs, e, s, r⟩ := h
    subst e
    rw [toPy]
    rw [toPy, PyData.canLay0] at c
    exact .tup (Same.seqT le s) (Reps.dp le c r)
  | .lst w os, v, f, c, h => by
    obtain ⟨a, xs, g, e, s, r, _⟩ := Rep.list le h
    subst e
    rw [toPy]
    rw [toPy, PyData.canLay0] at c
    exact .lst s (Reps.dp le c r)
  | .dct _ _ _, _, _, c, _ => by rw [toPy, PyData.canLay0] at c; cases c
  | .ins _ _ _ _, _, _, c, _ => by rw [toPy, PyData.canLay0] at c; cases c
  | .exc _, _, _, c, _ => by rw [toPy, PyData.canLay0] at c; cases c
theorem Reps.dp {K : PySem.W.Frag} {F H : Hp} (le : Same F H) : ∀ {os : List O} {vs : List V} {f : Fp}, PyData.canLayAll0 (toPys os) = true → Reps K ct F H os vs f → DpAll K H vs (toPys os)
  | [], _, _, _, h => by obtain ⟨e, _⟩ := h; subst e; exact .nil
  | o :: os, vs, f, c, h => by
    obtain ⟨v, vr, g, l, e, r, rs, ef⟩ := h
    subst e
    rw [toPys, PyData.canLayAll0, Bool.and_eq_true] at c
    rw [toPys]
    exact .cons (Rep.dp le c.1 r) (Reps.dp le c.2 rs)
end
def oEq (x y : O) : Option O := if SeqAt.shaped (toPy x) && SeqAt.shaped (toPy y) then some (.bl (PyData.eqv (toPy x) (toPy y))) else none
def oNe (x y : O) : Option O := if SeqAt.shaped (toPy x) && SeqAt.shaped (toPy y) then some (.bl (!PyData.eqv (toPy x) (toPy y))) else none
theorem fn2_eq : Fn2 X ct (rEqD X.K) oEq := by
  intro F H x y z u v g h Q le rx ry e q
  unfold oEq at e
  split at e
  · rename_i c
    rw [Bool.and_eq_true] at c
    cases e
    exact ⟨toPy x, toPy y, rx.dp le (SeqAt.canLay_of_shaped c.1), ry.dp le (SeqAt.canLay_of_shaped c.2), c.1, c.2, q.scal le fun _ _ => ⟨rfl, rfl⟩⟩
  · cases e
theorem fn2_ne : Fn2 X ct (rNeD X.K) oNe := by
  intro F H x y z u v g h Q le rx ry e q
  unfold oNe at e
  split at e
  · rename_i c
    rw [Bool.and_eq_true] at c
    cases e
    exact ⟨toPy x, toPy y, rx.dp le (SeqAt.canLay_of_shaped c.1), ry.dp le (SeqAt.canLay_of_shaped c.2), c.1, c.2, q.scal le fun _ _ => ⟨rfl, rfl⟩⟩
  · cases e
theorem sx_eq (hu : X.A.units + 64 < cLine) (ha : SX ct X k1 a da) (hb : SX ct X k2 b db) : SX ct X false (.Compare a [.Eq] [b] pos) (dBin oEq da db) := sx_cmp (op_eqD hu) fn2_eq ha hb (nomark _)
theorem sx_ne (hu : X.A.units + 64 < cLine) (ha : SX ct X k1 a da) (hb : SX ct X k2 b db) : SX ct X false (.Compare a [.NotEq] [b] pos) (dBin oNe da db) := sx_cmp (op_neD hu) fn2_ne ha hb (nomark _)

/-! one-place operations on ints -/
def negO : O → Option O
  | .int i => some (.int (-i))
  | _ => none
theorem sx_neg (ha : SX ct X k a da) : SX ct X false (.UnaryOp .USub a pos) (dBind da negO) := by
  refine PE.imp (pe_un un_neg ha) fun σ H Q h => ?_
  obtain ⟨F, ρ, f, o, s, e, q⟩ := h
  obtain ⟨x, e1, e2⟩ := dBind_some e
  refine ⟨F, ρ, f, x, s, e1, fun u F1 H1 g ex1 r1 gd1 => ?_⟩
  unfold negO at e2
  split at e2
  · cases e2
    exact ⟨_, r1.1, (q.go (f' := zf) ex1).scal ex1.le fun _ _ => ⟨rfl, rfl⟩⟩
  · cases e2

/-! items -/
theorem Reps.at {K : PySem.W.Frag} {F H : Hp} : ∀ {os : List O} {vs : List V} {f : Fp} {j : Nat} {o : O}, Reps K ct F H os vs f → os[j]? = some o → ∃ v g, vs[j]? = some v ∧ Rep K ct F H o v g ∧ ∀ a, g a ≤ f a
  | [], _, _, _, _, _, e => by simp at e
  | o' :: os, vs, f, 0, o, h, e => by
    obtain ⟨v, vr, g, l, ev, r, rs, ef⟩ := h
    subst ev
    have e' : o' = o := by simpa using e
    subst e'
    exact ⟨v, g, rfl, r, fun a => by rw [ef]; exact Nat.le_add_right _ _⟩
  | o' :: os, vs, f, j + 1, o, h, e => by
    obtain ⟨v, vr, g, l, ev, r, rs, ef⟩ := h
    subst ev
    obtain ⟨v', g', e1, r1, l1⟩ := Reps.at (j := j) (o := o) rs (by simpa using e)
    exact ⟨v', g', by simpa using e1, r1, fun a => by rw [ef]; exact Nat.le_trans (l1 a) (Nat.le_add_left _ _)⟩
theorem Reps.length {K : PySem.W.Frag} {F H : Hp} : ∀ {os : List O} {vs : List V} {f : Fp}, Reps K ct F H os vs f → os.length = vs.length
  | [], vs, _, h => by rw [show vs = [] from h.1]; rfl
  | o' :: os, vs, f, h => by
    obtain ⟨v, vr, g, l, ev, r, rs, ef⟩ := h
    subst ev
    simp [Reps.length rs]
theorem Reps.atI {K : PySem.W.Frag} {F H : Hp} {os : List O} {vs : List V} {f : Fp} {i : Int} {o : O} (h : Reps K ct F H os vs f) (e : atI os i = some o) : ∃ v g, atI vs i = some v ∧ Rep K ct F H o v g ∧ ∀ a, g a ≤ f a := by
  unfold L2.atI at e ⊢
  rw [← h.length]
  cases q : ixN os.length i with
  | none => rw [q] at e; cases e
  | some j =>
    rw [q] at e
    exact h.at e
def oIdx : O → O → Option O
  | .tup os, .int i => atI os i
  | .lst _ os, .int i => atI os i
  | .str z, .int i => if z.length ≤ sizeLine then (atI z.cps.toList i).map fun c => .str ⟨#[c]⟩ else none
  | _, _ => none
theorem sx_idx (ha : SX ct X k a da) (hb : SX ct X k2 b db) (hs : PlainIx b := by intro _ _; rfl) : SX ct X k (.Subscript a b pos) (dBin oIdx da db) := by
  refine PE.imp (pe_ix ix_seq ha hb hs) fun σ H Q h => ?_
  obtain ⟨F, ρ, f, o, s, e, q⟩ := h
  obtain ⟨x, y, e1, e2, e3⟩ := dBin_some e
  refine ⟨F, ρ, f, x, s, e1, fun u F1 H1 g ex1 r1 gd1 => ?_⟩
  refine ⟨F1, ρ, f, y, s.ext ex1, e2, fun v F2 H2 h ex2 r2 gd2 => ?_⟩
  have r1' := r1.ext ex2
  have gd : ∀ g', (∀ a, g' a ≤ g a) → Gd k f H F2 g' := fun g' l => by
    have z := gd1.sub l
    unfold Gd at z ⊢
    split
    · rw [if_pos (by assumption)] at z; exact z
    · rw [if_neg (by assumption)] at z
      refine ⟨z.1, z.2.1, fun a n => none_of_nn fun w => ?_⟩
      rcases ex2.new a w with w | w
      · exact w (z.2.2 a n)
      · obtain ⟨_, w', _⟩ := r1.mem a (by have := l a; omega)
        rw [w] at w'; cases w'
  unfold oIdx at e3
  split at e3
  · obtain ⟨p, xs, ev, sq, rs⟩ := r1'
    obtain ⟨w, g', e4, r4, l4⟩ := rs.atI e3
    exact .inr (.inl ⟨p, xs, _, w, ev, r2.1, Same.seqT ex2.le sq, e4, q w F2 H2 g' (ex1.trans ex2) r4 (gd g' l4)⟩)
  · obtain ⟨p, xs, gx, ev, sq, rs, lx⟩ := Rep.list ex2.le r1'
    obtain ⟨w, g', e4, r4, l4⟩ := rs.atI e3
    exact .inl ⟨p, xs, _, w, ev, r2.1, sq, e4, q w F2 H2 g' (ex1.trans ex2) r4 (gd g' fun a => Nat.le_trans (l4 a) (lx a))⟩
  · split at e3
    · rename_i z i hz
      cases e4 : atI z.cps.toList i with
      | none => rw [e4] at e3; cases e3
      | some c =>
        rw [e4] at e3
        cases e3
        exact .inr (.inr ⟨z, i, c, r1'.1, r2.1, hz, e4, q _ F2 H2 zf (ex1.trans ex2) ⟨rfl, rfl⟩ Gd.zero⟩)
    · cases e3
  · cases e3
end
end Mini
namespace Mini
open PySem PySem.Spec PyProof.Rows L2

/-! argument lists -/
def unk {α : Type} : List Bool → List α → List (Bool × α) := List.zip
/-- the parts of variables (gb) and the new values (gv) -/
def ARep (K : PySem.W.Frag) (ct : Nat → Addr) (F H : Hp) : List Bool → List O → List V → Fp → Fp → Prop
  | [], [], vs, gb, gv => vs = [] ∧ gb = zf ∧ gv = zf
  | true :: ks, o :: os, vs, gb, gv => ∃ v vr g h, vs = v :: vr ∧ Rep K ct F H o v g ∧ ARep K ct F H ks os vr h gv ∧ gb = fun a => g a + h a
  | false :: ks, o :: os, vs, gb, gv => ∃ v vr g h, vs = v :: vr ∧ Rep K ct F H o v g ∧ ARep K ct F H ks os vr gb h ∧ gv = fun a => g a + h a
  | _, _, _, _, _ => False
def tA (ct : Nat → Addr) (K : PySem.W.Frag) (ks : List Bool) (d : Env → Option (List O)) : TA := fun σ H Q =>
  ∃ F ρ f os, Sit K ct F H ρ σ f ∧ d ρ = some os ∧ ∀ vs F' H' gb gv, Ext F H F' H' → ARep K ct F' H' ks os vs gb gv → (∀ a, gb a ≠ 0 → f a ≠ 0) → Gd false f H F' gv → Q vs H'
def SA (ct : Nat → Addr) (X : Cx) (ks : List Bool) (es : List Expr) (d : Env → Option (List O)) : Prop := PA X es (tA ct X.K ks d)
def dNil : Env → Option (List O) := fun _ => some []
def dCons (d : Env → Option O) (ds : Env → Option (List O)) : Env → Option (List O) := fun ρ => match d ρ with
  | some o => match ds ρ with
    | some os => some (o :: os)
    | none => none
  | none => none
theorem dCons_some {d : Env → Option O} {ds : Env → Option (List O)} {ρ : Env} {z : List O} (h : dCons d ds ρ = some z) : ∃ o os, d ρ = some o ∧ ds ρ = some os ∧ z = o :: os := by
  unfold dCons at h
  split at h
  · split at h
    · cases h; exact ⟨_, _, by assumption, by assumption, rfl⟩
    · cases h
  · cases h
section
variable {ct : Nat → Addr} {X : Cx} {e : Expr} {es : List Expr} {d : Env → Option O} {ds : Env → Option (List O)} {k : Bool} {ks : List Bool}
theorem ARep.ext {K : PySem.W.Frag} {F H F' H' : Hp} (e : Ext F H F' H') : ∀ {ks : List Bool} {os : List O} {vs : List V} {gb gv : Fp}, ARep K ct F H ks os vs gb gv → ARep K ct F' H' ks os vs gb gv
  | [], [], _, _, _, h => h
  | true :: ks, o :: os, _, _, _, h => by
    obtain ⟨v, vr, g, l, e1, r, rs, e2⟩ := h
    exact ⟨v, vr, g, l, e1, r.ext e, ARep.ext e rs, e2⟩
  | false :: ks, o :: os, _, _, _, h => by
    obtain ⟨v, vr, g, l, e1, r, rs, e2⟩ := h
    exact ⟨v, vr, g, l, e1, r.ext e, ARep.ext e rs, e2⟩
  | [], _ :: _, _, _, _, h => (show False from h).elim
  | true :: _, [], _, _, _, h => (show False from h).elim
  | false :: _, [], _, _, _, h => (show False from h).elim
theorem sa_nil : SA ct X [] [] dNil := by
  refine PA.imp pa_nil fun σ H Q h => ?_
  obtain ⟨F, ρ, f, os, s, e, q⟩ := h
  cases e
  exact q [] F H zf zf (Ext.refl s.wf.le) ⟨rfl, rfl, rfl⟩ (fun _ h => absurd rfl h) Gd.zero
theorem sa_cons (h1 : SX ct X k e d) (h2 : SA ct X ks es ds) (hs : starEach (e :: es) X.env = (false, eval e X.env) :: starEach es X.env := by rfl) : SA ct X (k :: ks) (e :: es) (dCons d ds) := by
  refine PA.imp (pa_cons h1 h2 hs) fun σ H Q h => ?_
  obtain ⟨F, ρ, f, os, s, e, q⟩ := h
  obtain ⟨o, os', e1, e2, rfl⟩ := dCons_some e
  refine ⟨F, ρ, f, o, s, e1, fun v F1 H1 g ex1 r1 gd1 => ?_⟩
  refine ⟨F1, ρ, f, os', s.ext ex1, e2, fun vs F2 H2 gb gv ex2 r2 hb hv => ?_⟩
  obtain ⟨n1, n2, n3⟩ := hv.n
  have r1' := r1.ext ex2
  cases k with
  | true =>
    refine q (v :: vs) F2 H2 (fun a => g a + gb a) gv (ex1.trans ex2) ⟨v, vs, g, gb, rfl, r1', r2, rfl⟩ (fun a ha => ?_) (Gd.mkn n1 (fun a q => ex1.hH.free (n2 a q)) n3)
    by_cases z : g a = 0
    · exact hb a (by omega)
    · have := gd1.b a; omega
  | false =>
    obtain ⟨m1, m2, m3⟩ := gd1.n
    have sep : ∀ a, g a ≠ 0 → gv a = 0 := fun a z => by
      obtain ⟨u, hu, _⟩ := r1.mem a z
      by_cases w : gv a = 0
      · exact w
      · have := n2 a w; rw [hu] at this; cases this
    refine q (v :: vs) F2 H2 gb (fun a => g a + gv a) (ex1.trans ex2) ⟨v, vs, g, gv, rfl, r1', r2, rfl⟩ hb (Gd.mkn (fun a => ?_) (fun a z => ?_) fun a z => ?_)
    · have := m1 a; have := n1 a; have := sep a
      show g a + gv a ≤ 1
      omega
    · by_cases w : g a = 0
      · exact ex1.hH.free (n2 a (by have z' : g a + gv a ≠ 0 := z; omega))
      · exact m2 a w
    · by_cases w : g a = 0
      · exact n3 a (by have z' : g a + gv a ≠ 0 := z; omega)
      · refine none_of_nn fun y => ?_
        rcases ex2.new a y with y | y
        · exact y (m3 a w)
        · obtain ⟨u, hu, _⟩ := r1.mem a w
          rw [hu] at y; cases y
/-- all are new values -/
theorem ARep.vals {K : PySem.W.Frag} {F H : Hp} : ∀ {ks : List Bool} {os : List O} {vs : List V} {gb gv : Fp}, ks.any id = false → ARep K ct F H ks os vs gb gv → Reps K ct F H os vs gv
  | [], [], _, _, _, _, h => ⟨h.1, h.2.2⟩
  | true :: ks, o :: os, _, _, _, z, h => by simp at z
  | false :: ks, o :: os, _, _, _, z, h => by
    obtain ⟨v, vr, g, l, e1, r, rs, e2⟩ := h
    exact ⟨v, vr, g, l, e1, r, ARep.vals (by simpa using z) rs, e2⟩
  | [], _ :: _, _, _, _, _, h => (show False from h).elim
  | true :: _, [], _, _, _, _, h => (show False from h).elim
  | false :: _, [], _, _, _, _, h => (show False from h).elim

/-! displays -/
def dTup (ds : Env → Option (List O)) : Env → Option O := fun ρ => match ds ρ with
  | some os => if os.length ≤ sizeLine then some (.tup os) else none
  | none => none
def dLst (ds : Env → Option (List O)) : Env → Option O := fun ρ => match ds ρ with
  | some os => if os.length ≤ sizeLine then some (.lst true os) else none
  | none => none
theorem sx_tup {x1 pos} (h : SA ct X ks es ds) (hk : ks.any id = false := by rfl) : SX ct X false (.Tuple es x1 pos) (dTup ds) := by
  refine PE.imp (pe_tup h) fun σ H Q h => ?_
  obtain ⟨F, ρ, f, o, s, e, q⟩ := h
  unfold dTup at e
  split at e
  · rename_i os e1
    split at e
    · cases e
      refine ⟨F, ρ, f, os, s, e1, fun vs F1 H1 gb gv ex ar hb hv => ?_⟩
      have r := ar.vals hk
      obtain ⟨n1, n2, n3⟩ := hv.n
      refine ⟨by rw [← r.length]; assumption, fun p np => ?_⟩
      have hFp : F1 p = none := ex.le.free np
      have neq : ∀ a, gv a ≠ 0 → a ≠ p := fun a z y => by
        subst y
        obtain ⟨u, hu, _⟩ := r.mem a z
        rw [np] at hu; cases hu
      have e2 : Ext F1 H1 (upd F1 p (.tup vs)) (upd H1 p (.tup vs)) := by
        refine ⟨fun b o hb => by rw [upd_ne (ne_of_none hb hFp)]; exact hb, fun b o hb => by rw [upd_ne (ne_of_none hb np)]; exact hb, fun b o hb => ?_, fun a ha => ?_⟩
        · by_cases y : b = p
          · subst y; rw [upd_same] at hb ⊢; exact hb
          · rw [upd_ne y] at hb ⊢; exact ex.le b o hb
        · by_cases y : a = p
          · subst y; exact .inr np
          · rw [upd_ne y] at ha; exact .inl ha
      refine q (.ref p) _ _ gv (ex.trans e2) ⟨p, vs, rfl, .inl (.inl upd_same), r.ext e2⟩ (Gd.mkn n1 n2 fun a z => ?_)
      rw [upd_ne (neq a z)]
      exact n3 a z
    · cases e
  · cases e
theorem sx_lst {pos} (h : SA ct X ks es ds) (hk : ks.any id = false := by rfl) : SX ct X false (.List es pos) (dLst ds) := by
  refine PE.imp (pe_lst h) fun σ H Q h => ?_
  obtain ⟨F, ρ, f, o, s, e, q⟩ := h
  unfold dLst at e
  split at e
  · rename_i os e1
    split at e
    · cases e
      refine ⟨F, ρ, f, os, s, e1, fun vs F1 H1 gb gv ex ar hb hv => ?_⟩
      have r := ar.vals hk
      obtain ⟨n1, n2, n3⟩ := hv.n
      refine ⟨by rw [← r.length]; assumption, fun p np => ?_⟩
      have hFp : F1 p = none := ex.le.free np
      have neq : ∀ a, gv a ≠ 0 → a ≠ p := fun a z y => by
        subst y
        obtain ⟨u, hu, _⟩ := r.mem a z
        rw [np] at hu; cases hu
      have gp : gv p = 0 := Classical.byContradiction fun z => neq p z rfl
      have e2 : Ext F1 H1 F1 (upd H1 p (.lst vs)) :=
        ⟨Same.refl _, fun b o hb => by rw [upd_ne (ne_of_none hb np)]; exact hb, fun b o hb => by rw [upd_ne (ne_of_none hb hFp)]; exact ex.le b o hb, fun a ha => .inl ha⟩
      refine q (.ref p) _ _ (bump p gv) (ex.trans e2) ⟨p, vs, gv, rfl, upd_same, r.ext e2, rfl⟩ (Gd.mkn (fun a => ?_) (fun a z => ?_) fun a z => ?_)
      · have := n1 a
        unfold bump
        by_cases y : a = p
        · subst y; rw [if_pos rfl]; omega
        · rw [if_neg y]; omega
      · by_cases y : a = p
        · subst y; exact ex.hH.free np
        · exact n2 a (by simpa [bump, y] using z)
      · by_cases y : a = p
        · subst y; exact hFp
        · exact n3 a (by simpa [bump, y] using z)
    · cases e
  · cases e

/-! calls of built-ins -/
def Fn1 (X : Cx) (ct : Nat → Addr) (r : List V → Hp → VK → Prop) (fn : O → Option O) : Prop :=
  ∀ F H x z u g Q, Same F H → Rep X.K ct F H x u g → fn x = some z → Kn X.K ct false zf F H z Q → r [u] H Q
def Fn1a (X : Cx) (ct : Nat → Addr) (r : List V → Hp → VK → Prop) (fn : O → O → Option O) : Prop :=
  ∀ F H x y z u v g h Q, Same F H → Rep X.K ct F H x u g → Rep X.K ct F H y v h → fn x y = some z → Kn X.K ct false zf F H z Q → r [u, v] H Q
variable {a b : Expr} {da db : Env → Option O} {k1 k2 : Bool} {x : Str} {p pos : Pos} {id T : String} {r : List V → Hp → VK → Prop} {fn1 : O → Option O} {fn2 : O → O → Option O}
theorem arg1_go {fn : O → Option O} (hr : Fn1 X ct r fn) {σ : L2.St} {H : Hp} {Q : VK} (h : tX ct X.K false (dBind da fn) σ H Q) : tCB r (tCons (tX ct X.K k1 da) tNil) σ H Q := by
  obtain ⟨F, ρ, f, o, s, e, q⟩ := h
  obtain ⟨x, e1, e2⟩ := dBind_some e
  exact ⟨F, ρ, f, x, s, e1, fun u F1 H1 g ex1 r1 gd1 => hr F1 H1 x o u g Q ex1.le r1 e2 (q.go ex1)⟩
theorem arg2_go {fn : O → O → Option O} (hr : Fn1a X ct r fn) {σ : L2.St} {H : Hp} {Q : VK} (h : tX ct X.K false (dBin fn da db) σ H Q) : tCB r (tCons (tX ct X.K k1 da) (tCons (tX ct X.K k2 db) tNil)) σ H Q := by
  obtain ⟨F, ρ, f, o, s, e, q⟩ := h
  obtain ⟨x, y, e1, e2, e3⟩ := dBin_some e
  refine ⟨F, ρ, f, x, s, e1, fun u F1 H1 g ex1 r1 gd1 => ?_⟩
  exact ⟨F1, ρ, f, y, s.ext ex1, e2, fun v F2 H2 h ex2 r2 gd2 => hr F2 H2 x y o u v g h Q ex2.le (r1.ext ex2) r2 e3 (q.go (ex1.trans ex2))⟩
theorem sx_b1 (hc : CallR X (.builtin id) r) (hr : Fn1 X ct r fn1) (hm : X.mg x = none) (hv : bootBuiltins x = some (.builtin id)) (ha : SX ct X k1 a da) (hg : Gl X x := by rfl) (hn : x ≠ "__name__" := by decide) (hdb : (x == ("__debug__" : Str)) = false := by decide)
    (he : starEach [a] X.env = [(false, eval a X.env)] := by rfl) : SX ct X false (.Call (.Name x p) [a] [] pos) (dBind da fn1) :=
  PE.imp (pe_callB hc hg hm hv (pa_cons ha pa_nil he) hn hdb he rfl) fun σ H Q h => arg1_go hr h
theorem sx_t1 (hc : CallR X (.type T) r) (hr : Fn1 X ct r fn1) (hm : X.mg x = none) (hv : bootBuiltins x = some (.type T)) (ha : SX ct X k1 a da) (hg : Gl X x := by rfl) (hn : x ≠ "__name__" := by decide) (hdb : (x == ("__debug__" : Str)) = false := by decide)
    (he : starEach [a] X.env = [(false, eval a X.env)] := by rfl) : SX ct X false (.Call (.Name x p) [a] [] pos) (dBind da fn1) :=
  PE.imp (pe_callTy hc hg hm hv (pa_cons ha pa_nil he) hn hdb he rfl) fun σ H Q h => arg1_go hr h
theorem sx_b2 (hc : CallR X (.builtin id) r) (hr : Fn1a X ct r fn2) (hm : X.mg x = none) (hv : bootBuiltins x = some (.builtin id)) (ha : SX ct X k1 a da) (hb : SX ct X k2 b db) (hg : Gl X x := by rfl) (hn : x ≠ "__name__" := by decide) (hdb : (x == ("__debug__" : Str)) = false := by decide)
    (he : starEach [a, b] X.env = (false, eval a X.env) :: starEach [b] X.env := by rfl) (he2 : starEach [b] X.env = [(false, eval b X.env)] := by rfl) (hpl : (backTo pos (starEach [b] X.env)).any (·.1) = false := by rfl) : SX ct X false (.Call (.Name x p) [a, b] [] pos) (dBin fn2 da db) :=
  PE.imp (pe_callB hc hg hm hv (pa_cons ha (pa_cons hb pa_nil he2) he) hn hdb he hpl) fun σ H Q h => arg2_go hr h
theorem sx_t2 (hc : CallR X (.type T) r) (hr : Fn1a X ct r fn2) (hm : X.mg x = none) (hv : bootBuiltins x = some (.type T)) (ha : SX ct X k1 a da) (hb : SX ct X k2 b db) (hg : Gl X x := by rfl) (hn : x ≠ "__name__" := by decide) (hdb : (x == ("__debug__" : Str)) = false := by decide)
    (he : starEach [a, b] X.env = (false, eval a X.env) :: starEach [b] X.env := by rfl) (he2 : starEach [b] X.env = [(false, eval b X.env)] := by rfl) (hpl : (backTo pos (starEach [b] X.env)).any (·.1) = false := by rfl) : SX ct X false (.Call (.Name x p) [a, b] [] pos) (dBin fn2 da db) :=
  PE.imp (pe_callTy hc hg hm hv (pa_cons ha (pa_cons hb pa_nil he2) he) hn hdb he hpl) fun σ H Q h => arg2_go hr h

def oLen : O → Option O
  | .str z => if z.length ≤ sizeLine then some (.int z.length) else none
  | .tup os => some (.int os.length)
  | .lst _ os => some (.int os.length)
  | _ => none
theorem fn_len : Fn1 X ct (fun xs H Q => ∃ x n, xs = [x] ∧ LenV X.K x H n ∧ Q (.int n) H) oLen := by
  intro F H x z u g Q le r e q
  unfold oLen at e
  split at e
  · rename_i z'
    split at e
    · cases e
      obtain ⟨rfl, _⟩ := r
      exact ⟨.str z', _, rfl, ⟨by assumption, rfl⟩, q.scal le fun _ _ => ⟨rfl, rfl⟩⟩
    · cases e
  · cases e
    obtain ⟨a, xs, rfl, s, rs⟩ := r
    exact ⟨.ref a, _, rfl, .inr ⟨xs, Same.seqT le s, rfl⟩, by rw [← rs.length]; exact q.scal le fun _ _ => ⟨rfl, rfl⟩⟩
  · cases e
    obtain ⟨a, xs, g', rfl, s, rs, _⟩ := Rep.list le r
    exact ⟨.ref a, _, rfl, .inl ⟨xs, s, rfl⟩, by rw [← rs.length]; exact q.scal le fun _ _ => ⟨rfl, rfl⟩⟩
  · cases e
theorem sx_len (hm : X.mg "len" = none) (ha : SX ct X k1 a da) (hg : Gl X "len" := by rfl) (he : starEach [a] X.env = [(false, eval a X.env)] := by rfl) : SX ct X false (.Call (.Name "len" p) [a] [] pos) (dBind da oLen) :=
  sx_b1 call_len fn_len hm PySem.boot_len ha hg (by decide) (by decide) he
def oInt : O → Option O
  | .int i => some (.int i)
  | .bl k => some (.int (if k then 1 else 0))
  | _ => none
theorem fn_int : Fn1 X ct (fun xs H Q => (∃ i, xs = [.int i] ∧ Q (.int i) H) ∨ ∃ k, xs = [.bl k] ∧ Q (.int (if k then 1 else 0)) H) oInt := by
  intro F H x z u g Q le r e q
  unfold oInt at e
  split at e
  · cases e; obtain ⟨rfl, _⟩ := r; exact .inl ⟨_, rfl, q.scal le fun _ _ => ⟨rfl, rfl⟩⟩
  · cases e; obtain ⟨rfl, _⟩ := r; exact .inr ⟨_, rfl, q.scal le fun _ _ => ⟨rfl, rfl⟩⟩
  · cases e
theorem sx_int1 (hm : X.mg "int" = none) (ha : SX ct X k1 a da) (hg : Gl X "int" := by rfl) (he : starEach [a] X.env = [(false, eval a X.env)] := by rfl) : SX ct X false (.Call (.Name "int" p) [a] [] pos) (dBind da oInt) :=
  sx_t1 call_int1 fn_int hm (by decide +kernel) ha hg (by decide) (by decide) he
def oAbs : O → Option O
  | .int i => some (.int (if i < 0 then -i else i))
  | _ => none
theorem sx_abs (hm : X.mg "abs" = none) (ha : SX ct X k1 a da) (hg : Gl X "abs" := by rfl) (he : starEach [a] X.env = [(false, eval a X.env)] := by rfl) : SX ct X false (.Call (.Name "abs" p) [a] [] pos) (dBind da oAbs) := by
  refine sx_b1 call_abs ?_ hm (by decide +kernel) ha hg (by decide) (by decide) he
  intro F H x z u g Q le r e q
  unfold oAbs at e
  split at e
  · cases e; obtain ⟨rfl, _⟩ := r; exact ⟨_, rfl, q.scal le fun _ _ => ⟨rfl, rfl⟩⟩
  · cases e
def oMax := intsO (fun _ _ => true) fun i j => .int (if j > i then j else i)
def oMin := intsO (fun _ _ => true) fun i j => .int (if j < i then j else i)
theorem fn1a_I {g : Int → Int → V} {g' : Int → Int → O} (hg : ∀ i j K F H, Rep K ct F H (g' i j) (g i j) zf) : Fn1a X ct (fun xs H Q => ∃ i j, xs = [.int i, .int j] ∧ Q (g i j) H) (intsO (fun _ _ => true) g') := by
  intro F H x y z u v g h Q le rx ry e q
  obtain ⟨i, j, rfl, rfl, c, rfl⟩ := intsO_some e
  obtain ⟨rfl, _⟩ := rx
  obtain ⟨rfl, _⟩ := ry
  exact ⟨i, j, rfl, q.scal le fun F H => hg i j _ F H⟩
theorem sx_max (hc : X.calm = true) (hm : X.mg "max" = none) (ha : SX ct X k1 a da) (hb : SX ct X k2 b db) (hg : Gl X "max" := by rfl)
    (he : starEach [a, b] X.env = (false, eval a X.env) :: starEach [b] X.env := by rfl) (he2 : starEach [b] X.env = [(false, eval b X.env)] := by rfl) (hpl : (backTo pos (starEach [b] X.env)).any (·.1) = false := by rfl) : SX ct X false (.Call (.Name "max" p) [a, b] [] pos) (dBin oMax da db) :=
  sx_b2 (call_max2 hc) (fn1a_I fun _ _ _ _ _ => ⟨rfl, rfl⟩) hm (by decide +kernel) ha hb hg (by decide) (by decide) he he2 hpl
theorem sx_min (hc : X.calm = true) (hm : X.mg "min" = none) (ha : SX ct X k1 a da) (hb : SX ct X k2 b db) (hg : Gl X "min" := by rfl)
    (he : starEach [a, b] X.env = (false, eval a X.env) :: starEach [b] X.env := by rfl) (he2 : starEach [b] X.env = [(false, eval b X.env)] := by rfl) (hpl : (backTo pos (starEach [b] X.env)).any (·.1) = false := by rfl) : SX ct X false (.Call (.Name "min" p) [a, b] [] pos) (dBin oMin da db) :=
  sx_b2 (call_min2 hc) (fn1a_I fun _ _ _ _ _ => ⟨rfl, rfl⟩) hm (by decide +kernel) ha hb hg (by decide) (by decide) he he2 hpl

/-! isinstance with a built-in class -/
def tyN : O → Option String
  | .non => some "NoneType"
  | .bl _ => some "bool"
  | .int _ => some "int"
  | .str _ => some "str"
  | .tup _ => some "tuple"
  | .lst _ _ => some "list"
  | .dct _ _ _ => some "dict"
  | .ins _ _ _ _ => none
  | .exc _ => none
def oIsi (T : String) (o : O) : Option O := match tyN o with
  | some t => (kitB t T).map .bl
  | none => none
theorem Rep.ty {K : PySem.W.Frag} {F H : Hp} {o : O} {v : V} {f : Fp} {t : String} (le : Same F H) (r : Rep K ct F H o v f) (e : tyN o = some t) : TyX K H v (.type t) := by
  cases o with
  | non => cases e; obtain ⟨rfl, _⟩ := r; exact .base .non
  | bl b => cases e; obtain ⟨rfl, _⟩ := r; exact .base (.bl _)
  | int i => cases e; obtain ⟨rfl, _⟩ := r; exact .base (.int _)
  | str s => cases e; obtain ⟨rfl, _⟩ := r; exact .base (.str _)
  | tup os =>
    cases e
    obtain ⟨a, xs, rfl, s, _⟩ := r
    rcases Same.seqT le s with (s | ⟨o, s⟩) | ⟨o, its, n, hk, hc, _⟩
    · exact .base (.tup s)
    · exact .fTuple s
    · exact .kTuple hk hc
  | lst w os =>
    cases e
    obtain ⟨a, xs, _, rfl, s, _⟩ := Rep.list le r
    rcases s with (s | ⟨o, s⟩) | ⟨o, its, n, hk, hc, _⟩
    · exact .base (.lst s)
    · exact .base (.frz s)
    · exact .kList hk hc
  | dct w ks os =>
    cases e
    cases w with
    | false => obtain ⟨a, kvs, rfl, s, _⟩ := r; exact .base (.dK (le _ _ s))
    | true => obtain ⟨a, kvs, g, rfl, s, _⟩ := r; exact .base (.dK s)
  | ins w c ns os => cases e
  | exc a => cases e
theorem sx_isi (hm : X.mg "isinstance" = none) {T' : Str} {p2 : Pos} (hmT : X.mg T' = none) (hvT : bootBuiltins T' = some (.type T)) (ha : SX ct X k1 a da) (hg : Gl X "isinstance" := by rfl) (hgT : Gl X T' := by rfl) (hnT : T' ≠ "__name__" := by decide) (hdT : (T' == ("__debug__" : Str)) = false := by decide)
    (he : starEach [a, .Name T' p2] X.env = (false, eval a X.env) :: starEach [.Name T' p2] X.env := by rfl) :
    SX ct X false (.Call (.Name "isinstance" p) [a, .Name T' p2] [] pos) (dBind da (oIsi T)) := by
  refine PE.imp (pe_callB call_isi hg hm (by decide +kernel) (pa_cons ha (pa_cons (pe_bltn (v := .ty T) hgT hmT hvT rfl hnT hdT) pa_nil) he) (by decide) (by decide) he rfl) fun σ H Q h => ?_
  obtain ⟨F, ρ, f, o, s, e, q⟩ := h
  obtain ⟨x, e1, e2⟩ := dBind_some e
  refine ⟨F, ρ, f, x, s, e1, fun u F1 H1 g ex1 r1 gd1 => ?_⟩
  unfold oIsi at e2
  split at e2
  · rename_i t et
    cases ek : kitB t T with
    | none => rw [ek] at e2; cases e2
    | some b =>
      rw [ek] at e2
      cases e2
      exact ⟨u, .ty T, .type t, .type T, b, rfl, .ty T, r1.ty ex1.le et, kit_ty ek, (q.go (f' := zf) ex1).scal ex1.le fun _ _ => ⟨rfl, rfl⟩⟩
  · cases e2
end

/-! tests -/
def tT (ct : Nat → Addr) (K : PySem.W.Frag) (d : Env → Option Bool) : TT := fun σ H Q =>
  ∃ F ρ f b, Sit K ct F H ρ σ f ∧ d ρ = some b ∧ ∀ F' H', Ext F H F' H' → Q b H'
def ST (ct : Nat → Addr) (X : Cx) (e : Expr) (d : Env → Option Bool) : Prop := PT X e (tT ct X.K d)
def SW (ct : Nat → Addr) (X : Cx) (e : Expr) (d : Env → Option Bool) : Prop := PW X e (tT ct X.K d)
def oTru : O → Option Bool
  | .bl b => some b
  | .non => some false
  | .int i => some (i != 0)
  | .str s => if s.length ≤ sizeLine then some ((s.length : Int) != 0) else none
  | .tup os => some (!os.isEmpty)
  | .lst _ os => some (!os.isEmpty)
  | .dct _ _ os => some (!os.isEmpty)
  | .ins _ _ _ _ => none
  | .exc _ => none
def oBool : O → Option Bool
  | .bl b => some b
  | _ => none
def dTru (f : O → Option Bool) (d : Env → Option O) : Env → Option Bool := fun ρ => match d ρ with
  | some o => f o
  | none => none
def bAnd (da db : Env → Option Bool) : Env → Option Bool := fun ρ => match da ρ with
  | some true => db ρ
  | some false => some false
  | none => none
def bOr (da db : Env → Option Bool) : Env → Option Bool := fun ρ => match da ρ with
  | some true => some true
  | some false => db ρ
  | none => none
def bNot (da : Env → Option Bool) : Env → Option Bool := fun ρ => match da ρ with
  | some b => some (!b)
  | none => none
def dVB (d : Env → Option Bool) : Env → Option O := fun ρ => match d ρ with
  | some b => some (.bl b)
  | none => none
section
variable {ct : Nat → Addr} {X : Cx} {a b e : Expr} {da db d : Env → Option O} {ta tb t : Env → Option Bool} {k k1 k2 : Bool} {pos : Pos} {rest : List Expr}
theorem Reps.isEmpty {K : PySem.W.Frag} {F H : Hp} {os : List O} {vs : List V} {f : Fp} (r : Reps K ct F H os vs f) : os.isEmpty = vs.isEmpty := by
  have h := r.length
  cases os <;> cases vs <;> simp_all
theorem Rep.tru {K : PySem.W.Frag} {F H : Hp} {o : O} {v : V} {f : Fp} {b : Bool} (le : Same F H) (r : Rep K ct F H o v f) (e : oTru o = some b) : TruV K v H b := by
  cases o with
  | non => cases e; obtain ⟨rfl, _⟩ := r; rfl
  | bl b => cases e; obtain ⟨rfl, _⟩ := r; rfl
  | int i => cases e; obtain ⟨rfl, _⟩ := r; rfl
  | str s =>
    obtain ⟨rfl, _⟩ := r
    simp only [oTru] at e
    split at e
    · cases e; exact ⟨by assumption, rfl⟩
    · cases e
  | tup os =>
    cases e
    obtain ⟨a, xs, rfl, s, rs⟩ := r
    exact .inr (.inl ⟨xs, Same.seqT le s, by rw [rs.isEmpty]⟩)
  | lst w os =>
    cases e
    obtain ⟨a, xs, _, rfl, s, rs, _⟩ := Rep.list le r
    exact .inl ⟨xs, s, by rw [rs.isEmpty]⟩
  | dct w ks os =>
    cases e
    cases w with
    | false =>
      obtain ⟨a, kvs, rfl, s, _, rs, _⟩ := r
      exact .inr (.inr ⟨kvs, le _ _ s, by rw [rs.isEmpty]; cases kvs <;> rfl⟩)
    | true =>
      obtain ⟨a, kvs, g, rfl, s, _, rs, _⟩ := r
      exact .inr (.inr ⟨kvs, s, by rw [rs.isEmpty]; cases kvs <;> rfl⟩)
  | ins w c ns os => cases e
  | exc a => cases e
/-- a name, a call, a subscript .. as a test -/
theorem st_tru (ha : SX ct X k a da) (he : ∀ whole, isTrue a X.env whole = (do let v ← whole; standAt a.pos; holding [v] (truthy v)) := by intro _; rfl) : ST ct X a (dTru oTru da) := by
  refine PT.imp (pt_truth ha he) fun σ H Q h => ?_
  obtain ⟨F, ρ, f, b, s, e, q⟩ := h
  unfold dTru at e
  split at e
  · rename_i o e1
    exact ⟨F, ρ, f, o, s, e1, fun u F1 H1 g ex1 r1 gd1 => ⟨b, r1.tru ex1.le e, q F1 H1 ex1⟩⟩
  · cases e
theorem st_cmpG {op : CmpOp} {r : R2} {fn : O → O → Option O} (ho : OpR X (compareOp op) r) (hr : Fn2 X ct r fn) (ha : SX ct X k1 a da) (hb : SX ct X k2 b db) (hm : behindInMarks op b = false) : ST ct X (.Compare a [op] [b] pos) (dTru oBool (dBin fn da db)) := by
  refine PT.imp (pt_cmpR ho ha hb hm) fun σ H Q h => ?_
  obtain ⟨F, ρ, f, b, s, e, q⟩ := h
  unfold dTru at e
  split at e
  · rename_i o e1
    refine two_go (ct := ct) (X := X) hr (Q := fun x H' => ∃ k, x = V.bl k ∧ Q k H') ⟨F, ρ, f, o, s, e1, fun v F' H' g ex r gd => ?_⟩
    unfold oBool at e
    split at e
    · cases e
      exact ⟨_, r.1, q F' H' ex⟩
    · cases e
  · cases e
theorem st_lt (ha : SX ct X k1 a da) (hb : SX ct X k2 b db) : ST ct X (.Compare a [.Lt] [b] pos) (dTru oBool (dBin oLt da db)) := st_cmpG op_lt (fn2_I0 fun _ _ _ _ _ => ⟨rfl, rfl⟩) ha hb (nomark _)
theorem st_le (ha : SX ct X k1 a da) (hb : SX ct X k2 b db) : ST ct X (.Compare a [.LtE] [b] pos) (dTru oBool (dBin oLe da db)) := st_cmpG op_le (fn2_I0 fun _ _ _ _ _ => ⟨rfl, rfl⟩) ha hb (nomark _)
theorem st_gt (ha : SX ct X k1 a da) (hb : SX ct X k2 b db) : ST ct X (.Compare a [.Gt] [b] pos) (dTru oBool (dBin oGt da db)) := st_cmpG op_gt (fn2_I0 fun _ _ _ _ _ => ⟨rfl, rfl⟩) ha hb (nomark _)
theorem st_ge (ha : SX ct X k1 a da) (hb : SX ct X k2 b db) : ST ct X (.Compare a [.GtE] [b] pos) (dTru oBool (dBin oGe da db)) := st_cmpG op_ge (fn2_I0 fun _ _ _ _ _ => ⟨rfl, rfl⟩) ha hb (nomark _)
theorem st_eq (hu : X.A.units + 64 < cLine) (ha : SX ct X k1 a da) (hb : SX ct X k2 b db) : ST ct X (.Compare a [.Eq] [b] pos) (dTru oBool (dBin oEq da db)) := st_cmpG (op_eqD hu) fn2_eq ha hb (nomark _)
theorem st_ne (hu : X.A.units + 64 < cLine) (ha : SX ct X k1 a da) (hb : SX ct X k2 b db) : ST ct X (.Compare a [.NotEq] [b] pos) (dTru oBool (dBin oNe da db)) := st_cmpG (op_neD hu) fn2_ne ha hb (nomark _)
theorem st_not (ha : ST ct X a ta) : ST ct X (.UnaryOp .Not a pos) (bNot ta) := by
  refine PT.imp (pt_not ha) fun σ H Q h => ?_
  obtain ⟨F, ρ, f, b, s, e, q⟩ := h
  unfold bNot at e
  split at e
  · cases e; exact ⟨F, ρ, f, _, s, by assumption, q⟩
  · cases e
theorem PW.imp {X : Cx} {e : Expr} {t t' : TT} (h : PW X e t) (i : ∀ σ H Q, t' σ H Q → t σ H Q) : PW X e t' :=
  ⟨fun wh pins s σ H Q I hq => h.run wh pins s σ H Q I (i σ H Q hq)⟩
theorem sw_and1 (ha : ST ct X a ta) : SW ct X (.BoolOp .And [a] pos) ta := pw_and1 ha
theorem sw_or1 (ha : ST ct X a ta) : SW ct X (.BoolOp .Or [a] pos) ta := pw_or1 ha
theorem sw_and (ha : ST ct X a ta) (hb : SW ct X (.BoolOp .And (b :: rest) pos) tb) : SW ct X (.BoolOp .And (a :: b :: rest) pos) (bAnd ta tb) := by
  refine PW.imp (pw_and ha hb) fun σ H Q h => ?_
  obtain ⟨F, ρ, f, b, s, e, q⟩ := h
  unfold bAnd at e
  split at e
  · refine ⟨F, ρ, f, true, s, by assumption, fun F1 H1 ex1 => ?_⟩
    refine iteT ?_
    exact ⟨F1, ρ, f, b, s.ext ex1, e, fun F2 H2 ex2 => q F2 H2 (ex1.trans ex2)⟩
  · cases e
    refine ⟨F, ρ, f, false, s, by assumption, fun F1 H1 ex1 => ?_⟩
    refine iteF ?_
    exact q F1 H1 ex1
  · cases e
theorem sw_or (ha : ST ct X a ta) (hb : SW ct X (.BoolOp .Or (b :: rest) pos) tb) : SW ct X (.BoolOp .Or (a :: b :: rest) pos) (bOr ta tb) := by
  refine PW.imp (pw_or ha hb) fun σ H Q h => ?_
  obtain ⟨F, ρ, f, b, s, e, q⟩ := h
  unfold bOr at e
  split at e
  · cases e
    refine ⟨F, ρ, f, true, s, by assumption, fun F1 H1 ex1 => ?_⟩
    refine iteT ?_
    exact q F1 H1 ex1
  · refine ⟨F, ρ, f, false, s, by assumption, fun F1 H1 ex1 => ?_⟩
    refine iteF ?_
    exact ⟨F1, ρ, f, b, s.ext ex1, e, fun F2 H2 ex2 => q F2 H2 (ex1.trans ex2)⟩
  · cases e
theorem st_bool (h : SW ct X e t) : ST ct X e t := PW.pt h
/-! and, or, not as values (bools) -/
def vAnd (da db : Env → Option O) : Env → Option O := fun ρ => match da ρ with
  | some (.bl true) => db ρ
  | some (.bl false) => some (.bl false)
  | _ => none
def vOr (da db : Env → Option O) : Env → Option O := fun ρ => match da ρ with
  | some (.bl true) => some (.bl true)
  | some (.bl false) => db ρ
  | _ => none
def oNot : O → Option O
  | .bl b => some (.bl (!b))
  | _ => none
theorem Kn.go0 {K : PySem.W.Frag} {f : Fp} {F H F1 H1 : Hp} {o : O} {Q : VK} (h : Kn K ct false f F H o Q) (e : Ext F H F1 H1) : Kn K ct false f F1 H1 o Q := h.go e
theorem sx_one {op} (h : SX ct X k a da) : SX ct X k (.BoolOp op [a] pos) da := pe_one h
theorem sx_and (ha : SX ct X k1 a da) (hb : SX ct X false (.BoolOp .And (b :: rest) pos) db) : SX ct X false (.BoolOp .And (a :: b :: rest) pos) (vAnd da db) := by
  refine PE.imp (pe_and ha hb) fun σ H Q h => ?_
  obtain ⟨F, ρ, f, o, s, e, q⟩ := h
  unfold vAnd at e
  split at e
  · refine ⟨F, ρ, f, .bl true, s, by assumption, fun v F1 H1 g ex1 r1 gd1 => ⟨true, r1.1, ?_⟩⟩
    refine iteT ?_
    exact ⟨F1, ρ, f, o, s.ext ex1, e, q.go0 ex1⟩
  · cases e
    refine ⟨F, ρ, f, .bl false, s, by assumption, fun v F1 H1 g ex1 r1 gd1 => ⟨false, r1.1, ?_⟩⟩
    refine iteF ?_
    exact (q.go0 ex1).scal ex1.le fun _ _ => ⟨rfl, rfl⟩
  · cases e
theorem sx_or (ha : SX ct X k1 a da) (hb : SX ct X false (.BoolOp .Or (b :: rest) pos) db) : SX ct X false (.BoolOp .Or (a :: b :: rest) pos) (vOr da db) := by
  refine PE.imp (pe_or ha hb) fun σ H Q h => ?_
  obtain ⟨F, ρ, f, o, s, e, q⟩ := h
  unfold vOr at e
  split at e
  · cases e
    refine ⟨F, ρ, f, .bl true, s, by assumption, fun v F1 H1 g ex1 r1 gd1 => ⟨true, r1.1, ?_⟩⟩
    refine iteT ?_
    exact (q.go0 ex1).scal ex1.le fun _ _ => ⟨rfl, rfl⟩
  · refine ⟨F, ρ, f, .bl false, s, by assumption, fun v F1 H1 g ex1 r1 gd1 => ⟨false, r1.1, ?_⟩⟩
    refine iteF ?_
    exact ⟨F1, ρ, f, o, s.ext ex1, e, q.go0 ex1⟩
  · cases e
theorem sx_not (ha : SX ct X k a da) : SX ct X false (.UnaryOp .Not a pos) (dBind da oNot) := by
  refine PE.imp (pe_not ha) fun σ H Q h => ?_
  obtain ⟨F, ρ, f, o, s, e, q⟩ := h
  obtain ⟨x, e1, e2⟩ := dBind_some e
  refine ⟨F, ρ, f, x, s, e1, fun v F1 H1 g ex1 r1 gd1 => ?_⟩
  unfold oNot at e2
  split at e2
  · cases e2
    exact ⟨_, r1.1, (q.go0 ex1).scal ex1.le fun _ _ => ⟨rfl, rfl⟩⟩
  · cases e2
def dIte (t : Env → Option Bool) (da db : Env → Option O) : Env → Option O := fun ρ => match t ρ with
  | some true => da ρ
  | some false => db ρ
  | none => none
theorem sx_ite {c : Expr} (hc : ST ct X c t) (ha : SX ct X false a da) (hb : SX ct X false b db) : SX ct X false (.IfExp c a b pos) (dIte t da db) := by
  refine PE.imp (pe_ifExp hc ha hb) fun σ H Q h => ?_
  obtain ⟨F, ρ, f, o, s, e, q⟩ := h
  unfold dIte at e
  split at e
  · refine ⟨F, ρ, f, true, s, by assumption, fun F1 H1 ex1 => ?_⟩
    refine iteT ?_
    exact ⟨F1, ρ, f, o, s.ext ex1, e, q.go0 ex1⟩
  · refine ⟨F, ρ, f, false, s, by assumption, fun F1 H1 ex1 => ?_⟩
    refine iteF ?_
    exact ⟨F1, ρ, f, o, s.ext ex1, e, q.go0 ex1⟩
  · cases e
end
end Mini
namespace Mini
open PySem PySem.Spec PyProof.Rows L2

structure Stp (F H : Hp) (f : Fp) (F' H' : Hp) (f' : Fp) : Prop where
  hF : Same F F'
  wf : Wf F' H' f'
  frame : ∀ a o, H a = some o → f a = 0 → H' a = some o
  new : ∀ a, (f' a ≠ 0 ∨ F' a ≠ none) → F a ≠ none ∨ H a = none ∨ f a ≠ 0
section
variable {F H F1 H1 F2 H2 F' H' : Hp} {f f1 f2 f' g : Fp}
theorem Stp.refl (w : Wf F H f) : Stp F H f F H f := ⟨Same.refl _, w, fun _ _ h _ => h, fun a h => h.elim (fun z => .inr (.inr z)) .inl⟩
theorem Stp.trans (a : Stp F H f F1 H1 f1) (b : Stp F1 H1 f1 F2 H2 f2) : Stp F H f F2 H2 f2 := by
  refine ⟨a.hF.trans b.hF, b.wf, fun c o h z => ?_, fun c h => ?_⟩
  · have h1 := a.frame c o h z
    refine b.frame c o h1 (Classical.byContradiction fun w => ?_)
    rcases a.new c (.inl w) with q | q | q
    · obtain ⟨u, hu⟩ := some_of_ne q
      have := a.wf.dj c w
      rw [a.hF _ _ hu] at this; cases this
    · rw [h] at q; cases q
    · exact q z
  · rcases b.new c h with q | q | q
    · exact a.new c (.inr q)
    · refine .inr ?_
      cases e : H c with
      | none => exact .inl rfl
      | some o =>
        refine .inr fun z => ?_
        rw [a.frame c o e z] at q; cases q
    · exact a.new c (.inl q)
theorem Wf.sub (w : Wf F H f) (l : ∀ a, f' a ≤ f a) : Wf F H f' := ⟨w.le, fun a => Nat.le_trans (l a) (w.one a), fun a h => w.dj a (by have := l a; omega)⟩
theorem Stp.sub (s : Stp F H f F' H' f') (l : ∀ a, f1 a ≤ f' a) : Stp F H f F' H' f1 :=
  ⟨s.hF, s.wf.sub l, s.frame, fun a h => s.new a (h.elim (fun z => .inl (by have := l a; omega)) .inr)⟩
/-- a new value beside the slots -/
theorem Wf.add (w : Wf F H f) (gd : Gd false f1 H1 F g) (m : ∀ a, f a ≠ 0 → ∃ u, H1 a = some u ∧ Own u) : Wf F H (fun a => f a + g a) := by
  obtain ⟨n1, n2, n3⟩ := gd.n
  refine ⟨w.le, fun a => ?_, fun a h => ?_⟩
  · by_cases z : g a = 0
    · have := w.one a; show f a + g a ≤ 1; omega
    · by_cases y : f a = 0
      · have := n1 a; show f a + g a ≤ 1; omega
      · obtain ⟨u, hu, _⟩ := m a y
        rw [n2 a z] at hu; cases hu
  · by_cases z : g a = 0
    · exact w.dj a (by have h' : f a + g a ≠ 0 := h; omega)
    · exact n3 a z
theorem Ext.stp (e : Ext F H F' H') (w : Wf F H f) (m : ∀ a, f a ≠ 0 → ∃ u, H a = some u ∧ Own u) (gd : Gd false f1 H F' g) : Stp F H f F' H' (fun a => f a + g a) := by
  obtain ⟨n1, n2, n3⟩ := gd.n
  refine ⟨e.hF, (w.ext e m).add gd m, fun a o h _ => e.hH a o h, fun a h => ?_⟩
  rcases h with h | h
  · by_cases z : g a = 0
    · exact .inr (.inr (by have h' : f a + g a ≠ 0 := h; omega))
    · exact .inr (.inl (n2 a z))
  · exact (e.new a h).elim .inl fun z => .inr (.inl z)
theorem Ext.stp0 (e : Ext F H F' H') (w : Wf F H f) (m : ∀ a, f a ≠ 0 → ∃ u, H a = some u ∧ Own u) : Stp F H f F' H' f :=
  (e.stp (f1 := zf) w m Gd.zero).sub fun a => Nat.le_add_right _ _
end

inductive Out where
  | nx (ρ : Env) | rt (o : O) (ρ : Env) | bk (ρ : Env) | ct (ρ : Env) | er (c : Nat) (ρ : Env)
def Pin (pn : Nat → Bool) (σ σ' : L2.St) : Prop := σ'.length = σ.length ∧ ∀ i, pn i = true → σ'[i]? = σ[i]?
theorem Pin.refl {pn : Nat → Bool} {σ : L2.St} : Pin pn σ σ := ⟨rfl, fun _ _ => rfl⟩
theorem Pin.trans {pn : Nat → Bool} {σ σ1 σ2 : L2.St} (a : Pin pn σ σ1) (b : Pin pn σ1 σ2) : Pin pn σ σ2 := ⟨b.1.trans a.1, fun i h => (b.2 i h).trans (a.2 i h)⟩
theorem Pin.set {pn : Nat → Bool} {σ : L2.St} {i : Nat} {x : Option V} (h : pn i = false) : Pin pn σ (σ.set i x) := ⟨List.length_set, fun j hj => by
  rw [List.getElem?_set_ne]
  intro e
  subst e
  rw [h] at hj
  cases hj⟩
def Kst (K : PySem.W.Frag) (ct : Nat → Addr) (pn : Nat → Bool) (W : WX) (F H : Hp) (f : Fp) (σ : L2.St) (out : Out) (D : Ends) : Prop := match out with
  | .nx ρ' => ∀ σ' F' H' f', Stp F H f F' H' f' → SRep K ct F' H' ρ' σ' f' → Pin pn σ σ' → D.nx σ' H'
  | .bk ρ' => ∀ σ' F' H' f', Stp F H f F' H' f' → SRep K ct F' H' ρ' σ' f' → Pin pn σ σ' → D.bk σ' H'
  | .ct ρ' => ∀ σ' F' H' f', Stp F H f F' H' f' → SRep K ct F' H' ρ' σ' f' → Pin pn σ σ' → D.ct σ' H'
  | .rt o ρ' => ∀ v σ' F' H' g f', Stp F H f F' H' (fun a => g a + f' a) → Rep K ct F' H' o v g → SRep K ct F' H' ρ' σ' f' → Pin pn σ σ' → D.rt v H'
  | .er c ρ' => ∀ σ' F' H' f', Stp F H f F' H' f' → SRep K ct F' H' ρ' σ' f' → Pin pn σ σ' → W (.ref (ct c)) none σ' H'
theorem Kst.go {K : PySem.W.Frag} {ct : Nat → Addr} {pn : Nat → Bool} {W : WX} {F H F1 H1 : Hp} {f f1 : Fp} {σ σ1 : L2.St} {out : Out} {D : Ends} (k : Kst K ct pn W F H f σ out D) (s : Stp F H f F1 H1 f1) (p : Pin pn σ σ1) : Kst K ct pn W F1 H1 f1 σ1 out D := by
  cases out with
  | nx ρ' => exact fun σ' F' H' f' s' r p' => k σ' F' H' f' (s.trans s') r (p.trans p')
  | bk ρ' => exact fun σ' F' H' f' s' r p' => k σ' F' H' f' (s.trans s') r (p.trans p')
  | ct ρ' => exact fun σ' F' H' f' s' r p' => k σ' F' H' f' (s.trans s') r (p.trans p')
  | rt o ρ' => exact fun v σ' F' H' g f' s' r0 r p' => k v σ' F' H' g f' (s.trans s') r0 r (p.trans p')
  | er c ρ' => exact fun σ' F' H' f' s' r p' => k σ' F' H' f' (s.trans s') r (p.trans p')
def tSt (ct : Nat → Addr) (K : PySem.W.Frag) (pn : Nat → Bool) (W : WX) (d : Env → Option Out) : TS := fun D σ H =>
  ∃ F ρ f out, Sit K ct F H ρ σ f ∧ d ρ = some out ∧ Kst K ct pn W F H f σ out D
def SS (ct : Nat → Addr) (X : Cx) (pn : Nat → Bool) (W : WX) (st : Stmt) (d : Env → Option Out) : Prop := PS X st (tSt ct X.K pn W d)
def SSs (ct : Nat → Addr) (X : Cx) (pn : Nat → Bool) (W : WX) (st : List Stmt) (d : Env → Option Out) : Prop := PSs X st (tSt ct X.K pn W d)

/-! one slot and the rest -/
theorem SRep.hole {K : PySem.W.Frag} {ct : Nat → Addr} {F H : Hp} : ∀ {ρ : Env} {σ : L2.St} {f : Fp} (i : Nat), i < ρ.length → SRep K ct F H ρ σ f → ∃ g h : Fp, (f = fun a => g a + h a) ∧
    (∀ o, look ρ i = some o → ∃ v, σ[i]? = some (some v) ∧ Rep K ct F H o v g) ∧
    ∀ F' H', Same F F' → (∀ a, h a ≠ 0 → H' a = H a) →
      (∀ o' v' g', Rep K ct F' H' o' v' g' → SRep K ct F' H' (ρ.set i (some o')) (σ.set i (some v')) (fun a => g' a + h a)) ∧ (∀ x, SRep K ct F' H' (ρ.set i none) (σ.set i x) h)
  | [], _, _, _, hi, _ => by simp at hi
  | none :: ρ, [], f, i, hi, h => (show False from h).elim
  | none :: ρ, s :: σ, f, 0, hi, h => by
    have h' : SRep K ct F H ρ σ f := h
    refine ⟨zf, f, by funext a; simp [zf], fun o e => by simp [look] at e, fun F' H' hF k => ⟨fun o' v' g' r => ?_, fun x => ?_⟩⟩
    · exact ⟨g', f, r, SRep.mono hF k h', rfl⟩
    · exact SRep.mono hF k h'
  | none :: ρ, s :: σ, f, i + 1, hi, h => by
    have h' : SRep K ct F H ρ σ f := h
    obtain ⟨g, l, ef, hl, hf⟩ := SRep.hole i (by simpa using hi) h'
    refine ⟨g, l, ef, fun o e => ?_, fun F' H' hF k => ?_⟩
    · obtain ⟨v, e1, r⟩ := hl o (by simpa [look] using e)
      exact ⟨v, by simpa using e1, r⟩
    · obtain ⟨p1, p2⟩ := hf F' H' hF k
      exact ⟨fun o' v' g' r => p1 o' v' g' r, fun x => p2 x⟩
  | some o :: ρ, [], _, _, _, h => (show False from h).elim
  | some o :: ρ, none :: σ, _, _, _, h => (show False from h).elim
  | some o :: ρ, some v :: σ, f, 0, hi, h => by
    obtain ⟨g, l, r, rs, ef⟩ := (show ∃ g h, Rep K ct F H o v g ∧ SRep K ct F H ρ σ h ∧ f = fun a => g a + h a from h)
    refine ⟨g, l, ef, fun o' e => ?_, fun F' H' hF k => ⟨fun o' v' g' r' => ?_, fun x => ?_⟩⟩
    · have e' : o = o' := by simpa [look] using e
      subst e'
      exact ⟨v, rfl, r⟩
    · exact ⟨g', l, r', SRep.mono hF k rs, rfl⟩
    · exact SRep.mono hF k rs
  | some o :: ρ, some v :: σ, f, i + 1, hi, h => by
    obtain ⟨g0, l0, r, rs, ef⟩ := (show ∃ g h, Rep K ct F H o v g ∧ SRep K ct F H ρ σ h ∧ f = fun a => g a + h a from h)
    obtain ⟨g, l, ef', hl, hf⟩ := SRep.hole i (by simpa using hi) rs
    refine ⟨g, fun a => g0 a + l a, ?_, fun o' e => ?_, fun F' H' hF k => ?_⟩
    · funext a
      rw [ef, ef']
      show g0 a + (g a + l a) = g a + (g0 a + l a)
      omega
    · obtain ⟨v', e1, r'⟩ := hl o' (by simpa [look] using e)
      exact ⟨v', by simpa using e1, r'⟩
    · have k0 : ∀ a, g0 a ≠ 0 → H' a = H a := fun a z => k a (by show g0 a + l a ≠ 0; omega)
      obtain ⟨p1, p2⟩ := hf F' H' hF fun a z => k a (by show g0 a + l a ≠ 0; omega)
      refine ⟨fun o' v' g' r' => ?_, fun x => ?_⟩
      · refine ⟨g0, _, Rep.mono hF k0 r, p1 o' v' g' r', ?_⟩
        funext a
        show g' a + (g0 a + l a) = g0 a + (g' a + l a)
        omega
      · exact ⟨g0, _, Rep.mono hF k0 r, p2 x, rfl⟩
theorem SRep.len {K : PySem.W.Frag} {ct : Nat → Addr} {F H : Hp} {ρ : Env} {σ : L2.St} {f : Fp} {i : Nat} {o : O} (h : SRep K ct F H ρ σ f) (e : look ρ i = some o) : i < ρ.length ∧ i < σ.length := by
  obtain ⟨v, g, e1, _⟩ := h.get e
  refine ⟨?_, (List.getElem?_eq_some_iff.mp e1).1⟩
  unfold look at e
  split at e
  · rename_i x e2
    exact (List.getElem?_eq_some_iff.mp e2).1
  · cases e

/-! targets -/
def tGt (ct : Nat → Addr) (K : PySem.W.Frag) (pn : Nat → Bool) (dg : O → Env → Option Env) : TG := fun v σ H Q =>
  ∃ F ρ f g o ρ', Sit K ct F H ρ σ f ∧ Rep K ct F H o v g ∧ Wf F H (fun a => f a + g a) ∧ dg o ρ = some ρ' ∧
    ∀ σ' f', SRep K ct F H ρ' σ' f' → (∀ a, f' a ≤ f a + g a) → Pin pn σ σ' → Q σ' H
def tGts (ct : Nat → Addr) (K : PySem.W.Frag) (pn : Nat → Bool) (dg : List O → Env → Option Env) : TGs := fun vs σ H Q =>
  ∃ F ρ f g os ρ', Sit K ct F H ρ σ f ∧ Reps K ct F H os vs g ∧ Wf F H (fun a => f a + g a) ∧ dg os ρ = some ρ' ∧
    ∀ σ' f', SRep K ct F H ρ' σ' f' → (∀ a, f' a ≤ f a + g a) → Pin pn σ σ' → Q σ' H
def SG (ct : Nat → Addr) (X : Cx) (pn : Nat → Bool) (tg : Expr) (dg : O → Env → Option Env) : Prop := PG X tg (tGt ct X.K pn dg)
def SGs (ct : Nat → Addr) (X : Cx) (pn : Nat → Bool) (ts : List Expr) (dg : List O → Env → Option Env) : Prop := PGs X ts (tGts ct X.K pn dg)
def gSet (i : Nat) : O → Env → Option Env := fun o ρ => if i < ρ.length then some (ρ.set i (some o)) else none
def gsNil : List O → Env → Option Env := fun os ρ => match os with
  | [] => some ρ
  | _ => none
def gsCons (d : O → Env → Option Env) (ds : List O → Env → Option Env) : List O → Env → Option Env := fun os ρ => match os with
  | o :: r => match d o ρ with
    | some ρ1 => ds r ρ1
    | none => none
  | [] => none
def gTupO (n : Nat) (ds : List O → Env → Option Env) : O → Env → Option Env := fun o ρ => match o with
  | .tup os => if os.length = n then ds os ρ else none
  | _ => none
theorem PG.imp {X : Cx} {e : Expr} {t t' : TG} (h : PG X e t) (i : ∀ v σ H Q, t' v σ H Q → t v σ H Q) : PG X e t' :=
  ⟨fun pins s σ H v u Q I r hq => h.run pins s σ H v u Q I r (i v σ H Q hq)⟩
theorem PGs.imp {X : Cx} {e : List Expr} {t t' : TGs} (h : PGs X e t) (i : ∀ v σ H Q, t' v σ H Q → t v σ H Q) : PGs X e t' :=
  ⟨fun pins s σ H v u Q I r hq => h.run pins s σ H v u Q I r (i v σ H Q hq)⟩
section
variable {ct : Nat → Addr} {X : Cx} {pn : Nat → Bool} {W : WX} {e : Expr} {es : List Expr} {pos : Pos} {dg : O → Env → Option Env} {dgs : List O → Env → Option Env}
theorem sg_name (i : Nat) {x : Str} (hN : X.N.Nodup) (hp : pn i = false := by rfl) (hi : X.N[i]? = some x := by rfl) (hx : Loc X.env.scope x := by first | exact Or.inl rfl | exact Or.inr rfl) (hf : X.fn x = true ∨ X.env.scope.names.lookup x = some .local := by first | exact .inl rfl | exact .inr rfl) :
    SG ct X pn (.Name x pos) (gSet i) := by
  refine PG.imp (pg_name hN hi hx hf) fun v σ H Q h => ?_
  obtain ⟨F, ρ, f, g, o, ρ', s, r, w, e, q⟩ := h
  unfold gSet at e
  split at e
  · cases e
    obtain ⟨g1, h1, ef, _, hf⟩ := SRep.hole i (by assumption) s.rep
    refine q _ _ ((hf F H (Same.refl _) fun _ _ => rfl).1 o v g r) (fun a => ?_) (Pin.set hp)
    rw [ef]
    show g a + h1 a ≤ g1 a + h1 a + g a
    omega
  · cases e
theorem sgs_nil : SGs ct X pn [] gsNil := by
  refine PGs.imp pgs_nil fun vs σ H Q h => ?_
  obtain ⟨F, ρ, f, g, os, ρ', s, r, w, e, q⟩ := h
  unfold gsNil at e
  split at e
  · cases e
    obtain ⟨e1, e2⟩ := r
    exact ⟨e1, q σ f s.rep (fun a => Nat.le_add_right _ _) Pin.refl⟩
  · cases e
theorem sgs_cons (h1 : SG ct X pn e dg) (h2 : SGs ct X pn es dgs) (hs : (assignEach (e :: es) X.env).map (·.2) = assign e X.env :: (assignEach es X.env).map (·.2) := by rfl) : SGs ct X pn (e :: es) (gsCons dg dgs) := by
  refine PGs.imp (pgs_cons h1 h2 hs) fun vs σ H Q h => ?_
  obtain ⟨F, ρ, f, g, os, ρ', s, r, w, e, q⟩ := h
  unfold gsCons at e
  split at e
  · rename_i o os'
    split at e
    · rename_i ρ1 e1
      obtain ⟨v, vr, g1, g2, ev, r1, r2, eg⟩ := r
      subst ev
      subst eg
      refine ⟨v, vr, rfl, F, ρ, f, g1, o, ρ1, s, r1, w.sub fun a => ?_, e1, fun σ1 f1 rs l p => ?_⟩
      · show f a + g1 a ≤ f a + (g1 a + g2 a); omega
      · refine ⟨F, ρ1, f1, g2, os', ρ', ⟨w.sub fun a => ?_, rs⟩, r2, w.sub fun a => ?_, e, fun σ2 f2 rs2 l2 p2 => ?_⟩
        · have := l a; show f1 a ≤ f a + (g1 a + g2 a); omega
        · have := l a; show f1 a + g2 a ≤ f a + (g1 a + g2 a); omega
        · refine q σ2 f2 rs2 (fun a => ?_) (p.trans p2)
          have := l a
          have := l2 a
          show f2 a ≤ f a + (g1 a + g2 a)
          omega
    · cases e
  · cases e
theorem sg_tup {k n : Nat} (hc : X.calm = true) (h : SGs ct X pn es dgs) (hn : (assignEach es X.env).length = n := by rfl) (hst : (assignEach es X.env).findIdx? (·.1) = none := by rfl) : SG ct X pn (.Tuple es k pos) (gTupO n dgs) := by
  refine PG.imp (pg_tup hc h hn hst) fun v σ H Q h => ?_
  obtain ⟨F, ρ, f, g, o, ρ', s, r, w, e, q⟩ := h
  unfold gTupO at e
  split at e
  · split at e
    · obtain ⟨a, xs, ev, sq, rs⟩ := r
      refine ⟨a, xs, ev, Same.seqT s.wf.le sq, ?_, F, ρ, f, g, _, ρ', s, rs, w, e, q⟩
      rw [← rs.length]
      assumption
    · cases e
  · cases e
end

/-! statements -/
def setS (ρ : Env) (i : Nat) (o : O) : Option Out := if i < ρ.length then some (.nx (ρ.set i (some o))) else none
def dAsg (d : Env → Option O) (dg : O → Env → Option Env) : Env → Option Out := fun ρ => match d ρ with
  | some o => match dg o ρ with
    | some ρ' => some (.nx ρ')
    | none => none
  | none => none
def dRet (d : Env → Option O) : Env → Option Out := fun ρ => match d ρ with
  | some o => some (.rt o ρ)
  | none => none
def dExpr (d : Env → Option O) : Env → Option Out := fun ρ => match d ρ with
  | some _ => some (.nx ρ)
  | none => none
def dRetMv (i : Nat) : Env → Option Out := fun ρ => match look ρ i with
  | some o => some (.rt o (ρ.set i none))
  | none => none
def dIf (t : Env → Option Bool) (a b : Env → Option Out) : Env → Option Out := fun ρ => match t ρ with
  | some true => a ρ
  | some false => b ρ
  | none => none
def dSkip : Env → Option Out := fun ρ => some (.nx ρ)
def dSeq (a b : Env → Option Out) : Env → Option Out := fun ρ => match a ρ with
  | some (.nx ρ') => b ρ'
  | r => r
def dAug (i : Nat) (fn : O → O → Option O) (d : Env → Option O) : Env → Option Out := fun ρ => match look ρ i with
  | some x => match d ρ with
    | some y => match fn x y with
      | some z => setS ρ i z
      | none => none
    | none => none
  | none => none
def dFz (i : Nat) : Env → Option Out := fun ρ => match look ρ i with
  | some o => some (.nx (ρ.set i (some (frz o))))
  | none => none
section
variable {ct : Nat → Addr} {X : Cx} {pn : Nat → Bool} {W : WX} {e tg c : Expr} {pos : Pos} {dg : O → Env → Option Env} {d : Env → Option O} {st : Stmt} {sts : List Stmt} {da db : Env → Option Out} {t : Env → Option Bool} {k : Bool}
theorem asg_go {g : TG} (hg : ∀ v σ H Q, tGt ct X.K pn dg v σ H Q → g v σ H Q) {D : Ends} {σ : L2.St} {H : Hp} (h : tSt ct X.K pn W (dAsg d dg) D σ H) : tAsg (tX ct X.K false d) g D σ H := by
  obtain ⟨F, ρ, f, out, s, e, q⟩ := h
  unfold dAsg at e
  split at e
  · rename_i o eo
    split at e
    · rename_i ρ' eg
      cases e
      refine ⟨F, ρ, f, o, s, eo, fun v F1 H1 g1 ex r gd => hg _ _ _ _ ?_⟩
      have st := ex.stp s.wf s.rep.mem gd
      refine ⟨F1, ρ, f, g1, o, ρ', s.ext ex, r, st.wf, eg, fun σ' f' rs l p => ?_⟩
      exact q σ' F1 H1 f' (st.sub l) rs p
    · cases e
  · cases e
theorem ss_asg (he : SX ct X false e d) (hg : SG ct X pn tg dg) (hs : swapsWithSole [tg] e pos.line X.env = pure false := by rfl) (hw : swappedStores [tg] e X.env = pure none := by rfl)
    (h1 : (assignEach [tg] X.env).map (·.2) = [assign tg X.env] := by rfl) : SS ct X pn W (.Assign [tg] e pos) (dAsg d dg) :=
  PS.imp (ps_asg he hg hs hw h1) fun D σ H h => asg_go (fun _ _ _ _ z => z) h
theorem ss_set (i : Nat) {x : Str} {pos' : Pos} (hN : X.N.Nodup) (he : SX ct X false e d) (hp : pn i = false := by rfl) (hi : X.N[i]? = some x := by rfl) (hx : Loc X.env.scope x := by first | exact Or.inl rfl | exact Or.inr rfl)
    (hs : swapsWith e (some (.Name x pos')) pos.line X.env = pure false := by rfl) (hf : X.fn x = true ∨ X.env.scope.names.lookup x = some .local := by first | exact .inl rfl | exact .inr rfl) : SS ct X pn W (.Assign [.Name x pos'] e pos) (dAsg d (gSet i)) := by
  refine PS.imp (ps_set hN hi hx he hs hf) fun D σ H h => asg_go (fun v σ H Q h => ?_) h
  obtain ⟨F, ρ, f, g, o, ρ', s, r, w, e, q⟩ := h
  unfold gSet at e
  split at e
  · cases e
    obtain ⟨g1, h1, ef, _, hf⟩ := SRep.hole i (by assumption) s.rep
    refine q _ _ ((hf F H (Same.refl _) fun _ _ => rfl).1 o v g r) (fun a => ?_) (Pin.set hp)
    rw [ef]
    show g a + h1 a ≤ g1 a + h1 a + g a
    omega
  · cases e
theorem ss_ret (he : SX ct X false e d) : SS ct X pn W (.Return (some e) pos) (dRet d) := by
  refine PS.imp (ps_ret he) fun D σ H h => ?_
  obtain ⟨F, ρ, f, out, s, e, q⟩ := h
  unfold dRet at e
  split at e
  · rename_i o eo
    cases e
    refine ⟨F, ρ, f, o, s, eo, fun v F1 H1 g1 ex r gd => ?_⟩
    exact q v σ F1 H1 g1 f ((ex.stp s.wf s.rep.mem gd).sub fun a => by show g1 a + f a ≤ f a + g1 a; omega) r (s.ext ex).rep Pin.refl
  · cases e
/-- return x, x moved out of its slot -/
theorem ss_retmv (i : Nat) {x : Str} {pos' : Pos} (hN : X.N[i]? = some x := by rfl) (hv : Vis X.env.scope x := by first | exact Or.inl rfl | exact Or.inr (Or.inl rfl) | exact Or.inr (Or.inr rfl)) (hd : (x == ("__debug__" : Str)) = false := by decide)
    (hcd : (x == ("__classdict__" : Str)) = false := by decide) : SS ct X pn W (.Return (some (.Name x pos')) pos) (dRetMv i) := by
  refine PS.imp (ps_ret (pe_var hN hv hd hcd)) fun D σ H h => ?_
  obtain ⟨F, ρ, f, out, s, e, q⟩ := h
  unfold dRetMv at e
  split at e
  · rename_i o eo
    cases e
    obtain ⟨l1, l2⟩ := s.rep.len eo
    obtain ⟨g, h, ef, hl, hf⟩ := SRep.hole i l1 s.rep
    obtain ⟨v, ev, r⟩ := hl o eo
    refine ⟨v, ev, ?_⟩
    have r2 := (hf F H (Same.refl _) fun _ _ => rfl).2 (some v)
    have es : σ.set i (some v) = σ := by
      apply List.ext_getElem?
      intro j
      rw [List.getElem?_set]
      split
      · rename_i hj
        subst hj
        exact ev.symm
      · rfl
    rw [es] at r2
    exact q v σ F H g h ((Stp.refl s.wf).sub fun a => by rw [ef]; exact Nat.le_refl _) r r2 Pin.refl
  · cases e
theorem ss_expr (he : SX ct X k e d) (hs : swapsWith e none pos.line X.env = pure false := by rfl) : SS ct X pn W (.Expr e pos) (dExpr d) := by
  refine PS.imp (ps_expr he hs) fun D σ H h => ?_
  obtain ⟨F, ρ, f, out, s, e, q⟩ := h
  unfold dExpr at e
  split at e
  · rename_i o eo
    cases e
    refine ⟨F, ρ, f, o, s, eo, fun v F1 H1 g1 ex r gd => ?_⟩
    exact q σ F1 H1 f (ex.stp0 s.wf s.rep.mem) (s.ext ex).rep Pin.refl
  · cases e
theorem ss_if {a b : List Stmt} (hc : ST ct X c t) (ha : SSs ct X pn W a da) (hb : SSs ct X pn W b db) : SS ct X pn W (.If c a b pos) (dIf t da db) := by
  refine PS.imp (ps_if hc ha hb) fun D σ H h => ?_
  obtain ⟨F, ρ, f, out, s, e, q⟩ := h
  unfold dIf at e
  split at e
  · refine ⟨F, ρ, f, true, s, by assumption, fun F1 H1 ex => ?_⟩
    refine iteT ?_
    exact ⟨F1, ρ, f, out, s.ext ex, e, q.go (ex.stp0 s.wf s.rep.mem) Pin.refl⟩
  · refine ⟨F, ρ, f, false, s, by assumption, fun F1 H1 ex => ?_⟩
    refine iteF ?_
    exact ⟨F1, ρ, f, out, s.ext ex, e, q.go (ex.stp0 s.wf s.rep.mem) Pin.refl⟩
  · cases e
theorem sss_nil : SSs ct X pn W [] dSkip := by
  refine PSs.imp pss_nil fun D σ H h => ?_
  obtain ⟨F, ρ, f, out, s, e, q⟩ := h
  cases e
  exact q σ F H f (Stp.refl s.wf) s.rep Pin.refl
theorem ss_pass : SS ct X pn W (.Pass pos) dSkip := by
  refine PS.imp ps_pass fun D σ H h => ?_
  obtain ⟨F, ρ, f, out, s, e, q⟩ := h
  cases e
  exact q σ F H f (Stp.refl s.wf) s.rep Pin.refl
theorem ss_never : SS ct X pn W st (fun _ => none) := PS.imp ps_never fun D σ H h => by
  obtain ⟨F, ρ, f, out, s, e, q⟩ := h
  cases e
theorem sss_never : SSs ct X pn W sts (fun _ => none) := PSs.imp pss_never fun D σ H h => by
  obtain ⟨F, ρ, f, out, s, e, q⟩ := h
  cases e
theorem ss_break : SS ct X pn W (.Break pos) (fun ρ => some (.bk ρ)) := by
  refine PS.imp ps_break fun D σ H h => ?_
  obtain ⟨F, ρ, f, out, s, e, q⟩ := h
  cases e
  exact q σ F H f (Stp.refl s.wf) s.rep Pin.refl
theorem ss_continue : SS ct X pn W (.Continue pos) (fun ρ => some (.ct ρ)) := by
  refine PS.imp ps_continue fun D σ H h => ?_
  obtain ⟨F, ρ, f, out, s, e, q⟩ := h
  cases e
  exact q σ F H f (Stp.refl s.wf) s.rep Pin.refl
theorem seq_go {D : Ends} {σ : L2.St} {H : Hp} (h : tSt ct X.K pn W (dSeq da db) D σ H) : tSeq (tSt ct X.K pn W da) (tSt ct X.K pn W db) D σ H := by
  obtain ⟨F, ρ, f, out, s, e, q⟩ := h
  unfold dSeq at e
  split at e
  · rename_i ρ1 e1
    refine ⟨F, ρ, f, _, s, e1, fun σ1 F1 H1 f1 st rs p => ?_⟩
    exact ⟨F1, ρ1, f1, out, ⟨st.wf, rs⟩, e, q.go st p⟩
  · rename_i hn
    refine ⟨F, ρ, f, out, s, e, ?_⟩
    cases out with
    | nx ρ' => exact absurd e (hn ρ')
    | bk ρ' => exact q
    | ct ρ' => exact q
    | rt o ρ' => exact q
    | er c ρ' => exact q
theorem sss_cons (h1 : SS ct X pn W st da) (h2 : SSs ct X pn W sts db) : SSs ct X pn W (st :: sts) (dSeq da db) :=
  PSs.imp (pss_cons h1 h2) fun D σ H h => seq_go h
theorem sss_one (h1 : SS ct X pn W st da) : SSs ct X pn W [st] da := pss_one h1
theorem ss_aug (i : Nat) {x : Str} {op : Operator} {r : R2} {fn : O → O → Option O} {pos' : Pos} (hN : X.N.Nodup) (ho : OpR X (inplaceOp op) r) (hr : Fn2 X ct r fn) (he : SX ct X k e d) (hp : pn i = false := by rfl) (hi : X.N[i]? = some x := by rfl)
    (hx : Loc X.env.scope x := by first | exact Or.inl rfl | exact Or.inr rfl) (hf : X.fn x = true ∨ X.env.scope.names.lookup x = some .local := by first | exact .inl rfl | exact .inr rfl) : SS ct X pn W (.AugAssign (.Name x pos') op e pos) (dAug i fn d) := by
  refine PS.imp (ps_aug hN hi hx he ho hf) fun D σ H h => ?_
  obtain ⟨F, ρ, f, out, s, e, q⟩ := h
  unfold dAug at e
  split at e
  · rename_i x ex
    split at e
    · rename_i y ey
      split at e
      · rename_i z ez
        unfold setS at e
        split at e
        · rename_i hlt
          cases e
          obtain ⟨u, g, e1, r1, l1⟩ := s.rep.get ex
          refine ⟨u, e1, F, ρ, f, y, s, ey, fun v F1 H1 g1 ext ry gd => ?_⟩
          refine hr F1 H1 x y z u v g g1 _ ext.le (r1.ext ext) ry ez fun w F2 H2 g2 ext2 rz gd2 => ?_
          have ext3 := ext.trans ext2
          have s3 := s.ext ext3
          have gd3 : Gd false zf H F2 g2 := by
            obtain ⟨n1, n2, n3⟩ := gd2.n
            exact Gd.mkn n1 (fun a q => ext.hH.free (n2 a q)) n3
          obtain ⟨g', h', ef, _, hf⟩ := SRep.hole i hlt s3.rep
          refine q _ F2 H2 _ ((ext3.stp s.wf s.rep.mem gd3).sub fun a => ?_) ((hf F2 H2 (Same.refl _) fun _ _ => rfl).1 z w g2 rz) (Pin.set hp)
          rw [ef]
          show g2 a + h' a ≤ g' a + h' a + g2 a
          omega
        · cases e
      · cases e
    · cases e
  · cases e
/-- ahead of a block: a slot's data are never written again -/
theorem sss_fz (i : Nat) (h : SSs ct X pn W sts da) : SSs ct X pn W sts (dSeq (dFz i) da) := by
  refine PSs.imp h fun D σ H h => ?_
  obtain ⟨F, ρ, f, out, s, e, q⟩ := h
  unfold dSeq dFz at e
  cases eo : look ρ i with
  | none => rw [eo] at e; cases e
  | some o =>
    rw [eo] at e
    obtain ⟨l1, l2⟩ := s.rep.len eo
    obtain ⟨g, h, ef, hl, hf⟩ := SRep.hole i l1 s.rep
    obtain ⟨v, ev, r⟩ := hl o eo
    have es : σ.set i (some v) = σ := by
      apply List.ext_getElem?
      intro j
      rw [List.getElem?_set]
      split
      · rename_i hj
        subst hj
        exact ev.symm
      · rfl
    let F1 : Hp := fun a => if g a ≠ 0 then H a else F a
    have hF1 : Same F F1 := fun a u hu => by
      show (if g a ≠ 0 then H a else F a) = some u
      by_cases z : g a ≠ 0
      · rw [if_pos z]; exact s.wf.le a u hu
      · rw [if_neg z]; exact hu
    have st : Stp F H f F1 H h := by
      refine ⟨hF1, ⟨fun a u hu => ?_, fun a => ?_, fun a z => ?_⟩, fun _ _ h _ => h, fun a z => ?_⟩
      · have hu' : (if g a ≠ 0 then H a else F a) = some u := hu
        by_cases z : g a ≠ 0
        · rw [if_pos z] at hu'; exact hu'
        · rw [if_neg z] at hu'; exact s.wf.le a u hu'
      · have := s.wf.one a
        rw [ef] at this
        have t : g a + h a ≤ 1 := this
        omega
      · have := s.wf.one a
        rw [ef] at this
        have t : g a + h a ≤ 1 := this
        show (if g a ≠ 0 then H a else F a) = none
        rw [if_neg (by omega)]
        refine s.wf.dj a ?_
        rw [ef]
        show g a + h a ≠ 0
        omega
      · rcases z with z | z
        · refine .inr (.inr ?_)
          rw [ef]; show g a + h a ≠ 0; omega
        · by_cases y : g a ≠ 0
          · refine .inr (.inr ?_)
            rw [ef]; show g a + h a ≠ 0; omega
          · have z' : (if g a ≠ 0 then H a else F a) ≠ none := z
            rw [if_neg y] at z'
            exact .inl z'
    have r2 := (hf F1 H hF1 fun _ _ => rfl).1 (frz o) v zf (r.frz hF1 fun a z => if_pos z)
    rw [es] at r2
    have ez : (fun a => zf a + h a) = h := by funext a; simp [zf]
    rw [ez] at r2
    exact ⟨F1, _, h, out, ⟨st.wf, r2⟩, e, q.go st Pin.refl⟩
end
end Mini
namespace Mini
open PySem PySem.Spec PyProof.Rows L2

/-! what a loop walks: frozen items -/
def Walks (K : PySem.W.Frag) (ct : Nat → Addr) (J : It) (os : List O) (F : Hp) : Prop := ∀ F2 H2, Same F F2 → Same F2 H2 → ∀ i,
  (os.length ≤ i → J.stop i H2) ∧ ∀ o, os[i]? = some o → J.go i H2 ∧ ∀ x H3, J.yld i H2 x H3 → ∃ F3, Ext F2 H2 F3 H3 ∧ Rep K ct F3 H3 o x zf
def tI (ct : Nat → Addr) (K : PySem.W.Frag) (d : Env → Option (List O)) : TI := fun σ H R =>
  ∃ F ρ f os, Sit K ct F H ρ σ f ∧ d ρ = some os ∧ ∀ J F' H', Ext F H F' H' → Walks K ct J os F' → R J H'
def SI (ct : Nat → Addr) (X : Cx) (tg iter : Expr) (d : Env → Option (List O)) : Prop := PI X tg iter (tI ct X.K d)
theorem PI.imp {X : Cx} {tg e : Expr} {t t' : TI} (h : PI X tg e t) (i : ∀ σ H Q, t' σ H Q → t σ H Q) : PI X tg e t' :=
  ⟨fun pins s σ H R I hq => h.run pins s σ H R I (i σ H R hq)⟩
section
variable {ct : Nat → Addr} {X : Cx} {tg e a b : Expr} {d da db : Env → Option O} {k k1 k2 : Bool}
/-- a list or a tuple -/
theorem pi_seq {te : TE} (he : PE X e te) : PI X tg e (fun σ H R => te σ H fun x H1 => ∃ a, x = .ref a ∧ (((∃ xs, SqL X.K H1 a xs) ∧ R (Itl X.K a) H1) ∨ ((∃ xs, SqT X.K H1 a xs) ∧ R (Itt X.K a) H1))) := by
  refine ⟨fun pins s σ H R I h => ?_⟩
  refine thn (he.run pins s σ H _ I h) fun v s1 ⟨x, H1, I1, r1, q1⟩ => ?_
  obtain ⟨a, e, q⟩ := q1
  subst e
  cases r1
  rcases q with ⟨⟨xs, hq⟩, q⟩ | ⟨⟨xs, hq⟩, q⟩
  · obtain ⟨its, rv, p, hz⟩ := I1.list hq
    refine wpAny_pyIter_list p.isList ?_
    refine ⟨s1.heap.objs.size, [s1.heap.objs.size], _, _, H1, rfl, I1.kept (t' := s1.toks) fun b o e => Heap.get?_push_of_some _ e, turn_list a _, ⟨_, Heap.get?_push_size _ rfl, rfl, rfl⟩, fun b hb => ?_, q⟩
    have e : b = s1.heap.objs.size := by simpa using hb
    subst e
    exact I1.fpOk (Nat.le_refl _) (I1.hok.fresh (Nat.le_refl _))
  · obtain ⟨its, rv, p, hz⟩ := I1.tuple hq
    refine wpAny_pyIter_tuple (show s1.heap.IsTuple a its.toArray from p) ?_
    refine ⟨s1.heap.objs.size, [s1.heap.objs.size], _, _, H1, rfl, I1.kept (t' := s1.toks) fun b o e => Heap.get?_push_of_some _ e, turn_tuple a _, ⟨_, Heap.get?_push_size _ rfl, rfl, rfl⟩, fun b hb => ?_, q⟩
    have e : b = s1.heap.objs.size := by simpa using hb
    subst e
    exact I1.fpOk (Nat.le_refl _) (I1.hok.fresh (Nat.le_refl _))
/-- the items of a list or a tuple; of a variable's: they must be frozen -/
def itO (k : Bool) : O → Option (List O)
  | .lst w os => if k = true then (if w = false then some os else none) else some (frzs os)
  | .tup os => if k = true then (if isFzs os = true then some os else none) else some (frzs os)
  | _ => none
def dIt (k : Bool) (d : Env → Option O) : Env → Option (List O) := fun ρ => match d ρ with
  | some o => itO k o
  | none => none
theorem walks_l {K : PySem.W.Frag} {os : List O} {F : Hp} {p : Addr} {xs : List V} (sq : SqL K F p xs) (r : ∀ F2 H2, Same F F2 → Reps K ct F2 H2 os xs zf) : Walks K ct (Itl K p) os F := fun F2 H2 h1 h2 i => by
  have sq2 : SqL K H2 p xs := Same.seq h2 (Same.seq h1 sq)
  have r2 := r F2 H2 h1
  refine ⟨fun hi => ⟨xs, sq2, by rw [← r2.length]; exact hi⟩, fun o ho => ?_⟩
  obtain ⟨v, g, e1, rv, l⟩ := r2.at ho
  refine ⟨⟨xs, v, sq2, e1⟩, fun x H3 hy => ?_⟩
  obtain ⟨eH, hy⟩ := hy
  subst eH
  have ex := hy xs sq2
  rw [e1] at ex
  cases ex
  have gz : g = zf := by funext a; exact Nat.le_zero.mp (l a)
  subst gz
  exact ⟨F2, Ext.refl h2, rv⟩
theorem walks_t {K : PySem.W.Frag} {os : List O} {F : Hp} {p : Addr} {xs : List V} (sq : SqT K F p xs) (r : ∀ F2 H2, Same F F2 → Reps K ct F2 H2 os xs zf) : Walks K ct (Itt K p) os F := fun F2 H2 h1 h2 i => by
  have sq2 : SqT K H2 p xs := Same.seqT h2 (Same.seqT h1 sq)
  have r2 := r F2 H2 h1
  refine ⟨fun hi => ⟨xs, sq2, by rw [← r2.length]; exact hi⟩, fun o ho => ?_⟩
  obtain ⟨v, g, e1, rv, l⟩ := r2.at ho
  refine ⟨⟨xs, v, sq2, e1⟩, fun x H3 hy => ?_⟩
  obtain ⟨eH, hy⟩ := hy
  subst eH
  have ex := hy xs sq2
  rw [e1] at ex
  cases ex
  have gz : g = zf := by funext a; exact Nat.le_zero.mp (l a)
  subst gz
  exact ⟨F2, Ext.refl h2, rv⟩
/-- new values are frozen -/
theorem freeze {K : PySem.W.Frag} {F H F1 H1 : Hp} {g : Fp} (e : Ext F H F1 H1) (gd : Gd false zf H F1 g) (m : ∀ a, g a ≠ 0 → ∃ u, H1 a = some u ∧ Own u) :
    Same F1 (fun a => if g a ≠ 0 then H1 a else F1 a) ∧ Ext F H (fun a => if g a ≠ 0 then H1 a else F1 a) H1 := by
  obtain ⟨n1, n2, n3⟩ := gd.n
  have h1 : Same F1 (fun a => if g a ≠ 0 then H1 a else F1 a) := fun a u hu => by
    show (if g a ≠ 0 then H1 a else F1 a) = some u
    by_cases z : g a ≠ 0
    · rw [if_pos z]; exact e.le a u hu
    · rw [if_neg z]; exact hu
  refine ⟨h1, e.hF.trans h1, e.hH, fun a u hu => ?_, fun a z => ?_⟩
  · have hu' : (if g a ≠ 0 then H1 a else F1 a) = some u := hu
    by_cases z : g a ≠ 0
    · rw [if_pos z] at hu'; exact hu'
    · rw [if_neg z] at hu'; exact e.le a u hu'
  · by_cases y : g a ≠ 0
    · exact .inr (n2 a y)
    · have z' : (if g a ≠ 0 then H1 a else F1 a) ≠ none := z
      rw [if_neg y] at z'
      exact e.new a z'
theorem si_seq (he : SX ct X k e d) : SI ct X tg e (dIt k d) := by
  refine PI.imp (pi_seq he) fun σ H R h => ?_
  obtain ⟨F, ρ, f, os, s, e, q⟩ := h
  unfold dIt at e
  split at e
  · rename_i o eo
    refine ⟨F, ρ, f, o, s, eo, fun v F1 H1 g ex r gd => ?_⟩
    cases k with
    | false =>
      have gd' : Gd false zf H F1 g := by
        obtain ⟨n1, n2, n3⟩ := gd.n
        exact Gd.mkn n1 n2 n3
      obtain ⟨h1, h2⟩ := freeze (K := X.K) ex gd' r.mem
      cases o with
      | lst w os' =>
        have eo' : some (frzs os') = some os := e
        cases eo'
        have rf := r.frz (H' := H1) h1 fun a z => if_pos z
        obtain ⟨p, xs, ev, sq, rs, _⟩ := rf
        refine ⟨p, ev, .inl ⟨⟨xs, Same.seq h2.le sq⟩, q _ _ _ h2 (walks_l sq fun F2 H2 hh => Reps.mono hh (fun a z => absurd rfl z) rs)⟩⟩
      | tup os' =>
        have eo' : some (frzs os') = some os := e
        cases eo'
        have rf := r.frz (H' := H1) h1 fun a z => if_pos z
        obtain ⟨p, xs, ev, sq, rs⟩ := rf
        exact ⟨p, ev, .inr ⟨⟨xs, Same.seqT h2.le sq⟩, q _ _ _ h2 (walks_t sq fun F2 H2 hh => Reps.mono hh (fun a z => absurd rfl z) rs)⟩⟩
      | _ => cases e
    | true =>
      cases o with
      | lst w os' =>
        have eo' : (if w = false then some os' else none) = some os := e
        cases w with
        | true => cases eo'
        | false =>
          cases eo'
          obtain ⟨p, xs, ev, sq, rs, _⟩ := r
          refine ⟨p, ev, .inl ⟨⟨xs, Same.seq ex.le sq⟩, q _ _ _ ex (walks_l sq fun F2 H2 hh => Reps.mono hh (fun a z => absurd rfl z) rs)⟩⟩
      | tup os' =>
        have eo' : (if isFzs os' = true then some os' else none) = some os := e
        split at eo'
        · rename_i z
          cases eo'
          obtain ⟨p, xs, ev, sq, rs⟩ := r
          have gz := rs.fz0 z
          subst gz
          exact ⟨p, ev, .inr ⟨⟨xs, Same.seqT ex.le sq⟩, q _ _ _ ex (walks_t sq fun F2 H2 hh => Reps.mono hh (fun a z => absurd rfl z) rs)⟩⟩
        · cases eo'
      | _ => cases e
  · cases e

/-! range -/
def rngs (lo : Int) (n : Nat) : List O := (List.range n).map fun (i : Nat) => O.int (lo + i)
def rOk (j : Int) : Bool := decide (-(2 ^ 62) ≤ j) && decide (j < 2 ^ 62)
def dRng1 (d : Env → Option O) : Env → Option (List O) := fun ρ => match d ρ with
  | some (.int j) => if rOk j = true then some (rngs 0 j.toNat) else none
  | _ => none
def dRng2 (da db : Env → Option O) : Env → Option (List O) := fun ρ => match da ρ with
  | some (.int i) => match db ρ with
    | some (.int j) => if (rOk i && rOk j) = true then some (rngs i (j - i).toNat) else none
    | _ => none
  | _ => none
theorem walks_r {K : PySem.W.Frag} {F : Hp} {lo : Int} {n : Nat} : Walks K ct (Itr lo n) (rngs lo n) F := fun F2 H2 h1 h2 i => by
  have hl : (rngs lo n).length = n := by simp [rngs]
  refine ⟨fun hi => by rw [hl] at hi; exact hi, fun o ho => ?_⟩
  have hi : i < n := by rw [← hl]; exact (List.getElem?_eq_some_iff.mp ho).1
  have eo : o = .int (lo + i) := by
    simp [rngs, hi] at ho
    exact ho.symm
  subst eo
  refine ⟨hi, fun x H3 hy => ?_⟩
  obtain ⟨eH, ex⟩ := hy
  subst eH
  exact ⟨F2, Ext.refl h2, ex, rfl⟩
theorem rOk_b {j : Int} (h : rOk j = true) : -(2 ^ 62) ≤ j ∧ j < 2 ^ 62 := by
  unfold rOk at h
  rw [Bool.and_eq_true] at h
  exact ⟨of_decide_eq_true h.1, of_decide_eq_true h.2⟩
theorem si_rng1 {p pos : Pos} (hm : X.mg "range" = none) (ha : SX ct X k1 a da) (hg : Gl X "range" := by rfl) (hs : starEach [a] X.env = [(false, eval a X.env)] := by rfl) : SI ct X tg (.Call (.Name "range" p) [a] [] pos) (dRng1 da) := by
  refine PI.imp (pi_range1 hg hm (pa_cons ha pa_nil hs) hs) fun σ H R h => ?_
  obtain ⟨F, ρ, f, os, s, e, q⟩ := h
  unfold dRng1 at e
  split at e
  · split at e
    · rename_i j ej hj
      cases e
      refine ⟨F, ρ, f, _, s, ej, fun v F1 H1 g ex r gd => ?_⟩
      obtain ⟨rfl, _⟩ := r
      obtain ⟨b1, b2⟩ := rOk_b hj
      exact ⟨j, rfl, b1, b2, q _ F1 H1 ex walks_r⟩
    · cases e
  · cases e
theorem si_rng2 {p pos : Pos} (hm : X.mg "range" = none) (ha : SX ct X k1 a da) (hb : SX ct X k2 b db) (hg : Gl X "range" := by rfl) (hs : starEach [a, b] X.env = [(false, eval a X.env), (false, eval b X.env)] := by rfl) (hs2 : starEach [b] X.env = [(false, eval b X.env)] := by rfl) :
    SI ct X tg (.Call (.Name "range" p) [a, b] [] pos) (dRng2 da db) := by
  refine PI.imp (pi_range2 hg hm (pa_cons ha (pa_cons hb pa_nil hs2) (by rw [hs, hs2])) hs hs2) fun σ H R h => ?_
  obtain ⟨F, ρ, f, os, s, e, q⟩ := h
  unfold dRng2 at e
  split at e
  · split at e
    · split at e
      · rename_i i ei _ j ej hj
        cases e
        refine ⟨F, ρ, f, _, s, ei, fun v F1 H1 g ex r gd => ?_⟩
        refine ⟨F1, ρ, f, _, s.ext ex, ej, fun v2 F2 H2 g2 ex2 r2 gd2 => ?_⟩
        obtain ⟨rfl, _⟩ := r
        obtain ⟨rfl, _⟩ := r2
        rw [Bool.and_eq_true] at hj
        obtain ⟨b1, b2⟩ := rOk_b hj.1
        obtain ⟨b3, b4⟩ := rOk_b hj.2
        exact ⟨i, j, rfl, ⟨b1, b2, b3, b4⟩, q _ F2 H2 (ex.trans ex2) walks_r⟩
      · cases e
    · cases e
  · cases e
end

/-! for -/
def lFor (dg : O → Env → Option Env) (body : Env → Option Out) : List O → Env → Option Out
  | [], ρ => some (.nx ρ)
  | o :: os, ρ => match dg o ρ with
    | some ρ1 => match body ρ1 with
      | some (.nx ρ2) => lFor dg body os ρ2
      | some (.ct ρ2) => lFor dg body os ρ2
      | some (.bk ρ2) => some (.nx ρ2)
      | some (.rt o ρ2) => some (.rt o ρ2)
      | some (.er c ρ2) => some (.er c ρ2)
      | none => none
    | none => none
def dFor (di : Env → Option (List O)) (dg : O → Env → Option Env) (body : Env → Option Out) : Env → Option Out := fun ρ => match di ρ with
  | some os => lFor dg body os ρ
  | none => none
section
variable {ct : Nat → Addr} {X : Cx} {pn : Nat → Bool} {W : WX} {tg iter : Expr} {di : Env → Option (List O)} {dg : O → Env → Option Env} {body : List Stmt} {db : Env → Option Out} {pos : Pos}
theorem ss_for (hp : PassesOwn (model X.prog X.w) X.A X.env X.xe) (hc : X.calm = true) (hi : SI ct X tg iter di) (hg : SG ct X pn tg dg) (hb : SSs ct X pn W body db)
    (hs : ∀ x, foldedSetIterable iter X.env x = pure x := by intro _; rfl) : SS ct X pn W (.For tg iter body [] pos) (dFor di dg db) := by
  refine PS.imp (ps_for hp hc hi hg hb hs) fun D σ H h => ?_
  obtain ⟨F, ρ, f, out, s, e, q⟩ := h
  unfold dFor at e
  split at e
  · rename_i os eo
    refine ⟨F, ρ, f, os, s, eo, fun J F1 H1 ex wk => ?_⟩
    have q1 := q.go (ex.stp0 s.wf s.rep.mem) (Pin.refl (σ := σ))
    refine ⟨fun i m σ' H' => m = os.length - i ∧ i ≤ os.length ∧ ∃ F' ρ' f', Sit X.K ct F' H' ρ' σ' f' ∧ Same F1 F' ∧ lFor dg db (os.drop i) ρ' = some out ∧ Kst X.K ct pn W F' H' f' σ' out D,
      ⟨os.length, rfl, Nat.zero_le _, F1, ρ, f, s.ext ex, Same.refl _, e, q1⟩, ?_⟩
    rintro i m σ' H' ⟨rfl, hi', F', ρ', f', s', hF', e', q'⟩
    obtain ⟨hst, hgo⟩ := wk F' H' hF' s'.wf.le i
    by_cases hlt : i < os.length
    · have ho : os[i]? = some os[i] := List.getElem?_eq_getElem hlt
      obtain ⟨go, hy⟩ := hgo _ ho
      have ed : os.drop i = os[i] :: os.drop (i + 1) := List.drop_eq_getElem_cons hlt
      rw [ed] at e'
      refine .inr ⟨go, fun σ'' H'' => ∃ F'' ρ'' f'', Sit X.K ct F'' H'' ρ'' σ'' f'' ∧ Same F1 F'' ∧ lFor dg db (os.drop (i + 1)) ρ'' = some out ∧ Kst X.K ct pn W F'' H'' f'' σ'' out D,
        fun σ'' H'' n => ⟨os.length - (i + 1), by omega, rfl, hlt, n⟩, fun x H3 y => ?_⟩
      obtain ⟨F3, ex3, r3⟩ := hy x H3 y
      have s3 := s'.ext ex3
      have q3 := q'.go (ex3.stp0 s'.wf s'.rep.mem) (Pin.refl (σ := σ'))
      unfold lFor at e'
      cases e1 : dg os[i] ρ' with
      | none => rw [e1] at e'; cases e'
      | some ρ1 =>
        rw [e1] at e'
        dsimp only at e'
        refine ⟨F3, ρ', f', zf, os[i], ρ1, s3, r3, s3.wf.sub fun a => (by show f' a + zf a ≤ f' a; simp [zf]), e1, fun σ2 f2 rs2 l2 p2 => ?_⟩
        have st2 : Stp F3 H3 f' F3 H3 f2 := (Stp.refl s3.wf).sub fun a => by have := l2 a; simpa [zf] using this
        have q2 := q3.go st2 p2
        have s2 : Sit X.K ct F3 H3 ρ1 σ2 f2 := ⟨st2.wf, rs2⟩
        have hF3 : Same F1 F3 := hF'.trans ex3.hF
        cases e2 : db ρ1 with
        | none => rw [e2] at e'; cases e'
        | some out1 =>
          rw [e2] at e'
          refine ⟨F3, ρ1, f2, out1, s2, e2, ?_⟩
          cases out1 with
          | nx ρ2 => exact fun σ4 F4 H4 f4 st rs p => ⟨F4, ρ2, f4, ⟨st.wf, rs⟩, hF3.trans st.hF, e', q2.go st p⟩
          | ct ρ2 => exact fun σ4 F4 H4 f4 st rs p => ⟨F4, ρ2, f4, ⟨st.wf, rs⟩, hF3.trans st.hF, e', q2.go st p⟩
          | bk ρ2 => cases e'; exact q2
          | rt o ρ2 => cases e'; exact q2
          | er c ρ2 => cases e'; exact q2
    · have ei : i = os.length := by omega
      subst ei
      rw [List.drop_length] at e'
      cases e'
      exact .inl ⟨hst (Nat.le_refl _), q' σ' F' H' f' (Stp.refl s'.wf) s'.rep Pin.refl⟩
  · cases e
end

/-! while, by a number of turns -/
def lWhile (t : Env → Option Bool) (body : Env → Option Out) : Nat → Env → Option Out
  | 0, _ => none
  | n + 1, ρ => match t ρ with
    | some true => match body ρ with
      | some (.nx ρ2) => lWhile t body n ρ2
      | some (.ct ρ2) => lWhile t body n ρ2
      | some (.bk ρ2) => some (.nx ρ2)
      | some (.rt o ρ2) => some (.rt o ρ2)
      | some (.er c ρ2) => some (.er c ρ2)
      | none => none
    | some false => some (.nx ρ)
    | none => none
open Classical in
noncomputable def dWhile (t : Env → Option Bool) (body : Env → Option Out) : Env → Option Out := fun ρ =>
  if h : ∃ n, (lWhile t body n ρ).isSome = true then lWhile t body h.choose ρ else none
theorem lWhile_mono {t : Env → Option Bool} {body : Env → Option Out} : ∀ {n : Nat} {ρ : Env} {out : Out}, lWhile t body n ρ = some out → lWhile t body (n + 1) ρ = some out
  | 0, _, _, h => by cases h
  | n + 1, ρ, out, h => by
    rw [lWhile] at h ⊢
    split at h
    · split at h
      · exact lWhile_mono h
      · exact lWhile_mono h
      · exact h
      · exact h
      · exact h
      · cases h
    · exact h
    · cases h
theorem lWhile_le {t : Env → Option Bool} {body : Env → Option Out} {n m : Nat} {ρ : Env} {out : Out} (h : lWhile t body n ρ = some out) (l : n ≤ m) : lWhile t body m ρ = some out := by
  induction l with
  | refl => exact h
  | step _ ih => exact lWhile_mono ih
theorem dWhile_of {t : Env → Option Bool} {body : Env → Option Out} {n : Nat} {ρ : Env} {out : Out} (h : lWhile t body n ρ = some out) : dWhile t body ρ = some out := by
  have hx : ∃ n, (lWhile t body n ρ).isSome = true := ⟨n, by rw [h]; rfl⟩
  unfold dWhile
  rw [dif_pos hx]
  cases e : lWhile t body hx.choose ρ with
  | none => have := hx.choose_spec; rw [e] at this; cases this
  | some o2 =>
    have h1 := lWhile_le h (Nat.le_max_left n hx.choose)
    have h2 := lWhile_le e (Nat.le_max_right n hx.choose)
    rw [h1] at h2
    exact h2.symm
theorem dWhile_to {t : Env → Option Bool} {body : Env → Option Out} {ρ : Env} {out : Out} (h : dWhile t body ρ = some out) : ∃ n, lWhile t body n ρ = some out := by
  unfold dWhile at h
  split at h
  · exact ⟨_, h⟩
  · cases h
section
variable {ct : Nat → Addr} {X : Cx} {pn : Nat → Bool} {W : WX} {c : Expr} {t : Env → Option Bool} {body : List Stmt} {db : Env → Option Out} {pos : Pos}
theorem ss_while (hp : PassesOwn (model X.prog X.w) X.A X.env X.xe) (hc : ST ct X c t) (hb : SSs ct X pn W body db) : SS ct X pn W (.While c body [] pos) (dWhile t db) := by
  refine PS.imp (ps_while hp hc hb) fun D σ H h => ?_
  obtain ⟨F, ρ, f, out, s, e, q⟩ := h
  obtain ⟨n, e⟩ := dWhile_to e
  refine ⟨fun m σ' H' => ∃ F' ρ' f', Sit X.K ct F' H' ρ' σ' f' ∧ lWhile t db m ρ' = some out ∧ Kst X.K ct pn W F' H' f' σ' out D, ⟨n, F, ρ, f, s, e, q⟩, ?_⟩
  rintro m σ' H' ⟨F', ρ', f', s', e', q'⟩
  cases m with
  | zero => cases e'
  | succ m =>
    rw [lWhile] at e'
    cases et : t ρ' with
    | none => rw [et] at e'; cases e'
    | some b =>
      rw [et] at e'
      refine ⟨F', ρ', f', b, s', et, fun F1 H1 ex => ?_⟩
      have q1 := q'.go (ex.stp0 s'.wf s'.rep.mem) (Pin.refl (σ := σ'))
      cases b with
      | false =>
        refine iteF ?_
        cases e'
        exact q1 σ' F1 H1 f' (Stp.refl (s'.ext ex).wf) (s'.ext ex).rep Pin.refl
      | true =>
        refine iteT ?_
        refine ⟨fun σ'' H'' => ∃ F'' ρ'' f'', Sit X.K ct F'' H'' ρ'' σ'' f'' ∧ lWhile t db m ρ'' = some out ∧ Kst X.K ct pn W F'' H'' f'' σ'' out D, fun σ'' H'' n => ⟨m, by omega, n⟩, ?_⟩
        cases e2 : db ρ' with
        | none => rw [e2] at e'; cases e'
        | some out1 =>
          rw [e2] at e'
          refine ⟨F1, ρ', f', out1, s'.ext ex, e2, ?_⟩
          cases out1 with
          | nx ρ2 => exact fun σ4 F4 H4 f4 st rs p => ⟨F4, ρ2, f4, ⟨st.wf, rs⟩, e', q1.go st p⟩
          | ct ρ2 => exact fun σ4 F4 H4 f4 st rs p => ⟨F4, ρ2, f4, ⟨st.wf, rs⟩, e', q1.go st p⟩
          | bk ρ2 => cases e'; exact q1
          | rt o ρ2 => cases e'; exact q1
          | er c ρ2 => cases e'; exact q1
end
end Mini
namespace Mini
open PySem PySem.Spec PyProof.Rows L2

/-! what a def is worth: its value, and its parameters' last states (of those that it never stores to) -/
abbrev Fn := List O → Option (O × Env)
def spF (ct : Nat → Addr) (K : PySem.W.Frag) (n : Nat) (Ff : Fn) : Sp := fun vs H Q _ => vs.length = n ∧ ∃ F os f r fin, Wf F H f ∧ Reps K ct F H os vs f ∧ Ff os = some (r, fin) ∧
  ∀ v F' H' g gf, Stp F H f F' H' (fun a => g a + gf a) → Rep K ct F' H' r v g → SRep K ct F' H' fin (vs.map some) gf → Q v H'
structure FD (P : Program) (w : World) (K : PySem.W.Frag) (mg : Str → Option Value) (base : Heap) (ct : Nat → Addr) (k : Nat) (x : Str) (n : Nat) (Ff : Fn) : Prop where
  ex : ∃ f fd ps, ps.length = n ∧ FnOk P w K mg base CX0 k f fd ps (spF ct K n Ff) ∧ mg x = some (.ref f) ∧ PySem.W.keepIn K (.ref f) = true ∧ Binds K fd ps []
theorem FD.mono {P : Program} {w : World} {K : PySem.W.Frag} {mg : Str → Option Value} {base : Heap} {ct : Nat → Addr} {k k' : Nat} {x : Str} {n : Nat} {Ff : Fn} (D : FD P w K mg base ct k x n Ff) (h : k ≤ k') : FD P w K mg base ct k' x n Ff := by
  obtain ⟨f, fd, ps, h1, h2, h3⟩ := D.ex
  exact ⟨f, fd, ps, h1, h2.mono h, h3⟩
def views : List Bool → List O → List O
  | k :: ks, o :: os => (if k = true then frz o else o) :: views ks os
  | _, _ => []
def okb : List Bool → List O → Bool
  | k :: ks, o :: os => (!k || isFz o) && okb ks os
  | _, _ => true
def dCall (ks : List Bool) (Ff : Fn) (ds : Env → Option (List O)) : Env → Option O := fun ρ => match ds ρ with
  | some os => match Ff (views ks os) with
    | some (r, _) => if (okb ks os || noFm r) = true then some r else none
    | none => none
  | none => none
section
variable {ct : Nat → Addr} {X : Cx} {ks : List Bool} {e : Expr} {es : List Expr} {ds : Env → Option (List O)} {Ff : Fn} {k : Nat} {x : Str} {p pos : Pos} {n : Nat}
theorem ARep.len {K : PySem.W.Frag} {F H : Hp} : ∀ {ks : List Bool} {os : List O} {vs : List V} {gb gv : Fp}, ARep K ct F H ks os vs gb gv → vs.length = ks.length
  | [], [], _, _, _, h => by rw [show _ = ([] : List V) from h.1]; rfl
  | true :: ks, o :: os, _, _, _, h => by
    obtain ⟨v, vr, g, l, e1, r, rs, e2⟩ := h
    subst e1
    simp [ARep.len rs]
  | false :: ks, o :: os, _, _, _, h => by
    obtain ⟨v, vr, g, l, e1, r, rs, e2⟩ := h
    subst e1
    simp [ARep.len rs]
  | [], _ :: _, _, _, _, h => (show False from h).elim
  | true :: _, [], _, _, _, h => (show False from h).elim
  | false :: _, [], _, _, _, h => (show False from h).elim
theorem ARep.view {K : PySem.W.Frag} {F F' H : Hp} (hF : Same F F') : ∀ {ks : List Bool} {os : List O} {vs : List V} {gb gv : Fp}, (∀ a, gb a ≠ 0 → F' a = H a) → ARep K ct F H ks os vs gb gv → Reps K ct F' H (views ks os) vs gv
  | [], [], _, _, _, _, h => ⟨h.1, h.2.2⟩
  | true :: ks, o :: os, _, _, _, hb, h => by
    obtain ⟨v, vr, g, l, e1, r, rs, e2⟩ := h
    subst e2
    refine ⟨v, vr, zf, _, e1, r.frz hF fun a z => hb a (by show g a + l a ≠ 0; omega), ARep.view hF (fun a z => hb a (by show g a + l a ≠ 0; omega)) rs, ?_⟩
    funext a; simp [zf]
  | false :: ks, o :: os, _, _, _, hb, h => by
    obtain ⟨v, vr, g, l, e1, r, rs, e2⟩ := h
    exact ⟨v, vr, g, l, e1, Rep.mono hF (fun _ _ => rfl) r, ARep.view hF hb rs, e2⟩
  | [], _ :: _, _, _, _, _, h => (show False from h).elim
  | true :: _, [], _, _, _, _, h => (show False from h).elim
  | false :: _, [], _, _, _, _, h => (show False from h).elim
theorem ARep.okb {K : PySem.W.Frag} {F H : Hp} : ∀ {ks : List Bool} {os : List O} {vs : List V} {gb gv : Fp}, okb ks os = true → ARep K ct F H ks os vs gb gv → gb = zf
  | [], [], _, _, _, _, h => h.2.1
  | true :: ks, o :: os, _, _, _, z, h => by
    obtain ⟨v, vr, g, l, e1, r, rs, e2⟩ := h
    rw [Mini.okb, Bool.and_eq_true] at z
    rw [e2]
    exact add_zf (r.fz0 (by simpa using z.1)) (ARep.okb z.2 rs)
  | false :: ks, o :: os, _, _, _, z, h => by
    obtain ⟨v, vr, g, l, e1, r, rs, e2⟩ := h
    rw [Mini.okb, Bool.and_eq_true] at z
    exact ARep.okb z.2 rs
  | [], _ :: _, _, _, _, _, h => (show False from h).elim
  | true :: _, [], _, _, _, _, h => (show False from h).elim
  | false :: _, [], _, _, _, _, h => (show False from h).elim
theorem ARep.memb {K : PySem.W.Frag} {F H : Hp} : ∀ {ks : List Bool} {os : List O} {vs : List V} {gb gv : Fp}, ARep K ct F H ks os vs gb gv → ∀ a, gb a ≠ 0 → ∃ u, H a = some u ∧ Own u
  | [], [], _, _, _, h, a, z => absurd (by rw [h.2.1]; rfl) z
  | true :: ks, o :: os, _, _, _, h, a, z => by
    obtain ⟨v, vr, g, l, e1, r, rs, e2⟩ := h
    by_cases q : g a = 0
    · refine ARep.memb rs a ?_
      rw [e2] at z
      have z' : g a + l a ≠ 0 := z
      omega
    · exact r.mem a q
  | false :: ks, o :: os, _, _, _, h, a, z => by
    obtain ⟨v, vr, g, l, e1, r, rs, e2⟩ := h
    exact ARep.memb rs a z
  | [], _ :: _, _, _, _, h, _, _ => (show False from h).elim
  | true :: _, [], _, _, _, h, _, _ => (show False from h).elim
  | false :: _, [], _, _, _, h, _, _ => (show False from h).elim
/-- what a call gives back, for a caller that goes on -/
theorem call_back {K : PySem.W.Frag} {F H F1 H1 : Hp} {f gb gv : Fp} {os : List O} {vs : List V} {r : O} {Q : VK} (wf : Wf F H f) (mf : ∀ a, f a ≠ 0 → ∃ u, H a = some u ∧ Own u) (ex : Ext F H F1 H1) (ar : ARep K ct F1 H1 ks os vs gb gv)
    (hb : ∀ a, gb a ≠ 0 → f a ≠ 0) (hv : Gd false f H F1 gv) (c : (Mini.okb ks os || noFm r) = true) (q : Kn K ct false f F H r Q) :
    Wf (fun a => if gb a ≠ 0 then H1 a else F1 a) H1 gv ∧ Reps K ct (fun a => if gb a ≠ 0 then H1 a else F1 a) H1 (views ks os) vs gv ∧
      ∀ v F' H' (g gf : Fp), Stp (fun a => if gb a ≠ 0 then H1 a else F1 a) H1 gv F' H' (fun a => g a + gf a) → Rep K ct F' H' r v g → Q v H' := by
  obtain ⟨n1, n2, n3⟩ := hv.n
  have hFc : Same F1 (fun a => if gb a ≠ 0 then H1 a else F1 a) := fun a u hu => by
    show (if gb a ≠ 0 then H1 a else F1 a) = some u
    by_cases z : gb a ≠ 0
    · rw [if_pos z]; exact ex.le a u hu
    · rw [if_neg z]; exact hu
  have hsep : ∀ a, gv a ≠ 0 → ¬ gb a ≠ 0 := fun a z y => by
    obtain ⟨u, hu, _⟩ := mf a (hb a y)
    rw [n2 a z] at hu; cases hu
  refine ⟨⟨fun a u hu => ?_, n1, fun a z => ?_⟩, ar.view hFc fun a z => if_pos z, fun v F' H' g gf st rv => ?_⟩
  · have hu' : (if gb a ≠ 0 then H1 a else F1 a) = some u := hu
    by_cases z : gb a ≠ 0
    · rw [if_pos z] at hu'; exact hu'
    · rw [if_neg z] at hu'; exact ex.le a u hu'
  · show (if gb a ≠ 0 then H1 a else F1 a) = none
    rw [if_neg (hsep a z)]
    exact n3 a z
  · have hH : Same H H' := fun a o ho => by
      refine st.frame a o (ex.hH a o ho) (Classical.byContradiction fun z => ?_)
      rw [n2 a z] at ho; cases ho
    have sub : Stp (fun a => if gb a ≠ 0 then H1 a else F1 a) H1 gv F' H' g := st.sub fun a => Nat.le_add_right _ _
    have new1 : ∀ a, g a ≠ 0 → H a = none := fun a z => by
      rcases sub.new a (.inl z) with y | y | y
      · obtain ⟨u, hu⟩ := some_of_ne y
        have := sub.wf.dj a z
        rw [sub.hF a u hu] at this; cases this
      · exact ex.hH.free y
      · exact n2 a y
    by_cases ob : Mini.okb ks os = true
    · have gz := ar.okb ob
      refine q v F' H' g ⟨ex.hF.trans (hFc.trans st.hF), hH, st.wf.le, fun a z => ?_⟩ rv (Gd.mkn sub.wf.one new1 sub.wf.dj)
      rcases sub.new a (.inr z) with y | y | y
      · refine ex.new a ?_
        have y' : (if gb a ≠ 0 then H1 a else F1 a) ≠ none := y
        rw [gz] at y'
        simpa [zf] using y'
      · exact .inr (ex.hH.free y)
      · exact .inr (n2 a y)
    · have nf : noFm r = true := by
        rw [Bool.or_eq_true] at c
        exact c.resolve_left ob
      have own : ∀ a, gb a ≠ 0 → ∃ u, F' a = some u ∧ Own u := fun a z => by
        obtain ⟨u, hu, ou⟩ := ar.memb a z
        exact ⟨u, st.hF a u (by show (if gb a ≠ 0 then H1 a else F1 a) = some u; rw [if_pos z]; exact hu), ou⟩
      refine q v (fun a => if gb a ≠ 0 then none else F' a) H' g ⟨fun a u hu => ?_, hH, fun a u hu => ?_, fun a z => ?_⟩ (rv.thaw (fun a => ?_) nf) (Gd.mkn sub.wf.one new1 fun a z => ?_)
      · show (if gb a ≠ 0 then none else F' a) = some u
        rw [if_neg fun z => by rw [wf.dj a (hb a z)] at hu; cases hu]
        exact st.hF a u (hFc a u (ex.hF a u hu))
      · have hu' : (if gb a ≠ 0 then none else F' a) = some u := hu
        by_cases z : gb a ≠ 0
        · rw [if_pos z] at hu'; cases hu'
        · rw [if_neg z] at hu'; exact st.wf.le a u hu'
      · have z' : (if gb a ≠ 0 then none else F' a) ≠ none := z
        by_cases w : gb a ≠ 0
        · rw [if_pos w] at z'; exact absurd rfl z'
        · rw [if_neg w] at z'
          rcases sub.new a (.inr z') with y | y | y
          · have y' : (if gb a ≠ 0 then H1 a else F1 a) ≠ none := y
            rw [if_neg w] at y'
            exact ex.new a y'
          · exact .inr (ex.hH.free y)
          · exact .inr (n2 a y)
      · by_cases w : gb a ≠ 0
        · left
          obtain ⟨u, hu, ou⟩ := own a w
          refine ⟨fun xs hx => ?_, fun o xs hx => ?_⟩
          · rw [hu] at hx; cases hx; exact ou
          · rw [hu] at hx; cases hx; exact ou
        · right
          show (if gb a ≠ 0 then none else F' a) = F' a
          rw [if_neg w]
      · show (if gb a ≠ 0 then none else F' a) = none
        by_cases w : gb a ≠ 0
        · rw [if_pos w]
        · rw [if_neg w]; exact sub.wf.dj a z
theorem call_go {t : TA} (hn : ks.length = n) (ht : ∀ σ H Q, tA ct X.K ks ds σ H Q → t σ H Q) {σ : L2.St} {H : Hp} {Q : VK} (h : tX ct X.K false (dCall ks Ff ds) σ H Q) : tCall (spF ct X.K n Ff) [] E0 t σ H Q := by
  obtain ⟨F, ρ, f, o, s, e, q⟩ := h
  unfold dCall at e
  split at e
  · rename_i os eos
    split at e
    · rename_i r fin er
      split at e
      · rename_i c
        cases e
        refine ht _ _ _ ⟨F, ρ, f, os, s, eos, fun vs F1 H1 gb gv ex ar hb hv => ?_⟩
        show spF ct X.K n Ff (vs ++ []) H1 Q E0
        rw [List.append_nil]
        obtain ⟨c1, c2, c3⟩ := call_back s.wf s.rep.mem ex ar hb hv c q
        exact ⟨by rw [ar.len, hn], _, _, gv, o, fin, c1, c2, er, fun v F' H' g gf st r _ => c3 v F' H' g gf st r⟩
      · cases e
    · cases e
  · cases e
theorem sx_call {k0 : Bool} (D : FD X.prog X.w X.K X.mg X.base ct k x n Ff) (hr : Room k X.A) (ha : SA ct X (k0 :: ks) (e :: es) ds) (hn : (k0 :: ks).length = n := by rfl) (hg : Gl X x := by rfl) (hdb : (x == ("__debug__" : Str)) = false := by decide)
    (he : starEach (e :: es) X.env = (false, eval e X.env) :: starEach es X.env := by rfl) (hpl : (backTo pos (starEach es X.env)).any (·.1) = false := by rfl) : SX ct X false (.Call (.Name x p) (e :: es) [] pos) (dCall (k0 :: ks) Ff ds) := by
  obtain ⟨f, fd, ps, hps, hF, hm, hk, hb⟩ := D.ex
  exact PE.imp (pe_call hF hr hg hm hk hb .nil pass0 ha hdb he hpl) fun σ H Q h => call_go hn (fun _ _ _ z => z) h
end

/-! a def by its body -/
def fin (pn : Nat → Bool) : Nat → Nat → Env → Env
  | _, 0, _ => []
  | i, n + 1, o :: ρ => (if pn i = true then o else none) :: fin pn (i + 1) n ρ
  | i, n + 1, [] => none :: fin pn (i + 1) n []
def dDef (pn : Nat → Bool) (n m : Nat) (d : Env → Option Out) : Fn := fun os => match d (os.map some ++ List.replicate (m - n) none) with
  | some (.rt o ρ) => some (o, fin pn 0 n ρ)
  | some (.nx ρ) => some (.non, fin pn 0 n ρ)
  | _ => none
section
variable {ct : Nat → Addr} {K : PySem.W.Frag}
theorem SRep.start {F H : Hp} {m : Nat} : ∀ {os : List O} {vs : List V} {f : Fp}, Reps K ct F H os vs f → SRep K ct F H (os.map some ++ List.replicate m none) (vs.map some ++ List.replicate m none) f
  | [], vs, f, h => by
    obtain ⟨e1, e2⟩ := h
    subst e1 e2
    simp only [List.map_nil, List.nil_append]
    induction m with
    | zero => rfl
    | succ m ih =>
      show SRep K ct F H (none :: List.replicate m none) (none :: List.replicate m none) zf
      exact ih
  | o :: os, vs, f, h => by
    obtain ⟨v, vr, g, l, e, r, rs, ef⟩ := h
    subst e
    exact ⟨g, l, r, SRep.start rs, ef⟩
theorem SRep.fin {F H : Hp} {pn : Nat → Bool} : ∀ {vs : List V} {i : Nat} {ρ : Env} {σ : L2.St} {f : Fp}, SRep K ct F H ρ σ f → (∀ j, pn (i + j) = true → j < vs.length → σ[j]? = (vs.map some)[j]?) →
    ∃ f', SRep K ct F H (fin pn i vs.length ρ) (vs.map some) f' ∧ ∀ a, f' a ≤ f a
  | [], _, _, _, _, _, _ => ⟨zf, rfl, fun _ => Nat.zero_le _⟩
  | v :: vs, i, [], σ, f, h, k => by
    obtain ⟨f', h1, h2⟩ := SRep.fin (vs := vs) (i := i + 1) (ρ := []) (σ := σ.tail) (f := f) h fun j hj hl => by
      have := k (j + 1) (by rw [show i + (j + 1) = i + 1 + j by omega]; exact hj) (by simpa using hl)
      cases σ <;> simpa using this
    exact ⟨f', h1, h2⟩
  | v :: vs, i, none :: ρ, [], f, h, k => (show False from h).elim
  | v :: vs, i, some o :: ρ, [], f, h, k => (show False from h).elim
  | v :: vs, i, some o :: ρ, none :: σ, f, h, k => (show False from h).elim
  | v :: vs, i, none :: ρ, x :: σ, f, h, k => by
    obtain ⟨f', h1, h2⟩ := SRep.fin (vs := vs) (i := i + 1) (ρ := ρ) (σ := σ) (f := f) h fun j hj hl => by
      have := k (j + 1) (by rw [show i + (j + 1) = i + 1 + j by omega]; exact hj) (by simpa using hl)
      simpa using this
    refine ⟨f', ?_, h2⟩
    show SRep K ct F H ((if pn i = true then none else none) :: Mini.fin pn (i + 1) vs.length ρ) (some v :: vs.map some) f'
    rw [ite_self]
    exact h1
  | v :: vs, i, some o :: ρ, some u :: σ, f, h, k => by
    obtain ⟨g, l, r, rs, ef⟩ := (show ∃ g h, Rep K ct F H o u g ∧ SRep K ct F H ρ σ h ∧ f = fun a => g a + h a from h)
    obtain ⟨f', h1, h2⟩ := SRep.fin (vs := vs) (i := i + 1) (ρ := ρ) (σ := σ) (f := l) rs fun j hj hl => by
      have := k (j + 1) (by rw [show i + (j + 1) = i + 1 + j by omega]; exact hj) (by simpa using hl)
      simpa using this
    by_cases hi : pn i = true
    · have e1 := k 0 (by simpa using hi) (by simp)
      have e2 : u = v := by simpa using e1
      subst e2
      refine ⟨fun a => g a + f' a, ?_, fun a => by rw [ef]; have := h2 a; show g a + f' a ≤ g a + l a; omega⟩
      show SRep K ct F H ((if pn i = true then some o else none) :: Mini.fin pn (i + 1) vs.length ρ) (some u :: vs.map some) _
      rw [if_pos hi]
      exact ⟨g, f', r, h1, rfl⟩
    · refine ⟨f', ?_, fun a => by rw [ef]; have := h2 a; show f' a ≤ g a + l a; omega⟩
      show SRep K ct F H ((if pn i = true then some o else none) :: Mini.fin pn (i + 1) vs.length ρ) (some v :: vs.map some) _
      rw [if_neg hi]
      exact h1
theorem fd_ok {P : Program} {w : World} {mg : Str → Option Value} {base : Heap} {x qual : Str} {st : Stmt} {f : Addr} {fd : FuncData} {N ps : List Str} {k : Nat} {pn : Nat → Bool} {d : Env → Option Out} (F : Fun K x qual st f fd) (S : FnScope N ps (defScope st))
    (hb : ∀ (cdv : Value) (A : Around) (outer : List PySem.Env) (s : Shared) (H : Hp) (E : XK), Room k (A.deeper (envOfC qual (defScope st) s.heap.objs.size f cdv)) →
      SSs ct (cxOf CX0 P w K mg base N qual (defScope st) f cdv A outer s H E).nox pn (fun _ _ _ _ => False) (defBody st) d) : FnOk P w K mg base CX0 (k + 1) f fd ps (spF ct K ps.length (dDef pn ps.length N.length d)) := by
  refine F.ok S (fun vs H Q E h => h.1) fun cdv A outer s H vs Q E hr h => ⟨_, hb cdv A outer s H E hr, ?_⟩
  obtain ⟨hl, F0, os, f0, r, fn, wf, rs, e, q⟩ := h
  have hstart : SRep K ct F0 H (os.map some ++ List.replicate (N.length - ps.length) none) (start N vs) f0 := by
    unfold L2.start
    rw [hl]
    exact SRep.start rs
  have pin : ∀ {σ' : L2.St}, Pin pn (start N vs) σ' → ∀ j, pn (0 + j) = true → j < vs.length → σ'[j]? = (vs.map some)[j]? := fun p j hj hjl => by
    rw [Nat.zero_add] at hj
    rw [p.2 j hj]
    unfold L2.start
    rw [List.getElem?_append_left (by simpa using hjl)]
  unfold dDef at e
  split at e
  · rename_i o ρ' ed
    cases e
    refine ⟨F0, _, f0, _, ⟨wf, hstart⟩, ed, fun v σ' F' H' g f' st r rs' p => ?_⟩
    obtain ⟨gf, h1, h2⟩ := SRep.fin rs' (pin p)
    rw [hl] at h1
    exact q v F' H' g gf (st.sub fun a => by have := h2 a; show g a + gf a ≤ g a + f' a; omega) r h1
  · rename_i ρ' ed
    cases e
    refine ⟨F0, _, f0, _, ⟨wf, hstart⟩, ed, fun σ' F' H' f' st rs' p => ?_⟩
    obtain ⟨gf, h1, h2⟩ := SRep.fin rs' (pin p)
    rw [hl] at h1
    exact q .non F' H' zf gf (st.sub fun a => by have := h2 a; show zf a + gf a ≤ f' a; simpa [zf] using this) ⟨rfl, rfl⟩ h1
  · cases e
end
theorem FD.mk' {P : Program} {w : World} {K : PySem.W.Frag} {mg : Str → Option Value} {base : Heap} {ct : Nat → Addr} {k : Nat} {x : Str} {f : Addr} {fd : FuncData} {ps : List Str} {Ff : Fn} (h : FnOk P w K mg base CX0 k f fd ps (spF ct K ps.length Ff)) (hm : mg x = some (.ref f)) (hk : PySem.W.keepIn K (.ref f) = true)
    (hb : Binds K fd ps []) : FD P w K mg base ct k x ps.length Ff := ⟨f, fd, ps, rfl, h, hm, hk, hb⟩
end Mini
namespace Mini
open PySem PySem.Spec PyProof.Rows L2
section
variable {ct : Nat → Addr} {K : PySem.W.Frag} {F F' H H' : Hp}
theorem set_self {σ : L2.St} {i : Nat} {v : V} (h : σ[i]? = some (some v)) : σ.set i (some v) = σ := by
  apply List.ext_getElem?
  intro j
  rw [List.getElem?_set]
  split
  · rename_i hj
    subst hj
    rw [if_pos (List.getElem?_eq_some_iff.mp h).1, h]
  · rfl
theorem Reps.app : ∀ {os ps : List O} {vs ws : List V} {f g : Fp}, Reps K ct F H os vs f → Reps K ct F H ps ws g → Reps K ct F H (os ++ ps) (vs ++ ws) (fun a => f a + g a)
  | [], ps, vs, ws, f, g, h, h2 => by
    obtain ⟨e1, e2⟩ := h
    subst e1 e2
    have : (fun a => zf a + g a) = g := by funext a; simp [zf]
    rw [this]
    exact h2
  | o :: os, ps, vs, ws, f, g, h, h2 => by
    obtain ⟨v, vr, g1, l, e, r, rs, ef⟩ := h
    subst e ef
    refine ⟨v, vr ++ ws, g1, _, rfl, r, Reps.app rs h2, ?_⟩
    funext a
    show g1 a + l a + g a = g1 a + (l a + g a)
    omega
theorem Reps.one {o : O} {v : V} {f : Fp} (h : Rep K ct F H o v f) : Reps K ct F H [o] [v] f := ⟨v, [], f, zf, rfl, h, ⟨rfl, rfl⟩, by funext a; simp [zf]⟩
theorem Reps.set {o : O} {v : V} {g : Fp} (hv : Rep K ct F H o v g) : ∀ {os : List O} {vs : List V} {f : Fp} (j : Nat), Reps K ct F H os vs f → ∃ f', Reps K ct F H (os.set j o) (vs.set j v) f' ∧ ∀ a, f' a ≤ f a + g a
  | [], vs, f, j, h => by
    obtain ⟨e1, e2⟩ := h
    subst e1 e2
    exact ⟨zf, ⟨rfl, rfl⟩, fun a => Nat.zero_le _⟩
  | o' :: os, vs, f, 0, h => by
    obtain ⟨v', vr, g1, l, e, r, rs, ef⟩ := h
    subst e ef
    exact ⟨_, ⟨v, vr, g, l, rfl, hv, rs, rfl⟩, fun a => by show g a + l a ≤ g1 a + l a + g a; omega⟩
  | o' :: os, vs, f, j + 1, h => by
    obtain ⟨v', vr, g1, l, e, r, rs, ef⟩ := h
    subst e ef
    obtain ⟨f', h1, h2⟩ := Reps.set hv j rs
    exact ⟨_, ⟨v', vr.set j v, g1, f', rfl, r, h1, rfl⟩, fun a => by have := h2 a; show g1 a + f' a ≤ g1 a + l a + g a; omega⟩
/-- an owned list in a slot is written; gy: what the new items bring -/
theorem SRep.wlist {ρ : Env} {σ : L2.St} {f gy : Fp} {i : Nat} {os : List O} (wf : Wf F H (fun a => f a + gy a)) (h : SRep K ct F H ρ σ f) (e : look ρ i = some (.lst true os)) :
    ∃ a xs g0, σ[i]? = some (some (.ref a)) ∧ H a = some (.lst xs) ∧ Reps K ct F H os xs g0 ∧ g0 a = 0 ∧ gy a = 0 ∧ (∀ b, g0 b ≤ f b) ∧
      ∀ os' xs' g', Reps K ct F (upd H a (.lst xs')) os' xs' g' → (∀ b, g' b ≤ g0 b + gy b) →
        ∃ f', SRep K ct F (upd H a (.lst xs')) (ρ.set i (some (.lst true os'))) σ f' ∧ Stp F H (fun a => f a + gy a) F (upd H a (.lst xs')) f' := by
  obtain ⟨l1, l2⟩ := h.len e
  obtain ⟨g, l, ef, hl, hf⟩ := SRep.hole i l1 h
  obtain ⟨v, ev, r⟩ := hl _ e
  obtain ⟨a, xs, g0, e1, ha, rs, eg⟩ := r
  subst e1
  have one := wf.one a
  have t : f a + gy a ≤ 1 := one
  have fa : f a = 1 + g0 a + l a := by rw [ef, eg]; simp [bump]
  have la : l a = 0 := by omega
  have g0a : g0 a = 0 := by omega
  have gya : gy a = 0 := by omega
  refine ⟨a, xs, g0, ev, ha, rs, g0a, gya, fun b => ?_, fun os' xs' g' r' lg => ?_⟩
  · rw [ef, eg]
    show g0 b ≤ (if b = a then 1 else 0) + g0 b + l b
    omega
  · have Fa : F a = none := wf.dj a (by show f a + gy a ≠ 0; omega)
    have hr := (hf F (upd H a (.lst xs')) (Same.refl _) fun b z => by rw [upd_ne fun y => by subst y; exact z la]).1 (.lst true os') (.ref a) (bump a g') ⟨a, xs', g', rfl, upd_same, r', rfl⟩
    rw [set_self ev] at hr
    refine ⟨_, hr, Same.refl _, ⟨fun b u hu => ?_, fun b => ?_, fun b z => ?_⟩, fun b u hu z => ?_, fun b z => ?_⟩
    · rw [upd_ne fun y => by subst y; rw [Fa] at hu; cases hu]
      exact wf.le b u hu
    · have o1 := wf.one b
      have o2 := lg b
      have o3 : f b = (if b = a then 1 else 0) + g0 b + l b := by rw [ef, eg]; rfl
      have o4 : f b + gy b ≤ 1 := o1
      show (if b = a then 1 else 0) + g' b + l b ≤ 1
      omega
    · refine wf.dj b ?_
      have o2 := lg b
      have o3 : f b = (if b = a then 1 else 0) + g0 b + l b := by rw [ef, eg]; rfl
      have z' : (if b = a then 1 else 0) + g' b + l b ≠ 0 := z
      show f b + gy b ≠ 0
      omega
    · have z' : f b + gy b = 0 := z
      rw [upd_ne fun y => by subst y; omega]
      exact hu
    · rcases z with z | z
      · refine .inr (.inr ?_)
        have o2 := lg b
        have o3 : f b = (if b = a then 1 else 0) + g0 b + l b := by rw [ef, eg]; rfl
        have z' : (if b = a then 1 else 0) + g' b + l b ≠ 0 := z
        show f b + gy b ≠ 0
        omega
      · exact .inl z
end
def dApp (i : Nat) (d : Env → Option O) : Env → Option Out := fun ρ => match look ρ i with
  | some (.lst true os) => match d ρ with
    | some o => if os.length < sizeLine then some (.nx (ρ.set i (some (.lst true (os ++ [o]))))) else none
    | none => none
  | _ => none
def dSetI (i : Nat) (di d : Env → Option O) : Env → Option Out := fun ρ => match d ρ with
  | some o => match look ρ i with
    | some (.lst true os) => match di ρ with
      | some (.int k) => match ixN os.length k with
        | some j => some (.nx (ρ.set i (some (.lst true (os.set j o)))))
        | none => none
      | _ => none
    | _ => none
  | none => none
section
variable {ct : Nat → Addr} {X : Cx} {pn : Nat → Bool} {W : WX} {e ie : Expr} {d di : Env → Option O} {k : Bool} {pos p1 p2 p3 apos : Pos}
theorem Pin.of_eq {σ : L2.St} : Pin pn σ σ := Pin.refl
/-- x.append(e) -/
theorem ss_app (i : Nat) {x : Str} (he : SX ct X false e d) (hN : X.N[i]? = some x := by rfl) (hv : Vis X.env.scope x := by first | exact Or.inl rfl | exact Or.inr (Or.inl rfl) | exact Or.inr (Or.inr rfl)) (hd : (x == ("__debug__" : Str)) = false := by decide)
    (hcd : (x == ("__classdict__" : Str)) = false := by decide)
    (hstar : starEach [e] X.env = [(false, eval e X.env)] := by rfl) (hbase : attributeBase (.Name x p1) "append" X.env (eval (.Name x p1) X.env) = eval (.Name x p1) X.env := by rfl) (hline : (apos.endLine == p2.line) = true := by rfl)
    (hs : swapsWith (.Call (.Attribute (.Name x p1) "append" apos) [e] [] p2) none pos.line X.env = pure false := by rfl) :
    SS ct X pn W (.Expr (.Call (.Attribute (.Name x p1) "append" apos) [e] [] p2) pos) (dApp i d) := by
  refine PS.imp (ps_expr (pe_bm PySem.F.plainAttrs_list PySem.F.slot_list_append PySem.F.type_list_append mt_append (pe_var hN hv hd hcd) (pa_cons he pa_nil hstar) hbase (by rw [hstar]; rfl) hline hstar rfl) hs) fun D σ H h => ?_
  obtain ⟨F, ρ, f, out, s, e, q⟩ := h
  unfold dApp at e
  split at e
  · rename_i os eo
    split at e
    · rename_i o ed
      split at e
      · rename_i hlen
        cases e
        obtain ⟨v, g, ev, r, l⟩ := s.rep.get eo
        obtain ⟨a, xs, g0, e1, ha, rs, eg⟩ := r
        subst e1
        refine ⟨.ref a, ev, .inl ⟨rfl, xs, SqL.of ha⟩, F, ρ, f, o, s, ed, fun y F1 H1 gy ex ry gd => ?_⟩
        have st := ex.stp s.wf s.rep.mem gd
        obtain ⟨a', xs', g0', ev', ha', rs', z1, z2, lg, wr⟩ := SRep.wlist st.wf (s.ext ex).rep eo
        rw [ev] at ev'
        cases ev'
        have hxs : xs' = xs := by
          have := ex.hH a _ ha
          rw [ha'] at this
          cases this; rfl
        subst hxs
        refine ⟨a, xs', y, rfl, rfl, ha', ?_, ?_⟩
        · rw [← rs'.length]; exact hlen
        · have ag : ∀ b, g0' b ≠ 0 → (upd H1 a (.lst (xs' ++ [y]))) b = H1 b := fun b z => upd_ne fun w => by subst w; exact z z1
          have ag2 : ∀ b, gy b ≠ 0 → (upd H1 a (.lst (xs' ++ [y]))) b = H1 b := fun b z => upd_ne fun w => by subst w; exact z z2
          obtain ⟨f', sr, st2⟩ := wr (os ++ [o]) (xs' ++ [y]) _ (Reps.app (Reps.mono (Same.refl _) ag rs') (Reps.one (Rep.mono (Same.refl _) ag2 ry))) fun b => Nat.le_refl _
          exact q σ F1 _ f' (st.trans st2) sr Pin.refl
      · cases e
    · cases e
  · cases e
/-- x[ie] = e -/
theorem ss_seti (i : Nat) {x : Str} (he : SX ct X false e d) (hi : SX ct X k ie di) (hN : X.N[i]? = some x := by rfl) (hv : Vis X.env.scope x := by first | exact Or.inl rfl | exact Or.inr (Or.inl rfl) | exact Or.inr (Or.inr rfl)) (hd : (x == ("__debug__" : Str)) = false := by decide)
    (hcd : (x == ("__classdict__" : Str)) = false := by decide)
    (ha : ∀ v, assign (.Subscript (.Name x p1) ie p2) X.env v = (do
      let ov ← holding [v] (eval (.Name x p1) X.env)
      let iv ← holding [v, ov] (eval ie X.env)
      standAt p2
      holding [v, ov, iv] (setItem ov iv v)
      release [v, ov, iv] []) := by intro _; rfl)
    (hs : swapsWithSole [.Subscript (.Name x p1) ie p2] e pos.line X.env = pure false := by rfl) (hw : swappedStores [.Subscript (.Name x p1) ie p2] e X.env = pure none := by rfl)
    (h1 : (assignEach [.Subscript (.Name x p1) ie p2] X.env).map (·.2) = [assign (.Subscript (.Name x p1) ie p2) X.env] := by rfl) :
    SS ct X pn W (.Assign [.Subscript (.Name x p1) ie p2] e pos) (dSetI i di d) := by
  refine PS.imp (ps_asg he (pg_sub (pe_var hN hv hd hcd) hi set_list ha) hs hw h1) fun D σ H h => ?_
  obtain ⟨F, ρ, f, out, s, e, q⟩ := h
  unfold dSetI at e
  split at e
  · rename_i o ed
    split at e
    · rename_i os eo
      split at e
      · rename_i kk ei
        split at e
        · rename_i j ej
          cases e
          refine ⟨F, ρ, f, o, s, ed, fun y F1 H1 gy ex ry gd => ?_⟩
          have s1 := s.ext ex
          have st := ex.stp s.wf s.rep.mem gd
          obtain ⟨v, g, ev, r, l⟩ := s1.rep.get eo
          refine ⟨v, ev, F1, ρ, f, .int kk, s1, ei, fun iv F2 H2 g2 ex2 ri gd2 => ?_⟩
          obtain ⟨rfl, _⟩ := ri
          have st2 := st.trans (ex2.stp0 st.wf fun b z => by
            by_cases w : f b = 0
            · exact ry.mem b (by have z' : f b + gy b ≠ 0 := z; omega)
            · exact s1.rep.mem b w)
          obtain ⟨a, xs, g0, ev', ha', rs', z1, z2, lg, wr⟩ := SRep.wlist st2.wf (s1.ext ex2).rep eo
          rw [ev] at ev'
          cases ev'
          refine ⟨a, xs, kk, j, rfl, rfl, ha', by rw [← rs'.length]; exact ej, ?_⟩
          have ag : ∀ b, g0 b ≠ 0 → (upd H2 a (.lst (xs.set j y))) b = H2 b := fun b z => upd_ne fun w => by subst w; exact z z1
          have ag2 : ∀ b, gy b ≠ 0 → (upd H2 a (.lst (xs.set j y))) b = H2 b := fun b z => upd_ne fun w => by subst w; exact z z2
          obtain ⟨g', rr, lg'⟩ := Reps.set (Rep.mono (Same.refl _) ag2 (ry.ext ex2)) j (Reps.mono (Same.refl _) ag rs')
          obtain ⟨f', sr, st3⟩ := wr _ _ g' rr lg'
          exact q σ F2 _ f' (st2.trans st3) sr Pin.refl
        · cases e
      · cases e
    · cases e
  · cases e
end
end Mini
namespace Mini
open PySem PySem.Spec PyProof.Rows L2
section
variable {ct : Nat → Addr} {K : PySem.W.Frag} {F H : Hp}
theorem Reps.ints : ∀ ns : List Int, Reps K ct F H (ns.map O.int) (ns.map V.int) zf
  | [] => ⟨rfl, rfl⟩
  | n :: ns => ⟨.int n, ns.map V.int, zf, zf, rfl, ⟨rfl, rfl⟩, Reps.ints ns, rfl⟩
theorem law_sp {Ff : Fn} {a : Addr} {ns : List Int} (hS : SqL K H a (ns.map V.int)) (h : ∃ fin, Ff [O.lst false (ns.map O.int)] = some (.bl true, fin)) : spF ct K 1 Ff [.ref a] H (fun v _ => v = .bl true) (fun _ _ _ => False) := by
  obtain ⟨fin, e⟩ := h
  refine ⟨rfl, H, [O.lst false (ns.map O.int)], zf, _, fin, ⟨Same.refl _, fun _ => Nat.zero_le _, fun _ z => absurd rfl z⟩, ⟨.ref a, [], zf, zf, rfl, ⟨a, ns.map V.int, rfl, hS, Reps.ints ns, rfl⟩, ⟨rfl, rfl⟩, rfl⟩, e, fun v F' H' g gf _ r _ => r.1⟩
/-- what every law promises -/
def spLaw (K : PySem.W.Frag) : Sp := fun vs H Q _ => ∃ (a : Addr) (ns : List Int), vs = [.ref a] ∧ ns.length ≤ 63 ∧ (∀ z ∈ ns, Builtin.Int.intBits z ≤ 1048576) ∧ SqL K H a (ns.map V.int) ∧ ∀ H', Q (.bl true) H'
theorem law_imp {Ff : Fn} (hmain : ∀ ns : List Int, ns.length ≤ 63 → (∀ z ∈ ns, Builtin.Int.intBits z ≤ 1048576) → ∃ fin, Ff [O.lst false (ns.map O.int)] = some (.bl true, fin)) {vs : List V} {H : Hp} {Q : VK} {E : XK} (h : spLaw K vs H Q E) : spF ct K 1 Ff vs H Q E := by
  obtain ⟨a, ns, rfl, hl, hb, hS, q⟩ := h
  obtain ⟨fin, e⟩ := hmain ns hl hb
  refine ⟨rfl, H, [O.lst false (ns.map O.int)], zf, _, fin, ⟨Same.refl _, fun _ => Nat.zero_le _, fun _ z => absurd rfl z⟩, ⟨.ref a, [], zf, zf, rfl, ⟨a, ns.map V.int, rfl, hS, Reps.ints ns, rfl⟩, ⟨rfl, rfl⟩, rfl⟩, e, fun v F' H' g gf _ r _ => ?_⟩
  obtain ⟨rfl, _⟩ := r
  exact q H'
end
end Mini
namespace Mini
open PySem PySem.Spec PyProof.Rows L2

/-! right-hand sides that may raise and may write a slot's data -/
inductive Rv where
  | ok (o : O) (ρ : Env) | er (c : Nat) (ρ : Env)
def KR (K : PySem.W.Frag) (ct : Nat → Addr) (W : WX) (F H : Hp) (f : Fp) (σ : L2.St) (r : Rv) (Q : VK) : Prop := match r with
  | .ok o ρ' => ∀ v F' H' g f', Stp F H f F' H' (fun a => g a + f' a) → Rep K ct F' H' o v g → SRep K ct F' H' ρ' σ f' → Q v H'
  | .er c ρ' => ∀ F' H' f', Stp F H f F' H' f' → SRep K ct F' H' ρ' σ f' → W (.ref (ct c)) none σ H'
def tR (ct : Nat → Addr) (K : PySem.W.Frag) (W : WX) (d : Env → Option Rv) : TE := fun σ H Q =>
  ∃ F ρ f r, Sit K ct F H ρ σ f ∧ d ρ = some r ∧ KR K ct W F H f σ r Q
def SR (ct : Nat → Addr) (X : Cx) (W : WX) (e : Expr) (d : Env → Option Rv) : Prop := PE X e (tR ct X.K W d)
def rOf (d : Env → Option O) : Env → Option Rv := fun ρ => match d ρ with
  | some o => some (.ok o ρ)
  | none => none
inductive Res where
  | ok (o : O) (fin : Env) | er (c : Nat) (fin : Env)
abbrev FnX := List O → Option Res
def spX (ct : Nat → Addr) (K : PySem.W.Frag) (n : Nat) (Ff : FnX) : Sp := fun vs H Q E => vs.length = n ∧ ∃ F os f r, Wf F H f ∧ Reps K ct F H os vs f ∧ Ff os = some r ∧
  match r with
  | .ok o fin => ∀ v F' H' g gf, Stp F H f F' H' (fun a => g a + gf a) → Rep K ct F' H' o v g → SRep K ct F' H' fin (vs.map some) gf → Q v H'
  | .er c fin => ∀ F' H' gf, Stp F H f F' H' gf → SRep K ct F' H' fin (vs.map some) gf → E (.ref (ct c)) none H'
structure FDX (P : Program) (w : World) (K : PySem.W.Frag) (mg : Str → Option Value) (base : Heap) (ct : Nat → Addr) (k : Nat) (x : Str) (n : Nat) (Ff : FnX) : Prop where
  ex : ∃ f fd ps, ps.length = n ∧ FnOk P w K mg base (L2.CX P w) k f fd ps (spX ct K n Ff) ∧ mg x = some (.ref f) ∧ PySem.W.keepIn K (.ref f) = true ∧ Binds K fd ps []
theorem FDX.mk' {P : Program} {w : World} {K : PySem.W.Frag} {mg : Str → Option Value} {base : Heap} {ct : Nat → Addr} {k : Nat} {x : Str} {f : Addr} {fd : FuncData} {ps : List Str} {Ff : FnX} (h : FnOk P w K mg base (L2.CX P w) k f fd ps (spX ct K ps.length Ff)) (hm : mg x = some (.ref f)) (hk : PySem.W.keepIn K (.ref f) = true)
    (hb : Binds K fd ps []) : FDX P w K mg base ct k x ps.length Ff := ⟨f, fd, ps, rfl, h, hm, hk, hb⟩
/-- a call, its arguments new values or borrowed -/
def dCallX (ks : List Bool) (Ff : FnX) (ds : Env → Option (List O)) : Env → Option Rv := fun ρ => match ds ρ with
  | some os => match Ff (views ks os) with
    | some (.ok r _) => if (okb ks os || noFm r) = true then some (.ok r ρ) else none
    | some (.er c _) => some (.er c ρ)
    | none => none
  | none => none
/-- a call that surely does not raise -/
def dCallN (ks : List Bool) (Ff : FnX) (ds : Env → Option (List O)) : Env → Option O := fun ρ => match ds ρ with
  | some os => match Ff (views ks os) with
    | some (.ok r _) => if (okb ks os || noFm r) = true then some r else none
    | _ => none
  | none => none
section
variable {ct : Nat → Addr} {X : Cx} {W : WX} {ks : List Bool} {e : Expr} {es : List Expr} {d : Env → Option O} {dr : Env → Option Rv} {ds : Env → Option (List O)} {Ff : FnX} {k : Nat} {x : Str} {p pos : Pos} {n : Nat}
theorem sr_of (h : SX ct X false e d) : SR ct X W e (rOf d) := by
  refine PE.imp h fun σ H Q h => ?_
  obtain ⟨F, ρ, f, r, s, e, q⟩ := h
  unfold rOf at e
  split at e
  · rename_i o eo
    cases e
    refine ⟨F, ρ, f, o, s, eo, fun v F1 H1 g ex r gd => ?_⟩
    exact q v F1 H1 g f ((ex.stp s.wf s.rep.mem gd).sub fun a => by show g a + f a ≤ f a + g a; omega) r (s.ext ex).rep
  · cases e
theorem Kn.of_KR {K : PySem.W.Frag} {F H : Hp} {ρ : Env} {σ : L2.St} {f : Fp} {o : O} {Q : VK} (s : Sit K ct F H ρ σ f) (q : KR K ct W F H f σ (.ok o ρ) Q) : Kn K ct false f F H o Q := fun v F1 H1 g ex r gd =>
  q v F1 H1 g f ((ex.stp s.wf s.rep.mem gd).sub fun a => by show g a + f a ≤ f a + g a; omega) r (s.ext ex).rep
theorem sr_call {k0 : Bool} (D : FDX X.prog X.w X.K X.mg X.base ct k x n Ff) (hr : Room k X.A) (tk : Takes X W) (ha : SA ct X (k0 :: ks) (e :: es) ds) (hn : (k0 :: ks).length = n := by rfl) (hg : Gl X x := by rfl) (hdb : (x == ("__debug__" : Str)) = false := by decide)
    (he : starEach (e :: es) X.env = (false, eval e X.env) :: starEach es X.env := by rfl) (hpl : (backTo pos (starEach es X.env)).any (·.1) = false := by rfl) : SR ct X W (.Call (.Name x p) (e :: es) [] pos) (dCallX (k0 :: ks) Ff ds) := by
  obtain ⟨f, fd, ps, hps, hF, hm, hk, hb⟩ := D.ex
  refine PE.imp (pe_callS hF hr hg hm hk hb (fun σ => passAt tk σ) ha hdb he hpl) fun σ H Q h => ?_
  obtain ⟨F, ρ, f, r, s, e, q⟩ := h
  unfold dCallX at e
  split at e
  · rename_i os eos
    split at e
    · rename_i o fin er
      split at e
      · rename_i c
        cases e
        refine ⟨F, ρ, f, os, s, eos, fun vs F1 H1 gb gv ex ar hb hv => ?_⟩
        obtain ⟨c1, c2, c3⟩ := call_back s.wf s.rep.mem ex ar hb hv c (Kn.of_KR s q)
        refine ⟨by rw [ar.len, hn], _, _, gv, _, c1, c2, er, fun v F' H' g gf st r _ => c3 v F' H' g gf st r⟩
      · cases e
    · rename_i c fin er
      cases e
      refine ⟨F, ρ, f, os, s, eos, fun vs F1 H1 gb gv ex ar hb hv => ?_⟩
      obtain ⟨c1, c2, c3⟩ := call_back (r := .non) (Q := fun _ _ => True) s.wf s.rep.mem ex ar hb hv (by simp [noFm]) (fun _ _ _ _ _ _ _ => True.intro)
      refine ⟨by rw [ar.len, hn], _, _, gv, _, c1, c2, er, fun F' H' gf st _ => ?_⟩
      obtain ⟨n1, n2, n3⟩ := hv.n
      -- the caller's own part
      have hFc : Same F1 (fun a => if gb a ≠ 0 then H1 a else F1 a) := fun a u hu => by
        show (if gb a ≠ 0 then H1 a else F1 a) = some u
        by_cases z : gb a ≠ 0
        · rw [if_pos z]; exact ex.le a u hu
        · rw [if_neg z]; exact hu
      have hH : Same H H' := fun a o ho => by
        refine st.frame a o (ex.hH a o ho) (Classical.byContradiction fun z => ?_)
        rw [n2 a z] at ho; cases ho
      have e2 : Ext F H (fun a => if gb a ≠ 0 then none else F' a) H' := by
        refine ⟨fun a u hu => ?_, hH, fun a u hu => ?_, fun a z => ?_⟩
        · show (if gb a ≠ 0 then none else F' a) = some u
          rw [if_neg fun z => by rw [s.wf.dj a (hb a z)] at hu; cases hu]
          exact st.hF a u (hFc a u (ex.hF a u hu))
        · have hu' : (if gb a ≠ 0 then none else F' a) = some u := hu
          by_cases z : gb a ≠ 0
          · rw [if_pos z] at hu'; cases hu'
          · rw [if_neg z] at hu'; exact st.wf.le a u hu'
        · have z' : (if gb a ≠ 0 then none else F' a) ≠ none := z
          by_cases w : gb a ≠ 0
          · rw [if_pos w] at z'; exact absurd rfl z'
          · rw [if_neg w] at z'
            rcases st.new a (.inr z') with y | y | y
            · have y' : (if gb a ≠ 0 then H1 a else F1 a) ≠ none := y
              rw [if_neg w] at y'
              exact ex.new a y'
            · exact .inr (ex.hH.free y)
            · exact .inr (n2 a y)
      exact q _ H' f (e2.stp0 s.wf s.rep.mem) (s.ext e2).rep
    · cases e
  · cases e
theorem sx_callN {k0 : Bool} (D : FDX X.prog X.w X.K X.mg X.base ct k x n Ff) (hr : Room k X.A) (ha : SA ct X (k0 :: ks) (e :: es) ds) (hn : (k0 :: ks).length = n := by rfl) (hg : Gl X x := by rfl) (hdb : (x == ("__debug__" : Str)) = false := by decide)
    (he : starEach (e :: es) X.env = (false, eval e X.env) :: starEach es X.env := by rfl) (hpl : (backTo pos (starEach es X.env)).any (·.1) = false := by rfl) : SX ct X false (.Call (.Name x p) (e :: es) [] pos) (dCallN (k0 :: ks) Ff ds) := by
  obtain ⟨f, fd, ps, hps, hF, hm, hk, hb⟩ := D.ex
  refine PE.imp (pe_callS (E := fun _ => E0) hF hr hg hm hk hb (fun σ pins H s e s' I h => ?_) ha hdb he hpl) fun σ H Q h => ?_
  · obtain ⟨_, _, _, _, _, _, _, _, _, _, _, _, z⟩ := h
    exact z.elim
  obtain ⟨F, ρ, f, r, s, e, q⟩ := h
  unfold dCallN at e
  split at e
  · rename_i os eos
    split at e
    · rename_i o fin er
      split at e
      · rename_i c
        cases e
        refine ⟨F, ρ, f, os, s, eos, fun vs F1 H1 gb gv ex ar hb hv => ?_⟩
        obtain ⟨c1, c2, c3⟩ := call_back s.wf s.rep.mem ex ar hb hv c q
        exact ⟨by rw [ar.len, hn], _, _, gv, _, c1, c2, er, fun v F' H' g gf st r _ => c3 v F' H' g gf st r⟩
      · cases e
    · cases e
  · cases e
end

/-! statements over them -/
def dAsgR (d : Env → Option Rv) (dg : O → Env → Option Env) : Env → Option Out := fun ρ => match d ρ with
  | some (.ok o ρ1) => match dg o ρ1 with
    | some ρ' => some (.nx ρ')
    | none => none
  | some (.er c ρ1) => some (.er c ρ1)
  | none => none
def dRetR (d : Env → Option Rv) : Env → Option Out := fun ρ => match d ρ with
  | some (.ok o ρ1) => some (.rt o ρ1)
  | some (.er c ρ1) => some (.er c ρ1)
  | none => none
def dExprR (d : Env → Option Rv) : Env → Option Out := fun ρ => match d ρ with
  | some (.ok _ ρ1) => some (.nx ρ1)
  | some (.er c ρ1) => some (.er c ρ1)
  | none => none
section
variable {ct : Nat → Addr} {X : Cx} {pn : Nat → Bool} {W : WX} {e tg : Expr} {pos : Pos} {dg : O → Env → Option Env} {d : Env → Option Rv}
theorem asgR_go {g : TG} (hg : ∀ v σ H Q, tGt ct X.K pn dg v σ H Q → g v σ H Q) {D : Ends} {σ : L2.St} {H : Hp} (h : tSt ct X.K pn W (dAsgR d dg) D σ H) : tAsg (tR ct X.K W d) g D σ H := by
  obtain ⟨F, ρ, f, out, s, e, q⟩ := h
  unfold dAsgR at e
  split at e
  · rename_i o ρ1 eo
    split at e
    · rename_i ρ' eg
      cases e
      refine ⟨F, ρ, f, _, s, eo, fun v F1 H1 g1 f1 st r rs => hg _ _ _ _ ?_⟩
      have st' : Stp F H f F1 H1 (fun a => f1 a + g1 a) := st.sub fun a => by show f1 a + g1 a ≤ g1 a + f1 a; omega
      refine ⟨F1, ρ1, f1, g1, o, ρ', ⟨st'.wf.sub fun a => Nat.le_add_right _ _, rs⟩, r, st'.wf, eg, fun σ' f' rs' l p => ?_⟩
      exact q σ' F1 H1 f' (st'.sub l) rs' p
    · cases e
  · rename_i c ρ1 eo
    cases e
    exact ⟨F, ρ, f, _, s, eo, fun F1 H1 f1 st rs => q σ F1 H1 f1 st rs Pin.refl⟩
  · cases e
theorem ss_asgR (he : SR ct X W e d) (hg : SG ct X pn tg dg) (hs : swapsWithSole [tg] e pos.line X.env = pure false := by rfl) (hw : swappedStores [tg] e X.env = pure none := by rfl)
    (h1 : (assignEach [tg] X.env).map (·.2) = [assign tg X.env] := by rfl) : SS ct X pn W (.Assign [tg] e pos) (dAsgR d dg) :=
  PS.imp (ps_asg he hg hs hw h1) fun D σ H h => asgR_go (fun _ _ _ _ z => z) h
theorem ss_setR (i : Nat) {x : Str} {pos' : Pos} (hN : X.N.Nodup) (he : SR ct X W e d) (hp : pn i = false := by rfl) (hi : X.N[i]? = some x := by rfl) (hx : Loc X.env.scope x := by first | exact Or.inl rfl | exact Or.inr rfl)
    (hs : swapsWith e (some (.Name x pos')) pos.line X.env = pure false := by rfl) (hf : X.fn x = true ∨ X.env.scope.names.lookup x = some .local := by first | exact .inl rfl | exact .inr rfl) : SS ct X pn W (.Assign [.Name x pos'] e pos) (dAsgR d (gSet i)) := by
  refine PS.imp (ps_set hN hi hx he hs hf) fun D σ H h => asgR_go (fun v σ H Q h => ?_) h
  obtain ⟨F, ρ, f, g, o, ρ', s, r, w, e, q⟩ := h
  unfold gSet at e
  split at e
  · cases e
    obtain ⟨g1, h1, ef, _, hf⟩ := SRep.hole i (by assumption) s.rep
    refine q _ _ ((hf F H (Same.refl _) fun _ _ => rfl).1 o v g r) (fun a => ?_) (Pin.set hp)
    rw [ef]
    show g a + h1 a ≤ g1 a + h1 a + g a
    omega
  · cases e
theorem ss_retR (he : SR ct X W e d) : SS ct X pn W (.Return (some e) pos) (dRetR d) := by
  refine PS.imp (ps_ret he) fun D σ H h => ?_
  obtain ⟨F, ρ, f, out, s, e, q⟩ := h
  unfold dRetR at e
  split at e
  · rename_i o ρ1 eo
    cases e
    exact ⟨F, ρ, f, _, s, eo, fun v F1 H1 g1 f1 st r rs => q v σ F1 H1 g1 f1 st r rs Pin.refl⟩
  · rename_i c ρ1 eo
    cases e
    exact ⟨F, ρ, f, _, s, eo, fun F1 H1 f1 st rs => q σ F1 H1 f1 st rs Pin.refl⟩
  · cases e
theorem ss_exprR (he : SR ct X W e d) (hs : swapsWith e none pos.line X.env = pure false := by rfl) : SS ct X pn W (.Expr e pos) (dExprR d) := by
  refine PS.imp (ps_expr he hs) fun D σ H h => ?_
  obtain ⟨F, ρ, f, out, s, e, q⟩ := h
  unfold dExprR at e
  split at e
  · rename_i o ρ1 eo
    cases e
    exact ⟨F, ρ, f, _, s, eo, fun v F1 H1 g1 f1 st r rs => q σ F1 H1 f1 (st.sub fun a => Nat.le_add_left _ _) rs Pin.refl⟩
  · rename_i c ρ1 eo
    cases e
    exact ⟨F, ρ, f, _, s, eo, fun F1 H1 f1 st rs => q σ F1 H1 f1 st rs Pin.refl⟩
  · cases e
/-! raise -/
structure EC (K : PySem.W.Frag) (mg : Str → Option Value) (ct : Nat → Addr) (c : Nat) (x : Str) : Prop where
  g : mg x = some (.ref (ct c))
  ex : PySem.W.excIn K (ct c) [.type "ValueError", .type "Exception", .type "BaseException", .type "object"] "ValueError.__new__" = true
  kp : PySem.W.keepIn K (.ref (ct c)) = true
  sub : PySem.W.subIn K (.ref (ct c)) (.type "BaseException") = some true
  ty : PySem.W.typeIn K (.ref (ct c)) = some (.type "type")
theorem ss_raise (c : Nat) {x m : Str} {j : Nat} {p p2 p3 : Pos} (hc : X.calm = true) (tk : Takes X W) (E : EC X.K X.mg ct c x) (hg : Gl X x := by rfl) (hdb : (x == ("__debug__" : Str)) = false := by decide) :
    SS ct X pn W (.Raise (some (.Call (.Name x p) [.Constant (.str m) j p2] [] p3)) none pos) (fun ρ => some (.er c ρ)) := by
  refine PS.imp (ps_raise hc tk (pmk_own PySem.F.excBase_ValueError E.ex E.g E.kp (raises_own E.sub E.ty) hg hdb)) fun D σ H h => ?_
  obtain ⟨F, ρ, f, out, s, e, q⟩ := h
  cases e
  exact q σ F H f (Stp.refl s.wf) s.rep Pin.refl
end

/-! a def that may raise, by its body -/
def dDefX (pn : Nat → Bool) (n m : Nat) (d : Env → Option Out) : FnX := fun os => match d (os.map some ++ List.replicate (m - n) none) with
  | some (.rt o ρ) => some (.ok o (fin pn 0 n ρ))
  | some (.nx ρ) => some (.ok .non (fin pn 0 n ρ))
  | some (.er c ρ) => some (.er c (fin pn 0 n ρ))
  | _ => none
theorem fdx_ok {ct : Nat → Addr} {K : PySem.W.Frag} {P : Program} {w : World} {mg : Str → Option Value} {base : Heap} {x qual : Str} {st : Stmt} {f : Addr} {fd : FuncData} {N ps : List Str} {k : Nat} {pn : Nat → Bool} {d : Env → Option Out} (F : Fun K x qual st f fd) (S : FnScope N ps (defScope st))
    (hb : ∀ (cdv : Value) (A : Around) (outer : List PySem.Env) (s : Shared) (H : Hp) (E : XK), Room k (A.deeper (envOfC qual (defScope st) s.heap.objs.size f cdv)) →
      SSs ct (cxOf (L2.CX P w) P w K mg base N qual (defScope st) f cdv A outer s H E) pn (fun cls d _ H' => E cls d H') (defBody st) d) : FnOk P w K mg base (L2.CX P w) (k + 1) f fd ps (spX ct K ps.length (dDefX pn ps.length N.length d)) := by
  refine F.okX S (fun vs H Q E h => h.1) fun cdv A outer s H vs Q E hr h => ⟨_, hb cdv A outer s H E hr, ?_⟩
  obtain ⟨hl, F0, os, f0, r, wf, rs, e, q⟩ := h
  have hstart : SRep K ct F0 H (os.map some ++ List.replicate (N.length - ps.length) none) (L2.start N vs) f0 := by
    unfold L2.start
    rw [hl]
    exact SRep.start rs
  have pin : ∀ {σ' : L2.St}, Pin pn (L2.start N vs) σ' → ∀ j, pn (0 + j) = true → j < vs.length → σ'[j]? = (vs.map some)[j]? := fun p j hj hjl => by
    rw [Nat.zero_add] at hj
    rw [p.2 j hj]
    unfold L2.start
    rw [List.getElem?_append_left (by simpa using hjl)]
  unfold dDefX at e
  split at e
  · rename_i o ρ' ed
    cases e
    refine ⟨F0, _, f0, _, ⟨wf, hstart⟩, ed, fun v σ' F' H' g f' st r rs' p => ?_⟩
    obtain ⟨gf, h1, h2⟩ := SRep.fin rs' (pin p)
    rw [hl] at h1
    exact q v F' H' g gf (st.sub fun a => by have := h2 a; show g a + gf a ≤ g a + f' a; omega) r h1
  · rename_i ρ' ed
    cases e
    refine ⟨F0, _, f0, _, ⟨wf, hstart⟩, ed, fun σ' F' H' f' st rs' p => ?_⟩
    obtain ⟨gf, h1, h2⟩ := SRep.fin rs' (pin p)
    rw [hl] at h1
    exact q .non F' H' zf gf (st.sub fun a => by have := h2 a; show zf a + gf a ≤ f' a; simpa [zf] using this) ⟨rfl, rfl⟩ h1
  · rename_i c ρ' ed
    cases e
    refine ⟨F0, _, f0, _, ⟨wf, hstart⟩, ed, fun σ' F' H' f' st rs' p => ?_⟩
    obtain ⟨gf, h1, h2⟩ := SRep.fin rs' (pin p)
    rw [hl] at h1
    exact q F' H' gf (st.sub h2) h1
  · cases e
end Mini
namespace Mini
open PySem PySem.Spec PyProof.Rows L2
theorem SRep.clear {K : PySem.W.Frag} {ct : Nat → Addr} {F H : Hp} : ∀ {ρ : Env} {σ : L2.St} {f : Fp} (i : Nat) (x : Option V), SRep K ct F H ρ σ f → ∃ h : Fp, SRep K ct F H (ρ.set i none) (σ.set i x) h ∧ ∀ a, h a ≤ f a
  | [], σ, f, i, x, h => ⟨f, by simpa [SRep] using h, fun _ => Nat.le_refl _⟩
  | none :: ρ, [], _, _, _, h => (show False from h).elim
  | none :: ρ, s :: σ, f, 0, x, h => ⟨f, h, fun _ => Nat.le_refl _⟩
  | none :: ρ, s :: σ, f, i + 1, x, h => by
    obtain ⟨l, h1, h2⟩ := SRep.clear (ρ := ρ) (σ := σ) i x h
    exact ⟨l, h1, h2⟩
  | some o :: ρ, [], _, _, _, h => (show False from h).elim
  | some o :: ρ, none :: σ, _, _, _, h => (show False from h).elim
  | some o :: ρ, some v :: σ, f, 0, x, h => by
    obtain ⟨g, l, r, rs, ef⟩ := (show ∃ g h, Rep K ct F H o v g ∧ SRep K ct F H ρ σ h ∧ f = fun a => g a + h a from h)
    exact ⟨l, rs, fun a => by rw [ef]; exact Nat.le_add_left _ _⟩
  | some o :: ρ, some v :: σ, f, i + 1, x, h => by
    obtain ⟨g, l, r, rs, ef⟩ := (show ∃ g h, Rep K ct F H o v g ∧ SRep K ct F H ρ σ h ∧ f = fun a => g a + h a from h)
    obtain ⟨l', h1, h2⟩ := SRep.clear (ρ := ρ) (σ := σ) i x rs
    exact ⟨fun a => g a + l' a, ⟨g, l', r, h1, rfl⟩, fun a => by rw [ef]; have := h2 a; show g a + l' a ≤ g a + l a; omega⟩
def clr (i : Nat) : Out → Option Out
  | .nx ρ => some (.nx (ρ.set i none))
  | .rt o ρ => some (.rt o (ρ.set i none))
  | .bk ρ => some (.bk (ρ.set i none))
  | .ct ρ => some (.ct (ρ.set i none))
  | .er _ _ => none
def clrO (i : Nat) (d : Option Out) : Option Out := match d with
  | some o => clr i o
  | none => none
open Classical in
noncomputable def pick (i : Nat) (g : Addr → Option Out) : Option Out := if h : ∃ out, ∀ a, clrO i (g a) = some out then some h.choose else none
theorem pick_of {i : Nat} {g : Addr → Option Out} {out : Out} (h : ∀ a, clrO i (g a) = some out) : pick i g = some out := by
  have hx : ∃ out, ∀ a, clrO i (g a) = some out := ⟨out, h⟩
  unfold pick
  rw [dif_pos hx]
  have e1 := hx.choose_spec 0
  rw [h 0] at e1
  exact e1.symm
theorem pick_to {i : Nat} {g : Addr → Option Out} {out : Out} (h : pick i g = some out) : ∀ a, clrO i (g a) = some out := by
  unfold pick at h
  split at h
  · rename_i hx
    cases h
    exact hx.choose_spec
  · cases h
/-- try .. except .. as the name of slot i -/
noncomputable def dTry (isE handles : Nat → Bool) (i : Nat) (db : Env → Option Out) (ds : Nat → Addr → Env → Option Out) : Env → Option Out := fun ρ => match db ρ with
  | some (.er c ρ1) => if isE c = true ∧ i < ρ1.length then (if handles c = true then pick i (fun a => ds c a (ρ1.set i (some (.exc a)))) else some (.er c ρ1)) else none
  | r => r
section
variable {ct : Nat → Addr} {X : Cx} {pn : Nat → Bool} {W : WX} {n x : Str} {C : Addr} {i : Nat} {body suite : List Stmt} {b0 : Stmt} {np pos pos' : Pos} {db : Env → Option Out} {ds : Nat → Addr → Env → Option Out} {isE handles : Nat → Bool}
theorem ss_try (i : Nat) (hs : X.stack = X.env :: X.outer) (hf : X.env.frame = some X.env.locals) (hN : X.N.Nodup) (tk : Takes X W) (hm : X.mg x = some (.ref C)) (hx : ∀ c, isE c = true → PySem.W.exmOne X.K (.ref (ct c)) (.ref C) = some (handles c))
    (hb : ∀ (W' : WX) (pn' : List (Addr × Obj)) (xe : Value → Shared → Prop), Takes (X.tr pn' xe) W' → PassesOwn (model X.prog X.w) X.A X.env xe → SSs ct (X.tr pn' xe) pn W' body db)
    (hsu : ∀ (a : Addr) (oe : Obj) (c : Nat) (pn' : List (Addr × Obj)), isE c = true → Zc (.ref (ct c)) none oe → (∃ vs, oe.data = .fields vs) → SSs ct (X.suite a ((a, oe) :: pn')) pn (fun _ _ _ _ => False) (b0 :: suite) (ds c a))
    (hp : pn i = false := by rfl) (hi : X.N[i]? = some n := by rfl) (hln : X.env.kindOf n = some .local := by rfl) (hg : Gl X x := by rfl) (hdb : (x == ("__debug__" : Str)) = false := by decide) :
    SS ct X pn W (.Try body [.ExceptHandler (some (.Name x np)) (some n) (b0 :: suite) pos'] [] [] pos) (dTry isE handles i db ds) := by
  refine PS.imp (ps_try_as (i := i) (c := .ref C) (tb := fun W' => tSt ct X.K pn W' db) (ts := fun a cls d => fun D σ H => ∃ c, isE c = true ∧ cls = .ref (ct c) ∧ d = none ∧ tSt ct X.K pn (fun _ _ _ _ => False) (ds c a) D σ H)
    hs hf hN hi hln ⟨hg, hdb, .inl hm⟩ tk hb fun a oe cls d pn' hz hv => ⟨fun pins s σ H D I h => ?_⟩) fun D σ H h => ?_
  · obtain ⟨c, hc, rfl, rfl, h⟩ := h
    exact (hsu a oe c pn' hc hz hv).run pins s σ H D I h
  · obtain ⟨F, ρ, f, out, s, e, q⟩ := h
    unfold dTry at e
    split at e
    · rename_i c ρ1 eb
      split at e
      · rename_i hc
        refine ⟨F, ρ, f, _, s, eb, fun σ' F' H' f' st rs p => ?_⟩
        refine ⟨handles c, hx c hc.1, fun hh a ha => ?_, fun hh => ?_⟩
        · rw [if_pos hh] at e
          have ea := pick_to e a
          unfold clrO at ea
          split at ea
          · rename_i oa eoa
            obtain ⟨g1, h1, ef, _, hf'⟩ := SRep.hole i hc.2 rs
            have rs2 := (hf' F' H' (Same.refl _) fun _ _ => rfl).1 (.exc a) (.ref a) zf ⟨rfl, rfl⟩
            have st2 : Stp F H f F' H' (fun b => zf b + h1 b) := st.sub fun b => by rw [ef]; show zf b + h1 b ≤ g1 b + h1 b; simp [zf]
            have p2 : Pin pn σ (σ'.set i (some (.ref a))) := p.trans (Pin.set hp)
            refine ⟨c, hc.1, rfl, rfl, F', _, _, oa, ⟨st2.wf, rs2⟩, eoa, ?_⟩
            have q2 := q.go st2 p2
            cases oa with
            | nx ρ2 =>
              cases ea
              intro σ3 F3 H3 f3 st3 rs3 p3
              obtain ⟨l, c1, c2⟩ := SRep.clear i none rs3
              exact q2 _ F3 H3 l (st3.sub c2) c1 (p3.trans (Pin.set hp))
            | rt o ρ2 =>
              cases ea
              intro v σ3 F3 H3 g3 f3 st3 r3 rs3 p3
              obtain ⟨l, c1, c2⟩ := SRep.clear i none rs3
              exact q2 v _ F3 H3 g3 l (st3.sub fun b => by have := c2 b; show g3 b + l b ≤ g3 b + f3 b; omega) r3 c1 (p3.trans (Pin.set hp))
            | bk ρ2 =>
              cases ea
              intro σ3 F3 H3 f3 st3 rs3 p3
              obtain ⟨l, c1, c2⟩ := SRep.clear i none rs3
              exact q2 _ F3 H3 l (st3.sub c2) c1 (p3.trans (Pin.set hp))
            | ct ρ2 =>
              cases ea
              intro σ3 F3 H3 f3 st3 rs3 p3
              obtain ⟨l, c1, c2⟩ := SRep.clear i none rs3
              exact q2 _ F3 H3 l (st3.sub c2) c1 (p3.trans (Pin.set hp))
            | er c2 ρ2 => cases ea
          · cases ea
        · rw [if_neg (by rw [hh]; exact Bool.false_ne_true)] at e
          cases e
          exact q σ' F' H' f' st rs p
      · cases e
    · rename_i hn
      refine ⟨F, ρ, f, out, s, e, ?_⟩
      cases out with
      | nx ρ' => exact q
      | rt o ρ' => exact q
      | bk ρ' => exact q
      | ct ρ' => exact q
      | er c ρ' => exact absurd e (hn c ρ')
/-- isinstance(e, N) within the suite, e the caught exception -/
def dIsE (i : Nat) (a : Addr) (b : Bool) : Env → Option O := fun ρ => match look ρ i with
  | some (.exc a') => if a' = a then some (.bl b) else none
  | _ => none
theorem sx_isE {a : Addr} {oe : Obj} {pn' : List (Addr × Obj)} {c m : Nat} {y N : Str} {p p1 p2 : Pos} {b : Bool} (i : Nat) (hm : X.mg "isinstance" = none) (hmN : X.mg N = some (.ref (ct m))) (C : ExcC X.K (ct c)) (hz : Zc (.ref (ct c)) none oe) (hf : ∃ vs, oe.data = .fields vs) (hk : PySem.W.kitOne X.K (.ref (ct c)) (.ref (ct m)) = some b)
    (hN : X.N[i]? = some y := by rfl) (hv : Vis X.env.scope y := by first | exact Or.inl rfl | exact Or.inr (Or.inl rfl) | exact Or.inr (Or.inr rfl)) (hd : (y == ("__debug__" : Str)) = false := by decide) (hcd : (y == ("__classdict__" : Str)) = false := by decide)
    (hg : Gl X "isinstance" := by rfl) (hgN : Gl X N := by rfl) (hdN : (N == ("__debug__" : Str)) = false := by decide)
    (he : starEach [.Name y p1, .Name N p2] X.env = (false, eval (.Name y p1) X.env) :: starEach [.Name N p2] X.env := by rfl) :
    SX ct (X.suite a ((a, oe) :: pn')) false (.Call (.Name "isinstance" p) [.Name y p1, .Name N p2] [] pos) (dIsE i a b) := by
  refine PE.imp (pe_callB (X := X.suite a ((a, oe) :: pn')) (call_isE C hz hf) hg hm (by decide +kernel) (pa_cons (pe_var hN hv hd hcd) (pa_cons (pe_glob (v := .ref (ct m)) hgN hmN rfl hdN) pa_nil) he) (by decide) (by decide) he rfl) fun σ H Q h => ?_
  obtain ⟨F, ρ, f, o, s, e, q⟩ := h
  unfold dIsE at e
  split at e
  · rename_i a' ea
    split at e
    · rename_i hh
      cases e
      subst hh
      obtain ⟨v, g, ev, r, _⟩ := s.rep.get ea
      obtain ⟨rfl, _⟩ := r
      exact ⟨_, ev, .ref (ct m), .ref (ct m), b, rfl, fun u hu => hu, hk, q.scal s.wf.le fun _ _ => ⟨rfl, rfl⟩⟩
    · cases e
  · cases e
end
theorem kitR_of {K : PySem.W.Frag} {x y : Addr} {b : Bool} (h : PySem.W.subIn K (.ref x) (.ref y) = some b) (hs : PySem.W.subIn K (.ref x) (.ref x) = some true) (hd : PySem.W.hasDictIn K y = true) (ht : PySem.W.typeIn K (.ref y) = some (.type "type")) : PySem.W.kitOne K (.ref x) (.ref y) = some b := by
  unfold PySem.W.kitOne
  split
  · rename_i e
    have e' : Value.ref x = Value.ref y := eq_of_beq e
    injection e' with e'
    subst e'
    rw [hs] at h
    exact h
  · unfold PySem.W.kitCls
    obtain ⟨cd, hc, _⟩ := PySem.W.any_some hd
    show (if ((PySem.W.clsIn K y).isSome && PySem.W.typeIn K (.ref y) == some (.type "type")) = true then PySem.W.subIn K (.ref x) (.ref y) else none) = some b
    rw [hc, ht]
    simpa using h
end Mini
namespace Mini
open PySem PySem.Spec PyProof.Rows L2
section
variable {ct : Nat → Addr} {X : Cx} {a b c e : Expr} {da db dc d : Env → Option O} {k k1 k2 k3 : Bool} {pos : Pos}
def shlOk (i j : Int) : Bool := decide (0 ≤ j) && decide ((Builtin.Int.intBits i : Int) + j ≤ 2 ^ 27)
def oShl := intsO shlOk fun i j => .int (i * 2 ^ j.toNat)
theorem sx_shl (ha : SX ct X k1 a da) (hb : SX ct X k2 b db) : SX ct X false (.BinOp a .LShift b pos) (dBin oShl da db) :=
  sx_bin op_shlW (fn2_I (fun i j h => by
    unfold shlOk at h
    rw [Bool.and_eq_true] at h
    exact ⟨of_decide_eq_true h.1, of_decide_eq_true h.2⟩) fun _ _ _ _ _ => ⟨rfl, rfl⟩) ha hb
def oBits : O → Option O
  | .int i => some (.int (Builtin.Int.intBits i : Nat))
  | _ => none
theorem sx_bits {apos : Pos} (ha : SX ct X k a da) (hbase : attributeBase a "bit_length" X.env (eval a X.env) = eval a X.env := by rfl) (hline : (apos.endLine == pos.line) = true := by rfl) :
    SX ct X false (.Call (.Attribute a "bit_length" apos) [] [] pos) (dBind da oBits) := by
  refine PE.imp (pe_bits ha hbase hline) fun σ H Q h => ?_
  obtain ⟨F, ρ, f, o, s, e, q⟩ := h
  obtain ⟨x, e1, e2⟩ := dBind_some e
  refine ⟨F, ρ, f, x, s, e1, fun u F1 H1 g ex1 r1 gd1 => ?_⟩
  unfold oBits at e2
  split at e2
  · cases e2
    exact ⟨_, r1.1, (q.go (f' := zf) ex1).scal ex1.le fun _ _ => ⟨rfl, rfl⟩⟩
  · cases e2
/-! names of the module -/
structure GC (mg : Str → Option Value) (K : PySem.W.Frag) (ct : Nat → Addr) (x : Str) (o : O) : Prop where
  ex : ∃ v u, mg x = some u ∧ RelV v u ∧ ∀ F H, Rep K ct F H o v zf
theorem sx_glob {x : Str} {o : O} (G : GC X.mg X.K ct x o) (hg : Gl X x := by rfl) (hdb : (x == ("__debug__" : Str)) = false := by decide) : SX ct X false (.Name x pos) (fun _ => some o) := by
  obtain ⟨v, u, hm, r, h⟩ := G.ex
  exact sx_const (pe_glob hg hm r hdb) h
theorem rep_kt {K : PySem.W.Frag} {F H : Hp} {a : Addr} {dd : Option Addr} {us : List Value} {n : Nat} {sl : Array (Option Value)} {os : List O} {xs : List V} (h : K.lookup a = some ⟨.type "tuple", dd, .seq us.toArray n, sl⟩) (hl : us.length ≤ sizeLine) (r : Vals xs us) (rs : Reps K ct F H os xs zf) : Rep K ct F H (.tup os) (.ref a) zf :=
  ⟨a, xs, rfl, .inr ⟨_, us.toArray, n, h, rfl, rfl, by simpa using hl, by simpa using r⟩, rs⟩
theorem rep_kl {K : PySem.W.Frag} {F H : Hp} {a : Addr} {us : List Value} {n : Nat} {sl : Array (Option Value)} {os : List O} {xs : List V} (h : K.lookup a = some ⟨.type "list", none, .seq us.toArray n, sl⟩) (hl : us.length ≤ sizeLine) (r : Vals xs us) (rs : Reps K ct F H os xs zf) : Rep K ct F H (.lst false os) (.ref a) zf :=
  ⟨a, xs, rfl, .inr ⟨_, us.toArray, n, h, rfl, rfl, rfl, by simpa using hl, by simpa using r⟩, rs, rfl⟩
/-! is None -/
def isNon : O → Bool
  | .non => true
  | _ => false
theorem Rep.isN {K : PySem.W.Frag} {F H : Hp} {o : O} {v : V} {f : Fp} (r : Rep K ct F H o v f) : decide (v = .non) = isNon o := by
  cases o with
  | non => obtain ⟨rfl, _⟩ := r; rfl
  | bl b => obtain ⟨rfl, _⟩ := r; rfl
  | int i => obtain ⟨rfl, _⟩ := r; rfl
  | str s => obtain ⟨rfl, _⟩ := r; rfl
  | tup os => obtain ⟨a, xs, rfl, _⟩ := r; rfl
  | exc a => obtain ⟨rfl, _⟩ := r; rfl
  | lst w os => cases w <;> (obtain ⟨a, _, rfl⟩ : ∃ a : Addr, True ∧ v = .ref a := by first | (obtain ⟨a, xs, e, _⟩ := r; exact ⟨a, trivial, e⟩) | (obtain ⟨a, xs, g, e, _⟩ := r; exact ⟨a, trivial, e⟩)) <;> rfl
  | dct w ks os => cases w <;> (obtain ⟨a, _, rfl⟩ : ∃ a : Addr, True ∧ v = .ref a := by first | (obtain ⟨a, xs, e, _⟩ := r; exact ⟨a, trivial, e⟩) | (obtain ⟨a, xs, g, e, _⟩ := r; exact ⟨a, trivial, e⟩)) <;> rfl
  | ins w c ns os => cases w <;> (obtain ⟨a, _, rfl⟩ : ∃ a : Addr, True ∧ v = .ref a := by first | (obtain ⟨a, dx, xs, e, _⟩ := r; exact ⟨a, trivial, e⟩) | (obtain ⟨a, dx, xs, g, e, _⟩ := r; exact ⟨a, trivial, e⟩)) <;> rfl
def oIsN (x y : O) : Option O := match y with
  | .non => some (.bl (isNon x))
  | _ => none
def oNotN (x y : O) : Option O := match y with
  | .non => some (.bl (!isNon x))
  | _ => none
theorem fn2_isN : Fn2 X ct (fun x y H Q => y = .non ∧ Q (.bl (decide (x = .non))) H) oIsN := by
  intro F H x y z u v g h Q le rx ry e q
  unfold oIsN at e
  split at e
  · cases e
    exact ⟨ry.1, by rw [rx.isN]; exact q.scal le fun _ _ => ⟨rfl, rfl⟩⟩
  · cases e
theorem fn2_notN : Fn2 X ct (fun x y H Q => y = .non ∧ Q (.bl (!decide (x = .non))) H) oNotN := by
  intro F H x y z u v g h Q le rx ry e q
  unfold oNotN at e
  split at e
  · cases e
    exact ⟨ry.1, by rw [rx.isN]; exact q.scal le fun _ _ => ⟨rfl, rfl⟩⟩
  · cases e
theorem sx_isN (ha : SX ct X k1 a da) (hb : SX ct X k2 b db) : SX ct X false (.Compare a [.Is] [b] pos) (dBin oIsN da db) := sx_cmp op_isN fn2_isN ha hb (nomark _)
theorem sx_notN (ha : SX ct X k1 a da) (hb : SX ct X k2 b db) : SX ct X false (.Compare a [.IsNot] [b] pos) (dBin oNotN da db) := sx_cmp op_notN fn2_notN ha hb (nomark _)
theorem st_isN (ha : SX ct X k1 a da) (hb : SX ct X k2 b db) : ST ct X (.Compare a [.Is] [b] pos) (dTru oBool (dBin oIsN da db)) := st_cmpG op_isN fn2_isN ha hb (nomark _)
theorem st_notN (ha : SX ct X k1 a da) (hb : SX ct X k2 b db) : ST ct X (.Compare a [.IsNot] [b] pos) (dTru oBool (dBin oNotN da db)) := st_cmpG op_notN fn2_notN ha hb (nomark _)
/-! a op b op' c -/
def dChain (fn fn' : O → O → Option O) (da db dc : Env → Option O) : Env → Option O := fun ρ => match da ρ with
  | some x => match db ρ with
    | some y => match fn x y with
      | some (.bl true) => match dc ρ with
        | some z => fn' y z
        | none => none
      | some (.bl false) => some (.bl false)
      | _ => none
    | none => none
  | none => none
theorem chain_go {r r' : R2} {fn fn' : O → O → Option O} (hr : Fn2 X ct r fn) (hr' : Fn2 X ct r' fn') {σ : L2.St} {H : Hp} {Q : VK} (h : tX ct X.K false (dChain fn fn' da db dc) σ H Q) : tChain r r' (tX ct X.K k1 da) (tX ct X.K k2 db) (tX ct X.K k3 dc) σ H Q := by
  obtain ⟨F, ρ, f, o, s, e, q⟩ := h
  unfold dChain at e
  split at e
  · rename_i x ex
    split at e
    · rename_i y ey
      refine ⟨F, ρ, f, x, s, ex, fun u F1 H1 g ex1 r1 gd1 => ?_⟩
      refine ⟨F1, ρ, f, y, s.ext ex1, ey, fun v F2 H2 h ex2 r2 gd2 => ?_⟩
      split at e
      · rename_i e3
        refine hr F2 H2 x y _ u v g h _ ex2.le (r1.ext ex2) r2 e3 fun w F3 H3 g3 ex3 r3 gd3 => ⟨true, r3.1, ?_⟩
        refine iteT ?_
        split at e
        · rename_i z ez
          refine ⟨F3, ρ, f, z, (s.ext (ex1.trans ex2)).ext ex3, ez, fun t F4 H4 g4 ex4 r4 gd4 => ?_⟩
          exact hr' F4 H4 y z o v t h g4 Q ex4.le (r2.ext (ex3.trans ex4)) r4 e (q.go ((ex1.trans ex2).trans (ex3.trans ex4)))
        · cases e
      · rename_i e3
        cases e
        refine hr F2 H2 x y _ u v g h _ ex2.le (r1.ext ex2) r2 e3 fun w F3 H3 g3 ex3 r3 gd3 => ⟨false, r3.1, ?_⟩
        refine iteF ?_
        exact (q.go (f' := zf) ((ex1.trans ex2).trans ex3)).scal ex3.le fun _ _ => ⟨rfl, rfl⟩
      · cases e
    · cases e
  · cases e
theorem sx_chain {op op' : CmpOp} {r r' : R2} {fn fn' : O → O → Option O} (ho : OpR X (compareOp op) r) (hr : Fn2 X ct r fn) (ho' : OpR X (compareOp op') r') (hr' : Fn2 X ct r' fn') (ha : SX ct X k1 a da) (hb : SX ct X k2 b db) (hc : SX ct X k3 c dc)
    (hm : lastMarks [op, op'] [b, c] = false := by with_unfolding_all rfl) : SX ct X false (.Compare a [op, op'] [b, c] pos) (dChain fn fn' da db dc) :=
  PE.imp (pe_chain ho ho' ha hb hc hm) fun σ H Q h => chain_go hr hr' h
theorem st_chain {op op' : CmpOp} {r r' : R2} {fn fn' : O → O → Option O} (ho : OpR X (compareOp op) r) (hr : Fn2 X ct r fn) (ho' : OpR X (compareOp op') r') (hr' : Fn2 X ct r' fn') (ha : SX ct X k1 a da) (hb : SX ct X k2 b db) (hc : SX ct X k3 c dc)
    (hm : lastMarks [op, op'] [b, c] = false := by with_unfolding_all rfl) : ST ct X (.Compare a [op, op'] [b, c] pos) (dTru oBool (dChain fn fn' da db dc)) := by
  refine PT.imp (pt_chain ho ho' ha hb hc hm) fun σ H Q h => ?_
  obtain ⟨F, ρ, f, b, s, e, q⟩ := h
  unfold dTru at e
  split at e
  · rename_i o e1
    refine chain_go (ct := ct) (X := X) hr hr' (Q := fun x H' => ∃ k, x = V.bl k ∧ Q k H') ⟨F, ρ, f, o, s, e1, fun v F' H' g ex r gd => ?_⟩
    unfold oBool at e
    split at e
    · cases e
      exact ⟨_, r.1, q F' H' ex⟩
    · cases e
  · cases e
/-! x in a list or tuple of plain items -/
def flatO : O → Bool
  | .non => true
  | .bl _ => true
  | .int _ => true
  | .str _ => true
  | _ => false
def eqF : O → O → Bool
  | .non, .non => true
  | .bl a, .bl b => a == b
  | .bl a, .int b => (if a then 1 else 0) == b
  | .int a, .bl b => a == (if b then 1 else 0)
  | .int a, .int b => a == b
  | .str a, .str b => a == b
  | _, _ => false
theorem Rep.flat {K : PySem.W.Frag} {F H : Hp} {o : O} {v : V} {f : Fp} (r : Rep K ct F H o v f) (h : flatO o = true) : flatV v = true := by
  cases o with
  | non => obtain ⟨rfl, _⟩ := r; rfl
  | bl b => obtain ⟨rfl, _⟩ := r; rfl
  | int i => obtain ⟨rfl, _⟩ := r; rfl
  | str s => obtain ⟨rfl, _⟩ := r; rfl
  | _ => cases h
theorem Rep.eqF {K : PySem.W.Frag} {F H : Hp} {o p : O} {v u : V} {f g : Fp} (r : Rep K ct F H o v f) (s : Rep K ct F H p u g) (h : flatO o = true) (h2 : flatO p = true) : eqV v u = Mini.eqF o p := by
  cases o with
  | non => obtain ⟨rfl, _⟩ := r; cases p with
    | non => obtain ⟨rfl, _⟩ := s; rfl
    | bl b => obtain ⟨rfl, _⟩ := s; rfl
    | int i => obtain ⟨rfl, _⟩ := s; rfl
    | str s => obtain ⟨rfl, _⟩ := s; rfl
    | _ => cases h2
  | bl b => obtain ⟨rfl, _⟩ := r; cases p with
    | non => obtain ⟨rfl, _⟩ := s; rfl
    | bl b => obtain ⟨rfl, _⟩ := s; rfl
    | int i => obtain ⟨rfl, _⟩ := s; rfl
    | str s => obtain ⟨rfl, _⟩ := s; rfl
    | _ => cases h2
  | int i => obtain ⟨rfl, _⟩ := r; cases p with
    | non => obtain ⟨rfl, _⟩ := s; rfl
    | bl b => obtain ⟨rfl, _⟩ := s; rfl
    | int i => obtain ⟨rfl, _⟩ := s; rfl
    | str s => obtain ⟨rfl, _⟩ := s; rfl
    | _ => cases h2
  | str s' => obtain ⟨rfl, _⟩ := r; cases p with
    | non => obtain ⟨rfl, _⟩ := s; rfl
    | bl b => obtain ⟨rfl, _⟩ := s; rfl
    | int i => obtain ⟨rfl, _⟩ := s; rfl
    | str s => obtain ⟨rfl, _⟩ := s; rfl
    | _ => cases h2
  | _ => cases h
theorem Reps.inF {K : PySem.W.Frag} {F H : Hp} {p : O} {u : V} {g : Fp} (s : Rep K ct F H p u g) (h2 : flatO p = true) : ∀ {os : List O} {vs : List V} {f : Fp}, Reps K ct F H os vs f → os.all flatO = true → vs.all flatV = true ∧ inV u vs = os.any fun y => Mini.eqF y p
  | [], vs, _, h, _ => by
    obtain ⟨rfl, _⟩ := h
    exact ⟨rfl, rfl⟩
  | o :: os, vs, f, h, z => by
    obtain ⟨v, vr, g1, l, rfl, r, rs, _⟩ := h
    rw [List.all_cons, Bool.and_eq_true] at z
    obtain ⟨i1, i2⟩ := Reps.inF s h2 rs z.2
    refine ⟨by rw [List.all_cons, r.flat z.1, i1]; rfl, ?_⟩
    unfold inV at i2 ⊢
    rw [List.any_cons, List.any_cons, i2, r.eqF s z.1 h2]
def oIn (neg : Bool) (x y : O) : Option O := match y with
  | .tup ys => if (flatO x && ys.all flatO) = true then some (.bl (if neg then !(ys.any fun y => eqF y x) else ys.any fun y => eqF y x)) else none
  | .lst _ ys => if (flatO x && ys.all flatO) = true then some (.bl (if neg then !(ys.any fun y => eqF y x) else ys.any fun y => eqF y x)) else none
  | _ => none
theorem fn2_in (neg : Bool) : Fn2 X ct (rIn X.K neg) (oIn neg) := by
  intro F H x y z u v g h Q le rx ry e q
  unfold oIn at e
  split at e
  · split at e
    · rename_i c
      rw [Bool.and_eq_true] at c
      cases e
      obtain ⟨a, xs, rfl, s, rs⟩ := ry
      obtain ⟨i1, i2⟩ := Reps.inF rx c.1 rs c.2
      refine ⟨a, xs, rfl, .inr (Same.seqT le s), rx.flat c.1, i1, ?_⟩
      rw [i2]
      exact q.scal le fun _ _ => ⟨rfl, rfl⟩
    · cases e
  · split at e
    · rename_i c
      rw [Bool.and_eq_true] at c
      cases e
      obtain ⟨a, xs, g', rfl, s, rs, _⟩ := Rep.list le ry
      obtain ⟨i1, i2⟩ := Reps.inF rx c.1 rs c.2
      refine ⟨a, xs, rfl, .inl s, rx.flat c.1, i1, ?_⟩
      rw [i2]
      exact q.scal le fun _ _ => ⟨rfl, rfl⟩
    · cases e
  · cases e
theorem sx_in (ha : SX ct X k1 a da) (hb : SX ct X k2 b db) (hm : behindInMarks .In b = false := by with_unfolding_all rfl) : SX ct X false (.Compare a [.In] [b] pos) (dBin (oIn false) da db) := sx_cmp op_in_seq (fn2_in false) ha hb hm
theorem sx_nin (ha : SX ct X k1 a da) (hb : SX ct X k2 b db) (hm : behindInMarks .NotIn b = false := by with_unfolding_all rfl) : SX ct X false (.Compare a [.NotIn] [b] pos) (dBin (oIn true) da db) := sx_cmp op_notIn_seq (fn2_in true) ha hb hm
theorem st_in (ha : SX ct X k1 a da) (hb : SX ct X k2 b db) (hm : behindInMarks .In b = false := by with_unfolding_all rfl) : ST ct X (.Compare a [.In] [b] pos) (dTru oBool (dBin (oIn false) da db)) := st_cmpG op_in_seq (fn2_in false) ha hb hm
theorem st_nin (ha : SX ct X k1 a da) (hb : SX ct X k2 b db) (hm : behindInMarks .NotIn b = false := by with_unfolding_all rfl) : ST ct X (.Compare a [.NotIn] [b] pos) (dTru oBool (dBin (oIn true) da db)) := st_cmpG op_notIn_seq (fn2_in true) ha hb hm
/-! new lists and tuples of frozen items -/
theorem Kn.newl {K : PySem.W.Frag} {F H : Hp} {os : List O} {vs : List V} {Q : VK} {p : Addr} {f : Fp} (q : Kn K ct false f F H (.lst true os) Q) (le : Same F H) (r : Reps K ct F H os vs zf) (np : H p = none) : Q (.ref p) (upd H p (.lst vs)) := by
  have hFp : F p = none := le.free np
  have e2 : Ext F H F (upd H p (.lst vs)) :=
    ⟨Same.refl _, fun b o hb => by rw [upd_ne (ne_of_none hb np)]; exact hb, fun b o hb => by rw [upd_ne (ne_of_none hb hFp)]; exact le b o hb, fun a ha => .inl ha⟩
  refine q (.ref p) _ _ (bump p zf) e2 ⟨p, vs, zf, rfl, upd_same, r.ext e2, rfl⟩ (Gd.mkn (fun a => ?_) (fun a z => ?_) fun a z => ?_)
  · by_cases y : a = p
    · simp [bump, y, zf]
    · simp [bump, y, zf]
  · by_cases y : a = p
    · subst y; exact np
    · exact absurd (by simp [bump, y, zf]) z
  · by_cases y : a = p
    · subst y; exact hFp
    · exact absurd (by simp [bump, y, zf]) z
theorem Kn.newt {K : PySem.W.Frag} {F H : Hp} {os : List O} {vs : List V} {Q : VK} {p : Addr} {f : Fp} (q : Kn K ct false f F H (.tup os) Q) (le : Same F H) (r : Reps K ct F H os vs zf) (np : H p = none) : Q (.ref p) (upd H p (.tup vs)) := by
  have hFp : F p = none := le.free np
  have e2 : Ext F H (upd F p (.tup vs)) (upd H p (.tup vs)) := by
    refine ⟨fun b o hb => by rw [upd_ne (ne_of_none hb hFp)]; exact hb, fun b o hb => by rw [upd_ne (ne_of_none hb np)]; exact hb, fun b o hb => ?_, fun a ha => ?_⟩
    · by_cases y : b = p
      · subst y; rw [upd_same] at hb ⊢; exact hb
      · rw [upd_ne y] at hb ⊢; exact le b o hb
    · by_cases y : a = p
      · subst y; exact .inr np
      · rw [upd_ne y] at ha; exact .inl ha
  exact q (.ref p) _ _ zf e2 ⟨p, vs, rfl, .inl (.inl upd_same), r.ext e2⟩ Gd.zero
def oList : O → Option O
  | .lst _ os => if isFzs os = true then some (.lst true os) else none
  | .tup os => if isFzs os = true then some (.lst true os) else none
  | _ => none
theorem sx_list {p : Pos} (hm : X.mg "list" = none) (ha : SX ct X k1 a da) (hg : Gl X "list" := by rfl) (he : starEach [a] X.env = [(false, eval a X.env)] := by rfl) : SX ct X false (.Call (.Name "list" p) [a] [] pos) (dBind da oList) := by
  refine sx_t1 call_list_of ?_ hm (by decide +kernel) ha hg (by decide) (by decide) he
  intro F H x z u g Q le r e q
  unfold oList at e
  split at e
  · split at e
    · cases e
      obtain ⟨a, xs, g', rfl, s, rs, _⟩ := Rep.list le r
      have ez := rs.fz0 (by assumption)
      subst ez
      exact ⟨a, xs, rfl, .inl s, fun l nl => q.newl le rs nl⟩
    · cases e
  · split at e
    · cases e
      obtain ⟨a, xs, rfl, s, rs⟩ := r
      have ez := rs.fz0 (by assumption)
      subst ez
      exact ⟨a, xs, rfl, .inr (Same.seqT le s), fun l nl => q.newl le rs nl⟩
    · cases e
  · cases e
def oTuple : O → Option O
  | .lst _ os => if isFzs os = true then some (.tup os) else none
  | .tup os => if isFzs os = true then some (.tup os) else none
  | _ => none
theorem sx_tuple {p : Pos} (hm : X.mg "tuple" = none) (ha : SX ct X k1 a da) (hg : Gl X "tuple" := by rfl) (he : starEach [a] X.env = [(false, eval a X.env)] := by rfl) : SX ct X false (.Call (.Name "tuple" p) [a] [] pos) (dBind da oTuple) := by
  refine sx_t1 call_tuple_of ?_ hm (by decide +kernel) ha hg (by decide) (by decide) he
  intro F H x z u g Q le r e q
  unfold oTuple at e
  split at e
  · split at e
    · cases e
      obtain ⟨a, xs, g', rfl, s, rs, _⟩ := Rep.list le r
      have ez := rs.fz0 (by assumption)
      subst ez
      exact ⟨a, xs, rfl, .inl ⟨s, fun l nl => q.newt le rs nl⟩⟩
    · cases e
  · split at e
    · cases e
      obtain ⟨a, xs, rfl, s, rs⟩ := r
      have ez := rs.fz0 (by assumption)
      subst ez
      exact ⟨a, xs, rfl, .inr ⟨Same.seqT le s, q _ F H zf (Ext.refl le) ⟨a, xs, rfl, s, rs⟩ Gd.zero⟩⟩
    · cases e
  · cases e
end
end Mini
namespace Mini
open PySem PySem.Spec PyProof.Rows L2
def wipeE (ρ : Env) : List Nat → Env
  | [] => ρ
  | v :: vs => (wipeE ρ vs).set v none
theorem SRep.wipe {K : PySem.W.Frag} {ct : Nat → Addr} {F H : Hp} {ρ : Env} {σ : L2.St} {f : Fp} (h : SRep K ct F H ρ σ f) : ∀ vs : List Nat, ∃ l : Fp, SRep K ct F H (wipeE ρ vs) (L2.wipe σ vs) l ∧ ∀ a, l a ≤ f a
  | [] => ⟨f, h, fun _ => Nat.le_refl _⟩
  | v :: vs => by
    obtain ⟨l, h1, h2⟩ := SRep.wipe h vs
    obtain ⟨l', h3, h4⟩ := SRep.clear v none h1
    exact ⟨l', h3, fun a => Nat.le_trans (h4 a) (h2 a)⟩
theorem wipe_get {σ : L2.St} {j : Nat} : ∀ {vs : List Nat}, j ∉ vs → (L2.wipe σ vs)[j]? = σ[j]?
  | [], _ => rfl
  | v :: vs, h => by
    rw [List.mem_cons, not_or] at h
    unfold L2.wipe
    rw [List.getElem?_set_ne (fun e => h.1 e.symm), wipe_get h.2]
theorem wipe_in {σ : L2.St} {j : Nat} : ∀ {vs : List Nat}, j ∈ vs → (L2.wipe σ vs)[j]? = if j < σ.length then some none else none
  | v :: vs, h => by
    unfold L2.wipe
    by_cases e : v = j
    · subst e
      by_cases hl : v < σ.length
      · rw [List.getElem?_set_self (by rw [L2.wipe_length]; exact hl), if_pos hl]
      · rw [if_neg hl, List.getElem?_eq_none (by rw [List.length_set, L2.wipe_length]; omega)]
    · rw [List.getElem?_set_ne e]
      rcases List.mem_cons.mp h with q | q
      · exact absurd q.symm e
      · exact wipe_in q
def pnOf (vs : List Nat) : Nat → Bool := fun j => !(vs.contains j)
theorem wipe_same {σ σ2 : L2.St} {vs : List Nat} (p : Pin (pnOf vs) (L2.wipe σ vs) σ2) : L2.wipe σ2 vs = L2.wipe σ vs := by
  apply List.ext_getElem?
  intro j
  by_cases h : j ∈ vs
  · rw [wipe_in h, wipe_in h, p.1, L2.wipe_length]
  · rw [wipe_get h]
    refine p.2 j ?_
    unfold pnOf
    simp [h]
def lLc (dg : O → Env → Option Env) (dc : Env → Option Bool) (de : Env → Option O) (ρ : Env) : List O → Option (List O)
  | [] => some []
  | o :: os => match dg o ρ with
    | some ρ1 => match dc ρ1 with
      | some true => match de ρ1 with
        | some r => match lLc dg dc de ρ os with
          | some rs => some (r :: rs)
          | none => none
        | none => none
      | some false => lLc dg dc de ρ os
      | none => none
    | none => none
def dLc (di : Env → Option (List O)) (dg : O → Env → Option Env) (dc : Env → Option Bool) (de : Env → Option O) (vs : List Nat) : Env → Option O := fun ρ => match di ρ with
  | some os => if os.length ≤ sizeLine then (match lLc dg dc de (wipeE ρ vs) os with
    | some rs => some (.lst true rs)
    | none => none) else none
  | none => none
def dYes : Env → Option Bool := fun _ => some true
section
variable {ct : Nat → Addr} {X : Cx} {tg iter elt : Expr} {ifs : List Expr} {di : Env → Option (List O)} {dg : O → Env → Option Env} {dc : Env → Option Bool} {de : Env → Option O} {scope : Scope} {own : List (Str × Nat)} {pos spos : Pos}
def STs (ct : Nat → Addr) (X : Cx) (ifs : List Expr) (d : Env → Option Bool) : Prop := PTs X ifs (tT ct X.K d)
theorem PTs.imp {X : Cx} {e : List Expr} {t t' : TT} (h : PTs X e t) (i : ∀ σ H Q, t' σ H Q → t σ H Q) : PTs X e t' :=
  ⟨fun pins s σ H Q I hq => h.run pins s σ H Q I (i σ H Q hq)⟩
theorem sts_nil : STs ct X [] dYes := PTs.imp pts_nil fun σ H Q h => by
  obtain ⟨F, ρ, f, b, s, e, q⟩ := h
  cases e
  exact q F H (Ext.refl s.wf.le)
theorem sts_one {c : Expr} (h : ST ct X c dc) : STs ct X [c] dc := pts_one h
/-- what a comprehension makes -/
theorem lc_go {K : PySem.W.Frag} {wi : TI} {g : TG} {tt : TT} {te : TE} (vs : List Nat) (hi : ∀ σ H R, tI ct K di σ H R → wi σ H R) (hg : ∀ v σ H Q, tGt ct K (pnOf vs) dg v σ H Q → g v σ H Q) (ht : ∀ σ H Q, tT ct K dc σ H Q → tt σ H Q) (he : ∀ σ H Q, tX ct K false de σ H Q → te σ H Q)
    {σ : L2.St} {H : Hp} {Q : VK} (h : tX ct K false (dLc di dg dc de vs) σ H Q) : tLc wi g tt te vs σ H Q := by
  obtain ⟨F, ρ, f, out, s, e, q⟩ := h
  unfold dLc at e
  split at e
  · rename_i os eo
    split at e
    · rename_i hsz
      split at e
      · rename_i rs er
        cases e
        refine hi _ _ _ ⟨F, ρ, f, os, s, eo, fun J F1 H1 ex1 wk => ?_⟩
        intro D hD
        have hD0 : H D = none := ex1.hH.free hD
        refine ⟨fun i m H' => m = os.length - i ∧ i ≤ os.length ∧ ∃ F' acc accO g rest, Ext F H F' H' ∧ Same F1 F' ∧ F' D = none ∧ H' D = some (.lst acc) ∧ Reps K ct F' H' accO acc g ∧ Gd false f H F' g ∧ g D = 0 ∧ accO.length ≤ i ∧ lLc dg dc de (wipeE ρ vs) (os.drop i) = some rest ∧ rs = accO ++ rest,
          ⟨os.length, rfl, Nat.zero_le _, F1, [], [], zf, rs, ?_, Same.refl _, ex1.le.free hD, upd_same, ⟨rfl, rfl⟩, Gd.zero, rfl, Nat.le_refl _, er, rfl⟩, ?_⟩
        · exact ⟨ex1.hF, fun b o hb => by rw [upd_ne (ne_of_none hb hD0)]; exact ex1.hH b o hb, fun b o hb => by rw [upd_ne (ne_of_none hb (ex1.le.free hD))]; exact ex1.le b o hb, ex1.new⟩
        · rintro i m H' ⟨rfl, hi', F', acc, accO, g, rest, ex, hF', hFD, hHD, ra, gd, gD, hlen, el, ers⟩
          obtain ⟨hst, hgo⟩ := wk F' H' hF' ex.le i
          by_cases hlt : i < os.length
          · have ho : os[i]? = some os[i] := List.getElem?_eq_getElem hlt
            obtain ⟨go, hy⟩ := hgo _ ho
            have ed : os.drop i = os[i] :: os.drop (i + 1) := List.drop_eq_getElem_cons hlt
            rw [ed, lLc] at el
            refine .inr ⟨go, fun H'' => i + 1 ≤ os.length ∧ ∃ F' acc accO g rest, Ext F H F' H'' ∧ Same F1 F' ∧ F' D = none ∧ H'' D = some (.lst acc) ∧ Reps K ct F' H'' accO acc g ∧ Gd false f H F' g ∧ g D = 0 ∧ accO.length ≤ i + 1 ∧ lLc dg dc de (wipeE ρ vs) (os.drop (i + 1)) = some rest ∧ rs = accO ++ rest,
              fun H'' n => ⟨os.length - (i + 1), by omega, rfl, n.1, n.2⟩, fun x H3 y => ?_⟩
            obtain ⟨F3, ex3, r3⟩ := hy x H3 y
            cases e1 : dg os[i] (wipeE ρ vs) with
            | none => rw [e1] at el; cases el
            | some ρ1 =>
              rw [e1] at el
              dsimp only at el
              have s3 := (s.ext ex).ext ex3
              obtain ⟨fw, rw_, lw⟩ := s3.rep.wipe vs
              have wf3 : Wf F3 H3 fw := s3.wf.sub lw
              refine hg _ _ _ _ ⟨F3, wipeE ρ vs, fw, zf, os[i], ρ1, ⟨wf3, rw_⟩, r3, wf3.sub fun a => (by show fw a + zf a ≤ fw a; simp [zf]), e1, fun σ2 f2 rs2 l2 p2 => ⟨wipe_same p2, ?_⟩⟩
              have s2 : Sit K ct F3 H3 ρ1 σ2 f2 := ⟨wf3.sub fun a => by have := l2 a; simpa [zf] using this, rs2⟩
              have exA := ex.trans ex3
              have own3 : ∀ {F5 H5 : Hp}, Ext F3 H3 F5 H5 → F5 D = none ∧ H5 D = some (.lst acc) := fun {F5 H5} e5 => by
                have hH5 : H5 D = some (.lst acc) := e5.hH D _ (ex3.hH D _ hHD)
                refine ⟨none_of_nn fun z => ?_, hH5⟩
                rcases (ex3.trans e5).new D z with y | y
                · exact y hFD
                · rw [hHD] at y; cases y
              cases e2 : dc ρ1 with
              | none => rw [e2] at el; cases el
              | some b =>
                rw [e2] at el
                refine ht _ _ _ ⟨F3, ρ1, f2, b, s2, e2, fun F4 H4 ex4 => ?_⟩
                cases b with
                | false =>
                  refine iteF ?_
                  obtain ⟨d1, d2⟩ := own3 ex4
                  have ex4' := exA.trans ex4
                  refine ⟨hlt, F4, acc, accO, g, rest, ex4', hF'.trans (ex3.hF.trans ex4.hF), d1, d2, (ra.ext ex3).ext ex4, ?_, gD, by omega, el, ers⟩
                  obtain ⟨n1, n2, n3⟩ := gd.n
                  refine Gd.mkn n1 n2 fun a z => none_of_nn fun w => ?_
                  rcases (ex3.trans ex4).new a w with w | w
                  · exact w (n3 a z)
                  · obtain ⟨u, hu, _⟩ := ra.mem a z
                    rw [w] at hu; cases hu
                | true =>
                  refine iteT ?_
                  dsimp only at el
                  cases e3 : de ρ1 with
                  | none => rw [e3] at el; cases el
                  | some r =>
                    rw [e3] at el
                    dsimp only at el
                    cases e4 : lLc dg dc de (wipeE ρ vs) (os.drop (i + 1)) with
                    | none => rw [e4] at el; cases el
                    | some rest' =>
                      rw [e4] at el
                      cases el
                      refine he _ _ _ ⟨F4, ρ1, f2, r, s2.ext ex4, e3, fun yv F5 H5 gy ex5 ry gdy => ?_⟩
                      have ex45 := ex4.trans ex5
                      obtain ⟨d1, d2⟩ := own3 ex45
                      have ex5' := exA.trans ex45
                      have ra5 := ((ra.ext ex3).ext ex4).ext ex5
                      obtain ⟨n1, n2, n3⟩ := gd.n
                      obtain ⟨y1, y2, y3⟩ := gdy.n
                      have gyD : gy D = 0 := Classical.byContradiction fun z => by
                        have := y2 D z
                        rw [ex4.hH D _ (ex3.hH D _ hHD)] at this; cases this
                      have g5 : ∀ a, g a ≠ 0 → F5 a = none := fun a z => none_of_nn fun w => by
                        rcases (ex3.trans ex45).new a w with w | w
                        · exact w (n3 a z)
                        · obtain ⟨u, hu, _⟩ := ra.mem a z
                          rw [w] at hu; cases hu
                      have sep : ∀ a, g a ≠ 0 → gy a = 0 := fun a z => Classical.byContradiction fun w => by
                        obtain ⟨u, hu, _⟩ := ra.mem a z
                        have := y2 a w
                        rw [(ex3.trans ex4).hH a _ hu] at this; cases this
                      refine ⟨acc, d2, ?_, hlt, F5, acc ++ [yv], accO ++ [r], fun a => g a + gy a, rest', ?_, hF'.trans (ex3.hF.trans ex45.hF), d1, upd_same, ?_, Gd.mkn (fun a => ?_) (fun a z => ?_) (fun a z => ?_), by simp [gD, gyD], by rw [List.length_append, List.length_singleton]; omega, rfl, by rw [ers, List.append_assoc]; rfl⟩
                      · rw [← ra.length]; omega
                      · exact ⟨ex5'.hF, fun b o hb => by rw [upd_ne (ne_of_none hb hD0)]; exact ex5'.hH b o hb, fun b o hb => by rw [upd_ne (ne_of_none hb d1)]; exact ex5'.le b o hb, ex5'.new⟩
                      · have ag : ∀ b, g b ≠ 0 → (upd H5 D (.lst (acc ++ [yv]))) b = H5 b := fun b z => upd_ne fun w => by subst w; exact z gD
                        have ag2 : ∀ b, gy b ≠ 0 → (upd H5 D (.lst (acc ++ [yv]))) b = H5 b := fun b z => upd_ne fun w => by subst w; exact z gyD
                        exact Reps.app (Reps.mono (Same.refl _) ag ra5) (Reps.one (Rep.mono (Same.refl _) ag2 ry))
                      · have t1 := n1 a
                        have t2 := y1 a
                        have t3 := sep a
                        show g a + gy a ≤ 1
                        omega
                      · by_cases w : g a = 0
                        · exact (exA.trans ex4).hH.free (y2 a (by have z' : g a + gy a ≠ 0 := z; omega))
                        · exact n2 a w
                      · by_cases w : g a = 0
                        · exact y3 a (by have z' : g a + gy a ≠ 0 := z; omega)
                        · exact g5 a w
          · have ei : i = os.length := by omega
            subst ei
            rw [List.drop_length] at el
            cases el
            rw [List.append_nil] at ers
            subst ers
            obtain ⟨n1, n2, n3⟩ := gd.n
            refine .inl ⟨hst (Nat.le_refl _), q (.ref D) F' H' (bump D g) ex ⟨D, acc, g, rfl, hHD, ra, rfl⟩ (Gd.mkn (fun a => ?_) (fun a z => ?_) fun a z => ?_)⟩
            · by_cases y : a = D
              · subst y; simp [bump, gD]
              · have := n1 a; simp [bump, y, this]
            · by_cases y : a = D
              · subst y; exact hD0
              · exact n2 a (by simpa [bump, y] using z)
            · by_cases y : a = D
              · subst y; exact hFD
              · exact n3 a (by simpa [bump, y] using z)
      · cases e
    · cases e
  · cases e
theorem sx_lc (own : List (Str × Nat)) (hc : X.calm = true) (hN : X.N.Nodup) (hi : SI ct X tg iter di) (ok : BlkOk X.N X.env.scope scope own)
    (hg : ∀ (s : Shared) (H : Hp) (C : Addr) (cl : List (Str × Addr)) (fp : List Addr), SG ct (X.blk s H scope (compEnvC scope cl C X.env) fp) (pnOf (own.map (·.2))) tg dg)
    (ht : ∀ (s : Shared) (H : Hp) (C : Addr) (cl : List (Str × Addr)) (fp : List Addr), STs ct (X.blk s H scope (compEnvC scope cl C X.env) fp) ifs dc)
    (he : ∀ (s : Shared) (H : Hp) (C : Addr) (cl : List (Str × Addr)) (fp : List Addr), SX ct (X.blk s H scope (compEnvC scope cl C X.env) fp) false elt de) (hs : ∀ x, foldedSetIterable iter X.env x = pure x := by intro _; rfl) :
    SX ct X false (.ListComp elt [⟨tg, iter, ifs, 0⟩] scope pos) (dLc di dg dc de (own.map (·.2))) :=
  PE.imp (pe_lc (own := own) (wi := tI ct X.K di) (g := tGt ct X.K (pnOf (List.map Prod.snd own)) dg) (tt := tT ct X.K dc) (te := tX ct X.K false de) hc hN hi ok hg ht he hs) fun σ H Q h => lc_go _ (fun _ _ _ z => z) (fun _ _ _ _ z => z) (fun _ _ _ z => z) (fun _ _ _ z => z) h
/-- y = [..] on one line -/
theorem ss_setLc {pn : Nat → Bool} {W : WX} (i : Nat) (own : List (Str × Nat)) {y : Str} {py : Pos} (hc : X.calm = true) (hN : X.N.Nodup) (hi : SI ct X tg iter di) (ok : BlkOk X.N X.env.scope scope own)
    (hg : ∀ (s : Shared) (H : Hp) (C : Addr) (cl : List (Str × Addr)) (fp : List Addr), SG ct (X.blk s H scope (compEnvC scope cl C X.env) fp) (pnOf (own.map (·.2))) tg dg)
    (ht : ∀ (s : Shared) (H : Hp) (C : Addr) (cl : List (Str × Addr)) (fp : List Addr), STs ct (X.blk s H scope (compEnvC scope cl C X.env) fp) ifs dc)
    (he : ∀ (s : Shared) (H : Hp) (C : Addr) (cl : List (Str × Addr)) (fp : List Addr), SX ct (X.blk s H scope (compEnvC scope cl C X.env) fp) false elt de) (hsw : swapsWith (.ListComp elt [⟨tg, iter, ifs, 0⟩] scope pos) (some (.Name y py)) spos.line X.env = pure true)
    (hp : pn i = false := by rfl) (hy : X.N[i]? = some y := by rfl) (hyl : X.env.scope.names.lookup y = some .local := by rfl) (hs : ∀ x, foldedSetIterable iter X.env x = pure x := by intro _; rfl) :
    SS ct X pn W (.Assign [.Name y py] (.ListComp elt [⟨tg, iter, ifs, 0⟩] scope pos) spos) (dAsg (dLc di dg dc de (own.map (·.2))) (gSet i)) := by
  refine PS.imp (ps_setLc (own := own) (wi := tI ct X.K di) (g := tGt ct X.K (pnOf (List.map Prod.snd own)) dg) (tt := tT ct X.K dc) (te := tX ct X.K false de) hc hN hy hyl hsw hi ok hg ht he hs) fun D σ H h => ?_
  obtain ⟨F, ρ, f, out, s, e, q⟩ := h
  unfold dAsg at e
  split at e
  · rename_i o eo
    unfold gSet at e
    split at e
    · rename_i ρ' eg
      split at eg
      · cases eg
        cases e
        refine lc_go _ (fun _ _ _ z => z) (fun _ _ _ _ z => z) (fun _ _ _ z => z) (fun _ _ _ z => z) ⟨F, ρ, f, o, s, eo, fun v F1 H1 g1 ex r gd => ?_⟩
        have st := ex.stp s.wf s.rep.mem gd
        obtain ⟨g0, h0, ef, _, hf⟩ := SRep.hole i (by assumption) (s.ext ex).rep
        refine q _ F1 H1 _ (st.sub fun a => ?_) ((hf F1 H1 (Same.refl _) fun _ _ => rfl).1 o v g1 r) (Pin.set hp)
        rw [ef]
        show g1 a + h0 a ≤ g0 a + h0 a + g1 a
        omega
      · cases eg
    · cases e
  · cases e
end
end Mini
namespace Mini
open PySem PySem.Spec PyProof.Rows L2
theorem oAdd_i (i j : Int) : oAdd (.int i) (.int j) = some (.int (i + j)) := rfl
theorem oSub_i (i j : Int) : oSub (.int i) (.int j) = some (.int (i - j)) := rfl
theorem oMul_i (i j : Int) : oMul (.int i) (.int j) = if mulOk i j = true then some (.int (i * j)) else none := rfl
theorem oMod_i (i j : Int) : oMod (.int i) (.int j) = if 0 < j then some (.int (i % j)) else none := by
  simp [oMod, intsO]
theorem oDiv_i (i j : Int) : oDiv (.int i) (.int j) = if 0 < j ∧ j.natAbs.log2 < 9000 then some (.int (i / j)) else none := by
  simp [oDiv, intsO]
theorem oAnd_i (i j : Int) : oAnd (.int i) (.int j) = some (.int (Builtin.bitAnd i j)) := rfl
theorem oOr_i (i j : Int) : oOr (.int i) (.int j) = some (.int (Builtin.bitOr i j)) := rfl
theorem oXor_i (i j : Int) : oXor (.int i) (.int j) = some (.int (Builtin.bitXor i j)) := rfl
theorem oLt_i (i j : Int) : oLt (.int i) (.int j) = some (.bl (decide (i < j))) := rfl
theorem oLe_i (i j : Int) : oLe (.int i) (.int j) = some (.bl (decide (i ≤ j))) := rfl
theorem oGt_i (i j : Int) : oGt (.int i) (.int j) = some (.bl (decide (j < i))) := rfl
theorem oGe_i (i j : Int) : oGe (.int i) (.int j) = some (.bl (decide (j ≤ i))) := rfl
theorem oMax_i (i j : Int) : oMax (.int i) (.int j) = some (.int (max i j)) := by
  simp [oMax, intsO]
  split <;> omega
theorem oMin_i (i j : Int) : oMin (.int i) (.int j) = some (.int (min i j)) := by
  simp [oMin, intsO]
  split <;> omega
theorem negO_i (i : Int) : negO (.int i) = some (.int (-i)) := rfl
theorem oAbs_i (i : Int) : oAbs (.int i) = some (.int ((i.natAbs : Nat) : Int)) := by
  simp [oAbs]
  split <;> omega
theorem oInt_i (i : Int) : oInt (.int i) = some (.int i) := rfl
theorem oInt_b (b : Bool) : oInt (.bl b) = some (.int (if b then 1 else 0)) := rfl
theorem oEq_i (i j : Int) : oEq (.int i) (.int j) = some (.bl (decide (i = j))) := by
  simp [oEq, toPy, SeqAt.shaped, PyData.canLay0, PyData.depth, PyData.eqv]
  rfl
theorem oNe_i (i j : Int) : oNe (.int i) (.int j) = some (.bl (decide (i ≠ j))) := by
  simp [oNe, toPy, SeqAt.shaped, PyData.canLay0, PyData.depth, PyData.eqv]
  rfl
theorem eqv_ii (i j : Int) : PyData.eqv (.int i) (.int j) = decide (i = j) := rfl
theorem kit_NoneType_int : kitB "NoneType" "int" = some false := by decide +kernel
theorem kit_bool_int : kitB "bool" "int" = some true := by decide +kernel
theorem kit_int_int : kitB "int" "int" = some true := by decide +kernel
theorem kit_str_int : kitB "str" "int" = some false := by decide +kernel
theorem kit_tuple_int : kitB "tuple" "int" = some false := by decide +kernel
theorem kit_list_int : kitB "list" "int" = some false := by decide +kernel
theorem kit_dict_int : kitB "dict" "int" = some false := by decide +kernel
theorem kit_NoneType_bool : kitB "NoneType" "bool" = some false := by decide +kernel
theorem kit_bool_bool : kitB "bool" "bool" = some true := by decide +kernel
theorem kit_int_bool : kitB "int" "bool" = some false := by decide +kernel
theorem kit_str_bool : kitB "str" "bool" = some false := by decide +kernel
theorem kit_tuple_bool : kitB "tuple" "bool" = some false := by decide +kernel
theorem kit_list_bool : kitB "list" "bool" = some false := by decide +kernel
theorem kit_dict_bool : kitB "dict" "bool" = some false := by decide +kernel
theorem kit_NoneType_str : kitB "NoneType" "str" = some false := by decide +kernel
theorem kit_bool_str : kitB "bool" "str" = some false := by decide +kernel
theorem kit_int_str : kitB "int" "str" = some false := by decide +kernel
theorem kit_str_str : kitB "str" "str" = some true := by decide +kernel
theorem kit_tuple_str : kitB "tuple" "str" = some false := by decide +kernel
theorem kit_list_str : kitB "list" "str" = some false := by decide +kernel
theorem kit_dict_str : kitB "dict" "str" = some false := by decide +kernel
theorem kit_NoneType_tuple : kitB "NoneType" "tuple" = some false := by decide +kernel
theorem kit_bool_tuple : kitB "bool" "tuple" = some false := by decide +kernel
theorem kit_int_tuple : kitB "int" "tuple" = some false := by decide +kernel
theorem kit_str_tuple : kitB "str" "tuple" = some false := by decide +kernel
theorem kit_tuple_tuple : kitB "tuple" "tuple" = some true := by decide +kernel
theorem kit_list_tuple : kitB "list" "tuple" = some false := by decide +kernel
theorem kit_dict_tuple : kitB "dict" "tuple" = some false := by decide +kernel
theorem kit_NoneType_list : kitB "NoneType" "list" = some false := by decide +kernel
theorem kit_bool_list : kitB "bool" "list" = some false := by decide +kernel
theorem kit_int_list : kitB "int" "list" = some false := by decide +kernel
theorem kit_str_list : kitB "str" "list" = some false := by decide +kernel
theorem kit_tuple_list : kitB "tuple" "list" = some false := by decide +kernel
theorem kit_list_list : kitB "list" "list" = some true := by decide +kernel
theorem kit_dict_list : kitB "dict" "list" = some false := by decide +kernel
theorem kit_NoneType_dict : kitB "NoneType" "dict" = some false := by decide +kernel
theorem kit_bool_dict : kitB "bool" "dict" = some false := by decide +kernel
theorem kit_int_dict : kitB "int" "dict" = some false := by decide +kernel
theorem kit_str_dict : kitB "str" "dict" = some false := by decide +kernel
theorem kit_tuple_dict : kitB "tuple" "dict" = some false := by decide +kernel
theorem kit_list_dict : kitB "list" "dict" = some false := by decide +kernel
theorem kit_dict_dict : kitB "dict" "dict" = some true := by decide +kernel
theorem isi_NoneType_int : oIsi "int" .non = some (.bl false) := by show (kitB "NoneType" "int").map O.bl = _; rw [kit_NoneType_int]; rfl
theorem isi_bool_int (b : Bool) : oIsi "int" (.bl b) = some (.bl true) := by show (kitB "bool" "int").map O.bl = _; rw [kit_bool_int]; rfl
theorem isi_int_int (i : Int) : oIsi "int" (.int i) = some (.bl true) := by show (kitB "int" "int").map O.bl = _; rw [kit_int_int]; rfl
theorem isi_str_int (s : Str) : oIsi "int" (.str s) = some (.bl false) := by show (kitB "str" "int").map O.bl = _; rw [kit_str_int]; rfl
theorem isi_tuple_int (os : List O) : oIsi "int" (.tup os) = some (.bl false) := by show (kitB "tuple" "int").map O.bl = _; rw [kit_tuple_int]; rfl
theorem isi_list_int (w : Bool) (os : List O) : oIsi "int" (.lst w os) = some (.bl false) := by show (kitB "list" "int").map O.bl = _; rw [kit_list_int]; rfl
theorem isi_dict_int (w : Bool) (ks : List Key) (os : List O) : oIsi "int" (.dct w ks os) = some (.bl false) := by show (kitB "dict" "int").map O.bl = _; rw [kit_dict_int]; rfl
theorem isi_NoneType_bool : oIsi "bool" .non = some (.bl false) := by show (kitB "NoneType" "bool").map O.bl = _; rw [kit_NoneType_bool]; rfl
theorem isi_bool_bool (b : Bool) : oIsi "bool" (.bl b) = some (.bl true) := by show (kitB "bool" "bool").map O.bl = _; rw [kit_bool_bool]; rfl
theorem isi_int_bool (i : Int) : oIsi "bool" (.int i) = some (.bl false) := by show (kitB "int" "bool").map O.bl = _; rw [kit_int_bool]; rfl
theorem isi_str_bool (s : Str) : oIsi "bool" (.str s) = some (.bl false) := by show (kitB "str" "bool").map O.bl = _; rw [kit_str_bool]; rfl
theorem isi_tuple_bool (os : List O) : oIsi "bool" (.tup os) = some (.bl false) := by show (kitB "tuple" "bool").map O.bl = _; rw [kit_tuple_bool]; rfl
theorem isi_list_bool (w : Bool) (os : List O) : oIsi "bool" (.lst w os) = some (.bl false) := by show (kitB "list" "bool").map O.bl = _; rw [kit_list_bool]; rfl
theorem isi_dict_bool (w : Bool) (ks : List Key) (os : List O) : oIsi "bool" (.dct w ks os) = some (.bl false) := by show (kitB "dict" "bool").map O.bl = _; rw [kit_dict_bool]; rfl
theorem isi_NoneType_str : oIsi "str" .non = some (.bl false) := by show (kitB "NoneType" "str").map O.bl = _; rw [kit_NoneType_str]; rfl
theorem isi_bool_str (b : Bool) : oIsi "str" (.bl b) = some (.bl false) := by show (kitB "bool" "str").map O.bl = _; rw [kit_bool_str]; rfl
theorem isi_int_str (i : Int) : oIsi "str" (.int i) = some (.bl false) := by show (kitB "int" "str").map O.bl = _; rw [kit_int_str]; rfl
theorem isi_str_str (s : Str) : oIsi "str" (.str s) = some (.bl true) := by show (kitB "str" "str").map O.bl = _; rw [kit_str_str]; rfl
theorem isi_tuple_str (os : List O) : oIsi "str" (.tup os) = some (.bl false) := by show (kitB "tuple" "str").map O.bl = _; rw [kit_tuple_str]; rfl
theorem isi_list_str (w : Bool) (os : List O) : oIsi "str" (.lst w os) = some (.bl false) := by show (kitB "list" "str").map O.bl = _; rw [kit_list_str]; rfl
theorem isi_dict_str (w : Bool) (ks : List Key) (os : List O) : oIsi "str" (.dct w ks os) = some (.bl false) := by show (kitB "dict" "str").map O.bl = _; rw [kit_dict_str]; rfl
theorem isi_NoneType_tuple : oIsi "tuple" .non = some (.bl false) := by show (kitB "NoneType" "tuple").map O.bl = _; rw [kit_NoneType_tuple]; rfl
theorem isi_bool_tuple (b : Bool) : oIsi "tuple" (.bl b) = some (.bl false) := by show (kitB "bool" "tuple").map O.bl = _; rw [kit_bool_tuple]; rfl
theorem isi_int_tuple (i : Int) : oIsi "tuple" (.int i) = some (.bl false) := by show (kitB "int" "tuple").map O.bl = _; rw [kit_int_tuple]; rfl
theorem isi_str_tuple (s : Str) : oIsi "tuple" (.str s) = some (.bl false) := by show (kitB "str" "tuple").map O.bl = _; rw [kit_str_tuple]; rfl
theorem isi_tuple_tuple (os : List O) : oIsi "tuple" (.tup os) = some (.bl true) := by show (kitB "tuple" "tuple").map O.bl = _; rw [kit_tuple_tuple]; rfl
theorem isi_list_tuple (w : Bool) (os : List O) : oIsi "tuple" (.lst w os) = some (.bl false) := by show (kitB "list" "tuple").map O.bl = _; rw [kit_list_tuple]; rfl
theorem isi_dict_tuple (w : Bool) (ks : List Key) (os : List O) : oIsi "tuple" (.dct w ks os) = some (.bl false) := by show (kitB "dict" "tuple").map O.bl = _; rw [kit_dict_tuple]; rfl
theorem isi_NoneType_list : oIsi "list" .non = some (.bl false) := by show (kitB "NoneType" "list").map O.bl = _; rw [kit_NoneType_list]; rfl
theorem isi_bool_list (b : Bool) : oIsi "list" (.bl b) = some (.bl false) := by show (kitB "bool" "list").map O.bl = _; rw [kit_bool_list]; rfl
theorem isi_int_list (i : Int) : oIsi "list" (.int i) = some (.bl false) := by show (kitB "int" "list").map O.bl = _; rw [kit_int_list]; rfl
theorem isi_str_list (s : Str) : oIsi "list" (.str s) = some (.bl false) := by show (kitB "str" "list").map O.bl = _; rw [kit_str_list]; rfl
theorem isi_tuple_list (os : List O) : oIsi "list" (.tup os) = some (.bl false) := by show (kitB "tuple" "list").map O.bl = _; rw [kit_tuple_list]; rfl
theorem isi_list_list (w : Bool) (os : List O) : oIsi "list" (.lst w os) = some (.bl true) := by show (kitB "list" "list").map O.bl = _; rw [kit_list_list]; rfl
theorem isi_dict_list (w : Bool) (ks : List Key) (os : List O) : oIsi "list" (.dct w ks os) = some (.bl false) := by show (kitB "dict" "list").map O.bl = _; rw [kit_dict_list]; rfl
theorem isi_NoneType_dict : oIsi "dict" .non = some (.bl false) := by show (kitB "NoneType" "dict").map O.bl = _; rw [kit_NoneType_dict]; rfl
theorem isi_bool_dict (b : Bool) : oIsi "dict" (.bl b) = some (.bl false) := by show (kitB "bool" "dict").map O.bl = _; rw [kit_bool_dict]; rfl
theorem isi_int_dict (i : Int) : oIsi "dict" (.int i) = some (.bl false) := by show (kitB "int" "dict").map O.bl = _; rw [kit_int_dict]; rfl
theorem isi_str_dict (s : Str) : oIsi "dict" (.str s) = some (.bl false) := by show (kitB "str" "dict").map O.bl = _; rw [kit_str_dict]; rfl
theorem isi_tuple_dict (os : List O) : oIsi "dict" (.tup os) = some (.bl false) := by show (kitB "tuple" "dict").map O.bl = _; rw [kit_tuple_dict]; rfl
theorem isi_list_dict (w : Bool) (os : List O) : oIsi "dict" (.lst w os) = some (.bl false) := by show (kitB "list" "dict").map O.bl = _; rw [kit_list_dict]; rfl
theorem isi_dict_dict (w : Bool) (ks : List Key) (os : List O) : oIsi "dict" (.dct w ks os) = some (.bl true) := by show (kitB "dict" "dict").map O.bl = _; rw [kit_dict_dict]; rfl
theorem look_nil (i : Nat) : look [] i = none := by simp [look]
theorem look_z (o : Option O) (ρ : Env) : look (o :: ρ) 0 = o := by cases o <;> rfl
theorem look_s (o : Option O) (ρ : Env) (i : Nat) : look (o :: ρ) (i + 1) = look ρ i := by simp [look]
theorem rngs_z (lo : Int) : rngs lo 0 = [] := rfl
theorem rngs_s (lo : Int) (n : Nat) : rngs lo (n + 1) = .int lo :: rngs (lo + 1) n := by
  simp only [rngs, List.range_succ_eq_map, List.map_cons, List.map_map, List.cons.injEq]
  refine ⟨by simp, List.map_congr_left fun i _ => ?_⟩
  simp only [Function.comp, O.int.injEq]
  push_cast
  omega
theorem line_le {n : Nat} (h : n ≤ 16777216) : (n ≤ sizeLine) = True := by simp [sizeLine_eq, h]
theorem line_lt {n : Nat} (h : n < 16777216) : (n < sizeLine) = True := by simp [sizeLine_eq, h]
theorem mLog2 {n : Nat} (h : n < 18446744073709551616) : (n.log2 < 9000) = True := by
  refine eq_true (Nat.lt_of_le_of_lt ?_ (show 63 < 9000 by decide))
  by_cases z : n = 0
  · subst z; decide
  · exact Nat.le_of_lt_succ ((Nat.log2_lt z).mpr (by simpa using h))
theorem pick_rt {i : Nat} {o : O} {f : Addr → Env} (h : ∀ a, (f a).set i none = (f 0).set i none) : pick i (fun a => some (.rt o (f a))) = some (.rt o ((f 0).set i none)) :=
  pick_of fun a => by
    show some (Out.rt o ((f a).set i none)) = _
    rw [h a]
theorem pick_nx {i : Nat} {f : Addr → Env} (h : ∀ a, (f a).set i none = (f 0).set i none) : pick i (fun a => some (.nx (f a))) = some (.nx ((f 0).set i none)) :=
  pick_of fun a => by
    show some (Out.nx ((f a).set i none)) = _
    rw [h a]
theorem oShl_B {i : Int} {n j : Nat} (h : i.natAbs < 2 ^ n) (hn : n + j ≤ 134217728) : oShl (.int i) (.int (j : Int)) = some (.int (i * 2 ^ j)) := by
  have c := shl_ok h hn
  have c' : shlOk i (j : Int) = true := by
    unfold shlOk
    rw [decide_eq_true c.1, decide_eq_true c.2]; rfl
  simp [oShl, intsO, c']
theorem oBits_i (i : Int) : oBits (.int i) = some (.int (Builtin.Int.intBits i : Nat)) := rfl
theorem idx_t (os : List O) (i : Int) : oIdx (.tup os) (.int i) = atI os i := rfl
theorem idx_l (w : Bool) (os : List O) (i : Int) : oIdx (.lst w os) (.int i) = atI os i := rfl
theorem atI_n {α : Type} (xs : List α) (n : Nat) : atI xs (n : Int) = xs[n]? := by
  by_cases h : n < xs.length
  · rw [List.getElem?_eq_getElem h]
    exact atI_nat (List.getElem?_eq_getElem h)
  · rw [List.getElem?_eq_none (by omega)]
    unfold atI ixN
    rw [if_pos (by omega), if_neg (by omega)]
    rfl
theorem atI_lit {α : Type} (xs : List α) (n : Nat) : atI xs (no_index (OfNat.ofNat n) : Int) = xs[n]? := atI_n xs n
theorem ixN_n (m n : Nat) : ixN m (n : Int) = if n < m then some n else none := by
  unfold ixN
  rw [if_pos (by omega)]
  by_cases h : n < m
  · rw [if_pos h, if_pos (by omega)]; simp
  · rw [if_neg h, if_neg (by omega)]
theorem ixN_lit (m n : Nat) : ixN m (no_index (OfNat.ofNat n) : Int) = if n < m then some n else none := ixN_n m n
theorem atI_z {α : Type} (x : α) (xs : List α) : atI (x :: xs) 0 = some x := atI_nat (j := 0) rfl
theorem len_t (os : List O) : oLen (.tup os) = some (.int os.length) := rfl
theorem len_l (w : Bool) (os : List O) : oLen (.lst w os) = some (.int os.length) := rfl
end Mini
namespace Mini
open PySem PySem.Spec PyProof.Rows L2
/-! sizes of ints -/
def B (n : Nat) (x : Int) : Prop := x.natAbs < 2 ^ n
theorem B.lg {n : Nat} {x : Int} (h : B n x) : x.natAbs.log2 ≤ n := by
  by_cases z : x.natAbs = 0
  · rw [z]; exact Nat.zero_le _
  · exact Nat.le_of_lt ((Nat.log2_lt z).mpr h)
theorem B.mono {m n : Nat} {x : Int} (h : B m x) (l : m ≤ n) : B n x := Nat.lt_of_lt_of_le h (Nat.pow_le_pow_right (by decide) l)
theorem B.mul {m n : Nat} {x y : Int} (h : B m x) (k : B n y) : B (m + n) (x * y) := by
  unfold B at *
  rw [Int.natAbs_mul, Nat.pow_add]
  exact Nat.mul_lt_mul'' h k
theorem B.add {m n : Nat} {x y : Int} (h : B m x) (k : B n y) : B (max m n + 1) (x + y) := by
  have h' := B.mono h (Nat.le_max_left m n)
  have k' := B.mono k (Nat.le_max_right m n)
  unfold B at *
  rw [Nat.pow_succ]
  generalize 2 ^ (max m n) = p at *
  omega
theorem B.sub {m n : Nat} {x y : Int} (h : B m x) (k : B n y) : B (max m n + 1) (x - y) := by
  have h' := B.mono h (Nat.le_max_left m n)
  have k' := B.mono k (Nat.le_max_right m n)
  unfold B at *
  rw [Nat.pow_succ]
  generalize 2 ^ (max m n) = p at *
  omega
theorem B.neg {n : Nat} {x : Int} (h : B n x) : B n (-x) := by
  unfold B at *
  rw [Int.natAbs_neg]; exact h
theorem B.ok {m n : Nat} {x y : Int} (h : B m x) (k : B n y) (l : m + n < 100000000 := by decide) : mulOk x y = true := by
  unfold mulOk
  have h1 := h.lg
  have h2 := k.lg
  exact decide_eq_true (by omega)
theorem B.half {n : Nat} {x : Int} (h : B n x) : B n (x / 2) := by
  unfold B at *
  generalize 2 ^ n = p at *
  omega
theorem B.small {x : Int} (h : -8 < x) (k : x < 8) : B 3 x := by
  unfold B
  show x.natAbs < 8
  omega
theorem B.of_bits {n : Nat} {x : Int} (h : Builtin.Int.intBits x ≤ n) : B n x := by
  unfold Builtin.Int.intBits at h
  unfold B
  split at h
  · rename_i e
    have : x = 0 := by simpa using e
    subst this
    exact Nat.pow_pos (by decide)
  · by_cases z : x.natAbs = 0
    · rw [z]; exact Nat.pow_pos (by decide)
    · exact (Nat.log2_lt z).mp (by omega)
/-! the script -/
abbrev S (ns : List Int) : O := .lst false (ns.map .int)
theorem frzs_ints : ∀ ns : List Int, frzs (ns.map O.int) = ns.map O.int
  | [] => rfl
  | n :: ns => by simp [frzs, frz, frzs_ints ns]
theorem isFzs_ints : ∀ ns : List Int, isFzs (ns.map O.int) = true
  | [] => rfl
  | n :: ns => by simp [isFzs, isFz, isFzs_ints ns]
def cell (ns : List Int) (k : Nat) : Int := ns.getD k 0
theorem cell_at {ns : List Int} {k : Nat} (h : k < ns.length) : L2.atI (ns.map O.int) (k : Int) = some (.int (cell ns k)) := by
  refine L2.atI_nat ?_
  simp [cell, h, List.getD]
theorem cell_out {ns : List Int} {k : Nat} (h : ¬ k < ns.length) : cell ns k = 0 := by
  unfold cell
  rw [List.getD_eq_getElem?_getD, List.getElem?_eq_none (by omega)]
  rfl
def rpart (n d : Int) : Int := if d % 3 = 0 then n else if d % 3 = 1 then -n % 7 else n % 5 - 2
theorem rpart_B {n d : Int} {b : Nat} (h : B b n) (l : 3 ≤ b) : B b (rpart n d) := by
  unfold rpart
  split
  · exact h
  · split
    · exact (B.small (by omega) (by omega)).mono l
    · exact (B.small (by omega) (by omega)).mono l
theorem cell_B {ns : List Int} {b : Nat} (hb : ∀ z ∈ ns, Builtin.Int.intBits z ≤ b) (k : Nat) : B b (cell ns k) := by
  unfold cell
  rw [List.getD_eq_getElem?_getD]
  cases e : ns[k]? with
  | none => exact B.of_bits (show 0 ≤ b from Nat.zero_le _)
  | some z => exact B.of_bits (hb z (List.mem_of_getElem? e))
/-! ring numbers -/
abbrev encR (a b c d : Int) : O := .tup [.int a, .int b, .int c, .int d]
theorem ne_R (a b c d e f g h : Int) : oNe (encR a b c d) (encR e f g h) = some (.bl (!(decide (a = e) && decide (b = f) && decide (c = g) && decide (d = h)))) := by
  simp [oNe, toPy, toPys, SeqAt.shaped, PyData.canLay0, PyData.canLayAll0, PyData.depth, PyData.depthAll, PyData.eqv, PyData.eqvAll, Bool.and_assoc]
  rfl
theorem eq_R (a b c d e f g h : Int) : oEq (encR a b c d) (encR e f g h) = some (.bl (decide (a = e) && decide (b = f) && decide (c = g) && decide (d = h))) := by
  simp [oEq, toPy, toPys, SeqAt.shaped, PyData.canLay0, PyData.canLayAll0, PyData.depth, PyData.depthAll, PyData.eqv, PyData.eqvAll, Bool.and_assoc]
  rfl
theorem oEq_b (i j : Bool) : oEq (.bl i) (.bl j) = some (.bl (decide (i = j))) := by cases i <;> cases j <;> rfl
theorem oNe_b (i j : Bool) : oNe (.bl i) (.bl j) = some (.bl (decide (i ≠ j))) := by cases i <;> cases j <;> rfl
def dg (ns : List Int) (k : Nat) : Int := ((cell ns (k + 4)).natAbs : Nat)
end Mini
namespace Mini
open PySem PySem.Spec PyProof.Rows L2
/-! bits of ints of any sign, by halves -/
theorem nand_split (m n : Nat) : m &&& n = 2 * (m / 2 &&& n / 2) + (m % 2) * (n % 2) := by
  have h1 : (m &&& n) / 2 = m / 2 &&& n / 2 := Nat.and_div_two
  have h2 : (m &&& n) % 2 = (m % 2) * (n % 2) := by
    have e : (m &&& n) % 2 = (m % 2) &&& (n % 2) := by
      have := @Nat.and_mod_two_pow m n 1
      simpa using this
    rw [e]
    rcases Nat.mod_two_eq_zero_or_one m with a | a <;> rcases Nat.mod_two_eq_zero_or_one n with b | b <;> rw [a, b] <;> rfl
  omega
theorem nor_split (m n : Nat) : m ||| n = 2 * (m / 2 ||| n / 2) + (m % 2 + n % 2 - (m % 2) * (n % 2)) := by
  have h1 : (m ||| n) / 2 = m / 2 ||| n / 2 := Nat.or_div_two
  have h2 : (m ||| n) % 2 = m % 2 + n % 2 - (m % 2) * (n % 2) := by
    have e : (m ||| n) % 2 = (m % 2) ||| (n % 2) := by
      have := @Nat.or_mod_two_pow m n 1
      simpa using this
    rw [e]
    rcases Nat.mod_two_eq_zero_or_one m with a | a <;> rcases Nat.mod_two_eq_zero_or_one n with b | b <;> rw [a, b] <;> rfl
  omega
theorem par01 (x : Int) : x % 2 = 0 ∨ x % 2 = 1 := by omega
theorem npar01 (x : Nat) : x % 2 = 0 ∨ x % 2 = 1 := by omega
theorem band_split (x y : Int) : Builtin.bitAnd x y = 2 * Builtin.bitAnd (x / 2) (y / 2) + (x % 2) * (y % 2) := by
  by_cases hx : 0 ≤ x
  · have hx2 : 0 ≤ x / 2 := by omega
    by_cases hy : 0 ≤ y
    · have hy2 : 0 ≤ y / 2 := by omega
      rw [bitAnd_pp hx hy, bitAnd_pp hx2 hy2, nand_split, show (x / 2).toNat = x.toNat / 2 by omega, show (y / 2).toNat = y.toNat / 2 by omega]
      rcases npar01 x.toNat with a | a <;> rcases npar01 y.toNat with b | b <;> rcases par01 x with c | c <;> rcases par01 y with d | d <;> rw [a, b, c, d] <;> omega
    · have hy2 : ¬ 0 ≤ y / 2 := by omega
      rw [bitAnd_pn hx hy, bitAnd_pn hx2 hy2, nand_split, show (x / 2).toNat = x.toNat / 2 by omega, show (Builtin.bitNot (y / 2)).toNat = (Builtin.bitNot y).toNat / 2 by unfold Builtin.bitNot; omega]
      rcases npar01 x.toNat with a | a <;> rcases npar01 (Builtin.bitNot y).toNat with b | b <;> rcases par01 x with c | c <;> rcases par01 y with d | d <;> rw [a, b, c, d] <;> unfold Builtin.bitNot at b <;> omega
  · have hx2 : ¬ 0 ≤ x / 2 := by omega
    by_cases hy : 0 ≤ y
    · have hy2 : 0 ≤ y / 2 := by omega
      rw [bitAnd_np hx hy, bitAnd_np hx2 hy2, nand_split, show (y / 2).toNat = y.toNat / 2 by omega, show (Builtin.bitNot (x / 2)).toNat = (Builtin.bitNot x).toNat / 2 by unfold Builtin.bitNot; omega]
      rcases npar01 y.toNat with a | a <;> rcases npar01 (Builtin.bitNot x).toNat with b | b <;> rcases par01 x with c | c <;> rcases par01 y with d | d <;> rw [a, b, c, d] <;> unfold Builtin.bitNot at b <;> omega
    · have hy2 : ¬ 0 ≤ y / 2 := by omega
      rw [bitAnd_nn hx hy, bitAnd_nn hx2 hy2, nor_split, show (Builtin.bitNot (y / 2)).toNat = (Builtin.bitNot y).toNat / 2 by unfold Builtin.bitNot; omega, show (Builtin.bitNot (x / 2)).toNat = (Builtin.bitNot x).toNat / 2 by unfold Builtin.bitNot; omega]
      generalize hp : (Builtin.bitNot x).toNat = p
      generalize hq : (Builtin.bitNot y).toNat = q
      unfold Builtin.bitNot at hp hq ⊢
      rcases npar01 p with a | a <;> rcases npar01 q with b | b <;> rcases par01 x with c | c <;> rcases par01 y with d | d <;> rw [a, b, c, d] <;> omega
theorem bor_split (x y : Int) : Builtin.bitOr x y = 2 * Builtin.bitOr (x / 2) (y / 2) + (x % 2 + y % 2 - (x % 2) * (y % 2)) := by
  rw [bitOr_and, bitOr_and, band_split]
  omega
theorem bxor_split (x y : Int) : Builtin.bitXor x y = 2 * Builtin.bitXor (x / 2) (y / 2) + (x % 2 + y % 2 - 2 * ((x % 2) * (y % 2))) := by
  unfold Builtin.bitXor
  rw [bitOr_and, bitOr_and, band_split]
  omega
def dv (k : Nat) (x : Int) : Prop := x % 2 ^ k = 0
theorem two_pow_succ (k : Nat) : (2 : Int) ^ (k + 1) = 2 * 2 ^ k := by rw [Int.pow_succ]; omega
theorem dv_succ (k : Nat) (x : Int) : dv (k + 1) x ↔ x % 2 = 0 ∧ dv k (x / 2) := by
  unfold dv
  rw [two_pow_succ]
  have hp : (0 : Int) < 2 ^ k := Int.pow_pos (by decide)
  have e : x % (2 * 2 ^ k) = x % 2 + 2 * (x / 2 % 2 ^ k) := by
    rw [Int.emod_def, Int.emod_def (x / 2), Int.ediv_ediv_of_nonneg (by decide : (0 : Int) ≤ 2), Int.emod_def x 2]
    rw [Int.mul_sub, Int.mul_assoc]
    omega
  rw [e]
  have := Int.emod_nonneg (x / 2) (Int.ne_of_gt hp)
  omega
theorem dv_zero (k : Nat) : dv k 0 := by simp [dv]
theorem dv_bor : ∀ (k : Nat) (x y : Int), dv k (Builtin.bitOr x y) ↔ dv k x ∧ dv k y
  | 0, x, y => by simp [dv]
  | k + 1, x, y => by
    rw [dv_succ, dv_succ, dv_succ]
    have s := bor_split x y
    have h : Builtin.bitOr x y / 2 = Builtin.bitOr (x / 2) (y / 2) := by
      rcases par01 x with a | a <;> rcases par01 y with b | b <;> rw [a, b] at s <;> omega
    rw [h, dv_bor k]
    have p : Builtin.bitOr x y % 2 = 0 ↔ x % 2 = 0 ∧ y % 2 = 0 := by
      rcases par01 x with a | a <;> rcases par01 y with b | b <;> rw [a, b] at s <;> omega
    rw [p]
    constructor
    · rintro ⟨⟨h1, h2⟩, h3, h4⟩; exact ⟨⟨h1, h3⟩, h2, h4⟩
    · rintro ⟨⟨h1, h3⟩, h2, h4⟩; exact ⟨⟨h1, h2⟩, h3, h4⟩
theorem band_self : ∀ (n : Nat) (x : Int), x.natAbs ≤ n → Builtin.bitAnd x x = x
  | 0, x, h => by
    have : x = 0 := by omega
    subst this
    rfl
  | n + 1, x, h => by
    by_cases z : x = 0
    · subst z; rfl
    · by_cases m1 : x = -1
      · subst m1; rfl
      · rw [band_split, band_self n (x / 2) (by omega)]
        rcases par01 x with a | a <;> rw [a] <;> omega
/-- the lowest set bit -/
theorem lowbit : ∀ (n : Nat) (x : Int), x.natAbs ≤ n → x ≠ 0 → ∃ t : Nat, Builtin.bitAnd x (-x) = 2 ^ t ∧ dv t x ∧ ¬ dv (t + 1) x
  | 0, x, h, z => absurd (by omega) z
  | n + 1, x, h, z => by
    rcases par01 x with a | a
    · obtain ⟨t, h1, h2, h3⟩ := lowbit n (x / 2) (by omega) (by omega)
      refine ⟨t + 1, ?_, (dv_succ t x).mpr ⟨a, h2⟩, fun q => h3 ((dv_succ (t + 1) x).mp q).2⟩
      rw [band_split, show (-x) / 2 = -(x / 2) by omega, h1, a, two_pow_succ]
      omega
    · refine ⟨0, ?_, by simp [dv], fun q => ?_⟩
      · rw [band_split, show (-x) / 2 = Builtin.bitNot (x / 2) by unfold Builtin.bitNot; omega, bitAnd_not, band_self _ _ (Nat.le_refl _), a, show (-x) % 2 = 1 by omega]
        simp
      · have := ((dv_succ 0 x).mp q).1
        omega
theorem intBits_pow (t : Nat) : Builtin.Int.intBits (2 ^ t) = t + 1 := by
  have hp : (0 : Int) < 2 ^ t := Int.pow_pos (by decide)
  unfold Builtin.Int.intBits
  rw [if_neg (by simpa using Int.ne_of_gt hp)]
  have e : ((2 : Int) ^ t).natAbs = 2 ^ t := by rw [Int.natAbs_pow]; rfl
  rw [e, Nat.log2_two_pow]
theorem dv_mul {k : Nat} {x : Int} (h : dv k x) : x = 2 ^ k * (x / 2 ^ k) := by
  unfold dv at h
  have := Int.mul_ediv_add_emod x (2 ^ k)
  omega
theorem dv_of_mul (k : Nat) (x : Int) : dv k (2 ^ k * x) := by
  unfold dv
  exact Int.mul_emod_right _ _
theorem dv_div {k : Nat} {x : Int} (h : dv k x) : dv (k + 1) x ↔ (x / 2 ^ k) % 2 = 0 := by
  have e := dv_mul h
  constructor
  · intro q
    have e2 := dv_mul q
    have hp : (2 : Int) ^ k ≠ 0 := Int.ne_of_gt (Int.pow_pos (by decide))
    have : x / 2 ^ k = 2 * (x / 2 ^ (k + 1)) := by
      have z : (2 : Int) ^ k * (x / 2 ^ k) = 2 ^ k * (2 * (x / 2 ^ (k + 1))) := by
        rw [← e, ← Int.mul_assoc, Int.mul_comm (2 ^ k) 2, ← two_pow_succ]
        exact e2
      exact Int.eq_of_mul_eq_mul_left hp z
    omega
  · intro q
    have : x = 2 ^ (k + 1) * (x / 2 ^ k / 2) := by
      rw [two_pow_succ, Int.mul_comm 2, Int.mul_assoc]
      have : 2 * (x / 2 ^ k / 2) = x / 2 ^ k := by omega
      rw [this]
      exact e
    rw [this]
    exact dv_of_mul _ _
/-! ring numbers and root -/
structure R where
  a : Int
  b : Int
  c : Int
  d : Int
theorem R.ext4 {x y : R} (h1 : x.a = y.a) (h2 : x.b = y.b) (h3 : x.c = y.c) (h4 : x.d = y.d) : x = y := by
  cases x; cases y; simp at h1 h2 h3 h4; subst h1 h2 h3 h4; rfl
abbrev R.enc (x : R) : O := encR x.a x.b x.c x.d
def R.zero : R := ⟨0, 0, 0, 0⟩
def R.tr (x : R) : R := ⟨x.b - x.d, x.a + x.c, x.b + x.d, x.c - x.a⟩
def R.ev (x : R) : Prop := (x.a + x.c) % 2 = 0 ∧ (x.b + x.d) % 2 = 0
instance (x : R) : Decidable x.ev := by unfold R.ev; infer_instance
def R.ov (x : R) : R := ⟨(x.b - x.d) / 2, (x.a + x.c) / 2, (x.b + x.d) / 2, (x.c - x.a) / 2⟩
def trn : Nat → R → R
  | 0, x => x
  | n + 1, x => trn n x.tr
theorem trn_add : ∀ (m n : Nat) (x : R), trn (m + n) x = trn n (trn m x)
  | 0, n, x => by rw [Nat.zero_add]; rfl
  | m + 1, n, x => by rw [show m + 1 + n = (m + n) + 1 by omega]; exact trn_add m n x.tr
theorem trn_tr (n : Nat) (x : R) : trn n x.tr = (trn n x).tr := by
  have h := trn_add n 1 x
  rw [Nat.add_comm] at h
  have h2 := trn_add 1 n x
  exact h2.symm.trans h
theorem R.tr_tr (x : R) : x.tr.tr = ⟨2 * x.a, 2 * x.b, 2 * x.c, 2 * x.d⟩ := R.ext4 (by simp [R.tr]; omega) (by simp [R.tr]; omega) (by simp [R.tr]; omega) (by simp [R.tr]; omega)
theorem R.tr_inj {x y : R} (h : x.tr = y.tr) : x = y := by
  have h1 := congrArg R.a h
  have h2 := congrArg R.b h
  have h3 := congrArg R.c h
  have h4 := congrArg R.d h
  simp [R.tr] at h1 h2 h3 h4
  exact R.ext4 (by omega) (by omega) (by omega) (by omega)
theorem trn_inj : ∀ {n : Nat} {x y : R}, trn n x = trn n y → x = y
  | 0, _, _, h => h
  | n + 1, x, y, h => R.tr_inj (trn_inj (n := n) h)
theorem R.ev_tr (x : R) : x.tr.ev := by
  constructor <;> simp [R.tr] <;> omega
theorem R.ov_tr {x : R} (h : x.ev) : x.ov.tr = x := by
  obtain ⟨h1, h2⟩ := h
  exact R.ext4 (by simp [R.tr, R.ov]; omega) (by simp [R.tr, R.ov]; omega) (by simp [R.tr, R.ov]; omega) (by simp [R.tr, R.ov]; omega)
theorem trn_zero : ∀ n : Nat, trn n R.zero = R.zero
  | 0 => rfl
  | n + 1 => trn_zero n
theorem trn_two (n : Nat) : ∀ x : R, trn (2 * n) x = ⟨2 ^ n * x.a, 2 ^ n * x.b, 2 ^ n * x.c, 2 ^ n * x.d⟩ := by
  induction n with
  | zero => intro x; exact R.ext4 (by simp [trn]) (by simp [trn]) (by simp [trn]) (by simp [trn])
  | succ n ih =>
    intro x
    rw [show 2 * (n + 1) = 2 + 2 * n by omega, trn_add]
    show trn (2 * n) x.tr.tr = _
    rw [R.tr_tr, ih]
    refine R.ext4 ?_ ?_ ?_ ?_ <;> simp only [two_pow_succ] <;> rw [Int.mul_comm 2 (2 ^ n), Int.mul_assoc]
/-- y over root to the power of k is the lowest form of x over root to the power of e -/
structure Low (x : R) (e : Nat) (y : R) (k : Nat) : Prop where
  le : k ≤ e
  val : x = trn (e - k) y
  low : k = 0 ∨ ¬ y.ev
theorem Low.uniq {x y y' : R} {e k k' : Nat} (h : Low x e y k) (h' : Low x e y' k') : y = y' ∧ k = k' := by
  have key : ∀ {y y' : R} {k k' : Nat}, Low x e y k → Low x e y' k' → ¬ k < k' := by
    intro y y' k k' h h' hlt
    have e1 := h.val.symm.trans h'.val
    have e2 : e - k = (k' - k) + (e - k') := by have := h'.le; omega
    rw [e2, trn_add] at e1
    have e3 := trn_inj e1
    have : y'.ev := by
      rw [← e3, show k' - k = (k' - k - 1) + 1 by omega, trn_add]
      exact R.ev_tr _
    rcases h'.low with z | z
    · omega
    · exact z this
  have hk : k = k' := by
    have := key h h'
    have := key h' h
    omega
  subst hk
  exact ⟨trn_inj (h.val.symm.trans h'.val), rfl⟩
theorem Low.tr {x y : R} {e k : Nat} (h : Low x e y k) : Low x.tr (e + 1) y k := by
  refine ⟨Nat.le_succ_of_le h.le, ?_, h.low⟩
  rw [h.val, ← trn_tr, show e + 1 - k = (e - k) + 1 by have := h.le; omega]
  rfl
end Mini
namespace Mini
open PySem PySem.Spec PyProof.Rows L2
/-- a loop by its invariant -/
theorem lFor_inv {dg : O → Env → Option Env} {body : Env → Option Out} (P : Nat → Env → Prop) : ∀ (os : List O) (k : Nat) (ρ : Env), P k ρ →
    (∀ i o ρ, os[i]? = some o → P (k + i) ρ → ∃ ρ1 ρ2, dg o ρ = some ρ1 ∧ body ρ1 = some (.nx ρ2) ∧ P (k + i + 1) ρ2) → ∃ ρ', lFor dg body os ρ = some (.nx ρ') ∧ P (k + os.length) ρ'
  | [], k, ρ, h, _ => ⟨ρ, rfl, by simpa using h⟩
  | o :: os, k, ρ, h, hs => by
    obtain ⟨ρ1, ρ2, e1, e2, h2⟩ := hs 0 o ρ rfl h
    obtain ⟨ρ', e3, h3⟩ := lFor_inv P os (k + 1) ρ2 h2 fun i o' ρ' ho hp => by
      have := hs (i + 1) o' ρ' (by simpa using ho) (by rw [show k + (i + 1) = k + 1 + i by omega]; exact hp)
      rw [show k + (i + 1) + 1 = k + 1 + i + 1 by omega] at this
      exact this
    refine ⟨ρ', ?_, by rw [List.length_cons, show k + (os.length + 1) = k + 1 + os.length by omega]; exact h3⟩
    rw [lFor, e1]
    dsimp only
    rw [e2]
    exact e3
theorem rngs_len (lo : Int) (n : Nat) : (rngs lo n).length = n := by simp [rngs]
theorem rngs_at {lo : Int} {n i : Nat} {o : O} (h : (rngs lo n)[i]? = some o) : o = .int (lo + i) ∧ i < n := by
  have hi : i < n := by
    have := (List.getElem?_eq_some_iff.mp h).1
    rwa [rngs_len] at this
  simp [rngs, hi] at h
  exact ⟨h.symm, hi⟩
theorem lFor_rng {dg : O → Env → Option Env} {body : Env → Option Out} (P : Nat → Env → Prop) (lo : Int) (n : Nat) (ρ : Env) (h0 : P 0 ρ)
    (hs : ∀ i ρ, i < n → P i ρ → ∃ ρ1 ρ2, dg (.int (lo + i)) ρ = some ρ1 ∧ body ρ1 = some (.nx ρ2) ∧ P (i + 1) ρ2) : ∃ ρ', lFor dg body (rngs lo n) ρ = some (.nx ρ') ∧ P n ρ' := by
  obtain ⟨ρ', e, h⟩ := lFor_inv P (rngs lo n) 0 ρ h0 fun i o ρ ho hp => by
    obtain ⟨rfl, hi⟩ := rngs_at ho
    rw [Nat.zero_add] at hp ⊢
    exact hs i ρ hi hp
  rw [rngs_len, Nat.zero_add] at h
  exact ⟨ρ', e, h⟩
end Mini
namespace Mini
open PySem PySem.Spec PyProof.Rows L2
theorem oShr_n (i : Int) (j : Nat) : oShr (.int i) (.int (j : Int)) = some (.int (i / 2 ^ j)) := by
  simp [oShr, intsO]
theorem rOk_n {n : Nat} (h : n < 4611686018427387904) : rOk (n : Int) = true := by
  unfold rOk
  rw [decide_eq_true (by omega), decide_eq_true (by omega)]; rfl
theorem dFor_rng1 {d : Env → Option O} {dg : O → Env → Option Env} {body : Env → Option Out} {ρ : Env} {n : Nat} (hd : d ρ = some (.int (n : Int))) (h : n < 4611686018427387904) : dFor (dRng1 d) dg body ρ = lFor dg body (rngs 0 n) ρ := by
  have e : dRng1 d ρ = some (rngs 0 n) := by
    unfold dRng1
    rw [hd]
    dsimp only
    rw [if_pos (rOk_n h)]
    rfl
  unfold dFor
  rw [e]
theorem rOk_i {i : Int} (h : -4611686018427387904 ≤ i) (h' : i < 4611686018427387904) : rOk i = true := by
  unfold rOk
  rw [decide_eq_true (by omega), decide_eq_true (by omega)]; rfl
theorem dFor_rng2 {da db : Env → Option O} {dg : O → Env → Option Env} {body : Env → Option Out} {ρ : Env} {i j : Int} (hd : da ρ = some (.int i)) (he : db ρ = some (.int j)) (h : rOk i = true) (h' : rOk j = true) : dFor (dRng2 da db) dg body ρ = lFor dg body (rngs i (j - i).toNat) ρ := by
  have e : dRng2 da db ρ = some (rngs i (j - i).toNat) := by
    unfold dRng2
    rw [hd]
    dsimp only
    rw [he]
    dsimp only
    rw [if_pos (by rw [h, h']; rfl)]
  unfold dFor
  rw [e]
theorem dDef_mv21 {a b c : O} {z : Option O} {L : Env → Option Out} (e2 : L [some a, some b, none] = some (Out.nx [some c, some b, z])) : dDef (fun _ => false) 2 3 (dSeq L (dRetMv 0)) [a, b] = some (c, [none, none]) := by
  simp [dDef, dSeq, e2, dRetMv, look_z, Mini.fin, List.replicate]
/-- sizes of ring numbers -/
def R.bd (n : Nat) (x : R) : Prop := B n x.a ∧ B n x.b ∧ B n x.c ∧ B n x.d
theorem R.bd.mono {m n : Nat} {x : R} (h : x.bd m) (l : m ≤ n) : x.bd n := ⟨h.1.mono l, h.2.1.mono l, h.2.2.1.mono l, h.2.2.2.mono l⟩
theorem R.bd.tr {n : Nat} {x : R} (h : x.bd n) : x.tr.bd (n + 1) := by
  obtain ⟨h1, h2, h3, h4⟩ := h
  exact ⟨(h2.sub h4).mono (by omega), (h1.add h3).mono (by omega), (h2.add h4).mono (by omega), (h3.sub h1).mono (by omega)⟩
theorem R.bd.trn : ∀ {k n : Nat} {x : R}, x.bd n → (trn k x).bd (n + k)
  | 0, _, _, h => h
  | k + 1, n, x, h => by
    have := R.bd.trn (k := k) h.tr
    rw [show n + (k + 1) = n + 1 + k by omega]
    exact this
theorem R.ev_iff (x : R) : ((x.a + x.c) % 2 = 0 ∧ (x.b + x.d) % 2 = 0) ↔ x.ev := Iff.rfl
instance : DecidableEq R := fun x y => decidable_of_iff (x.a = y.a ∧ x.b = y.b ∧ x.c = y.c ∧ x.d = y.d) ⟨fun h => R.ext4 h.1 h.2.1 h.2.2.1 h.2.2.2, fun h => by subst h; exact ⟨rfl, rfl, rfl, rfl⟩⟩
theorem R.eq_enc (x y : R) : oEq x.enc y.enc = some (.bl (decide (x = y))) := by
  rw [eq_R]
  by_cases h : x = y
  · subst h; simp
  · rw [decide_eq_false h]
    congr 2
    rw [Bool.eq_false_iff]
    simp only [ne_eq, Bool.and_eq_true, decide_eq_true_eq]
    exact fun q => h (R.ext4 q.1.1.1 q.1.1.2 q.1.2 q.2)
def R.sr (x : R) (n : Nat) : R := ⟨x.a / 2 ^ n, x.b / 2 ^ n, x.c / 2 ^ n, x.d / 2 ^ n⟩
def R.dv (n : Nat) (x : R) : Prop := Mini.dv n x.a ∧ Mini.dv n x.b ∧ Mini.dv n x.c ∧ Mini.dv n x.d
theorem R.dv_sr {n : Nat} {x : R} (h : x.dv n) : x = trn (2 * n) (x.sr n) := by
  rw [trn_two]
  exact R.ext4 (dv_mul h.1) (dv_mul h.2.1) (dv_mul h.2.2.1) (dv_mul h.2.2.2)
theorem dv_le {m n : Nat} {x : Int} (h : Mini.dv n x) (l : m ≤ n) : Mini.dv m x := by
  obtain ⟨k, rfl⟩ : ∃ k, n = m + k := ⟨n - m, by omega⟩
  have e := dv_mul h
  rw [e, Int.pow_add, Int.mul_assoc]
  exact dv_of_mul _ _
theorem R.dv.le {m n : Nat} {x : R} (h : x.dv n) (l : m ≤ n) : x.dv m := ⟨dv_le h.1 l, dv_le h.2.1 l, dv_le h.2.2.1 l, dv_le h.2.2.2 l⟩
/-- the twos of a ring number -/
theorem R.twos {x : R} (h : x ≠ R.zero) : ∃ t : Nat, Builtin.bitAnd (Builtin.bitOr (Builtin.bitOr (Builtin.bitOr x.a x.b) x.c) x.d) (-(Builtin.bitOr (Builtin.bitOr (Builtin.bitOr x.a x.b) x.c) x.d)) = 2 ^ t ∧ x.dv t ∧ ¬ x.dv (t + 1) := by
  have key : ∀ k, Mini.dv k (Builtin.bitOr (Builtin.bitOr (Builtin.bitOr x.a x.b) x.c) x.d) ↔ x.dv k := fun k => by
    rw [dv_bor, dv_bor, dv_bor]
    unfold R.dv
    constructor
    · rintro ⟨⟨⟨h1, h2⟩, h3⟩, h4⟩; exact ⟨h1, h2, h3, h4⟩
    · rintro ⟨h1, h2, h3, h4⟩; exact ⟨⟨⟨h1, h2⟩, h3⟩, h4⟩
  have nz : Builtin.bitOr (Builtin.bitOr (Builtin.bitOr x.a x.b) x.c) x.d ≠ 0 := fun q => by
    apply h
    have z : ∀ k, x.dv k := fun k => (key k).mp (by rw [q]; exact dv_zero k)
    have one : ∀ y : Int, (∀ k, Mini.dv k y) → y = 0 := fun y hy => by
      have := hy y.natAbs
      unfold Mini.dv at this
      have hb : y.natAbs < 2 ^ y.natAbs := Nat.lt_two_pow_self
      have hd : (2 : Int) ^ y.natAbs ∣ y := Int.dvd_of_emod_eq_zero this
      have hd2 := Int.natAbs_dvd_natAbs.mpr hd
      rw [Int.natAbs_pow] at hd2
      by_cases z : y.natAbs = 0
      · omega
      · have := Nat.le_of_dvd (by omega) hd2
        simp at this
        omega
    exact R.ext4 (one _ fun k => (z k).1) (one _ fun k => (z k).2.1) (one _ fun k => (z k).2.2.1) (one _ fun k => (z k).2.2.2)
  obtain ⟨t, h1, h2, h3⟩ := lowbit _ _ (Nat.le_refl _) nz
  exact ⟨t, h1, (key t).mp h2, fun q => h3 ((key _).mpr q)⟩
theorem R.zero_ev : R.zero.ev := by decide
/-- two roots more are a two more -/
theorem R.dv_more {x : R} {t : Nat} (h : x.dv t) (n : ¬ x.dv (t + 1)) (e : (x.sr t).ev) : ¬ (x.sr t).ov.ev := fun q => by
  apply n
  have e1 := R.dv_sr h
  have e2 := R.ov_tr e
  have e3 := R.ov_tr q
  have e4 : x = trn (2 * (t + 1)) (x.sr t).ov.ov := by
    rw [show 2 * (t + 1) = 2 + 2 * t by omega, trn_add]
    show x = trn (2 * t) (x.sr t).ov.ov.tr.tr
    rw [e3, e2]
    exact e1
  rw [trn_two] at e4
  generalize (x.sr t).ov.ov = y at e4
  subst e4
  exact ⟨dv_of_mul _ _, dv_of_mul _ _, dv_of_mul _ _, dv_of_mul _ _⟩
theorem Low.nf {x : R} {e : Nat} (h : e = 0 ∨ ¬ x.ev) : Low x e x e := ⟨Nat.le_refl _, by rw [Nat.sub_self]; rfl, h⟩
theorem Low.zero (e : Nat) : Low R.zero e R.zero 0 := ⟨Nat.zero_le _, (trn_zero _).symm, .inl rfl⟩
theorem R.sr_nz {x : R} {n : Nat} (h : x.dv n) (hx : x ≠ R.zero) : x.sr n ≠ R.zero := fun q => hx (by rw [R.dv_sr h, q, trn_zero])
abbrev encN (x : R) (k : Int) : O := .tup [x.enc, .int k]
theorem num_eq (x y : R) (k l : Int) : oEq (encN x k) (encN y l) = some (.bl (decide (x = y) && decide (k = l))) := by
  have h := R.eq_enc x y
  simp [oEq, toPy, toPys, SeqAt.shaped, PyData.canLay0, PyData.canLayAll0, PyData.depth, PyData.depthAll, PyData.eqv, PyData.eqvAll] at h ⊢
  rw [← h]
  simp [Bool.and_assoc]
  rfl
theorem num_ne (x y : R) (k l : Int) : oNe (encN x k) (encN y l) = some (.bl (!(decide (x = y) && decide (k = l)))) := by
  have h := R.eq_enc x y
  simp [oEq, oNe, toPy, toPys, SeqAt.shaped, PyData.canLay0, PyData.canLayAll0, PyData.depth, PyData.depthAll, PyData.eqv, PyData.eqvAll] at h ⊢
  rw [← h]
  simp [Bool.and_assoc]
  rfl
theorem Low.zero_iff {x y : R} {e k : Nat} (h : Low x e y k) : x = R.zero ↔ y = R.zero := by
  constructor
  · intro q
    have := h.val.symm.trans q
    rw [← trn_zero (e - k)] at this
    exact trn_inj this
  · intro q
    rw [h.val, q, trn_zero]
theorem Low.zero_k {x : R} {e k : Nat} (h : Low x e R.zero k) : k = 0 := by
  rcases h.low with z | z
  · exact z
  · exact absurd R.zero_ev z
/-- the law's own test of a lowest form -/
theorem Low.law {x y : R} {e k : Nat} (h : Low x e y k) : trn (e - k) y = x := h.val.symm
end Mini
namespace Mini
open PySem PySem.Spec PyProof.Rows L2
def R.add (x y : R) : R := ⟨x.a + y.a, x.b + y.b, x.c + y.c, x.d + y.d⟩
def R.neg (x : R) : R := ⟨-x.a, -x.b, -x.c, -x.d⟩
def R.cj (x : R) : R := ⟨x.a, -x.d, -x.c, -x.b⟩
def R.w (x : R) : R := ⟨-x.d, x.a, x.b, x.c⟩
def R.mul (x y : R) : R := ⟨x.a * y.a - (x.b * y.d + x.c * y.c + x.d * y.b), x.a * y.b + x.b * y.a - (x.c * y.d + x.d * y.c), x.a * y.c + x.b * y.b + x.c * y.a - x.d * y.d, x.a * y.d + x.b * y.c + x.c * y.b + x.d * y.a⟩
def wn : Nat → R → R
  | 0, x => x
  | n + 1, x => (wn n x).w
theorem R.tr_add (x y : R) : (x.add y).tr = x.tr.add y.tr := R.ext4 (by simp [R.tr, R.add]; omega) (by simp [R.tr, R.add]; omega) (by simp [R.tr, R.add]; omega) (by simp [R.tr, R.add]; omega)
theorem R.tr_neg (x : R) : x.neg.tr = x.tr.neg := R.ext4 (by simp [R.tr, R.neg]; omega) (by simp [R.tr, R.neg]; omega) (by simp [R.tr, R.neg]; omega) (by simp [R.tr, R.neg]; omega)
theorem R.tr_cj (x : R) : x.cj.tr = x.tr.cj := R.ext4 (by simp [R.tr, R.cj]<;> omega) (by simp [R.tr, R.cj]<;> omega) (by simp [R.tr, R.cj]<;> omega) (by simp [R.tr, R.cj]<;> omega)
theorem R.tr_w (x : R) : x.w.tr = x.tr.w := R.ext4 (by simp [R.tr, R.w] <;> omega) (by simp [R.tr, R.w] <;> omega) (by simp [R.tr, R.w] <;> omega) (by simp [R.tr, R.w] <;> omega)
theorem R.tr_mul_l (x y : R) : x.tr.mul y = (x.mul y).tr := R.ext4 (by simp only [R.tr, R.mul]; grind) (by simp only [R.tr, R.mul]; grind) (by simp only [R.tr, R.mul]; grind) (by simp only [R.tr, R.mul]; grind)
theorem R.tr_mul_r (x y : R) : x.mul y.tr = (x.mul y).tr := R.ext4 (by simp only [R.tr, R.mul]; grind) (by simp only [R.tr, R.mul]; grind) (by simp only [R.tr, R.mul]; grind) (by simp only [R.tr, R.mul]; grind)
theorem trn_comm {f : R → R} (h : ∀ x, (f x).tr = f x.tr) : ∀ (n : Nat) (x : R), trn n (f x) = f (trn n x)
  | 0, _ => rfl
  | n + 1, x => by
    show trn n (f x).tr = f (trn n x.tr)
    rw [h, trn_comm h n]
theorem trn_radd : ∀ (n : Nat) (x y : R), trn n (x.add y) = (trn n x).add (trn n y)
  | 0, _, _ => rfl
  | n + 1, x, y => by
    show trn n (x.add y).tr = (trn n x.tr).add (trn n y.tr)
    rw [R.tr_add, trn_radd n]
theorem trn_mul_l : ∀ (n : Nat) (x y : R), (trn n x).mul y = trn n (x.mul y)
  | 0, _, _ => rfl
  | n + 1, x, y => by
    show (trn n x.tr).mul y = trn n (x.mul y).tr
    rw [trn_mul_l n, R.tr_mul_l]
theorem trn_mul_r : ∀ (n : Nat) (x y : R), x.mul (trn n y) = trn n (x.mul y)
  | 0, _, _ => rfl
  | n + 1, x, y => by
    show x.mul (trn n y.tr) = trn n (x.mul y).tr
    rw [trn_mul_r n, R.tr_mul_r]
theorem trn_mul (m n : Nat) (x y : R) : (trn m x).mul (trn n y) = trn (m + n) (x.mul y) := by
  rw [trn_mul_l, trn_mul_r, Nat.add_comm, trn_add]
theorem R.ev_neg (x : R) : x.neg.ev ↔ x.ev := by unfold R.ev R.neg; dsimp only; omega
theorem R.ev_cj (x : R) : x.cj.ev ↔ x.ev := by unfold R.ev R.cj; dsimp only; omega
theorem R.ev_w (x : R) : x.w.ev ↔ x.ev := by unfold R.ev R.w; dsimp only; omega
theorem wn_tr : ∀ (n : Nat) (x : R), (wn n x).tr = wn n x.tr
  | 0, _ => rfl
  | n + 1, x => by
    show (wn n x).w.tr = (wn n x.tr).w
    rw [R.tr_w, wn_tr n]
theorem wn_ev : ∀ (n : Nat) (x : R), (wn n x).ev ↔ x.ev
  | 0, _ => Iff.rfl
  | n + 1, x => (R.ev_w _).trans (wn_ev n x)
theorem wn4 (x : R) : wn 4 x = x.neg := rfl
theorem Low.map {f : R → R} (h : ∀ x, (f x).tr = f x.tr) (he : ∀ x, (f x).ev ↔ x.ev) {x y : R} {e k : Nat} (l : Low x e y k) : Low (f x) e (f y) k :=
  ⟨l.le, by rw [l.val, trn_comm h], l.low.imp id fun q r => q ((he y).mp r)⟩
theorem Low.up {x y : R} {e k : Nat} (l : Low x e y k) : ∀ n, Low (trn n x) (e + n) y k := fun n =>
  ⟨by have := l.le; omega, by rw [show e + n - k = (e - k) + n by have := l.le; omega, trn_add, ← l.val], l.low⟩
theorem Low.sum {X Y x y z : R} {ex ey kx ky k : Nat} (lx : Low X ex x kx) (ly : Low Y ey y ky) (lz : Low ((trn (max kx ky - kx) x).add (trn (max kx ky - ky) y)) (max kx ky) z k) :
    Low ((trn (max ex ey - ex) X).add (trn (max ex ey - ey) Y)) (max ex ey) z k := by
  have hx := lx.le
  have hy := ly.le
  have u := lz.up (max ex ey - max kx ky)
  rw [show max kx ky + (max ex ey - max kx ky) = max ex ey by omega, trn_radd, ← trn_add, ← trn_add] at u
  rw [lx.val, ly.val, ← trn_add, ← trn_add]
  rw [show ex - kx + (max ex ey - ex) = max kx ky - kx + (max ex ey - max kx ky) by omega, show ey - ky + (max ex ey - ey) = max kx ky - ky + (max ex ey - max kx ky) by omega]
  exact u
theorem Low.prod {X Y x y z : R} {ex ey kx ky k : Nat} (lx : Low X ex x kx) (ly : Low Y ey y ky) (lz : Low (x.mul y) (kx + ky) z k) : Low (X.mul Y) (ex + ey) z k := by
  have hx := lx.le
  have hy := ly.le
  have u := lz.up (ex - kx + (ey - ky))
  rw [show kx + ky + (ex - kx + (ey - ky)) = ex + ey by omega] at u
  rw [lx.val, ly.val, trn_mul]
  exact u
theorem R.bd_tr {n : Nat} {x : R} (h : x.tr.bd n) : x.bd n := by
  unfold R.bd B R.tr at *
  dsimp only at *
  generalize 2 ^ n = p at *
  omega
theorem R.bd_trn : ∀ {k n : Nat} {x : R}, (trn k x).bd n → x.bd n
  | 0, _, _, h => h
  | k + 1, n, x, h => R.bd_tr (R.bd_trn (k := k) h)
theorem Low.bd {n : Nat} {x y : R} {e k : Nat} (l : Low x e y k) (h : x.bd n) : y.bd n := by
  rw [l.val] at h
  exact R.bd_trn h
theorem R.bd.cj {n : Nat} {x : R} (h : x.bd n) : x.cj.bd n := ⟨h.1, h.2.2.2.neg, h.2.2.1.neg, h.2.1.neg⟩
theorem R.bd.neg {n : Nat} {x : R} (h : x.bd n) : x.neg.bd n := ⟨h.1.neg, h.2.1.neg, h.2.2.1.neg, h.2.2.2.neg⟩
end Mini
namespace K07
open PySem PySem.Spec PyProof.Rows L2 Mini
def topS (i : Nat) : Stmt := PySem.Challenge.pw_phasor_k07_scaled_arithmetic.main.body.getD i (.Pass ⟨0, 0, 0, 0⟩)
def c_ZERO : O := (.tup [(.tup [(.int (0)), (.int (0)), (.int (0)), (.int (0))]), (.int (0))])
section
variable {P : Program} {w : World} {K : PySem.W.Frag} {mg : Str → Option Value} {base : Heap} {ct : Nat → Addr}
abbrev s__law_cell : Stmt := topS 29
theorem sc__law_cell : FnScope ["script", "k"] ["script", "k"] (defScope s__law_cell) := ⟨rfl, rfl, rfl, by decide +kernel, rfl, by decide +kernel, by decide +kernel⟩
def F__law_cell : Fn := dDef (fun _ => false) 2 2 (dSeq (dIf (dTru oBool (dBin oLt (fun ρ => look ρ 1) (dBind (fun ρ => look ρ 0) oLen)))
  (dRet (dBind (dBin oIdx (fun ρ => look ρ 0) (fun ρ => look ρ 1)) copyO))
  dSkip)
  (dRet (fun _ => some (.int 0))))
theorem ok__law_cell {f : Addr} {fd : FuncData} (F : Fun K "_law_cell" "_law_cell" s__law_cell f fd) (m_len : mg "len" = none) : FnOk P w K mg base CX0 1 f fd ["script", "k"] (spF ct K 2 F__law_cell) :=
  fd_ok F sc__law_cell fun cdv A outer s H E hr => by
    have nd := sc__law_cell.nd
    have hu := hr.units
    exact (sss_cons (ss_if (st_lt (sx_var 1) (sx_len m_len (sx_var 0)))
  (sss_one (ss_ret (sx_copy (sx_idx (sx_var 0) (sx_var 1)))))
  sss_nil)
  (sss_one (ss_ret sx_int)))
abbrev s__law_part : Stmt := topS 30
theorem sc__law_part : FnScope ["number", "digit"] ["number", "digit"] (defScope s__law_part) := ⟨rfl, rfl, rfl, by decide +kernel, rfl, by decide +kernel, by decide +kernel⟩
def F__law_part : Fn := dDef (fun _ => false) 2 2 (dSeq (dIf (dTru oBool (dBin oEq (dBin oMod (dBind (fun ρ => look ρ 1) oInt) (fun _ => some (.int 3))) (fun _ => some (.int 0))))
  (dRetMv 0)
  dSkip)
  (dSeq (dIf (dTru oBool (dBin oEq (dBin oMod (dBind (fun ρ => look ρ 1) oInt) (fun _ => some (.int 3))) (fun _ => some (.int 1))))
  (dRet (dBin oMod (dBind (dBind (fun ρ => look ρ 0) oInt) negO) (fun _ => some (.int 7))))
  dSkip)
  (dRet (dBin oSub (dBin oMod (dBind (fun ρ => look ρ 0) oInt) (fun _ => some (.int 5))) (fun _ => some (.int 2))))))
theorem ok__law_part {f : Addr} {fd : FuncData} (F : Fun K "_law_part" "_law_part" s__law_part f fd) (m_int : mg "int" = none) : FnOk P w K mg base CX0 1 f fd ["number", "digit"] (spF ct K 2 F__law_part) :=
  fd_ok F sc__law_part fun cdv A outer s H E hr => by
    have nd := sc__law_part.nd
    have hu := hr.units
    exact (sss_cons (ss_if (st_eq hu (sx_mod (sx_int1 m_int (sx_var 1)) sx_int) sx_int)
  (sss_one (ss_retmv 0))
  sss_nil)
  (sss_cons (ss_if (st_eq hu (sx_mod (sx_int1 m_int (sx_var 1)) sx_int) sx_int)
  (sss_one (ss_ret (sx_mod (sx_neg (sx_int1 m_int (sx_var 0))) sx_int)))
  sss_nil)
  (sss_one (ss_ret (sx_sub (sx_mod (sx_int1 m_int (sx_var 0)) sx_int) sx_int)))))
abbrev s__law_ring : Stmt := topS 31
theorem sc__law_ring : FnScope ["script", "first", "digit", "parts", "k"] ["script", "first"] (defScope s__law_ring) := ⟨rfl, rfl, rfl, by decide +kernel, rfl, by decide +kernel, by decide +kernel⟩
def Bd__law_ring_1 : Mini.Env → Option Mini.Out := (dSeq (dApp 3 (dCall [false, true] F__law_part (dCons (dCall [true, false] F__law_cell (dCons (fun ρ => look ρ 0) (dCons (dBin oAdd (fun ρ => look ρ 1) (fun ρ => look ρ 4)) dNil))) (dCons (fun ρ => look ρ 2) dNil))))
  (dAsg (dBin oDiv (fun ρ => look ρ 2) (fun _ => some (.int 3))) (gSet 2)))
def F__law_ring : Fn := dDef (fun _ => false) 2 5 (dSeq (dAsg (dBind (dCall [true, false] F__law_cell (dCons (fun ρ => look ρ 0) (dCons (dBin oAdd (fun ρ => look ρ 1) (fun _ => some (.int 4))) dNil))) oAbs) (gSet 2))
  (dSeq (dAsg (dLst dNil) (gSet 3))
  (dSeq (dFor (dRng1 (fun _ => some (.int 4))) (gSet 4)
  Bd__law_ring_1)
  (dRet (dTup (dCons (dBind (dBin oIdx (fun ρ => look ρ 3) (fun _ => some (.int 0))) copyO) (dCons (dBind (dBin oIdx (fun ρ => look ρ 3) (fun _ => some (.int 1))) copyO) (dCons (dBind (dBin oIdx (fun ρ => look ρ 3) (fun _ => some (.int 2))) copyO) (dCons (dBind (dBin oIdx (fun ρ => look ρ 3) (fun _ => some (.int 3))) copyO) dNil)))))))))
theorem ok__law_ring {f : Addr} {fd : FuncData} (F : Fun K "_law_ring" "_law_ring" s__law_ring f fd) (D__law_cell : FD P w K mg base ct 1 "_law_cell" 2 F__law_cell) (D__law_part : FD P w K mg base ct 1 "_law_part" 2 F__law_part) (m_abs : mg "abs" = none) (m_range : mg "range" = none) : FnOk P w K mg base CX0 2 f fd ["script", "first"] (spF ct K 2 F__law_ring) :=
  fd_ok F sc__law_ring fun cdv A outer s H E hr => by
    have nd := sc__law_ring.nd
    have hu := hr.units
    exact (sss_cons (ss_set 2 nd (sx_abs m_abs (sx_call D__law_cell (hr.mono (by decide)) (sa_cons (sx_var 0) (sa_cons (sx_add (sx_var 1) sx_int) sa_nil)))))
  (sss_cons (ss_set 3 nd (sx_lst sa_nil))
  (sss_cons (ss_for PassesOwn.never rfl (si_rng1 m_range sx_int) (sg_name 4 nd)
  (sss_cons (ss_app 3 (sx_call D__law_part (hr.mono (by decide)) (sa_cons (sx_call D__law_cell (hr.mono (by decide)) (sa_cons (sx_var 0) (sa_cons (sx_add (sx_var 1) (sx_var 4)) sa_nil))) (sa_cons (sx_var 2) sa_nil))))
  (sss_one (ss_set 2 nd (sx_div (sx_var 2) sx_int)))))
  (sss_one (ss_ret (sx_tup (sa_cons (sx_copy (sx_idx (sx_var 3) sx_int)) (sa_cons (sx_copy (sx_idx (sx_var 3) sx_int)) (sa_cons (sx_copy (sx_idx (sx_var 3) sx_int)) (sa_cons (sx_copy (sx_idx (sx_var 3) sx_int)) sa_nil))))))))))
abbrev s__law_scaled : Stmt := topS 37
theorem sc__law_scaled : FnScope ["script", "first"] ["script", "first"] (defScope s__law_scaled) := ⟨rfl, rfl, rfl, by decide +kernel, rfl, by decide +kernel, by decide +kernel⟩
def F__law_scaled : Fn := dDef (fun _ => false) 2 2 (dRet (dTup (dCons (dCall [true, true] F__law_ring (dCons (fun ρ => look ρ 0) (dCons (fun ρ => look ρ 1) dNil))) (dCons (dBin oMod (dBind (dCall [true, false] F__law_cell (dCons (fun ρ => look ρ 0) (dCons (dBin oAdd (fun ρ => look ρ 1) (fun _ => some (.int 5))) dNil))) oInt) (fun _ => some (.int 9))) dNil))))
theorem ok__law_scaled {f : Addr} {fd : FuncData} (F : Fun K "_law_scaled" "_law_scaled" s__law_scaled f fd) (D__law_cell : FD P w K mg base ct 1 "_law_cell" 2 F__law_cell) (D__law_ring : FD P w K mg base ct 2 "_law_ring" 2 F__law_ring) (m_int : mg "int" = none) : FnOk P w K mg base CX0 3 f fd ["script", "first"] (spF ct K 2 F__law_scaled) :=
  fd_ok F sc__law_scaled fun cdv A outer s H E hr => by
    have nd := sc__law_scaled.nd
    have hu := hr.units
    exact (sss_one (ss_ret (sx_tup (sa_cons (sx_call D__law_ring (hr.mono (by decide)) (sa_cons (sx_var 0) (sa_cons (sx_var 1) sa_nil))) (sa_cons (sx_mod (sx_int1 m_int (sx_call D__law_cell (hr.mono (by decide)) (sa_cons (sx_var 0) (sa_cons (sx_add (sx_var 1) sx_int) sa_nil)))) sx_int) sa_nil)))))
abbrev s_ring_times_root : Stmt := topS 10
theorem sc_ring_times_root : FnScope ["x", "a", "b", "c", "d"] ["x"] (defScope s_ring_times_root) := ⟨rfl, rfl, rfl, by decide +kernel, rfl, by decide +kernel, by decide +kernel⟩
def F_ring_times_root : Fn := dDef (fun _ => false) 1 5 (dSeq (dFz 0) (dSeq (dAsg (dBind (fun ρ => look ρ 0) copyO) (gTupO 4 (gsCons (gSet 1) (gsCons (gSet 2) (gsCons (gSet 3) (gsCons (gSet 4) gsNil))))))
  (dRet (dTup (dCons (dBin oSub (fun ρ => look ρ 2) (fun ρ => look ρ 4)) (dCons (dBin oAdd (fun ρ => look ρ 1) (fun ρ => look ρ 3)) (dCons (dBin oAdd (fun ρ => look ρ 2) (fun ρ => look ρ 4)) (dCons (dBin oSub (fun ρ => look ρ 3) (fun ρ => look ρ 1)) dNil))))))))
theorem ok_ring_times_root {f : Addr} {fd : FuncData} (F : Fun K "ring_times_root" "ring_times_root" s_ring_times_root f fd) : FnOk P w K mg base CX0 1 f fd ["x"] (spF ct K 1 F_ring_times_root) :=
  fd_ok F sc_ring_times_root fun cdv A outer s H E hr => by
    have nd := sc_ring_times_root.nd
    have hu := hr.units
    exact (sss_fz 0 (sss_cons (ss_asg (sx_copy (sx_var 0)) (sg_tup rfl (sgs_cons (sg_name 1 nd) (sgs_cons (sg_name 2 nd) (sgs_cons (sg_name 3 nd) (sgs_cons (sg_name 4 nd) sgs_nil))))))
  (sss_one (ss_ret (sx_tup (sa_cons (sx_sub (sx_var 2) (sx_var 4)) (sa_cons (sx_add (sx_var 1) (sx_var 3)) (sa_cons (sx_add (sx_var 2) (sx_var 4)) (sa_cons (sx_sub (sx_var 3) (sx_var 1)) sa_nil)))))))))
abbrev s__times_roots : Stmt := topS 16
theorem sc__times_roots : FnScope ["number", "count", "a", "b", "c", "d", "halves"] ["number", "count"] (defScope s__times_roots) := ⟨rfl, rfl, rfl, by decide +kernel, rfl, by decide +kernel, by decide +kernel⟩
def F__times_roots : Fn := dDef (fun _ => false) 2 7 (dSeq (dFz 0) (dSeq (dAsg (dBind (fun ρ => look ρ 0) copyO) (gTupO 4 (gsCons (gSet 2) (gsCons (gSet 3) (gsCons (gSet 4) (gsCons (gSet 5) gsNil))))))
  (dSeq (dAsg (dBin oDiv (fun ρ => look ρ 1) (fun _ => some (.int 2))) (gSet 6))
  (dSeq (dAsg (dTup (dCons (dBin oShl (fun ρ => look ρ 2) (fun ρ => look ρ 6)) (dCons (dBin oShl (fun ρ => look ρ 3) (fun ρ => look ρ 6)) (dCons (dBin oShl (fun ρ => look ρ 4) (fun ρ => look ρ 6)) (dCons (dBin oShl (fun ρ => look ρ 5) (fun ρ => look ρ 6)) dNil))))) (gSet 0))
  (dSeq (dIf (dTru oBool (dBin oEq (dBin oMod (fun ρ => look ρ 1) (fun _ => some (.int 2))) (fun _ => some (.int 1))))
  (dRet (dCall [true] F_ring_times_root (dCons (fun ρ => look ρ 0) dNil)))
  dSkip)
  (dRetMv 0))))))
theorem ok__times_roots {f : Addr} {fd : FuncData} (F : Fun K "_times_roots" "_times_roots" s__times_roots f fd) (D_ring_times_root : FD P w K mg base ct 1 "ring_times_root" 1 F_ring_times_root) : FnOk P w K mg base CX0 2 f fd ["number", "count"] (spF ct K 2 F__times_roots) :=
  fd_ok F sc__times_roots fun cdv A outer s H E hr => by
    have nd := sc__times_roots.nd
    have hu := hr.units
    exact (sss_fz 0 (sss_cons (ss_asg (sx_copy (sx_var 0)) (sg_tup rfl (sgs_cons (sg_name 2 nd) (sgs_cons (sg_name 3 nd) (sgs_cons (sg_name 4 nd) (sgs_cons (sg_name 5 nd) sgs_nil))))))
  (sss_cons (ss_set 6 nd (sx_div (sx_var 1) sx_int))
  (sss_cons (ss_set 0 nd (sx_tup (sa_cons (sx_shl (sx_var 2) (sx_var 6)) (sa_cons (sx_shl (sx_var 3) (sx_var 6)) (sa_cons (sx_shl (sx_var 4) (sx_var 6)) (sa_cons (sx_shl (sx_var 5) (sx_var 6)) sa_nil))))))
  (sss_cons (ss_if (st_eq hu (sx_mod (sx_var 1) sx_int) sx_int)
  (sss_one (ss_ret (sx_call D_ring_times_root (hr.mono (by decide)) (sa_cons (sx_var 0) sa_nil))))
  sss_nil)
  (sss_one (ss_retmv 0)))))))
abbrev s_divisible_by_root : Stmt := topS 11
theorem sc_divisible_by_root : FnScope ["x"] ["x"] (defScope s_divisible_by_root) := ⟨rfl, rfl, rfl, by decide +kernel, rfl, by decide +kernel, by decide +kernel⟩
def F_divisible_by_root : Fn := dDef (fun _ => false) 1 1 (dRet (vAnd (dBin oEq (dBin oMod (dBin oAdd (dBin oIdx (fun ρ => look ρ 0) (fun _ => some (.int 0))) (dBin oIdx (fun ρ => look ρ 0) (fun _ => some (.int 2)))) (fun _ => some (.int 2))) (fun _ => some (.int 0))) (dBin oEq (dBin oMod (dBin oAdd (dBin oIdx (fun ρ => look ρ 0) (fun _ => some (.int 1))) (dBin oIdx (fun ρ => look ρ 0) (fun _ => some (.int 3)))) (fun _ => some (.int 2))) (fun _ => some (.int 0)))))
theorem ok_divisible_by_root {f : Addr} {fd : FuncData} (F : Fun K "divisible_by_root" "divisible_by_root" s_divisible_by_root f fd) : FnOk P w K mg base CX0 1 f fd ["x"] (spF ct K 1 F_divisible_by_root) :=
  fd_ok F sc_divisible_by_root fun cdv A outer s H E hr => by
    have nd := sc_divisible_by_root.nd
    have hu := hr.units
    exact (sss_one (ss_ret (sx_and (sx_eq hu (sx_mod (sx_add (sx_idx (sx_var 0) sx_int) (sx_idx (sx_var 0) sx_int)) sx_int) sx_int) (sx_one (sx_eq hu (sx_mod (sx_add (sx_idx (sx_var 0) sx_int) (sx_idx (sx_var 0) sx_int)) sx_int) sx_int)))))
abbrev s__twos : Stmt := topS 17
theorem sc__twos : FnScope ["number", "a", "b", "c", "d", "bits"] ["number"] (defScope s__twos) := ⟨rfl, rfl, rfl, by decide +kernel, rfl, by decide +kernel, by decide +kernel⟩
def F__twos : Fn := dDef (fun _ => false) 1 6 (dSeq (dFz 0) (dSeq (dAsg (dBind (fun ρ => look ρ 0) copyO) (gTupO 4 (gsCons (gSet 1) (gsCons (gSet 2) (gsCons (gSet 3) (gsCons (gSet 4) gsNil))))))
  (dSeq (dAsg (dBin oOr (dBin oOr (dBin oOr (fun ρ => look ρ 1) (fun ρ => look ρ 2)) (fun ρ => look ρ 3)) (fun ρ => look ρ 4)) (gSet 5))
  (dRet (dBin oSub (dBind (dBin oAnd (fun ρ => look ρ 5) (dBind (fun ρ => look ρ 5) negO)) oBits) (fun _ => some (.int 1)))))))
theorem ok__twos {f : Addr} {fd : FuncData} (F : Fun K "_twos" "_twos" s__twos f fd) : FnOk P w K mg base CX0 1 f fd ["number"] (spF ct K 1 F__twos) :=
  fd_ok F sc__twos fun cdv A outer s H E hr => by
    have nd := sc__twos.nd
    have hu := hr.units
    exact (sss_fz 0 (sss_cons (ss_asg (sx_copy (sx_var 0)) (sg_tup rfl (sgs_cons (sg_name 1 nd) (sgs_cons (sg_name 2 nd) (sgs_cons (sg_name 3 nd) (sgs_cons (sg_name 4 nd) sgs_nil))))))
  (sss_cons (ss_set 5 nd (sx_bor (sx_bor (sx_bor (sx_var 1) (sx_var 2)) (sx_var 3)) (sx_var 4)))
  (sss_one (ss_ret (sx_sub (sx_bits (sx_band (sx_var 5) (sx_neg (sx_var 5)))) sx_int))))))
abbrev s__shifted_right : Stmt := topS 18
theorem sc__shifted_right : FnScope ["number", "count", "a", "b", "c", "d"] ["number", "count"] (defScope s__shifted_right) := ⟨rfl, rfl, rfl, by decide +kernel, rfl, by decide +kernel, by decide +kernel⟩
def F__shifted_right : Fn := dDef (fun _ => false) 2 6 (dSeq (dFz 0) (dSeq (dAsg (dBind (fun ρ => look ρ 0) copyO) (gTupO 4 (gsCons (gSet 2) (gsCons (gSet 3) (gsCons (gSet 4) (gsCons (gSet 5) gsNil))))))
  (dRet (dTup (dCons (dBin oShr (fun ρ => look ρ 2) (fun ρ => look ρ 1)) (dCons (dBin oShr (fun ρ => look ρ 3) (fun ρ => look ρ 1)) (dCons (dBin oShr (fun ρ => look ρ 4) (fun ρ => look ρ 1)) (dCons (dBin oShr (fun ρ => look ρ 5) (fun ρ => look ρ 1)) dNil))))))))
theorem ok__shifted_right {f : Addr} {fd : FuncData} (F : Fun K "_shifted_right" "_shifted_right" s__shifted_right f fd) : FnOk P w K mg base CX0 1 f fd ["number", "count"] (spF ct K 2 F__shifted_right) :=
  fd_ok F sc__shifted_right fun cdv A outer s H E hr => by
    have nd := sc__shifted_right.nd
    have hu := hr.units
    exact (sss_fz 0 (sss_cons (ss_asg (sx_copy (sx_var 0)) (sg_tup rfl (sgs_cons (sg_name 2 nd) (sgs_cons (sg_name 3 nd) (sgs_cons (sg_name 4 nd) (sgs_cons (sg_name 5 nd) sgs_nil))))))
  (sss_one (ss_ret (sx_tup (sa_cons (sx_shr (sx_var 2) (sx_var 1)) (sa_cons (sx_shr (sx_var 3) (sx_var 1)) (sa_cons (sx_shr (sx_var 4) (sx_var 1)) (sa_cons (sx_shr (sx_var 5) (sx_var 1)) sa_nil)))))))))
abbrev s_ring_over_root : Stmt := topS 12
theorem sc_ring_over_root : FnScope ["x", "a", "b", "c", "d"] ["x"] (defScope s_ring_over_root) := ⟨rfl, rfl, rfl, by decide +kernel, rfl, by decide +kernel, by decide +kernel⟩
def F_ring_over_root : Fn := dDef (fun _ => false) 1 5 (dSeq (dIf (bNot (dTru oTru (dCall [true] F_divisible_by_root (dCons (fun ρ => look ρ 0) dNil))))
  (fun _ => none)
  dSkip)
  (dSeq (dAsg (dCall [true] F_ring_times_root (dCons (fun ρ => look ρ 0) dNil)) (gTupO 4 (gsCons (gSet 1) (gsCons (gSet 2) (gsCons (gSet 3) (gsCons (gSet 4) gsNil))))))
  (dRet (dTup (dCons (dBin oDiv (fun ρ => look ρ 1) (fun _ => some (.int 2))) (dCons (dBin oDiv (fun ρ => look ρ 2) (fun _ => some (.int 2))) (dCons (dBin oDiv (fun ρ => look ρ 3) (fun _ => some (.int 2))) (dCons (dBin oDiv (fun ρ => look ρ 4) (fun _ => some (.int 2))) dNil))))))))
theorem ok_ring_over_root {f : Addr} {fd : FuncData} (F : Fun K "ring_over_root" "ring_over_root" s_ring_over_root f fd) (D_divisible_by_root : FD P w K mg base ct 1 "divisible_by_root" 1 F_divisible_by_root) (D_ring_times_root : FD P w K mg base ct 1 "ring_times_root" 1 F_ring_times_root) : FnOk P w K mg base CX0 2 f fd ["x"] (spF ct K 1 F_ring_over_root) :=
  fd_ok F sc_ring_over_root fun cdv A outer s H E hr => by
    have nd := sc_ring_over_root.nd
    have hu := hr.units
    exact (sss_cons (ss_if (st_not (st_tru (sx_call D_divisible_by_root (hr.mono (by decide)) (sa_cons (sx_var 0) sa_nil))))
  (sss_one ss_never)
  sss_nil)
  (sss_cons (ss_asg (sx_call D_ring_times_root (hr.mono (by decide)) (sa_cons (sx_var 0) sa_nil)) (sg_tup rfl (sgs_cons (sg_name 1 nd) (sgs_cons (sg_name 2 nd) (sgs_cons (sg_name 3 nd) (sgs_cons (sg_name 4 nd) sgs_nil))))))
  (sss_one (ss_ret (sx_tup (sa_cons (sx_div (sx_var 1) sx_int) (sa_cons (sx_div (sx_var 2) sx_int) (sa_cons (sx_div (sx_var 3) sx_int) (sa_cons (sx_div (sx_var 4) sx_int) sa_nil)))))))))
abbrev s_lowest : Stmt := topS 15
theorem sc_lowest : FnScope ["number", "exponent", "halves"] ["number", "exponent"] (defScope s_lowest) := ⟨rfl, rfl, rfl, by decide +kernel, rfl, by decide +kernel, by decide +kernel⟩
def F_lowest : Fn := dDef (fun _ => false) 2 3 (dSeq (dIf (dTru oBool (dBin oLt (fun ρ => look ρ 1) (fun _ => some (.int 0))))
  (dRet (dTup (dCons (dCall [true, false] F__times_roots (dCons (fun ρ => look ρ 0) (dCons (dBind (fun ρ => look ρ 1) negO) dNil))) (dCons (fun _ => some (.int 0)) dNil))))
  dSkip)
  (dSeq (dIf (bOr (dTru oBool (dBin oEq (fun ρ => look ρ 1) (fun _ => some (.int 0)))) (bNot (dTru oTru (dCall [true] F_divisible_by_root (dCons (fun ρ => look ρ 0) dNil)))))
  (dRet (dTup (dCons (dBind (fun ρ => look ρ 0) copyO) (dCons (dBind (fun ρ => look ρ 1) copyO) dNil))))
  dSkip)
  (dSeq (dIf (dTru oBool (dBin oEq (fun ρ => look ρ 0) (dTup (dCons (fun _ => some (.int 0)) (dCons (fun _ => some (.int 0)) (dCons (fun _ => some (.int 0)) (dCons (fun _ => some (.int 0)) dNil)))))))
  (dRet (fun _ => some c_ZERO))
  dSkip)
  (dSeq (dAsg (dBin oMin (dCall [true] F__twos (dCons (fun ρ => look ρ 0) dNil)) (dBin oDiv (fun ρ => look ρ 1) (fun _ => some (.int 2)))) (gSet 2))
  (dSeq (dAsg (dCall [true, true] F__shifted_right (dCons (fun ρ => look ρ 0) (dCons (fun ρ => look ρ 2) dNil))) (gSet 0))
  (dSeq (dAug 1 oSub (dBin oMul (fun _ => some (.int 2)) (fun ρ => look ρ 2)))
  (dSeq (dIf (bAnd (dTru oBool (dBin oGt (fun ρ => look ρ 1) (fun _ => some (.int 0)))) (dTru oTru (dCall [true] F_divisible_by_root (dCons (fun ρ => look ρ 0) dNil))))
  (dRet (dTup (dCons (dCall [true] F_ring_over_root (dCons (fun ρ => look ρ 0) dNil)) (dCons (dBin oSub (fun ρ => look ρ 1) (fun _ => some (.int 1))) dNil))))
  dSkip)
  (dRet (dTup (dCons (dBind (fun ρ => look ρ 0) copyO) (dCons (dBind (fun ρ => look ρ 1) copyO) dNil)))))))))))
theorem ok_lowest {f : Addr} {fd : FuncData} (F : Fun K "lowest" "lowest" s_lowest f fd) (D__times_roots : FD P w K mg base ct 2 "_times_roots" 2 F__times_roots) (D_divisible_by_root : FD P w K mg base ct 1 "divisible_by_root" 1 F_divisible_by_root) (D__twos : FD P w K mg base ct 1 "_twos" 1 F__twos) (D__shifted_right : FD P w K mg base ct 1 "_shifted_right" 2 F__shifted_right) (D_ring_over_root : FD P w K mg base ct 2 "ring_over_root" 1 F_ring_over_root) (m_min : mg "min" = none) (g_ZERO : GC mg K ct "ZERO" c_ZERO) : FnOk P w K mg base CX0 3 f fd ["number", "exponent"] (spF ct K 2 F_lowest) :=
  fd_ok F sc_lowest fun cdv A outer s H E hr => by
    have nd := sc_lowest.nd
    have hu := hr.units
    exact (sss_cons (ss_if (st_lt (sx_var 1) sx_int)
  (sss_one (ss_ret (sx_tup (sa_cons (sx_call D__times_roots (hr.mono (by decide)) (sa_cons (sx_var 0) (sa_cons (sx_neg (sx_var 1)) sa_nil))) (sa_cons sx_int sa_nil)))))
  sss_nil)
  (sss_cons (ss_if (st_bool (sw_or (st_eq hu (sx_var 1) sx_int) (sw_or1 (st_not (st_tru (sx_call D_divisible_by_root (hr.mono (by decide)) (sa_cons (sx_var 0) sa_nil)))))))
  (sss_one (ss_ret (sx_tup (sa_cons (sx_copy (sx_var 0)) (sa_cons (sx_copy (sx_var 1)) sa_nil)))))
  sss_nil)
  (sss_cons (ss_if (st_eq hu (sx_var 0) (sx_tup (sa_cons sx_int (sa_cons sx_int (sa_cons sx_int (sa_cons sx_int sa_nil))))))
  (sss_one (ss_ret (sx_glob g_ZERO)))
  sss_nil)
  (sss_cons (ss_set 2 nd (sx_min rfl m_min (sx_call D__twos (hr.mono (by decide)) (sa_cons (sx_var 0) sa_nil)) (sx_div (sx_var 1) sx_int)))
  (sss_cons (ss_set 0 nd (sx_call D__shifted_right (hr.mono (by decide)) (sa_cons (sx_var 0) (sa_cons (sx_var 2) sa_nil))))
  (sss_cons (ss_aug 1 nd iop_sub (fn2_I0 fun _ _ _ _ _ => ⟨rfl, rfl⟩) (sx_mul sx_int (sx_var 2)))
  (sss_cons (ss_if (st_bool (sw_and (st_gt (sx_var 1) sx_int) (sw_and1 (st_tru (sx_call D_divisible_by_root (hr.mono (by decide)) (sa_cons (sx_var 0) sa_nil))))))
  (sss_one (ss_ret (sx_tup (sa_cons (sx_call D_ring_over_root (hr.mono (by decide)) (sa_cons (sx_var 0) sa_nil)) (sa_cons (sx_sub (sx_var 1) sx_int) sa_nil)))))
  sss_nil)
  (sss_one (ss_ret (sx_tup (sa_cons (sx_copy (sx_var 0)) (sa_cons (sx_copy (sx_var 1)) sa_nil))))))))))))
abbrev s__law_turn : Stmt := topS 33
theorem sc__law_turn : FnScope ["x", "steps", "k"] ["x", "steps"] (defScope s__law_turn) := ⟨rfl, rfl, rfl, by decide +kernel, rfl, by decide +kernel, by decide +kernel⟩
def Bd__law_turn_1 : Mini.Env → Option Mini.Out := (dAsg (dTup (dCons (dBind (dBin oIdx (fun ρ => look ρ 0) (fun _ => some (.int 3))) negO) (dCons (dBind (dBin oIdx (fun ρ => look ρ 0) (fun _ => some (.int 0))) copyO) (dCons (dBind (dBin oIdx (fun ρ => look ρ 0) (fun _ => some (.int 1))) copyO) (dCons (dBind (dBin oIdx (fun ρ => look ρ 0) (fun _ => some (.int 2))) copyO) dNil))))) (gSet 0))
def F__law_turn : Fn := dDef (fun _ => false) 2 3 (dSeq (dFor (dRng1 (dBin oMod (dBind (fun ρ => look ρ 1) oInt) (fun _ => some (.int 8)))) (gSet 2)
  Bd__law_turn_1)
  (dRetMv 0))
theorem ok__law_turn {f : Addr} {fd : FuncData} (F : Fun K "_law_turn" "_law_turn" s__law_turn f fd) (m_range : mg "range" = none) (m_int : mg "int" = none) : FnOk P w K mg base CX0 1 f fd ["x", "steps"] (spF ct K 2 F__law_turn) :=
  fd_ok F sc__law_turn fun cdv A outer s H E hr => by
    have nd := sc__law_turn.nd
    have hu := hr.units
    exact (sss_cons (ss_for PassesOwn.never rfl (si_rng1 m_range (sx_mod (sx_int1 m_int (sx_var 1)) sx_int)) (sg_name 2 nd)
  (sss_one (ss_set 0 nd (sx_tup (sa_cons (sx_neg (sx_idx (sx_var 0) sx_int)) (sa_cons (sx_copy (sx_idx (sx_var 0) sx_int)) (sa_cons (sx_copy (sx_idx (sx_var 0) sx_int)) (sa_cons (sx_copy (sx_idx (sx_var 0) sx_int)) sa_nil))))))))
  (sss_one (ss_retmv 0)))
abbrev s__law_is_integer : Stmt := topS 28
theorem sc__law_is_integer : FnScope ["actual"] ["actual"] (defScope s__law_is_integer) := ⟨rfl, rfl, rfl, by decide +kernel, rfl, by decide +kernel, by decide +kernel⟩
def F__law_is_integer : Fn := dDef (fun _ => false) 1 1 (dRet (vAnd (dBind (fun ρ => look ρ 0) (oIsi "int")) (dBind (dBind (fun ρ => look ρ 0) (oIsi "bool")) oNot)))
theorem ok__law_is_integer {f : Addr} {fd : FuncData} (F : Fun K "_law_is_integer" "_law_is_integer" s__law_is_integer f fd) (m_isinstance : mg "isinstance" = none) (m_bool : mg "bool" = none) (m_int : mg "int" = none) : FnOk P w K mg base CX0 1 f fd ["actual"] (spF ct K 1 F__law_is_integer) :=
  fd_ok F sc__law_is_integer fun cdv A outer s H E hr => by
    have nd := sc__law_is_integer.nd
    have hu := hr.units
    exact (sss_one (ss_ret (sx_and (sx_isi (T := "int") m_isinstance m_int (by decide +kernel) (sx_var 0)) (sx_one (sx_not (sx_isi (T := "bool") m_isinstance m_bool (by decide +kernel) (sx_var 0)))))))
abbrev s__law_is_ring : Stmt := topS 34
theorem sc__law_is_ring : FnScope ["actual", "part"] ["actual"] (defScope s__law_is_ring) := ⟨rfl, rfl, rfl, by decide +kernel, rfl, by decide +kernel, by decide +kernel⟩
def Bd__law_is_ring_1 : Mini.Env → Option Mini.Out := (dIf (bNot (dTru oTru (dCall [true] F__law_is_integer (dCons (fun ρ => look ρ 1) dNil))))
  (dRet (fun _ => some (.bl false)))
  dSkip)
def F__law_is_ring : Fn := dDef (fun _ => false) 1 2 (dSeq (dIf (bOr (bNot (dTru oTru (dBind (fun ρ => look ρ 0) (oIsi "tuple")))) (dTru oBool (dBin oNe (dBind (fun ρ => look ρ 0) oLen) (fun _ => some (.int 4)))))
  (dRet (fun _ => some (.bl false)))
  dSkip)
  (dSeq (dFz 0) (dSeq (dFor (dIt true (fun ρ => look ρ 0)) (gSet 1)
  Bd__law_is_ring_1)
  (dRet (fun _ => some (.bl true))))))
theorem ok__law_is_ring {f : Addr} {fd : FuncData} (F : Fun K "_law_is_ring" "_law_is_ring" s__law_is_ring f fd) (D__law_is_integer : FD P w K mg base ct 1 "_law_is_integer" 1 F__law_is_integer) (m_len : mg "len" = none) (m_isinstance : mg "isinstance" = none) (m_tuple : mg "tuple" = none) : FnOk P w K mg base CX0 2 f fd ["actual"] (spF ct K 1 F__law_is_ring) :=
  fd_ok F sc__law_is_ring fun cdv A outer s H E hr => by
    have nd := sc__law_is_ring.nd
    have hu := hr.units
    exact (sss_cons (ss_if (st_bool (sw_or (st_not (st_tru (sx_isi (T := "tuple") m_isinstance m_tuple (by decide +kernel) (sx_var 0)))) (sw_or1 (st_ne hu (sx_len m_len (sx_var 0)) sx_int))))
  (sss_one (ss_ret sx_bl))
  sss_nil)
  (sss_fz 0 (sss_cons (ss_for PassesOwn.never rfl (si_seq (sx_var 0)) (sg_name 1 nd)
  (sss_one (ss_if (st_not (st_tru (sx_call D__law_is_integer (hr.mono (by decide)) (sa_cons (sx_var 1) sa_nil))))
  (sss_one (ss_ret sx_bl))
  sss_nil)))
  (sss_one (ss_ret sx_bl)))))
abbrev s__law_times_root : Stmt := topS 35
theorem sc__law_times_root : FnScope ["x", "times", "k"] ["x", "times"] (defScope s__law_times_root) := ⟨rfl, rfl, rfl, by decide +kernel, rfl, by decide +kernel, by decide +kernel⟩
def Bd__law_times_root_1 : Mini.Env → Option Mini.Out := (dAsg (dTup (dCons (dBin oSub (dBin oIdx (fun ρ => look ρ 0) (fun _ => some (.int 1))) (dBin oIdx (fun ρ => look ρ 0) (fun _ => some (.int 3)))) (dCons (dBin oAdd (dBin oIdx (fun ρ => look ρ 0) (fun _ => some (.int 0))) (dBin oIdx (fun ρ => look ρ 0) (fun _ => some (.int 2)))) (dCons (dBin oAdd (dBin oIdx (fun ρ => look ρ 0) (fun _ => some (.int 1))) (dBin oIdx (fun ρ => look ρ 0) (fun _ => some (.int 3)))) (dCons (dBin oSub (dBin oIdx (fun ρ => look ρ 0) (fun _ => some (.int 2))) (dBin oIdx (fun ρ => look ρ 0) (fun _ => some (.int 0)))) dNil))))) (gSet 0))
def F__law_times_root : Fn := dDef (fun _ => false) 2 3 (dSeq (dFor (dRng1 (fun ρ => look ρ 1)) (gSet 2)
  Bd__law_times_root_1)
  (dRetMv 0))
theorem ok__law_times_root {f : Addr} {fd : FuncData} (F : Fun K "_law_times_root" "_law_times_root" s__law_times_root f fd) (m_range : mg "range" = none) : FnOk P w K mg base CX0 1 f fd ["x", "times"] (spF ct K 2 F__law_times_root) :=
  fd_ok F sc__law_times_root fun cdv A outer s H E hr => by
    have nd := sc__law_times_root.nd
    have hu := hr.units
    exact (sss_cons (ss_for PassesOwn.never rfl (si_rng1 m_range (sx_var 1)) (sg_name 2 nd)
  (sss_one (ss_set 0 nd (sx_tup (sa_cons (sx_sub (sx_idx (sx_var 0) sx_int) (sx_idx (sx_var 0) sx_int)) (sa_cons (sx_add (sx_idx (sx_var 0) sx_int) (sx_idx (sx_var 0) sx_int)) (sa_cons (sx_add (sx_idx (sx_var 0) sx_int) (sx_idx (sx_var 0) sx_int)) (sa_cons (sx_sub (sx_idx (sx_var 0) sx_int) (sx_idx (sx_var 0) sx_int)) sa_nil))))))))
  (sss_one (ss_retmv 0)))
abbrev s__law_is_number : Stmt := topS 36
theorem sc__law_is_number : FnScope ["actual", "x", "roots", "a"] ["actual", "x", "roots"] (defScope s__law_is_number) := ⟨rfl, rfl, rfl, by decide +kernel, rfl, by decide +kernel, by decide +kernel⟩
def F__law_is_number : Fn := dDef (fun _ => false) 3 4 (dSeq (dIf (bOr (bNot (dTru oTru (dBind (fun ρ => look ρ 0) (oIsi "tuple")))) (dTru oBool (dBin oNe (dBind (fun ρ => look ρ 0) oLen) (fun _ => some (.int 2)))))
  (dRet (fun _ => some (.bl false)))
  dSkip)
  (dSeq (dIf (bOr (bNot (dTru oTru (dCall [true] F__law_is_ring (dCons (dBin oIdx (fun ρ => look ρ 0) (fun _ => some (.int 0))) dNil)))) (bOr (bNot (dTru oTru (dCall [true] F__law_is_integer (dCons (dBin oIdx (fun ρ => look ρ 0) (fun _ => some (.int 1))) dNil)))) (dTru oBool (dBin oLt (dBin oIdx (fun ρ => look ρ 0) (fun _ => some (.int 1))) (fun _ => some (.int 0))))))
  (dRet (fun _ => some (.bl false)))
  dSkip)
  (dSeq (dAsg (dBind (dBin oIdx (fun ρ => look ρ 0) (fun _ => some (.int 0))) copyO) (gSet 3))
  (dSeq (dIf (bAnd (dTru oBool (dBin oGt (dBin oIdx (fun ρ => look ρ 0) (fun _ => some (.int 1))) (fun _ => some (.int 0)))) (bAnd (dTru oBool (dBin oEq (dBin oMod (dBind (dBin oAdd (dBin oIdx (fun ρ => look ρ 3) (fun _ => some (.int 0))) (dBin oIdx (fun ρ => look ρ 3) (fun _ => some (.int 2)))) oInt) (fun _ => some (.int 2))) (fun _ => some (.int 0)))) (dTru oBool (dBin oEq (dBin oMod (dBind (dBin oAdd (dBin oIdx (fun ρ => look ρ 3) (fun _ => some (.int 1))) (dBin oIdx (fun ρ => look ρ 3) (fun _ => some (.int 3)))) oInt) (fun _ => some (.int 2))) (fun _ => some (.int 0))))))
  (dRet (fun _ => some (.bl false)))
  dSkip)
  (dSeq (dIf (bOr (dTru oBool (dBin oEq (fun ρ => look ρ 3) (dTup (dCons (fun _ => some (.int 0)) (dCons (fun _ => some (.int 0)) (dCons (fun _ => some (.int 0)) (dCons (fun _ => some (.int 0)) dNil))))))) (dTru oBool (dBin oEq (fun ρ => look ρ 1) (dTup (dCons (fun _ => some (.int 0)) (dCons (fun _ => some (.int 0)) (dCons (fun _ => some (.int 0)) (dCons (fun _ => some (.int 0)) dNil))))))))
  (dRet (vAnd (dBin oEq (dBin oIdx (fun ρ => look ρ 0) (fun _ => some (.int 1))) (fun _ => some (.int 0))) (dBin oEq (fun ρ => look ρ 3) (fun ρ => look ρ 1))))
  dSkip)
  (dRet (dBin oEq (dCall [true, false] F__law_times_root (dCons (fun ρ => look ρ 3) (dCons (dBin oMax (fun _ => some (.int 0)) (dBin oSub (fun ρ => look ρ 2) (dBin oIdx (fun ρ => look ρ 0) (fun _ => some (.int 1))))) dNil))) (dCall [true, false] F__law_times_root (dCons (fun ρ => look ρ 1) (dCons (dBin oMax (fun _ => some (.int 0)) (dBin oSub (dBin oIdx (fun ρ => look ρ 0) (fun _ => some (.int 1))) (fun ρ => look ρ 2))) dNil))))))))))
theorem ok__law_is_number {f : Addr} {fd : FuncData} (F : Fun K "_law_is_number" "_law_is_number" s__law_is_number f fd) (D__law_is_integer : FD P w K mg base ct 1 "_law_is_integer" 1 F__law_is_integer) (D__law_is_ring : FD P w K mg base ct 2 "_law_is_ring" 1 F__law_is_ring) (D__law_times_root : FD P w K mg base ct 1 "_law_times_root" 2 F__law_times_root) (m_len : mg "len" = none) (m_isinstance : mg "isinstance" = none) (m_tuple : mg "tuple" = none) (m_int : mg "int" = none) (m_max : mg "max" = none) : FnOk P w K mg base CX0 3 f fd ["actual", "x", "roots"] (spF ct K 3 F__law_is_number) :=
  fd_ok F sc__law_is_number fun cdv A outer s H E hr => by
    have nd := sc__law_is_number.nd
    have hu := hr.units
    exact (sss_cons (ss_if (st_bool (sw_or (st_not (st_tru (sx_isi (T := "tuple") m_isinstance m_tuple (by decide +kernel) (sx_var 0)))) (sw_or1 (st_ne hu (sx_len m_len (sx_var 0)) sx_int))))
  (sss_one (ss_ret sx_bl))
  sss_nil)
  (sss_cons (ss_if (st_bool (sw_or (st_not (st_tru (sx_call D__law_is_ring (hr.mono (by decide)) (sa_cons (sx_idx (sx_var 0) sx_int) sa_nil)))) (sw_or (st_not (st_tru (sx_call D__law_is_integer (hr.mono (by decide)) (sa_cons (sx_idx (sx_var 0) sx_int) sa_nil)))) (sw_or1 (st_lt (sx_idx (sx_var 0) sx_int) sx_int)))))
  (sss_one (ss_ret sx_bl))
  sss_nil)
  (sss_cons (ss_set 3 nd (sx_copy (sx_idx (sx_var 0) sx_int)))
  (sss_cons (ss_if (st_bool (sw_and (st_gt (sx_idx (sx_var 0) sx_int) sx_int) (sw_and (st_eq hu (sx_mod (sx_int1 m_int (sx_add (sx_idx (sx_var 3) sx_int) (sx_idx (sx_var 3) sx_int))) sx_int) sx_int) (sw_and1 (st_eq hu (sx_mod (sx_int1 m_int (sx_add (sx_idx (sx_var 3) sx_int) (sx_idx (sx_var 3) sx_int))) sx_int) sx_int)))))
  (sss_one (ss_ret sx_bl))
  sss_nil)
  (sss_cons (ss_if (st_bool (sw_or (st_eq hu (sx_var 3) (sx_tup (sa_cons sx_int (sa_cons sx_int (sa_cons sx_int (sa_cons sx_int sa_nil)))))) (sw_or1 (st_eq hu (sx_var 1) (sx_tup (sa_cons sx_int (sa_cons sx_int (sa_cons sx_int (sa_cons sx_int sa_nil)))))))))
  (sss_one (ss_ret (sx_and (sx_eq hu (sx_idx (sx_var 0) sx_int) sx_int) (sx_one (sx_eq hu (sx_var 3) (sx_var 1))))))
  sss_nil)
  (sss_one (ss_ret (sx_eq hu (sx_call D__law_times_root (hr.mono (by decide)) (sa_cons (sx_var 3) (sa_cons (sx_max rfl m_max sx_int (sx_sub (sx_var 2) (sx_idx (sx_var 0) sx_int))) sa_nil))) (sx_call D__law_times_root (hr.mono (by decide)) (sa_cons (sx_var 1) (sa_cons (sx_max rfl m_max sx_int (sx_sub (sx_idx (sx_var 0) sx_int) (sx_var 2))) sa_nil)))))))))))
abbrev s_ring_add : Stmt := topS 4
theorem sc_ring_add : FnScope ["x", "y"] ["x", "y"] (defScope s_ring_add) := ⟨rfl, rfl, rfl, by decide +kernel, rfl, by decide +kernel, by decide +kernel⟩
def F_ring_add : Fn := dDef (fun _ => false) 2 2 (dRet (dTup (dCons (dBin oAdd (dBin oIdx (fun ρ => look ρ 0) (fun _ => some (.int 0))) (dBin oIdx (fun ρ => look ρ 1) (fun _ => some (.int 0)))) (dCons (dBin oAdd (dBin oIdx (fun ρ => look ρ 0) (fun _ => some (.int 1))) (dBin oIdx (fun ρ => look ρ 1) (fun _ => some (.int 1)))) (dCons (dBin oAdd (dBin oIdx (fun ρ => look ρ 0) (fun _ => some (.int 2))) (dBin oIdx (fun ρ => look ρ 1) (fun _ => some (.int 2)))) (dCons (dBin oAdd (dBin oIdx (fun ρ => look ρ 0) (fun _ => some (.int 3))) (dBin oIdx (fun ρ => look ρ 1) (fun _ => some (.int 3)))) dNil))))))
theorem ok_ring_add {f : Addr} {fd : FuncData} (F : Fun K "ring_add" "ring_add" s_ring_add f fd) : FnOk P w K mg base CX0 1 f fd ["x", "y"] (spF ct K 2 F_ring_add) :=
  fd_ok F sc_ring_add fun cdv A outer s H E hr => by
    have nd := sc_ring_add.nd
    have hu := hr.units
    exact (sss_one (ss_ret (sx_tup (sa_cons (sx_add (sx_idx (sx_var 0) sx_int) (sx_idx (sx_var 1) sx_int)) (sa_cons (sx_add (sx_idx (sx_var 0) sx_int) (sx_idx (sx_var 1) sx_int)) (sa_cons (sx_add (sx_idx (sx_var 0) sx_int) (sx_idx (sx_var 1) sx_int)) (sa_cons (sx_add (sx_idx (sx_var 0) sx_int) (sx_idx (sx_var 1) sx_int)) sa_nil)))))))
abbrev s__raised : Stmt := topS 21
theorem sc__raised : FnScope ["x", "exponent", "number", "own"] ["x", "exponent"] (defScope s__raised) := ⟨rfl, rfl, rfl, by decide +kernel, rfl, by decide +kernel, by decide +kernel⟩
def F__raised : Fn := dDef (fun _ => false) 2 4 (dSeq (dFz 0) (dSeq (dAsg (dBind (fun ρ => look ρ 0) copyO) (gTupO 2 (gsCons (gSet 2) (gsCons (gSet 3) gsNil))))
  (dSeq (dIf (dTru oBool (dBin oEq (fun ρ => look ρ 3) (fun ρ => look ρ 1)))
  (dRetMv 2)
  dSkip)
  (dRet (dCall [true, false] F__times_roots (dCons (fun ρ => look ρ 2) (dCons (dBin oSub (fun ρ => look ρ 1) (fun ρ => look ρ 3)) dNil)))))))
theorem ok__raised {f : Addr} {fd : FuncData} (F : Fun K "_raised" "_raised" s__raised f fd) (D__times_roots : FD P w K mg base ct 2 "_times_roots" 2 F__times_roots) : FnOk P w K mg base CX0 3 f fd ["x", "exponent"] (spF ct K 2 F__raised) :=
  fd_ok F sc__raised fun cdv A outer s H E hr => by
    have nd := sc__raised.nd
    have hu := hr.units
    exact (sss_fz 0 (sss_cons (ss_asg (sx_copy (sx_var 0)) (sg_tup rfl (sgs_cons (sg_name 2 nd) (sgs_cons (sg_name 3 nd) sgs_nil))))
  (sss_cons (ss_if (st_eq hu (sx_var 3) (sx_var 1))
  (sss_one (ss_retmv 2))
  sss_nil)
  (sss_one (ss_ret (sx_call D__times_roots (hr.mono (by decide)) (sa_cons (sx_var 2) (sa_cons (sx_sub (sx_var 1) (sx_var 3)) sa_nil))))))))
abbrev s_scaled_add : Stmt := topS 19
theorem sc_scaled_add : FnScope ["x", "y", "exponent"] ["x", "y"] (defScope s_scaled_add) := ⟨rfl, rfl, rfl, by decide +kernel, rfl, by decide +kernel, by decide +kernel⟩
def F_scaled_add : Fn := dDef (fun _ => false) 2 3 (dSeq (dAsg (dBin oMax (dBin oIdx (fun ρ => look ρ 0) (fun _ => some (.int 1))) (dBin oIdx (fun ρ => look ρ 1) (fun _ => some (.int 1)))) (gSet 2))
  (dRet (dCall [false, true] F_lowest (dCons (dCall [false, false] F_ring_add (dCons (dCall [true, true] F__raised (dCons (fun ρ => look ρ 0) (dCons (fun ρ => look ρ 2) dNil))) (dCons (dCall [true, true] F__raised (dCons (fun ρ => look ρ 1) (dCons (fun ρ => look ρ 2) dNil))) dNil))) (dCons (fun ρ => look ρ 2) dNil)))))
theorem ok_scaled_add {f : Addr} {fd : FuncData} (F : Fun K "scaled_add" "scaled_add" s_scaled_add f fd) (D_lowest : FD P w K mg base ct 3 "lowest" 2 F_lowest) (D_ring_add : FD P w K mg base ct 1 "ring_add" 2 F_ring_add) (D__raised : FD P w K mg base ct 3 "_raised" 2 F__raised) (m_max : mg "max" = none) : FnOk P w K mg base CX0 4 f fd ["x", "y"] (spF ct K 2 F_scaled_add) :=
  fd_ok F sc_scaled_add fun cdv A outer s H E hr => by
    have nd := sc_scaled_add.nd
    have hu := hr.units
    exact (sss_cons (ss_set 2 nd (sx_max rfl m_max (sx_idx (sx_var 0) sx_int) (sx_idx (sx_var 1) sx_int)))
  (sss_one (ss_ret (sx_call D_lowest (hr.mono (by decide)) (sa_cons (sx_call D_ring_add (hr.mono (by decide)) (sa_cons (sx_call D__raised (hr.mono (by decide)) (sa_cons (sx_var 0) (sa_cons (sx_var 2) sa_nil))) (sa_cons (sx_call D__raised (hr.mono (by decide)) (sa_cons (sx_var 1) (sa_cons (sx_var 2) sa_nil))) sa_nil))) (sa_cons (sx_var 2) sa_nil))))))
abbrev s__law_sum : Stmt := topS 38
theorem sc__law_sum : FnScope ["x", "y", "one", "two"] ["x", "y"] (defScope s__law_sum) := ⟨rfl, rfl, rfl, by decide +kernel, rfl, by decide +kernel, by decide +kernel⟩
def F__law_sum : Fn := dDef (fun _ => false) 2 4 (dSeq (dAsg (dCall [true, false] F__law_times_root (dCons (dBin oIdx (fun ρ => look ρ 0) (fun _ => some (.int 0))) (dCons (dBin oMax (fun _ => some (.int 0)) (dBin oSub (dBin oIdx (fun ρ => look ρ 1) (fun _ => some (.int 1))) (dBin oIdx (fun ρ => look ρ 0) (fun _ => some (.int 1))))) dNil))) (gSet 2))
  (dSeq (dAsg (dCall [true, false] F__law_times_root (dCons (dBin oIdx (fun ρ => look ρ 1) (fun _ => some (.int 0))) (dCons (dBin oMax (fun _ => some (.int 0)) (dBin oSub (dBin oIdx (fun ρ => look ρ 0) (fun _ => some (.int 1))) (dBin oIdx (fun ρ => look ρ 1) (fun _ => some (.int 1))))) dNil))) (gSet 3))
  (dRet (dTup (dCons (dBin oAdd (dBin oIdx (fun ρ => look ρ 2) (fun _ => some (.int 0))) (dBin oIdx (fun ρ => look ρ 3) (fun _ => some (.int 0)))) (dCons (dBin oAdd (dBin oIdx (fun ρ => look ρ 2) (fun _ => some (.int 1))) (dBin oIdx (fun ρ => look ρ 3) (fun _ => some (.int 1)))) (dCons (dBin oAdd (dBin oIdx (fun ρ => look ρ 2) (fun _ => some (.int 2))) (dBin oIdx (fun ρ => look ρ 3) (fun _ => some (.int 2)))) (dCons (dBin oAdd (dBin oIdx (fun ρ => look ρ 2) (fun _ => some (.int 3))) (dBin oIdx (fun ρ => look ρ 3) (fun _ => some (.int 3)))) dNil))))))))
theorem ok__law_sum {f : Addr} {fd : FuncData} (F : Fun K "_law_sum" "_law_sum" s__law_sum f fd) (D__law_times_root : FD P w K mg base ct 1 "_law_times_root" 2 F__law_times_root) (m_max : mg "max" = none) : FnOk P w K mg base CX0 2 f fd ["x", "y"] (spF ct K 2 F__law_sum) :=
  fd_ok F sc__law_sum fun cdv A outer s H E hr => by
    have nd := sc__law_sum.nd
    have hu := hr.units
    exact (sss_cons (ss_set 2 nd (sx_call D__law_times_root (hr.mono (by decide)) (sa_cons (sx_idx (sx_var 0) sx_int) (sa_cons (sx_max rfl m_max sx_int (sx_sub (sx_idx (sx_var 1) sx_int) (sx_idx (sx_var 0) sx_int))) sa_nil))))
  (sss_cons (ss_set 3 nd (sx_call D__law_times_root (hr.mono (by decide)) (sa_cons (sx_idx (sx_var 1) sx_int) (sa_cons (sx_max rfl m_max sx_int (sx_sub (sx_idx (sx_var 0) sx_int) (sx_idx (sx_var 1) sx_int))) sa_nil))))
  (sss_one (ss_ret (sx_tup (sa_cons (sx_add (sx_idx (sx_var 2) sx_int) (sx_idx (sx_var 3) sx_int)) (sa_cons (sx_add (sx_idx (sx_var 2) sx_int) (sx_idx (sx_var 3) sx_int)) (sa_cons (sx_add (sx_idx (sx_var 2) sx_int) (sx_idx (sx_var 3) sx_int)) (sa_cons (sx_add (sx_idx (sx_var 2) sx_int) (sx_idx (sx_var 3) sx_int)) sa_nil)))))))))
abbrev s_ring_sub : Stmt := topS 5
theorem sc_ring_sub : FnScope ["x", "y"] ["x", "y"] (defScope s_ring_sub) := ⟨rfl, rfl, rfl, by decide +kernel, rfl, by decide +kernel, by decide +kernel⟩
def F_ring_sub : Fn := dDef (fun _ => false) 2 2 (dRet (dTup (dCons (dBin oSub (dBin oIdx (fun ρ => look ρ 0) (fun _ => some (.int 0))) (dBin oIdx (fun ρ => look ρ 1) (fun _ => some (.int 0)))) (dCons (dBin oSub (dBin oIdx (fun ρ => look ρ 0) (fun _ => some (.int 1))) (dBin oIdx (fun ρ => look ρ 1) (fun _ => some (.int 1)))) (dCons (dBin oSub (dBin oIdx (fun ρ => look ρ 0) (fun _ => some (.int 2))) (dBin oIdx (fun ρ => look ρ 1) (fun _ => some (.int 2)))) (dCons (dBin oSub (dBin oIdx (fun ρ => look ρ 0) (fun _ => some (.int 3))) (dBin oIdx (fun ρ => look ρ 1) (fun _ => some (.int 3)))) dNil))))))
theorem ok_ring_sub {f : Addr} {fd : FuncData} (F : Fun K "ring_sub" "ring_sub" s_ring_sub f fd) : FnOk P w K mg base CX0 1 f fd ["x", "y"] (spF ct K 2 F_ring_sub) :=
  fd_ok F sc_ring_sub fun cdv A outer s H E hr => by
    have nd := sc_ring_sub.nd
    have hu := hr.units
    exact (sss_one (ss_ret (sx_tup (sa_cons (sx_sub (sx_idx (sx_var 0) sx_int) (sx_idx (sx_var 1) sx_int)) (sa_cons (sx_sub (sx_idx (sx_var 0) sx_int) (sx_idx (sx_var 1) sx_int)) (sa_cons (sx_sub (sx_idx (sx_var 0) sx_int) (sx_idx (sx_var 1) sx_int)) (sa_cons (sx_sub (sx_idx (sx_var 0) sx_int) (sx_idx (sx_var 1) sx_int)) sa_nil)))))))
abbrev s_scaled_sub : Stmt := topS 20
theorem sc_scaled_sub : FnScope ["x", "y", "exponent"] ["x", "y"] (defScope s_scaled_sub) := ⟨rfl, rfl, rfl, by decide +kernel, rfl, by decide +kernel, by decide +kernel⟩
def F_scaled_sub : Fn := dDef (fun _ => false) 2 3 (dSeq (dAsg (dBin oMax (dBin oIdx (fun ρ => look ρ 0) (fun _ => some (.int 1))) (dBin oIdx (fun ρ => look ρ 1) (fun _ => some (.int 1)))) (gSet 2))
  (dRet (dCall [false, true] F_lowest (dCons (dCall [false, false] F_ring_sub (dCons (dCall [true, true] F__raised (dCons (fun ρ => look ρ 0) (dCons (fun ρ => look ρ 2) dNil))) (dCons (dCall [true, true] F__raised (dCons (fun ρ => look ρ 1) (dCons (fun ρ => look ρ 2) dNil))) dNil))) (dCons (fun ρ => look ρ 2) dNil)))))
theorem ok_scaled_sub {f : Addr} {fd : FuncData} (F : Fun K "scaled_sub" "scaled_sub" s_scaled_sub f fd) (D_lowest : FD P w K mg base ct 3 "lowest" 2 F_lowest) (D_ring_sub : FD P w K mg base ct 1 "ring_sub" 2 F_ring_sub) (D__raised : FD P w K mg base ct 3 "_raised" 2 F__raised) (m_max : mg "max" = none) : FnOk P w K mg base CX0 4 f fd ["x", "y"] (spF ct K 2 F_scaled_sub) :=
  fd_ok F sc_scaled_sub fun cdv A outer s H E hr => by
    have nd := sc_scaled_sub.nd
    have hu := hr.units
    exact (sss_cons (ss_set 2 nd (sx_max rfl m_max (sx_idx (sx_var 0) sx_int) (sx_idx (sx_var 1) sx_int)))
  (sss_one (ss_ret (sx_call D_lowest (hr.mono (by decide)) (sa_cons (sx_call D_ring_sub (hr.mono (by decide)) (sa_cons (sx_call D__raised (hr.mono (by decide)) (sa_cons (sx_var 0) (sa_cons (sx_var 2) sa_nil))) (sa_cons (sx_call D__raised (hr.mono (by decide)) (sa_cons (sx_var 1) (sa_cons (sx_var 2) sa_nil))) sa_nil))) (sa_cons (sx_var 2) sa_nil))))))
abbrev s_ring_mul : Stmt := topS 7
theorem sc_ring_mul : FnScope ["x", "y", "a", "b", "c", "d", "e", "f", "g", "h"] ["x", "y"] (defScope s_ring_mul) := ⟨rfl, rfl, rfl, by decide +kernel, rfl, by decide +kernel, by decide +kernel⟩
def F_ring_mul : Fn := dDef (fun _ => false) 2 10 (dSeq (dFz 0) (dSeq (dAsg (dBind (fun ρ => look ρ 0) copyO) (gTupO 4 (gsCons (gSet 2) (gsCons (gSet 3) (gsCons (gSet 4) (gsCons (gSet 5) gsNil))))))
  (dSeq (dFz 1) (dSeq (dAsg (dBind (fun ρ => look ρ 1) copyO) (gTupO 4 (gsCons (gSet 6) (gsCons (gSet 7) (gsCons (gSet 8) (gsCons (gSet 9) gsNil))))))
  (dRet (dTup (dCons (dBin oSub (dBin oSub (dBin oSub (dBin oMul (fun ρ => look ρ 2) (fun ρ => look ρ 6)) (dBin oMul (fun ρ => look ρ 3) (fun ρ => look ρ 9))) (dBin oMul (fun ρ => look ρ 4) (fun ρ => look ρ 8))) (dBin oMul (fun ρ => look ρ 5) (fun ρ => look ρ 7))) (dCons (dBin oSub (dBin oSub (dBin oAdd (dBin oMul (fun ρ => look ρ 2) (fun ρ => look ρ 7)) (dBin oMul (fun ρ => look ρ 3) (fun ρ => look ρ 6))) (dBin oMul (fun ρ => look ρ 4) (fun ρ => look ρ 9))) (dBin oMul (fun ρ => look ρ 5) (fun ρ => look ρ 8))) (dCons (dBin oSub (dBin oAdd (dBin oAdd (dBin oMul (fun ρ => look ρ 2) (fun ρ => look ρ 8)) (dBin oMul (fun ρ => look ρ 3) (fun ρ => look ρ 7))) (dBin oMul (fun ρ => look ρ 4) (fun ρ => look ρ 6))) (dBin oMul (fun ρ => look ρ 5) (fun ρ => look ρ 9))) (dCons (dBin oAdd (dBin oAdd (dBin oAdd (dBin oMul (fun ρ => look ρ 2) (fun ρ => look ρ 9)) (dBin oMul (fun ρ => look ρ 3) (fun ρ => look ρ 8))) (dBin oMul (fun ρ => look ρ 4) (fun ρ => look ρ 7))) (dBin oMul (fun ρ => look ρ 5) (fun ρ => look ρ 6))) dNil))))))))))
theorem ok_ring_mul {f : Addr} {fd : FuncData} (F : Fun K "ring_mul" "ring_mul" s_ring_mul f fd) : FnOk P w K mg base CX0 1 f fd ["x", "y"] (spF ct K 2 F_ring_mul) :=
  fd_ok F sc_ring_mul fun cdv A outer s H E hr => by
    have nd := sc_ring_mul.nd
    have hu := hr.units
    exact (sss_fz 0 (sss_cons (ss_asg (sx_copy (sx_var 0)) (sg_tup rfl (sgs_cons (sg_name 2 nd) (sgs_cons (sg_name 3 nd) (sgs_cons (sg_name 4 nd) (sgs_cons (sg_name 5 nd) sgs_nil))))))
  (sss_fz 1 (sss_cons (ss_asg (sx_copy (sx_var 1)) (sg_tup rfl (sgs_cons (sg_name 6 nd) (sgs_cons (sg_name 7 nd) (sgs_cons (sg_name 8 nd) (sgs_cons (sg_name 9 nd) sgs_nil))))))
  (sss_one (ss_ret (sx_tup (sa_cons (sx_sub (sx_sub (sx_sub (sx_mul (sx_var 2) (sx_var 6)) (sx_mul (sx_var 3) (sx_var 9))) (sx_mul (sx_var 4) (sx_var 8))) (sx_mul (sx_var 5) (sx_var 7))) (sa_cons (sx_sub (sx_sub (sx_add (sx_mul (sx_var 2) (sx_var 7)) (sx_mul (sx_var 3) (sx_var 6))) (sx_mul (sx_var 4) (sx_var 9))) (sx_mul (sx_var 5) (sx_var 8))) (sa_cons (sx_sub (sx_add (sx_add (sx_mul (sx_var 2) (sx_var 8)) (sx_mul (sx_var 3) (sx_var 7))) (sx_mul (sx_var 4) (sx_var 6))) (sx_mul (sx_var 5) (sx_var 9))) (sa_cons (sx_add (sx_add (sx_add (sx_mul (sx_var 2) (sx_var 9)) (sx_mul (sx_var 3) (sx_var 8))) (sx_mul (sx_var 4) (sx_var 7))) (sx_mul (sx_var 5) (sx_var 6))) sa_nil)))))))))))
abbrev s_scaled_mul : Stmt := topS 22
theorem sc_scaled_mul : FnScope ["x", "y"] ["x", "y"] (defScope s_scaled_mul) := ⟨rfl, rfl, rfl, by decide +kernel, rfl, by decide +kernel, by decide +kernel⟩
def F_scaled_mul : Fn := dDef (fun _ => false) 2 2 (dRet (dCall [false, false] F_lowest (dCons (dCall [true, true] F_ring_mul (dCons (dBin oIdx (fun ρ => look ρ 0) (fun _ => some (.int 0))) (dCons (dBin oIdx (fun ρ => look ρ 1) (fun _ => some (.int 0))) dNil))) (dCons (dBin oAdd (dBin oIdx (fun ρ => look ρ 0) (fun _ => some (.int 1))) (dBin oIdx (fun ρ => look ρ 1) (fun _ => some (.int 1)))) dNil))))
theorem ok_scaled_mul {f : Addr} {fd : FuncData} (F : Fun K "scaled_mul" "scaled_mul" s_scaled_mul f fd) (D_lowest : FD P w K mg base ct 3 "lowest" 2 F_lowest) (D_ring_mul : FD P w K mg base ct 1 "ring_mul" 2 F_ring_mul) : FnOk P w K mg base CX0 4 f fd ["x", "y"] (spF ct K 2 F_scaled_mul) :=
  fd_ok F sc_scaled_mul fun cdv A outer s H E hr => by
    have nd := sc_scaled_mul.nd
    have hu := hr.units
    exact (sss_one (ss_ret (sx_call D_lowest (hr.mono (by decide)) (sa_cons (sx_call D_ring_mul (hr.mono (by decide)) (sa_cons (sx_idx (sx_var 0) sx_int) (sa_cons (sx_idx (sx_var 1) sx_int) sa_nil))) (sa_cons (sx_add (sx_idx (sx_var 0) sx_int) (sx_idx (sx_var 1) sx_int)) sa_nil)))))
abbrev s__law_mul : Stmt := topS 32
theorem sc__law_mul : FnScope ["x", "y", "parts", "i", "j"] ["x", "y"] (defScope s__law_mul) := ⟨rfl, rfl, rfl, by decide +kernel, rfl, by decide +kernel, by decide +kernel⟩
def Bd__law_mul_1 : Mini.Env → Option Mini.Out := (dSetI 2 (dBin oAdd (fun ρ => look ρ 3) (fun ρ => look ρ 4)) (dBin oAdd (dBin oIdx (fun ρ => look ρ 2) (dBin oAdd (fun ρ => look ρ 3) (fun ρ => look ρ 4))) (dBin oMul (dBin oIdx (fun ρ => look ρ 0) (fun ρ => look ρ 3)) (dBin oIdx (fun ρ => look ρ 1) (fun ρ => look ρ 4)))))
def Bd__law_mul_2 : Mini.Env → Option Mini.Out := (dFor (dRng1 (fun _ => some (.int 4))) (gSet 4)
  Bd__law_mul_1)
def F__law_mul : Fn := dDef (fun _ => false) 2 5 (dSeq (dAsg (dLst (dCons (fun _ => some (.int 0)) (dCons (fun _ => some (.int 0)) (dCons (fun _ => some (.int 0)) (dCons (fun _ => some (.int 0)) (dCons (fun _ => some (.int 0)) (dCons (fun _ => some (.int 0)) (dCons (fun _ => some (.int 0)) dNil)))))))) (gSet 2))
  (dSeq (dFor (dRng1 (fun _ => some (.int 4))) (gSet 3)
  Bd__law_mul_2)
  (dRet (dTup (dCons (dBin oSub (dBin oIdx (fun ρ => look ρ 2) (fun _ => some (.int 0))) (dBin oIdx (fun ρ => look ρ 2) (fun _ => some (.int 4)))) (dCons (dBin oSub (dBin oIdx (fun ρ => look ρ 2) (fun _ => some (.int 1))) (dBin oIdx (fun ρ => look ρ 2) (fun _ => some (.int 5)))) (dCons (dBin oSub (dBin oIdx (fun ρ => look ρ 2) (fun _ => some (.int 2))) (dBin oIdx (fun ρ => look ρ 2) (fun _ => some (.int 6)))) (dCons (dBind (dBin oIdx (fun ρ => look ρ 2) (fun _ => some (.int 3))) copyO) dNil))))))))
theorem ok__law_mul {f : Addr} {fd : FuncData} (F : Fun K "_law_mul" "_law_mul" s__law_mul f fd) (m_range : mg "range" = none) : FnOk P w K mg base CX0 1 f fd ["x", "y"] (spF ct K 2 F__law_mul) :=
  fd_ok F sc__law_mul fun cdv A outer s H E hr => by
    have nd := sc__law_mul.nd
    have hu := hr.units
    exact (sss_cons (ss_set 2 nd (sx_lst (sa_cons sx_int (sa_cons sx_int (sa_cons sx_int (sa_cons sx_int (sa_cons sx_int (sa_cons sx_int (sa_cons sx_int sa_nil)))))))))
  (sss_cons (ss_for PassesOwn.never rfl (si_rng1 m_range sx_int) (sg_name 3 nd)
  (sss_one (ss_for PassesOwn.never rfl (si_rng1 m_range sx_int) (sg_name 4 nd)
  (sss_one (ss_seti 2 (sx_add (sx_idx (sx_var 2) (sx_add (sx_var 3) (sx_var 4))) (sx_mul (sx_idx (sx_var 0) (sx_var 3)) (sx_idx (sx_var 1) (sx_var 4)))) (sx_add (sx_var 3) (sx_var 4)))))))
  (sss_one (ss_ret (sx_tup (sa_cons (sx_sub (sx_idx (sx_var 2) sx_int) (sx_idx (sx_var 2) sx_int)) (sa_cons (sx_sub (sx_idx (sx_var 2) sx_int) (sx_idx (sx_var 2) sx_int)) (sa_cons (sx_sub (sx_idx (sx_var 2) sx_int) (sx_idx (sx_var 2) sx_int)) (sa_cons (sx_copy (sx_idx (sx_var 2) sx_int)) sa_nil)))))))))
abbrev s_ring_neg : Stmt := topS 6
theorem sc_ring_neg : FnScope ["x"] ["x"] (defScope s_ring_neg) := ⟨rfl, rfl, rfl, by decide +kernel, rfl, by decide +kernel, by decide +kernel⟩
def F_ring_neg : Fn := dDef (fun _ => false) 1 1 (dRet (dTup (dCons (dBind (dBin oIdx (fun ρ => look ρ 0) (fun _ => some (.int 0))) negO) (dCons (dBind (dBin oIdx (fun ρ => look ρ 0) (fun _ => some (.int 1))) negO) (dCons (dBind (dBin oIdx (fun ρ => look ρ 0) (fun _ => some (.int 2))) negO) (dCons (dBind (dBin oIdx (fun ρ => look ρ 0) (fun _ => some (.int 3))) negO) dNil))))))
theorem ok_ring_neg {f : Addr} {fd : FuncData} (F : Fun K "ring_neg" "ring_neg" s_ring_neg f fd) : FnOk P w K mg base CX0 1 f fd ["x"] (spF ct K 1 F_ring_neg) :=
  fd_ok F sc_ring_neg fun cdv A outer s H E hr => by
    have nd := sc_ring_neg.nd
    have hu := hr.units
    exact (sss_one (ss_ret (sx_tup (sa_cons (sx_neg (sx_idx (sx_var 0) sx_int)) (sa_cons (sx_neg (sx_idx (sx_var 0) sx_int)) (sa_cons (sx_neg (sx_idx (sx_var 0) sx_int)) (sa_cons (sx_neg (sx_idx (sx_var 0) sx_int)) sa_nil)))))))
abbrev s_scaled_neg : Stmt := topS 23
theorem sc_scaled_neg : FnScope ["x"] ["x"] (defScope s_scaled_neg) := ⟨rfl, rfl, rfl, by decide +kernel, rfl, by decide +kernel, by decide +kernel⟩
def F_scaled_neg : Fn := dDef (fun _ => false) 1 1 (dRet (dTup (dCons (dCall [true] F_ring_neg (dCons (dBin oIdx (fun ρ => look ρ 0) (fun _ => some (.int 0))) dNil)) (dCons (dBind (dBin oIdx (fun ρ => look ρ 0) (fun _ => some (.int 1))) copyO) dNil))))
theorem ok_scaled_neg {f : Addr} {fd : FuncData} (F : Fun K "scaled_neg" "scaled_neg" s_scaled_neg f fd) (D_ring_neg : FD P w K mg base ct 1 "ring_neg" 1 F_ring_neg) : FnOk P w K mg base CX0 2 f fd ["x"] (spF ct K 1 F_scaled_neg) :=
  fd_ok F sc_scaled_neg fun cdv A outer s H E hr => by
    have nd := sc_scaled_neg.nd
    have hu := hr.units
    exact (sss_one (ss_ret (sx_tup (sa_cons (sx_call D_ring_neg (hr.mono (by decide)) (sa_cons (sx_idx (sx_var 0) sx_int) sa_nil)) (sa_cons (sx_copy (sx_idx (sx_var 0) sx_int)) sa_nil)))))
abbrev s_ring_conjugate : Stmt := topS 8
theorem sc_ring_conjugate : FnScope ["x"] ["x"] (defScope s_ring_conjugate) := ⟨rfl, rfl, rfl, by decide +kernel, rfl, by decide +kernel, by decide +kernel⟩
def F_ring_conjugate : Fn := dDef (fun _ => false) 1 1 (dRet (dTup (dCons (dBind (dBin oIdx (fun ρ => look ρ 0) (fun _ => some (.int 0))) copyO) (dCons (dBind (dBin oIdx (fun ρ => look ρ 0) (fun _ => some (.int 3))) negO) (dCons (dBind (dBin oIdx (fun ρ => look ρ 0) (fun _ => some (.int 2))) negO) (dCons (dBind (dBin oIdx (fun ρ => look ρ 0) (fun _ => some (.int 1))) negO) dNil))))))
theorem ok_ring_conjugate {f : Addr} {fd : FuncData} (F : Fun K "ring_conjugate" "ring_conjugate" s_ring_conjugate f fd) : FnOk P w K mg base CX0 1 f fd ["x"] (spF ct K 1 F_ring_conjugate) :=
  fd_ok F sc_ring_conjugate fun cdv A outer s H E hr => by
    have nd := sc_ring_conjugate.nd
    have hu := hr.units
    exact (sss_one (ss_ret (sx_tup (sa_cons (sx_copy (sx_idx (sx_var 0) sx_int)) (sa_cons (sx_neg (sx_idx (sx_var 0) sx_int)) (sa_cons (sx_neg (sx_idx (sx_var 0) sx_int)) (sa_cons (sx_neg (sx_idx (sx_var 0) sx_int)) sa_nil)))))))
abbrev s_scaled_conjugate : Stmt := topS 24
theorem sc_scaled_conjugate : FnScope ["x"] ["x"] (defScope s_scaled_conjugate) := ⟨rfl, rfl, rfl, by decide +kernel, rfl, by decide +kernel, by decide +kernel⟩
def F_scaled_conjugate : Fn := dDef (fun _ => false) 1 1 (dRet (dTup (dCons (dCall [true] F_ring_conjugate (dCons (dBin oIdx (fun ρ => look ρ 0) (fun _ => some (.int 0))) dNil)) (dCons (dBind (dBin oIdx (fun ρ => look ρ 0) (fun _ => some (.int 1))) copyO) dNil))))
theorem ok_scaled_conjugate {f : Addr} {fd : FuncData} (F : Fun K "scaled_conjugate" "scaled_conjugate" s_scaled_conjugate f fd) (D_ring_conjugate : FD P w K mg base ct 1 "ring_conjugate" 1 F_ring_conjugate) : FnOk P w K mg base CX0 2 f fd ["x"] (spF ct K 1 F_scaled_conjugate) :=
  fd_ok F sc_scaled_conjugate fun cdv A outer s H E hr => by
    have nd := sc_scaled_conjugate.nd
    have hu := hr.units
    exact (sss_one (ss_ret (sx_tup (sa_cons (sx_call D_ring_conjugate (hr.mono (by decide)) (sa_cons (sx_idx (sx_var 0) sx_int) sa_nil)) (sa_cons (sx_copy (sx_idx (sx_var 0) sx_int)) sa_nil)))))
abbrev s_ring_turn : Stmt := topS 9
theorem sc_ring_turn : FnScope ["x", "steps", "a", "b", "c", "d", "turns"] ["x", "steps"] (defScope s_ring_turn) := ⟨rfl, rfl, rfl, by decide +kernel, rfl, by decide +kernel, by decide +kernel⟩
def F_ring_turn : Fn := dDef (fun _ => false) 2 7 (dSeq (dFz 0) (dSeq (dAsg (dBind (fun ρ => look ρ 0) copyO) (gTupO 4 (gsCons (gSet 2) (gsCons (gSet 3) (gsCons (gSet 4) (gsCons (gSet 5) gsNil))))))
  (dSeq (dAsg (dBin oMod (fun ρ => look ρ 1) (fun _ => some (.int 8))) (gSet 6))
  (dSeq (dIf (dTru oBool (dBin oGe (fun ρ => look ρ 6) (fun _ => some (.int 4))))
  (dAsg (dTup (dCons (dBind (fun ρ => look ρ 2) negO) (dCons (dBind (fun ρ => look ρ 3) negO) (dCons (dBind (fun ρ => look ρ 4) negO) (dCons (dBind (fun ρ => look ρ 5) negO) dNil))))) (gTupO 4 (gsCons (gSet 2) (gsCons (gSet 3) (gsCons (gSet 4) (gsCons (gSet 5) gsNil))))))
  dSkip)
  (dSeq (dIf (dTru oBool (dBin oGe (dBin oMod (fun ρ => look ρ 6) (fun _ => some (.int 4))) (fun _ => some (.int 2))))
  (dAsg (dTup (dCons (dBind (fun ρ => look ρ 4) negO) (dCons (dBind (fun ρ => look ρ 5) negO) (dCons (dBind (fun ρ => look ρ 2) copyO) (dCons (dBind (fun ρ => look ρ 3) copyO) dNil))))) (gTupO 4 (gsCons (gSet 2) (gsCons (gSet 3) (gsCons (gSet 4) (gsCons (gSet 5) gsNil))))))
  dSkip)
  (dSeq (dIf (dTru oBool (dBin oEq (dBin oMod (fun ρ => look ρ 6) (fun _ => some (.int 2))) (fun _ => some (.int 1))))
  (dAsg (dTup (dCons (dBind (fun ρ => look ρ 5) negO) (dCons (dBind (fun ρ => look ρ 2) copyO) (dCons (dBind (fun ρ => look ρ 3) copyO) (dCons (dBind (fun ρ => look ρ 4) copyO) dNil))))) (gTupO 4 (gsCons (gSet 2) (gsCons (gSet 3) (gsCons (gSet 4) (gsCons (gSet 5) gsNil))))))
  dSkip)
  (dRet (dTup (dCons (dBind (fun ρ => look ρ 2) copyO) (dCons (dBind (fun ρ => look ρ 3) copyO) (dCons (dBind (fun ρ => look ρ 4) copyO) (dCons (dBind (fun ρ => look ρ 5) copyO) dNil))))))))))))
theorem ok_ring_turn {f : Addr} {fd : FuncData} (F : Fun K "ring_turn" "ring_turn" s_ring_turn f fd) : FnOk P w K mg base CX0 1 f fd ["x", "steps"] (spF ct K 2 F_ring_turn) :=
  fd_ok F sc_ring_turn fun cdv A outer s H E hr => by
    have nd := sc_ring_turn.nd
    have hu := hr.units
    exact (sss_fz 0 (sss_cons (ss_asg (sx_copy (sx_var 0)) (sg_tup rfl (sgs_cons (sg_name 2 nd) (sgs_cons (sg_name 3 nd) (sgs_cons (sg_name 4 nd) (sgs_cons (sg_name 5 nd) sgs_nil))))))
  (sss_cons (ss_set 6 nd (sx_mod (sx_var 1) sx_int))
  (sss_cons (ss_if (st_ge (sx_var 6) sx_int)
  (sss_one (ss_asg (sx_tup (sa_cons (sx_neg (sx_var 2)) (sa_cons (sx_neg (sx_var 3)) (sa_cons (sx_neg (sx_var 4)) (sa_cons (sx_neg (sx_var 5)) sa_nil))))) (sg_tup rfl (sgs_cons (sg_name 2 nd) (sgs_cons (sg_name 3 nd) (sgs_cons (sg_name 4 nd) (sgs_cons (sg_name 5 nd) sgs_nil)))))))
  sss_nil)
  (sss_cons (ss_if (st_ge (sx_mod (sx_var 6) sx_int) sx_int)
  (sss_one (ss_asg (sx_tup (sa_cons (sx_neg (sx_var 4)) (sa_cons (sx_neg (sx_var 5)) (sa_cons (sx_copy (sx_var 2)) (sa_cons (sx_copy (sx_var 3)) sa_nil))))) (sg_tup rfl (sgs_cons (sg_name 2 nd) (sgs_cons (sg_name 3 nd) (sgs_cons (sg_name 4 nd) (sgs_cons (sg_name 5 nd) sgs_nil)))))))
  sss_nil)
  (sss_cons (ss_if (st_eq hu (sx_mod (sx_var 6) sx_int) sx_int)
  (sss_one (ss_asg (sx_tup (sa_cons (sx_neg (sx_var 5)) (sa_cons (sx_copy (sx_var 2)) (sa_cons (sx_copy (sx_var 3)) (sa_cons (sx_copy (sx_var 4)) sa_nil))))) (sg_tup rfl (sgs_cons (sg_name 2 nd) (sgs_cons (sg_name 3 nd) (sgs_cons (sg_name 4 nd) (sgs_cons (sg_name 5 nd) sgs_nil)))))))
  sss_nil)
  (sss_one (ss_ret (sx_tup (sa_cons (sx_copy (sx_var 2)) (sa_cons (sx_copy (sx_var 3)) (sa_cons (sx_copy (sx_var 4)) (sa_cons (sx_copy (sx_var 5)) sa_nil)))))))))))))
abbrev s_scaled_turn : Stmt := topS 25
theorem sc_scaled_turn : FnScope ["x", "steps"] ["x", "steps"] (defScope s_scaled_turn) := ⟨rfl, rfl, rfl, by decide +kernel, rfl, by decide +kernel, by decide +kernel⟩
def F_scaled_turn : Fn := dDef (fun _ => false) 2 2 (dRet (dTup (dCons (dCall [true, true] F_ring_turn (dCons (dBin oIdx (fun ρ => look ρ 0) (fun _ => some (.int 0))) (dCons (fun ρ => look ρ 1) dNil))) (dCons (dBind (dBin oIdx (fun ρ => look ρ 0) (fun _ => some (.int 1))) copyO) dNil))))
theorem ok_scaled_turn {f : Addr} {fd : FuncData} (F : Fun K "scaled_turn" "scaled_turn" s_scaled_turn f fd) (D_ring_turn : FD P w K mg base ct 1 "ring_turn" 2 F_ring_turn) : FnOk P w K mg base CX0 2 f fd ["x", "steps"] (spF ct K 2 F_scaled_turn) :=
  fd_ok F sc_scaled_turn fun cdv A outer s H E hr => by
    have nd := sc_scaled_turn.nd
    have hu := hr.units
    exact (sss_one (ss_ret (sx_tup (sa_cons (sx_call D_ring_turn (hr.mono (by decide)) (sa_cons (sx_idx (sx_var 0) sx_int) (sa_cons (sx_var 1) sa_nil))) (sa_cons (sx_copy (sx_idx (sx_var 0) sx_int)) sa_nil)))))
abbrev s_scaled_abs_square : Stmt := topS 26
theorem sc_scaled_abs_square : FnScope ["x"] ["x"] (defScope s_scaled_abs_square) := ⟨rfl, rfl, rfl, by decide +kernel, rfl, by decide +kernel, by decide +kernel⟩
def F_scaled_abs_square : Fn := dDef (fun _ => false) 1 1 (dRet (dCall [true, false] F_scaled_mul (dCons (fun ρ => look ρ 0) (dCons (dCall [true] F_scaled_conjugate (dCons (fun ρ => look ρ 0) dNil)) dNil))))
theorem ok_scaled_abs_square {f : Addr} {fd : FuncData} (F : Fun K "scaled_abs_square" "scaled_abs_square" s_scaled_abs_square f fd) (D_scaled_mul : FD P w K mg base ct 4 "scaled_mul" 2 F_scaled_mul) (D_scaled_conjugate : FD P w K mg base ct 2 "scaled_conjugate" 1 F_scaled_conjugate) : FnOk P w K mg base CX0 5 f fd ["x"] (spF ct K 1 F_scaled_abs_square) :=
  fd_ok F sc_scaled_abs_square fun cdv A outer s H E hr => by
    have nd := sc_scaled_abs_square.nd
    have hu := hr.units
    exact (sss_one (ss_ret (sx_call D_scaled_mul (hr.mono (by decide)) (sa_cons (sx_var 0) (sa_cons (sx_call D_scaled_conjugate (hr.mono (by decide)) (sa_cons (sx_var 0) sa_nil)) sa_nil)))))
abbrev s_law : Stmt := topS 39
theorem sc_law : FnScope ["script", "x", "y", "steps", "roots", "least", "other", "negative", "mirrored"] ["script"] (defScope s_law) := ⟨rfl, rfl, rfl, by decide +kernel, rfl, by decide +kernel, by decide +kernel⟩
def F_law : Fn := dDef (fun _ => false) 1 9 (dSeq (dAsg (dCall [true, false] F__law_scaled (dCons (fun ρ => look ρ 0) (dCons (fun _ => some (.int 0)) dNil))) (gSet 1))
  (dSeq (dAsg (dCall [true, false] F__law_scaled (dCons (fun ρ => look ρ 0) (dCons (fun _ => some (.int 6)) dNil))) (gSet 2))
  (dSeq (dAsg (dCall [true, false] F__law_cell (dCons (fun ρ => look ρ 0) (dCons (fun _ => some (.int 12)) dNil))) (gSet 3))
  (dSeq (dAsg (dBin oMax (dBin oIdx (fun ρ => look ρ 1) (fun _ => some (.int 1))) (dBin oIdx (fun ρ => look ρ 2) (fun _ => some (.int 1)))) (gSet 4))
  (dSeq (dAsg (dCall [true, true] F_lowest (dCons (dBin oIdx (fun ρ => look ρ 1) (fun _ => some (.int 0))) (dCons (dBin oIdx (fun ρ => look ρ 1) (fun _ => some (.int 1))) dNil))) (gSet 5))
  (dSeq (dAsg (dCall [true, true] F_lowest (dCons (dBin oIdx (fun ρ => look ρ 2) (fun _ => some (.int 0))) (dCons (dBin oIdx (fun ρ => look ρ 2) (fun _ => some (.int 1))) dNil))) (gSet 6))
  (dSeq (dAsg (dTup (dCons (dCall [true, false] F__law_turn (dCons (dBin oIdx (fun ρ => look ρ 2) (fun _ => some (.int 0))) (dCons (fun _ => some (.int 4)) dNil))) (dCons (dBind (dBin oIdx (fun ρ => look ρ 2) (fun _ => some (.int 1))) copyO) dNil))) (gSet 7))
  (dSeq (dAsg (dTup (dCons (dBind (dBin oIdx (dBin oIdx (fun ρ => look ρ 1) (fun _ => some (.int 0))) (fun _ => some (.int 0))) copyO) (dCons (dBind (dBin oIdx (dBin oIdx (fun ρ => look ρ 1) (fun _ => some (.int 0))) (fun _ => some (.int 3))) negO) (dCons (dBind (dBin oIdx (dBin oIdx (fun ρ => look ρ 1) (fun _ => some (.int 0))) (fun _ => some (.int 2))) negO) (dCons (dBind (dBin oIdx (dBin oIdx (fun ρ => look ρ 1) (fun _ => some (.int 0))) (fun _ => some (.int 1))) negO) dNil))))) (gSet 8))
  (dSeq (dIf (bNot (dTru oTru (dCall [false, false, true] F__law_is_number (dCons (dCall [true, true] F_scaled_add (dCons (fun ρ => look ρ 5) (dCons (fun ρ => look ρ 6) dNil))) (dCons (dCall [true, true] F__law_sum (dCons (fun ρ => look ρ 1) (dCons (fun ρ => look ρ 2) dNil))) (dCons (fun ρ => look ρ 4) dNil))))))
  (dRet (fun _ => some (.bl false)))
  dSkip)
  (dSeq (dIf (bNot (dTru oTru (dCall [false, false, true] F__law_is_number (dCons (dCall [true, true] F_scaled_sub (dCons (fun ρ => look ρ 5) (dCons (fun ρ => look ρ 6) dNil))) (dCons (dCall [true, true] F__law_sum (dCons (fun ρ => look ρ 1) (dCons (fun ρ => look ρ 7) dNil))) (dCons (fun ρ => look ρ 4) dNil))))))
  (dRet (fun _ => some (.bl false)))
  dSkip)
  (dSeq (dIf (bNot (dTru oTru (dCall [false, false, false] F__law_is_number (dCons (dCall [true, true] F_scaled_mul (dCons (fun ρ => look ρ 5) (dCons (fun ρ => look ρ 6) dNil))) (dCons (dCall [true, true] F__law_mul (dCons (dBin oIdx (fun ρ => look ρ 1) (fun _ => some (.int 0))) (dCons (dBin oIdx (fun ρ => look ρ 2) (fun _ => some (.int 0))) dNil))) (dCons (dBin oAdd (dBin oIdx (fun ρ => look ρ 1) (fun _ => some (.int 1))) (dBin oIdx (fun ρ => look ρ 2) (fun _ => some (.int 1)))) dNil))))))
  (dRet (fun _ => some (.bl false)))
  dSkip)
  (dSeq (dIf (bNot (dTru oTru (dCall [false, true, true] F__law_is_number (dCons (dCall [true] F_scaled_neg (dCons (fun ρ => look ρ 6) dNil)) (dCons (dBin oIdx (fun ρ => look ρ 7) (fun _ => some (.int 0))) (dCons (dBin oIdx (fun ρ => look ρ 2) (fun _ => some (.int 1))) dNil))))))
  (dRet (fun _ => some (.bl false)))
  dSkip)
  (dSeq (dIf (bNot (dTru oTru (dCall [false, true, true] F__law_is_number (dCons (dCall [true] F_scaled_conjugate (dCons (fun ρ => look ρ 5) dNil)) (dCons (fun ρ => look ρ 8) (dCons (dBin oIdx (fun ρ => look ρ 1) (fun _ => some (.int 1))) dNil))))))
  (dRet (fun _ => some (.bl false)))
  dSkip)
  (dSeq (dIf (bNot (dTru oTru (dCall [false, false, true] F__law_is_number (dCons (dCall [true, true] F_scaled_turn (dCons (fun ρ => look ρ 5) (dCons (fun ρ => look ρ 3) dNil))) (dCons (dCall [true, true] F__law_turn (dCons (dBin oIdx (fun ρ => look ρ 1) (fun _ => some (.int 0))) (dCons (fun ρ => look ρ 3) dNil))) (dCons (dBin oIdx (fun ρ => look ρ 1) (fun _ => some (.int 1))) dNil))))))
  (dRet (fun _ => some (.bl false)))
  dSkip)
  (dRet (dCall [false, false, false] F__law_is_number (dCons (dCall [true] F_scaled_abs_square (dCons (fun ρ => look ρ 5) dNil)) (dCons (dCall [true, true] F__law_mul (dCons (dBin oIdx (fun ρ => look ρ 1) (fun _ => some (.int 0))) (dCons (fun ρ => look ρ 8) dNil))) (dCons (dBin oMul (fun _ => some (.int 2)) (dBin oIdx (fun ρ => look ρ 1) (fun _ => some (.int 1)))) dNil)))))))))))))))))))
theorem ok_law {f : Addr} {fd : FuncData} (F : Fun K "law" "law" s_law f fd) (D__law_scaled : FD P w K mg base ct 3 "_law_scaled" 2 F__law_scaled) (D__law_cell : FD P w K mg base ct 1 "_law_cell" 2 F__law_cell) (D_lowest : FD P w K mg base ct 3 "lowest" 2 F_lowest) (D__law_turn : FD P w K mg base ct 1 "_law_turn" 2 F__law_turn) (D__law_is_number : FD P w K mg base ct 3 "_law_is_number" 3 F__law_is_number) (D_scaled_add : FD P w K mg base ct 4 "scaled_add" 2 F_scaled_add) (D__law_sum : FD P w K mg base ct 2 "_law_sum" 2 F__law_sum) (D_scaled_sub : FD P w K mg base ct 4 "scaled_sub" 2 F_scaled_sub) (D_scaled_mul : FD P w K mg base ct 4 "scaled_mul" 2 F_scaled_mul) (D__law_mul : FD P w K mg base ct 1 "_law_mul" 2 F__law_mul) (D_scaled_neg : FD P w K mg base ct 2 "scaled_neg" 1 F_scaled_neg) (D_scaled_conjugate : FD P w K mg base ct 2 "scaled_conjugate" 1 F_scaled_conjugate) (D_scaled_turn : FD P w K mg base ct 2 "scaled_turn" 2 F_scaled_turn) (D_scaled_abs_square : FD P w K mg base ct 5 "scaled_abs_square" 1 F_scaled_abs_square) (m_max : mg "max" = none) : FnOk P w K mg base CX0 6 f fd ["script"] (spF ct K 1 F_law) :=
  fd_ok F sc_law fun cdv A outer s H E hr => by
    have nd := sc_law.nd
    have hu := hr.units
    exact (sss_cons (ss_set 1 nd (sx_call D__law_scaled (hr.mono (by decide)) (sa_cons (sx_var 0) (sa_cons sx_int sa_nil))))
  (sss_cons (ss_set 2 nd (sx_call D__law_scaled (hr.mono (by decide)) (sa_cons (sx_var 0) (sa_cons sx_int sa_nil))))
  (sss_cons (ss_set 3 nd (sx_call D__law_cell (hr.mono (by decide)) (sa_cons (sx_var 0) (sa_cons sx_int sa_nil))))
  (sss_cons (ss_set 4 nd (sx_max rfl m_max (sx_idx (sx_var 1) sx_int) (sx_idx (sx_var 2) sx_int)))
  (sss_cons (ss_set 5 nd (sx_call D_lowest (hr.mono (by decide)) (sa_cons (sx_idx (sx_var 1) sx_int) (sa_cons (sx_idx (sx_var 1) sx_int) sa_nil))))
  (sss_cons (ss_set 6 nd (sx_call D_lowest (hr.mono (by decide)) (sa_cons (sx_idx (sx_var 2) sx_int) (sa_cons (sx_idx (sx_var 2) sx_int) sa_nil))))
  (sss_cons (ss_set 7 nd (sx_tup (sa_cons (sx_call D__law_turn (hr.mono (by decide)) (sa_cons (sx_idx (sx_var 2) sx_int) (sa_cons sx_int sa_nil))) (sa_cons (sx_copy (sx_idx (sx_var 2) sx_int)) sa_nil))))
  (sss_cons (ss_set 8 nd (sx_tup (sa_cons (sx_copy (sx_idx (sx_idx (sx_var 1) sx_int) sx_int)) (sa_cons (sx_neg (sx_idx (sx_idx (sx_var 1) sx_int) sx_int)) (sa_cons (sx_neg (sx_idx (sx_idx (sx_var 1) sx_int) sx_int)) (sa_cons (sx_neg (sx_idx (sx_idx (sx_var 1) sx_int) sx_int)) sa_nil))))))
  (sss_cons (ss_if (st_not (st_tru (sx_call D__law_is_number (hr.mono (by decide)) (sa_cons (sx_call D_scaled_add (hr.mono (by decide)) (sa_cons (sx_var 5) (sa_cons (sx_var 6) sa_nil))) (sa_cons (sx_call D__law_sum (hr.mono (by decide)) (sa_cons (sx_var 1) (sa_cons (sx_var 2) sa_nil))) (sa_cons (sx_var 4) sa_nil))))))
  (sss_one (ss_ret sx_bl))
  sss_nil)
  (sss_cons (ss_if (st_not (st_tru (sx_call D__law_is_number (hr.mono (by decide)) (sa_cons (sx_call D_scaled_sub (hr.mono (by decide)) (sa_cons (sx_var 5) (sa_cons (sx_var 6) sa_nil))) (sa_cons (sx_call D__law_sum (hr.mono (by decide)) (sa_cons (sx_var 1) (sa_cons (sx_var 7) sa_nil))) (sa_cons (sx_var 4) sa_nil))))))
  (sss_one (ss_ret sx_bl))
  sss_nil)
  (sss_cons (ss_if (st_not (st_tru (sx_call D__law_is_number (hr.mono (by decide)) (sa_cons (sx_call D_scaled_mul (hr.mono (by decide)) (sa_cons (sx_var 5) (sa_cons (sx_var 6) sa_nil))) (sa_cons (sx_call D__law_mul (hr.mono (by decide)) (sa_cons (sx_idx (sx_var 1) sx_int) (sa_cons (sx_idx (sx_var 2) sx_int) sa_nil))) (sa_cons (sx_add (sx_idx (sx_var 1) sx_int) (sx_idx (sx_var 2) sx_int)) sa_nil))))))
  (sss_one (ss_ret sx_bl))
  sss_nil)
  (sss_cons (ss_if (st_not (st_tru (sx_call D__law_is_number (hr.mono (by decide)) (sa_cons (sx_call D_scaled_neg (hr.mono (by decide)) (sa_cons (sx_var 6) sa_nil)) (sa_cons (sx_idx (sx_var 7) sx_int) (sa_cons (sx_idx (sx_var 2) sx_int) sa_nil))))))
  (sss_one (ss_ret sx_bl))
  sss_nil)
  (sss_cons (ss_if (st_not (st_tru (sx_call D__law_is_number (hr.mono (by decide)) (sa_cons (sx_call D_scaled_conjugate (hr.mono (by decide)) (sa_cons (sx_var 5) sa_nil)) (sa_cons (sx_var 8) (sa_cons (sx_idx (sx_var 1) sx_int) sa_nil))))))
  (sss_one (ss_ret sx_bl))
  sss_nil)
  (sss_cons (ss_if (st_not (st_tru (sx_call D__law_is_number (hr.mono (by decide)) (sa_cons (sx_call D_scaled_turn (hr.mono (by decide)) (sa_cons (sx_var 5) (sa_cons (sx_var 3) sa_nil))) (sa_cons (sx_call D__law_turn (hr.mono (by decide)) (sa_cons (sx_idx (sx_var 1) sx_int) (sa_cons (sx_var 3) sa_nil))) (sa_cons (sx_idx (sx_var 1) sx_int) sa_nil))))))
  (sss_one (ss_ret sx_bl))
  sss_nil)
  (sss_one (ss_ret (sx_call D__law_is_number (hr.mono (by decide)) (sa_cons (sx_call D_scaled_abs_square (hr.mono (by decide)) (sa_cons (sx_var 5) sa_nil)) (sa_cons (sx_call D__law_mul (hr.mono (by decide)) (sa_cons (sx_idx (sx_var 1) sx_int) (sa_cons (sx_var 8) sa_nil))) (sa_cons (sx_mul sx_int (sx_idx (sx_var 1) sx_int)) sa_nil))))))))))))))))))))
end
theorem all_mk {l : PySem.W.OpenLaw} {w : World} {K : PySem.W.Frag} {h : Heap} {mg : Str → Option Value} {fa : Addr} (X : K.In h) (G : h.Ns mainGlobals mg) (hfa : mg "law" = some (.ref fa))
    {f0 : Addr} {od0 an0 : Option Addr} {sl0 : Array (Option Value)} {oc0 kV0 dc0 pm0 cd0 ct0 : Value}
    (a0 : PySem.W.nsIn K mainGlobals "_law_cell" = some (some (.ref f0))) (l0 : K.lookup f0 = some ⟨oc0, od0, .func (PySem.W.fnOf "_law_cell" "_law_cell" (defArgs s__law_cell) (defBody s__law_cell) (defScope s__law_cell) .none kV0 dc0 pm0 an0 cd0 ct0), sl0⟩) (c0 : PySem.W.codeIn K cd0 "_law_cell" = true) (k0 : PySem.W.keepIn K (.ref f0) = true)
    {f1 : Addr} {od1 an1 : Option Addr} {sl1 : Array (Option Value)} {oc1 kV1 dc1 pm1 cd1 ct1 : Value}
    (a1 : PySem.W.nsIn K mainGlobals "_law_part" = some (some (.ref f1))) (l1 : K.lookup f1 = some ⟨oc1, od1, .func (PySem.W.fnOf "_law_part" "_law_part" (defArgs s__law_part) (defBody s__law_part) (defScope s__law_part) .none kV1 dc1 pm1 an1 cd1 ct1), sl1⟩) (c1 : PySem.W.codeIn K cd1 "_law_part" = true) (k1 : PySem.W.keepIn K (.ref f1) = true)
    {f2 : Addr} {od2 an2 : Option Addr} {sl2 : Array (Option Value)} {oc2 kV2 dc2 pm2 cd2 ct2 : Value}
    (a2 : PySem.W.nsIn K mainGlobals "_law_ring" = some (some (.ref f2))) (l2 : K.lookup f2 = some ⟨oc2, od2, .func (PySem.W.fnOf "_law_ring" "_law_ring" (defArgs s__law_ring) (defBody s__law_ring) (defScope s__law_ring) .none kV2 dc2 pm2 an2 cd2 ct2), sl2⟩) (c2 : PySem.W.codeIn K cd2 "_law_ring" = true) (k2 : PySem.W.keepIn K (.ref f2) = true)
    {f3 : Addr} {od3 an3 : Option Addr} {sl3 : Array (Option Value)} {oc3 kV3 dc3 pm3 cd3 ct3 : Value}
    (a3 : PySem.W.nsIn K mainGlobals "_law_scaled" = some (some (.ref f3))) (l3 : K.lookup f3 = some ⟨oc3, od3, .func (PySem.W.fnOf "_law_scaled" "_law_scaled" (defArgs s__law_scaled) (defBody s__law_scaled) (defScope s__law_scaled) .none kV3 dc3 pm3 an3 cd3 ct3), sl3⟩) (c3 : PySem.W.codeIn K cd3 "_law_scaled" = true) (k3 : PySem.W.keepIn K (.ref f3) = true)
    {f4 : Addr} {od4 an4 : Option Addr} {sl4 : Array (Option Value)} {oc4 kV4 dc4 pm4 cd4 ct4 : Value}
    (a4 : PySem.W.nsIn K mainGlobals "ring_times_root" = some (some (.ref f4))) (l4 : K.lookup f4 = some ⟨oc4, od4, .func (PySem.W.fnOf "ring_times_root" "ring_times_root" (defArgs s_ring_times_root) (defBody s_ring_times_root) (defScope s_ring_times_root) .none kV4 dc4 pm4 an4 cd4 ct4), sl4⟩) (c4 : PySem.W.codeIn K cd4 "ring_times_root" = true) (k4 : PySem.W.keepIn K (.ref f4) = true)
    {f5 : Addr} {od5 an5 : Option Addr} {sl5 : Array (Option Value)} {oc5 kV5 dc5 pm5 cd5 ct5 : Value}
    (a5 : PySem.W.nsIn K mainGlobals "_times_roots" = some (some (.ref f5))) (l5 : K.lookup f5 = some ⟨oc5, od5, .func (PySem.W.fnOf "_times_roots" "_times_roots" (defArgs s__times_roots) (defBody s__times_roots) (defScope s__times_roots) .none kV5 dc5 pm5 an5 cd5 ct5), sl5⟩) (c5 : PySem.W.codeIn K cd5 "_times_roots" = true) (k5 : PySem.W.keepIn K (.ref f5) = true)
    {f6 : Addr} {od6 an6 : Option Addr} {sl6 : Array (Option Value)} {oc6 kV6 dc6 pm6 cd6 ct6 : Value}
    (a6 : PySem.W.nsIn K mainGlobals "divisible_by_root" = some (some (.ref f6))) (l6 : K.lookup f6 = some ⟨oc6, od6, .func (PySem.W.fnOf "divisible_by_root" "divisible_by_root" (defArgs s_divisible_by_root) (defBody s_divisible_by_root) (defScope s_divisible_by_root) .none kV6 dc6 pm6 an6 cd6 ct6), sl6⟩) (c6 : PySem.W.codeIn K cd6 "divisible_by_root" = true) (k6 : PySem.W.keepIn K (.ref f6) = true)
    {f7 : Addr} {od7 an7 : Option Addr} {sl7 : Array (Option Value)} {oc7 kV7 dc7 pm7 cd7 ct7 : Value}
    (a7 : PySem.W.nsIn K mainGlobals "_twos" = some (some (.ref f7))) (l7 : K.lookup f7 = some ⟨oc7, od7, .func (PySem.W.fnOf "_twos" "_twos" (defArgs s__twos) (defBody s__twos) (defScope s__twos) .none kV7 dc7 pm7 an7 cd7 ct7), sl7⟩) (c7 : PySem.W.codeIn K cd7 "_twos" = true) (k7 : PySem.W.keepIn K (.ref f7) = true)
    {f8 : Addr} {od8 an8 : Option Addr} {sl8 : Array (Option Value)} {oc8 kV8 dc8 pm8 cd8 ct8 : Value}
    (a8 : PySem.W.nsIn K mainGlobals "_shifted_right" = some (some (.ref f8))) (l8 : K.lookup f8 = some ⟨oc8, od8, .func (PySem.W.fnOf "_shifted_right" "_shifted_right" (defArgs s__shifted_right) (defBody s__shifted_right) (defScope s__shifted_right) .none kV8 dc8 pm8 an8 cd8 ct8), sl8⟩) (c8 : PySem.W.codeIn K cd8 "_shifted_right" = true) (k8 : PySem.W.keepIn K (.ref f8) = true)
    {f9 : Addr} {od9 an9 : Option Addr} {sl9 : Array (Option Value)} {oc9 kV9 dc9 pm9 cd9 ct9 : Value}
    (a9 : PySem.W.nsIn K mainGlobals "ring_over_root" = some (some (.ref f9))) (l9 : K.lookup f9 = some ⟨oc9, od9, .func (PySem.W.fnOf "ring_over_root" "ring_over_root" (defArgs s_ring_over_root) (defBody s_ring_over_root) (defScope s_ring_over_root) .none kV9 dc9 pm9 an9 cd9 ct9), sl9⟩) (c9 : PySem.W.codeIn K cd9 "ring_over_root" = true) (k9 : PySem.W.keepIn K (.ref f9) = true)
    {f10 : Addr} {od10 an10 : Option Addr} {sl10 : Array (Option Value)} {oc10 kV10 dc10 pm10 cd10 ct10 : Value}
    (a10 : PySem.W.nsIn K mainGlobals "lowest" = some (some (.ref f10))) (l10 : K.lookup f10 = some ⟨oc10, od10, .func (PySem.W.fnOf "lowest" "lowest" (defArgs s_lowest) (defBody s_lowest) (defScope s_lowest) .none kV10 dc10 pm10 an10 cd10 ct10), sl10⟩) (c10 : PySem.W.codeIn K cd10 "lowest" = true) (k10 : PySem.W.keepIn K (.ref f10) = true)
    {f11 : Addr} {od11 an11 : Option Addr} {sl11 : Array (Option Value)} {oc11 kV11 dc11 pm11 cd11 ct11 : Value}
    (a11 : PySem.W.nsIn K mainGlobals "_law_turn" = some (some (.ref f11))) (l11 : K.lookup f11 = some ⟨oc11, od11, .func (PySem.W.fnOf "_law_turn" "_law_turn" (defArgs s__law_turn) (defBody s__law_turn) (defScope s__law_turn) .none kV11 dc11 pm11 an11 cd11 ct11), sl11⟩) (c11 : PySem.W.codeIn K cd11 "_law_turn" = true) (k11 : PySem.W.keepIn K (.ref f11) = true)
    {f12 : Addr} {od12 an12 : Option Addr} {sl12 : Array (Option Value)} {oc12 kV12 dc12 pm12 cd12 ct12 : Value}
    (a12 : PySem.W.nsIn K mainGlobals "_law_is_integer" = some (some (.ref f12))) (l12 : K.lookup f12 = some ⟨oc12, od12, .func (PySem.W.fnOf "_law_is_integer" "_law_is_integer" (defArgs s__law_is_integer) (defBody s__law_is_integer) (defScope s__law_is_integer) .none kV12 dc12 pm12 an12 cd12 ct12), sl12⟩) (c12 : PySem.W.codeIn K cd12 "_law_is_integer" = true) (k12 : PySem.W.keepIn K (.ref f12) = true)
    {f13 : Addr} {od13 an13 : Option Addr} {sl13 : Array (Option Value)} {oc13 kV13 dc13 pm13 cd13 ct13 : Value}
    (a13 : PySem.W.nsIn K mainGlobals "_law_is_ring" = some (some (.ref f13))) (l13 : K.lookup f13 = some ⟨oc13, od13, .func (PySem.W.fnOf "_law_is_ring" "_law_is_ring" (defArgs s__law_is_ring) (defBody s__law_is_ring) (defScope s__law_is_ring) .none kV13 dc13 pm13 an13 cd13 ct13), sl13⟩) (c13 : PySem.W.codeIn K cd13 "_law_is_ring" = true) (k13 : PySem.W.keepIn K (.ref f13) = true)
    {f14 : Addr} {od14 an14 : Option Addr} {sl14 : Array (Option Value)} {oc14 kV14 dc14 pm14 cd14 ct14 : Value}
    (a14 : PySem.W.nsIn K mainGlobals "_law_times_root" = some (some (.ref f14))) (l14 : K.lookup f14 = some ⟨oc14, od14, .func (PySem.W.fnOf "_law_times_root" "_law_times_root" (defArgs s__law_times_root) (defBody s__law_times_root) (defScope s__law_times_root) .none kV14 dc14 pm14 an14 cd14 ct14), sl14⟩) (c14 : PySem.W.codeIn K cd14 "_law_times_root" = true) (k14 : PySem.W.keepIn K (.ref f14) = true)
    {f15 : Addr} {od15 an15 : Option Addr} {sl15 : Array (Option Value)} {oc15 kV15 dc15 pm15 cd15 ct15 : Value}
    (a15 : PySem.W.nsIn K mainGlobals "_law_is_number" = some (some (.ref f15))) (l15 : K.lookup f15 = some ⟨oc15, od15, .func (PySem.W.fnOf "_law_is_number" "_law_is_number" (defArgs s__law_is_number) (defBody s__law_is_number) (defScope s__law_is_number) .none kV15 dc15 pm15 an15 cd15 ct15), sl15⟩) (c15 : PySem.W.codeIn K cd15 "_law_is_number" = true) (k15 : PySem.W.keepIn K (.ref f15) = true)
    {f16 : Addr} {od16 an16 : Option Addr} {sl16 : Array (Option Value)} {oc16 kV16 dc16 pm16 cd16 ct16 : Value}
    (a16 : PySem.W.nsIn K mainGlobals "ring_add" = some (some (.ref f16))) (l16 : K.lookup f16 = some ⟨oc16, od16, .func (PySem.W.fnOf "ring_add" "ring_add" (defArgs s_ring_add) (defBody s_ring_add) (defScope s_ring_add) .none kV16 dc16 pm16 an16 cd16 ct16), sl16⟩) (c16 : PySem.W.codeIn K cd16 "ring_add" = true) (k16 : PySem.W.keepIn K (.ref f16) = true)
    {f17 : Addr} {od17 an17 : Option Addr} {sl17 : Array (Option Value)} {oc17 kV17 dc17 pm17 cd17 ct17 : Value}
    (a17 : PySem.W.nsIn K mainGlobals "_raised" = some (some (.ref f17))) (l17 : K.lookup f17 = some ⟨oc17, od17, .func (PySem.W.fnOf "_raised" "_raised" (defArgs s__raised) (defBody s__raised) (defScope s__raised) .none kV17 dc17 pm17 an17 cd17 ct17), sl17⟩) (c17 : PySem.W.codeIn K cd17 "_raised" = true) (k17 : PySem.W.keepIn K (.ref f17) = true)
    {f18 : Addr} {od18 an18 : Option Addr} {sl18 : Array (Option Value)} {oc18 kV18 dc18 pm18 cd18 ct18 : Value}
    (a18 : PySem.W.nsIn K mainGlobals "scaled_add" = some (some (.ref f18))) (l18 : K.lookup f18 = some ⟨oc18, od18, .func (PySem.W.fnOf "scaled_add" "scaled_add" (defArgs s_scaled_add) (defBody s_scaled_add) (defScope s_scaled_add) .none kV18 dc18 pm18 an18 cd18 ct18), sl18⟩) (c18 : PySem.W.codeIn K cd18 "scaled_add" = true) (k18 : PySem.W.keepIn K (.ref f18) = true)
    {f19 : Addr} {od19 an19 : Option Addr} {sl19 : Array (Option Value)} {oc19 kV19 dc19 pm19 cd19 ct19 : Value}
    (a19 : PySem.W.nsIn K mainGlobals "_law_sum" = some (some (.ref f19))) (l19 : K.lookup f19 = some ⟨oc19, od19, .func (PySem.W.fnOf "_law_sum" "_law_sum" (defArgs s__law_sum) (defBody s__law_sum) (defScope s__law_sum) .none kV19 dc19 pm19 an19 cd19 ct19), sl19⟩) (c19 : PySem.W.codeIn K cd19 "_law_sum" = true) (k19 : PySem.W.keepIn K (.ref f19) = true)
    {f20 : Addr} {od20 an20 : Option Addr} {sl20 : Array (Option Value)} {oc20 kV20 dc20 pm20 cd20 ct20 : Value}
    (a20 : PySem.W.nsIn K mainGlobals "ring_sub" = some (some (.ref f20))) (l20 : K.lookup f20 = some ⟨oc20, od20, .func (PySem.W.fnOf "ring_sub" "ring_sub" (defArgs s_ring_sub) (defBody s_ring_sub) (defScope s_ring_sub) .none kV20 dc20 pm20 an20 cd20 ct20), sl20⟩) (c20 : PySem.W.codeIn K cd20 "ring_sub" = true) (k20 : PySem.W.keepIn K (.ref f20) = true)
    {f21 : Addr} {od21 an21 : Option Addr} {sl21 : Array (Option Value)} {oc21 kV21 dc21 pm21 cd21 ct21 : Value}
    (a21 : PySem.W.nsIn K mainGlobals "scaled_sub" = some (some (.ref f21))) (l21 : K.lookup f21 = some ⟨oc21, od21, .func (PySem.W.fnOf "scaled_sub" "scaled_sub" (defArgs s_scaled_sub) (defBody s_scaled_sub) (defScope s_scaled_sub) .none kV21 dc21 pm21 an21 cd21 ct21), sl21⟩) (c21 : PySem.W.codeIn K cd21 "scaled_sub" = true) (k21 : PySem.W.keepIn K (.ref f21) = true)
    {f22 : Addr} {od22 an22 : Option Addr} {sl22 : Array (Option Value)} {oc22 kV22 dc22 pm22 cd22 ct22 : Value}
    (a22 : PySem.W.nsIn K mainGlobals "ring_mul" = some (some (.ref f22))) (l22 : K.lookup f22 = some ⟨oc22, od22, .func (PySem.W.fnOf "ring_mul" "ring_mul" (defArgs s_ring_mul) (defBody s_ring_mul) (defScope s_ring_mul) .none kV22 dc22 pm22 an22 cd22 ct22), sl22⟩) (c22 : PySem.W.codeIn K cd22 "ring_mul" = true) (k22 : PySem.W.keepIn K (.ref f22) = true)
    {f23 : Addr} {od23 an23 : Option Addr} {sl23 : Array (Option Value)} {oc23 kV23 dc23 pm23 cd23 ct23 : Value}
    (a23 : PySem.W.nsIn K mainGlobals "scaled_mul" = some (some (.ref f23))) (l23 : K.lookup f23 = some ⟨oc23, od23, .func (PySem.W.fnOf "scaled_mul" "scaled_mul" (defArgs s_scaled_mul) (defBody s_scaled_mul) (defScope s_scaled_mul) .none kV23 dc23 pm23 an23 cd23 ct23), sl23⟩) (c23 : PySem.W.codeIn K cd23 "scaled_mul" = true) (k23 : PySem.W.keepIn K (.ref f23) = true)
    {f24 : Addr} {od24 an24 : Option Addr} {sl24 : Array (Option Value)} {oc24 kV24 dc24 pm24 cd24 ct24 : Value}
    (a24 : PySem.W.nsIn K mainGlobals "_law_mul" = some (some (.ref f24))) (l24 : K.lookup f24 = some ⟨oc24, od24, .func (PySem.W.fnOf "_law_mul" "_law_mul" (defArgs s__law_mul) (defBody s__law_mul) (defScope s__law_mul) .none kV24 dc24 pm24 an24 cd24 ct24), sl24⟩) (c24 : PySem.W.codeIn K cd24 "_law_mul" = true) (k24 : PySem.W.keepIn K (.ref f24) = true)
    {f25 : Addr} {od25 an25 : Option Addr} {sl25 : Array (Option Value)} {oc25 kV25 dc25 pm25 cd25 ct25 : Value}
    (a25 : PySem.W.nsIn K mainGlobals "ring_neg" = some (some (.ref f25))) (l25 : K.lookup f25 = some ⟨oc25, od25, .func (PySem.W.fnOf "ring_neg" "ring_neg" (defArgs s_ring_neg) (defBody s_ring_neg) (defScope s_ring_neg) .none kV25 dc25 pm25 an25 cd25 ct25), sl25⟩) (c25 : PySem.W.codeIn K cd25 "ring_neg" = true) (k25 : PySem.W.keepIn K (.ref f25) = true)
    {f26 : Addr} {od26 an26 : Option Addr} {sl26 : Array (Option Value)} {oc26 kV26 dc26 pm26 cd26 ct26 : Value}
    (a26 : PySem.W.nsIn K mainGlobals "scaled_neg" = some (some (.ref f26))) (l26 : K.lookup f26 = some ⟨oc26, od26, .func (PySem.W.fnOf "scaled_neg" "scaled_neg" (defArgs s_scaled_neg) (defBody s_scaled_neg) (defScope s_scaled_neg) .none kV26 dc26 pm26 an26 cd26 ct26), sl26⟩) (c26 : PySem.W.codeIn K cd26 "scaled_neg" = true) (k26 : PySem.W.keepIn K (.ref f26) = true)
    {f27 : Addr} {od27 an27 : Option Addr} {sl27 : Array (Option Value)} {oc27 kV27 dc27 pm27 cd27 ct27 : Value}
    (a27 : PySem.W.nsIn K mainGlobals "ring_conjugate" = some (some (.ref f27))) (l27 : K.lookup f27 = some ⟨oc27, od27, .func (PySem.W.fnOf "ring_conjugate" "ring_conjugate" (defArgs s_ring_conjugate) (defBody s_ring_conjugate) (defScope s_ring_conjugate) .none kV27 dc27 pm27 an27 cd27 ct27), sl27⟩) (c27 : PySem.W.codeIn K cd27 "ring_conjugate" = true) (k27 : PySem.W.keepIn K (.ref f27) = true)
    {f28 : Addr} {od28 an28 : Option Addr} {sl28 : Array (Option Value)} {oc28 kV28 dc28 pm28 cd28 ct28 : Value}
    (a28 : PySem.W.nsIn K mainGlobals "scaled_conjugate" = some (some (.ref f28))) (l28 : K.lookup f28 = some ⟨oc28, od28, .func (PySem.W.fnOf "scaled_conjugate" "scaled_conjugate" (defArgs s_scaled_conjugate) (defBody s_scaled_conjugate) (defScope s_scaled_conjugate) .none kV28 dc28 pm28 an28 cd28 ct28), sl28⟩) (c28 : PySem.W.codeIn K cd28 "scaled_conjugate" = true) (k28 : PySem.W.keepIn K (.ref f28) = true)
    {f29 : Addr} {od29 an29 : Option Addr} {sl29 : Array (Option Value)} {oc29 kV29 dc29 pm29 cd29 ct29 : Value}
    (a29 : PySem.W.nsIn K mainGlobals "ring_turn" = some (some (.ref f29))) (l29 : K.lookup f29 = some ⟨oc29, od29, .func (PySem.W.fnOf "ring_turn" "ring_turn" (defArgs s_ring_turn) (defBody s_ring_turn) (defScope s_ring_turn) .none kV29 dc29 pm29 an29 cd29 ct29), sl29⟩) (c29 : PySem.W.codeIn K cd29 "ring_turn" = true) (k29 : PySem.W.keepIn K (.ref f29) = true)
    {f30 : Addr} {od30 an30 : Option Addr} {sl30 : Array (Option Value)} {oc30 kV30 dc30 pm30 cd30 ct30 : Value}
    (a30 : PySem.W.nsIn K mainGlobals "scaled_turn" = some (some (.ref f30))) (l30 : K.lookup f30 = some ⟨oc30, od30, .func (PySem.W.fnOf "scaled_turn" "scaled_turn" (defArgs s_scaled_turn) (defBody s_scaled_turn) (defScope s_scaled_turn) .none kV30 dc30 pm30 an30 cd30 ct30), sl30⟩) (c30 : PySem.W.codeIn K cd30 "scaled_turn" = true) (k30 : PySem.W.keepIn K (.ref f30) = true)
    {f31 : Addr} {od31 an31 : Option Addr} {sl31 : Array (Option Value)} {oc31 kV31 dc31 pm31 cd31 ct31 : Value}
    (a31 : PySem.W.nsIn K mainGlobals "scaled_abs_square" = some (some (.ref f31))) (l31 : K.lookup f31 = some ⟨oc31, od31, .func (PySem.W.fnOf "scaled_abs_square" "scaled_abs_square" (defArgs s_scaled_abs_square) (defBody s_scaled_abs_square) (defScope s_scaled_abs_square) .none kV31 dc31 pm31 an31 cd31 ct31), sl31⟩) (c31 : PySem.W.codeIn K cd31 "scaled_abs_square" = true) (k31 : PySem.W.keepIn K (.ref f31) = true)
    {f32 : Addr} {od32 an32 : Option Addr} {sl32 : Array (Option Value)} {oc32 kV32 dc32 pm32 cd32 ct32 : Value}
    (a32 : PySem.W.nsIn K mainGlobals "law" = some (some (.ref f32))) (l32 : K.lookup f32 = some ⟨oc32, od32, .func (PySem.W.fnOf "law" "law" (defArgs s_law) (defBody s_law) (defScope s_law) .none kV32 dc32 pm32 an32 cd32 ct32), sl32⟩) (c32 : PySem.W.codeIn K cd32 "law" = true) (k32 : PySem.W.keepIn K (.ref f32) = true)
    (z_len : PySem.W.nsIn K mainGlobals "len" = some none)
    (z_int : PySem.W.nsIn K mainGlobals "int" = some none)
    (z_abs : PySem.W.nsIn K mainGlobals "abs" = some none)
    (z_range : PySem.W.nsIn K mainGlobals "range" = some none)
    (z_min : PySem.W.nsIn K mainGlobals "min" = some none)
    (z_isinstance : PySem.W.nsIn K mainGlobals "isinstance" = some none)
    (z_bool : PySem.W.nsIn K mainGlobals "bool" = some none)
    (z_tuple : PySem.W.nsIn K mainGlobals "tuple" = some none)
    (z_max : PySem.W.nsIn K mainGlobals "max" = some none)
    {t_ZERO_2 : Tok} {t_ZERO_3 : Tok} {t_ZERO_4 : Tok} {t_ZERO_5 : Tok} {q_ZERO_1 : Addr} {d_ZERO_1 : Option Addr} {n_ZERO_1 : Nat} {s_ZERO_1 : Array (Option Value)} {t_ZERO_6 : Tok} {q_ZERO_0 : Addr} {d_ZERO_0 : Option Addr} {n_ZERO_0 : Nat} {s_ZERO_0 : Array (Option Value)}
    (u_ZERO : PySem.W.nsIn K mainGlobals "ZERO" = some (some (Value.ref q_ZERO_0))) (k_ZERO_1 : K.lookup q_ZERO_1 = some ⟨.type "tuple", d_ZERO_1, .seq #[(Value.int (0) t_ZERO_2), (Value.int (0) t_ZERO_3), (Value.int (0) t_ZERO_4), (Value.int (0) t_ZERO_5)] n_ZERO_1, s_ZERO_1⟩) (k_ZERO_0 : K.lookup q_ZERO_0 = some ⟨.type "tuple", d_ZERO_0, .seq #[(Value.ref q_ZERO_1), (Value.int (0) t_ZERO_6)] n_ZERO_0, s_ZERO_0⟩)
    (hmain : ∀ ns : List Int, ns.length ≤ 63 → (∀ z ∈ ns, Builtin.Int.intBits z ≤ 1048576) → ∃ fin, F_law [O.lst false (ns.map O.int)] = some (.bl true, fin))
    : ∃ fd : FuncData, (∀ (s : Shared) (v : Value), BindsTo s fd ⟨[v], []⟩ [("script", v)]) ∧ ∀ base : Heap, K.In base → base.Ns mainGlobals mg → FnOk l.prog w K mg base CX0 6 fa fd ["script"] (spLaw K) := by
  have e := hfa.symm.trans (PySem.W.mg_of X G a32)
  cases e
  have U__law_cell := fun_mk (st := s__law_cell) l0 c0 k0
  have U__law_part := fun_mk (st := s__law_part) l1 c1 k1
  have U__law_ring := fun_mk (st := s__law_ring) l2 c2 k2
  have U__law_scaled := fun_mk (st := s__law_scaled) l3 c3 k3
  have U_ring_times_root := fun_mk (st := s_ring_times_root) l4 c4 k4
  have U__times_roots := fun_mk (st := s__times_roots) l5 c5 k5
  have U_divisible_by_root := fun_mk (st := s_divisible_by_root) l6 c6 k6
  have U__twos := fun_mk (st := s__twos) l7 c7 k7
  have U__shifted_right := fun_mk (st := s__shifted_right) l8 c8 k8
  have U_ring_over_root := fun_mk (st := s_ring_over_root) l9 c9 k9
  have U_lowest := fun_mk (st := s_lowest) l10 c10 k10
  have U__law_turn := fun_mk (st := s__law_turn) l11 c11 k11
  have U__law_is_integer := fun_mk (st := s__law_is_integer) l12 c12 k12
  have U__law_is_ring := fun_mk (st := s__law_is_ring) l13 c13 k13
  have U__law_times_root := fun_mk (st := s__law_times_root) l14 c14 k14
  have U__law_is_number := fun_mk (st := s__law_is_number) l15 c15 k15
  have U_ring_add := fun_mk (st := s_ring_add) l16 c16 k16
  have U__raised := fun_mk (st := s__raised) l17 c17 k17
  have U_scaled_add := fun_mk (st := s_scaled_add) l18 c18 k18
  have U__law_sum := fun_mk (st := s__law_sum) l19 c19 k19
  have U_ring_sub := fun_mk (st := s_ring_sub) l20 c20 k20
  have U_scaled_sub := fun_mk (st := s_scaled_sub) l21 c21 k21
  have U_ring_mul := fun_mk (st := s_ring_mul) l22 c22 k22
  have U_scaled_mul := fun_mk (st := s_scaled_mul) l23 c23 k23
  have U__law_mul := fun_mk (st := s__law_mul) l24 c24 k24
  have U_ring_neg := fun_mk (st := s_ring_neg) l25 c25 k25
  have U_scaled_neg := fun_mk (st := s_scaled_neg) l26 c26 k26
  have U_ring_conjugate := fun_mk (st := s_ring_conjugate) l27 c27 k27
  have U_scaled_conjugate := fun_mk (st := s_scaled_conjugate) l28 c28 k28
  have U_ring_turn := fun_mk (st := s_ring_turn) l29 c29 k29
  have U_scaled_turn := fun_mk (st := s_scaled_turn) l30 c30 k30
  have U_scaled_abs_square := fun_mk (st := s_scaled_abs_square) l31 c31 k31
  have U_law := fun_mk (st := s_law) l32 c32 k32
  have m_len := PySem.W.mg_none_of X G z_len
  have m_int := PySem.W.mg_none_of X G z_int
  have m_abs := PySem.W.mg_none_of X G z_abs
  have m_range := PySem.W.mg_none_of X G z_range
  have m_min := PySem.W.mg_none_of X G z_min
  have m_isinstance := PySem.W.mg_none_of X G z_isinstance
  have m_bool := PySem.W.mg_none_of X G z_bool
  have m_tuple := PySem.W.mg_none_of X G z_tuple
  have m_max := PySem.W.mg_none_of X G z_max
  have g_ZERO : GC mg K (fun _ => 0) "ZERO" c_ZERO := ⟨(.ref q_ZERO_0), (Value.ref q_ZERO_0), PySem.W.mg_of X G u_ZERO, rfl, fun F H => (rep_kt k_ZERO_0 (show 2 ≤ sizeLine by decide) (.cons (show L2.RelV (.ref q_ZERO_1) (Value.ref q_ZERO_1) from rfl) (.cons (show L2.RelV (.int (0)) (Value.int (0) t_ZERO_6) from ⟨_, rfl⟩) .nil)) ⟨_, _, zf, zf, rfl, (rep_kt k_ZERO_1 (show 4 ≤ sizeLine by decide) (.cons (show L2.RelV (.int (0)) (Value.int (0) t_ZERO_2) from ⟨_, rfl⟩) (.cons (show L2.RelV (.int (0)) (Value.int (0) t_ZERO_3) from ⟨_, rfl⟩) (.cons (show L2.RelV (.int (0)) (Value.int (0) t_ZERO_4) from ⟨_, rfl⟩) (.cons (show L2.RelV (.int (0)) (Value.int (0) t_ZERO_5) from ⟨_, rfl⟩) .nil)))) ⟨_, _, zf, zf, rfl, ⟨rfl, rfl⟩, ⟨_, _, zf, zf, rfl, ⟨rfl, rfl⟩, ⟨_, _, zf, zf, rfl, ⟨rfl, rfl⟩, ⟨_, _, zf, zf, rfl, ⟨rfl, rfl⟩, ⟨rfl, rfl⟩, rfl⟩, rfl⟩, rfl⟩, rfl⟩), ⟨_, _, zf, zf, rfl, ⟨rfl, rfl⟩, ⟨rfl, rfl⟩, rfl⟩, rfl⟩)⟩
  refine ⟨PySem.W.fnOf "law" "law" (defArgs s_law) (defBody s_law) (defScope s_law) .none kV32 dc32 pm32 an32 cd32 ct32, fun s v => .of_eq rfl, fun base _ _ => ?_⟩
  have O__law_cell := ok__law_cell (P := l.prog) (w := w) (mg := mg) (base := base) (ct := (fun _ => 0)) U__law_cell m_len
  have D__law_cell : FD l.prog w K mg base (fun _ => 0) 1 "_law_cell" 2 F__law_cell := FD.mk' O__law_cell (PySem.W.mg_of X G a0) U__law_cell.kp (U__law_cell.binds (ps := ["script", "k"]) fun _ _ _ _ _ _ us hl => match us, hl with | [_, _], _ => rfl)
  have O__law_part := ok__law_part (P := l.prog) (w := w) (mg := mg) (base := base) (ct := (fun _ => 0)) U__law_part m_int
  have D__law_part : FD l.prog w K mg base (fun _ => 0) 1 "_law_part" 2 F__law_part := FD.mk' O__law_part (PySem.W.mg_of X G a1) U__law_part.kp (U__law_part.binds (ps := ["number", "digit"]) fun _ _ _ _ _ _ us hl => match us, hl with | [_, _], _ => rfl)
  have O__law_ring := ok__law_ring (P := l.prog) (w := w) (mg := mg) (base := base) (ct := (fun _ => 0)) U__law_ring D__law_cell D__law_part m_abs m_range
  have D__law_ring : FD l.prog w K mg base (fun _ => 0) 2 "_law_ring" 2 F__law_ring := FD.mk' O__law_ring (PySem.W.mg_of X G a2) U__law_ring.kp (U__law_ring.binds (ps := ["script", "first"]) fun _ _ _ _ _ _ us hl => match us, hl with | [_, _], _ => rfl)
  have O__law_scaled := ok__law_scaled (P := l.prog) (w := w) (mg := mg) (base := base) (ct := (fun _ => 0)) U__law_scaled D__law_cell D__law_ring m_int
  have D__law_scaled : FD l.prog w K mg base (fun _ => 0) 3 "_law_scaled" 2 F__law_scaled := FD.mk' O__law_scaled (PySem.W.mg_of X G a3) U__law_scaled.kp (U__law_scaled.binds (ps := ["script", "first"]) fun _ _ _ _ _ _ us hl => match us, hl with | [_, _], _ => rfl)
  have O_ring_times_root := ok_ring_times_root (P := l.prog) (w := w) (mg := mg) (base := base) (ct := (fun _ => 0)) U_ring_times_root
  have D_ring_times_root : FD l.prog w K mg base (fun _ => 0) 1 "ring_times_root" 1 F_ring_times_root := FD.mk' O_ring_times_root (PySem.W.mg_of X G a4) U_ring_times_root.kp (U_ring_times_root.binds (ps := ["x"]) fun _ _ _ _ _ _ us hl => match us, hl with | [_], _ => rfl)
  have O__times_roots := ok__times_roots (P := l.prog) (w := w) (mg := mg) (base := base) (ct := (fun _ => 0)) U__times_roots D_ring_times_root
  have D__times_roots : FD l.prog w K mg base (fun _ => 0) 2 "_times_roots" 2 F__times_roots := FD.mk' O__times_roots (PySem.W.mg_of X G a5) U__times_roots.kp (U__times_roots.binds (ps := ["number", "count"]) fun _ _ _ _ _ _ us hl => match us, hl with | [_, _], _ => rfl)
  have O_divisible_by_root := ok_divisible_by_root (P := l.prog) (w := w) (mg := mg) (base := base) (ct := (fun _ => 0)) U_divisible_by_root
  have D_divisible_by_root : FD l.prog w K mg base (fun _ => 0) 1 "divisible_by_root" 1 F_divisible_by_root := FD.mk' O_divisible_by_root (PySem.W.mg_of X G a6) U_divisible_by_root.kp (U_divisible_by_root.binds (ps := ["x"]) fun _ _ _ _ _ _ us hl => match us, hl with | [_], _ => rfl)
  have O__twos := ok__twos (P := l.prog) (w := w) (mg := mg) (base := base) (ct := (fun _ => 0)) U__twos
  have D__twos : FD l.prog w K mg base (fun _ => 0) 1 "_twos" 1 F__twos := FD.mk' O__twos (PySem.W.mg_of X G a7) U__twos.kp (U__twos.binds (ps := ["number"]) fun _ _ _ _ _ _ us hl => match us, hl with | [_], _ => rfl)
  have O__shifted_right := ok__shifted_right (P := l.prog) (w := w) (mg := mg) (base := base) (ct := (fun _ => 0)) U__shifted_right
  have D__shifted_right : FD l.prog w K mg base (fun _ => 0) 1 "_shifted_right" 2 F__shifted_right := FD.mk' O__shifted_right (PySem.W.mg_of X G a8) U__shifted_right.kp (U__shifted_right.binds (ps := ["number", "count"]) fun _ _ _ _ _ _ us hl => match us, hl with | [_, _], _ => rfl)
  have O_ring_over_root := ok_ring_over_root (P := l.prog) (w := w) (mg := mg) (base := base) (ct := (fun _ => 0)) U_ring_over_root D_divisible_by_root D_ring_times_root
  have D_ring_over_root : FD l.prog w K mg base (fun _ => 0) 2 "ring_over_root" 1 F_ring_over_root := FD.mk' O_ring_over_root (PySem.W.mg_of X G a9) U_ring_over_root.kp (U_ring_over_root.binds (ps := ["x"]) fun _ _ _ _ _ _ us hl => match us, hl with | [_], _ => rfl)
  have O_lowest := ok_lowest (P := l.prog) (w := w) (mg := mg) (base := base) (ct := (fun _ => 0)) U_lowest D__times_roots D_divisible_by_root D__twos D__shifted_right D_ring_over_root m_min g_ZERO
  have D_lowest : FD l.prog w K mg base (fun _ => 0) 3 "lowest" 2 F_lowest := FD.mk' O_lowest (PySem.W.mg_of X G a10) U_lowest.kp (U_lowest.binds (ps := ["number", "exponent"]) fun _ _ _ _ _ _ us hl => match us, hl with | [_, _], _ => rfl)
  have O__law_turn := ok__law_turn (P := l.prog) (w := w) (mg := mg) (base := base) (ct := (fun _ => 0)) U__law_turn m_range m_int
  have D__law_turn : FD l.prog w K mg base (fun _ => 0) 1 "_law_turn" 2 F__law_turn := FD.mk' O__law_turn (PySem.W.mg_of X G a11) U__law_turn.kp (U__law_turn.binds (ps := ["x", "steps"]) fun _ _ _ _ _ _ us hl => match us, hl with | [_, _], _ => rfl)
  have O__law_is_integer := ok__law_is_integer (P := l.prog) (w := w) (mg := mg) (base := base) (ct := (fun _ => 0)) U__law_is_integer m_isinstance m_bool m_int
  have D__law_is_integer : FD l.prog w K mg base (fun _ => 0) 1 "_law_is_integer" 1 F__law_is_integer := FD.mk' O__law_is_integer (PySem.W.mg_of X G a12) U__law_is_integer.kp (U__law_is_integer.binds (ps := ["actual"]) fun _ _ _ _ _ _ us hl => match us, hl with | [_], _ => rfl)
  have O__law_is_ring := ok__law_is_ring (P := l.prog) (w := w) (mg := mg) (base := base) (ct := (fun _ => 0)) U__law_is_ring D__law_is_integer m_len m_isinstance m_tuple
  have D__law_is_ring : FD l.prog w K mg base (fun _ => 0) 2 "_law_is_ring" 1 F__law_is_ring := FD.mk' O__law_is_ring (PySem.W.mg_of X G a13) U__law_is_ring.kp (U__law_is_ring.binds (ps := ["actual"]) fun _ _ _ _ _ _ us hl => match us, hl with | [_], _ => rfl)
  have O__law_times_root := ok__law_times_root (P := l.prog) (w := w) (mg := mg) (base := base) (ct := (fun _ => 0)) U__law_times_root m_range
  have D__law_times_root : FD l.prog w K mg base (fun _ => 0) 1 "_law_times_root" 2 F__law_times_root := FD.mk' O__law_times_root (PySem.W.mg_of X G a14) U__law_times_root.kp (U__law_times_root.binds (ps := ["x", "times"]) fun _ _ _ _ _ _ us hl => match us, hl with | [_, _], _ => rfl)
  have O__law_is_number := ok__law_is_number (P := l.prog) (w := w) (mg := mg) (base := base) (ct := (fun _ => 0)) U__law_is_number D__law_is_integer D__law_is_ring D__law_times_root m_len m_isinstance m_tuple m_int m_max
  have D__law_is_number : FD l.prog w K mg base (fun _ => 0) 3 "_law_is_number" 3 F__law_is_number := FD.mk' O__law_is_number (PySem.W.mg_of X G a15) U__law_is_number.kp (U__law_is_number.binds (ps := ["actual", "x", "roots"]) fun _ _ _ _ _ _ us hl => match us, hl with | [_, _, _], _ => rfl)
  have O_ring_add := ok_ring_add (P := l.prog) (w := w) (mg := mg) (base := base) (ct := (fun _ => 0)) U_ring_add
  have D_ring_add : FD l.prog w K mg base (fun _ => 0) 1 "ring_add" 2 F_ring_add := FD.mk' O_ring_add (PySem.W.mg_of X G a16) U_ring_add.kp (U_ring_add.binds (ps := ["x", "y"]) fun _ _ _ _ _ _ us hl => match us, hl with | [_, _], _ => rfl)
  have O__raised := ok__raised (P := l.prog) (w := w) (mg := mg) (base := base) (ct := (fun _ => 0)) U__raised D__times_roots
  have D__raised : FD l.prog w K mg base (fun _ => 0) 3 "_raised" 2 F__raised := FD.mk' O__raised (PySem.W.mg_of X G a17) U__raised.kp (U__raised.binds (ps := ["x", "exponent"]) fun _ _ _ _ _ _ us hl => match us, hl with | [_, _], _ => rfl)
  have O_scaled_add := ok_scaled_add (P := l.prog) (w := w) (mg := mg) (base := base) (ct := (fun _ => 0)) U_scaled_add D_lowest D_ring_add D__raised m_max
  have D_scaled_add : FD l.prog w K mg base (fun _ => 0) 4 "scaled_add" 2 F_scaled_add := FD.mk' O_scaled_add (PySem.W.mg_of X G a18) U_scaled_add.kp (U_scaled_add.binds (ps := ["x", "y"]) fun _ _ _ _ _ _ us hl => match us, hl with | [_, _], _ => rfl)
  have O__law_sum := ok__law_sum (P := l.prog) (w := w) (mg := mg) (base := base) (ct := (fun _ => 0)) U__law_sum D__law_times_root m_max
  have D__law_sum : FD l.prog w K mg base (fun _ => 0) 2 "_law_sum" 2 F__law_sum := FD.mk' O__law_sum (PySem.W.mg_of X G a19) U__law_sum.kp (U__law_sum.binds (ps := ["x", "y"]) fun _ _ _ _ _ _ us hl => match us, hl with | [_, _], _ => rfl)
  have O_ring_sub := ok_ring_sub (P := l.prog) (w := w) (mg := mg) (base := base) (ct := (fun _ => 0)) U_ring_sub
  have D_ring_sub : FD l.prog w K mg base (fun _ => 0) 1 "ring_sub" 2 F_ring_sub := FD.mk' O_ring_sub (PySem.W.mg_of X G a20) U_ring_sub.kp (U_ring_sub.binds (ps := ["x", "y"]) fun _ _ _ _ _ _ us hl => match us, hl with | [_, _], _ => rfl)
  have O_scaled_sub := ok_scaled_sub (P := l.prog) (w := w) (mg := mg) (base := base) (ct := (fun _ => 0)) U_scaled_sub D_lowest D_ring_sub D__raised m_max
  have D_scaled_sub : FD l.prog w K mg base (fun _ => 0) 4 "scaled_sub" 2 F_scaled_sub := FD.mk' O_scaled_sub (PySem.W.mg_of X G a21) U_scaled_sub.kp (U_scaled_sub.binds (ps := ["x", "y"]) fun _ _ _ _ _ _ us hl => match us, hl with | [_, _], _ => rfl)
  have O_ring_mul := ok_ring_mul (P := l.prog) (w := w) (mg := mg) (base := base) (ct := (fun _ => 0)) U_ring_mul
  have D_ring_mul : FD l.prog w K mg base (fun _ => 0) 1 "ring_mul" 2 F_ring_mul := FD.mk' O_ring_mul (PySem.W.mg_of X G a22) U_ring_mul.kp (U_ring_mul.binds (ps := ["x", "y"]) fun _ _ _ _ _ _ us hl => match us, hl with | [_, _], _ => rfl)
  have O_scaled_mul := ok_scaled_mul (P := l.prog) (w := w) (mg := mg) (base := base) (ct := (fun _ => 0)) U_scaled_mul D_lowest D_ring_mul
  have D_scaled_mul : FD l.prog w K mg base (fun _ => 0) 4 "scaled_mul" 2 F_scaled_mul := FD.mk' O_scaled_mul (PySem.W.mg_of X G a23) U_scaled_mul.kp (U_scaled_mul.binds (ps := ["x", "y"]) fun _ _ _ _ _ _ us hl => match us, hl with | [_, _], _ => rfl)
  have O__law_mul := ok__law_mul (P := l.prog) (w := w) (mg := mg) (base := base) (ct := (fun _ => 0)) U__law_mul m_range
  have D__law_mul : FD l.prog w K mg base (fun _ => 0) 1 "_law_mul" 2 F__law_mul := FD.mk' O__law_mul (PySem.W.mg_of X G a24) U__law_mul.kp (U__law_mul.binds (ps := ["x", "y"]) fun _ _ _ _ _ _ us hl => match us, hl with | [_, _], _ => rfl)
  have O_ring_neg := ok_ring_neg (P := l.prog) (w := w) (mg := mg) (base := base) (ct := (fun _ => 0)) U_ring_neg
  have D_ring_neg : FD l.prog w K mg base (fun _ => 0) 1 "ring_neg" 1 F_ring_neg := FD.mk' O_ring_neg (PySem.W.mg_of X G a25) U_ring_neg.kp (U_ring_neg.binds (ps := ["x"]) fun _ _ _ _ _ _ us hl => match us, hl with | [_], _ => rfl)
  have O_scaled_neg := ok_scaled_neg (P := l.prog) (w := w) (mg := mg) (base := base) (ct := (fun _ => 0)) U_scaled_neg D_ring_neg
  have D_scaled_neg : FD l.prog w K mg base (fun _ => 0) 2 "scaled_neg" 1 F_scaled_neg := FD.mk' O_scaled_neg (PySem.W.mg_of X G a26) U_scaled_neg.kp (U_scaled_neg.binds (ps := ["x"]) fun _ _ _ _ _ _ us hl => match us, hl with | [_], _ => rfl)
  have O_ring_conjugate := ok_ring_conjugate (P := l.prog) (w := w) (mg := mg) (base := base) (ct := (fun _ => 0)) U_ring_conjugate
  have D_ring_conjugate : FD l.prog w K mg base (fun _ => 0) 1 "ring_conjugate" 1 F_ring_conjugate := FD.mk' O_ring_conjugate (PySem.W.mg_of X G a27) U_ring_conjugate.kp (U_ring_conjugate.binds (ps := ["x"]) fun _ _ _ _ _ _ us hl => match us, hl with | [_], _ => rfl)
  have O_scaled_conjugate := ok_scaled_conjugate (P := l.prog) (w := w) (mg := mg) (base := base) (ct := (fun _ => 0)) U_scaled_conjugate D_ring_conjugate
  have D_scaled_conjugate : FD l.prog w K mg base (fun _ => 0) 2 "scaled_conjugate" 1 F_scaled_conjugate := FD.mk' O_scaled_conjugate (PySem.W.mg_of X G a28) U_scaled_conjugate.kp (U_scaled_conjugate.binds (ps := ["x"]) fun _ _ _ _ _ _ us hl => match us, hl with | [_], _ => rfl)
  have O_ring_turn := ok_ring_turn (P := l.prog) (w := w) (mg := mg) (base := base) (ct := (fun _ => 0)) U_ring_turn
  have D_ring_turn : FD l.prog w K mg base (fun _ => 0) 1 "ring_turn" 2 F_ring_turn := FD.mk' O_ring_turn (PySem.W.mg_of X G a29) U_ring_turn.kp (U_ring_turn.binds (ps := ["x", "steps"]) fun _ _ _ _ _ _ us hl => match us, hl with | [_, _], _ => rfl)
  have O_scaled_turn := ok_scaled_turn (P := l.prog) (w := w) (mg := mg) (base := base) (ct := (fun _ => 0)) U_scaled_turn D_ring_turn
  have D_scaled_turn : FD l.prog w K mg base (fun _ => 0) 2 "scaled_turn" 2 F_scaled_turn := FD.mk' O_scaled_turn (PySem.W.mg_of X G a30) U_scaled_turn.kp (U_scaled_turn.binds (ps := ["x", "steps"]) fun _ _ _ _ _ _ us hl => match us, hl with | [_, _], _ => rfl)
  have O_scaled_abs_square := ok_scaled_abs_square (P := l.prog) (w := w) (mg := mg) (base := base) (ct := (fun _ => 0)) U_scaled_abs_square D_scaled_mul D_scaled_conjugate
  have D_scaled_abs_square : FD l.prog w K mg base (fun _ => 0) 5 "scaled_abs_square" 1 F_scaled_abs_square := FD.mk' O_scaled_abs_square (PySem.W.mg_of X G a31) U_scaled_abs_square.kp (U_scaled_abs_square.binds (ps := ["x"]) fun _ _ _ _ _ _ us hl => match us, hl with | [_], _ => rfl)
  have O_law := ok_law (P := l.prog) (w := w) (mg := mg) (base := base) (ct := (fun _ => 0)) U_law D__law_scaled D__law_cell D_lowest D__law_turn D__law_is_number D_scaled_add D__law_sum D_scaled_sub D_scaled_mul D__law_mul D_scaled_neg D_scaled_conjugate D_scaled_turn D_scaled_abs_square m_max
  exact O_law.imp fun vs H Q E h => law_imp hmain h
end K07
namespace K07
open Mini PySem PySem.Spec PyProof.Rows
theorem law_cell (ns : List Int) (k : Nat) : F__law_cell [S ns, .int k] = some (.int (cell ns k), [none, none]) := by
  by_cases h : k < ns.length
  · have h' : (k : Int) < (ns.length : Int) := by omega
    simp [F__law_cell, dDef, dSeq, dIf, dTru, oBool, dBin, dBind, look_nil, look_z, look_s, dRet, dRetMv, dSkip, dAsg, dExpr, setS, dAug, gSet, gTupO, gsCons, gsNil, dTup, dLst, dCons, dNil, copyO, isFz, isFzs, Mini.fin, oAdd_i, oSub_i, oMul_i, oMod_i, oDiv_i, oAnd_i, oOr_i, oXor_i, oLt_i, oLe_i, oGt_i, oGe_i, oMax_i, oMin_i, negO_i, oAbs_i, oInt_i, oInt_b, oEq_i, oNe_i, eqv_ii, idx_t, idx_l, atI_z, atI_n, atI_lit, ixN_n, ixN_lit, len_t, len_l, oTru, oNot, vAnd, vOr, bAnd, bOr, bNot, dIte, mLog2, rngs_z, rngs_s, line_le, line_lt, dCall, views, okb, noFm, noFms, frz, frzs, dIt, itO, lFor, dFor, dRng1, dRng2, rOk, dApp, dSetI, dFz, dCallX, dCallN, dDefX, dAsgR, dRetR, dExprR, dTry, dIsE, pick_rt, pick_nx, oBits_i, oIsN, oNotN, isNon, oIn, dChain, flatO, eqF, oList, oTuple, dLc, lLc, wipeE, dYes, List.set_cons_zero, List.set_cons_succ, List.replicate, isi_NoneType_int, isi_bool_int, isi_int_int, isi_str_int, isi_tuple_int, isi_list_int, isi_dict_int, isi_NoneType_bool, isi_bool_bool, isi_int_bool, isi_str_bool, isi_tuple_bool, isi_list_bool, isi_dict_bool, isi_NoneType_str, isi_bool_str, isi_int_str, isi_str_str, isi_tuple_str, isi_list_str, isi_dict_str, isi_NoneType_tuple, isi_bool_tuple, isi_int_tuple, isi_str_tuple, isi_tuple_tuple, isi_list_tuple, isi_dict_tuple, isi_NoneType_list, isi_bool_list, isi_int_list, isi_str_list, isi_tuple_list, isi_list_list, isi_dict_list, isi_NoneType_dict, isi_bool_dict, isi_int_dict, isi_str_dict, isi_tuple_dict, isi_list_dict, isi_dict_dict, Bd__law_ring_1, Bd__law_turn_1, Bd__law_is_ring_1, Bd__law_times_root_1, Bd__law_mul_1, Bd__law_mul_2, h', cell_at h]
  · have h' : ¬ (k : Int) < (ns.length : Int) := by omega
    simp [F__law_cell, dDef, dSeq, dIf, dTru, oBool, dBin, dBind, look_nil, look_z, look_s, dRet, dRetMv, dSkip, dAsg, dExpr, setS, dAug, gSet, gTupO, gsCons, gsNil, dTup, dLst, dCons, dNil, copyO, isFz, isFzs, Mini.fin, oAdd_i, oSub_i, oMul_i, oMod_i, oDiv_i, oAnd_i, oOr_i, oXor_i, oLt_i, oLe_i, oGt_i, oGe_i, oMax_i, oMin_i, negO_i, oAbs_i, oInt_i, oInt_b, oEq_i, oNe_i, eqv_ii, idx_t, idx_l, atI_z, atI_n, atI_lit, ixN_n, ixN_lit, len_t, len_l, oTru, oNot, vAnd, vOr, bAnd, bOr, bNot, dIte, mLog2, rngs_z, rngs_s, line_le, line_lt, dCall, views, okb, noFm, noFms, frz, frzs, dIt, itO, lFor, dFor, dRng1, dRng2, rOk, dApp, dSetI, dFz, dCallX, dCallN, dDefX, dAsgR, dRetR, dExprR, dTry, dIsE, pick_rt, pick_nx, oBits_i, oIsN, oNotN, isNon, oIn, dChain, flatO, eqF, oList, oTuple, dLc, lLc, wipeE, dYes, List.set_cons_zero, List.set_cons_succ, List.replicate, isi_NoneType_int, isi_bool_int, isi_int_int, isi_str_int, isi_tuple_int, isi_list_int, isi_dict_int, isi_NoneType_bool, isi_bool_bool, isi_int_bool, isi_str_bool, isi_tuple_bool, isi_list_bool, isi_dict_bool, isi_NoneType_str, isi_bool_str, isi_int_str, isi_str_str, isi_tuple_str, isi_list_str, isi_dict_str, isi_NoneType_tuple, isi_bool_tuple, isi_int_tuple, isi_str_tuple, isi_tuple_tuple, isi_list_tuple, isi_dict_tuple, isi_NoneType_list, isi_bool_list, isi_int_list, isi_str_list, isi_tuple_list, isi_list_list, isi_dict_list, isi_NoneType_dict, isi_bool_dict, isi_int_dict, isi_str_dict, isi_tuple_dict, isi_list_dict, isi_dict_dict, Bd__law_ring_1, Bd__law_turn_1, Bd__law_is_ring_1, Bd__law_times_root_1, Bd__law_mul_1, Bd__law_mul_2, h', cell_out h]
theorem law_part (n d : Int) : F__law_part [.int n, .int d] = some (.int (rpart n d), [none, none]) := by
  unfold rpart
  by_cases h : d % 3 = 0
  · simp [F__law_part, dDef, dSeq, dIf, dTru, oBool, dBin, dBind, look_nil, look_z, look_s, dRet, dRetMv, dSkip, dAsg, dExpr, setS, dAug, gSet, gTupO, gsCons, gsNil, dTup, dLst, dCons, dNil, copyO, isFz, isFzs, Mini.fin, oAdd_i, oSub_i, oMul_i, oMod_i, oDiv_i, oAnd_i, oOr_i, oXor_i, oLt_i, oLe_i, oGt_i, oGe_i, oMax_i, oMin_i, negO_i, oAbs_i, oInt_i, oInt_b, oEq_i, oNe_i, eqv_ii, idx_t, idx_l, atI_z, atI_n, atI_lit, ixN_n, ixN_lit, len_t, len_l, oTru, oNot, vAnd, vOr, bAnd, bOr, bNot, dIte, mLog2, rngs_z, rngs_s, line_le, line_lt, dCall, views, okb, noFm, noFms, frz, frzs, dIt, itO, lFor, dFor, dRng1, dRng2, rOk, dApp, dSetI, dFz, dCallX, dCallN, dDefX, dAsgR, dRetR, dExprR, dTry, dIsE, pick_rt, pick_nx, oBits_i, oIsN, oNotN, isNon, oIn, dChain, flatO, eqF, oList, oTuple, dLc, lLc, wipeE, dYes, List.set_cons_zero, List.set_cons_succ, List.replicate, isi_NoneType_int, isi_bool_int, isi_int_int, isi_str_int, isi_tuple_int, isi_list_int, isi_dict_int, isi_NoneType_bool, isi_bool_bool, isi_int_bool, isi_str_bool, isi_tuple_bool, isi_list_bool, isi_dict_bool, isi_NoneType_str, isi_bool_str, isi_int_str, isi_str_str, isi_tuple_str, isi_list_str, isi_dict_str, isi_NoneType_tuple, isi_bool_tuple, isi_int_tuple, isi_str_tuple, isi_tuple_tuple, isi_list_tuple, isi_dict_tuple, isi_NoneType_list, isi_bool_list, isi_int_list, isi_str_list, isi_tuple_list, isi_list_list, isi_dict_list, isi_NoneType_dict, isi_bool_dict, isi_int_dict, isi_str_dict, isi_tuple_dict, isi_list_dict, isi_dict_dict, Bd__law_ring_1, Bd__law_turn_1, Bd__law_is_ring_1, Bd__law_times_root_1, Bd__law_mul_1, Bd__law_mul_2, h]
  · by_cases h2 : d % 3 = 1
    · simp [F__law_part, dDef, dSeq, dIf, dTru, oBool, dBin, dBind, look_nil, look_z, look_s, dRet, dRetMv, dSkip, dAsg, dExpr, setS, dAug, gSet, gTupO, gsCons, gsNil, dTup, dLst, dCons, dNil, copyO, isFz, isFzs, Mini.fin, oAdd_i, oSub_i, oMul_i, oMod_i, oDiv_i, oAnd_i, oOr_i, oXor_i, oLt_i, oLe_i, oGt_i, oGe_i, oMax_i, oMin_i, negO_i, oAbs_i, oInt_i, oInt_b, oEq_i, oNe_i, eqv_ii, idx_t, idx_l, atI_z, atI_n, atI_lit, ixN_n, ixN_lit, len_t, len_l, oTru, oNot, vAnd, vOr, bAnd, bOr, bNot, dIte, mLog2, rngs_z, rngs_s, line_le, line_lt, dCall, views, okb, noFm, noFms, frz, frzs, dIt, itO, lFor, dFor, dRng1, dRng2, rOk, dApp, dSetI, dFz, dCallX, dCallN, dDefX, dAsgR, dRetR, dExprR, dTry, dIsE, pick_rt, pick_nx, oBits_i, oIsN, oNotN, isNon, oIn, dChain, flatO, eqF, oList, oTuple, dLc, lLc, wipeE, dYes, List.set_cons_zero, List.set_cons_succ, List.replicate, isi_NoneType_int, isi_bool_int, isi_int_int, isi_str_int, isi_tuple_int, isi_list_int, isi_dict_int, isi_NoneType_bool, isi_bool_bool, isi_int_bool, isi_str_bool, isi_tuple_bool, isi_list_bool, isi_dict_bool, isi_NoneType_str, isi_bool_str, isi_int_str, isi_str_str, isi_tuple_str, isi_list_str, isi_dict_str, isi_NoneType_tuple, isi_bool_tuple, isi_int_tuple, isi_str_tuple, isi_tuple_tuple, isi_list_tuple, isi_dict_tuple, isi_NoneType_list, isi_bool_list, isi_int_list, isi_str_list, isi_tuple_list, isi_list_list, isi_dict_list, isi_NoneType_dict, isi_bool_dict, isi_int_dict, isi_str_dict, isi_tuple_dict, isi_list_dict, isi_dict_dict, Bd__law_ring_1, Bd__law_turn_1, Bd__law_is_ring_1, Bd__law_times_root_1, Bd__law_mul_1, Bd__law_mul_2, h, h2]
    · simp [F__law_part, dDef, dSeq, dIf, dTru, oBool, dBin, dBind, look_nil, look_z, look_s, dRet, dRetMv, dSkip, dAsg, dExpr, setS, dAug, gSet, gTupO, gsCons, gsNil, dTup, dLst, dCons, dNil, copyO, isFz, isFzs, Mini.fin, oAdd_i, oSub_i, oMul_i, oMod_i, oDiv_i, oAnd_i, oOr_i, oXor_i, oLt_i, oLe_i, oGt_i, oGe_i, oMax_i, oMin_i, negO_i, oAbs_i, oInt_i, oInt_b, oEq_i, oNe_i, eqv_ii, idx_t, idx_l, atI_z, atI_n, atI_lit, ixN_n, ixN_lit, len_t, len_l, oTru, oNot, vAnd, vOr, bAnd, bOr, bNot, dIte, mLog2, rngs_z, rngs_s, line_le, line_lt, dCall, views, okb, noFm, noFms, frz, frzs, dIt, itO, lFor, dFor, dRng1, dRng2, rOk, dApp, dSetI, dFz, dCallX, dCallN, dDefX, dAsgR, dRetR, dExprR, dTry, dIsE, pick_rt, pick_nx, oBits_i, oIsN, oNotN, isNon, oIn, dChain, flatO, eqF, oList, oTuple, dLc, lLc, wipeE, dYes, List.set_cons_zero, List.set_cons_succ, List.replicate, isi_NoneType_int, isi_bool_int, isi_int_int, isi_str_int, isi_tuple_int, isi_list_int, isi_dict_int, isi_NoneType_bool, isi_bool_bool, isi_int_bool, isi_str_bool, isi_tuple_bool, isi_list_bool, isi_dict_bool, isi_NoneType_str, isi_bool_str, isi_int_str, isi_str_str, isi_tuple_str, isi_list_str, isi_dict_str, isi_NoneType_tuple, isi_bool_tuple, isi_int_tuple, isi_str_tuple, isi_tuple_tuple, isi_list_tuple, isi_dict_tuple, isi_NoneType_list, isi_bool_list, isi_int_list, isi_str_list, isi_tuple_list, isi_list_list, isi_dict_list, isi_NoneType_dict, isi_bool_dict, isi_int_dict, isi_str_dict, isi_tuple_dict, isi_list_dict, isi_dict_dict, Bd__law_ring_1, Bd__law_turn_1, Bd__law_is_ring_1, Bd__law_times_root_1, Bd__law_mul_1, Bd__law_mul_2, h, h2]
theorem law_ring (ns : List Int) (k : Nat) : F__law_ring [S ns, .int k] =
    some (encR (rpart (cell ns k) (dg ns k)) (rpart (cell ns (k + 1)) (dg ns k / 3)) (rpart (cell ns (k + 2)) (dg ns k / 3 / 3)) (rpart (cell ns (k + 3)) (dg ns k / 3 / 3 / 3)), [none, none]) := by
  have c0 : F__law_cell [O.lst false (ns.map .int), .int ((k : Int) + 4)] = _ := law_cell ns (k + 4)
  have c1 : F__law_cell [O.lst false (ns.map .int), .int (k : Int)] = _ := law_cell ns k
  have c2 : F__law_cell [O.lst false (ns.map .int), .int ((k : Int) + 1)] = _ := law_cell ns (k + 1)
  have c3 : F__law_cell [O.lst false (ns.map .int), .int ((k : Int) + 2)] = _ := law_cell ns (k + 2)
  have c4 : F__law_cell [O.lst false (ns.map .int), .int ((k : Int) + 3)] = _ := law_cell ns (k + 3)
  simp [F__law_ring, dDef, dSeq, dIf, dTru, oBool, dBin, dBind, look_nil, look_z, look_s, dRet, dRetMv, dSkip, dAsg, dExpr, setS, dAug, gSet, gTupO, gsCons, gsNil, dTup, dLst, dCons, dNil, copyO, isFz, isFzs, Mini.fin, oAdd_i, oSub_i, oMul_i, oMod_i, oDiv_i, oAnd_i, oOr_i, oXor_i, oLt_i, oLe_i, oGt_i, oGe_i, oMax_i, oMin_i, negO_i, oAbs_i, oInt_i, oInt_b, oEq_i, oNe_i, eqv_ii, idx_t, idx_l, atI_z, atI_n, atI_lit, ixN_n, ixN_lit, len_t, len_l, oTru, oNot, vAnd, vOr, bAnd, bOr, bNot, dIte, mLog2, rngs_z, rngs_s, line_le, line_lt, dCall, views, okb, noFm, noFms, frz, frzs, dIt, itO, lFor, dFor, dRng1, dRng2, rOk, dApp, dSetI, dFz, dCallX, dCallN, dDefX, dAsgR, dRetR, dExprR, dTry, dIsE, pick_rt, pick_nx, oBits_i, oIsN, oNotN, isNon, oIn, dChain, flatO, eqF, oList, oTuple, dLc, lLc, wipeE, dYes, List.set_cons_zero, List.set_cons_succ, List.replicate, isi_NoneType_int, isi_bool_int, isi_int_int, isi_str_int, isi_tuple_int, isi_list_int, isi_dict_int, isi_NoneType_bool, isi_bool_bool, isi_int_bool, isi_str_bool, isi_tuple_bool, isi_list_bool, isi_dict_bool, isi_NoneType_str, isi_bool_str, isi_int_str, isi_str_str, isi_tuple_str, isi_list_str, isi_dict_str, isi_NoneType_tuple, isi_bool_tuple, isi_int_tuple, isi_str_tuple, isi_tuple_tuple, isi_list_tuple, isi_dict_tuple, isi_NoneType_list, isi_bool_list, isi_int_list, isi_str_list, isi_tuple_list, isi_list_list, isi_dict_list, isi_NoneType_dict, isi_bool_dict, isi_int_dict, isi_str_dict, isi_tuple_dict, isi_list_dict, isi_dict_dict, Bd__law_ring_1, Bd__law_turn_1, Bd__law_is_ring_1, Bd__law_times_root_1, Bd__law_mul_1, Bd__law_mul_2, frzs_ints, isFzs_ints, c0, c1, c2, c3, c4, law_part, dg]
theorem law_ring' (ns : List Int) (k : Nat) (hb : ∀ z ∈ ns, Builtin.Int.intBits z ≤ 1048576) : ∃ a b c d, F__law_ring [O.lst false (ns.map .int), .int k] = some (encR a b c d, [none, none]) ∧ B 1048576 a ∧ B 1048576 b ∧ B 1048576 c ∧ B 1048576 d :=
  ⟨_, _, _, _, law_ring ns k, rpart_B (cell_B hb _) (by decide), rpart_B (cell_B hb _) (by decide), rpart_B (cell_B hb _) (by decide), rpart_B (cell_B hb _) (by decide)⟩
theorem law_mul (a b c d e f g h : Int) (H : ∀ x ∈ [a,b,c,d], ∀ y ∈ [e,f,g,h], mulOk x y = true) : F__law_mul [encR a b c d, encR e f g h] =
   some (encR (a * e - (b * h + c * g + d * f)) (a * f + b * e - (c * h + d * g)) (a * g + b * f + c * e - d * h) (a * h + b * g + c * f + d * e), [none, none]) := by
  simp only [List.forall_mem_cons, List.forall_mem_nil, and_true, List.not_mem_nil, false_implies, implies_true] at H
  simp [F__law_mul, dDef, dSeq, dIf, dTru, oBool, dBin, dBind, look_nil, look_z, look_s, dRet, dRetMv, dSkip, dAsg, dExpr, setS, dAug, gSet, gTupO, gsCons, gsNil, dTup, dLst, dCons, dNil, copyO, isFz, isFzs, Mini.fin, oAdd_i, oSub_i, oMul_i, oMod_i, oDiv_i, oAnd_i, oOr_i, oXor_i, oLt_i, oLe_i, oGt_i, oGe_i, oMax_i, oMin_i, negO_i, oAbs_i, oInt_i, oInt_b, oEq_i, oNe_i, eqv_ii, idx_t, idx_l, atI_z, atI_n, atI_lit, ixN_n, ixN_lit, len_t, len_l, oTru, oNot, vAnd, vOr, bAnd, bOr, bNot, dIte, mLog2, rngs_z, rngs_s, line_le, line_lt, dCall, views, okb, noFm, noFms, frz, frzs, dIt, itO, lFor, dFor, dRng1, dRng2, rOk, dApp, dSetI, dFz, dCallX, dCallN, dDefX, dAsgR, dRetR, dExprR, dTry, dIsE, pick_rt, pick_nx, oBits_i, oIsN, oNotN, isNon, oIn, dChain, flatO, eqF, oList, oTuple, dLc, lLc, wipeE, dYes, List.set_cons_zero, List.set_cons_succ, List.replicate, isi_NoneType_int, isi_bool_int, isi_int_int, isi_str_int, isi_tuple_int, isi_list_int, isi_dict_int, isi_NoneType_bool, isi_bool_bool, isi_int_bool, isi_str_bool, isi_tuple_bool, isi_list_bool, isi_dict_bool, isi_NoneType_str, isi_bool_str, isi_int_str, isi_str_str, isi_tuple_str, isi_list_str, isi_dict_str, isi_NoneType_tuple, isi_bool_tuple, isi_int_tuple, isi_str_tuple, isi_tuple_tuple, isi_list_tuple, isi_dict_tuple, isi_NoneType_list, isi_bool_list, isi_int_list, isi_str_list, isi_tuple_list, isi_list_list, isi_dict_list, isi_NoneType_dict, isi_bool_dict, isi_int_dict, isi_str_dict, isi_tuple_dict, isi_list_dict, isi_dict_dict, Bd__law_ring_1, Bd__law_turn_1, Bd__law_is_ring_1, Bd__law_times_root_1, Bd__law_mul_1, Bd__law_mul_2, H]
theorem l_is_ring (a b c d : Int) : F__law_is_ring [encR a b c d] = some (.bl true, [none]) := rfl
theorem law_roots (x : R) (n : Nat) (hn : n < 4611686018427387904) : F__law_times_root [x.enc, .int n] = some ((trn n x).enc, [none, none]) := by
  obtain ⟨ρ', e, z, hz⟩ := lFor_rng (dg := gSet 2) (body := Bd__law_times_root_1) (fun i ρ => ∃ z, ρ = [some (trn i x).enc, some (.int n), z]) 0 n [some x.enc, some (.int n), none] ⟨none, rfl⟩ (by
    rintro i ρ hi ⟨z, rfl⟩
    refine ⟨_, _, rfl, ?_, some (.int (0 + i)), rfl⟩
    rw [show trn (i + 1) x = (trn i x).tr by rw [← trn_tr]; rfl]
    generalize trn i x = y
    simp [dDef, dSeq, dIf, dTru, oBool, dBin, dBind, look_nil, look_z, look_s, dRet, dRetMv, dSkip, dAsg, dExpr, setS, dAug, gSet, gTupO, gsCons, gsNil, dTup, dLst, dCons, dNil, copyO, isFz, isFzs, Mini.fin, oAdd_i, oSub_i, oMul_i, oMod_i, oDiv_i, oAnd_i, oOr_i, oXor_i, oLt_i, oLe_i, oGt_i, oGe_i, oMax_i, oMin_i, negO_i, oAbs_i, oInt_i, oInt_b, oEq_i, oNe_i, eqv_ii, idx_t, idx_l, atI_z, atI_n, atI_lit, ixN_n, ixN_lit, len_t, len_l, oTru, oNot, vAnd, vOr, bAnd, bOr, bNot, dIte, mLog2, rngs_z, rngs_s, line_le, line_lt, dCall, views, okb, noFm, noFms, frz, frzs, dIt, itO, lFor, dFor, dRng1, dRng2, rOk, dApp, dSetI, dFz, dCallX, dCallN, dDefX, dAsgR, dRetR, dExprR, dTry, dIsE, pick_rt, pick_nx, oBits_i, oIsN, oNotN, isNon, oIn, dChain, flatO, eqF, oList, oTuple, dLc, lLc, wipeE, dYes, List.set_cons_zero, List.set_cons_succ, List.replicate, isi_NoneType_int, isi_bool_int, isi_int_int, isi_str_int, isi_tuple_int, isi_list_int, isi_dict_int, isi_NoneType_bool, isi_bool_bool, isi_int_bool, isi_str_bool, isi_tuple_bool, isi_list_bool, isi_dict_bool, isi_NoneType_str, isi_bool_str, isi_int_str, isi_str_str, isi_tuple_str, isi_list_str, isi_dict_str, isi_NoneType_tuple, isi_bool_tuple, isi_int_tuple, isi_str_tuple, isi_tuple_tuple, isi_list_tuple, isi_dict_tuple, isi_NoneType_list, isi_bool_list, isi_int_list, isi_str_list, isi_tuple_list, isi_list_list, isi_dict_list, isi_NoneType_dict, isi_bool_dict, isi_int_dict, isi_str_dict, isi_tuple_dict, isi_list_dict, isi_dict_dict, Bd__law_ring_1, Bd__law_turn_1, Bd__law_is_ring_1, Bd__law_times_root_1, Bd__law_mul_1, Bd__law_mul_2, R.tr])
  subst hz
  have e2 := (dFor_rng1 (d := fun ρ => look ρ 1) (dg := gSet 2) (body := Bd__law_times_root_1) (ρ := [some x.enc, some (.int n), none]) (n := n) rfl hn).trans e
  unfold F__law_times_root
  exact dDef_mv21 e2
theorem p_tr (x : R) : F_ring_times_root [x.enc] = some (x.tr.enc, [none]) := rfl
theorem p_ev (x : R) : F_divisible_by_root [x.enc] = some (.bl (decide x.ev), [none]) := by
  by_cases h1 : (x.a + x.c) % 2 = 0
  · by_cases h2 : (x.b + x.d) % 2 = 0
    · have : x.ev := ⟨h1, h2⟩
      simp [F_divisible_by_root, dDef, dSeq, dIf, dTru, oBool, dBin, dBind, look_nil, look_z, look_s, dRet, dRetMv, dSkip, dAsg, dExpr, setS, dAug, gSet, gTupO, gsCons, gsNil, dTup, dLst, dCons, dNil, copyO, isFz, isFzs, Mini.fin, oAdd_i, oSub_i, oMul_i, oMod_i, oDiv_i, oAnd_i, oOr_i, oXor_i, oLt_i, oLe_i, oGt_i, oGe_i, oMax_i, oMin_i, negO_i, oAbs_i, oInt_i, oInt_b, oEq_i, oNe_i, eqv_ii, idx_t, idx_l, atI_z, atI_n, atI_lit, ixN_n, ixN_lit, len_t, len_l, oTru, oNot, vAnd, vOr, bAnd, bOr, bNot, dIte, mLog2, rngs_z, rngs_s, line_le, line_lt, dCall, views, okb, noFm, noFms, frz, frzs, dIt, itO, lFor, dFor, dRng1, dRng2, rOk, dApp, dSetI, dFz, dCallX, dCallN, dDefX, dAsgR, dRetR, dExprR, dTry, dIsE, pick_rt, pick_nx, oBits_i, oIsN, oNotN, isNon, oIn, dChain, flatO, eqF, oList, oTuple, dLc, lLc, wipeE, dYes, List.set_cons_zero, List.set_cons_succ, List.replicate, isi_NoneType_int, isi_bool_int, isi_int_int, isi_str_int, isi_tuple_int, isi_list_int, isi_dict_int, isi_NoneType_bool, isi_bool_bool, isi_int_bool, isi_str_bool, isi_tuple_bool, isi_list_bool, isi_dict_bool, isi_NoneType_str, isi_bool_str, isi_int_str, isi_str_str, isi_tuple_str, isi_list_str, isi_dict_str, isi_NoneType_tuple, isi_bool_tuple, isi_int_tuple, isi_str_tuple, isi_tuple_tuple, isi_list_tuple, isi_dict_tuple, isi_NoneType_list, isi_bool_list, isi_int_list, isi_str_list, isi_tuple_list, isi_list_list, isi_dict_list, isi_NoneType_dict, isi_bool_dict, isi_int_dict, isi_str_dict, isi_tuple_dict, isi_list_dict, isi_dict_dict, Bd__law_ring_1, Bd__law_turn_1, Bd__law_is_ring_1, Bd__law_times_root_1, Bd__law_mul_1, Bd__law_mul_2, h1, h2, this]
    · have : ¬ x.ev := fun q => h2 q.2
      simp [F_divisible_by_root, dDef, dSeq, dIf, dTru, oBool, dBin, dBind, look_nil, look_z, look_s, dRet, dRetMv, dSkip, dAsg, dExpr, setS, dAug, gSet, gTupO, gsCons, gsNil, dTup, dLst, dCons, dNil, copyO, isFz, isFzs, Mini.fin, oAdd_i, oSub_i, oMul_i, oMod_i, oDiv_i, oAnd_i, oOr_i, oXor_i, oLt_i, oLe_i, oGt_i, oGe_i, oMax_i, oMin_i, negO_i, oAbs_i, oInt_i, oInt_b, oEq_i, oNe_i, eqv_ii, idx_t, idx_l, atI_z, atI_n, atI_lit, ixN_n, ixN_lit, len_t, len_l, oTru, oNot, vAnd, vOr, bAnd, bOr, bNot, dIte, mLog2, rngs_z, rngs_s, line_le, line_lt, dCall, views, okb, noFm, noFms, frz, frzs, dIt, itO, lFor, dFor, dRng1, dRng2, rOk, dApp, dSetI, dFz, dCallX, dCallN, dDefX, dAsgR, dRetR, dExprR, dTry, dIsE, pick_rt, pick_nx, oBits_i, oIsN, oNotN, isNon, oIn, dChain, flatO, eqF, oList, oTuple, dLc, lLc, wipeE, dYes, List.set_cons_zero, List.set_cons_succ, List.replicate, isi_NoneType_int, isi_bool_int, isi_int_int, isi_str_int, isi_tuple_int, isi_list_int, isi_dict_int, isi_NoneType_bool, isi_bool_bool, isi_int_bool, isi_str_bool, isi_tuple_bool, isi_list_bool, isi_dict_bool, isi_NoneType_str, isi_bool_str, isi_int_str, isi_str_str, isi_tuple_str, isi_list_str, isi_dict_str, isi_NoneType_tuple, isi_bool_tuple, isi_int_tuple, isi_str_tuple, isi_tuple_tuple, isi_list_tuple, isi_dict_tuple, isi_NoneType_list, isi_bool_list, isi_int_list, isi_str_list, isi_tuple_list, isi_list_list, isi_dict_list, isi_NoneType_dict, isi_bool_dict, isi_int_dict, isi_str_dict, isi_tuple_dict, isi_list_dict, isi_dict_dict, Bd__law_ring_1, Bd__law_turn_1, Bd__law_is_ring_1, Bd__law_times_root_1, Bd__law_mul_1, Bd__law_mul_2, h1, h2, this]
  · have : ¬ x.ev := fun q => h1 q.1
    simp [F_divisible_by_root, dDef, dSeq, dIf, dTru, oBool, dBin, dBind, look_nil, look_z, look_s, dRet, dRetMv, dSkip, dAsg, dExpr, setS, dAug, gSet, gTupO, gsCons, gsNil, dTup, dLst, dCons, dNil, copyO, isFz, isFzs, Mini.fin, oAdd_i, oSub_i, oMul_i, oMod_i, oDiv_i, oAnd_i, oOr_i, oXor_i, oLt_i, oLe_i, oGt_i, oGe_i, oMax_i, oMin_i, negO_i, oAbs_i, oInt_i, oInt_b, oEq_i, oNe_i, eqv_ii, idx_t, idx_l, atI_z, atI_n, atI_lit, ixN_n, ixN_lit, len_t, len_l, oTru, oNot, vAnd, vOr, bAnd, bOr, bNot, dIte, mLog2, rngs_z, rngs_s, line_le, line_lt, dCall, views, okb, noFm, noFms, frz, frzs, dIt, itO, lFor, dFor, dRng1, dRng2, rOk, dApp, dSetI, dFz, dCallX, dCallN, dDefX, dAsgR, dRetR, dExprR, dTry, dIsE, pick_rt, pick_nx, oBits_i, oIsN, oNotN, isNon, oIn, dChain, flatO, eqF, oList, oTuple, dLc, lLc, wipeE, dYes, List.set_cons_zero, List.set_cons_succ, List.replicate, isi_NoneType_int, isi_bool_int, isi_int_int, isi_str_int, isi_tuple_int, isi_list_int, isi_dict_int, isi_NoneType_bool, isi_bool_bool, isi_int_bool, isi_str_bool, isi_tuple_bool, isi_list_bool, isi_dict_bool, isi_NoneType_str, isi_bool_str, isi_int_str, isi_str_str, isi_tuple_str, isi_list_str, isi_dict_str, isi_NoneType_tuple, isi_bool_tuple, isi_int_tuple, isi_str_tuple, isi_tuple_tuple, isi_list_tuple, isi_dict_tuple, isi_NoneType_list, isi_bool_list, isi_int_list, isi_str_list, isi_tuple_list, isi_list_list, isi_dict_list, isi_NoneType_dict, isi_bool_dict, isi_int_dict, isi_str_dict, isi_tuple_dict, isi_list_dict, isi_dict_dict, Bd__law_ring_1, Bd__law_turn_1, Bd__law_is_ring_1, Bd__law_times_root_1, Bd__law_mul_1, Bd__law_mul_2, h1, this]
theorem p_roots {m : Nat} {x : R} (hx : x.bd m) (n : Nat) (hn : m + n ≤ 100000000) : F__times_roots [x.enc, .int n] = some ((trn n x).enc, [none, none]) := by
  have sa := oShl_B (j := n / 2) hx.1 (by omega)
  have sb := oShl_B (j := n / 2) hx.2.1 (by omega)
  have sc := oShl_B (j := n / 2) hx.2.2.1 (by omega)
  have sd := oShl_B (j := n / 2) hx.2.2.2 (by omega)
  have e2 : (⟨x.a * 2 ^ (n / 2), x.b * 2 ^ (n / 2), x.c * 2 ^ (n / 2), x.d * 2 ^ (n / 2)⟩ : R) = trn (2 * (n / 2)) x := by
    rw [trn_two]
    exact R.ext4 (Int.mul_comm _ _) (Int.mul_comm _ _) (Int.mul_comm _ _) (Int.mul_comm _ _)
  have e3 : trn n x = if n % 2 = 1 then (trn (2 * (n / 2)) x).tr else trn (2 * (n / 2)) x := by
    rcases Nat.mod_two_eq_zero_or_one n with h | h
    · rw [if_neg (by omega), show 2 * (n / 2) = n by omega]
    · rw [if_pos h, ← trn_tr, show (trn (2 * (n / 2)) x.tr) = trn (2 * (n / 2) + 1) x from by rw [Nat.add_comm, trn_add]; rfl, show 2 * (n / 2) + 1 = n by omega]
  rw [e3, ← e2]
  generalize x.a * 2 ^ (n / 2) = A at *
  generalize x.b * 2 ^ (n / 2) = B at *
  generalize x.c * 2 ^ (n / 2) = C at *
  generalize x.d * 2 ^ (n / 2) = D at *
  have tr : F_ring_times_root [.tup [.int A, .int B, .int C, .int D]] = some ((R.tr ⟨A, B, C, D⟩).enc, [none]) := p_tr ⟨A, B, C, D⟩
  clear e2 e3
  obtain ⟨hf, hfe⟩ : ∃ hf, hf = n / 2 := ⟨_, rfl⟩
  have hk : ((n : Int) / 2) = (hf : Int) := by omega
  rw [← hfe] at sa sb sc sd
  rcases Nat.mod_two_eq_zero_or_one n with h | h
  · have h' : ¬ (n : Int) % 2 = 1 := by omega
    rw [if_neg (by omega)]
    simp [F__times_roots, dDef, dSeq, dIf, dTru, oBool, dBin, dBind, look_nil, look_z, look_s, dRet, dRetMv, dSkip, dAsg, dExpr, setS, dAug, gSet, gTupO, gsCons, gsNil, dTup, dLst, dCons, dNil, copyO, isFz, isFzs, Mini.fin, oAdd_i, oSub_i, oMul_i, oMod_i, oDiv_i, oAnd_i, oOr_i, oXor_i, oLt_i, oLe_i, oGt_i, oGe_i, oMax_i, oMin_i, negO_i, oAbs_i, oInt_i, oInt_b, oEq_i, oNe_i, eqv_ii, idx_t, idx_l, atI_z, atI_n, atI_lit, ixN_n, ixN_lit, len_t, len_l, oTru, oNot, vAnd, vOr, bAnd, bOr, bNot, dIte, mLog2, rngs_z, rngs_s, line_le, line_lt, dCall, views, okb, noFm, noFms, frz, frzs, dIt, itO, lFor, dFor, dRng1, dRng2, rOk, dApp, dSetI, dFz, dCallX, dCallN, dDefX, dAsgR, dRetR, dExprR, dTry, dIsE, pick_rt, pick_nx, oBits_i, oIsN, oNotN, isNon, oIn, dChain, flatO, eqF, oList, oTuple, dLc, lLc, wipeE, dYes, List.set_cons_zero, List.set_cons_succ, List.replicate, isi_NoneType_int, isi_bool_int, isi_int_int, isi_str_int, isi_tuple_int, isi_list_int, isi_dict_int, isi_NoneType_bool, isi_bool_bool, isi_int_bool, isi_str_bool, isi_tuple_bool, isi_list_bool, isi_dict_bool, isi_NoneType_str, isi_bool_str, isi_int_str, isi_str_str, isi_tuple_str, isi_list_str, isi_dict_str, isi_NoneType_tuple, isi_bool_tuple, isi_int_tuple, isi_str_tuple, isi_tuple_tuple, isi_list_tuple, isi_dict_tuple, isi_NoneType_list, isi_bool_list, isi_int_list, isi_str_list, isi_tuple_list, isi_list_list, isi_dict_list, isi_NoneType_dict, isi_bool_dict, isi_int_dict, isi_str_dict, isi_tuple_dict, isi_list_dict, isi_dict_dict, Bd__law_ring_1, Bd__law_turn_1, Bd__law_is_ring_1, Bd__law_times_root_1, Bd__law_mul_1, Bd__law_mul_2, hk, sa, sb, sc, sd, h']
  · have h' : (n : Int) % 2 = 1 := by omega
    rw [if_pos h]
    simp [F__times_roots, dDef, dSeq, dIf, dTru, oBool, dBin, dBind, look_nil, look_z, look_s, dRet, dRetMv, dSkip, dAsg, dExpr, setS, dAug, gSet, gTupO, gsCons, gsNil, dTup, dLst, dCons, dNil, copyO, isFz, isFzs, Mini.fin, oAdd_i, oSub_i, oMul_i, oMod_i, oDiv_i, oAnd_i, oOr_i, oXor_i, oLt_i, oLe_i, oGt_i, oGe_i, oMax_i, oMin_i, negO_i, oAbs_i, oInt_i, oInt_b, oEq_i, oNe_i, eqv_ii, idx_t, idx_l, atI_z, atI_n, atI_lit, ixN_n, ixN_lit, len_t, len_l, oTru, oNot, vAnd, vOr, bAnd, bOr, bNot, dIte, mLog2, rngs_z, rngs_s, line_le, line_lt, dCall, views, okb, noFm, noFms, frz, frzs, dIt, itO, lFor, dFor, dRng1, dRng2, rOk, dApp, dSetI, dFz, dCallX, dCallN, dDefX, dAsgR, dRetR, dExprR, dTry, dIsE, pick_rt, pick_nx, oBits_i, oIsN, oNotN, isNon, oIn, dChain, flatO, eqF, oList, oTuple, dLc, lLc, wipeE, dYes, List.set_cons_zero, List.set_cons_succ, List.replicate, isi_NoneType_int, isi_bool_int, isi_int_int, isi_str_int, isi_tuple_int, isi_list_int, isi_dict_int, isi_NoneType_bool, isi_bool_bool, isi_int_bool, isi_str_bool, isi_tuple_bool, isi_list_bool, isi_dict_bool, isi_NoneType_str, isi_bool_str, isi_int_str, isi_str_str, isi_tuple_str, isi_list_str, isi_dict_str, isi_NoneType_tuple, isi_bool_tuple, isi_int_tuple, isi_str_tuple, isi_tuple_tuple, isi_list_tuple, isi_dict_tuple, isi_NoneType_list, isi_bool_list, isi_int_list, isi_str_list, isi_tuple_list, isi_list_list, isi_dict_list, isi_NoneType_dict, isi_bool_dict, isi_int_dict, isi_str_dict, isi_tuple_dict, isi_list_dict, isi_dict_dict, Bd__law_ring_1, Bd__law_turn_1, Bd__law_is_ring_1, Bd__law_times_root_1, Bd__law_mul_1, Bd__law_mul_2, hk, sa, sb, sc, sd, h', tr]
theorem p_twos {x : R} (h : x ≠ R.zero) : ∃ t : Nat, F__twos [x.enc] = some (.int t, [none]) ∧ x.dv t ∧ ¬ x.dv (t + 1) := by
  obtain ⟨t, h1, h2, h3⟩ := R.twos h
  exact ⟨t, by simp [F__twos, dDef, dSeq, dIf, dTru, oBool, dBin, dBind, look_nil, look_z, look_s, dRet, dRetMv, dSkip, dAsg, dExpr, setS, dAug, gSet, gTupO, gsCons, gsNil, dTup, dLst, dCons, dNil, copyO, isFz, isFzs, Mini.fin, oAdd_i, oSub_i, oMul_i, oMod_i, oDiv_i, oAnd_i, oOr_i, oXor_i, oLt_i, oLe_i, oGt_i, oGe_i, oMax_i, oMin_i, negO_i, oAbs_i, oInt_i, oInt_b, oEq_i, oNe_i, eqv_ii, idx_t, idx_l, atI_z, atI_n, atI_lit, ixN_n, ixN_lit, len_t, len_l, oTru, oNot, vAnd, vOr, bAnd, bOr, bNot, dIte, mLog2, rngs_z, rngs_s, line_le, line_lt, dCall, views, okb, noFm, noFms, frz, frzs, dIt, itO, lFor, dFor, dRng1, dRng2, rOk, dApp, dSetI, dFz, dCallX, dCallN, dDefX, dAsgR, dRetR, dExprR, dTry, dIsE, pick_rt, pick_nx, oBits_i, oIsN, oNotN, isNon, oIn, dChain, flatO, eqF, oList, oTuple, dLc, lLc, wipeE, dYes, List.set_cons_zero, List.set_cons_succ, List.replicate, isi_NoneType_int, isi_bool_int, isi_int_int, isi_str_int, isi_tuple_int, isi_list_int, isi_dict_int, isi_NoneType_bool, isi_bool_bool, isi_int_bool, isi_str_bool, isi_tuple_bool, isi_list_bool, isi_dict_bool, isi_NoneType_str, isi_bool_str, isi_int_str, isi_str_str, isi_tuple_str, isi_list_str, isi_dict_str, isi_NoneType_tuple, isi_bool_tuple, isi_int_tuple, isi_str_tuple, isi_tuple_tuple, isi_list_tuple, isi_dict_tuple, isi_NoneType_list, isi_bool_list, isi_int_list, isi_str_list, isi_tuple_list, isi_list_list, isi_dict_list, isi_NoneType_dict, isi_bool_dict, isi_int_dict, isi_str_dict, isi_tuple_dict, isi_list_dict, isi_dict_dict, Bd__law_ring_1, Bd__law_turn_1, Bd__law_is_ring_1, Bd__law_times_root_1, Bd__law_mul_1, Bd__law_mul_2, h1, intBits_pow], h2, h3⟩
theorem p_sr (x : R) (n : Nat) : F__shifted_right [x.enc, .int n] = some ((x.sr n).enc, [none, none]) := by
  simp [F__shifted_right, dDef, dSeq, dIf, dTru, oBool, dBin, dBind, look_nil, look_z, look_s, dRet, dRetMv, dSkip, dAsg, dExpr, setS, dAug, gSet, gTupO, gsCons, gsNil, dTup, dLst, dCons, dNil, copyO, isFz, isFzs, Mini.fin, oAdd_i, oSub_i, oMul_i, oMod_i, oDiv_i, oAnd_i, oOr_i, oXor_i, oLt_i, oLe_i, oGt_i, oGe_i, oMax_i, oMin_i, negO_i, oAbs_i, oInt_i, oInt_b, oEq_i, oNe_i, eqv_ii, idx_t, idx_l, atI_z, atI_n, atI_lit, ixN_n, ixN_lit, len_t, len_l, oTru, oNot, vAnd, vOr, bAnd, bOr, bNot, dIte, mLog2, rngs_z, rngs_s, line_le, line_lt, dCall, views, okb, noFm, noFms, frz, frzs, dIt, itO, lFor, dFor, dRng1, dRng2, rOk, dApp, dSetI, dFz, dCallX, dCallN, dDefX, dAsgR, dRetR, dExprR, dTry, dIsE, pick_rt, pick_nx, oBits_i, oIsN, oNotN, isNon, oIn, dChain, flatO, eqF, oList, oTuple, dLc, lLc, wipeE, dYes, List.set_cons_zero, List.set_cons_succ, List.replicate, isi_NoneType_int, isi_bool_int, isi_int_int, isi_str_int, isi_tuple_int, isi_list_int, isi_dict_int, isi_NoneType_bool, isi_bool_bool, isi_int_bool, isi_str_bool, isi_tuple_bool, isi_list_bool, isi_dict_bool, isi_NoneType_str, isi_bool_str, isi_int_str, isi_str_str, isi_tuple_str, isi_list_str, isi_dict_str, isi_NoneType_tuple, isi_bool_tuple, isi_int_tuple, isi_str_tuple, isi_tuple_tuple, isi_list_tuple, isi_dict_tuple, isi_NoneType_list, isi_bool_list, isi_int_list, isi_str_list, isi_tuple_list, isi_list_list, isi_dict_list, isi_NoneType_dict, isi_bool_dict, isi_int_dict, isi_str_dict, isi_tuple_dict, isi_list_dict, isi_dict_dict, Bd__law_ring_1, Bd__law_turn_1, Bd__law_is_ring_1, Bd__law_times_root_1, Bd__law_mul_1, Bd__law_mul_2, oShr_n, R.sr]
theorem p_ov {x : R} (h : x.ev) : F_ring_over_root [x.enc] = some (x.ov.enc, [none]) := by
  simp [F_ring_over_root, dDef, dSeq, dIf, dTru, oBool, dBin, dBind, look_nil, look_z, look_s, dRet, dRetMv, dSkip, dAsg, dExpr, setS, dAug, gSet, gTupO, gsCons, gsNil, dTup, dLst, dCons, dNil, copyO, isFz, isFzs, Mini.fin, oAdd_i, oSub_i, oMul_i, oMod_i, oDiv_i, oAnd_i, oOr_i, oXor_i, oLt_i, oLe_i, oGt_i, oGe_i, oMax_i, oMin_i, negO_i, oAbs_i, oInt_i, oInt_b, oEq_i, oNe_i, eqv_ii, idx_t, idx_l, atI_z, atI_n, atI_lit, ixN_n, ixN_lit, len_t, len_l, oTru, oNot, vAnd, vOr, bAnd, bOr, bNot, dIte, mLog2, rngs_z, rngs_s, line_le, line_lt, dCall, views, okb, noFm, noFms, frz, frzs, dIt, itO, lFor, dFor, dRng1, dRng2, rOk, dApp, dSetI, dFz, dCallX, dCallN, dDefX, dAsgR, dRetR, dExprR, dTry, dIsE, pick_rt, pick_nx, oBits_i, oIsN, oNotN, isNon, oIn, dChain, flatO, eqF, oList, oTuple, dLc, lLc, wipeE, dYes, List.set_cons_zero, List.set_cons_succ, List.replicate, isi_NoneType_int, isi_bool_int, isi_int_int, isi_str_int, isi_tuple_int, isi_list_int, isi_dict_int, isi_NoneType_bool, isi_bool_bool, isi_int_bool, isi_str_bool, isi_tuple_bool, isi_list_bool, isi_dict_bool, isi_NoneType_str, isi_bool_str, isi_int_str, isi_str_str, isi_tuple_str, isi_list_str, isi_dict_str, isi_NoneType_tuple, isi_bool_tuple, isi_int_tuple, isi_str_tuple, isi_tuple_tuple, isi_list_tuple, isi_dict_tuple, isi_NoneType_list, isi_bool_list, isi_int_list, isi_str_list, isi_tuple_list, isi_list_list, isi_dict_list, isi_NoneType_dict, isi_bool_dict, isi_int_dict, isi_str_dict, isi_tuple_dict, isi_list_dict, isi_dict_dict, Bd__law_ring_1, Bd__law_turn_1, Bd__law_is_ring_1, Bd__law_times_root_1, Bd__law_mul_1, Bd__law_mul_2, p_ev, p_tr, h, R.ov, R.tr]
theorem p_low_neg {m : Nat} {x : R} (hx : x.bd m) (n : Nat) (hn : m + n ≤ 100000000) (h0 : 0 < n) : F_lowest [x.enc, .int (-(n : Int))] = some (.tup [(trn n x).enc, .int 0], [none, none]) := by
  simp [F_lowest, dDef, dSeq, dIf, dTru, oBool, dBin, dBind, look_nil, look_z, look_s, dRet, dRetMv, dSkip, dAsg, dExpr, setS, dAug, gSet, gTupO, gsCons, gsNil, dTup, dLst, dCons, dNil, copyO, isFz, isFzs, Mini.fin, oAdd_i, oSub_i, oMul_i, oMod_i, oDiv_i, oAnd_i, oOr_i, oXor_i, oLt_i, oLe_i, oGt_i, oGe_i, oMax_i, oMin_i, negO_i, oAbs_i, oInt_i, oInt_b, oEq_i, oNe_i, eqv_ii, idx_t, idx_l, atI_z, atI_n, atI_lit, ixN_n, ixN_lit, len_t, len_l, oTru, oNot, vAnd, vOr, bAnd, bOr, bNot, dIte, mLog2, rngs_z, rngs_s, line_le, line_lt, dCall, views, okb, noFm, noFms, frz, frzs, dIt, itO, lFor, dFor, dRng1, dRng2, rOk, dApp, dSetI, dFz, dCallX, dCallN, dDefX, dAsgR, dRetR, dExprR, dTry, dIsE, pick_rt, pick_nx, oBits_i, oIsN, oNotN, isNon, oIn, dChain, flatO, eqF, oList, oTuple, dLc, lLc, wipeE, dYes, List.set_cons_zero, List.set_cons_succ, List.replicate, isi_NoneType_int, isi_bool_int, isi_int_int, isi_str_int, isi_tuple_int, isi_list_int, isi_dict_int, isi_NoneType_bool, isi_bool_bool, isi_int_bool, isi_str_bool, isi_tuple_bool, isi_list_bool, isi_dict_bool, isi_NoneType_str, isi_bool_str, isi_int_str, isi_str_str, isi_tuple_str, isi_list_str, isi_dict_str, isi_NoneType_tuple, isi_bool_tuple, isi_int_tuple, isi_str_tuple, isi_tuple_tuple, isi_list_tuple, isi_dict_tuple, isi_NoneType_list, isi_bool_list, isi_int_list, isi_str_list, isi_tuple_list, isi_list_list, isi_dict_list, isi_NoneType_dict, isi_bool_dict, isi_int_dict, isi_str_dict, isi_tuple_dict, isi_list_dict, isi_dict_dict, Bd__law_ring_1, Bd__law_turn_1, Bd__law_is_ring_1, Bd__law_times_root_1, Bd__law_mul_1, Bd__law_mul_2, p_roots hx n hn, h0]
theorem p_low (x : R) (e : Nat) (he : e < 18446744073709551616) : ∃ y k, F_lowest [x.enc, .int e] = some (.tup [y.enc, .int ((k : Nat) : Int)], [none, none]) ∧ Low x e y k := by
  have z0 : ¬ (e : Int) < 0 := by omega
  by_cases h : e = 0 ∨ ¬ x.ev
  · refine ⟨x, e, ?_, Low.nf h⟩
    rcases h with h | h
    · subst h; simp [F_lowest, dDef, dSeq, dIf, dTru, oBool, dBin, dBind, look_nil, look_z, look_s, dRet, dRetMv, dSkip, dAsg, dExpr, setS, dAug, gSet, gTupO, gsCons, gsNil, dTup, dLst, dCons, dNil, copyO, isFz, isFzs, Mini.fin, oAdd_i, oSub_i, oMul_i, oMod_i, oDiv_i, oAnd_i, oOr_i, oXor_i, oLt_i, oLe_i, oGt_i, oGe_i, oMax_i, oMin_i, negO_i, oAbs_i, oInt_i, oInt_b, oEq_i, oNe_i, eqv_ii, idx_t, idx_l, atI_z, atI_n, atI_lit, ixN_n, ixN_lit, len_t, len_l, oTru, oNot, vAnd, vOr, bAnd, bOr, bNot, dIte, mLog2, rngs_z, rngs_s, line_le, line_lt, dCall, views, okb, noFm, noFms, frz, frzs, dIt, itO, lFor, dFor, dRng1, dRng2, rOk, dApp, dSetI, dFz, dCallX, dCallN, dDefX, dAsgR, dRetR, dExprR, dTry, dIsE, pick_rt, pick_nx, oBits_i, oIsN, oNotN, isNon, oIn, dChain, flatO, eqF, oList, oTuple, dLc, lLc, wipeE, dYes, List.set_cons_zero, List.set_cons_succ, List.replicate, isi_NoneType_int, isi_bool_int, isi_int_int, isi_str_int, isi_tuple_int, isi_list_int, isi_dict_int, isi_NoneType_bool, isi_bool_bool, isi_int_bool, isi_str_bool, isi_tuple_bool, isi_list_bool, isi_dict_bool, isi_NoneType_str, isi_bool_str, isi_int_str, isi_str_str, isi_tuple_str, isi_list_str, isi_dict_str, isi_NoneType_tuple, isi_bool_tuple, isi_int_tuple, isi_str_tuple, isi_tuple_tuple, isi_list_tuple, isi_dict_tuple, isi_NoneType_list, isi_bool_list, isi_int_list, isi_str_list, isi_tuple_list, isi_list_list, isi_dict_list, isi_NoneType_dict, isi_bool_dict, isi_int_dict, isi_str_dict, isi_tuple_dict, isi_list_dict, isi_dict_dict, Bd__law_ring_1, Bd__law_turn_1, Bd__law_is_ring_1, Bd__law_times_root_1, Bd__law_mul_1, Bd__law_mul_2]
    · by_cases h2 : e = 0
      · subst h2; simp [F_lowest, dDef, dSeq, dIf, dTru, oBool, dBin, dBind, look_nil, look_z, look_s, dRet, dRetMv, dSkip, dAsg, dExpr, setS, dAug, gSet, gTupO, gsCons, gsNil, dTup, dLst, dCons, dNil, copyO, isFz, isFzs, Mini.fin, oAdd_i, oSub_i, oMul_i, oMod_i, oDiv_i, oAnd_i, oOr_i, oXor_i, oLt_i, oLe_i, oGt_i, oGe_i, oMax_i, oMin_i, negO_i, oAbs_i, oInt_i, oInt_b, oEq_i, oNe_i, eqv_ii, idx_t, idx_l, atI_z, atI_n, atI_lit, ixN_n, ixN_lit, len_t, len_l, oTru, oNot, vAnd, vOr, bAnd, bOr, bNot, dIte, mLog2, rngs_z, rngs_s, line_le, line_lt, dCall, views, okb, noFm, noFms, frz, frzs, dIt, itO, lFor, dFor, dRng1, dRng2, rOk, dApp, dSetI, dFz, dCallX, dCallN, dDefX, dAsgR, dRetR, dExprR, dTry, dIsE, pick_rt, pick_nx, oBits_i, oIsN, oNotN, isNon, oIn, dChain, flatO, eqF, oList, oTuple, dLc, lLc, wipeE, dYes, List.set_cons_zero, List.set_cons_succ, List.replicate, isi_NoneType_int, isi_bool_int, isi_int_int, isi_str_int, isi_tuple_int, isi_list_int, isi_dict_int, isi_NoneType_bool, isi_bool_bool, isi_int_bool, isi_str_bool, isi_tuple_bool, isi_list_bool, isi_dict_bool, isi_NoneType_str, isi_bool_str, isi_int_str, isi_str_str, isi_tuple_str, isi_list_str, isi_dict_str, isi_NoneType_tuple, isi_bool_tuple, isi_int_tuple, isi_str_tuple, isi_tuple_tuple, isi_list_tuple, isi_dict_tuple, isi_NoneType_list, isi_bool_list, isi_int_list, isi_str_list, isi_tuple_list, isi_list_list, isi_dict_list, isi_NoneType_dict, isi_bool_dict, isi_int_dict, isi_str_dict, isi_tuple_dict, isi_list_dict, isi_dict_dict, Bd__law_ring_1, Bd__law_turn_1, Bd__law_is_ring_1, Bd__law_times_root_1, Bd__law_mul_1, Bd__law_mul_2]
      · simp [F_lowest, dDef, dSeq, dIf, dTru, oBool, dBin, dBind, look_nil, look_z, look_s, dRet, dRetMv, dSkip, dAsg, dExpr, setS, dAug, gSet, gTupO, gsCons, gsNil, dTup, dLst, dCons, dNil, copyO, isFz, isFzs, Mini.fin, oAdd_i, oSub_i, oMul_i, oMod_i, oDiv_i, oAnd_i, oOr_i, oXor_i, oLt_i, oLe_i, oGt_i, oGe_i, oMax_i, oMin_i, negO_i, oAbs_i, oInt_i, oInt_b, oEq_i, oNe_i, eqv_ii, idx_t, idx_l, atI_z, atI_n, atI_lit, ixN_n, ixN_lit, len_t, len_l, oTru, oNot, vAnd, vOr, bAnd, bOr, bNot, dIte, mLog2, rngs_z, rngs_s, line_le, line_lt, dCall, views, okb, noFm, noFms, frz, frzs, dIt, itO, lFor, dFor, dRng1, dRng2, rOk, dApp, dSetI, dFz, dCallX, dCallN, dDefX, dAsgR, dRetR, dExprR, dTry, dIsE, pick_rt, pick_nx, oBits_i, oIsN, oNotN, isNon, oIn, dChain, flatO, eqF, oList, oTuple, dLc, lLc, wipeE, dYes, List.set_cons_zero, List.set_cons_succ, List.replicate, isi_NoneType_int, isi_bool_int, isi_int_int, isi_str_int, isi_tuple_int, isi_list_int, isi_dict_int, isi_NoneType_bool, isi_bool_bool, isi_int_bool, isi_str_bool, isi_tuple_bool, isi_list_bool, isi_dict_bool, isi_NoneType_str, isi_bool_str, isi_int_str, isi_str_str, isi_tuple_str, isi_list_str, isi_dict_str, isi_NoneType_tuple, isi_bool_tuple, isi_int_tuple, isi_str_tuple, isi_tuple_tuple, isi_list_tuple, isi_dict_tuple, isi_NoneType_list, isi_bool_list, isi_int_list, isi_str_list, isi_tuple_list, isi_list_list, isi_dict_list, isi_NoneType_dict, isi_bool_dict, isi_int_dict, isi_str_dict, isi_tuple_dict, isi_list_dict, isi_dict_dict, Bd__law_ring_1, Bd__law_turn_1, Bd__law_is_ring_1, Bd__law_times_root_1, Bd__law_mul_1, Bd__law_mul_2, p_ev, h, h2, z0]
  · have h1 : ¬ e = 0 := fun q => h (.inl q)
    have h2 : x.ev := Classical.byContradiction fun q => h (.inr q)
    have q0 := R.eq_enc x R.zero
    by_cases hz : x = R.zero
    · subst hz
      refine ⟨R.zero, 0, ?_, Low.zero e⟩
      have q0 : oEq (.tup [.int 0, .int 0, .int 0, .int 0]) (.tup [.int 0, .int 0, .int 0, .int 0]) = some (.bl true) := q0
      have ev : F_divisible_by_root [.tup [.int 0, .int 0, .int 0, .int 0]] = some (.bl true, [none]) := p_ev R.zero
      simp [F_lowest, dDef, dSeq, dIf, dTru, oBool, dBin, dBind, look_nil, look_z, look_s, dRet, dRetMv, dSkip, dAsg, dExpr, setS, dAug, gSet, gTupO, gsCons, gsNil, dTup, dLst, dCons, dNil, copyO, isFz, isFzs, Mini.fin, oAdd_i, oSub_i, oMul_i, oMod_i, oDiv_i, oAnd_i, oOr_i, oXor_i, oLt_i, oLe_i, oGt_i, oGe_i, oMax_i, oMin_i, negO_i, oAbs_i, oInt_i, oInt_b, oEq_i, oNe_i, eqv_ii, idx_t, idx_l, atI_z, atI_n, atI_lit, ixN_n, ixN_lit, len_t, len_l, oTru, oNot, vAnd, vOr, bAnd, bOr, bNot, dIte, mLog2, rngs_z, rngs_s, line_le, line_lt, dCall, views, okb, noFm, noFms, frz, frzs, dIt, itO, lFor, dFor, dRng1, dRng2, rOk, dApp, dSetI, dFz, dCallX, dCallN, dDefX, dAsgR, dRetR, dExprR, dTry, dIsE, pick_rt, pick_nx, oBits_i, oIsN, oNotN, isNon, oIn, dChain, flatO, eqF, oList, oTuple, dLc, lLc, wipeE, dYes, List.set_cons_zero, List.set_cons_succ, List.replicate, isi_NoneType_int, isi_bool_int, isi_int_int, isi_str_int, isi_tuple_int, isi_list_int, isi_dict_int, isi_NoneType_bool, isi_bool_bool, isi_int_bool, isi_str_bool, isi_tuple_bool, isi_list_bool, isi_dict_bool, isi_NoneType_str, isi_bool_str, isi_int_str, isi_str_str, isi_tuple_str, isi_list_str, isi_dict_str, isi_NoneType_tuple, isi_bool_tuple, isi_int_tuple, isi_str_tuple, isi_tuple_tuple, isi_list_tuple, isi_dict_tuple, isi_NoneType_list, isi_bool_list, isi_int_list, isi_str_list, isi_tuple_list, isi_list_list, isi_dict_list, isi_NoneType_dict, isi_bool_dict, isi_int_dict, isi_str_dict, isi_tuple_dict, isi_list_dict, isi_dict_dict, Bd__law_ring_1, Bd__law_turn_1, Bd__law_is_ring_1, Bd__law_times_root_1, Bd__law_mul_1, Bd__law_mul_2, R.zero, h1, z0, ev, q0, c_ZERO]
    · have q0 : oEq x.enc (.tup [.int 0, .int 0, .int 0, .int 0]) = some (.bl false) := by rw [decide_eq_false hz] at q0; exact q0
      obtain ⟨t, e1, e2, e3⟩ := p_twos hz
      have pe := p_ev x
      rw [decide_eq_true h2] at pe
      obtain ⟨hv, hm⟩ : ∃ hv : Nat, min (t : Int) ((e : Int) / 2) = (hv : Int) ∧ hv ≤ t ∧ 2 * hv ≤ e ∧ (hv = t ∨ e < 2 * hv + 2) := ⟨min t (e / 2), by omega, by omega, by omega, by omega⟩
      obtain ⟨hm, l1, l2, l3⟩ := hm
      have pv := p_ev (x.sr hv)
      have ps := p_sr x hv
      have dv := e2.le l1
      have val := R.dv_sr dv
      obtain ⟨f, hf⟩ : ∃ f : Nat, f = e - 2 * hv := ⟨_, rfl⟩
      have hf' : (e : Int) - 2 * (hv : Int) = (f : Int) := by omega
      have ml : mulOk 2 (hv : Int) = true := (B.small (x := 2) (by decide) (by decide)).ok (n := 64) (show ((hv : Nat) : Int).natAbs < 2 ^ 64 by simp; omega)
      by_cases h5 : 0 < f ∧ (x.sr hv).ev
      · refine ⟨(x.sr hv).ov, f - 1, ?_, by omega, ?_, ?_⟩
        · rw [decide_eq_true h5.2] at pv
          simp [F_lowest, dDef, dSeq, dIf, dTru, oBool, dBin, dBind, look_nil, look_z, look_s, dRet, dRetMv, dSkip, dAsg, dExpr, setS, dAug, gSet, gTupO, gsCons, gsNil, dTup, dLst, dCons, dNil, copyO, isFz, isFzs, Mini.fin, oAdd_i, oSub_i, oMul_i, oMod_i, oDiv_i, oAnd_i, oOr_i, oXor_i, oLt_i, oLe_i, oGt_i, oGe_i, oMax_i, oMin_i, negO_i, oAbs_i, oInt_i, oInt_b, oEq_i, oNe_i, eqv_ii, idx_t, idx_l, atI_z, atI_n, atI_lit, ixN_n, ixN_lit, len_t, len_l, oTru, oNot, vAnd, vOr, bAnd, bOr, bNot, dIte, mLog2, rngs_z, rngs_s, line_le, line_lt, dCall, views, okb, noFm, noFms, frz, frzs, dIt, itO, lFor, dFor, dRng1, dRng2, rOk, dApp, dSetI, dFz, dCallX, dCallN, dDefX, dAsgR, dRetR, dExprR, dTry, dIsE, pick_rt, pick_nx, oBits_i, oIsN, oNotN, isNon, oIn, dChain, flatO, eqF, oList, oTuple, dLc, lLc, wipeE, dYes, List.set_cons_zero, List.set_cons_succ, List.replicate, isi_NoneType_int, isi_bool_int, isi_int_int, isi_str_int, isi_tuple_int, isi_list_int, isi_dict_int, isi_NoneType_bool, isi_bool_bool, isi_int_bool, isi_str_bool, isi_tuple_bool, isi_list_bool, isi_dict_bool, isi_NoneType_str, isi_bool_str, isi_int_str, isi_str_str, isi_tuple_str, isi_list_str, isi_dict_str, isi_NoneType_tuple, isi_bool_tuple, isi_int_tuple, isi_str_tuple, isi_tuple_tuple, isi_list_tuple, isi_dict_tuple, isi_NoneType_list, isi_bool_list, isi_int_list, isi_str_list, isi_tuple_list, isi_list_list, isi_dict_list, isi_NoneType_dict, isi_bool_dict, isi_int_dict, isi_str_dict, isi_tuple_dict, isi_list_dict, isi_dict_dict, Bd__law_ring_1, Bd__law_turn_1, Bd__law_is_ring_1, Bd__law_times_root_1, Bd__law_mul_1, Bd__law_mul_2, h1, z0, pe, q0, e1, hm, ps, ml, hf', pv, h5.1, p_ov h5.2]
          omega
        · rw [show e - (f - 1) = 1 + 2 * hv by omega, trn_add]
          show x = trn (2 * hv) (x.sr hv).ov.tr
          rw [R.ov_tr h5.2]
          exact val
        · rcases l3 with l3 | l3
          · subst l3
            exact .inr (R.dv_more e2 e3 h5.2)
          · exact .inl (by omega)
      · refine ⟨x.sr hv, f, ?_, by omega, ?_, ?_⟩
        · by_cases h6 : 0 < f
          · have h7 : ¬ (x.sr hv).ev := fun q => h5 ⟨h6, q⟩
            rw [decide_eq_false h7] at pv
            simp [F_lowest, dDef, dSeq, dIf, dTru, oBool, dBin, dBind, look_nil, look_z, look_s, dRet, dRetMv, dSkip, dAsg, dExpr, setS, dAug, gSet, gTupO, gsCons, gsNil, dTup, dLst, dCons, dNil, copyO, isFz, isFzs, Mini.fin, oAdd_i, oSub_i, oMul_i, oMod_i, oDiv_i, oAnd_i, oOr_i, oXor_i, oLt_i, oLe_i, oGt_i, oGe_i, oMax_i, oMin_i, negO_i, oAbs_i, oInt_i, oInt_b, oEq_i, oNe_i, eqv_ii, idx_t, idx_l, atI_z, atI_n, atI_lit, ixN_n, ixN_lit, len_t, len_l, oTru, oNot, vAnd, vOr, bAnd, bOr, bNot, dIte, mLog2, rngs_z, rngs_s, line_le, line_lt, dCall, views, okb, noFm, noFms, frz, frzs, dIt, itO, lFor, dFor, dRng1, dRng2, rOk, dApp, dSetI, dFz, dCallX, dCallN, dDefX, dAsgR, dRetR, dExprR, dTry, dIsE, pick_rt, pick_nx, oBits_i, oIsN, oNotN, isNon, oIn, dChain, flatO, eqF, oList, oTuple, dLc, lLc, wipeE, dYes, List.set_cons_zero, List.set_cons_succ, List.replicate, isi_NoneType_int, isi_bool_int, isi_int_int, isi_str_int, isi_tuple_int, isi_list_int, isi_dict_int, isi_NoneType_bool, isi_bool_bool, isi_int_bool, isi_str_bool, isi_tuple_bool, isi_list_bool, isi_dict_bool, isi_NoneType_str, isi_bool_str, isi_int_str, isi_str_str, isi_tuple_str, isi_list_str, isi_dict_str, isi_NoneType_tuple, isi_bool_tuple, isi_int_tuple, isi_str_tuple, isi_tuple_tuple, isi_list_tuple, isi_dict_tuple, isi_NoneType_list, isi_bool_list, isi_int_list, isi_str_list, isi_tuple_list, isi_list_list, isi_dict_list, isi_NoneType_dict, isi_bool_dict, isi_int_dict, isi_str_dict, isi_tuple_dict, isi_list_dict, isi_dict_dict, Bd__law_ring_1, Bd__law_turn_1, Bd__law_is_ring_1, Bd__law_times_root_1, Bd__law_mul_1, Bd__law_mul_2, h1, z0, pe, q0, e1, hm, ps, ml, hf', pv, h6]
          · simp [F_lowest, dDef, dSeq, dIf, dTru, oBool, dBin, dBind, look_nil, look_z, look_s, dRet, dRetMv, dSkip, dAsg, dExpr, setS, dAug, gSet, gTupO, gsCons, gsNil, dTup, dLst, dCons, dNil, copyO, isFz, isFzs, Mini.fin, oAdd_i, oSub_i, oMul_i, oMod_i, oDiv_i, oAnd_i, oOr_i, oXor_i, oLt_i, oLe_i, oGt_i, oGe_i, oMax_i, oMin_i, negO_i, oAbs_i, oInt_i, oInt_b, oEq_i, oNe_i, eqv_ii, idx_t, idx_l, atI_z, atI_n, atI_lit, ixN_n, ixN_lit, len_t, len_l, oTru, oNot, vAnd, vOr, bAnd, bOr, bNot, dIte, mLog2, rngs_z, rngs_s, line_le, line_lt, dCall, views, okb, noFm, noFms, frz, frzs, dIt, itO, lFor, dFor, dRng1, dRng2, rOk, dApp, dSetI, dFz, dCallX, dCallN, dDefX, dAsgR, dRetR, dExprR, dTry, dIsE, pick_rt, pick_nx, oBits_i, oIsN, oNotN, isNon, oIn, dChain, flatO, eqF, oList, oTuple, dLc, lLc, wipeE, dYes, List.set_cons_zero, List.set_cons_succ, List.replicate, isi_NoneType_int, isi_bool_int, isi_int_int, isi_str_int, isi_tuple_int, isi_list_int, isi_dict_int, isi_NoneType_bool, isi_bool_bool, isi_int_bool, isi_str_bool, isi_tuple_bool, isi_list_bool, isi_dict_bool, isi_NoneType_str, isi_bool_str, isi_int_str, isi_str_str, isi_tuple_str, isi_list_str, isi_dict_str, isi_NoneType_tuple, isi_bool_tuple, isi_int_tuple, isi_str_tuple, isi_tuple_tuple, isi_list_tuple, isi_dict_tuple, isi_NoneType_list, isi_bool_list, isi_int_list, isi_str_list, isi_tuple_list, isi_list_list, isi_dict_list, isi_NoneType_dict, isi_bool_dict, isi_int_dict, isi_str_dict, isi_tuple_dict, isi_list_dict, isi_dict_dict, Bd__law_ring_1, Bd__law_turn_1, Bd__law_is_ring_1, Bd__law_times_root_1, Bd__law_mul_1, Bd__law_mul_2, h1, z0, pe, q0, e1, hm, ps, ml, hf', h6]
        · rw [show e - f = 2 * hv by omega]
          exact val
        · by_cases h6 : f = 0
          · exact .inl h6
          · exact .inr fun q => h5 ⟨by omega, q⟩
theorem p_lowest {m : Nat} {x : R} (hx : x.bd m) (i : Int) (hm : m ≤ 50000000) (h1 : -1000 < i) (h2 : i < 1000) : ∃ y k, F_lowest [x.enc, .int i] = some (.tup [y.enc, .int ((k : Nat) : Int)], [none, none]) ∧ Low (trn (-i).toNat x) i.toNat y k := by
  by_cases h : 0 ≤ i
  · obtain ⟨n, rfl⟩ : ∃ n : Nat, i = n := ⟨i.toNat, by omega⟩
    obtain ⟨y, k, e, l⟩ := p_low x n (by omega)
    refine ⟨y, k, e, ?_⟩
    rw [show (-(n : Int)).toNat = 0 by omega, show (n : Int).toNat = n by omega]
    exact l
  · obtain ⟨n, rfl⟩ : ∃ n : Nat, i = -(n : Int) := ⟨(-i).toNat, by omega⟩
    refine ⟨trn n x, 0, p_low_neg hx n (by omega) (by omega), ?_⟩
    rw [show (- -(n : Int)).toNat = n by omega, show (-(n : Int)).toNat = 0 by omega]
    exact Low.nf (.inl rfl)
theorem low_next {x : R} {i : Int} {y y' : R} {k k' : Nat} (h : Low (trn (-i).toNat x) i.toNat y k) (h' : Low (trn (-(i+1)).toNat x.tr) (i+1).toNat y' k') : y' = y ∧ k' = k := by
  by_cases q : 0 ≤ i
  · rw [show (-i).toNat = 0 by omega] at h
    rw [show (-(i+1)).toNat = 0 by omega, show (i+1).toNat = i.toNat + 1 by omega] at h'
    exact h'.uniq h.tr
  · rw [show (-i).toNat = (-(i+1)).toNat + 1 by omega, show i.toNat = 0 by omega] at h
    rw [show (i+1).toNat = 0 by omega] at h'
    exact h'.uniq h
theorem num_core (a b c d a' b' c' d' K E' D : Int) (T I J : Fn) (E EN : O → O → Option O) (IT : O → Option O) (MX : O → O → Option O)
   (t1 : T [encR a b c d, .int D] = some (encR a' b' c' d', [none, none])) (t2 : T [encR a' b' c' d', .int 0] = some (encR a' b' c' d', [none, none]))
   (i1 : J [encR a b c d] = some (.bl true, [none])) (hI : ∀ i, I [.int i] = some (.bl true, [none])) (hT : ∀ os, IT (.tup os) = some (.bl true))
   (q1 : E (encR a b c d) (encR 0 0 0 0) = some (.bl false)) (q2 : E (encR a' b' c' d') (encR 0 0 0 0) = some (.bl false)) (q4 : E (encR a' b' c' d') (encR a' b' c' d') = some (.bl true))
   (hE : ∀ i j, E (.int i) (.int j) = some (.bl (decide (i = j)))) (hEN : ∀ i j, EN (.int i) (.int j) = some (.bl (decide (i ≠ j))))
   (m1 : MX (.int 0) (.int (E' - K)) = some (.int D)) (m2 : MX (.int 0) (.int (K - E')) = some (.int 0)) (k0 : ¬ K < 0) (ev : ¬ (0 < K ∧ (a + c) % 2 = 0 ∧ (b + d) % 2 = 0)) :
   (dDef (fun _ => false) 3 4 (dSeq (dIf (bOr (bNot (dTru oTru (dBind (fun ρ => look ρ 0) IT))) (dTru oBool (dBin EN (dBind (fun ρ => look ρ 0) oLen) (fun _ => some (.int 2)))))
  (dRet (fun _ => some (.bl false)))
  dSkip)
  (dSeq (dIf (bOr (bNot (dTru oTru (dCall [true] J (dCons (dBin oIdx (fun ρ => look ρ 0) (fun _ => some (.int 0))) dNil)))) (bOr (bNot (dTru oTru (dCall [true] I (dCons (dBin oIdx (fun ρ => look ρ 0) (fun _ => some (.int 1))) dNil)))) (dTru oBool (dBin oLt (dBin oIdx (fun ρ => look ρ 0) (fun _ => some (.int 1))) (fun _ => some (.int 0))))))
  (dRet (fun _ => some (.bl false)))
  dSkip)
  (dSeq (dAsg (dBind (dBin oIdx (fun ρ => look ρ 0) (fun _ => some (.int 0))) copyO) (gSet 3))
  (dSeq (dIf (bAnd (dTru oBool (dBin oGt (dBin oIdx (fun ρ => look ρ 0) (fun _ => some (.int 1))) (fun _ => some (.int 0)))) (bAnd (dTru oBool (dBin E (dBin oMod (dBind (dBin oAdd (dBin oIdx (fun ρ => look ρ 3) (fun _ => some (.int 0))) (dBin oIdx (fun ρ => look ρ 3) (fun _ => some (.int 2)))) oInt) (fun _ => some (.int 2))) (fun _ => some (.int 0)))) (dTru oBool (dBin E (dBin oMod (dBind (dBin oAdd (dBin oIdx (fun ρ => look ρ 3) (fun _ => some (.int 1))) (dBin oIdx (fun ρ => look ρ 3) (fun _ => some (.int 3)))) oInt) (fun _ => some (.int 2))) (fun _ => some (.int 0))))))
  (dRet (fun _ => some (.bl false)))
  dSkip)
  (dSeq (dIf (bOr (dTru oBool (dBin E (fun ρ => look ρ 3) (dTup (dCons (fun _ => some (.int 0)) (dCons (fun _ => some (.int 0)) (dCons (fun _ => some (.int 0)) (dCons (fun _ => some (.int 0)) dNil))))))) (dTru oBool (dBin E (fun ρ => look ρ 1) (dTup (dCons (fun _ => some (.int 0)) (dCons (fun _ => some (.int 0)) (dCons (fun _ => some (.int 0)) (dCons (fun _ => some (.int 0)) dNil))))))))
  (dRet (vAnd (dBin E (dBin oIdx (fun ρ => look ρ 0) (fun _ => some (.int 1))) (fun _ => some (.int 0))) (dBin E (fun ρ => look ρ 3) (fun ρ => look ρ 1))))
  dSkip)
  (dRet (dBin E (dCall [true, false] T (dCons (fun ρ => look ρ 3) (dCons (dBin MX (fun _ => some (.int 0)) (dBin oSub (fun ρ => look ρ 2) (dBin oIdx (fun ρ => look ρ 0) (fun _ => some (.int 1))))) dNil))) (dCall [true, false] T (dCons (fun ρ => look ρ 1) (dCons (dBin MX (fun _ => some (.int 0)) (dBin oSub (dBin oIdx (fun ρ => look ρ 0) (fun _ => some (.int 1))) (fun ρ => look ρ 2))) dNil))))))))))) [.tup [encR a b c d, .int K], encR a' b' c' d', .int E'] = some (.bl true, [none, none, none]) := by
  by_cases e1 : 0 < K
  · by_cases e2 : (a + c) % 2 = 0
    · have e3 : ¬ (b + d) % 2 = 0 := fun q => ev ⟨e1, e2, q⟩
      simp [dDef, dSeq, dIf, dTru, oBool, dBin, dBind, look_nil, look_z, look_s, dRet, dRetMv, dSkip, dAsg, dExpr, setS, dAug, gSet, gTupO, gsCons, gsNil, dTup, dLst, dCons, dNil, copyO, isFz, isFzs, Mini.fin, oAdd_i, oSub_i, oMul_i, oMod_i, oDiv_i, oAnd_i, oOr_i, oXor_i, oLt_i, oLe_i, oGt_i, oGe_i, oMax_i, oMin_i, negO_i, oAbs_i, oInt_i, oInt_b, oEq_i, oNe_i, eqv_ii, idx_t, idx_l, atI_z, atI_n, atI_lit, ixN_n, ixN_lit, len_t, len_l, oTru, oNot, vAnd, vOr, bAnd, bOr, bNot, dIte, mLog2, rngs_z, rngs_s, line_le, line_lt, dCall, views, okb, noFm, noFms, frz, frzs, dIt, itO, lFor, dFor, dRng1, dRng2, rOk, dApp, dSetI, dFz, dCallX, dCallN, dDefX, dAsgR, dRetR, dExprR, dTry, dIsE, pick_rt, pick_nx, oBits_i, oIsN, oNotN, isNon, oIn, dChain, flatO, eqF, oList, oTuple, dLc, lLc, wipeE, dYes, List.set_cons_zero, List.set_cons_succ, List.replicate, isi_NoneType_int, isi_bool_int, isi_int_int, isi_str_int, isi_tuple_int, isi_list_int, isi_dict_int, isi_NoneType_bool, isi_bool_bool, isi_int_bool, isi_str_bool, isi_tuple_bool, isi_list_bool, isi_dict_bool, isi_NoneType_str, isi_bool_str, isi_int_str, isi_str_str, isi_tuple_str, isi_list_str, isi_dict_str, isi_NoneType_tuple, isi_bool_tuple, isi_int_tuple, isi_str_tuple, isi_tuple_tuple, isi_list_tuple, isi_dict_tuple, isi_NoneType_list, isi_bool_list, isi_int_list, isi_str_list, isi_tuple_list, isi_list_list, isi_dict_list, isi_NoneType_dict, isi_bool_dict, isi_int_dict, isi_str_dict, isi_tuple_dict, isi_list_dict, isi_dict_dict, Bd__law_ring_1, Bd__law_turn_1, Bd__law_is_ring_1, Bd__law_times_root_1, Bd__law_mul_1, Bd__law_mul_2, -oEq_i, -oMax_i, -oNe_i, hE, hEN, hT, hI, i1, k0, q1, q2, q4, m1, m2, t1, t2, e1, e2, e3]
    · simp [dDef, dSeq, dIf, dTru, oBool, dBin, dBind, look_nil, look_z, look_s, dRet, dRetMv, dSkip, dAsg, dExpr, setS, dAug, gSet, gTupO, gsCons, gsNil, dTup, dLst, dCons, dNil, copyO, isFz, isFzs, Mini.fin, oAdd_i, oSub_i, oMul_i, oMod_i, oDiv_i, oAnd_i, oOr_i, oXor_i, oLt_i, oLe_i, oGt_i, oGe_i, oMax_i, oMin_i, negO_i, oAbs_i, oInt_i, oInt_b, oEq_i, oNe_i, eqv_ii, idx_t, idx_l, atI_z, atI_n, atI_lit, ixN_n, ixN_lit, len_t, len_l, oTru, oNot, vAnd, vOr, bAnd, bOr, bNot, dIte, mLog2, rngs_z, rngs_s, line_le, line_lt, dCall, views, okb, noFm, noFms, frz, frzs, dIt, itO, lFor, dFor, dRng1, dRng2, rOk, dApp, dSetI, dFz, dCallX, dCallN, dDefX, dAsgR, dRetR, dExprR, dTry, dIsE, pick_rt, pick_nx, oBits_i, oIsN, oNotN, isNon, oIn, dChain, flatO, eqF, oList, oTuple, dLc, lLc, wipeE, dYes, List.set_cons_zero, List.set_cons_succ, List.replicate, isi_NoneType_int, isi_bool_int, isi_int_int, isi_str_int, isi_tuple_int, isi_list_int, isi_dict_int, isi_NoneType_bool, isi_bool_bool, isi_int_bool, isi_str_bool, isi_tuple_bool, isi_list_bool, isi_dict_bool, isi_NoneType_str, isi_bool_str, isi_int_str, isi_str_str, isi_tuple_str, isi_list_str, isi_dict_str, isi_NoneType_tuple, isi_bool_tuple, isi_int_tuple, isi_str_tuple, isi_tuple_tuple, isi_list_tuple, isi_dict_tuple, isi_NoneType_list, isi_bool_list, isi_int_list, isi_str_list, isi_tuple_list, isi_list_list, isi_dict_list, isi_NoneType_dict, isi_bool_dict, isi_int_dict, isi_str_dict, isi_tuple_dict, isi_list_dict, isi_dict_dict, Bd__law_ring_1, Bd__law_turn_1, Bd__law_is_ring_1, Bd__law_times_root_1, Bd__law_mul_1, Bd__law_mul_2, -oEq_i, -oMax_i, -oNe_i, hE, hEN, hT, hI, i1, k0, q1, q2, q4, m1, m2, t1, t2, e1, e2]
  · simp [dDef, dSeq, dIf, dTru, oBool, dBin, dBind, look_nil, look_z, look_s, dRet, dRetMv, dSkip, dAsg, dExpr, setS, dAug, gSet, gTupO, gsCons, gsNil, dTup, dLst, dCons, dNil, copyO, isFz, isFzs, Mini.fin, oAdd_i, oSub_i, oMul_i, oMod_i, oDiv_i, oAnd_i, oOr_i, oXor_i, oLt_i, oLe_i, oGt_i, oGe_i, oMax_i, oMin_i, negO_i, oAbs_i, oInt_i, oInt_b, oEq_i, oNe_i, eqv_ii, idx_t, idx_l, atI_z, atI_n, atI_lit, ixN_n, ixN_lit, len_t, len_l, oTru, oNot, vAnd, vOr, bAnd, bOr, bNot, dIte, mLog2, rngs_z, rngs_s, line_le, line_lt, dCall, views, okb, noFm, noFms, frz, frzs, dIt, itO, lFor, dFor, dRng1, dRng2, rOk, dApp, dSetI, dFz, dCallX, dCallN, dDefX, dAsgR, dRetR, dExprR, dTry, dIsE, pick_rt, pick_nx, oBits_i, oIsN, oNotN, isNon, oIn, dChain, flatO, eqF, oList, oTuple, dLc, lLc, wipeE, dYes, List.set_cons_zero, List.set_cons_succ, List.replicate, isi_NoneType_int, isi_bool_int, isi_int_int, isi_str_int, isi_tuple_int, isi_list_int, isi_dict_int, isi_NoneType_bool, isi_bool_bool, isi_int_bool, isi_str_bool, isi_tuple_bool, isi_list_bool, isi_dict_bool, isi_NoneType_str, isi_bool_str, isi_int_str, isi_str_str, isi_tuple_str, isi_list_str, isi_dict_str, isi_NoneType_tuple, isi_bool_tuple, isi_int_tuple, isi_str_tuple, isi_tuple_tuple, isi_list_tuple, isi_dict_tuple, isi_NoneType_list, isi_bool_list, isi_int_list, isi_str_list, isi_tuple_list, isi_list_list, isi_dict_list, isi_NoneType_dict, isi_bool_dict, isi_int_dict, isi_str_dict, isi_tuple_dict, isi_list_dict, isi_dict_dict, Bd__law_ring_1, Bd__law_turn_1, Bd__law_is_ring_1, Bd__law_times_root_1, Bd__law_mul_1, Bd__law_mul_2, -oEq_i, -oMax_i, -oNe_i, hE, hEN, hT, hI, i1, k0, q1, q2, q4, m1, m2, t1, t2, e1]
theorem l_num {x y : R} {e k : Nat} (h : Low x e y k) (he : e < 4611686018427387904) : F__law_is_number [.tup [y.enc, .int ((k : Nat) : Int)], x.enc, .int e] = some (.bl true, [none, none, none]) := by
  have ev : ¬ (0 < (k : Int) ∧ (y.a + y.c) % 2 = 0 ∧ (y.b + y.d) % 2 = 0) := by
    rintro ⟨q1, q2, q3⟩
    rcases h.low with z | z
    · omega
    · exact z ⟨q2, q3⟩
  have t1 := law_roots y (e - k) (by omega)
  have t2 : F__law_times_root [x.enc, .int 0] = some (x.enc, [none, none]) := law_roots x 0 (by decide)
  rw [h.law] at t1
  have m1 : max 0 ((e : Int) - (k : Int)) = ((e - k : Nat) : Int) := by have := h.le; omega
  have m2 : max 0 ((k : Int) - (e : Int)) = 0 := by have := h.le; omega
  have i1 := l_is_ring y.a y.b y.c y.d
  have k0 : ¬ (k : Int) < 0 := by omega
  have q1 := R.eq_enc y R.zero
  have q2 := R.eq_enc x R.zero
  have q4 := R.eq_enc x x
  rw [decide_eq_true rfl] at q4
  by_cases hz : x = R.zero
  · have hy := h.zero_iff.mp hz
    subst hz hy
    have k1 := h.zero_k
    subst k1
    have w : oEq (encR 0 0 0 0) (encR 0 0 0 0) = some (.bl true) := q4
    have i1 : F__law_is_ring [encR 0 0 0 0] = some (.bl true, [none]) := i1
    simp [F__law_is_number, F__law_is_integer, dDef, dSeq, dIf, dTru, oBool, dBin, dBind, look_nil, look_z, look_s, dRet, dRetMv, dSkip, dAsg, dExpr, setS, dAug, gSet, gTupO, gsCons, gsNil, dTup, dLst, dCons, dNil, copyO, isFz, isFzs, Mini.fin, oAdd_i, oSub_i, oMul_i, oMod_i, oDiv_i, oAnd_i, oOr_i, oXor_i, oLt_i, oLe_i, oGt_i, oGe_i, oMax_i, oMin_i, negO_i, oAbs_i, oInt_i, oInt_b, oEq_i, oNe_i, eqv_ii, idx_t, idx_l, atI_z, atI_n, atI_lit, ixN_n, ixN_lit, len_t, len_l, oTru, oNot, vAnd, vOr, bAnd, bOr, bNot, dIte, mLog2, rngs_z, rngs_s, line_le, line_lt, dCall, views, okb, noFm, noFms, frz, frzs, dIt, itO, lFor, dFor, dRng1, dRng2, rOk, dApp, dSetI, dFz, dCallX, dCallN, dDefX, dAsgR, dRetR, dExprR, dTry, dIsE, pick_rt, pick_nx, oBits_i, oIsN, oNotN, isNon, oIn, dChain, flatO, eqF, oList, oTuple, dLc, lLc, wipeE, dYes, List.set_cons_zero, List.set_cons_succ, List.replicate, isi_NoneType_int, isi_bool_int, isi_int_int, isi_str_int, isi_tuple_int, isi_list_int, isi_dict_int, isi_NoneType_bool, isi_bool_bool, isi_int_bool, isi_str_bool, isi_tuple_bool, isi_list_bool, isi_dict_bool, isi_NoneType_str, isi_bool_str, isi_int_str, isi_str_str, isi_tuple_str, isi_list_str, isi_dict_str, isi_NoneType_tuple, isi_bool_tuple, isi_int_tuple, isi_str_tuple, isi_tuple_tuple, isi_list_tuple, isi_dict_tuple, isi_NoneType_list, isi_bool_list, isi_int_list, isi_str_list, isi_tuple_list, isi_list_list, isi_dict_list, isi_NoneType_dict, isi_bool_dict, isi_int_dict, isi_str_dict, isi_tuple_dict, isi_list_dict, isi_dict_dict, Bd__law_ring_1, Bd__law_turn_1, Bd__law_is_ring_1, Bd__law_times_root_1, Bd__law_mul_1, Bd__law_mul_2, R.zero, i1, w]
  · have hy : ¬ y = R.zero := fun q => hz (h.zero_iff.mpr q)
    rw [decide_eq_false hz] at q2
    rw [decide_eq_false hy] at q1
    have hI : ∀ i, F__law_is_integer [.int i] = some (.bl true, [none]) := fun i => by simp [F__law_is_integer, dDef, dSeq, dIf, dTru, oBool, dBin, dBind, look_nil, look_z, look_s, dRet, dRetMv, dSkip, dAsg, dExpr, setS, dAug, gSet, gTupO, gsCons, gsNil, dTup, dLst, dCons, dNil, copyO, isFz, isFzs, Mini.fin, oAdd_i, oSub_i, oMul_i, oMod_i, oDiv_i, oAnd_i, oOr_i, oXor_i, oLt_i, oLe_i, oGt_i, oGe_i, oMax_i, oMin_i, negO_i, oAbs_i, oInt_i, oInt_b, oEq_i, oNe_i, eqv_ii, idx_t, idx_l, atI_z, atI_n, atI_lit, ixN_n, ixN_lit, len_t, len_l, oTru, oNot, vAnd, vOr, bAnd, bOr, bNot, dIte, mLog2, rngs_z, rngs_s, line_le, line_lt, dCall, views, okb, noFm, noFms, frz, frzs, dIt, itO, lFor, dFor, dRng1, dRng2, rOk, dApp, dSetI, dFz, dCallX, dCallN, dDefX, dAsgR, dRetR, dExprR, dTry, dIsE, pick_rt, pick_nx, oBits_i, oIsN, oNotN, isNon, oIn, dChain, flatO, eqF, oList, oTuple, dLc, lLc, wipeE, dYes, List.set_cons_zero, List.set_cons_succ, List.replicate, isi_NoneType_int, isi_bool_int, isi_int_int, isi_str_int, isi_tuple_int, isi_list_int, isi_dict_int, isi_NoneType_bool, isi_bool_bool, isi_int_bool, isi_str_bool, isi_tuple_bool, isi_list_bool, isi_dict_bool, isi_NoneType_str, isi_bool_str, isi_int_str, isi_str_str, isi_tuple_str, isi_list_str, isi_dict_str, isi_NoneType_tuple, isi_bool_tuple, isi_int_tuple, isi_str_tuple, isi_tuple_tuple, isi_list_tuple, isi_dict_tuple, isi_NoneType_list, isi_bool_list, isi_int_list, isi_str_list, isi_tuple_list, isi_list_list, isi_dict_list, isi_NoneType_dict, isi_bool_dict, isi_int_dict, isi_str_dict, isi_tuple_dict, isi_list_dict, isi_dict_dict, Bd__law_ring_1, Bd__law_turn_1, Bd__law_is_ring_1, Bd__law_times_root_1, Bd__law_mul_1, Bd__law_mul_2]
    have m1 : oMax (.int 0) (.int ((e : Int) - (k : Int))) = some (.int ((e - k : Nat) : Int)) := by rw [oMax_i, m1]
    have m2 : oMax (.int 0) (.int ((k : Int) - (e : Int))) = some (.int 0) := by rw [oMax_i, m2]
    unfold F__law_is_number
    exact num_core y.a y.b y.c y.d x.a x.b x.c x.d k e ((e - k : Nat) : Int) F__law_times_root F__law_is_integer F__law_is_ring oEq oNe (oIsi "tuple") oMax t1 t2 i1 hI isi_tuple_tuple q1 q2 q4 oEq_i oNe_i m1 m2 k0 ev
theorem r_add (x y : R) : F_ring_add [x.enc, y.enc] = some ((x.add y).enc, [none, none]) := rfl
theorem r_sub (x y : R) : F_ring_sub [x.enc, y.enc] = some ((x.add y.neg).enc, [none, none]) := by
  simp [F_ring_sub, dDef, dSeq, dIf, dTru, oBool, dBin, dBind, look_nil, look_z, look_s, dRet, dRetMv, dSkip, dAsg, dExpr, setS, dAug, gSet, gTupO, gsCons, gsNil, dTup, dLst, dCons, dNil, copyO, isFz, isFzs, Mini.fin, oAdd_i, oSub_i, oMul_i, oMod_i, oDiv_i, oAnd_i, oOr_i, oXor_i, oLt_i, oLe_i, oGt_i, oGe_i, oMax_i, oMin_i, negO_i, oAbs_i, oInt_i, oInt_b, oEq_i, oNe_i, eqv_ii, idx_t, idx_l, atI_z, atI_n, atI_lit, ixN_n, ixN_lit, len_t, len_l, oTru, oNot, vAnd, vOr, bAnd, bOr, bNot, dIte, mLog2, rngs_z, rngs_s, line_le, line_lt, dCall, views, okb, noFm, noFms, frz, frzs, dIt, itO, lFor, dFor, dRng1, dRng2, rOk, dApp, dSetI, dFz, dCallX, dCallN, dDefX, dAsgR, dRetR, dExprR, dTry, dIsE, pick_rt, pick_nx, oBits_i, oIsN, oNotN, isNon, oIn, dChain, flatO, eqF, oList, oTuple, dLc, lLc, wipeE, dYes, List.set_cons_zero, List.set_cons_succ, List.replicate, isi_NoneType_int, isi_bool_int, isi_int_int, isi_str_int, isi_tuple_int, isi_list_int, isi_dict_int, isi_NoneType_bool, isi_bool_bool, isi_int_bool, isi_str_bool, isi_tuple_bool, isi_list_bool, isi_dict_bool, isi_NoneType_str, isi_bool_str, isi_int_str, isi_str_str, isi_tuple_str, isi_list_str, isi_dict_str, isi_NoneType_tuple, isi_bool_tuple, isi_int_tuple, isi_str_tuple, isi_tuple_tuple, isi_list_tuple, isi_dict_tuple, isi_NoneType_list, isi_bool_list, isi_int_list, isi_str_list, isi_tuple_list, isi_list_list, isi_dict_list, isi_NoneType_dict, isi_bool_dict, isi_int_dict, isi_str_dict, isi_tuple_dict, isi_list_dict, isi_dict_dict, Bd__law_ring_1, Bd__law_turn_1, Bd__law_is_ring_1, Bd__law_times_root_1, Bd__law_mul_1, Bd__law_mul_2, R.add, R.neg, Int.sub_eq_add_neg]
theorem r_neg (x : R) : F_ring_neg [x.enc] = some (x.neg.enc, [none]) := rfl
theorem r_cj (x : R) : F_ring_conjugate [x.enc] = some (x.cj.enc, [none]) := rfl
theorem r_mul0 (a b c d e f g h : Int) (H : ∀ x ∈ [a,b,c,d], ∀ y ∈ [e,f,g,h], mulOk x y = true) : F_ring_mul [encR a b c d, encR e f g h] =
   some (encR (a * e - b * h - c * g - d * f) (a * f + b * e - c * h - d * g) (a * g + b * f + c * e - d * h) (a * h + b * g + c * f + d * e), [none, none]) := by
  simp only [List.forall_mem_cons, List.forall_mem_nil, and_true, List.not_mem_nil, false_implies, implies_true] at H
  simp [F_ring_mul, dDef, dSeq, dIf, dTru, oBool, dBin, dBind, look_nil, look_z, look_s, dRet, dRetMv, dSkip, dAsg, dExpr, setS, dAug, gSet, gTupO, gsCons, gsNil, dTup, dLst, dCons, dNil, copyO, isFz, isFzs, Mini.fin, oAdd_i, oSub_i, oMul_i, oMod_i, oDiv_i, oAnd_i, oOr_i, oXor_i, oLt_i, oLe_i, oGt_i, oGe_i, oMax_i, oMin_i, negO_i, oAbs_i, oInt_i, oInt_b, oEq_i, oNe_i, eqv_ii, idx_t, idx_l, atI_z, atI_n, atI_lit, ixN_n, ixN_lit, len_t, len_l, oTru, oNot, vAnd, vOr, bAnd, bOr, bNot, dIte, mLog2, rngs_z, rngs_s, line_le, line_lt, dCall, views, okb, noFm, noFms, frz, frzs, dIt, itO, lFor, dFor, dRng1, dRng2, rOk, dApp, dSetI, dFz, dCallX, dCallN, dDefX, dAsgR, dRetR, dExprR, dTry, dIsE, pick_rt, pick_nx, oBits_i, oIsN, oNotN, isNon, oIn, dChain, flatO, eqF, oList, oTuple, dLc, lLc, wipeE, dYes, List.set_cons_zero, List.set_cons_succ, List.replicate, isi_NoneType_int, isi_bool_int, isi_int_int, isi_str_int, isi_tuple_int, isi_list_int, isi_dict_int, isi_NoneType_bool, isi_bool_bool, isi_int_bool, isi_str_bool, isi_tuple_bool, isi_list_bool, isi_dict_bool, isi_NoneType_str, isi_bool_str, isi_int_str, isi_str_str, isi_tuple_str, isi_list_str, isi_dict_str, isi_NoneType_tuple, isi_bool_tuple, isi_int_tuple, isi_str_tuple, isi_tuple_tuple, isi_list_tuple, isi_dict_tuple, isi_NoneType_list, isi_bool_list, isi_int_list, isi_str_list, isi_tuple_list, isi_list_list, isi_dict_list, isi_NoneType_dict, isi_bool_dict, isi_int_dict, isi_str_dict, isi_tuple_dict, isi_list_dict, isi_dict_dict, Bd__law_ring_1, Bd__law_turn_1, Bd__law_is_ring_1, Bd__law_times_root_1, Bd__law_mul_1, Bd__law_mul_2, H]
theorem muls {x y : R} {m : Nat} (hx : x.bd m) (hy : y.bd m) (hm : m ≤ 40000000) : ∀ u ∈ [x.a, x.b, x.c, x.d], ∀ v ∈ [y.a, y.b, y.c, y.d], mulOk u v = true := by
  obtain ⟨h1, h2, h3, h4⟩ := hx
  obtain ⟨g1, g2, g3, g4⟩ := hy
  have l : m + m < 100000000 := by omega
  simp [h1.ok g1 l, h1.ok g2 l, h1.ok g3 l, h1.ok g4 l, h2.ok g1 l, h2.ok g2 l, h2.ok g3 l, h2.ok g4 l, h3.ok g1 l, h3.ok g2 l, h3.ok g3 l, h3.ok g4 l, h4.ok g1 l, h4.ok g2 l, h4.ok g3 l, h4.ok g4 l]
theorem r_mul {x y : R} {m : Nat} (hx : x.bd m) (hy : y.bd m) (hm : m ≤ 40000000) : F_ring_mul [x.enc, y.enc] = some ((x.mul y).enc, [none, none]) := by
  rw [r_mul0 _ _ _ _ _ _ _ _ (muls hx hy hm)]
  simp only [R.mul, R.enc, Option.some.injEq, Prod.mk.injEq, List.cons.injEq, O.int.injEq, and_true, O.tup.injEq]
  omega
theorem l_mul {x y : R} {m : Nat} (hx : x.bd m) (hy : y.bd m) (hm : m ≤ 40000000) : F__law_mul [x.enc, y.enc] = some ((x.mul y).enc, [none, none]) :=
  law_mul _ _ _ _ _ _ _ _ (muls hx hy hm)
theorem turns (x : R) (s : Int) : ∃ h, F_ring_turn [x.enc, .int s] = some ((wn h x).enc, [none, none]) ∧ ∀ y : R, F__law_turn [y.enc, .int s] = some ((wn h y).enc, [none, none]) ∧ F_ring_turn [y.enc, .int s] = some ((wn h y).enc, [none, none]) := by
  have key : ∃ h, ∀ y : R, F__law_turn [y.enc, .int s] = some ((wn h y).enc, [none, none]) ∧ F_ring_turn [y.enc, .int s] = some ((wn h y).enc, [none, none]) := by
    have h8 : s % 8 = 0 ∨ s % 8 = 1 ∨ s % 8 = 2 ∨ s % 8 = 3 ∨ s % 8 = 4 ∨ s % 8 = 5 ∨ s % 8 = 6 ∨ s % 8 = 7 := by omega
    rcases h8 with h | h | h | h | h | h | h | h
    · refine ⟨0, fun y => ?_⟩
      rcases y with ⟨a, b, c, d⟩
      simp only [F_ring_turn, F__law_turn]
      simp [dDef, dSeq, dIf, dTru, oBool, dBin, dBind, look_nil, look_z, look_s, dRet, dRetMv, dSkip, dAsg, dExpr, setS, dAug, gSet, gTupO, gsCons, gsNil, dTup, dLst, dCons, dNil, copyO, isFz, isFzs, Mini.fin, oAdd_i, oSub_i, oMul_i, oMod_i, oDiv_i, oAnd_i, oOr_i, oXor_i, oLt_i, oLe_i, oGt_i, oGe_i, oMax_i, oMin_i, negO_i, oAbs_i, oInt_i, oInt_b, oEq_i, oNe_i, eqv_ii, idx_t, idx_l, atI_z, atI_n, atI_lit, ixN_n, ixN_lit, len_t, len_l, oTru, oNot, vAnd, vOr, bAnd, bOr, bNot, dIte, mLog2, rngs_z, rngs_s, line_le, line_lt, dCall, views, okb, noFm, noFms, frz, frzs, dIt, itO, lFor, dFor, dRng1, dRng2, rOk, dApp, dSetI, dFz, dCallX, dCallN, dDefX, dAsgR, dRetR, dExprR, dTry, dIsE, pick_rt, pick_nx, oBits_i, oIsN, oNotN, isNon, oIn, dChain, flatO, eqF, oList, oTuple, dLc, lLc, wipeE, dYes, List.set_cons_zero, List.set_cons_succ, List.replicate, isi_NoneType_int, isi_bool_int, isi_int_int, isi_str_int, isi_tuple_int, isi_list_int, isi_dict_int, isi_NoneType_bool, isi_bool_bool, isi_int_bool, isi_str_bool, isi_tuple_bool, isi_list_bool, isi_dict_bool, isi_NoneType_str, isi_bool_str, isi_int_str, isi_str_str, isi_tuple_str, isi_list_str, isi_dict_str, isi_NoneType_tuple, isi_bool_tuple, isi_int_tuple, isi_str_tuple, isi_tuple_tuple, isi_list_tuple, isi_dict_tuple, isi_NoneType_list, isi_bool_list, isi_int_list, isi_str_list, isi_tuple_list, isi_list_list, isi_dict_list, isi_NoneType_dict, isi_bool_dict, isi_int_dict, isi_str_dict, isi_tuple_dict, isi_list_dict, isi_dict_dict, Bd__law_ring_1, Bd__law_turn_1, Bd__law_is_ring_1, Bd__law_times_root_1, Bd__law_mul_1, Bd__law_mul_2, h, wn, R.w]
    · refine ⟨1, fun y => ?_⟩
      rcases y with ⟨a, b, c, d⟩
      simp only [F_ring_turn, F__law_turn]
      simp [dDef, dSeq, dIf, dTru, oBool, dBin, dBind, look_nil, look_z, look_s, dRet, dRetMv, dSkip, dAsg, dExpr, setS, dAug, gSet, gTupO, gsCons, gsNil, dTup, dLst, dCons, dNil, copyO, isFz, isFzs, Mini.fin, oAdd_i, oSub_i, oMul_i, oMod_i, oDiv_i, oAnd_i, oOr_i, oXor_i, oLt_i, oLe_i, oGt_i, oGe_i, oMax_i, oMin_i, negO_i, oAbs_i, oInt_i, oInt_b, oEq_i, oNe_i, eqv_ii, idx_t, idx_l, atI_z, atI_n, atI_lit, ixN_n, ixN_lit, len_t, len_l, oTru, oNot, vAnd, vOr, bAnd, bOr, bNot, dIte, mLog2, rngs_z, rngs_s, line_le, line_lt, dCall, views, okb, noFm, noFms, frz, frzs, dIt, itO, lFor, dFor, dRng1, dRng2, rOk, dApp, dSetI, dFz, dCallX, dCallN, dDefX, dAsgR, dRetR, dExprR, dTry, dIsE, pick_rt, pick_nx, oBits_i, oIsN, oNotN, isNon, oIn, dChain, flatO, eqF, oList, oTuple, dLc, lLc, wipeE, dYes, List.set_cons_zero, List.set_cons_succ, List.replicate, isi_NoneType_int, isi_bool_int, isi_int_int, isi_str_int, isi_tuple_int, isi_list_int, isi_dict_int, isi_NoneType_bool, isi_bool_bool, isi_int_bool, isi_str_bool, isi_tuple_bool, isi_list_bool, isi_dict_bool, isi_NoneType_str, isi_bool_str, isi_int_str, isi_str_str, isi_tuple_str, isi_list_str, isi_dict_str, isi_NoneType_tuple, isi_bool_tuple, isi_int_tuple, isi_str_tuple, isi_tuple_tuple, isi_list_tuple, isi_dict_tuple, isi_NoneType_list, isi_bool_list, isi_int_list, isi_str_list, isi_tuple_list, isi_list_list, isi_dict_list, isi_NoneType_dict, isi_bool_dict, isi_int_dict, isi_str_dict, isi_tuple_dict, isi_list_dict, isi_dict_dict, Bd__law_ring_1, Bd__law_turn_1, Bd__law_is_ring_1, Bd__law_times_root_1, Bd__law_mul_1, Bd__law_mul_2, h, wn, R.w]
    · refine ⟨2, fun y => ?_⟩
      rcases y with ⟨a, b, c, d⟩
      simp only [F_ring_turn, F__law_turn]
      simp [dDef, dSeq, dIf, dTru, oBool, dBin, dBind, look_nil, look_z, look_s, dRet, dRetMv, dSkip, dAsg, dExpr, setS, dAug, gSet, gTupO, gsCons, gsNil, dTup, dLst, dCons, dNil, copyO, isFz, isFzs, Mini.fin, oAdd_i, oSub_i, oMul_i, oMod_i, oDiv_i, oAnd_i, oOr_i, oXor_i, oLt_i, oLe_i, oGt_i, oGe_i, oMax_i, oMin_i, negO_i, oAbs_i, oInt_i, oInt_b, oEq_i, oNe_i, eqv_ii, idx_t, idx_l, atI_z, atI_n, atI_lit, ixN_n, ixN_lit, len_t, len_l, oTru, oNot, vAnd, vOr, bAnd, bOr, bNot, dIte, mLog2, rngs_z, rngs_s, line_le, line_lt, dCall, views, okb, noFm, noFms, frz, frzs, dIt, itO, lFor, dFor, dRng1, dRng2, rOk, dApp, dSetI, dFz, dCallX, dCallN, dDefX, dAsgR, dRetR, dExprR, dTry, dIsE, pick_rt, pick_nx, oBits_i, oIsN, oNotN, isNon, oIn, dChain, flatO, eqF, oList, oTuple, dLc, lLc, wipeE, dYes, List.set_cons_zero, List.set_cons_succ, List.replicate, isi_NoneType_int, isi_bool_int, isi_int_int, isi_str_int, isi_tuple_int, isi_list_int, isi_dict_int, isi_NoneType_bool, isi_bool_bool, isi_int_bool, isi_str_bool, isi_tuple_bool, isi_list_bool, isi_dict_bool, isi_NoneType_str, isi_bool_str, isi_int_str, isi_str_str, isi_tuple_str, isi_list_str, isi_dict_str, isi_NoneType_tuple, isi_bool_tuple, isi_int_tuple, isi_str_tuple, isi_tuple_tuple, isi_list_tuple, isi_dict_tuple, isi_NoneType_list, isi_bool_list, isi_int_list, isi_str_list, isi_tuple_list, isi_list_list, isi_dict_list, isi_NoneType_dict, isi_bool_dict, isi_int_dict, isi_str_dict, isi_tuple_dict, isi_list_dict, isi_dict_dict, Bd__law_ring_1, Bd__law_turn_1, Bd__law_is_ring_1, Bd__law_times_root_1, Bd__law_mul_1, Bd__law_mul_2, h, wn, R.w]
    · refine ⟨3, fun y => ?_⟩
      rcases y with ⟨a, b, c, d⟩
      simp only [F_ring_turn, F__law_turn]
      simp [dDef, dSeq, dIf, dTru, oBool, dBin, dBind, look_nil, look_z, look_s, dRet, dRetMv, dSkip, dAsg, dExpr, setS, dAug, gSet, gTupO, gsCons, gsNil, dTup, dLst, dCons, dNil, copyO, isFz, isFzs, Mini.fin, oAdd_i, oSub_i, oMul_i, oMod_i, oDiv_i, oAnd_i, oOr_i, oXor_i, oLt_i, oLe_i, oGt_i, oGe_i, oMax_i, oMin_i, negO_i, oAbs_i, oInt_i, oInt_b, oEq_i, oNe_i, eqv_ii, idx_t, idx_l, atI_z, atI_n, atI_lit, ixN_n, ixN_lit, len_t, len_l, oTru, oNot, vAnd, vOr, bAnd, bOr, bNot, dIte, mLog2, rngs_z, rngs_s, line_le, line_lt, dCall, views, okb, noFm, noFms, frz, frzs, dIt, itO, lFor, dFor, dRng1, dRng2, rOk, dApp, dSetI, dFz, dCallX, dCallN, dDefX, dAsgR, dRetR, dExprR, dTry, dIsE, pick_rt, pick_nx, oBits_i, oIsN, oNotN, isNon, oIn, dChain, flatO, eqF, oList, oTuple, dLc, lLc, wipeE, dYes, List.set_cons_zero, List.set_cons_succ, List.replicate, isi_NoneType_int, isi_bool_int, isi_int_int, isi_str_int, isi_tuple_int, isi_list_int, isi_dict_int, isi_NoneType_bool, isi_bool_bool, isi_int_bool, isi_str_bool, isi_tuple_bool, isi_list_bool, isi_dict_bool, isi_NoneType_str, isi_bool_str, isi_int_str, isi_str_str, isi_tuple_str, isi_list_str, isi_dict_str, isi_NoneType_tuple, isi_bool_tuple, isi_int_tuple, isi_str_tuple, isi_tuple_tuple, isi_list_tuple, isi_dict_tuple, isi_NoneType_list, isi_bool_list, isi_int_list, isi_str_list, isi_tuple_list, isi_list_list, isi_dict_list, isi_NoneType_dict, isi_bool_dict, isi_int_dict, isi_str_dict, isi_tuple_dict, isi_list_dict, isi_dict_dict, Bd__law_ring_1, Bd__law_turn_1, Bd__law_is_ring_1, Bd__law_times_root_1, Bd__law_mul_1, Bd__law_mul_2, h, wn, R.w]
    · refine ⟨4, fun y => ?_⟩
      rcases y with ⟨a, b, c, d⟩
      simp only [F_ring_turn, F__law_turn]
      simp [dDef, dSeq, dIf, dTru, oBool, dBin, dBind, look_nil, look_z, look_s, dRet, dRetMv, dSkip, dAsg, dExpr, setS, dAug, gSet, gTupO, gsCons, gsNil, dTup, dLst, dCons, dNil, copyO, isFz, isFzs, Mini.fin, oAdd_i, oSub_i, oMul_i, oMod_i, oDiv_i, oAnd_i, oOr_i, oXor_i, oLt_i, oLe_i, oGt_i, oGe_i, oMax_i, oMin_i, negO_i, oAbs_i, oInt_i, oInt_b, oEq_i, oNe_i, eqv_ii, idx_t, idx_l, atI_z, atI_n, atI_lit, ixN_n, ixN_lit, len_t, len_l, oTru, oNot, vAnd, vOr, bAnd, bOr, bNot, dIte, mLog2, rngs_z, rngs_s, line_le, line_lt, dCall, views, okb, noFm, noFms, frz, frzs, dIt, itO, lFor, dFor, dRng1, dRng2, rOk, dApp, dSetI, dFz, dCallX, dCallN, dDefX, dAsgR, dRetR, dExprR, dTry, dIsE, pick_rt, pick_nx, oBits_i, oIsN, oNotN, isNon, oIn, dChain, flatO, eqF, oList, oTuple, dLc, lLc, wipeE, dYes, List.set_cons_zero, List.set_cons_succ, List.replicate, isi_NoneType_int, isi_bool_int, isi_int_int, isi_str_int, isi_tuple_int, isi_list_int, isi_dict_int, isi_NoneType_bool, isi_bool_bool, isi_int_bool, isi_str_bool, isi_tuple_bool, isi_list_bool, isi_dict_bool, isi_NoneType_str, isi_bool_str, isi_int_str, isi_str_str, isi_tuple_str, isi_list_str, isi_dict_str, isi_NoneType_tuple, isi_bool_tuple, isi_int_tuple, isi_str_tuple, isi_tuple_tuple, isi_list_tuple, isi_dict_tuple, isi_NoneType_list, isi_bool_list, isi_int_list, isi_str_list, isi_tuple_list, isi_list_list, isi_dict_list, isi_NoneType_dict, isi_bool_dict, isi_int_dict, isi_str_dict, isi_tuple_dict, isi_list_dict, isi_dict_dict, Bd__law_ring_1, Bd__law_turn_1, Bd__law_is_ring_1, Bd__law_times_root_1, Bd__law_mul_1, Bd__law_mul_2, h, wn, R.w]
    · refine ⟨5, fun y => ?_⟩
      rcases y with ⟨a, b, c, d⟩
      simp only [F_ring_turn, F__law_turn]
      simp [dDef, dSeq, dIf, dTru, oBool, dBin, dBind, look_nil, look_z, look_s, dRet, dRetMv, dSkip, dAsg, dExpr, setS, dAug, gSet, gTupO, gsCons, gsNil, dTup, dLst, dCons, dNil, copyO, isFz, isFzs, Mini.fin, oAdd_i, oSub_i, oMul_i, oMod_i, oDiv_i, oAnd_i, oOr_i, oXor_i, oLt_i, oLe_i, oGt_i, oGe_i, oMax_i, oMin_i, negO_i, oAbs_i, oInt_i, oInt_b, oEq_i, oNe_i, eqv_ii, idx_t, idx_l, atI_z, atI_n, atI_lit, ixN_n, ixN_lit, len_t, len_l, oTru, oNot, vAnd, vOr, bAnd, bOr, bNot, dIte, mLog2, rngs_z, rngs_s, line_le, line_lt, dCall, views, okb, noFm, noFms, frz, frzs, dIt, itO, lFor, dFor, dRng1, dRng2, rOk, dApp, dSetI, dFz, dCallX, dCallN, dDefX, dAsgR, dRetR, dExprR, dTry, dIsE, pick_rt, pick_nx, oBits_i, oIsN, oNotN, isNon, oIn, dChain, flatO, eqF, oList, oTuple, dLc, lLc, wipeE, dYes, List.set_cons_zero, List.set_cons_succ, List.replicate, isi_NoneType_int, isi_bool_int, isi_int_int, isi_str_int, isi_tuple_int, isi_list_int, isi_dict_int, isi_NoneType_bool, isi_bool_bool, isi_int_bool, isi_str_bool, isi_tuple_bool, isi_list_bool, isi_dict_bool, isi_NoneType_str, isi_bool_str, isi_int_str, isi_str_str, isi_tuple_str, isi_list_str, isi_dict_str, isi_NoneType_tuple, isi_bool_tuple, isi_int_tuple, isi_str_tuple, isi_tuple_tuple, isi_list_tuple, isi_dict_tuple, isi_NoneType_list, isi_bool_list, isi_int_list, isi_str_list, isi_tuple_list, isi_list_list, isi_dict_list, isi_NoneType_dict, isi_bool_dict, isi_int_dict, isi_str_dict, isi_tuple_dict, isi_list_dict, isi_dict_dict, Bd__law_ring_1, Bd__law_turn_1, Bd__law_is_ring_1, Bd__law_times_root_1, Bd__law_mul_1, Bd__law_mul_2, h, wn, R.w]
    · refine ⟨6, fun y => ?_⟩
      rcases y with ⟨a, b, c, d⟩
      simp only [F_ring_turn, F__law_turn]
      simp [dDef, dSeq, dIf, dTru, oBool, dBin, dBind, look_nil, look_z, look_s, dRet, dRetMv, dSkip, dAsg, dExpr, setS, dAug, gSet, gTupO, gsCons, gsNil, dTup, dLst, dCons, dNil, copyO, isFz, isFzs, Mini.fin, oAdd_i, oSub_i, oMul_i, oMod_i, oDiv_i, oAnd_i, oOr_i, oXor_i, oLt_i, oLe_i, oGt_i, oGe_i, oMax_i, oMin_i, negO_i, oAbs_i, oInt_i, oInt_b, oEq_i, oNe_i, eqv_ii, idx_t, idx_l, atI_z, atI_n, atI_lit, ixN_n, ixN_lit, len_t, len_l, oTru, oNot, vAnd, vOr, bAnd, bOr, bNot, dIte, mLog2, rngs_z, rngs_s, line_le, line_lt, dCall, views, okb, noFm, noFms, frz, frzs, dIt, itO, lFor, dFor, dRng1, dRng2, rOk, dApp, dSetI, dFz, dCallX, dCallN, dDefX, dAsgR, dRetR, dExprR, dTry, dIsE, pick_rt, pick_nx, oBits_i, oIsN, oNotN, isNon, oIn, dChain, flatO, eqF, oList, oTuple, dLc, lLc, wipeE, dYes, List.set_cons_zero, List.set_cons_succ, List.replicate, isi_NoneType_int, isi_bool_int, isi_int_int, isi_str_int, isi_tuple_int, isi_list_int, isi_dict_int, isi_NoneType_bool, isi_bool_bool, isi_int_bool, isi_str_bool, isi_tuple_bool, isi_list_bool, isi_dict_bool, isi_NoneType_str, isi_bool_str, isi_int_str, isi_str_str, isi_tuple_str, isi_list_str, isi_dict_str, isi_NoneType_tuple, isi_bool_tuple, isi_int_tuple, isi_str_tuple, isi_tuple_tuple, isi_list_tuple, isi_dict_tuple, isi_NoneType_list, isi_bool_list, isi_int_list, isi_str_list, isi_tuple_list, isi_list_list, isi_dict_list, isi_NoneType_dict, isi_bool_dict, isi_int_dict, isi_str_dict, isi_tuple_dict, isi_list_dict, isi_dict_dict, Bd__law_ring_1, Bd__law_turn_1, Bd__law_is_ring_1, Bd__law_times_root_1, Bd__law_mul_1, Bd__law_mul_2, h, wn, R.w]
    · refine ⟨7, fun y => ?_⟩
      rcases y with ⟨a, b, c, d⟩
      simp only [F_ring_turn, F__law_turn]
      simp [dDef, dSeq, dIf, dTru, oBool, dBin, dBind, look_nil, look_z, look_s, dRet, dRetMv, dSkip, dAsg, dExpr, setS, dAug, gSet, gTupO, gsCons, gsNil, dTup, dLst, dCons, dNil, copyO, isFz, isFzs, Mini.fin, oAdd_i, oSub_i, oMul_i, oMod_i, oDiv_i, oAnd_i, oOr_i, oXor_i, oLt_i, oLe_i, oGt_i, oGe_i, oMax_i, oMin_i, negO_i, oAbs_i, oInt_i, oInt_b, oEq_i, oNe_i, eqv_ii, idx_t, idx_l, atI_z, atI_n, atI_lit, ixN_n, ixN_lit, len_t, len_l, oTru, oNot, vAnd, vOr, bAnd, bOr, bNot, dIte, mLog2, rngs_z, rngs_s, line_le, line_lt, dCall, views, okb, noFm, noFms, frz, frzs, dIt, itO, lFor, dFor, dRng1, dRng2, rOk, dApp, dSetI, dFz, dCallX, dCallN, dDefX, dAsgR, dRetR, dExprR, dTry, dIsE, pick_rt, pick_nx, oBits_i, oIsN, oNotN, isNon, oIn, dChain, flatO, eqF, oList, oTuple, dLc, lLc, wipeE, dYes, List.set_cons_zero, List.set_cons_succ, List.replicate, isi_NoneType_int, isi_bool_int, isi_int_int, isi_str_int, isi_tuple_int, isi_list_int, isi_dict_int, isi_NoneType_bool, isi_bool_bool, isi_int_bool, isi_str_bool, isi_tuple_bool, isi_list_bool, isi_dict_bool, isi_NoneType_str, isi_bool_str, isi_int_str, isi_str_str, isi_tuple_str, isi_list_str, isi_dict_str, isi_NoneType_tuple, isi_bool_tuple, isi_int_tuple, isi_str_tuple, isi_tuple_tuple, isi_list_tuple, isi_dict_tuple, isi_NoneType_list, isi_bool_list, isi_int_list, isi_str_list, isi_tuple_list, isi_list_list, isi_dict_list, isi_NoneType_dict, isi_bool_dict, isi_int_dict, isi_str_dict, isi_tuple_dict, isi_list_dict, isi_dict_dict, Bd__law_ring_1, Bd__law_turn_1, Bd__law_is_ring_1, Bd__law_times_root_1, Bd__law_mul_1, Bd__law_mul_2, h, wn, R.w]
  obtain ⟨h, e⟩ := key
  exact ⟨h, (e x).2, e⟩
theorem sadd_core (x y u v s r : O) (k1 k2 e : Int) (L RS RA : Fn) (MX : O → O → Option O) (fx : frz x = x) (fy : frz y = y) (gx : isFz x = true) (gy : isFz y = true) (fs : frz s = s)
  (hm : MX (.int k1) (.int k2) = some (.int e)) (h1 : RS [.tup [x, .int k1], .int e] = some (u, [none, none])) (h2 : RS [.tup [y, .int k2], .int e] = some (v, [none, none])) (h3 : RA [u, v] = some (s, [none, none])) (h4 : L [s, .int e] = some (r, [none, none])) (fr : noFm r = true) (gu : noFm u = true) (gv : noFm v = true) (gs : noFm s = true) :
  (dDef (fun _ => false) 2 3 (dSeq (dAsg (dBin MX (dBin oIdx (fun ρ => look ρ 0) (fun _ => some (.int 1))) (dBin oIdx (fun ρ => look ρ 1) (fun _ => some (.int 1)))) (gSet 2))
  (dRet (dCall [false, true] L (dCons (dCall [false, false] RA (dCons (dCall [true, true] RS (dCons (fun ρ => look ρ 0) (dCons (fun ρ => look ρ 2) dNil))) (dCons (dCall [true, true] RS (dCons (fun ρ => look ρ 1) (dCons (fun ρ => look ρ 2) dNil))) dNil))) (dCons (fun ρ => look ρ 2) dNil)))))) [.tup [x, .int k1], .tup [y, .int k2]] = some (r, [none, none]) := by
  simp [dDef, dSeq, dIf, dTru, oBool, dBin, dBind, look_nil, look_z, look_s, dRet, dRetMv, dSkip, dAsg, dExpr, setS, dAug, gSet, gTupO, gsCons, gsNil, dTup, dLst, dCons, dNil, copyO, isFz, isFzs, Mini.fin, oAdd_i, oSub_i, oMul_i, oMod_i, oDiv_i, oAnd_i, oOr_i, oXor_i, oLt_i, oLe_i, oGt_i, oGe_i, oMax_i, oMin_i, negO_i, oAbs_i, oInt_i, oInt_b, oEq_i, oNe_i, eqv_ii, idx_t, idx_l, atI_z, atI_n, atI_lit, ixN_n, ixN_lit, len_t, len_l, oTru, oNot, vAnd, vOr, bAnd, bOr, bNot, dIte, mLog2, rngs_z, rngs_s, line_le, line_lt, dCall, views, okb, noFm, noFms, frz, frzs, dIt, itO, lFor, dFor, dRng1, dRng2, rOk, dApp, dSetI, dFz, dCallX, dCallN, dDefX, dAsgR, dRetR, dExprR, dTry, dIsE, pick_rt, pick_nx, oBits_i, oIsN, oNotN, isNon, oIn, dChain, flatO, eqF, oList, oTuple, dLc, lLc, wipeE, dYes, List.set_cons_zero, List.set_cons_succ, List.replicate, isi_NoneType_int, isi_bool_int, isi_int_int, isi_str_int, isi_tuple_int, isi_list_int, isi_dict_int, isi_NoneType_bool, isi_bool_bool, isi_int_bool, isi_str_bool, isi_tuple_bool, isi_list_bool, isi_dict_bool, isi_NoneType_str, isi_bool_str, isi_int_str, isi_str_str, isi_tuple_str, isi_list_str, isi_dict_str, isi_NoneType_tuple, isi_bool_tuple, isi_int_tuple, isi_str_tuple, isi_tuple_tuple, isi_list_tuple, isi_dict_tuple, isi_NoneType_list, isi_bool_list, isi_int_list, isi_str_list, isi_tuple_list, isi_list_list, isi_dict_list, isi_NoneType_dict, isi_bool_dict, isi_int_dict, isi_str_dict, isi_tuple_dict, isi_list_dict, isi_dict_dict, Bd__law_ring_1, Bd__law_turn_1, Bd__law_is_ring_1, Bd__law_times_root_1, Bd__law_mul_1, Bd__law_mul_2, -oMax_i, hm, h1, h2, h3, h4, fx, fy, gx, gy, fs, fr, gu, gv, gs]
theorem ssub_core (x y u v s r : O) (k1 k2 e : Int) (L RS RA : Fn) (MX : O → O → Option O) (fx : frz x = x) (fy : frz y = y) (gx : isFz x = true) (gy : isFz y = true) (fs : frz s = s)
  (hm : MX (.int k1) (.int k2) = some (.int e)) (h1 : RS [.tup [x, .int k1], .int e] = some (u, [none, none])) (h2 : RS [.tup [y, .int k2], .int e] = some (v, [none, none])) (h3 : RA [u, v] = some (s, [none, none])) (h4 : L [s, .int e] = some (r, [none, none])) (fr : noFm r = true) (gu : noFm u = true) (gv : noFm v = true) (gs : noFm s = true) :
  (dDef (fun _ => false) 2 3 (dSeq (dAsg (dBin MX (dBin oIdx (fun ρ => look ρ 0) (fun _ => some (.int 1))) (dBin oIdx (fun ρ => look ρ 1) (fun _ => some (.int 1)))) (gSet 2))
  (dRet (dCall [false, true] L (dCons (dCall [false, false] RA (dCons (dCall [true, true] RS (dCons (fun ρ => look ρ 0) (dCons (fun ρ => look ρ 2) dNil))) (dCons (dCall [true, true] RS (dCons (fun ρ => look ρ 1) (dCons (fun ρ => look ρ 2) dNil))) dNil))) (dCons (fun ρ => look ρ 2) dNil)))))) [.tup [x, .int k1], .tup [y, .int k2]] = some (r, [none, none]) := by
  simp [dDef, dSeq, dIf, dTru, oBool, dBin, dBind, look_nil, look_z, look_s, dRet, dRetMv, dSkip, dAsg, dExpr, setS, dAug, gSet, gTupO, gsCons, gsNil, dTup, dLst, dCons, dNil, copyO, isFz, isFzs, Mini.fin, oAdd_i, oSub_i, oMul_i, oMod_i, oDiv_i, oAnd_i, oOr_i, oXor_i, oLt_i, oLe_i, oGt_i, oGe_i, oMax_i, oMin_i, negO_i, oAbs_i, oInt_i, oInt_b, oEq_i, oNe_i, eqv_ii, idx_t, idx_l, atI_z, atI_n, atI_lit, ixN_n, ixN_lit, len_t, len_l, oTru, oNot, vAnd, vOr, bAnd, bOr, bNot, dIte, mLog2, rngs_z, rngs_s, line_le, line_lt, dCall, views, okb, noFm, noFms, frz, frzs, dIt, itO, lFor, dFor, dRng1, dRng2, rOk, dApp, dSetI, dFz, dCallX, dCallN, dDefX, dAsgR, dRetR, dExprR, dTry, dIsE, pick_rt, pick_nx, oBits_i, oIsN, oNotN, isNon, oIn, dChain, flatO, eqF, oList, oTuple, dLc, lLc, wipeE, dYes, List.set_cons_zero, List.set_cons_succ, List.replicate, isi_NoneType_int, isi_bool_int, isi_int_int, isi_str_int, isi_tuple_int, isi_list_int, isi_dict_int, isi_NoneType_bool, isi_bool_bool, isi_int_bool, isi_str_bool, isi_tuple_bool, isi_list_bool, isi_dict_bool, isi_NoneType_str, isi_bool_str, isi_int_str, isi_str_str, isi_tuple_str, isi_list_str, isi_dict_str, isi_NoneType_tuple, isi_bool_tuple, isi_int_tuple, isi_str_tuple, isi_tuple_tuple, isi_list_tuple, isi_dict_tuple, isi_NoneType_list, isi_bool_list, isi_int_list, isi_str_list, isi_tuple_list, isi_list_list, isi_dict_list, isi_NoneType_dict, isi_bool_dict, isi_int_dict, isi_str_dict, isi_tuple_dict, isi_list_dict, isi_dict_dict, Bd__law_ring_1, Bd__law_turn_1, Bd__law_is_ring_1, Bd__law_times_root_1, Bd__law_mul_1, Bd__law_mul_2, -oMax_i, hm, h1, h2, h3, h4, fx, fy, gx, gy, fs, fr, gu, gv, gs]
theorem smul_core (x y s r : O) (k1 k2 : Int) (L RM : Fn) (fx : frz x = x) (fy : frz y = y) (gx : isFz x = true) (gy : isFz y = true)
  (h3 : RM [x, y] = some (s, [none, none])) (h4 : L [s, .int (k1 + k2)] = some (r, [none, none])) (fr : noFm r = true) (gs : noFm s = true) : (dDef (fun _ => false) 2 2 (dRet (dCall [false, false] L (dCons (dCall [true, true] RM (dCons (dBin oIdx (fun ρ => look ρ 0) (fun _ => some (.int 0))) (dCons (dBin oIdx (fun ρ => look ρ 1) (fun _ => some (.int 0))) dNil))) (dCons (dBin oAdd (dBin oIdx (fun ρ => look ρ 0) (fun _ => some (.int 1))) (dBin oIdx (fun ρ => look ρ 1) (fun _ => some (.int 1)))) dNil))))) [.tup [x, .int k1], .tup [y, .int k2]] = some (r, [none, none]) := by
  simp [dDef, dSeq, dIf, dTru, oBool, dBin, dBind, look_nil, look_z, look_s, dRet, dRetMv, dSkip, dAsg, dExpr, setS, dAug, gSet, gTupO, gsCons, gsNil, dTup, dLst, dCons, dNil, copyO, isFz, isFzs, Mini.fin, oAdd_i, oSub_i, oMul_i, oMod_i, oDiv_i, oAnd_i, oOr_i, oXor_i, oLt_i, oLe_i, oGt_i, oGe_i, oMax_i, oMin_i, negO_i, oAbs_i, oInt_i, oInt_b, oEq_i, oNe_i, eqv_ii, idx_t, idx_l, atI_z, atI_n, atI_lit, ixN_n, ixN_lit, len_t, len_l, oTru, oNot, vAnd, vOr, bAnd, bOr, bNot, dIte, mLog2, rngs_z, rngs_s, line_le, line_lt, dCall, views, okb, noFm, noFms, frz, frzs, dIt, itO, lFor, dFor, dRng1, dRng2, rOk, dApp, dSetI, dFz, dCallX, dCallN, dDefX, dAsgR, dRetR, dExprR, dTry, dIsE, pick_rt, pick_nx, oBits_i, oIsN, oNotN, isNon, oIn, dChain, flatO, eqF, oList, oTuple, dLc, lLc, wipeE, dYes, List.set_cons_zero, List.set_cons_succ, List.replicate, isi_NoneType_int, isi_bool_int, isi_int_int, isi_str_int, isi_tuple_int, isi_list_int, isi_dict_int, isi_NoneType_bool, isi_bool_bool, isi_int_bool, isi_str_bool, isi_tuple_bool, isi_list_bool, isi_dict_bool, isi_NoneType_str, isi_bool_str, isi_int_str, isi_str_str, isi_tuple_str, isi_list_str, isi_dict_str, isi_NoneType_tuple, isi_bool_tuple, isi_int_tuple, isi_str_tuple, isi_tuple_tuple, isi_list_tuple, isi_dict_tuple, isi_NoneType_list, isi_bool_list, isi_int_list, isi_str_list, isi_tuple_list, isi_list_list, isi_dict_list, isi_NoneType_dict, isi_bool_dict, isi_int_dict, isi_str_dict, isi_tuple_dict, isi_list_dict, isi_dict_dict, Bd__law_ring_1, Bd__law_turn_1, Bd__law_is_ring_1, Bd__law_times_root_1, Bd__law_mul_1, Bd__law_mul_2, h3, h4, fx, fy, gx, gy, fr, gs]
theorem rs_core (x u : O) (k e : Int) (TR : Fn) (E : O → O → Option O) (fx : frz x = x) (gx : isFz x = true) (hE : ∀ i j, E (.int i) (.int j) = some (.bl (decide (i = j)))) (h0 : k = e → u = x) (h1 : ¬ k = e → TR [x, .int (e - k)] = some (u, [none, none])) (gu : noFm u = true) :
  (dDef (fun _ => false) 2 4 (dSeq (dFz 0) (dSeq (dAsg (dBind (fun ρ => look ρ 0) copyO) (gTupO 2 (gsCons (gSet 2) (gsCons (gSet 3) gsNil))))
  (dSeq (dIf (dTru oBool (dBin E (fun ρ => look ρ 3) (fun ρ => look ρ 1)))
  (dRetMv 2)
  dSkip)
  (dRet (dCall [true, false] TR (dCons (fun ρ => look ρ 2) (dCons (dBin oSub (fun ρ => look ρ 1) (fun ρ => look ρ 3)) dNil)))))))) [.tup [x, .int k], .int e] = some (u, [none, none]) := by
  by_cases h : k = e
  · subst h
    have := h0 rfl
    subst this
    simp [dDef, dSeq, dIf, dTru, oBool, dBin, dBind, look_nil, look_z, look_s, dRet, dRetMv, dSkip, dAsg, dExpr, setS, dAug, gSet, gTupO, gsCons, gsNil, dTup, dLst, dCons, dNil, copyO, isFz, isFzs, Mini.fin, oAdd_i, oSub_i, oMul_i, oMod_i, oDiv_i, oAnd_i, oOr_i, oXor_i, oLt_i, oLe_i, oGt_i, oGe_i, oMax_i, oMin_i, negO_i, oAbs_i, oInt_i, oInt_b, oEq_i, oNe_i, eqv_ii, idx_t, idx_l, atI_z, atI_n, atI_lit, ixN_n, ixN_lit, len_t, len_l, oTru, oNot, vAnd, vOr, bAnd, bOr, bNot, dIte, mLog2, rngs_z, rngs_s, line_le, line_lt, dCall, views, okb, noFm, noFms, frz, frzs, dIt, itO, lFor, dFor, dRng1, dRng2, rOk, dApp, dSetI, dFz, dCallX, dCallN, dDefX, dAsgR, dRetR, dExprR, dTry, dIsE, pick_rt, pick_nx, oBits_i, oIsN, oNotN, isNon, oIn, dChain, flatO, eqF, oList, oTuple, dLc, lLc, wipeE, dYes, List.set_cons_zero, List.set_cons_succ, List.replicate, isi_NoneType_int, isi_bool_int, isi_int_int, isi_str_int, isi_tuple_int, isi_list_int, isi_dict_int, isi_NoneType_bool, isi_bool_bool, isi_int_bool, isi_str_bool, isi_tuple_bool, isi_list_bool, isi_dict_bool, isi_NoneType_str, isi_bool_str, isi_int_str, isi_str_str, isi_tuple_str, isi_list_str, isi_dict_str, isi_NoneType_tuple, isi_bool_tuple, isi_int_tuple, isi_str_tuple, isi_tuple_tuple, isi_list_tuple, isi_dict_tuple, isi_NoneType_list, isi_bool_list, isi_int_list, isi_str_list, isi_tuple_list, isi_list_list, isi_dict_list, isi_NoneType_dict, isi_bool_dict, isi_int_dict, isi_str_dict, isi_tuple_dict, isi_list_dict, isi_dict_dict, Bd__law_ring_1, Bd__law_turn_1, Bd__law_is_ring_1, Bd__law_times_root_1, Bd__law_mul_1, Bd__law_mul_2, -oEq_i, hE, fx, gx, gu]
  · simp [dDef, dSeq, dIf, dTru, oBool, dBin, dBind, look_nil, look_z, look_s, dRet, dRetMv, dSkip, dAsg, dExpr, setS, dAug, gSet, gTupO, gsCons, gsNil, dTup, dLst, dCons, dNil, copyO, isFz, isFzs, Mini.fin, oAdd_i, oSub_i, oMul_i, oMod_i, oDiv_i, oAnd_i, oOr_i, oXor_i, oLt_i, oLe_i, oGt_i, oGe_i, oMax_i, oMin_i, negO_i, oAbs_i, oInt_i, oInt_b, oEq_i, oNe_i, eqv_ii, idx_t, idx_l, atI_z, atI_n, atI_lit, ixN_n, ixN_lit, len_t, len_l, oTru, oNot, vAnd, vOr, bAnd, bOr, bNot, dIte, mLog2, rngs_z, rngs_s, line_le, line_lt, dCall, views, okb, noFm, noFms, frz, frzs, dIt, itO, lFor, dFor, dRng1, dRng2, rOk, dApp, dSetI, dFz, dCallX, dCallN, dDefX, dAsgR, dRetR, dExprR, dTry, dIsE, pick_rt, pick_nx, oBits_i, oIsN, oNotN, isNon, oIn, dChain, flatO, eqF, oList, oTuple, dLc, lLc, wipeE, dYes, List.set_cons_zero, List.set_cons_succ, List.replicate, isi_NoneType_int, isi_bool_int, isi_int_int, isi_str_int, isi_tuple_int, isi_list_int, isi_dict_int, isi_NoneType_bool, isi_bool_bool, isi_int_bool, isi_str_bool, isi_tuple_bool, isi_list_bool, isi_dict_bool, isi_NoneType_str, isi_bool_str, isi_int_str, isi_str_str, isi_tuple_str, isi_list_str, isi_dict_str, isi_NoneType_tuple, isi_bool_tuple, isi_int_tuple, isi_str_tuple, isi_tuple_tuple, isi_list_tuple, isi_dict_tuple, isi_NoneType_list, isi_bool_list, isi_int_list, isi_str_list, isi_tuple_list, isi_list_list, isi_dict_list, isi_NoneType_dict, isi_bool_dict, isi_int_dict, isi_str_dict, isi_tuple_dict, isi_list_dict, isi_dict_dict, Bd__law_ring_1, Bd__law_turn_1, Bd__law_is_ring_1, Bd__law_times_root_1, Bd__law_mul_1, Bd__law_mul_2, -oEq_i, hE, h, h1 h, fx, gx, gu]
theorem sum_core (x y : O) (a b c d a' b' c' d' e1 e2 n1 n2 : Int) (T : Fn) (MX : O → O → Option O) (fx : frz x = x) (fy : frz y = y) (gx : isFz x = true) (gy : isFz y = true)
  (m1 : MX (.int 0) (.int (e2 - e1)) = some (.int n1)) (m2 : MX (.int 0) (.int (e1 - e2)) = some (.int n2)) (h1 : T [x, .int n1] = some (encR a b c d, [none, none])) (h2 : T [y, .int n2] = some (encR a' b' c' d', [none, none])) :
  (dDef (fun _ => false) 2 4 (dSeq (dAsg (dCall [true, false] T (dCons (dBin oIdx (fun ρ => look ρ 0) (fun _ => some (.int 0))) (dCons (dBin MX (fun _ => some (.int 0)) (dBin oSub (dBin oIdx (fun ρ => look ρ 1) (fun _ => some (.int 1))) (dBin oIdx (fun ρ => look ρ 0) (fun _ => some (.int 1))))) dNil))) (gSet 2))
  (dSeq (dAsg (dCall [true, false] T (dCons (dBin oIdx (fun ρ => look ρ 1) (fun _ => some (.int 0))) (dCons (dBin MX (fun _ => some (.int 0)) (dBin oSub (dBin oIdx (fun ρ => look ρ 0) (fun _ => some (.int 1))) (dBin oIdx (fun ρ => look ρ 1) (fun _ => some (.int 1))))) dNil))) (gSet 3))
  (dRet (dTup (dCons (dBin oAdd (dBin oIdx (fun ρ => look ρ 2) (fun _ => some (.int 0))) (dBin oIdx (fun ρ => look ρ 3) (fun _ => some (.int 0)))) (dCons (dBin oAdd (dBin oIdx (fun ρ => look ρ 2) (fun _ => some (.int 1))) (dBin oIdx (fun ρ => look ρ 3) (fun _ => some (.int 1)))) (dCons (dBin oAdd (dBin oIdx (fun ρ => look ρ 2) (fun _ => some (.int 2))) (dBin oIdx (fun ρ => look ρ 3) (fun _ => some (.int 2)))) (dCons (dBin oAdd (dBin oIdx (fun ρ => look ρ 2) (fun _ => some (.int 3))) (dBin oIdx (fun ρ => look ρ 3) (fun _ => some (.int 3)))) dNil))))))))) [.tup [x, .int e1], .tup [y, .int e2]] = some (encR (a + a') (b + b') (c + c') (d + d'), [none, none]) := by
  simp [dDef, dSeq, dIf, dTru, oBool, dBin, dBind, look_nil, look_z, look_s, dRet, dRetMv, dSkip, dAsg, dExpr, setS, dAug, gSet, gTupO, gsCons, gsNil, dTup, dLst, dCons, dNil, copyO, isFz, isFzs, Mini.fin, oAdd_i, oSub_i, oMul_i, oMod_i, oDiv_i, oAnd_i, oOr_i, oXor_i, oLt_i, oLe_i, oGt_i, oGe_i, oMax_i, oMin_i, negO_i, oAbs_i, oInt_i, oInt_b, oEq_i, oNe_i, eqv_ii, idx_t, idx_l, atI_z, atI_n, atI_lit, ixN_n, ixN_lit, len_t, len_l, oTru, oNot, vAnd, vOr, bAnd, bOr, bNot, dIte, mLog2, rngs_z, rngs_s, line_le, line_lt, dCall, views, okb, noFm, noFms, frz, frzs, dIt, itO, lFor, dFor, dRng1, dRng2, rOk, dApp, dSetI, dFz, dCallX, dCallN, dDefX, dAsgR, dRetR, dExprR, dTry, dIsE, pick_rt, pick_nx, oBits_i, oIsN, oNotN, isNon, oIn, dChain, flatO, eqF, oList, oTuple, dLc, lLc, wipeE, dYes, List.set_cons_zero, List.set_cons_succ, List.replicate, isi_NoneType_int, isi_bool_int, isi_int_int, isi_str_int, isi_tuple_int, isi_list_int, isi_dict_int, isi_NoneType_bool, isi_bool_bool, isi_int_bool, isi_str_bool, isi_tuple_bool, isi_list_bool, isi_dict_bool, isi_NoneType_str, isi_bool_str, isi_int_str, isi_str_str, isi_tuple_str, isi_list_str, isi_dict_str, isi_NoneType_tuple, isi_bool_tuple, isi_int_tuple, isi_str_tuple, isi_tuple_tuple, isi_list_tuple, isi_dict_tuple, isi_NoneType_list, isi_bool_list, isi_int_list, isi_str_list, isi_tuple_list, isi_list_list, isi_dict_list, isi_NoneType_dict, isi_bool_dict, isi_int_dict, isi_str_dict, isi_tuple_dict, isi_list_dict, isi_dict_dict, Bd__law_ring_1, Bd__law_turn_1, Bd__law_is_ring_1, Bd__law_times_root_1, Bd__law_mul_1, Bd__law_mul_2, -oMax_i, m1, m2, h1, h2, fx, fy, gx, gy]
theorem dbl (n : Nat) (h : n < 9) : oMul (.int 2) (.int (n : Int)) = some (.int ((n + n : Nat) : Int)) := by
  have ok : mulOk 2 (n : Int) = true := (B.small (x := 2) (by decide) (by decide)).ok (n := 64) (show ((n : Nat) : Int).natAbs < 2 ^ 64 by simp; omega)
  rw [oMul_i, if_pos ok]
  congr 2
  omega
theorem num_nf (x : R) (k : Int) : frz (encN x k) = encN x k ∧ isFz (encN x k) = true ∧ noFm (encN x k) = true := ⟨rfl, rfl, rfl⟩
theorem raised {x : R} {k e m : Nat} (hx : x.bd m) (hm : m + e ≤ 100000000) (h : k ≤ e) : F__raised [encN x k, .int e] = some ((trn (e - k) x).enc, [none, none]) := by
  unfold F__raised
  refine rs_core x.enc (trn (e - k) x).enc k e F__times_roots oEq rfl rfl oEq_i (fun q => ?_) (fun q => ?_) rfl
  · rw [show e - k = 0 by omega]; rfl
  · have := p_roots hx (e - k) (by omega)
    rw [show ((e - k : Nat) : Int) = (e : Int) - (k : Int) by omega] at this
    exact this
theorem s_add {x y : R} {k1 k2 m : Nat} (hx : x.bd m) (hy : y.bd m) (hm : m + max k1 k2 ≤ 40000000) : ∃ z k, F_scaled_add [encN x k1, encN y k2] = some (encN z ((k : Nat) : Int), [none, none]) ∧ Low ((trn (max k1 k2 - k1) x).add (trn (max k1 k2 - k2) y)) (max k1 k2) z k := by
  obtain ⟨z, k, e, l⟩ := p_low ((trn (max k1 k2 - k1) x).add (trn (max k1 k2 - k2) y)) (max k1 k2) (by omega)
  refine ⟨z, k, ?_, l⟩
  unfold F_scaled_add
  exact sadd_core x.enc y.enc _ _ _ (encN z (k : Nat)) k1 k2 (max k1 k2 : Nat) F_lowest F__raised F_ring_add oMax rfl rfl rfl rfl rfl (by rw [oMax_i]; congr 2; omega) (raised hx (by omega) (by omega)) (raised hy (by omega) (by omega)) (r_add _ _) e rfl rfl rfl rfl
theorem s_sub {x y : R} {k1 k2 m : Nat} (hx : x.bd m) (hy : y.bd m) (hm : m + max k1 k2 ≤ 40000000) : ∃ z k, F_scaled_sub [encN x k1, encN y k2] = some (encN z ((k : Nat) : Int), [none, none]) ∧ Low ((trn (max k1 k2 - k1) x).add (trn (max k1 k2 - k2) y.neg)) (max k1 k2) z k := by
  obtain ⟨z, k, e, l⟩ := p_low ((trn (max k1 k2 - k1) x).add (trn (max k1 k2 - k2) y.neg)) (max k1 k2) (by omega)
  refine ⟨z, k, ?_, l⟩
  unfold F_scaled_sub
  have hs := r_sub (trn (max k1 k2 - k1) x) (trn (max k1 k2 - k2) y)
  rw [← trn_comm R.tr_neg] at hs
  exact ssub_core x.enc y.enc _ _ _ (encN z (k : Nat)) k1 k2 (max k1 k2 : Nat) F_lowest F__raised F_ring_sub oMax rfl rfl rfl rfl rfl (by rw [oMax_i]; congr 2; omega) (raised hx (by omega) (by omega)) (raised hy (by omega) (by omega)) hs e rfl rfl rfl rfl
theorem s_mul {x y : R} {k1 k2 m : Nat} (hx : x.bd m) (hy : y.bd m) (hm : m ≤ 40000000) (hk : k1 + k2 < 1000) : ∃ z k, F_scaled_mul [encN x k1, encN y k2] = some (encN z ((k : Nat) : Int), [none, none]) ∧ Low (x.mul y) (k1 + k2) z k := by
  obtain ⟨z, k, e, l⟩ := p_low (x.mul y) (k1 + k2) (by omega)
  refine ⟨z, k, ?_, l⟩
  unfold F_scaled_mul
  exact smul_core x.enc y.enc _ (encN z (k : Nat)) k1 k2 F_lowest F_ring_mul rfl rfl rfl rfl (r_mul hx hy hm) e rfl rfl
theorem s_sum {X Y : R} {e1 e2 : Nat} (h : max e1 e2 < 1000) : F__law_sum [encN X e1, encN Y e2] = some (((trn (max e1 e2 - e1) X).add (trn (max e1 e2 - e2) Y)).enc, [none, none]) := by
  unfold F__law_sum
  exact sum_core X.enc Y.enc _ _ _ _ _ _ _ _ e1 e2 ((max e1 e2 - e1 : Nat) : Int) ((max e1 e2 - e2 : Nat) : Int) F__law_times_root oMax rfl rfl rfl rfl (by rw [oMax_i]; congr 2; omega) (by rw [oMax_i]; congr 2; omega) (law_roots X _ (by omega)) (law_roots Y _ (by omega))
theorem s_neg (x : R) (k : Int) : F_scaled_neg [encN x k] = some (encN x.neg k, [none]) := rfl
theorem s_cj (x : R) (k : Int) : F_scaled_conjugate [encN x k] = some (encN x.cj k, [none]) := rfl
theorem st_core (x u : O) (k s : Int) (RT : Fn) (fx : frz x = x) (gx : isFz x = true) (gu : noFm u = true) (h : RT [x, .int s] = some (u, [none, none])) : (dDef (fun _ => false) 2 2 (dRet (dTup (dCons (dCall [true, true] RT (dCons (dBin oIdx (fun ρ => look ρ 0) (fun _ => some (.int 0))) (dCons (fun ρ => look ρ 1) dNil))) (dCons (dBind (dBin oIdx (fun ρ => look ρ 0) (fun _ => some (.int 1))) copyO) dNil))))) [.tup [x, .int k], .int s] = some (.tup [u, .int k], [none, none]) := by
  simp [dDef, dSeq, dIf, dTru, oBool, dBin, dBind, look_nil, look_z, look_s, dRet, dRetMv, dSkip, dAsg, dExpr, setS, dAug, gSet, gTupO, gsCons, gsNil, dTup, dLst, dCons, dNil, copyO, isFz, isFzs, Mini.fin, oAdd_i, oSub_i, oMul_i, oMod_i, oDiv_i, oAnd_i, oOr_i, oXor_i, oLt_i, oLe_i, oGt_i, oGe_i, oMax_i, oMin_i, negO_i, oAbs_i, oInt_i, oInt_b, oEq_i, oNe_i, eqv_ii, idx_t, idx_l, atI_z, atI_n, atI_lit, ixN_n, ixN_lit, len_t, len_l, oTru, oNot, vAnd, vOr, bAnd, bOr, bNot, dIte, mLog2, rngs_z, rngs_s, line_le, line_lt, dCall, views, okb, noFm, noFms, frz, frzs, dIt, itO, lFor, dFor, dRng1, dRng2, rOk, dApp, dSetI, dFz, dCallX, dCallN, dDefX, dAsgR, dRetR, dExprR, dTry, dIsE, pick_rt, pick_nx, oBits_i, oIsN, oNotN, isNon, oIn, dChain, flatO, eqF, oList, oTuple, dLc, lLc, wipeE, dYes, List.set_cons_zero, List.set_cons_succ, List.replicate, isi_NoneType_int, isi_bool_int, isi_int_int, isi_str_int, isi_tuple_int, isi_list_int, isi_dict_int, isi_NoneType_bool, isi_bool_bool, isi_int_bool, isi_str_bool, isi_tuple_bool, isi_list_bool, isi_dict_bool, isi_NoneType_str, isi_bool_str, isi_int_str, isi_str_str, isi_tuple_str, isi_list_str, isi_dict_str, isi_NoneType_tuple, isi_bool_tuple, isi_int_tuple, isi_str_tuple, isi_tuple_tuple, isi_list_tuple, isi_dict_tuple, isi_NoneType_list, isi_bool_list, isi_int_list, isi_str_list, isi_tuple_list, isi_list_list, isi_dict_list, isi_NoneType_dict, isi_bool_dict, isi_int_dict, isi_str_dict, isi_tuple_dict, isi_list_dict, isi_dict_dict, Bd__law_ring_1, Bd__law_turn_1, Bd__law_is_ring_1, Bd__law_times_root_1, Bd__law_mul_1, Bd__law_mul_2, h, fx, gx, gu]
theorem sq_core (x y r : O) (SM SC : Fn) (fx : frz x = x) (gx : isFz x = true) (gr : noFm r = true) (gy : noFm y = true) (h1 : SC [x] = some (y, [none])) (h2 : SM [x, y] = some (r, [none, none])) : (dDef (fun _ => false) 1 1 (dRet (dCall [true, false] SM (dCons (fun ρ => look ρ 0) (dCons (dCall [true] SC (dCons (fun ρ => look ρ 0) dNil)) dNil))))) [x] = some (r, [none]) := by
  simp [dDef, dSeq, dIf, dTru, oBool, dBin, dBind, look_nil, look_z, look_s, dRet, dRetMv, dSkip, dAsg, dExpr, setS, dAug, gSet, gTupO, gsCons, gsNil, dTup, dLst, dCons, dNil, copyO, isFz, isFzs, Mini.fin, oAdd_i, oSub_i, oMul_i, oMod_i, oDiv_i, oAnd_i, oOr_i, oXor_i, oLt_i, oLe_i, oGt_i, oGe_i, oMax_i, oMin_i, negO_i, oAbs_i, oInt_i, oInt_b, oEq_i, oNe_i, eqv_ii, idx_t, idx_l, atI_z, atI_n, atI_lit, ixN_n, ixN_lit, len_t, len_l, oTru, oNot, vAnd, vOr, bAnd, bOr, bNot, dIte, mLog2, rngs_z, rngs_s, line_le, line_lt, dCall, views, okb, noFm, noFms, frz, frzs, dIt, itO, lFor, dFor, dRng1, dRng2, rOk, dApp, dSetI, dFz, dCallX, dCallN, dDefX, dAsgR, dRetR, dExprR, dTry, dIsE, pick_rt, pick_nx, oBits_i, oIsN, oNotN, isNon, oIn, dChain, flatO, eqF, oList, oTuple, dLc, lLc, wipeE, dYes, List.set_cons_zero, List.set_cons_succ, List.replicate, isi_NoneType_int, isi_bool_int, isi_int_int, isi_str_int, isi_tuple_int, isi_list_int, isi_dict_int, isi_NoneType_bool, isi_bool_bool, isi_int_bool, isi_str_bool, isi_tuple_bool, isi_list_bool, isi_dict_bool, isi_NoneType_str, isi_bool_str, isi_int_str, isi_str_str, isi_tuple_str, isi_list_str, isi_dict_str, isi_NoneType_tuple, isi_bool_tuple, isi_int_tuple, isi_str_tuple, isi_tuple_tuple, isi_list_tuple, isi_dict_tuple, isi_NoneType_list, isi_bool_list, isi_int_list, isi_str_list, isi_tuple_list, isi_list_list, isi_dict_list, isi_NoneType_dict, isi_bool_dict, isi_int_dict, isi_str_dict, isi_tuple_dict, isi_list_dict, isi_dict_dict, Bd__law_ring_1, Bd__law_turn_1, Bd__law_is_ring_1, Bd__law_times_root_1, Bd__law_mul_1, Bd__law_mul_2, h1, h2, fx, gx, gr, gy]
theorem main_core (os : List O) (hz : frzs os = os) (hf : isFzs os = true) (G C M SU LM T L SQ SA SS SM SN SC ST : Fn) (MX MU : O → O → Option O) (a b c d e1 e2 E s e22 : Int) (Y l1 l2 NY r1 r2 r3 r4 r5 r6 r7 s1 s2 s3 s6 s7 : O) (fY : frz Y = Y) (gY : isFz Y = true) (nY : noFm Y = true) (fl1 : frz l1 = l1) (gl1 : isFz l1 = true) (nl1 : noFm l1 = true) (fl2 : frz l2 = l2) (gl2 : isFz l2 = true) (nl2 : noFm l2 = true) (fNY : frz NY = NY) (gNY : isFz NY = true) (nNY : noFm NY = true) (fr1 : frz r1 = r1) (gr1 : isFz r1 = true) (nr1 : noFm r1 = true) (fr2 : frz r2 = r2) (gr2 : isFz r2 = true) (nr2 : noFm r2 = true) (fr3 : frz r3 = r3) (gr3 : isFz r3 = true) (nr3 : noFm r3 = true) (fr4 : frz r4 = r4) (gr4 : isFz r4 = true) (nr4 : noFm r4 = true) (fr5 : frz r5 = r5) (gr5 : isFz r5 = true) (nr5 : noFm r5 = true) (fr6 : frz r6 = r6) (gr6 : isFz r6 = true) (nr6 : noFm r6 = true) (fr7 : frz r7 = r7) (gr7 : isFz r7 = true) (nr7 : noFm r7 = true) (fs1 : frz s1 = s1) (gs1 : isFz s1 = true) (ns1 : noFm s1 = true) (fs2 : frz s2 = s2) (gs2 : isFz s2 = true) (ns2 : noFm s2 = true) (fs3 : frz s3 = s3) (gs3 : isFz s3 = true) (ns3 : noFm s3 = true) (fs6 : frz s6 = s6) (gs6 : isFz s6 = true) (ns6 : noFm s6 = true) (fs7 : frz s7 = s7) (gs7 : isFz s7 = true) (ns7 : noFm s7 = true)
  (hG1 : G [.lst false os, .int 0] = some (.tup [encR a b c d, .int e1], [none, none])) (hG2 : G [.lst false os, .int 6] = some (.tup [Y, .int e2], [none, none])) (hC : C [.lst false os, .int 12] = some (.int s, [none, none]))
  (hm : MX (.int e1) (.int e2) = some (.int E)) (hu : MU (.int 2) (.int e1) = some (.int e22)) (hl1 : L [encR a b c d, .int e1] = some (l1, [none, none])) (hl2 : L [Y, .int e2] = some (l2, [none, none])) (hT : T [Y, .int 4] = some (NY, [none, none]))
  (h1 : SA [l1, l2] = some (r1, [none, none])) (h2 : SS [l1, l2] = some (r2, [none, none])) (h3 : SM [l1, l2] = some (r3, [none, none])) (h4 : SN [l2] = some (r4, [none])) (h5 : SC [l1] = some (r5, [none])) (h6 : ST [l1, .int s] = some (r6, [none, none])) (h7 : SQ [l1] = some (r7, [none]))
  (k1 : SU [.tup [encR a b c d, .int e1], .tup [Y, .int e2]] = some (s1, [none, none])) (k2 : SU [.tup [encR a b c d, .int e1], .tup [NY, .int e2]] = some (s2, [none, none])) (k3 : LM [encR a b c d, Y] = some (s3, [none, none])) (k6 : T [encR a b c d, .int s] = some (s6, [none, none])) (k7 : LM [encR a b c d, encR a (-d) (-c) (-b)] = some (s7, [none, none]))
  (m1 : M [r1, s1, .int E] = some (.bl true, [none, none, none])) (m2 : M [r2, s2, .int E] = some (.bl true, [none, none, none])) (m3 : M [r3, s3, .int (e1 + e2)] = some (.bl true, [none, none, none])) (m4 : M [r4, NY, .int e2] = some (.bl true, [none, none, none]))
  (m5 : M [r5, encR a (-d) (-c) (-b), .int e1] = some (.bl true, [none, none, none])) (m6 : M [r6, s6, .int e1] = some (.bl true, [none, none, none])) (m7 : M [r7, s7, .int e22] = some (.bl true, [none, none, none])) :
  ∃ fin, (dDef (fun _ => false) 1 9 (dSeq (dAsg (dCall [true, false] G (dCons (fun ρ => look ρ 0) (dCons (fun _ => some (.int 0)) dNil))) (gSet 1))
  (dSeq (dAsg (dCall [true, false] G (dCons (fun ρ => look ρ 0) (dCons (fun _ => some (.int 6)) dNil))) (gSet 2))
  (dSeq (dAsg (dCall [true, false] C (dCons (fun ρ => look ρ 0) (dCons (fun _ => some (.int 12)) dNil))) (gSet 3))
  (dSeq (dAsg (dBin MX (dBin oIdx (fun ρ => look ρ 1) (fun _ => some (.int 1))) (dBin oIdx (fun ρ => look ρ 2) (fun _ => some (.int 1)))) (gSet 4))
  (dSeq (dAsg (dCall [true, true] L (dCons (dBin oIdx (fun ρ => look ρ 1) (fun _ => some (.int 0))) (dCons (dBin oIdx (fun ρ => look ρ 1) (fun _ => some (.int 1))) dNil))) (gSet 5))
  (dSeq (dAsg (dCall [true, true] L (dCons (dBin oIdx (fun ρ => look ρ 2) (fun _ => some (.int 0))) (dCons (dBin oIdx (fun ρ => look ρ 2) (fun _ => some (.int 1))) dNil))) (gSet 6))
  (dSeq (dAsg (dTup (dCons (dCall [true, false] T (dCons (dBin oIdx (fun ρ => look ρ 2) (fun _ => some (.int 0))) (dCons (fun _ => some (.int 4)) dNil))) (dCons (dBind (dBin oIdx (fun ρ => look ρ 2) (fun _ => some (.int 1))) copyO) dNil))) (gSet 7))
  (dSeq (dAsg (dTup (dCons (dBind (dBin oIdx (dBin oIdx (fun ρ => look ρ 1) (fun _ => some (.int 0))) (fun _ => some (.int 0))) copyO) (dCons (dBind (dBin oIdx (dBin oIdx (fun ρ => look ρ 1) (fun _ => some (.int 0))) (fun _ => some (.int 3))) negO) (dCons (dBind (dBin oIdx (dBin oIdx (fun ρ => look ρ 1) (fun _ => some (.int 0))) (fun _ => some (.int 2))) negO) (dCons (dBind (dBin oIdx (dBin oIdx (fun ρ => look ρ 1) (fun _ => some (.int 0))) (fun _ => some (.int 1))) negO) dNil))))) (gSet 8))
  (dSeq (dIf (bNot (dTru oTru (dCall [false, false, true] M (dCons (dCall [true, true] SA (dCons (fun ρ => look ρ 5) (dCons (fun ρ => look ρ 6) dNil))) (dCons (dCall [true, true] SU (dCons (fun ρ => look ρ 1) (dCons (fun ρ => look ρ 2) dNil))) (dCons (fun ρ => look ρ 4) dNil))))))
  (dRet (fun _ => some (.bl false)))
  dSkip)
  (dSeq (dIf (bNot (dTru oTru (dCall [false, false, true] M (dCons (dCall [true, true] SS (dCons (fun ρ => look ρ 5) (dCons (fun ρ => look ρ 6) dNil))) (dCons (dCall [true, true] SU (dCons (fun ρ => look ρ 1) (dCons (fun ρ => look ρ 7) dNil))) (dCons (fun ρ => look ρ 4) dNil))))))
  (dRet (fun _ => some (.bl false)))
  dSkip)
  (dSeq (dIf (bNot (dTru oTru (dCall [false, false, false] M (dCons (dCall [true, true] SM (dCons (fun ρ => look ρ 5) (dCons (fun ρ => look ρ 6) dNil))) (dCons (dCall [true, true] LM (dCons (dBin oIdx (fun ρ => look ρ 1) (fun _ => some (.int 0))) (dCons (dBin oIdx (fun ρ => look ρ 2) (fun _ => some (.int 0))) dNil))) (dCons (dBin oAdd (dBin oIdx (fun ρ => look ρ 1) (fun _ => some (.int 1))) (dBin oIdx (fun ρ => look ρ 2) (fun _ => some (.int 1)))) dNil))))))
  (dRet (fun _ => some (.bl false)))
  dSkip)
  (dSeq (dIf (bNot (dTru oTru (dCall [false, true, true] M (dCons (dCall [true] SN (dCons (fun ρ => look ρ 6) dNil)) (dCons (dBin oIdx (fun ρ => look ρ 7) (fun _ => some (.int 0))) (dCons (dBin oIdx (fun ρ => look ρ 2) (fun _ => some (.int 1))) dNil))))))
  (dRet (fun _ => some (.bl false)))
  dSkip)
  (dSeq (dIf (bNot (dTru oTru (dCall [false, true, true] M (dCons (dCall [true] SC (dCons (fun ρ => look ρ 5) dNil)) (dCons (fun ρ => look ρ 8) (dCons (dBin oIdx (fun ρ => look ρ 1) (fun _ => some (.int 1))) dNil))))))
  (dRet (fun _ => some (.bl false)))
  dSkip)
  (dSeq (dIf (bNot (dTru oTru (dCall [false, false, true] M (dCons (dCall [true, true] ST (dCons (fun ρ => look ρ 5) (dCons (fun ρ => look ρ 3) dNil))) (dCons (dCall [true, true] T (dCons (dBin oIdx (fun ρ => look ρ 1) (fun _ => some (.int 0))) (dCons (fun ρ => look ρ 3) dNil))) (dCons (dBin oIdx (fun ρ => look ρ 1) (fun _ => some (.int 1))) dNil))))))
  (dRet (fun _ => some (.bl false)))
  dSkip)
  (dRet (dCall [false, false, false] M (dCons (dCall [true] SQ (dCons (fun ρ => look ρ 5) dNil)) (dCons (dCall [true, true] LM (dCons (dBin oIdx (fun ρ => look ρ 1) (fun _ => some (.int 0))) (dCons (fun ρ => look ρ 8) dNil))) (dCons (dBin MU (fun _ => some (.int 2)) (dBin oIdx (fun ρ => look ρ 1) (fun _ => some (.int 1)))) dNil)))))))))))))))))))) [.lst false os] = some (.bl true, fin) := by
  simp [dDef, dSeq, dIf, dTru, oBool, dBin, dBind, look_nil, look_z, look_s, dRet, dRetMv, dSkip, dAsg, dExpr, setS, dAug, gSet, gTupO, gsCons, gsNil, dTup, dLst, dCons, dNil, copyO, isFz, isFzs, Mini.fin, oAdd_i, oSub_i, oMul_i, oMod_i, oDiv_i, oAnd_i, oOr_i, oXor_i, oLt_i, oLe_i, oGt_i, oGe_i, oMax_i, oMin_i, negO_i, oAbs_i, oInt_i, oInt_b, oEq_i, oNe_i, eqv_ii, idx_t, idx_l, atI_z, atI_n, atI_lit, ixN_n, ixN_lit, len_t, len_l, oTru, oNot, vAnd, vOr, bAnd, bOr, bNot, dIte, mLog2, rngs_z, rngs_s, line_le, line_lt, dCall, views, okb, noFm, noFms, frz, frzs, dIt, itO, lFor, dFor, dRng1, dRng2, rOk, dApp, dSetI, dFz, dCallX, dCallN, dDefX, dAsgR, dRetR, dExprR, dTry, dIsE, pick_rt, pick_nx, oBits_i, oIsN, oNotN, isNon, oIn, dChain, flatO, eqF, oList, oTuple, dLc, lLc, wipeE, dYes, List.set_cons_zero, List.set_cons_succ, List.replicate, isi_NoneType_int, isi_bool_int, isi_int_int, isi_str_int, isi_tuple_int, isi_list_int, isi_dict_int, isi_NoneType_bool, isi_bool_bool, isi_int_bool, isi_str_bool, isi_tuple_bool, isi_list_bool, isi_dict_bool, isi_NoneType_str, isi_bool_str, isi_int_str, isi_str_str, isi_tuple_str, isi_list_str, isi_dict_str, isi_NoneType_tuple, isi_bool_tuple, isi_int_tuple, isi_str_tuple, isi_tuple_tuple, isi_list_tuple, isi_dict_tuple, isi_NoneType_list, isi_bool_list, isi_int_list, isi_str_list, isi_tuple_list, isi_list_list, isi_dict_list, isi_NoneType_dict, isi_bool_dict, isi_int_dict, isi_str_dict, isi_tuple_dict, isi_list_dict, isi_dict_dict, Bd__law_ring_1, Bd__law_turn_1, Bd__law_is_ring_1, Bd__law_times_root_1, Bd__law_mul_1, Bd__law_mul_2, -oMax_i, -oMul_i, hz, hf, hG1, hG2, hC, hm, hu, hl1, hl2, hT, h1, h2, h3, h4, h5, h6, h7, k1, k2, k3, k6, k7, m1, m2, m3, m4, m5, m6, m7, fY, gY, nY, fl1, gl1, nl1, fl2, gl2, nl2, fNY, gNY, nNY, fr1, gr1, nr1, fr2, gr2, nr2, fr3, gr3, nr3, fr4, gr4, nr4, fr5, gr5, nr5, fr6, gr6, nr6, fr7, gr7, nr7, fs1, gs1, ns1, fs2, gs2, ns2, fs3, gs3, ns3, fs6, gs6, ns6, fs7, gs7, ns7]
theorem mx (m n : Nat) : oMax (.int (m : Int)) (.int (n : Int)) = some (.int ((max m n : Nat) : Int)) := by rw [oMax_i]; congr 2; omega
theorem lt9 {n : Nat} (h : n < 9) : n < 4611686018427387904 := by omega
theorem lt9' {m n : Nat} (h : m < 9) (h' : n < 9) : max m n < 4611686018427387904 := by omega
theorem lt9s {m n : Nat} (h : m < 9) (h' : n < 9) : m + n < 4611686018427387904 := by omega
theorem l_turn4 (Y : R) : F__law_turn [Y.enc, .int 4] = some (Y.neg.enc, [none, none]) := by
  rcases Y with ⟨p, q, r, s⟩
  simp [F__law_turn, dDef, dSeq, dIf, dTru, oBool, dBin, dBind, look_nil, look_z, look_s, dRet, dRetMv, dSkip, dAsg, dExpr, setS, dAug, gSet, gTupO, gsCons, gsNil, dTup, dLst, dCons, dNil, copyO, isFz, isFzs, Mini.fin, oAdd_i, oSub_i, oMul_i, oMod_i, oDiv_i, oAnd_i, oOr_i, oXor_i, oLt_i, oLe_i, oGt_i, oGe_i, oMax_i, oMin_i, negO_i, oAbs_i, oInt_i, oInt_b, oEq_i, oNe_i, eqv_ii, idx_t, idx_l, atI_z, atI_n, atI_lit, ixN_n, ixN_lit, len_t, len_l, oTru, oNot, vAnd, vOr, bAnd, bOr, bNot, dIte, mLog2, rngs_z, rngs_s, line_le, line_lt, dCall, views, okb, noFm, noFms, frz, frzs, dIt, itO, lFor, dFor, dRng1, dRng2, rOk, dApp, dSetI, dFz, dCallX, dCallN, dDefX, dAsgR, dRetR, dExprR, dTry, dIsE, pick_rt, pick_nx, oBits_i, oIsN, oNotN, isNon, oIn, dChain, flatO, eqF, oList, oTuple, dLc, lLc, wipeE, dYes, List.set_cons_zero, List.set_cons_succ, List.replicate, isi_NoneType_int, isi_bool_int, isi_int_int, isi_str_int, isi_tuple_int, isi_list_int, isi_dict_int, isi_NoneType_bool, isi_bool_bool, isi_int_bool, isi_str_bool, isi_tuple_bool, isi_list_bool, isi_dict_bool, isi_NoneType_str, isi_bool_str, isi_int_str, isi_str_str, isi_tuple_str, isi_list_str, isi_dict_str, isi_NoneType_tuple, isi_bool_tuple, isi_int_tuple, isi_str_tuple, isi_tuple_tuple, isi_list_tuple, isi_dict_tuple, isi_NoneType_list, isi_bool_list, isi_int_list, isi_str_list, isi_tuple_list, isi_list_list, isi_dict_list, isi_NoneType_dict, isi_bool_dict, isi_int_dict, isi_str_dict, isi_tuple_dict, isi_list_dict, isi_dict_dict, Bd__law_ring_1, Bd__law_turn_1, Bd__law_is_ring_1, Bd__law_times_root_1, Bd__law_mul_1, Bd__law_mul_2, R.neg]
theorem main1 (os : List O) (hz : frzs os = os) (hf : isFzs os = true) (X Y : R) (n1 n2 : Nat) (s : Int) (g1 : n1 < 9) (g2 : n2 < 9) (bX : X.bd 1048576) (bY : Y.bd 1048576)
  (hG1 : F__law_scaled [.lst false os, .int 0] = some (.tup [X.enc, .int n1], [none, none])) (hG2 : F__law_scaled [.lst false os, .int 6] = some (.tup [Y.enc, .int n2], [none, none])) (c12 : F__law_cell [.lst false os, .int 12] = some (.int s, [none, none])) :
  ∃ fin, F_law [.lst false os] = some (.bl true, fin) := by
  obtain ⟨x, k1, hl1, lx⟩ := p_low X n1 (by omega)
  obtain ⟨y, k2, hl2, ly⟩ := p_low Y n2 (by omega)
  have bx := lx.bd bX
  have by' := ly.bd bY
  have lk1 : k1 < 9 := Nat.lt_of_le_of_lt lx.le g1
  have lk2 : k2 < 9 := Nat.lt_of_le_of_lt ly.le g2
  obtain ⟨h, t1, t2⟩ := turns x s
  have hT := l_turn4 Y
  obtain ⟨z1, j1, h1, q1⟩ := s_add (k1 := k1) (k2 := k2) bx by' (by omega)
  obtain ⟨z2, j2, h2, q2⟩ := s_sub (k1 := k1) (k2 := k2) bx by' (by omega)
  obtain ⟨z3, j3, h3, q3⟩ := s_mul (k1 := k1) (k2 := k2) bx by' (by decide) (by omega)
  obtain ⟨z7, j7, h7, q7⟩ := s_mul (k1 := k1) (k2 := k1) bx bx.cj (by decide) (by omega)
  have h7' : F_scaled_abs_square [encN x k1] = some (encN z7 (j7 : Nat), [none]) := by
    unfold F_scaled_abs_square
    exact sq_core (encN x k1) (encN x.cj k1) (encN z7 (j7 : Nat)) F_scaled_mul F_scaled_conjugate rfl rfl rfl rfl (s_cj _ _) h7
  have h6 : F_scaled_turn [encN x k1, .int s] = some (encN (wn h x) k1, [none, none]) := by
    unfold F_scaled_turn
    exact st_core x.enc (wn h x).enc k1 s F_ring_turn rfl rfl rfl t1
  have lyn : Low Y.neg n2 y.neg k2 := Low.map (f := R.neg) R.tr_neg R.ev_neg ly
  have lxc : Low X.cj n1 x.cj k1 := Low.map (f := R.cj) R.tr_cj R.ev_cj lx
  have lxw : Low (wn h X) n1 (wn h x) k1 := Low.map (f := wn h) (wn_tr h) (wn_ev h) lx
  have m1 := l_num (Low.sum lx ly q1) (lt9' g1 g2)
  have m2 := l_num (Low.sum lx lyn q2) (lt9' g1 g2)
  have m3 := l_num (Low.prod lx ly q3) (lt9s g1 g2)
  have m4 := l_num lyn (lt9 g2)
  have m5 := l_num lxc (lt9 g1)
  have m6 := l_num lxw (lt9 g1)
  have m7 := l_num (Low.prod lx lxc q7) (lt9s g1 g1)
  rw [show ((n1 + n2 : Nat) : Int) = (n1 : Int) + (n2 : Int) from Int.natCast_add n1 n2] at m3
  have hu := dbl n1 g1
  have hm := mx n1 n2
  have k1' := s_sum (X := X) (Y := Y) (e1 := n1) (e2 := n2) (by omega)
  have k2' := s_sum (X := X) (Y := Y.neg) (e1 := n1) (e2 := n2) (by omega)
  have k3' := l_mul bX bY (by decide)
  have k7' := l_mul bX bX.cj (by decide)
  have t3 := (t2 X).1
  clear lx ly lyn lxc lxw q1 q2 q3 q7 t2 t1 h7
  unfold F_law
  exact main_core os hz hf F__law_scaled F__law_cell F__law_is_number F__law_sum F__law_mul F__law_turn F_lowest F_scaled_abs_square F_scaled_add F_scaled_sub F_scaled_mul F_scaled_neg F_scaled_conjugate F_scaled_turn oMax oMul
    X.a X.b X.c X.d n1 n2 (max n1 n2 : Nat) s (n1 + n1 : Nat) Y.enc (encN x k1) (encN y k2) Y.neg.enc (encN z1 (j1 : Nat)) (encN z2 (j2 : Nat)) (encN z3 (j3 : Nat)) (encN y.neg k2) (encN x.cj k1) (encN (wn h x) k1) (encN z7 (j7 : Nat)) _ _ _ _ _
    rfl rfl rfl rfl rfl rfl rfl rfl rfl rfl rfl rfl rfl rfl rfl rfl rfl rfl rfl rfl rfl rfl rfl rfl rfl rfl rfl rfl rfl rfl rfl rfl rfl rfl rfl rfl rfl rfl rfl rfl rfl rfl rfl rfl rfl rfl rfl rfl
    hG1 hG2 c12 hm hu hl1 hl2 hT h1 h2 h3 (s_neg _ _) (s_cj _ _) h6 h7' k1' k2' k3' t3 k7' m1 m2 m3 m4 m5 m6 m7
theorem main (ns : List Int) (hl : ns.length ≤ 63) (hb : ∀ z ∈ ns, Builtin.Int.intBits z ≤ 1048576) : ∃ fin, F_law [O.lst false (ns.map O.int)] = some (.bl true, fin) := by
  obtain ⟨a, b, c, d, r0, ba, bb, bc, bd⟩ := law_ring' ns 0 hb
  obtain ⟨a', b', c', d', r6, ba', bb', bc', bd'⟩ := law_ring' ns 6 hb
  have r0 : F__law_ring [O.lst false (ns.map .int), .int 0] = _ := r0
  have r6 : F__law_ring [O.lst false (ns.map .int), .int 6] = _ := r6
  have c5 : F__law_cell [O.lst false (ns.map .int), .int 5] = _ := law_cell ns 5
  have c11 : F__law_cell [O.lst false (ns.map .int), .int 11] = _ := law_cell ns 11
  have c12 : F__law_cell [O.lst false (ns.map .int), .int 12] = _ := law_cell ns 12
  have hG1 : F__law_scaled [O.lst false (ns.map .int), .int 0] = some (.tup [encR a b c d, .int (cell ns 5 % 9)], [none, none]) := by
    simp [F__law_scaled, dDef, dSeq, dIf, dTru, oBool, dBin, dBind, look_nil, look_z, look_s, dRet, dRetMv, dSkip, dAsg, dExpr, setS, dAug, gSet, gTupO, gsCons, gsNil, dTup, dLst, dCons, dNil, copyO, isFz, isFzs, Mini.fin, oAdd_i, oSub_i, oMul_i, oMod_i, oDiv_i, oAnd_i, oOr_i, oXor_i, oLt_i, oLe_i, oGt_i, oGe_i, oMax_i, oMin_i, negO_i, oAbs_i, oInt_i, oInt_b, oEq_i, oNe_i, eqv_ii, idx_t, idx_l, atI_z, atI_n, atI_lit, ixN_n, ixN_lit, len_t, len_l, oTru, oNot, vAnd, vOr, bAnd, bOr, bNot, dIte, mLog2, rngs_z, rngs_s, line_le, line_lt, dCall, views, okb, noFm, noFms, frz, frzs, dIt, itO, lFor, dFor, dRng1, dRng2, rOk, dApp, dSetI, dFz, dCallX, dCallN, dDefX, dAsgR, dRetR, dExprR, dTry, dIsE, pick_rt, pick_nx, oBits_i, oIsN, oNotN, isNon, oIn, dChain, flatO, eqF, oList, oTuple, dLc, lLc, wipeE, dYes, List.set_cons_zero, List.set_cons_succ, List.replicate, isi_NoneType_int, isi_bool_int, isi_int_int, isi_str_int, isi_tuple_int, isi_list_int, isi_dict_int, isi_NoneType_bool, isi_bool_bool, isi_int_bool, isi_str_bool, isi_tuple_bool, isi_list_bool, isi_dict_bool, isi_NoneType_str, isi_bool_str, isi_int_str, isi_str_str, isi_tuple_str, isi_list_str, isi_dict_str, isi_NoneType_tuple, isi_bool_tuple, isi_int_tuple, isi_str_tuple, isi_tuple_tuple, isi_list_tuple, isi_dict_tuple, isi_NoneType_list, isi_bool_list, isi_int_list, isi_str_list, isi_tuple_list, isi_list_list, isi_dict_list, isi_NoneType_dict, isi_bool_dict, isi_int_dict, isi_str_dict, isi_tuple_dict, isi_list_dict, isi_dict_dict, Bd__law_ring_1, Bd__law_turn_1, Bd__law_is_ring_1, Bd__law_times_root_1, Bd__law_mul_1, Bd__law_mul_2, frzs_ints, isFzs_ints, r0, c5]
  have hG2 : F__law_scaled [O.lst false (ns.map .int), .int 6] = some (.tup [encR a' b' c' d', .int (cell ns 11 % 9)], [none, none]) := by
    simp [F__law_scaled, dDef, dSeq, dIf, dTru, oBool, dBin, dBind, look_nil, look_z, look_s, dRet, dRetMv, dSkip, dAsg, dExpr, setS, dAug, gSet, gTupO, gsCons, gsNil, dTup, dLst, dCons, dNil, copyO, isFz, isFzs, Mini.fin, oAdd_i, oSub_i, oMul_i, oMod_i, oDiv_i, oAnd_i, oOr_i, oXor_i, oLt_i, oLe_i, oGt_i, oGe_i, oMax_i, oMin_i, negO_i, oAbs_i, oInt_i, oInt_b, oEq_i, oNe_i, eqv_ii, idx_t, idx_l, atI_z, atI_n, atI_lit, ixN_n, ixN_lit, len_t, len_l, oTru, oNot, vAnd, vOr, bAnd, bOr, bNot, dIte, mLog2, rngs_z, rngs_s, line_le, line_lt, dCall, views, okb, noFm, noFms, frz, frzs, dIt, itO, lFor, dFor, dRng1, dRng2, rOk, dApp, dSetI, dFz, dCallX, dCallN, dDefX, dAsgR, dRetR, dExprR, dTry, dIsE, pick_rt, pick_nx, oBits_i, oIsN, oNotN, isNon, oIn, dChain, flatO, eqF, oList, oTuple, dLc, lLc, wipeE, dYes, List.set_cons_zero, List.set_cons_succ, List.replicate, isi_NoneType_int, isi_bool_int, isi_int_int, isi_str_int, isi_tuple_int, isi_list_int, isi_dict_int, isi_NoneType_bool, isi_bool_bool, isi_int_bool, isi_str_bool, isi_tuple_bool, isi_list_bool, isi_dict_bool, isi_NoneType_str, isi_bool_str, isi_int_str, isi_str_str, isi_tuple_str, isi_list_str, isi_dict_str, isi_NoneType_tuple, isi_bool_tuple, isi_int_tuple, isi_str_tuple, isi_tuple_tuple, isi_list_tuple, isi_dict_tuple, isi_NoneType_list, isi_bool_list, isi_int_list, isi_str_list, isi_tuple_list, isi_list_list, isi_dict_list, isi_NoneType_dict, isi_bool_dict, isi_int_dict, isi_str_dict, isi_tuple_dict, isi_list_dict, isi_dict_dict, Bd__law_ring_1, Bd__law_turn_1, Bd__law_is_ring_1, Bd__law_times_root_1, Bd__law_mul_1, Bd__law_mul_2, frzs_ints, isFzs_ints, r6, c11]
  obtain ⟨n1, hn1⟩ : ∃ n : Nat, cell ns 5 % 9 = n := ⟨(cell ns 5 % 9).toNat, by omega⟩
  obtain ⟨n2, hn2⟩ : ∃ n : Nat, cell ns 11 % 9 = n := ⟨(cell ns 11 % 9).toNat, by omega⟩
  rw [hn1] at hG1
  rw [hn2] at hG2
  exact main1 (ns.map O.int) (frzs_ints ns) (isFzs_ints ns) ⟨a, b, c, d⟩ ⟨a', b', c', d'⟩ n1 n2 (cell ns 12) (by omega) (by omega) ⟨ba, bb, bc, bd⟩ ⟨ba', bb', bc', bd'⟩ hG1 hG2 c12
end K07
open PySem PySem.W PyProof.Rows
set_option maxHeartbeats 0 in
theorem PySem.Challenge.cw_phasor_k07_scaled_arithmetic_holds : PySem.Challenge.rw_phasor_k07_scaled_arithmetic.Holds := by
  w_on; o_law; k_head; (case hw => w_witness2)
  k_fill
  refine L2.walk_ofB (l := PySem.Challenge.rw_phasor_k07_scaled_arithmetic) (n := 63) (k := 6) (x := "script") (CX := fun _ => L2.CX0) (sp := fun w => Mini.spLaw _) rfl (by decide) rfl ⟨rfl, by decide, by decide⟩ (fun w h Y => PySem.W.kIn_of Y) ?F (fun _ _ a ns hl hb _ hS => ⟨a, ns, rfl, hl, hb, hS, fun _ => rfl⟩) (fun _ _ _ _ _ h => h)
  case F =>
    intro w mg fa h KX G hmg
    refine' K07.all_mk KX G hmg ?a0 ?l0 ?c0 ?k0 ?a1 ?l1 ?c1 ?k1 ?a2 ?l2 ?c2 ?k2 ?a3 ?l3 ?c3 ?k3 ?a4 ?l4 ?c4 ?k4 ?a5 ?l5 ?c5 ?k5 ?a6 ?l6 ?c6 ?k6 ?a7 ?l7 ?c7 ?k7 ?a8 ?l8 ?c8 ?k8 ?a9 ?l9 ?c9 ?k9 ?a10 ?l10 ?c10 ?k10 ?a11 ?l11 ?c11 ?k11 ?a12 ?l12 ?c12 ?k12 ?a13 ?l13 ?c13 ?k13 ?a14 ?l14 ?c14 ?k14 ?a15 ?l15 ?c15 ?k15 ?a16 ?l16 ?c16 ?k16 ?a17 ?l17 ?c17 ?k17 ?a18 ?l18 ?c18 ?k18 ?a19 ?l19 ?c19 ?k19 ?a20 ?l20 ?c20 ?k20 ?a21 ?l21 ?c21 ?k21 ?a22 ?l22 ?c22 ?k22 ?a23 ?l23 ?c23 ?k23 ?a24 ?l24 ?c24 ?k24 ?a25 ?l25 ?c25 ?k25 ?a26 ?l26 ?c26 ?k26 ?a27 ?l27 ?c27 ?k27 ?a28 ?l28 ?c28 ?k28 ?a29 ?l29 ?c29 ?k29 ?a30 ?l30 ?c30 ?k30 ?a31 ?l31 ?c31 ?k31 ?a32 ?l32 ?c32 ?k32 ?z_len ?z_int ?z_abs ?z_range ?z_min ?z_isinstance ?z_bool ?z_tuple ?z_max ?u_ZERO ?k_ZERO_1 ?k_ZERO_0 K07.main
    (case a0 => k_is)
    (case l0 => k_is)
    (case c0 => k_is)
    (case k0 => k_is)
    (case a1 => k_is)
    (case l1 => k_is)
    (case c1 => k_is)
    (case k1 => k_is)
    (case a2 => k_is)
    (case l2 => k_is)
    (case c2 => k_is)
    (case k2 => k_is)
    (case a3 => k_is)
    (case l3 => k_is)
    (case c3 => k_is)
    (case k3 => k_is)
    (case a4 => k_is)
    (case l4 => k_is)
    (case c4 => k_is)
    (case k4 => k_is)
    (case a5 => k_is)
    (case l5 => k_is)
    (case c5 => k_is)
    (case k5 => k_is)
    (case a6 => k_is)
    (case l6 => k_is)
    (case c6 => k_is)
    (case k6 => k_is)
    (case a7 => k_is)
    (case l7 => k_is)
    (case c7 => k_is)
    (case k7 => k_is)
    (case a8 => k_is)
    (case l8 => k_is)
    (case c8 => k_is)
    (case k8 => k_is)
    (case a9 => k_is)
    (case l9 => k_is)
    (case c9 => k_is)
    (case k9 => k_is)
    (case a10 => k_is)
    (case l10 => k_is)
    (case c10 => k_is)
    (case k10 => k_is)
    (case a11 => k_is)
    (case l11 => k_is)
    (case c11 => k_is)
    (case k11 => k_is)
    (case a12 => k_is)
    (case l12 => k_is)
    (case c12 => k_is)
    (case k12 => k_is)
    (case a13 => k_is)
    (case l13 => k_is)
    (case c13 => k_is)
    (case k13 => k_is)
    (case a14 => k_is)
    (case l14 => k_is)
    (case c14 => k_is)
    (case k14 => k_is)
    (case a15 => k_is)
    (case l15 => k_is)
    (case c15 => k_is)
    (case k15 => k_is)
    (case a16 => k_is)
    (case l16 => k_is)
    (case c16 => k_is)
    (case k16 => k_is)
    (case a17 => k_is)
    (case l17 => k_is)
    (case c17 => k_is)
    (case k17 => k_is)
    (case a18 => k_is)
    (case l18 => k_is)
    (case c18 => k_is)
    (case k18 => k_is)
    (case a19 => k_is)
    (case l19 => k_is)
    (case c19 => k_is)
    (case k19 => k_is)
    (case a20 => k_is)
    (case l20 => k_is)
    (case c20 => k_is)
    (case k20 => k_is)
    (case a21 => k_is)
    (case l21 => k_is)
    (case c21 => k_is)
    (case k21 => k_is)
    (case a22 => k_is)
    (case l22 => k_is)
    (case c22 => k_is)
    (case k22 => k_is)
    (case a23 => k_is)
    (case l23 => k_is)
    (case c23 => k_is)
    (case k23 => k_is)
    (case a24 => k_is)
    (case l24 => k_is)
    (case c24 => k_is)
    (case k24 => k_is)
    (case a25 => k_is)
    (case l25 => k_is)
    (case c25 => k_is)
    (case k25 => k_is)
    (case a26 => k_is)
    (case l26 => k_is)
    (case c26 => k_is)
    (case k26 => k_is)
    (case a27 => k_is)
    (case l27 => k_is)
    (case c27 => k_is)
    (case k27 => k_is)
    (case a28 => k_is)
    (case l28 => k_is)
    (case c28 => k_is)
    (case k28 => k_is)
    (case a29 => k_is)
    (case l29 => k_is)
    (case c29 => k_is)
    (case k29 => k_is)
    (case a30 => k_is)
    (case l30 => k_is)
    (case c30 => k_is)
    (case k30 => k_is)
    (case a31 => k_is)
    (case l31 => k_is)
    (case c31 => k_is)
    (case k31 => k_is)
    (case a32 => k_is)
    (case l32 => k_is)
    (case c32 => k_is)
    (case k32 => k_is)
    (case z_len => k_is)
    (case z_int => k_is)
    (case z_abs => k_is)
    (case z_range => k_is)
    (case z_min => k_is)
    (case z_isinstance => k_is)
    (case z_bool => k_is)
    (case z_tuple => k_is)
    (case z_max => k_is)
    (case u_ZERO => k_is)
    (case k_ZERO_0 => k_is)
    (case k_ZERO_1 => k_is)
