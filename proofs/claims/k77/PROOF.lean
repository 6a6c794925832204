import PyProof.Rows.All
import Wide.All
import OpenK.AllK
import Wide.FinOn
import HandS.ForMost
import HandS.ForExc
import HandS.IsInst
import HandS.EndBits
import HandS.ExcIs
import HandS.WideBits
import PyProof.Rows.BitMore
import HandS.Dict
import HandS.More
import PyProof.Rows.SeqMore
import PyProof.Rows.ListMulArg
import PyProof.Rows.StrIntSpec
import HandS.FStr
import HandS.SetFor
import HandS.TupAny
import PyProof.WalkInts
import PyProof.SeqI3
import PyProof.SumWalkG
import PyProof.Rows.TupIter
import HandS.SortKw
import HandS.Property
import HandS.Rev
import HandS.Zip
import HandS.RevRange
import HandS.Flow
import HandS.SortInts
import HandS.Conv
import PySem.Challenge.RW_phasor_k77_layouts
set_option Elab.async false
set_option linter.all false
set_option maxRecDepth 100000
namespace Mini
open PySem PySem.Spec PyProof.Rows L2

/-- a value as data: w tells that the node is owned (it may be written), otherwise it is never written again -/
inductive O where
  | non | bl (b : Bool) | int (i : Int) | str (s : Str)
  | tup (os : List O)
  | lst (w : Bool) (os : List O)
  | dct (w : Bool) (ks : List Key) (os : List O)
  | ins (w : Bool) (c : Nat) (ns : List Str) (os : List O)
  | exc (a : Addr)

mutual
def frz : O → O
  | .tup os => .tup (frzs os)
  | .lst _ os => .lst false (frzs os)
  | .dct _ ks os => .dct false ks (frzs os)
  | .ins _ c ns os => .ins false c ns (frzs os)
  | .non => .non
  | .bl b => .bl b
  | .int i => .int i
  | .str s => .str s
  | .exc a => .exc a
def frzs : List O → List O
  | [] => []
  | o :: os => frz o :: frzs os
end
mutual
def isFz : O → Bool
  | .tup os => isFzs os
  | .lst w os => !w && isFzs os
  | .dct w _ os => !w && isFzs os
  | .ins w _ _ os => !w && isFzs os
  | .non => true
  | .bl _ => true
  | .int _ => true
  | .str _ => true
  | .exc _ => true
def isFzs : List O → Bool
  | [] => true
  | o :: os => isFz o && isFzs os
end
/-! no node that is never written again but might be the caller's -/
mutual
def noFm : O → Bool
  | .tup os => noFms os
  | .lst w os => w && noFms os
  | .dct w _ os => w && noFms os
  | .ins w _ _ os => w && noFms os
  | .non => true
  | .bl _ => true
  | .int _ => true
  | .str _ => true
  | .exc _ => true
def noFms : List O → Bool
  | [] => true
  | o :: os => noFm o && noFms os
end

abbrev Fp := Addr → Nat
def zf : Fp := fun _ => 0
def bump (a : Addr) (f : Fp) : Fp := fun b => (if b = a then 1 else 0) + f b

mutual
def Rep (K : PySem.W.Frag) (ct : Nat → Addr) (F H : Hp) : O → V → Fp → Prop
  | .non, v, f => v = .non ∧ f = zf
  | .bl b, v, f => v = .bl b ∧ f = zf
  | .int i, v, f => v = .int i ∧ f = zf
  | .str s, v, f => v = .str s ∧ f = zf
  | .exc a, v, f => v = .ref a ∧ f = zf
  | .tup os, v, f => ∃ a xs, v = .ref a ∧ SqT K F a xs ∧ Reps K ct F H os xs f
  | .lst false os, v, f => ∃ a xs, v = .ref a ∧ SqL K F a xs ∧ Reps K ct F H os xs zf ∧ f = zf
  | .lst true os, v, f => ∃ a xs g, v = .ref a ∧ H a = some (.lst xs) ∧ Reps K ct F H os xs g ∧ f = bump a g
  | .dct false ks os, v, f => ∃ a kvs, v = .ref a ∧ Rd F a (.dK kvs) ∧ ks = kvs.map (·.1) ∧ Reps K ct F H os (kvs.map (·.2)) zf ∧ f = zf
  | .dct true ks os, v, f => ∃ a kvs g, v = .ref a ∧ H a = some (.dK kvs) ∧ ks = kvs.map (·.1) ∧ Reps K ct F H os (kvs.map (·.2)) g ∧ f = bump a g
  | .ins false c ns os, v, f => ∃ a dx fs, v = .ref a ∧ F a = some (.ins (ct c) dx fs) ∧ ns = fs.map (·.1) ∧ Reps K ct F H os (fs.map (·.2)) zf ∧ f = zf
  | .ins true c ns os, v, f => ∃ a dx fs g, v = .ref a ∧ H a = some (.ins (ct c) dx fs) ∧ ns = fs.map (·.1) ∧ Reps K ct F H os (fs.map (·.2)) g ∧ f = bump a g
def Reps (K : PySem.W.Frag) (ct : Nat → Addr) (F H : Hp) : List O → List V → Fp → Prop
  | [], vs, f => vs = [] ∧ f = zf
  | o :: os, vs, f => ∃ v vr g h, vs = v :: vr ∧ Rep K ct F H o v g ∧ Reps K ct F H os vr h ∧ f = fun a => g a + h a
end

/-- an owned node -/
def Own (u : HO) : Prop := match u with
  | .lst _ => True
  | .dK _ => True
  | .ins _ _ _ => True
  | _ => False

section
variable {K : PySem.W.Frag} {ct : Nat → Addr} {F F' H H' : Hp}
theorem Same.rd (e : Same H H') {a : Addr} {u : HO} (h : Rd H a u) : Rd H' a u := by
  rcases h with h | ⟨o, h⟩
  · exact .inl (e _ _ h)
  · exact .inr ⟨o, e _ _ h⟩
theorem Same.seqT (e : Same H H') {a : Addr} {xs : List V} (h : SqT K H a xs) : SqT K H' a xs := by
  rcases h with (h | ⟨o, h⟩) | h
  · exact .inl (.inl (e _ _ h))
  · exact .inl (.inr ⟨o, e _ _ h⟩)
  · exact .inr h
mutual
theorem Rep.mono (hF : Same F F') : ∀ {o : O} {v : V} {f : Fp}, (∀ a, f a ≠ 0 → H' a = H a) → Rep K ct F H o v f → Rep K ct F' H' o v f
  | .non, _, _, _, h => h
  | .bl _, _, _, _, h => h
  | .int _, _, _, _, h => h
  | .str _, _, _, _, h => h
  | .exc _, _, _, _, h => h
  | .tup os, v, f, k, h => by
    obtain ⟨a, xs, e, s, r⟩ := h
    exact ⟨a, xs, e, Same.seqT hF s, Reps.mono hF k r⟩
  | .lst false os, v, f, k, h => by
    obtain ⟨a, xs, e, s, r, ef⟩ := h
    exact ⟨a, xs, e, Same.seq hF s, Reps.mono hF (fun b hb => absurd rfl hb) r, ef⟩
  | .lst true os, v, f, k, h => by
    obtain ⟨a, xs, g, e, s, r, ef⟩ := h
    refine ⟨a, xs, g, e, ?_, Reps.mono hF (fun b hb => k b ?_) r, ef⟩
    · rw [k a (by rw [ef]; simp [bump])]; exact s
    · rw [ef]; show (if b = a then 1 else 0) + g b ≠ 0; omega
  | .dct false ks os, v, f, k, h => by
    obtain ⟨a, kvs, e, s, ek, r, ef⟩ := h
    exact ⟨a, kvs, e, Same.rd hF s, ek, Reps.mono hF (fun b hb => absurd rfl hb) r, ef⟩
  | .dct true ks os, v, f, k, h => by
    obtain ⟨a, kvs, g, e, s, ek, r, ef⟩ := h
    refine ⟨a, kvs, g, e, ?_, ek, Reps.mono hF (fun b hb => k b ?_) r, ef⟩
    · rw [k a (by rw [ef]; simp [bump])]; exact s
    · rw [ef]; show (if b = a then 1 else 0) + g b ≠ 0; omega
  | .ins false c ns os, v, f, k, h => by
    obtain ⟨a, dx, fs, e, s, ek, r, ef⟩ := h
    exact ⟨a, dx, fs, e, hF _ _ s, ek, Reps.mono hF (fun b hb => absurd rfl hb) r, ef⟩
  | .ins true c ns os, v, f, k, h => by
    obtain ⟨a, dx, fs, g, e, s, ek, r, ef⟩ := h
    refine ⟨a, dx, fs, g, e, ?_, ek, Reps.mono hF (fun b hb => k b ?_) r, ef⟩
    · rw [k a (by rw [ef]; simp [bump])]; exact s
    · rw [ef]; show (if b = a then 1 else 0) + g b ≠ 0; omega
theorem Reps.mono (hF : Same F F') : ∀ {os : List O} {vs : List V} {f : Fp}, (∀ a, f a ≠ 0 → H' a = H a) → Reps K ct F H os vs f → Reps K ct F' H' os vs f
  | [], _, _, _, h => h
  | o :: os, vs, f, k, h => by
    obtain ⟨v, vr, g, l, e, r, rs, ef⟩ := h
    refine ⟨v, vr, g, l, e, Rep.mono hF (fun b hb => k b ?_) r, Reps.mono hF (fun b hb => k b ?_) rs, ef⟩
    · rw [ef]; show g b + l b ≠ 0; omega
    · rw [ef]; show g b + l b ≠ 0; omega
end
mutual
theorem Rep.mem : ∀ {o : O} {v : V} {f : Fp}, Rep K ct F H o v f → ∀ a, f a ≠ 0 → ∃ u, H a = some u ∧ Own u
  | .non, _, _, h, a, ha => absurd (by rw [h.2]; rfl) ha
  | .bl _, _, _, h, a, ha => absurd (by rw [h.2]; rfl) ha
  | .int _, _, _, h, a, ha => absurd (by rw [h.2]; rfl) ha
  | .str _, _, _, h, a, ha => absurd (by rw [h.2]; rfl) ha
  | .exc _, _, _, h, a, ha => absurd (by rw [h.2]; rfl) ha
  | .tup os, v, f, h, a, ha => by
    obtain ⟨a', xs, e, s, r⟩ := h
    exact Reps.mem r a ha
  | .lst false os, v, f, h, a, ha => by
    obtain ⟨a', xs, e, s, r, ef⟩ := h
    exact absurd (by rw [ef]; rfl) ha
  | .lst true os, v, f, h, a, ha => by
    obtain ⟨a', xs, g, e, s, r, ef⟩ := h
    by_cases q : a = a'
    · subst q; exact ⟨_, s, True.intro⟩
    · refine Reps.mem r a ?_
      rw [ef] at ha
      simpa [bump, q] using ha
  | .dct false ks os, v, f, h, a, ha => by
    obtain ⟨a', kvs, e, s, ek, r, ef⟩ := h
    exact absurd (by rw [ef]; rfl) ha
  | .dct true ks os, v, f, h, a, ha => by
    obtain ⟨a', kvs, g, e, s, ek, r, ef⟩ := h
    by_cases q : a = a'
    · subst q; exact ⟨_, s, True.intro⟩
    · refine Reps.mem r a ?_
      rw [ef] at ha
      simpa [bump, q] using ha
  | .ins false c ns os, v, f, h, a, ha => by
    obtain ⟨a', dx, fs, e, s, ek, r, ef⟩ := h
    exact absurd (by rw [ef]; rfl) ha
  | .ins true c ns os, v, f, h, a, ha => by
    obtain ⟨a', dx, fs, g, e, s, ek, r, ef⟩ := h
    by_cases q : a = a'
    · subst q; exact ⟨_, s, True.intro⟩
    · refine Reps.mem r a ?_
      rw [ef] at ha
      simpa [bump, q] using ha
theorem Reps.mem : ∀ {os : List O} {vs : List V} {f : Fp}, Reps K ct F H os vs f → ∀ a, f a ≠ 0 → ∃ u, H a = some u ∧ Own u
  | [], _, _, h, a, ha => absurd (by rw [h.2]; rfl) ha
  | o :: os, vs, f, h, a, ha => by
    obtain ⟨v, vr, g, l, e, r, rs, ef⟩ := h
    by_cases q : g a = 0
    · refine Reps.mem rs a ?_
      rw [ef] at ha
      have ha' : g a + l a ≠ 0 := ha
      omega
    · exact Rep.mem r a q
end
theorem add_zf {g h : Fp} (e1 : g = zf) (e2 : h = zf) : (fun a => g a + h a) = zf := by subst e1 e2; rfl
mutual
theorem Rep.fz0 : ∀ {o : O} {v : V} {f : Fp}, Rep K ct F H o v f → isFz o = true → f = zf
  | .non, _, _, h, _ => h.2
  | .bl _, _, _, h, _ => h.2
  | .int _, _, _, h, _ => h.2
  | .str _, _, _, h, _ => h.2
  | .exc _, _, _, h, _ => h.2
  | .tup os, v, f, h, z => by
    obtain ⟨a', xs, e, s, r⟩ := h
    exact Reps.fz0 r (by simpa [isFz] using z)
  | .lst false os, v, f, h, z => by
    obtain ⟨a', xs, e, s, r, ef⟩ := h
    exact ef
  | .lst true os, v, f, h, z => by simp [isFz] at z
  | .dct false ks os, v, f, h, z => by
    obtain ⟨a', kvs, e, s, ek, r, ef⟩ := h
    exact ef
  | .dct true ks os, v, f, h, z => by simp [isFz] at z
  | .ins false c ns os, v, f, h, z => by
    obtain ⟨a', dx, fs, e, s, ek, r, ef⟩ := h
    exact ef
  | .ins true c ns os, v, f, h, z => by simp [isFz] at z
theorem Reps.fz0 : ∀ {os : List O} {vs : List V} {f : Fp}, Reps K ct F H os vs f → isFzs os = true → f = zf
  | [], _, _, h, _ => h.2
  | o :: os, vs, f, h, z => by
    obtain ⟨v, vr, g, l, e, r, rs, ef⟩ := h
    rw [isFzs, Bool.and_eq_true] at z
    rw [ef]
    exact add_zf (Rep.fz0 r z.1) (Reps.fz0 rs z.2)
end
/-! seen as frozen: the footprint goes into the frozen part -/
mutual
theorem Rep.frz (hF : Same F F') : ∀ {o : O} {v : V} {f : Fp}, (∀ a, f a ≠ 0 → F' a = H a) → Rep K ct F H o v f → Rep K ct F' H' (frz o) v zf
  | .non, _, _, _, h => ⟨h.1, rfl⟩
  | .bl _, _, _, _, h => ⟨h.1, rfl⟩
  | .int _, _, _, _, h => ⟨h.1, rfl⟩
  | .str _, _, _, _, h => ⟨h.1, rfl⟩
  | .exc _, _, _, _, h => ⟨h.1, rfl⟩
  | .tup os, v, f, k, h => by
    obtain ⟨a, xs, e, s, r⟩ := h
    exact ⟨a, xs, e, Same.seqT hF s, Reps.frz hF k r⟩
  | .lst false os, v, f, k, h => by
    obtain ⟨a, xs, e, s, r, ef⟩ := h
    exact ⟨a, xs, e, Same.seq hF s, Reps.frz hF (fun b hb => absurd rfl hb) r, rfl⟩
  | .lst true os, v, f, k, h => by
    obtain ⟨a, xs, g, e, s, r, ef⟩ := h
    refine ⟨a, xs, e, ?_, Reps.frz hF (fun b hb => k b ?_) r, rfl⟩
    · refine .inl (.inl ?_)
      rw [k a (by rw [ef]; simp [bump])]; exact s
    · rw [ef]; show (if b = a then 1 else 0) + g b ≠ 0; omega
  | .dct false ks os, v, f, k, h => by
    obtain ⟨a, kvs, e, s, ek, r, ef⟩ := h
    exact ⟨a, kvs, e, Same.rd hF s, ek, Reps.frz hF (fun b hb => absurd rfl hb) r, rfl⟩
  | .dct true ks os, v, f, k, h => by
    obtain ⟨a, kvs, g, e, s, ek, r, ef⟩ := h
    refine ⟨a, kvs, e, .inl ?_, ek, Reps.frz hF (fun b hb => k b ?_) r, rfl⟩
    · rw [k a (by rw [ef]; simp [bump])]; exact s
    · rw [ef]; show (if b = a then 1 else 0) + g b ≠ 0; omega
  | .ins false c ns os, v, f, k, h => by
    obtain ⟨a, dx, fs, e, s, ek, r, ef⟩ := h
    exact ⟨a, dx, fs, e, hF _ _ s, ek, Reps.frz hF (fun b hb => absurd rfl hb) r, rfl⟩
  | .ins true c ns os, v, f, k, h => by
    obtain ⟨a, dx, fs, g, e, s, ek, r, ef⟩ := h
    refine ⟨a, dx, fs, e, ?_, ek, Reps.frz hF (fun b hb => k b ?_) r, rfl⟩
    · rw [k a (by rw [ef]; simp [bump])]; exact s
    · rw [ef]; show (if b = a then 1 else 0) + g b ≠ 0; omega
theorem Reps.frz (hF : Same F F') : ∀ {os : List O} {vs : List V} {f : Fp}, (∀ a, f a ≠ 0 → F' a = H a) → Reps K ct F H os vs f → Reps K ct F' H' (frzs os) vs zf
  | [], _, _, _, h => ⟨h.1, rfl⟩
  | o :: os, vs, f, k, h => by
    obtain ⟨v, vr, g, l, e, r, rs, ef⟩ := h
    refine ⟨v, vr, zf, zf, e, Rep.frz hF (fun b hb => k b ?_) r, Reps.frz hF (fun b hb => k b ?_) rs, rfl⟩
    · rw [ef]; show g b + l b ≠ 0; omega
    · rw [ef]; show g b + l b ≠ 0; omega
end
/-- the frozen part grows smaller by nodes that are no tuples: what has no frozen lists stays -/
def NoTup (H : Hp) (a : Addr) : Prop := (∀ xs, H a ≠ some (.tup xs)) ∧ ∀ o xs, H a ≠ some (.frz o (.tup xs))
mutual
theorem Rep.thaw (hF : ∀ a, NoTup F a ∨ F' a = F a) : ∀ {o : O} {v : V} {f : Fp}, noFm o = true → Rep K ct F H o v f → Rep K ct F' H o v f
  | .non, _, _, _, h => h
  | .bl _, _, _, _, h => h
  | .int _, _, _, _, h => h
  | .str _, _, _, _, h => h
  | .exc _, _, _, _, h => h
  | .tup os, v, f, k, h => by
    obtain ⟨a, xs, e, s, r⟩ := h
    refine ⟨a, xs, e, ?_, Reps.thaw hF (by simpa [noFm] using k) r⟩
    rcases s with (s | ⟨o, s⟩) | s
    · rcases hF a with z | z
      · exact absurd s (z.1 _)
      · exact .inl (.inl (by rw [z]; exact s))
    · rcases hF a with z | z
      · exact absurd s (z.2 _ _)
      · exact .inl (.inr ⟨o, by rw [z]; exact s⟩)
    · exact .inr s
  | .lst false os, v, f, k, h => by simp [noFm] at k
  | .lst true os, v, f, k, h => by
    obtain ⟨a, xs, g, e, s, r, ef⟩ := h
    exact ⟨a, xs, g, e, s, Reps.thaw hF (by simpa [noFm] using k) r, ef⟩
  | .dct false ks os, v, f, k, h => by simp [noFm] at k
  | .dct true ks os, v, f, k, h => by
    obtain ⟨a, kvs, g, e, s, ek, r, ef⟩ := h
    exact ⟨a, kvs, g, e, s, ek, Reps.thaw hF (by simpa [noFm] using k) r, ef⟩
  | .ins false c ns os, v, f, k, h => by simp [noFm] at k
  | .ins true c ns os, v, f, k, h => by
    obtain ⟨a, dx, fs, g, e, s, ek, r, ef⟩ := h
    exact ⟨a, dx, fs, g, e, s, ek, Reps.thaw hF (by simpa [noFm] using k) r, ef⟩
theorem Reps.thaw (hF : ∀ a, NoTup F a ∨ F' a = F a) : ∀ {os : List O} {vs : List V} {f : Fp}, noFms os = true → Reps K ct F H os vs f → Reps K ct F' H os vs f
  | [], _, _, _, h => h
  | o :: os, vs, f, k, h => by
    obtain ⟨v, vr, g, l, e, r, rs, ef⟩ := h
    rw [noFms, Bool.and_eq_true] at k
    exact ⟨v, vr, g, l, e, Rep.thaw hF k.1 r, Reps.thaw hF k.2 rs, ef⟩
end
end
end Mini
namespace Mini
open PySem PySem.Spec PyProof.Rows L2

abbrev Env := List (Option O)
/-- the same, not to be unfolded by anyone -/
theorem hidX {α : Type} (a : α) : ∃ b, b = a := ⟨a, rfl⟩
noncomputable def hid {α : Type} (a : α) : α := (hidX a).choose
theorem hid_eq {α : Type} (a : α) : hid a = a := (hidX a).choose_spec
def look (ρ : Env) (i : Nat) : Option O := match ρ[i]? with
  | some (some o) => some o
  | _ => none
def SRep (K : PySem.W.Frag) (ct : Nat → Addr) (F H : Hp) : Env → L2.St → Fp → Prop
  | [], _, f => f = zf
  | none :: ρ, _ :: σ, f => SRep K ct F H ρ σ f
  | none :: _, [], _ => False
  | some o :: ρ, some v :: σ, f => ∃ g h, Rep K ct F H o v g ∧ SRep K ct F H ρ σ h ∧ f = fun a => g a + h a
  | some _ :: _, _, _ => False
structure Wf (F H : Hp) (f : Fp) : Prop where
  le : Same F H
  one : ∀ a, f a ≤ 1
  dj : ∀ a, f a ≠ 0 → F a = none
structure Ext (F H F' H' : Hp) : Prop where
  hF : Same F F'
  hH : Same H H'
  le : Same F' H'
  new : ∀ a, F' a ≠ none → F a ≠ none ∨ H a = none
def Gd (k : Bool) (f : Fp) (H F' : Hp) (g : Fp) : Prop :=
  if k = true then ∀ a, g a ≤ f a else (∀ a, g a ≤ 1) ∧ (∀ a, g a ≠ 0 → H a = none) ∧ ∀ a, g a ≠ 0 → F' a = none
theorem Ext.refl {F H : Hp} (le : Same F H) : Ext F H F H := ⟨Same.refl _, Same.refl _, le, fun _ h => .inl h⟩
theorem Ext.trans {F H F1 H1 F2 H2 : Hp} (a : Ext F H F1 H1) (b : Ext F1 H1 F2 H2) : Ext F H F2 H2 := by
  refine ⟨a.hF.trans b.hF, a.hH.trans b.hH, b.le, fun c h => ?_⟩
  rcases b.new c h with q | q
  · exact a.new c q
  · exact .inr (a.hH.free q)
theorem Gd.zero {k : Bool} {f : Fp} {H F' : Hp} : Gd k f H F' zf := by
  unfold Gd
  split
  · exact fun a => Nat.zero_le _
  · exact ⟨fun _ => Nat.zero_le _, fun _ h => absurd rfl h, fun _ h => absurd rfl h⟩
theorem Gd.n {f : Fp} {H F' : Hp} {g : Fp} (h : Gd false f H F' g) : (∀ a, g a ≤ 1) ∧ (∀ a, g a ≠ 0 → H a = none) ∧ ∀ a, g a ≠ 0 → F' a = none := by
  unfold Gd at h
  rwa [if_neg Bool.false_ne_true] at h
theorem Gd.b {f : Fp} {H F' : Hp} {g : Fp} (h : Gd true f H F' g) : ∀ a, g a ≤ f a := by
  unfold Gd at h
  rwa [if_pos rfl] at h
theorem Gd.mkn {f : Fp} {H F' : Hp} {g : Fp} (h1 : ∀ a, g a ≤ 1) (h2 : ∀ a, g a ≠ 0 → H a = none) (h3 : ∀ a, g a ≠ 0 → F' a = none) : Gd false f H F' g := by
  unfold Gd
  rw [if_neg Bool.false_ne_true]
  exact ⟨h1, h2, h3⟩
theorem Gd.mkb {f : Fp} {H F' : Hp} {g : Fp} (h : ∀ a, g a ≤ f a) : Gd true f H F' g := by
  unfold Gd
  rw [if_pos rfl]
  exact h
/-- a smaller footprint -/
theorem Gd.sub {k : Bool} {f : Fp} {H F' : Hp} {g g' : Fp} (h : Gd k f H F' g) (l : ∀ a, g' a ≤ g a) : Gd k f H F' g' := by
  unfold Gd at h ⊢
  split
  · rw [if_pos (by assumption)] at h
    exact fun a => Nat.le_trans (l a) (h a)
  · rw [if_neg (by assumption)] at h
    refine ⟨fun a => Nat.le_trans (l a) (h.1 a), fun a q => h.2.1 a ?_, fun a q => h.2.2 a ?_⟩
    · have := l a; omega
    · have := l a; omega

section
variable {K : PySem.W.Frag} {ct : Nat → Addr} {F F' H H' : Hp} {ρ : Env} {σ : L2.St} {f g : Fp}
theorem SRep.mono (hF : Same F F') : ∀ {ρ : Env} {σ : L2.St} {f : Fp}, (∀ a, f a ≠ 0 → H' a = H a) → SRep K ct F H ρ σ f → SRep K ct F' H' ρ σ f
  | [], _, _, _, h => h
  | none :: ρ, [], _, _, h => (show False from h).elim
  | none :: ρ, _ :: σ, f, k, h => SRep.mono (ρ := ρ) (σ := σ) hF k h
  | some o :: ρ, [], _, _, h => (show False from h).elim
  | some o :: ρ, none :: σ, _, _, h => (show False from h).elim
  | some o :: ρ, some v :: σ, f, k, h => by
    obtain ⟨g, l, r, rs, ef⟩ := (show ∃ g h, Rep K ct F H o v g ∧ SRep K ct F H ρ σ h ∧ f = fun a => g a + h a from h)
    refine ⟨g, l, Rep.mono hF (fun b hb => k b ?_) r, SRep.mono hF (fun b hb => k b ?_) rs, ef⟩
    · rw [ef]; show g b + l b ≠ 0; omega
    · rw [ef]; show g b + l b ≠ 0; omega
theorem SRep.mem : ∀ {ρ : Env} {σ : L2.St} {f : Fp}, SRep K ct F H ρ σ f → ∀ a, f a ≠ 0 → ∃ u, H a = some u ∧ Own u
  | [], _, _, h, a, ha => absurd (by rw [show _ = zf from h]; rfl) ha
  | none :: ρ, [], _, h, _, _ => (show False from h).elim
  | none :: ρ, _ :: σ, f, h, a, ha => SRep.mem (ρ := ρ) (σ := σ) h a ha
  | some o :: ρ, [], _, h, _, _ => (show False from h).elim
  | some o :: ρ, none :: σ, _, h, _, _ => (show False from h).elim
  | some o :: ρ, some v :: σ, f, h, a, ha => by
    obtain ⟨g, l, r, rs, ef⟩ := (show ∃ g h, Rep K ct F H o v g ∧ SRep K ct F H ρ σ h ∧ f = fun a => g a + h a from h)
    by_cases q : g a = 0
    · refine SRep.mem rs a ?_
      rw [ef] at ha
      have ha' : g a + l a ≠ 0 := ha
      omega
    · exact Rep.mem r a q
theorem SRep.get : ∀ {ρ : Env} {σ : L2.St} {f : Fp} {i : Nat} {o : O}, SRep K ct F H ρ σ f → look ρ i = some o → ∃ v g, σ[i]? = some (some v) ∧ Rep K ct F H o v g ∧ ∀ a, g a ≤ f a
  | [], _, _, i, o, _, e => by simp [look] at e
  | none :: ρ, [], _, _, _, h, _ => (show False from h).elim
  | none :: ρ, _ :: σ, f, 0, o, h, e => by simp [look] at e
  | none :: ρ, _ :: σ, f, i + 1, o, h, e => by
    obtain ⟨v, g, e1, r, l⟩ := SRep.get (ρ := ρ) (σ := σ) (i := i) (o := o) h (by simpa [look] using e)
    exact ⟨v, g, by simpa using e1, r, l⟩
  | some o' :: ρ, [], _, _, _, h, _ => (show False from h).elim
  | some o' :: ρ, none :: σ, _, _, _, h, _ => (show False from h).elim
  | some o' :: ρ, some v :: σ, f, 0, o, h, e => by
    obtain ⟨g, l, r, rs, ef⟩ := (show ∃ g h, Rep K ct F H o' v g ∧ SRep K ct F H ρ σ h ∧ f = fun a => g a + h a from h)
    have e' : o' = o := by simpa [look] using e
    subst e'
    exact ⟨v, g, rfl, r, fun a => by rw [ef]; exact Nat.le_add_right _ _⟩
  | some o' :: ρ, some v :: σ, f, i + 1, o, h, e => by
    obtain ⟨g, l, r, rs, ef⟩ := (show ∃ g h, Rep K ct F H o' v g ∧ SRep K ct F H ρ σ h ∧ f = fun a => g a + h a from h)
    obtain ⟨v', g', e1, r', l'⟩ := SRep.get (ρ := ρ) (σ := σ) (i := i) (o := o) rs (by simpa [look] using e)
    exact ⟨v', g', by simpa using e1, r', fun a => by rw [ef]; exact Nat.le_trans (l' a) (Nat.le_add_left _ _)⟩
theorem some_of_ne {α : Type} {x : Option α} (h : x ≠ none) : ∃ y, x = some y := by
  cases x with
  | none => exact absurd rfl h
  | some y => exact ⟨y, rfl⟩
theorem none_of_nn {α : Type} {x : Option α} (h : ¬ x ≠ none) : x = none := by
  cases x with
  | none => rfl
  | some y => exact absurd (fun z => nomatch z) h
theorem Ext.at (e : Ext F H F' H') {a : Addr} (h : ∃ u, H a = some u ∧ Own u) : H' a = H a := by
  obtain ⟨u, h, _⟩ := h
  rw [e.hH _ _ h, h]
theorem Rep.ext {o : O} {v : V} (e : Ext F H F' H') (h : Rep K ct F H o v g) : Rep K ct F' H' o v g := Rep.mono e.hF (fun a ha => e.at (h.mem a ha)) h
theorem Reps.ext {o : List O} {v : List V} (e : Ext F H F' H') (h : Reps K ct F H o v g) : Reps K ct F' H' o v g := Reps.mono e.hF (fun a ha => e.at (h.mem a ha)) h
theorem Wf.ext (w : Wf F H f) (e : Ext F H F' H') (m : ∀ a, f a ≠ 0 → ∃ u, H a = some u ∧ Own u) : Wf F' H' f := by
  refine ⟨e.le, w.one, fun a ha => none_of_nn fun q => ?_⟩
  rcases e.new a q with z | z
  · exact z (w.dj a ha)
  · obtain ⟨u, h, _⟩ := m a ha
    rw [z] at h; cases h
end

/-- the state at an expression -/
structure Sit (K : PySem.W.Frag) (ct : Nat → Addr) (F H : Hp) (ρ : Env) (σ : L2.St) (f : Fp) : Prop where
  wf : Wf F H f
  rep : SRep K ct F H ρ σ f
theorem Sit.ext {K : PySem.W.Frag} {ct : Nat → Addr} {F F' H H' : Hp} {ρ : Env} {σ : L2.St} {f : Fp} (s : Sit K ct F H ρ σ f) (e : Ext F H F' H') : Sit K ct F' H' ρ σ f :=
  ⟨s.wf.ext e s.rep.mem, SRep.mono e.hF (fun a ha => e.at (s.rep.mem a ha)) s.rep⟩

/-- what follows an expression whose value is o -/
def Kn (K : PySem.W.Frag) (ct : Nat → Addr) (k : Bool) (f : Fp) (F H : Hp) (o : O) (Q : VK) : Prop :=
  ∀ v F' H' g, Ext F H F' H' → Rep K ct F' H' o v g → Gd k f H F' g → Q v H'
def tX (ct : Nat → Addr) (K : PySem.W.Frag) (k : Bool) (d : Env → Option O) : TE := fun σ H Q =>
  ∃ F ρ f o, Sit K ct F H ρ σ f ∧ d ρ = some o ∧ Kn K ct k f F H o Q
/-- an expression: k tells that its value is a part of a variable -/
def SX (ct : Nat → Addr) (X : Cx) (k : Bool) (e : Expr) (d : Env → Option O) : Prop := PE X e (tX ct X.K k d)
theorem PE.imp {X : Cx} {e : Expr} {t t' : TE} (h : PE X e t) (i : ∀ σ H Q, t' σ H Q → t σ H Q) : PE X e t' :=
  ⟨fun pins s σ H Q I hq => h.run pins s σ H Q I (i σ H Q hq)⟩
theorem PT.imp {X : Cx} {e : Expr} {t t' : TT} (h : PT X e t) (i : ∀ σ H Q, t' σ H Q → t σ H Q) : PT X e t' :=
  ⟨fun pins s σ H Q I hq => h.run pins s σ H Q I (i σ H Q hq)⟩
theorem PS.imp {X : Cx} {e : Stmt} {t t' : TS} (h : PS X e t) (i : ∀ D σ H, t' D σ H → t D σ H) : PS X e t' :=
  ⟨fun pins s σ H Q I hq => h.run pins s σ H Q I (i Q σ H hq)⟩
theorem PSs.imp {X : Cx} {e : List Stmt} {t t' : TS} (h : PSs X e t) (i : ∀ D σ H, t' D σ H → t D σ H) : PSs X e t' :=
  ⟨fun pins s σ H Q I hq => h.run pins s σ H Q I (i Q σ H hq)⟩
theorem PA.imp {X : Cx} {e : List Expr} {t t' : TA} (h : PA X e t) (i : ∀ σ H Q, t' σ H Q → t σ H Q) : PA X e t' :=
  ⟨fun ps pins s σ H Q I hq => h.run ps pins s σ H Q I (i σ H Q hq)⟩

def dBind (d : Env → Option O) (fn : O → Option O) : Env → Option O := fun ρ => match d ρ with
  | some x => fn x
  | none => none
def dBin (fn : O → O → Option O) (da db : Env → Option O) : Env → Option O := fun ρ => match da ρ with
  | some x => match db ρ with
    | some y => fn x y
    | none => none
  | none => none
theorem dBind_some {d : Env → Option O} {fn : O → Option O} {ρ : Env} {z : O} (h : dBind d fn ρ = some z) : ∃ x, d ρ = some x ∧ fn x = some z := by
  unfold dBind at h
  split at h
  · rename_i x e; exact ⟨x, e, h⟩
  · cases h
theorem dBin_some {fn : O → O → Option O} {da db : Env → Option O} {ρ : Env} {z : O} (h : dBin fn da db ρ = some z) : ∃ x y, da ρ = some x ∧ db ρ = some y ∧ fn x y = some z := by
  unfold dBin at h
  split at h
  · rename_i x e
    split at h
    · rename_i y e2; exact ⟨x, y, e, e2, h⟩
    · cases h
  · cases h

section
variable {ct : Nat → Addr} {X : Cx} {a b e : Expr} {da db d : Env → Option O} {k k1 k2 : Bool} {pos : Pos}
/-- a scalar came -/
theorem Kn.scal {K : PySem.W.Frag} {f : Fp} {F H : Hp} {o : O} {Q : VK} (h : Kn K ct k f F H o Q) (le : Same F H) {v : V} (r : ∀ F H, Rep K ct F H o v zf) : Q v H :=
  h v F H zf (Ext.refl le) (r F H) Gd.zero
theorem sx_imp (h : SX ct X k e da) (i : ∀ ρ, db ρ = da ρ) : SX ct X k e db := PE.imp h fun σ H Q ⟨F, ρ, f, o, s, e, q⟩ => ⟨F, ρ, f, o, s, (i ρ) ▸ e, q⟩
/-- a name -/
theorem sx_var (i : Nat) {x : Str} (hN : X.N[i]? = some x := by rfl) (hv : Vis X.env.scope x := by first | exact Or.inl rfl | exact Or.inr (Or.inl rfl) | exact Or.inr (Or.inr rfl)) (hd : (x == ("__debug__" : Str)) = false := by decide)
    (hcd : (x == ("__classdict__" : Str)) = false := by decide) : SX ct X true (.Name x pos) (fun ρ => look ρ i) := by
  refine PE.imp (pe_var hN hv hd hcd) fun σ H Q h => ?_
  obtain ⟨F, ρ, f, o, s, e, q⟩ := h
  obtain ⟨v, g, e1, r, l⟩ := s.rep.get e
  exact ⟨v, e1, q v F H g (Ext.refl s.wf.le) r (Gd.mkb l)⟩
def copyO (o : O) : Option O := if isFz o = true then some o else none
/-- a frozen part of a variable, as a value of its own -/
theorem sx_copy (h : SX ct X k e d) : SX ct X false e (dBind d copyO) := by
  refine PE.imp h fun σ H Q h => ?_
  obtain ⟨F, ρ, f, o, s, e, q⟩ := h
  obtain ⟨x, e1, e2⟩ := dBind_some e
  unfold copyO at e2
  by_cases z : isFz x = true
  · rw [if_pos z] at e2
    cases e2
    refine ⟨F, ρ, f, _, s, e1, fun v F' H' g ex r gd => ?_⟩
    have ez := r.fz0 z
    subst ez
    exact q v F' H' zf ex r Gd.zero
  · rw [if_neg z] at e2; cases e2
theorem sx_const {v : V} {o : O} (h : PE X e (tC v)) (r : ∀ F H, Rep X.K ct F H o v zf) : SX ct X false e (fun _ => some o) := by
  refine PE.imp h fun σ H Q h => ?_
  obtain ⟨F, ρ, f, o', s, e, q⟩ := h
  cases e
  exact q.scal s.wf.le r
theorem sx_int {i : Int} {j} : SX ct X false (.Constant (.int i) j pos) (fun _ => some (.int i)) := sx_const pe_int fun _ _ => ⟨rfl, rfl⟩
theorem sx_str {x : Str} {j} : SX ct X false (.Constant (.str x) j pos) (fun _ => some (.str x)) := sx_const pe_str fun _ _ => ⟨rfl, rfl⟩
theorem sx_bl {b : Bool} {j} : SX ct X false (.Constant (.bool b) j pos) (fun _ => some (.bl b)) := sx_const pe_bl fun _ _ => ⟨rfl, rfl⟩
theorem sx_non {j} : SX ct X false (.Constant .none j pos) (fun _ => some .non) := sx_const pe_non fun _ _ => ⟨rfl, rfl⟩

/-- what a two-place rule gives: a new value -/
def Fn2 (X : Cx) (ct : Nat → Addr) (r : R2) (fn : O → O → Option O) : Prop :=
  ∀ F H x y z u v g h Q, Same F H → Rep X.K ct F H x u g → Rep X.K ct F H y v h → fn x y = some z → Kn X.K ct false zf F H z Q → r u v H Q
theorem Kn.go {K : PySem.W.Frag} {f f' : Fp} {F H F1 H1 : Hp} {o : O} {Q : VK} (h : Kn K ct false f F H o Q) (e : Ext F H F1 H1) : Kn K ct false f' F1 H1 o Q := fun v F' H' g e' r gd => by
  obtain ⟨g1, g2, g3⟩ := gd.n
  exact h v F' H' g (e.trans e') r (Gd.mkn g1 (fun a q => e.hH.free (g2 a q)) g3)
theorem two_go {r : R2} {fn : O → O → Option O} (hr : Fn2 X ct r fn) {σ : L2.St} {H : Hp} {Q : VK} (h : tX ct X.K false (dBin fn da db) σ H Q) : tOp r (tX ct X.K k1 da) (tX ct X.K k2 db) σ H Q := by
  obtain ⟨F, ρ, f, o, s, e, q⟩ := h
  obtain ⟨x, y, e1, e2, e3⟩ := dBin_some e
  refine ⟨F, ρ, f, x, s, e1, fun u F1 H1 g ex1 r1 gd1 => ?_⟩
  refine ⟨F1, ρ, f, y, s.ext ex1, e2, fun v F2 H2 h ex2 r2 gd2 => ?_⟩
  exact hr F2 H2 x y o u v g h Q ex2.le (r1.ext ex2) r2 e3 (q.go (ex1.trans ex2))
theorem sx_bin {op : Operator} {r : R2} {fn : O → O → Option O} (ho : OpR X (binaryOp op) r) (hr : Fn2 X ct r fn) (ha : SX ct X k1 a da) (hb : SX ct X k2 b db) : SX ct X false (.BinOp a op b pos) (dBin fn da db) :=
  PE.imp (pe_op ho ha hb) fun σ H Q h => two_go hr h
theorem sx_cmp {op : CmpOp} {r : R2} {fn : O → O → Option O} (ho : OpR X (compareOp op) r) (hr : Fn2 X ct r fn) (ha : SX ct X k1 a da) (hb : SX ct X k2 b db) (hm : behindInMarks op b = false) : SX ct X false (.Compare a [op] [b] pos) (dBin fn da db) :=
  PE.imp (pe_cmpR ho ha hb hm) fun σ H Q h => two_go hr h

/-! ints -/
def intsO (C : Int → Int → Bool) (g : Int → Int → O) : O → O → Option O
  | .int i, .int j => if C i j = true then some (g i j) else none
  | _, _ => none
theorem intsO_some {C : Int → Int → Bool} {g : Int → Int → O} {x y z : O} (h : intsO C g x y = some z) : ∃ i j, x = .int i ∧ y = .int j ∧ C i j = true ∧ z = g i j := by
  unfold intsO at h
  split at h
  · split at h
    · cases h; exact ⟨_, _, rfl, rfl, by assumption, rfl⟩
    · cases h
  · cases h
theorem fn2_I {C : Int → Int → Prop} {Cb : Int → Int → Bool} {g : Int → Int → V} {g' : Int → Int → O} (hC : ∀ i j, Cb i j = true → C i j) (hg : ∀ i j K F H, Rep K ct F H (g' i j) (g i j) zf) : Fn2 X ct (rI C g) (intsO Cb g') := by
  intro F H x y z u v g h Q le rx ry e q
  obtain ⟨i, j, rfl, rfl, c, rfl⟩ := intsO_some e
  exact ⟨i, j, rx.1, ry.1, hC i j c, q.scal le fun F H => hg i j _ F H⟩
theorem fn2_I0 {g : Int → Int → V} {g' : Int → Int → O} (hg : ∀ i j K F H, Rep K ct F H (g' i j) (g i j) zf) : Fn2 X ct (rI0 g) (intsO (fun _ _ => true) g') := by
  intro F H x y z u v g h Q le rx ry e q
  obtain ⟨i, j, rfl, rfl, c, rfl⟩ := intsO_some e
  exact ⟨i, j, rx.1, ry.1, q.scal le fun F H => hg i j _ F H⟩
def oAddI := intsO (fun _ _ => true) fun i j => .int (i + j)
def oSub := intsO (fun _ _ => true) fun i j => .int (i - j)
def mulOk0 (i j : Int) : Bool := decide (i.natAbs.log2 + j.natAbs.log2 < 100000000)
noncomputable def mulOk := hid mulOk0
theorem mulOk_def : mulOk = mulOk0 := hid_eq _
noncomputable def oMulI := intsO mulOk fun i j => .int (i * j)
def oDiv := intsO (fun _ j => decide (0 < j) && decide (j.natAbs.log2 < 9000)) fun i j => .int (i / j)
def oMod := intsO (fun _ j => decide (0 < j)) fun i j => .int (i % j)
def oAnd := intsO (fun _ _ => true) fun i j => .int (Builtin.bitAnd i j)
def oOr := intsO (fun _ _ => true) fun i j => .int (Builtin.bitOr i j)
def oXor := intsO (fun _ _ => true) fun i j => .int (Builtin.bitXor i j)
def oShr := intsO (fun _ j => decide (0 ≤ j)) fun i j => .int (i / 2 ^ j.toNat)
def oLt := intsO (fun _ _ => true) fun i j => .bl (decide (i < j))
def oLe := intsO (fun _ _ => true) fun i j => .bl (decide (i ≤ j))
def oGt := intsO (fun _ _ => true) fun i j => .bl (decide (j < i))
def oGe := intsO (fun _ _ => true) fun i j => .bl (decide (j ≤ i))
theorem mulOk_ok {i j : Int} (h : mulOk i j = true) : IntMulOk i j := by
  have b : ∀ x : Int, Builtin.Int.intBits x ≤ x.natAbs.log2 + 1 := fun x => by
    unfold Builtin.Int.intBits
    split <;> omega
  have h1 := b i
  have h2 := b j
  have h3 : i.natAbs.log2 + j.natAbs.log2 < 100000000 := by rw [mulOk_def] at h; exact of_decide_eq_true h
  have e : bitsLine = 134217728 := by decide
  unfold IntMulOk
  intro z
  rw [Bool.and_eq_true] at z
  have z2 := z.2
  unfold Builtin.Int.intTooBig at z2
  have z3 := of_decide_eq_true z2
  rw [e] at z3
  omega
theorem op_mulM : OpR X (binaryOp .Mult) (rI (fun i j => mulOk i j = true) fun i j => .int (i * j)) := opI fun _ _ _ _ _ _ _ hc q => mul_int q (mulOk_ok hc)
theorem op_divM : OpR X (binaryOp .FloorDiv) (rI (fun _ j => 0 < j ∧ j.natAbs.log2 < 9000) fun i j => .int (i / j)) := opI fun i j _ _ _ _ _ hc q => by
  have h1 : (0 : Int) < j := hc.1
  exact floordiv_int (by omega) (by rw [Int.fdiv_eq_ediv_of_nonneg i (by omega)]; exact q) (.inl (PyProof.noPylong_of_log2 hc.2))
theorem sx_addI (ha : SX ct X k1 a da) (hb : SX ct X k2 b db) : SX ct X false (.BinOp a .Add b pos) (dBin oAddI da db) := sx_bin op_add (fn2_I0 fun _ _ _ _ _ => ⟨rfl, rfl⟩) ha hb
theorem sx_sub (ha : SX ct X k1 a da) (hb : SX ct X k2 b db) : SX ct X false (.BinOp a .Sub b pos) (dBin oSub da db) := sx_bin op_sub (fn2_I0 fun _ _ _ _ _ => ⟨rfl, rfl⟩) ha hb
theorem sx_mulI (ha : SX ct X k1 a da) (hb : SX ct X k2 b db) : SX ct X false (.BinOp a .Mult b pos) (dBin oMulI da db) := sx_bin op_mulM (fn2_I (fun _ _ h => h) fun _ _ _ _ _ => ⟨rfl, rfl⟩) ha hb
theorem sx_div (ha : SX ct X k1 a da) (hb : SX ct X k2 b db) : SX ct X false (.BinOp a .FloorDiv b pos) (dBin oDiv da db) :=
  sx_bin op_divM (fn2_I (fun i j h => by rw [Bool.and_eq_true] at h; exact ⟨of_decide_eq_true h.1, of_decide_eq_true h.2⟩) fun _ _ _ _ _ => ⟨rfl, rfl⟩) ha hb
theorem sx_mod (ha : SX ct X k1 a da) (hb : SX ct X k2 b db) : SX ct X false (.BinOp a .Mod b pos) (dBin oMod da db) := sx_bin op_mod (fn2_I (fun _ _ h => of_decide_eq_true h) fun _ _ _ _ _ => ⟨rfl, rfl⟩) ha hb
theorem sx_band (ha : SX ct X k1 a da) (hb : SX ct X k2 b db) : SX ct X false (.BinOp a .BitAnd b pos) (dBin oAnd da db) := sx_bin op_and (fn2_I0 fun _ _ _ _ _ => ⟨rfl, rfl⟩) ha hb
theorem sx_bor (ha : SX ct X k1 a da) (hb : SX ct X k2 b db) : SX ct X false (.BinOp a .BitOr b pos) (dBin oOr da db) := sx_bin op_or (fn2_I0 fun _ _ _ _ _ => ⟨rfl, rfl⟩) ha hb
theorem sx_bxor (ha : SX ct X k1 a da) (hb : SX ct X k2 b db) : SX ct X false (.BinOp a .BitXor b pos) (dBin oXor da db) := sx_bin op_xor (fn2_I0 fun _ _ _ _ _ => ⟨rfl, rfl⟩) ha hb
theorem sx_shr (ha : SX ct X k1 a da) (hb : SX ct X k2 b db) : SX ct X false (.BinOp a .RShift b pos) (dBin oShr da db) := sx_bin op_shr (fn2_I (fun _ _ h => of_decide_eq_true h) fun _ _ _ _ _ => ⟨rfl, rfl⟩) ha hb
theorem sx_lt (ha : SX ct X k1 a da) (hb : SX ct X k2 b db) : SX ct X false (.Compare a [.Lt] [b] pos) (dBin oLt da db) := sx_cmp op_lt (fn2_I0 fun _ _ _ _ _ => ⟨rfl, rfl⟩) ha hb (nomark _)
theorem sx_le (ha : SX ct X k1 a da) (hb : SX ct X k2 b db) : SX ct X false (.Compare a [.LtE] [b] pos) (dBin oLe da db) := sx_cmp op_le (fn2_I0 fun _ _ _ _ _ => ⟨rfl, rfl⟩) ha hb (nomark _)
theorem sx_gt (ha : SX ct X k1 a da) (hb : SX ct X k2 b db) : SX ct X false (.Compare a [.Gt] [b] pos) (dBin oGt da db) := sx_cmp op_gt (fn2_I0 fun _ _ _ _ _ => ⟨rfl, rfl⟩) ha hb (nomark _)
theorem sx_ge (ha : SX ct X k1 a da) (hb : SX ct X k2 b db) : SX ct X false (.Compare a [.GtE] [b] pos) (dBin oGe da db) := sx_cmp op_ge (fn2_I0 fun _ _ _ _ _ => ⟨rfl, rfl⟩) ha hb (nomark _)

/-! == of data -/
mutual
def toPy : O → PyData
  | .non => .none
  | .bl b => .bool b
  | .int i => .int i
  | .str s => .str s
  | .tup os => .tuple (toPys os)
  | .lst _ os => .list (toPys os)
  | .dct _ _ _ => .dict []
  | .ins _ _ _ _ => .dict []
  | .exc _ => .dict []
def toPys : List O → List PyData
  | [] => []
  | o :: os => toPy o :: toPys os
end
theorem Rep.list {K : PySem.W.Frag} {F H : Hp} {w : Bool} {os : List O} {v : V} {f : Fp} (le : Same F H) (h : Rep K ct F H (.lst w os) v f) : ∃ a xs g, v = .ref a ∧ SqL K H a xs ∧ Reps K ct F H os xs g ∧ ∀ b, g b ≤ f b := by
  cases w with
  | false =>
    obtain ⟨a, xs, e, s, r, ef⟩ := h
    exact ⟨a, xs, zf, e, Same.seq le s, r, fun _ => Nat.zero_le _⟩
  | true =>
    obtain ⟨a, xs, g, e, s, r, ef⟩ := h
    exact ⟨a, xs, g, e, SqL.of s, r, fun b => by rw [ef]; exact Nat.le_add_left _ _⟩
mutual
theorem Rep.dp {K : PySem.W.Frag} {F H : Hp} (le : Same F H) : ∀ {o : O} {v : V} {f : Fp}, (toPy o).canLay0 = true → Rep K ct F H o v f → Dp K H v (toPy o)
  | .non, _, _, _, h => by obtain ⟨e, _⟩ := h; subst e; exact .non
  | .bl b, _, _, _, h => by obtain ⟨e, _⟩ := h; subst e; exact .bl b
  | .int b, _, _, _, h => by obtain ⟨e, _⟩ := h; subst e; exact .int b
  | .str b, _, _, _, h => by obtain ⟨e, _⟩ := h; subst e; exact .str b
  | .tup os, v, f, c, h => by
    obtain ⟨a, xs, e, s, r⟩ := h
    subst e
    rw [toPy]
    rw [toPy, PyData.canLay0] at c
    exact .tup (Same.seqT le s) (Reps.dp le c r)
  | .lst w os, v, f, c, h => by
    obtain ⟨a, xs, g, e, s, r, _⟩ := Rep.list le h
    subst e
    rw [toPy]
    rw [toPy, PyData.canLay0] at c
    exact .lst s (Reps.dp le c r)
  | .dct _ _ _, _, _, c, _ => by rw [toPy, PyData.canLay0] at c; cases c
  | .ins _ _ _ _, _, _, c, _ => by rw [toPy, PyData.canLay0] at c; cases c
  | .exc _, _, _, c, _ => by rw [toPy, PyData.canLay0] at c; cases c
theorem Reps.dp {K : PySem.W.Frag} {F H : Hp} (le : Same F H) : ∀ {os : List O} {vs : List V} {f : Fp}, PyData.canLayAll0 (toPys os) = true → Reps K ct F H os vs f → DpAll K H vs (toPys os)
  | [], _, _, _, h => by obtain ⟨e, _⟩ := h; subst e; exact .nil
  | o :: os, vs, f, c, h => by
    obtain ⟨v, vr, g, l, e, r, rs, ef⟩ := h
    subst e
    rw [toPys, PyData.canLayAll0, Bool.and_eq_true] at c
    rw [toPys]
    exact .cons (Rep.dp le c.1 r) (Reps.dp le c.2 rs)
end
def oEq0 (x y : O) : Option O := if SeqAt.shaped (toPy x) && SeqAt.shaped (toPy y) then some (.bl (PyData.eqv (toPy x) (toPy y))) else none
def oNe0 (x y : O) : Option O := if SeqAt.shaped (toPy x) && SeqAt.shaped (toPy y) then some (.bl (!PyData.eqv (toPy x) (toPy y))) else none
noncomputable def oEq := hid oEq0
noncomputable def oNe := hid oNe0
theorem oEq_def : oEq = oEq0 := hid_eq _
theorem oNe_def : oNe = oNe0 := hid_eq _
theorem fn2_eq : Fn2 X ct (rEqD X.K) oEq := by
  intro F H x y z u v g h Q le rx ry e q
  rw [oEq_def] at e
  unfold oEq0 at e
  split at e
  · rename_i c
    rw [Bool.and_eq_true] at c
    cases e
    exact ⟨toPy x, toPy y, rx.dp le (SeqAt.canLay_of_shaped c.1), ry.dp le (SeqAt.canLay_of_shaped c.2), c.1, c.2, q.scal le fun _ _ => ⟨rfl, rfl⟩⟩
  · cases e
theorem fn2_ne : Fn2 X ct (rNeD X.K) oNe := by
  intro F H x y z u v g h Q le rx ry e q
  rw [oNe_def] at e
  unfold oNe0 at e
  split at e
  · rename_i c
    rw [Bool.and_eq_true] at c
    cases e
    exact ⟨toPy x, toPy y, rx.dp le (SeqAt.canLay_of_shaped c.1), ry.dp le (SeqAt.canLay_of_shaped c.2), c.1, c.2, q.scal le fun _ _ => ⟨rfl, rfl⟩⟩
  · cases e
theorem sx_eq (hu : X.A.units + 64 < cLine) (ha : SX ct X k1 a da) (hb : SX ct X k2 b db) : SX ct X false (.Compare a [.Eq] [b] pos) (dBin oEq da db) := sx_cmp (op_eqD hu) fn2_eq ha hb (nomark _)
theorem sx_ne (hu : X.A.units + 64 < cLine) (ha : SX ct X k1 a da) (hb : SX ct X k2 b db) : SX ct X false (.Compare a [.NotEq] [b] pos) (dBin oNe da db) := sx_cmp (op_neD hu) fn2_ne ha hb (nomark _)

/-! one-place operations on ints -/
def negO : O → Option O
  | .int i => some (.int (-i))
  | _ => none
theorem sx_neg (ha : SX ct X k a da) : SX ct X false (.UnaryOp .USub a pos) (dBind da negO) := by
  refine PE.imp (pe_un un_neg ha) fun σ H Q h => ?_
  obtain ⟨F, ρ, f, o, s, e, q⟩ := h
  obtain ⟨x, e1, e2⟩ := dBind_some e
  refine ⟨F, ρ, f, x, s, e1, fun u F1 H1 g ex1 r1 gd1 => ?_⟩
  unfold negO at e2
  split at e2
  · cases e2
    exact ⟨_, r1.1, (q.go (f' := zf) ex1).scal ex1.le fun _ _ => ⟨rfl, rfl⟩⟩
  · cases e2

/-! items -/
theorem Reps.at {K : PySem.W.Frag} {F H : Hp} : ∀ {os : List O} {vs : List V} {f : Fp} {j : Nat} {o : O}, Reps K ct F H os vs f → os[j]? = some o → ∃ v g, vs[j]? = some v ∧ Rep K ct F H o v g ∧ ∀ a, g a ≤ f a
  | [], _, _, _, _, _, e => by simp at e
  | o' :: os, vs, f, 0, o, h, e => by
    obtain ⟨v, vr, g, l, ev, r, rs, ef⟩ := h
    subst ev
    have e' : o' = o := by simpa using e
    subst e'
    exact ⟨v, g, rfl, r, fun a => by rw [ef]; exact Nat.le_add_right _ _⟩
  | o' :: os, vs, f, j + 1, o, h, e => by
    obtain ⟨v, vr, g, l, ev, r, rs, ef⟩ := h
    subst ev
    obtain ⟨v', g', e1, r1, l1⟩ := Reps.at (j := j) (o := o) rs (by simpa using e)
    exact ⟨v', g', by simpa using e1, r1, fun a => by rw [ef]; exact Nat.le_trans (l1 a) (Nat.le_add_left _ _)⟩
theorem Reps.length {K : PySem.W.Frag} {F H : Hp} : ∀ {os : List O} {vs : List V} {f : Fp}, Reps K ct F H os vs f → os.length = vs.length
  | [], vs, _, h => by rw [show vs = [] from h.1]; rfl
  | o' :: os, vs, f, h => by
    obtain ⟨v, vr, g, l, ev, r, rs, ef⟩ := h
    subst ev
    simp [Reps.length rs]
theorem Reps.atI {K : PySem.W.Frag} {F H : Hp} {os : List O} {vs : List V} {f : Fp} {i : Int} {o : O} (h : Reps K ct F H os vs f) (e : atI os i = some o) : ∃ v g, atI vs i = some v ∧ Rep K ct F H o v g ∧ ∀ a, g a ≤ f a := by
  unfold L2.atI at e ⊢
  rw [← h.length]
  cases q : ixN os.length i with
  | none => rw [q] at e; cases e
  | some j =>
    rw [q] at e
    exact h.at e
def oIdx : O → O → Option O
  | .tup os, .int i => atI os i
  | .lst _ os, .int i => atI os i
  | .str z, .int i => if z.length ≤ sizeLine then (atI z.cps.toList i).map fun c => .str ⟨#[c]⟩ else none
  | _, _ => none
theorem sx_idx (ha : SX ct X k a da) (hb : SX ct X k2 b db) (hs : PlainIx b := by intro _ _; rfl) : SX ct X k (.Subscript a b pos) (dBin oIdx da db) := by
  refine PE.imp (pe_ix ix_seq ha hb hs) fun σ H Q h => ?_
  obtain ⟨F, ρ, f, o, s, e, q⟩ := h
  obtain ⟨x, y, e1, e2, e3⟩ := dBin_some e
  refine ⟨F, ρ, f, x, s, e1, fun u F1 H1 g ex1 r1 gd1 => ?_⟩
  refine ⟨F1, ρ, f, y, s.ext ex1, e2, fun v F2 H2 h ex2 r2 gd2 => ?_⟩
  have r1' := r1.ext ex2
  have gd : ∀ g', (∀ a, g' a ≤ g a) → Gd k f H F2 g' := fun g' l => by
    have z := gd1.sub l
    unfold Gd at z ⊢
    split
    · rw [if_pos (by assumption)] at z; exact z
    · rw [if_neg (by assumption)] at z
      refine ⟨z.1, z.2.1, fun a n => none_of_nn fun w => ?_⟩
      rcases ex2.new a w with w | w
      · exact w (z.2.2 a n)
      · obtain ⟨_, w', _⟩ := r1.mem a (by have := l a; omega)
        rw [w] at w'; cases w'
  unfold oIdx at e3
  split at e3
  · obtain ⟨p, xs, ev, sq, rs⟩ := r1'
    obtain ⟨w, g', e4, r4, l4⟩ := rs.atI e3
    exact .inr (.inl ⟨p, xs, _, w, ev, r2.1, Same.seqT ex2.le sq, e4, q w F2 H2 g' (ex1.trans ex2) r4 (gd g' l4)⟩)
  · obtain ⟨p, xs, gx, ev, sq, rs, lx⟩ := Rep.list ex2.le r1'
    obtain ⟨w, g', e4, r4, l4⟩ := rs.atI e3
    exact .inl ⟨p, xs, _, w, ev, r2.1, sq, e4, q w F2 H2 g' (ex1.trans ex2) r4 (gd g' fun a => Nat.le_trans (l4 a) (lx a))⟩
  · split at e3
    · rename_i z i hz
      cases e4 : atI z.cps.toList i with
      | none => rw [e4] at e3; cases e3
      | some c =>
        rw [e4] at e3
        cases e3
        exact .inr (.inr ⟨z, i, c, r1'.1, r2.1, hz, e4, q _ F2 H2 zf (ex1.trans ex2) ⟨rfl, rfl⟩ Gd.zero⟩)
    · cases e3
  · cases e3
end
end Mini
namespace Mini
open PySem PySem.Spec PyProof.Rows L2

/-! argument lists -/
def unk {α : Type} : List Bool → List α → List (Bool × α) := List.zip
/-- the parts of variables (gb) and the new values (gv) -/
def ARep (K : PySem.W.Frag) (ct : Nat → Addr) (F H : Hp) : List Bool → List O → List V → Fp → Fp → Prop
  | [], [], vs, gb, gv => vs = [] ∧ gb = zf ∧ gv = zf
  | true :: ks, o :: os, vs, gb, gv => ∃ v vr g h, vs = v :: vr ∧ Rep K ct F H o v g ∧ ARep K ct F H ks os vr h gv ∧ gb = fun a => g a + h a
  | false :: ks, o :: os, vs, gb, gv => ∃ v vr g h, vs = v :: vr ∧ Rep K ct F H o v g ∧ ARep K ct F H ks os vr gb h ∧ gv = fun a => g a + h a
  | _, _, _, _, _ => False
def tA (ct : Nat → Addr) (K : PySem.W.Frag) (ks : List Bool) (d : Env → Option (List O)) : TA := fun σ H Q =>
  ∃ F ρ f os, Sit K ct F H ρ σ f ∧ d ρ = some os ∧ ∀ vs F' H' gb gv, Ext F H F' H' → ARep K ct F' H' ks os vs gb gv → (∀ a, gb a ≠ 0 → f a ≠ 0) → Gd false f H F' gv → Q vs H'
def SA (ct : Nat → Addr) (X : Cx) (ks : List Bool) (es : List Expr) (d : Env → Option (List O)) : Prop := PA X es (tA ct X.K ks d)
def dNil : Env → Option (List O) := fun _ => some []
def dCons (d : Env → Option O) (ds : Env → Option (List O)) : Env → Option (List O) := fun ρ => match d ρ with
  | some o => match ds ρ with
    | some os => some (o :: os)
    | none => none
  | none => none
theorem dCons_some {d : Env → Option O} {ds : Env → Option (List O)} {ρ : Env} {z : List O} (h : dCons d ds ρ = some z) : ∃ o os, d ρ = some o ∧ ds ρ = some os ∧ z = o :: os := by
  unfold dCons at h
  split at h
  · split at h
    · cases h; exact ⟨_, _, by assumption, by assumption, rfl⟩
    · cases h
  · cases h
section
variable {ct : Nat → Addr} {X : Cx} {e : Expr} {es : List Expr} {d : Env → Option O} {ds : Env → Option (List O)} {k : Bool} {ks : List Bool}
theorem ARep.ext {K : PySem.W.Frag} {F H F' H' : Hp} (e : Ext F H F' H') : ∀ {ks : List Bool} {os : List O} {vs : List V} {gb gv : Fp}, ARep K ct F H ks os vs gb gv → ARep K ct F' H' ks os vs gb gv
  | [], [], _, _, _, h => h
  | true :: ks, o :: os, _, _, _, h => by
    obtain ⟨v, vr, g, l, e1, r, rs, e2⟩ := h
    exact ⟨v, vr, g, l, e1, r.ext e, ARep.ext e rs, e2⟩
  | false :: ks, o :: os, _, _, _, h => by
    obtain ⟨v, vr, g, l, e1, r, rs, e2⟩ := h
    exact ⟨v, vr, g, l, e1, r.ext e, ARep.ext e rs, e2⟩
  | [], _ :: _, _, _, _, h => (show False from h).elim
  | true :: _, [], _, _, _, h => (show False from h).elim
  | false :: _, [], _, _, _, h => (show False from h).elim
theorem sa_nil : SA ct X [] [] dNil := by
  refine PA.imp pa_nil fun σ H Q h => ?_
  obtain ⟨F, ρ, f, os, s, e, q⟩ := h
  cases e
  exact q [] F H zf zf (Ext.refl s.wf.le) ⟨rfl, rfl, rfl⟩ (fun _ h => absurd rfl h) Gd.zero
theorem sa_cons (h1 : SX ct X k e d) (h2 : SA ct X ks es ds) (hs : starEach (e :: es) X.env = (false, eval e X.env) :: starEach es X.env := by rfl) : SA ct X (k :: ks) (e :: es) (dCons d ds) := by
  refine PA.imp (pa_cons h1 h2 hs) fun σ H Q h => ?_
  obtain ⟨F, ρ, f, os, s, e, q⟩ := h
  obtain ⟨o, os', e1, e2, rfl⟩ := dCons_some e
  refine ⟨F, ρ, f, o, s, e1, fun v F1 H1 g ex1 r1 gd1 => ?_⟩
  refine ⟨F1, ρ, f, os', s.ext ex1, e2, fun vs F2 H2 gb gv ex2 r2 hb hv => ?_⟩
  obtain ⟨n1, n2, n3⟩ := hv.n
  have r1' := r1.ext ex2
  cases k with
  | true =>
    refine q (v :: vs) F2 H2 (fun a => g a + gb a) gv (ex1.trans ex2) ⟨v, vs, g, gb, rfl, r1', r2, rfl⟩ (fun a ha => ?_) (Gd.mkn n1 (fun a q => ex1.hH.free (n2 a q)) n3)
    by_cases z : g a = 0
    · exact hb a (by omega)
    · have := gd1.b a; omega
  | false =>
    obtain ⟨m1, m2, m3⟩ := gd1.n
    have sep : ∀ a, g a ≠ 0 → gv a = 0 := fun a z => by
      obtain ⟨u, hu, _⟩ := r1.mem a z
      by_cases w : gv a = 0
      · exact w
      · have := n2 a w; rw [hu] at this; cases this
    refine q (v :: vs) F2 H2 gb (fun a => g a + gv a) (ex1.trans ex2) ⟨v, vs, g, gv, rfl, r1', r2, rfl⟩ hb (Gd.mkn (fun a => ?_) (fun a z => ?_) fun a z => ?_)
    · have := m1 a; have := n1 a; have := sep a
      show g a + gv a ≤ 1
      omega
    · by_cases w : g a = 0
      · exact ex1.hH.free (n2 a (by have z' : g a + gv a ≠ 0 := z; omega))
      · exact m2 a w
    · by_cases w : g a = 0
      · exact n3 a (by have z' : g a + gv a ≠ 0 := z; omega)
      · refine none_of_nn fun y => ?_
        rcases ex2.new a y with y | y
        · exact y (m3 a w)
        · obtain ⟨u, hu, _⟩ := r1.mem a w
          rw [hu] at y; cases y
/-- all are new values -/
theorem ARep.vals {K : PySem.W.Frag} {F H : Hp} : ∀ {ks : List Bool} {os : List O} {vs : List V} {gb gv : Fp}, ks.any id = false → ARep K ct F H ks os vs gb gv → Reps K ct F H os vs gv
  | [], [], _, _, _, _, h => ⟨h.1, h.2.2⟩
  | true :: ks, o :: os, _, _, _, z, h => by simp at z
  | false :: ks, o :: os, _, _, _, z, h => by
    obtain ⟨v, vr, g, l, e1, r, rs, e2⟩ := h
    exact ⟨v, vr, g, l, e1, r, ARep.vals (by simpa using z) rs, e2⟩
  | [], _ :: _, _, _, _, _, h => (show False from h).elim
  | true :: _, [], _, _, _, _, h => (show False from h).elim
  | false :: _, [], _, _, _, _, h => (show False from h).elim

/-! displays -/
def dTup (ds : Env → Option (List O)) : Env → Option O := fun ρ => match ds ρ with
  | some os => if os.length ≤ sizeLine then some (.tup os) else none
  | none => none
def dLst (ds : Env → Option (List O)) : Env → Option O := fun ρ => match ds ρ with
  | some os => if os.length ≤ sizeLine then some (.lst true os) else none
  | none => none
theorem sx_tup {x1 pos} (h : SA ct X ks es ds) (hk : ks.any id = false := by rfl) : SX ct X false (.Tuple es x1 pos) (dTup ds) := by
  refine PE.imp (pe_tup h) fun σ H Q h => ?_
  obtain ⟨F, ρ, f, o, s, e, q⟩ := h
  unfold dTup at e
  split at e
  · rename_i os e1
    split at e
    · cases e
      refine ⟨F, ρ, f, os, s, e1, fun vs F1 H1 gb gv ex ar hb hv => ?_⟩
      have r := ar.vals hk
      obtain ⟨n1, n2, n3⟩ := hv.n
      refine ⟨by rw [← r.length]; assumption, fun p np => ?_⟩
      have hFp : F1 p = none := ex.le.free np
      have neq : ∀ a, gv a ≠ 0 → a ≠ p := fun a z y => by
        subst y
        obtain ⟨u, hu, _⟩ := r.mem a z
        rw [np] at hu; cases hu
      have e2 : Ext F1 H1 (upd F1 p (.tup vs)) (upd H1 p (.tup vs)) := by
        refine ⟨fun b o hb => by rw [upd_ne (ne_of_none hb hFp)]; exact hb, fun b o hb => by rw [upd_ne (ne_of_none hb np)]; exact hb, fun b o hb => ?_, fun a ha => ?_⟩
        · by_cases y : b = p
          · subst y; rw [upd_same] at hb ⊢; exact hb
          · rw [upd_ne y] at hb ⊢; exact ex.le b o hb
        · by_cases y : a = p
          · subst y; exact .inr np
          · rw [upd_ne y] at ha; exact .inl ha
      refine q (.ref p) _ _ gv (ex.trans e2) ⟨p, vs, rfl, .inl (.inl upd_same), r.ext e2⟩ (Gd.mkn n1 n2 fun a z => ?_)
      rw [upd_ne (neq a z)]
      exact n3 a z
    · cases e
  · cases e
theorem sx_lst {pos} (h : SA ct X ks es ds) (hk : ks.any id = false := by rfl) : SX ct X false (.List es pos) (dLst ds) := by
  refine PE.imp (pe_lst h) fun σ H Q h => ?_
  obtain ⟨F, ρ, f, o, s, e, q⟩ := h
  unfold dLst at e
  split at e
  · rename_i os e1
    split at e
    · cases e
      refine ⟨F, ρ, f, os, s, e1, fun vs F1 H1 gb gv ex ar hb hv => ?_⟩
      have r := ar.vals hk
      obtain ⟨n1, n2, n3⟩ := hv.n
      refine ⟨by rw [← r.length]; assumption, fun p np => ?_⟩
      have hFp : F1 p = none := ex.le.free np
      have neq : ∀ a, gv a ≠ 0 → a ≠ p := fun a z y => by
        subst y
        obtain ⟨u, hu, _⟩ := r.mem a z
        rw [np] at hu; cases hu
      have gp : gv p = 0 := Classical.byContradiction fun z => neq p z rfl
      have e2 : Ext F1 H1 F1 (upd H1 p (.lst vs)) :=
        ⟨Same.refl _, fun b o hb => by rw [upd_ne (ne_of_none hb np)]; exact hb, fun b o hb => by rw [upd_ne (ne_of_none hb hFp)]; exact ex.le b o hb, fun a ha => .inl ha⟩
      refine q (.ref p) _ _ (bump p gv) (ex.trans e2) ⟨p, vs, gv, rfl, upd_same, r.ext e2, rfl⟩ (Gd.mkn (fun a => ?_) (fun a z => ?_) fun a z => ?_)
      · have := n1 a
        unfold bump
        by_cases y : a = p
        · subst y; rw [if_pos rfl]; omega
        · rw [if_neg y]; omega
      · by_cases y : a = p
        · subst y; exact ex.hH.free np
        · exact n2 a (by simpa [bump, y] using z)
      · by_cases y : a = p
        · subst y; exact hFp
        · exact n3 a (by simpa [bump, y] using z)
    · cases e
  · cases e

/-! calls of built-ins -/
def Fn1 (X : Cx) (ct : Nat → Addr) (r : List V → Hp → VK → Prop) (fn : O → Option O) : Prop :=
  ∀ F H x z u g Q, Same F H → Rep X.K ct F H x u g → fn x = some z → Kn X.K ct false zf F H z Q → r [u] H Q
def Fn1a (X : Cx) (ct : Nat → Addr) (r : List V → Hp → VK → Prop) (fn : O → O → Option O) : Prop :=
  ∀ F H x y z u v g h Q, Same F H → Rep X.K ct F H x u g → Rep X.K ct F H y v h → fn x y = some z → Kn X.K ct false zf F H z Q → r [u, v] H Q
variable {a b : Expr} {da db : Env → Option O} {k1 k2 : Bool} {x : Str} {p pos : Pos} {id T : String} {r : List V → Hp → VK → Prop} {fn1 : O → Option O} {fn2 : O → O → Option O}
theorem arg1_go {fn : O → Option O} (hr : Fn1 X ct r fn) {σ : L2.St} {H : Hp} {Q : VK} (h : tX ct X.K false (dBind da fn) σ H Q) : tCB r (tCons (tX ct X.K k1 da) tNil) σ H Q := by
  obtain ⟨F, ρ, f, o, s, e, q⟩ := h
  obtain ⟨x, e1, e2⟩ := dBind_some e
  exact ⟨F, ρ, f, x, s, e1, fun u F1 H1 g ex1 r1 gd1 => hr F1 H1 x o u g Q ex1.le r1 e2 (q.go ex1)⟩
theorem arg2_go {fn : O → O → Option O} (hr : Fn1a X ct r fn) {σ : L2.St} {H : Hp} {Q : VK} (h : tX ct X.K false (dBin fn da db) σ H Q) : tCB r (tCons (tX ct X.K k1 da) (tCons (tX ct X.K k2 db) tNil)) σ H Q := by
  obtain ⟨F, ρ, f, o, s, e, q⟩ := h
  obtain ⟨x, y, e1, e2, e3⟩ := dBin_some e
  refine ⟨F, ρ, f, x, s, e1, fun u F1 H1 g ex1 r1 gd1 => ?_⟩
  exact ⟨F1, ρ, f, y, s.ext ex1, e2, fun v F2 H2 h ex2 r2 gd2 => hr F2 H2 x y o u v g h Q ex2.le (r1.ext ex2) r2 e3 (q.go (ex1.trans ex2))⟩
theorem sx_b1 (hc : CallR X (.builtin id) r) (hr : Fn1 X ct r fn1) (hm : X.mg x = none) (hv : bootBuiltins x = some (.builtin id)) (ha : SX ct X k1 a da) (hg : Gl X x := by rfl) (hn : x ≠ "__name__" := by decide) (hdb : (x == ("__debug__" : Str)) = false := by decide)
    (he : starEach [a] X.env = [(false, eval a X.env)] := by rfl) : SX ct X false (.Call (.Name x p) [a] [] pos) (dBind da fn1) :=
  PE.imp (pe_callB hc hg hm hv (pa_cons ha pa_nil he) hn hdb he rfl) fun σ H Q h => arg1_go hr h
theorem sx_t1 (hc : CallR X (.type T) r) (hr : Fn1 X ct r fn1) (hm : X.mg x = none) (hv : bootBuiltins x = some (.type T)) (ha : SX ct X k1 a da) (hg : Gl X x := by rfl) (hn : x ≠ "__name__" := by decide) (hdb : (x == ("__debug__" : Str)) = false := by decide)
    (he : starEach [a] X.env = [(false, eval a X.env)] := by rfl) : SX ct X false (.Call (.Name x p) [a] [] pos) (dBind da fn1) :=
  PE.imp (pe_callTy hc hg hm hv (pa_cons ha pa_nil he) hn hdb he rfl) fun σ H Q h => arg1_go hr h
theorem sx_b2 (hc : CallR X (.builtin id) r) (hr : Fn1a X ct r fn2) (hm : X.mg x = none) (hv : bootBuiltins x = some (.builtin id)) (ha : SX ct X k1 a da) (hb : SX ct X k2 b db) (hg : Gl X x := by rfl) (hn : x ≠ "__name__" := by decide) (hdb : (x == ("__debug__" : Str)) = false := by decide)
    (he : starEach [a, b] X.env = (false, eval a X.env) :: starEach [b] X.env := by rfl) (he2 : starEach [b] X.env = [(false, eval b X.env)] := by rfl) (hpl : (backTo pos (starEach [b] X.env)).any (·.1) = false := by rfl) : SX ct X false (.Call (.Name x p) [a, b] [] pos) (dBin fn2 da db) :=
  PE.imp (pe_callB hc hg hm hv (pa_cons ha (pa_cons hb pa_nil he2) he) hn hdb he hpl) fun σ H Q h => arg2_go hr h
theorem sx_t2 (hc : CallR X (.type T) r) (hr : Fn1a X ct r fn2) (hm : X.mg x = none) (hv : bootBuiltins x = some (.type T)) (ha : SX ct X k1 a da) (hb : SX ct X k2 b db) (hg : Gl X x := by rfl) (hn : x ≠ "__name__" := by decide) (hdb : (x == ("__debug__" : Str)) = false := by decide)
    (he : starEach [a, b] X.env = (false, eval a X.env) :: starEach [b] X.env := by rfl) (he2 : starEach [b] X.env = [(false, eval b X.env)] := by rfl) (hpl : (backTo pos (starEach [b] X.env)).any (·.1) = false := by rfl) : SX ct X false (.Call (.Name x p) [a, b] [] pos) (dBin fn2 da db) :=
  PE.imp (pe_callTy hc hg hm hv (pa_cons ha (pa_cons hb pa_nil he2) he) hn hdb he hpl) fun σ H Q h => arg2_go hr h

def oLen : O → Option O
  | .str z => if z.length ≤ sizeLine then some (.int z.length) else none
  | .tup os => some (.int os.length)
  | .lst _ os => some (.int os.length)
  | _ => none
theorem fn_len : Fn1 X ct (fun xs H Q => ∃ x n, xs = [x] ∧ LenV X.K x H n ∧ Q (.int n) H) oLen := by
  intro F H x z u g Q le r e q
  unfold oLen at e
  split at e
  · rename_i z'
    split at e
    · cases e
      obtain ⟨rfl, _⟩ := r
      exact ⟨.str z', _, rfl, ⟨by assumption, rfl⟩, q.scal le fun _ _ => ⟨rfl, rfl⟩⟩
    · cases e
  · cases e
    obtain ⟨a, xs, rfl, s, rs⟩ := r
    exact ⟨.ref a, _, rfl, .inr ⟨xs, Same.seqT le s, rfl⟩, by rw [← rs.length]; exact q.scal le fun _ _ => ⟨rfl, rfl⟩⟩
  · cases e
    obtain ⟨a, xs, g', rfl, s, rs, _⟩ := Rep.list le r
    exact ⟨.ref a, _, rfl, .inl ⟨xs, s, rfl⟩, by rw [← rs.length]; exact q.scal le fun _ _ => ⟨rfl, rfl⟩⟩
  · cases e
theorem sx_len (hm : X.mg "len" = none) (ha : SX ct X k1 a da) (hg : Gl X "len" := by rfl) (he : starEach [a] X.env = [(false, eval a X.env)] := by rfl) : SX ct X false (.Call (.Name "len" p) [a] [] pos) (dBind da oLen) :=
  sx_b1 call_len fn_len hm PySem.boot_len ha hg (by decide) (by decide) he
def oInt : O → Option O
  | .int i => some (.int i)
  | .bl k => some (.int (if k then 1 else 0))
  | _ => none
theorem fn_int : Fn1 X ct (fun xs H Q => (∃ i, xs = [.int i] ∧ Q (.int i) H) ∨ ∃ k, xs = [.bl k] ∧ Q (.int (if k then 1 else 0)) H) oInt := by
  intro F H x z u g Q le r e q
  unfold oInt at e
  split at e
  · cases e; obtain ⟨rfl, _⟩ := r; exact .inl ⟨_, rfl, q.scal le fun _ _ => ⟨rfl, rfl⟩⟩
  · cases e; obtain ⟨rfl, _⟩ := r; exact .inr ⟨_, rfl, q.scal le fun _ _ => ⟨rfl, rfl⟩⟩
  · cases e
theorem sx_int1 (hm : X.mg "int" = none) (ha : SX ct X k1 a da) (hg : Gl X "int" := by rfl) (he : starEach [a] X.env = [(false, eval a X.env)] := by rfl) : SX ct X false (.Call (.Name "int" p) [a] [] pos) (dBind da oInt) :=
  sx_t1 call_int1 fn_int hm (by decide +kernel) ha hg (by decide) (by decide) he
def oAbs : O → Option O
  | .int i => some (.int (if i < 0 then -i else i))
  | _ => none
theorem sx_abs (hm : X.mg "abs" = none) (ha : SX ct X k1 a da) (hg : Gl X "abs" := by rfl) (he : starEach [a] X.env = [(false, eval a X.env)] := by rfl) : SX ct X false (.Call (.Name "abs" p) [a] [] pos) (dBind da oAbs) := by
  refine sx_b1 call_abs ?_ hm (by decide +kernel) ha hg (by decide) (by decide) he
  intro F H x z u g Q le r e q
  unfold oAbs at e
  split at e
  · cases e; obtain ⟨rfl, _⟩ := r; exact ⟨_, rfl, q.scal le fun _ _ => ⟨rfl, rfl⟩⟩
  · cases e
def oMax := intsO (fun _ _ => true) fun i j => .int (if j > i then j else i)
def oMin := intsO (fun _ _ => true) fun i j => .int (if j < i then j else i)
theorem fn1a_I {g : Int → Int → V} {g' : Int → Int → O} (hg : ∀ i j K F H, Rep K ct F H (g' i j) (g i j) zf) : Fn1a X ct (fun xs H Q => ∃ i j, xs = [.int i, .int j] ∧ Q (g i j) H) (intsO (fun _ _ => true) g') := by
  intro F H x y z u v g h Q le rx ry e q
  obtain ⟨i, j, rfl, rfl, c, rfl⟩ := intsO_some e
  obtain ⟨rfl, _⟩ := rx
  obtain ⟨rfl, _⟩ := ry
  exact ⟨i, j, rfl, q.scal le fun F H => hg i j _ F H⟩
theorem sx_max (hc : X.calm = true) (hm : X.mg "max" = none) (ha : SX ct X k1 a da) (hb : SX ct X k2 b db) (hg : Gl X "max" := by rfl)
    (he : starEach [a, b] X.env = (false, eval a X.env) :: starEach [b] X.env := by rfl) (he2 : starEach [b] X.env = [(false, eval b X.env)] := by rfl) (hpl : (backTo pos (starEach [b] X.env)).any (·.1) = false := by rfl) : SX ct X false (.Call (.Name "max" p) [a, b] [] pos) (dBin oMax da db) :=
  sx_b2 (call_max2 hc) (fn1a_I fun _ _ _ _ _ => ⟨rfl, rfl⟩) hm (by decide +kernel) ha hb hg (by decide) (by decide) he he2 hpl
theorem sx_min (hc : X.calm = true) (hm : X.mg "min" = none) (ha : SX ct X k1 a da) (hb : SX ct X k2 b db) (hg : Gl X "min" := by rfl)
    (he : starEach [a, b] X.env = (false, eval a X.env) :: starEach [b] X.env := by rfl) (he2 : starEach [b] X.env = [(false, eval b X.env)] := by rfl) (hpl : (backTo pos (starEach [b] X.env)).any (·.1) = false := by rfl) : SX ct X false (.Call (.Name "min" p) [a, b] [] pos) (dBin oMin da db) :=
  sx_b2 (call_min2 hc) (fn1a_I fun _ _ _ _ _ => ⟨rfl, rfl⟩) hm (by decide +kernel) ha hb hg (by decide) (by decide) he he2 hpl

/-! isinstance with a built-in class -/
def tyN : O → Option String
  | .non => some "NoneType"
  | .bl _ => some "bool"
  | .int _ => some "int"
  | .str _ => some "str"
  | .tup _ => some "tuple"
  | .lst _ _ => some "list"
  | .dct true _ _ => some "dict"
  | .dct false _ _ => none
  | .ins _ _ _ _ => none
  | .exc _ => none
def oIsi (T : String) (o : O) : Option O := match tyN o with
  | some t => (kitB t T).map .bl
  | none => none
theorem Rep.ty {K : PySem.W.Frag} {F H : Hp} {o : O} {v : V} {f : Fp} {t : String} (le : Same F H) (r : Rep K ct F H o v f) (e : tyN o = some t) : TyX K H v (.type t) := by
  cases o with
  | non => cases e; obtain ⟨rfl, _⟩ := r; exact .base .non
  | bl b => cases e; obtain ⟨rfl, _⟩ := r; exact .base (.bl _)
  | int i => cases e; obtain ⟨rfl, _⟩ := r; exact .base (.int _)
  | str s => cases e; obtain ⟨rfl, _⟩ := r; exact .base (.str _)
  | tup os =>
    cases e
    obtain ⟨a, xs, rfl, s, _⟩ := r
    rcases Same.seqT le s with (s | ⟨o, s⟩) | ⟨o, its, n, hk, hc, _⟩
    · exact .base (.tup s)
    · exact .fTuple s
    · exact .kTuple hk hc
  | lst w os =>
    cases e
    obtain ⟨a, xs, _, rfl, s, _⟩ := Rep.list le r
    rcases s with (s | ⟨o, s⟩) | ⟨o, its, n, hk, hc, _⟩
    · exact .base (.lst s)
    · exact .base (.frz s)
    · exact .kList hk hc
  | dct w ks os =>
    cases w with
    | false => cases e
    | true => cases e; obtain ⟨a, kvs, g, rfl, s, _⟩ := r; exact .base (.dK s)
  | ins w c ns os => cases e
  | exc a => cases e
theorem sx_isi (hm : X.mg "isinstance" = none) {T' : Str} {p2 : Pos} (hmT : X.mg T' = none) (hvT : bootBuiltins T' = some (.type T)) (ha : SX ct X k1 a da) (hg : Gl X "isinstance" := by rfl) (hgT : Gl X T' := by rfl) (hnT : T' ≠ "__name__" := by decide) (hdT : (T' == ("__debug__" : Str)) = false := by decide)
    (he : starEach [a, .Name T' p2] X.env = (false, eval a X.env) :: starEach [.Name T' p2] X.env := by rfl) :
    SX ct X false (.Call (.Name "isinstance" p) [a, .Name T' p2] [] pos) (dBind da (oIsi T)) := by
  refine PE.imp (pe_callB call_isi hg hm (by decide +kernel) (pa_cons ha (pa_cons (pe_bltn (v := .ty T) hgT hmT hvT rfl hnT hdT) pa_nil) he) (by decide) (by decide) he rfl) fun σ H Q h => ?_
  obtain ⟨F, ρ, f, o, s, e, q⟩ := h
  obtain ⟨x, e1, e2⟩ := dBind_some e
  refine ⟨F, ρ, f, x, s, e1, fun u F1 H1 g ex1 r1 gd1 => ?_⟩
  unfold oIsi at e2
  split at e2
  · rename_i t et
    cases ek : kitB t T with
    | none => rw [ek] at e2; cases e2
    | some b =>
      rw [ek] at e2
      cases e2
      exact ⟨u, .ty T, .type t, .type T, b, rfl, .ty T, r1.ty ex1.le et, kit_ty ek, (q.go (f' := zf) ex1).scal ex1.le fun _ _ => ⟨rfl, rfl⟩⟩
  · cases e2
end

/-! tests -/
def tT (ct : Nat → Addr) (K : PySem.W.Frag) (d : Env → Option Bool) : TT := fun σ H Q =>
  ∃ F ρ f b, Sit K ct F H ρ σ f ∧ d ρ = some b ∧ ∀ F' H', Ext F H F' H' → Q b H'
def ST (ct : Nat → Addr) (X : Cx) (e : Expr) (d : Env → Option Bool) : Prop := PT X e (tT ct X.K d)
def SW (ct : Nat → Addr) (X : Cx) (e : Expr) (d : Env → Option Bool) : Prop := PW X e (tT ct X.K d)
def oTru : O → Option Bool
  | .bl b => some b
  | .non => some false
  | .int i => some (i != 0)
  | .str s => if s.length ≤ sizeLine then some ((s.length : Int) != 0) else none
  | .tup os => some (!os.isEmpty)
  | .lst _ os => some (!os.isEmpty)
  | .dct true _ os => some (!os.isEmpty)
  | .dct false _ _ => none
  | .ins _ _ _ _ => none
  | .exc _ => none
def oBool : O → Option Bool
  | .bl b => some b
  | _ => none
def dTru (f : O → Option Bool) (d : Env → Option O) : Env → Option Bool := fun ρ => match d ρ with
  | some o => f o
  | none => none
def bAnd (da db : Env → Option Bool) : Env → Option Bool := fun ρ => match da ρ with
  | some true => db ρ
  | some false => some false
  | none => none
def bOr (da db : Env → Option Bool) : Env → Option Bool := fun ρ => match da ρ with
  | some true => some true
  | some false => db ρ
  | none => none
def bNot (da : Env → Option Bool) : Env → Option Bool := fun ρ => match da ρ with
  | some b => some (!b)
  | none => none
def dVB (d : Env → Option Bool) : Env → Option O := fun ρ => match d ρ with
  | some b => some (.bl b)
  | none => none
section
variable {ct : Nat → Addr} {X : Cx} {a b e : Expr} {da db d : Env → Option O} {ta tb t : Env → Option Bool} {k k1 k2 : Bool} {pos : Pos} {rest : List Expr}
theorem Reps.isEmpty {K : PySem.W.Frag} {F H : Hp} {os : List O} {vs : List V} {f : Fp} (r : Reps K ct F H os vs f) : os.isEmpty = vs.isEmpty := by
  have h := r.length
  cases os <;> cases vs <;> simp_all
theorem Rep.tru {K : PySem.W.Frag} {F H : Hp} {o : O} {v : V} {f : Fp} {b : Bool} (le : Same F H) (r : Rep K ct F H o v f) (e : oTru o = some b) : TruV K v H b := by
  cases o with
  | non => cases e; obtain ⟨rfl, _⟩ := r; rfl
  | bl b => cases e; obtain ⟨rfl, _⟩ := r; rfl
  | int i => cases e; obtain ⟨rfl, _⟩ := r; rfl
  | str s =>
    obtain ⟨rfl, _⟩ := r
    simp only [oTru] at e
    split at e
    · cases e; exact ⟨by assumption, rfl⟩
    · cases e
  | tup os =>
    cases e
    obtain ⟨a, xs, rfl, s, rs⟩ := r
    exact .inr (.inl ⟨xs, Same.seqT le s, by rw [rs.isEmpty]⟩)
  | lst w os =>
    cases e
    obtain ⟨a, xs, _, rfl, s, rs, _⟩ := Rep.list le r
    exact .inl ⟨xs, s, by rw [rs.isEmpty]⟩
  | dct w ks os =>
    cases w with
    | false => cases e
    | true =>
      cases e
      obtain ⟨a, kvs, g, rfl, s, _, rs, _⟩ := r
      exact .inr (.inr ⟨kvs, s, by rw [rs.isEmpty]; cases kvs <;> rfl⟩)
  | ins w c ns os => cases e
  | exc a => cases e
/-- a name, a call, a subscript .. as a test -/
theorem st_tru (ha : SX ct X k a da) (he : ∀ whole, isTrue a X.env whole = (do let v ← whole; standAt a.pos; holding [v] (truthy v)) := by intro _; rfl) : ST ct X a (dTru oTru da) := by
  refine PT.imp (pt_truth ha he) fun σ H Q h => ?_
  obtain ⟨F, ρ, f, b, s, e, q⟩ := h
  unfold dTru at e
  split at e
  · rename_i o e1
    exact ⟨F, ρ, f, o, s, e1, fun u F1 H1 g ex1 r1 gd1 => ⟨b, r1.tru ex1.le e, q F1 H1 ex1⟩⟩
  · cases e
theorem st_cmpG {op : CmpOp} {r : R2} {fn : O → O → Option O} (ho : OpR X (compareOp op) r) (hr : Fn2 X ct r fn) (ha : SX ct X k1 a da) (hb : SX ct X k2 b db) (hm : behindInMarks op b = false) : ST ct X (.Compare a [op] [b] pos) (dTru oBool (dBin fn da db)) := by
  refine PT.imp (pt_cmpR ho ha hb hm) fun σ H Q h => ?_
  obtain ⟨F, ρ, f, b, s, e, q⟩ := h
  unfold dTru at e
  split at e
  · rename_i o e1
    refine two_go (ct := ct) (X := X) hr (Q := fun x H' => ∃ k, x = V.bl k ∧ Q k H') ⟨F, ρ, f, o, s, e1, fun v F' H' g ex r gd => ?_⟩
    unfold oBool at e
    split at e
    · cases e
      exact ⟨_, r.1, q F' H' ex⟩
    · cases e
  · cases e
theorem st_lt (ha : SX ct X k1 a da) (hb : SX ct X k2 b db) : ST ct X (.Compare a [.Lt] [b] pos) (dTru oBool (dBin oLt da db)) := st_cmpG op_lt (fn2_I0 fun _ _ _ _ _ => ⟨rfl, rfl⟩) ha hb (nomark _)
theorem st_le (ha : SX ct X k1 a da) (hb : SX ct X k2 b db) : ST ct X (.Compare a [.LtE] [b] pos) (dTru oBool (dBin oLe da db)) := st_cmpG op_le (fn2_I0 fun _ _ _ _ _ => ⟨rfl, rfl⟩) ha hb (nomark _)
theorem st_gt (ha : SX ct X k1 a da) (hb : SX ct X k2 b db) : ST ct X (.Compare a [.Gt] [b] pos) (dTru oBool (dBin oGt da db)) := st_cmpG op_gt (fn2_I0 fun _ _ _ _ _ => ⟨rfl, rfl⟩) ha hb (nomark _)
theorem st_ge (ha : SX ct X k1 a da) (hb : SX ct X k2 b db) : ST ct X (.Compare a [.GtE] [b] pos) (dTru oBool (dBin oGe da db)) := st_cmpG op_ge (fn2_I0 fun _ _ _ _ _ => ⟨rfl, rfl⟩) ha hb (nomark _)
theorem st_eq (hu : X.A.units + 64 < cLine) (ha : SX ct X k1 a da) (hb : SX ct X k2 b db) : ST ct X (.Compare a [.Eq] [b] pos) (dTru oBool (dBin oEq da db)) := st_cmpG (op_eqD hu) fn2_eq ha hb (nomark _)
theorem st_ne (hu : X.A.units + 64 < cLine) (ha : SX ct X k1 a da) (hb : SX ct X k2 b db) : ST ct X (.Compare a [.NotEq] [b] pos) (dTru oBool (dBin oNe da db)) := st_cmpG (op_neD hu) fn2_ne ha hb (nomark _)
theorem st_not (ha : ST ct X a ta) : ST ct X (.UnaryOp .Not a pos) (bNot ta) := by
  refine PT.imp (pt_not ha) fun σ H Q h => ?_
  obtain ⟨F, ρ, f, b, s, e, q⟩ := h
  unfold bNot at e
  split at e
  · cases e; exact ⟨F, ρ, f, _, s, by assumption, q⟩
  · cases e
theorem PW.imp {X : Cx} {e : Expr} {t t' : TT} (h : PW X e t) (i : ∀ σ H Q, t' σ H Q → t σ H Q) : PW X e t' :=
  ⟨fun wh pins s σ H Q I hq => h.run wh pins s σ H Q I (i σ H Q hq)⟩
theorem sw_and1 (ha : ST ct X a ta) : SW ct X (.BoolOp .And [a] pos) ta := pw_and1 ha
theorem sw_or1 (ha : ST ct X a ta) : SW ct X (.BoolOp .Or [a] pos) ta := pw_or1 ha
theorem sw_and (ha : ST ct X a ta) (hb : SW ct X (.BoolOp .And (b :: rest) pos) tb) : SW ct X (.BoolOp .And (a :: b :: rest) pos) (bAnd ta tb) := by
  refine PW.imp (pw_and ha hb) fun σ H Q h => ?_
  obtain ⟨F, ρ, f, b, s, e, q⟩ := h
  unfold bAnd at e
  split at e
  · refine ⟨F, ρ, f, true, s, by assumption, fun F1 H1 ex1 => ?_⟩
    refine iteT ?_
    exact ⟨F1, ρ, f, b, s.ext ex1, e, fun F2 H2 ex2 => q F2 H2 (ex1.trans ex2)⟩
  · cases e
    refine ⟨F, ρ, f, false, s, by assumption, fun F1 H1 ex1 => ?_⟩
    refine iteF ?_
    exact q F1 H1 ex1
  · cases e
theorem sw_or (ha : ST ct X a ta) (hb : SW ct X (.BoolOp .Or (b :: rest) pos) tb) : SW ct X (.BoolOp .Or (a :: b :: rest) pos) (bOr ta tb) := by
  refine PW.imp (pw_or ha hb) fun σ H Q h => ?_
  obtain ⟨F, ρ, f, b, s, e, q⟩ := h
  unfold bOr at e
  split at e
  · cases e
    refine ⟨F, ρ, f, true, s, by assumption, fun F1 H1 ex1 => ?_⟩
    refine iteT ?_
    exact q F1 H1 ex1
  · refine ⟨F, ρ, f, false, s, by assumption, fun F1 H1 ex1 => ?_⟩
    refine iteF ?_
    exact ⟨F1, ρ, f, b, s.ext ex1, e, fun F2 H2 ex2 => q F2 H2 (ex1.trans ex2)⟩
  · cases e
theorem st_bool (h : SW ct X e t) : ST ct X e t := PW.pt h
/-! and, or, not as values (bools) -/
def vAnd (da db : Env → Option O) : Env → Option O := fun ρ => match da ρ with
  | some (.bl true) => db ρ
  | some (.bl false) => some (.bl false)
  | _ => none
def vOr (da db : Env → Option O) : Env → Option O := fun ρ => match da ρ with
  | some (.bl true) => some (.bl true)
  | some (.bl false) => db ρ
  | _ => none
def oNot : O → Option O
  | .bl b => some (.bl (!b))
  | _ => none
theorem Kn.go0 {K : PySem.W.Frag} {f : Fp} {F H F1 H1 : Hp} {o : O} {Q : VK} (h : Kn K ct false f F H o Q) (e : Ext F H F1 H1) : Kn K ct false f F1 H1 o Q := h.go e
theorem sx_one {op} (h : SX ct X k a da) : SX ct X k (.BoolOp op [a] pos) da := pe_one h
theorem sx_and (ha : SX ct X k1 a da) (hb : SX ct X false (.BoolOp .And (b :: rest) pos) db) : SX ct X false (.BoolOp .And (a :: b :: rest) pos) (vAnd da db) := by
  refine PE.imp (pe_and ha hb) fun σ H Q h => ?_
  obtain ⟨F, ρ, f, o, s, e, q⟩ := h
  unfold vAnd at e
  split at e
  · refine ⟨F, ρ, f, .bl true, s, by assumption, fun v F1 H1 g ex1 r1 gd1 => ⟨true, r1.1, ?_⟩⟩
    refine iteT ?_
    exact ⟨F1, ρ, f, o, s.ext ex1, e, q.go0 ex1⟩
  · cases e
    refine ⟨F, ρ, f, .bl false, s, by assumption, fun v F1 H1 g ex1 r1 gd1 => ⟨false, r1.1, ?_⟩⟩
    refine iteF ?_
    exact (q.go0 ex1).scal ex1.le fun _ _ => ⟨rfl, rfl⟩
  · cases e
theorem sx_or (ha : SX ct X k1 a da) (hb : SX ct X false (.BoolOp .Or (b :: rest) pos) db) : SX ct X false (.BoolOp .Or (a :: b :: rest) pos) (vOr da db) := by
  refine PE.imp (pe_or ha hb) fun σ H Q h => ?_
  obtain ⟨F, ρ, f, o, s, e, q⟩ := h
  unfold vOr at e
  split at e
  · cases e
    refine ⟨F, ρ, f, .bl true, s, by assumption, fun v F1 H1 g ex1 r1 gd1 => ⟨true, r1.1, ?_⟩⟩
    refine iteT ?_
    exact (q.go0 ex1).scal ex1.le fun _ _ => ⟨rfl, rfl⟩
  · refine ⟨F, ρ, f, .bl false, s, by assumption, fun v F1 H1 g ex1 r1 gd1 => ⟨false, r1.1, ?_⟩⟩
    refine iteF ?_
    exact ⟨F1, ρ, f, o, s.ext ex1, e, q.go0 ex1⟩
  · cases e
theorem sx_not (ha : SX ct X k a da) : SX ct X false (.UnaryOp .Not a pos) (dBind da oNot) := by
  refine PE.imp (pe_not ha) fun σ H Q h => ?_
  obtain ⟨F, ρ, f, o, s, e, q⟩ := h
  obtain ⟨x, e1, e2⟩ := dBind_some e
  refine ⟨F, ρ, f, x, s, e1, fun v F1 H1 g ex1 r1 gd1 => ?_⟩
  unfold oNot at e2
  split at e2
  · cases e2
    exact ⟨_, r1.1, (q.go0 ex1).scal ex1.le fun _ _ => ⟨rfl, rfl⟩⟩
  · cases e2
def dIte (t : Env → Option Bool) (da db : Env → Option O) : Env → Option O := fun ρ => match t ρ with
  | some true => da ρ
  | some false => db ρ
  | none => none
theorem sx_ite {c : Expr} (hc : ST ct X c t) (ha : SX ct X false a da) (hb : SX ct X false b db) : SX ct X false (.IfExp c a b pos) (dIte t da db) := by
  refine PE.imp (pe_ifExp hc ha hb) fun σ H Q h => ?_
  obtain ⟨F, ρ, f, o, s, e, q⟩ := h
  unfold dIte at e
  split at e
  · refine ⟨F, ρ, f, true, s, by assumption, fun F1 H1 ex1 => ?_⟩
    refine iteT ?_
    exact ⟨F1, ρ, f, o, s.ext ex1, e, q.go0 ex1⟩
  · refine ⟨F, ρ, f, false, s, by assumption, fun F1 H1 ex1 => ?_⟩
    refine iteF ?_
    exact ⟨F1, ρ, f, o, s.ext ex1, e, q.go0 ex1⟩
  · cases e
end
end Mini
namespace Mini
open PySem PySem.Spec PyProof.Rows L2

structure Stp (F H : Hp) (f : Fp) (F' H' : Hp) (f' : Fp) : Prop where
  hF : Same F F'
  wf : Wf F' H' f'
  frame : ∀ a o, H a = some o → f a = 0 → H' a = some o
  new : ∀ a, (f' a ≠ 0 ∨ F' a ≠ none) → F a ≠ none ∨ H a = none ∨ f a ≠ 0
section
variable {F H F1 H1 F2 H2 F' H' : Hp} {f f1 f2 f' g : Fp}
theorem Stp.refl (w : Wf F H f) : Stp F H f F H f := ⟨Same.refl _, w, fun _ _ h _ => h, fun a h => h.elim (fun z => .inr (.inr z)) .inl⟩
theorem Stp.trans (a : Stp F H f F1 H1 f1) (b : Stp F1 H1 f1 F2 H2 f2) : Stp F H f F2 H2 f2 := by
  refine ⟨a.hF.trans b.hF, b.wf, fun c o h z => ?_, fun c h => ?_⟩
  · have h1 := a.frame c o h z
    refine b.frame c o h1 (Classical.byContradiction fun w => ?_)
    rcases a.new c (.inl w) with q | q | q
    · obtain ⟨u, hu⟩ := some_of_ne q
      have := a.wf.dj c w
      rw [a.hF _ _ hu] at this; cases this
    · rw [h] at q; cases q
    · exact q z
  · rcases b.new c h with q | q | q
    · exact a.new c (.inr q)
    · refine .inr ?_
      cases e : H c with
      | none => exact .inl rfl
      | some o =>
        refine .inr fun z => ?_
        rw [a.frame c o e z] at q; cases q
    · exact a.new c (.inl q)
theorem Wf.sub (w : Wf F H f) (l : ∀ a, f' a ≤ f a) : Wf F H f' := ⟨w.le, fun a => Nat.le_trans (l a) (w.one a), fun a h => w.dj a (by have := l a; omega)⟩
theorem Stp.sub (s : Stp F H f F' H' f') (l : ∀ a, f1 a ≤ f' a) : Stp F H f F' H' f1 :=
  ⟨s.hF, s.wf.sub l, s.frame, fun a h => s.new a (h.elim (fun z => .inl (by have := l a; omega)) .inr)⟩
/-- a new value beside the slots -/
theorem Wf.add (w : Wf F H f) (gd : Gd false f1 H1 F g) (m : ∀ a, f a ≠ 0 → ∃ u, H1 a = some u ∧ Own u) : Wf F H (fun a => f a + g a) := by
  obtain ⟨n1, n2, n3⟩ := gd.n
  refine ⟨w.le, fun a => ?_, fun a h => ?_⟩
  · by_cases z : g a = 0
    · have := w.one a; show f a + g a ≤ 1; omega
    · by_cases y : f a = 0
      · have := n1 a; show f a + g a ≤ 1; omega
      · obtain ⟨u, hu, _⟩ := m a y
        rw [n2 a z] at hu; cases hu
  · by_cases z : g a = 0
    · exact w.dj a (by have h' : f a + g a ≠ 0 := h; omega)
    · exact n3 a z
theorem Ext.stp (e : Ext F H F' H') (w : Wf F H f) (m : ∀ a, f a ≠ 0 → ∃ u, H a = some u ∧ Own u) (gd : Gd false f1 H F' g) : Stp F H f F' H' (fun a => f a + g a) := by
  obtain ⟨n1, n2, n3⟩ := gd.n
  refine ⟨e.hF, (w.ext e m).add gd m, fun a o h _ => e.hH a o h, fun a h => ?_⟩
  rcases h with h | h
  · by_cases z : g a = 0
    · exact .inr (.inr (by have h' : f a + g a ≠ 0 := h; omega))
    · exact .inr (.inl (n2 a z))
  · exact (e.new a h).elim .inl fun z => .inr (.inl z)
theorem Ext.stp0 (e : Ext F H F' H') (w : Wf F H f) (m : ∀ a, f a ≠ 0 → ∃ u, H a = some u ∧ Own u) : Stp F H f F' H' f :=
  (e.stp (f1 := zf) w m Gd.zero).sub fun a => Nat.le_add_right _ _
end

inductive Out where
  | nx (ρ : Env) | rt (o : O) (ρ : Env) | bk (ρ : Env) | ct (ρ : Env) | er (c : Nat) (ρ : Env)
def Pin (pn : Nat → Bool) (σ σ' : L2.St) : Prop := σ'.length = σ.length ∧ ∀ i, pn i = true → σ'[i]? = σ[i]?
theorem Pin.refl {pn : Nat → Bool} {σ : L2.St} : Pin pn σ σ := ⟨rfl, fun _ _ => rfl⟩
theorem Pin.trans {pn : Nat → Bool} {σ σ1 σ2 : L2.St} (a : Pin pn σ σ1) (b : Pin pn σ1 σ2) : Pin pn σ σ2 := ⟨b.1.trans a.1, fun i h => (b.2 i h).trans (a.2 i h)⟩
theorem Pin.set {pn : Nat → Bool} {σ : L2.St} {i : Nat} {x : Option V} (h : pn i = false) : Pin pn σ (σ.set i x) := ⟨List.length_set, fun j hj => by
  rw [List.getElem?_set_ne]
  intro e
  subst e
  rw [h] at hj
  cases hj⟩
def Kst (K : PySem.W.Frag) (ct : Nat → Addr) (pn : Nat → Bool) (W : WX) (F H : Hp) (f : Fp) (σ : L2.St) (out : Out) (D : Ends) : Prop := match out with
  | .nx ρ' => ∀ σ' F' H' f', Stp F H f F' H' f' → SRep K ct F' H' ρ' σ' f' → Pin pn σ σ' → D.nx σ' H'
  | .bk ρ' => ∀ σ' F' H' f', Stp F H f F' H' f' → SRep K ct F' H' ρ' σ' f' → Pin pn σ σ' → D.bk σ' H'
  | .ct ρ' => ∀ σ' F' H' f', Stp F H f F' H' f' → SRep K ct F' H' ρ' σ' f' → Pin pn σ σ' → D.ct σ' H'
  | .rt o ρ' => ∀ v σ' F' H' g f', Stp F H f F' H' (fun a => g a + f' a) → Rep K ct F' H' o v g → SRep K ct F' H' ρ' σ' f' → Pin pn σ σ' → D.rt v H'
  | .er c ρ' => ∀ σ' F' H' f', Stp F H f F' H' f' → SRep K ct F' H' ρ' σ' f' → Pin pn σ σ' → W (.ref (ct c)) none σ' H'
theorem Kst.go {K : PySem.W.Frag} {ct : Nat → Addr} {pn : Nat → Bool} {W : WX} {F H F1 H1 : Hp} {f f1 : Fp} {σ σ1 : L2.St} {out : Out} {D : Ends} (k : Kst K ct pn W F H f σ out D) (s : Stp F H f F1 H1 f1) (p : Pin pn σ σ1) : Kst K ct pn W F1 H1 f1 σ1 out D := by
  cases out with
  | nx ρ' => exact fun σ' F' H' f' s' r p' => k σ' F' H' f' (s.trans s') r (p.trans p')
  | bk ρ' => exact fun σ' F' H' f' s' r p' => k σ' F' H' f' (s.trans s') r (p.trans p')
  | ct ρ' => exact fun σ' F' H' f' s' r p' => k σ' F' H' f' (s.trans s') r (p.trans p')
  | rt o ρ' => exact fun v σ' F' H' g f' s' r0 r p' => k v σ' F' H' g f' (s.trans s') r0 r (p.trans p')
  | er c ρ' => exact fun σ' F' H' f' s' r p' => k σ' F' H' f' (s.trans s') r (p.trans p')
def tSt (ct : Nat → Addr) (K : PySem.W.Frag) (pn : Nat → Bool) (W : WX) (d : Env → Option Out) : TS := fun D σ H =>
  ∃ F ρ f out, Sit K ct F H ρ σ f ∧ d ρ = some out ∧ Kst K ct pn W F H f σ out D
def SS (ct : Nat → Addr) (X : Cx) (pn : Nat → Bool) (W : WX) (st : Stmt) (d : Env → Option Out) : Prop := PS X st (tSt ct X.K pn W d)
def SSs (ct : Nat → Addr) (X : Cx) (pn : Nat → Bool) (W : WX) (st : List Stmt) (d : Env → Option Out) : Prop := PSs X st (tSt ct X.K pn W d)

/-! one slot and the rest -/
theorem SRep.hole {K : PySem.W.Frag} {ct : Nat → Addr} {F H : Hp} : ∀ {ρ : Env} {σ : L2.St} {f : Fp} (i : Nat), i < ρ.length → SRep K ct F H ρ σ f → ∃ g h : Fp, (f = fun a => g a + h a) ∧
    (∀ o, look ρ i = some o → ∃ v, σ[i]? = some (some v) ∧ Rep K ct F H o v g) ∧
    ∀ F' H', Same F F' → (∀ a, h a ≠ 0 → H' a = H a) →
      (∀ o' v' g', Rep K ct F' H' o' v' g' → SRep K ct F' H' (ρ.set i (some o')) (σ.set i (some v')) (fun a => g' a + h a)) ∧ (∀ x, SRep K ct F' H' (ρ.set i none) (σ.set i x) h)
  | [], _, _, _, hi, _ => by simp at hi
  | none :: ρ, [], f, i, hi, h => (show False from h).elim
  | none :: ρ, s :: σ, f, 0, hi, h => by
    have h' : SRep K ct F H ρ σ f := h
    refine ⟨zf, f, by funext a; simp [zf], fun o e => by simp [look] at e, fun F' H' hF k => ⟨fun o' v' g' r => ?_, fun x => ?_⟩⟩
    · exact ⟨g', f, r, SRep.mono hF k h', rfl⟩
    · exact SRep.mono hF k h'
  | none :: ρ, s :: σ, f, i + 1, hi, h => by
    have h' : SRep K ct F H ρ σ f := h
    obtain ⟨g, l, ef, hl, hf⟩ := SRep.hole i (by simpa using hi) h'
    refine ⟨g, l, ef, fun o e => ?_, fun F' H' hF k => ?_⟩
    · obtain ⟨v, e1, r⟩ := hl o (by simpa [look] using e)
      exact ⟨v, by simpa using e1, r⟩
    · obtain ⟨p1, p2⟩ := hf F' H' hF k
      exact ⟨fun o' v' g' r => p1 o' v' g' r, fun x => p2 x⟩
  | some o :: ρ, [], _, _, _, h => (show False from h).elim
  | some o :: ρ, none :: σ, _, _, _, h => (show False from h).elim
  | some o :: ρ, some v :: σ, f, 0, hi, h => by
    obtain ⟨g, l, r, rs, ef⟩ := (show ∃ g h, Rep K ct F H o v g ∧ SRep K ct F H ρ σ h ∧ f = fun a => g a + h a from h)
    refine ⟨g, l, ef, fun o' e => ?_, fun F' H' hF k => ⟨fun o' v' g' r' => ?_, fun x => ?_⟩⟩
    · have e' : o = o' := by simpa [look] using e
      subst e'
      exact ⟨v, rfl, r⟩
    · exact ⟨g', l, r', SRep.mono hF k rs, rfl⟩
    · exact SRep.mono hF k rs
  | some o :: ρ, some v :: σ, f, i + 1, hi, h => by
    obtain ⟨g0, l0, r, rs, ef⟩ := (show ∃ g h, Rep K ct F H o v g ∧ SRep K ct F H ρ σ h ∧ f = fun a => g a + h a from h)
    obtain ⟨g, l, ef', hl, hf⟩ := SRep.hole i (by simpa using hi) rs
    refine ⟨g, fun a => g0 a + l a, ?_, fun o' e => ?_, fun F' H' hF k => ?_⟩
    · funext a
      rw [ef, ef']
      show g0 a + (g a + l a) = g a + (g0 a + l a)
      omega
    · obtain ⟨v', e1, r'⟩ := hl o' (by simpa [look] using e)
      exact ⟨v', by simpa using e1, r'⟩
    · have k0 : ∀ a, g0 a ≠ 0 → H' a = H a := fun a z => k a (by show g0 a + l a ≠ 0; omega)
      obtain ⟨p1, p2⟩ := hf F' H' hF fun a z => k a (by show g0 a + l a ≠ 0; omega)
      refine ⟨fun o' v' g' r' => ?_, fun x => ?_⟩
      · refine ⟨g0, _, Rep.mono hF k0 r, p1 o' v' g' r', ?_⟩
        funext a
        show g' a + (g0 a + l a) = g0 a + (g' a + l a)
        omega
      · exact ⟨g0, _, Rep.mono hF k0 r, p2 x, rfl⟩
theorem SRep.len {K : PySem.W.Frag} {ct : Nat → Addr} {F H : Hp} {ρ : Env} {σ : L2.St} {f : Fp} {i : Nat} {o : O} (h : SRep K ct F H ρ σ f) (e : look ρ i = some o) : i < ρ.length ∧ i < σ.length := by
  obtain ⟨v, g, e1, _⟩ := h.get e
  refine ⟨?_, (List.getElem?_eq_some_iff.mp e1).1⟩
  unfold look at e
  split at e
  · rename_i x e2
    exact (List.getElem?_eq_some_iff.mp e2).1
  · cases e

/-! targets -/
def tGt (ct : Nat → Addr) (K : PySem.W.Frag) (pn : Nat → Bool) (dg : O → Env → Option Env) : TG := fun v σ H Q =>
  ∃ F ρ f g o ρ', Sit K ct F H ρ σ f ∧ Rep K ct F H o v g ∧ Wf F H (fun a => f a + g a) ∧ dg o ρ = some ρ' ∧
    ∀ σ' f', SRep K ct F H ρ' σ' f' → (∀ a, f' a ≤ f a + g a) → Pin pn σ σ' → Q σ' H
def tGts (ct : Nat → Addr) (K : PySem.W.Frag) (pn : Nat → Bool) (dg : List O → Env → Option Env) : TGs := fun vs σ H Q =>
  ∃ F ρ f g os ρ', Sit K ct F H ρ σ f ∧ Reps K ct F H os vs g ∧ Wf F H (fun a => f a + g a) ∧ dg os ρ = some ρ' ∧
    ∀ σ' f', SRep K ct F H ρ' σ' f' → (∀ a, f' a ≤ f a + g a) → Pin pn σ σ' → Q σ' H
def SG (ct : Nat → Addr) (X : Cx) (pn : Nat → Bool) (tg : Expr) (dg : O → Env → Option Env) : Prop := PG X tg (tGt ct X.K pn dg)
def SGs (ct : Nat → Addr) (X : Cx) (pn : Nat → Bool) (ts : List Expr) (dg : List O → Env → Option Env) : Prop := PGs X ts (tGts ct X.K pn dg)
def gSet (i : Nat) : O → Env → Option Env := fun o ρ => if i < ρ.length then some (ρ.set i (some o)) else none
def gsNil : List O → Env → Option Env := fun os ρ => match os with
  | [] => some ρ
  | _ => none
def gsCons (d : O → Env → Option Env) (ds : List O → Env → Option Env) : List O → Env → Option Env := fun os ρ => match os with
  | o :: r => match d o ρ with
    | some ρ1 => ds r ρ1
    | none => none
  | [] => none
def gTupO (n : Nat) (ds : List O → Env → Option Env) : O → Env → Option Env := fun o ρ => match o with
  | .tup os => if os.length = n then ds os ρ else none
  | _ => none
theorem PG.imp {X : Cx} {e : Expr} {t t' : TG} (h : PG X e t) (i : ∀ v σ H Q, t' v σ H Q → t v σ H Q) : PG X e t' :=
  ⟨fun pins s σ H v u Q I r hq => h.run pins s σ H v u Q I r (i v σ H Q hq)⟩
theorem PGs.imp {X : Cx} {e : List Expr} {t t' : TGs} (h : PGs X e t) (i : ∀ v σ H Q, t' v σ H Q → t v σ H Q) : PGs X e t' :=
  ⟨fun pins s σ H v u Q I r hq => h.run pins s σ H v u Q I r (i v σ H Q hq)⟩
section
variable {ct : Nat → Addr} {X : Cx} {pn : Nat → Bool} {W : WX} {e : Expr} {es : List Expr} {pos : Pos} {dg : O → Env → Option Env} {dgs : List O → Env → Option Env}
theorem sg_name (i : Nat) {x : Str} (hN : X.N.Nodup) (hp : pn i = false := by rfl) (hi : X.N[i]? = some x := by rfl) (hx : Loc X.env.scope x := by first | exact Or.inl rfl | exact Or.inr rfl) (hf : X.fn x = true ∨ X.env.scope.names.lookup x = some .local := by first | exact .inl rfl | exact .inr rfl) :
    SG ct X pn (.Name x pos) (gSet i) := by
  refine PG.imp (pg_name hN hi hx hf) fun v σ H Q h => ?_
  obtain ⟨F, ρ, f, g, o, ρ', s, r, w, e, q⟩ := h
  unfold gSet at e
  split at e
  · cases e
    obtain ⟨g1, h1, ef, _, hf⟩ := SRep.hole i (by assumption) s.rep
    refine q _ _ ((hf F H (Same.refl _) fun _ _ => rfl).1 o v g r) (fun a => ?_) (Pin.set hp)
    rw [ef]
    show g a + h1 a ≤ g1 a + h1 a + g a
    omega
  · cases e
theorem sgs_nil : SGs ct X pn [] gsNil := by
  refine PGs.imp pgs_nil fun vs σ H Q h => ?_
  obtain ⟨F, ρ, f, g, os, ρ', s, r, w, e, q⟩ := h
  unfold gsNil at e
  split at e
  · cases e
    obtain ⟨e1, e2⟩ := r
    exact ⟨e1, q σ f s.rep (fun a => Nat.le_add_right _ _) Pin.refl⟩
  · cases e
theorem sgs_cons (h1 : SG ct X pn e dg) (h2 : SGs ct X pn es dgs) (hs : (assignEach (e :: es) X.env).map (·.2) = assign e X.env :: (assignEach es X.env).map (·.2) := by rfl) : SGs ct X pn (e :: es) (gsCons dg dgs) := by
  refine PGs.imp (pgs_cons h1 h2 hs) fun vs σ H Q h => ?_
  obtain ⟨F, ρ, f, g, os, ρ', s, r, w, e, q⟩ := h
  unfold gsCons at e
  split at e
  · rename_i o os'
    split at e
    · rename_i ρ1 e1
      obtain ⟨v, vr, g1, g2, ev, r1, r2, eg⟩ := r
      subst ev
      subst eg
      refine ⟨v, vr, rfl, F, ρ, f, g1, o, ρ1, s, r1, w.sub fun a => ?_, e1, fun σ1 f1 rs l p => ?_⟩
      · show f a + g1 a ≤ f a + (g1 a + g2 a); omega
      · refine ⟨F, ρ1, f1, g2, os', ρ', ⟨w.sub fun a => ?_, rs⟩, r2, w.sub fun a => ?_, e, fun σ2 f2 rs2 l2 p2 => ?_⟩
        · have := l a; show f1 a ≤ f a + (g1 a + g2 a); omega
        · have := l a; show f1 a + g2 a ≤ f a + (g1 a + g2 a); omega
        · refine q σ2 f2 rs2 (fun a => ?_) (p.trans p2)
          have := l a
          have := l2 a
          show f2 a ≤ f a + (g1 a + g2 a)
          omega
    · cases e
  · cases e
theorem sg_tup {k n : Nat} (hc : X.calm = true) (h : SGs ct X pn es dgs) (hn : (assignEach es X.env).length = n := by rfl) (hst : (assignEach es X.env).findIdx? (·.1) = none := by rfl) : SG ct X pn (.Tuple es k pos) (gTupO n dgs) := by
  refine PG.imp (pg_tup hc h hn hst) fun v σ H Q h => ?_
  obtain ⟨F, ρ, f, g, o, ρ', s, r, w, e, q⟩ := h
  unfold gTupO at e
  split at e
  · split at e
    · obtain ⟨a, xs, ev, sq, rs⟩ := r
      refine ⟨a, xs, ev, Same.seqT s.wf.le sq, ?_, F, ρ, f, g, _, ρ', s, rs, w, e, q⟩
      rw [← rs.length]
      assumption
    · cases e
  · cases e
end

/-! statements -/
def setS (ρ : Env) (i : Nat) (o : O) : Option Out := if i < ρ.length then some (.nx (ρ.set i (some o))) else none
def dAsg (d : Env → Option O) (dg : O → Env → Option Env) : Env → Option Out := fun ρ => match d ρ with
  | some o => match dg o ρ with
    | some ρ' => some (.nx ρ')
    | none => none
  | none => none
def dRet (d : Env → Option O) : Env → Option Out := fun ρ => match d ρ with
  | some o => some (.rt o ρ)
  | none => none
def dExpr (d : Env → Option O) : Env → Option Out := fun ρ => match d ρ with
  | some _ => some (.nx ρ)
  | none => none
def dRetMv (i : Nat) : Env → Option Out := fun ρ => match look ρ i with
  | some o => some (.rt o (ρ.set i none))
  | none => none
def dIf (t : Env → Option Bool) (a b : Env → Option Out) : Env → Option Out := fun ρ => match t ρ with
  | some true => a ρ
  | some false => b ρ
  | none => none
def dSkip : Env → Option Out := fun ρ => some (.nx ρ)
def dSeq (a b : Env → Option Out) : Env → Option Out := fun ρ => match a ρ with
  | some (.nx ρ') => b ρ'
  | r => r
def dAug (i : Nat) (fn : O → O → Option O) (d : Env → Option O) : Env → Option Out := fun ρ => match look ρ i with
  | some x => match d ρ with
    | some y => match fn x y with
      | some z => setS ρ i z
      | none => none
    | none => none
  | none => none
def dFz (i : Nat) : Env → Option Out := fun ρ => match look ρ i with
  | some o => some (.nx (ρ.set i (some (frz o))))
  | none => none
section
variable {ct : Nat → Addr} {X : Cx} {pn : Nat → Bool} {W : WX} {e tg c : Expr} {pos : Pos} {dg : O → Env → Option Env} {d : Env → Option O} {st : Stmt} {sts : List Stmt} {da db : Env → Option Out} {t : Env → Option Bool} {k : Bool}
theorem asg_go {g : TG} (hg : ∀ v σ H Q, tGt ct X.K pn dg v σ H Q → g v σ H Q) {D : Ends} {σ : L2.St} {H : Hp} (h : tSt ct X.K pn W (dAsg d dg) D σ H) : tAsg (tX ct X.K false d) g D σ H := by
  obtain ⟨F, ρ, f, out, s, e, q⟩ := h
  unfold dAsg at e
  split at e
  · rename_i o eo
    split at e
    · rename_i ρ' eg
      cases e
      refine ⟨F, ρ, f, o, s, eo, fun v F1 H1 g1 ex r gd => hg _ _ _ _ ?_⟩
      have st := ex.stp s.wf s.rep.mem gd
      refine ⟨F1, ρ, f, g1, o, ρ', s.ext ex, r, st.wf, eg, fun σ' f' rs l p => ?_⟩
      exact q σ' F1 H1 f' (st.sub l) rs p
    · cases e
  · cases e
theorem ss_asg (he : SX ct X false e d) (hg : SG ct X pn tg dg) (hs : swapsWithSole [tg] e pos.line X.env = pure false := by rfl) (hw : swappedStores [tg] e X.env = pure none := by rfl)
    (h1 : (assignEach [tg] X.env).map (·.2) = [assign tg X.env] := by rfl) : SS ct X pn W (.Assign [tg] e pos) (dAsg d dg) :=
  PS.imp (ps_asg he hg hs hw h1) fun D σ H h => asg_go (fun _ _ _ _ z => z) h
theorem ss_set (i : Nat) {x : Str} {pos' : Pos} (hN : X.N.Nodup) (he : SX ct X false e d) (hp : pn i = false := by rfl) (hi : X.N[i]? = some x := by rfl) (hx : Loc X.env.scope x := by first | exact Or.inl rfl | exact Or.inr rfl)
    (hs : swapsWith e (some (.Name x pos')) pos.line X.env = pure false := by rfl) (hf : X.fn x = true ∨ X.env.scope.names.lookup x = some .local := by first | exact .inl rfl | exact .inr rfl) : SS ct X pn W (.Assign [.Name x pos'] e pos) (dAsg d (gSet i)) := by
  refine PS.imp (ps_set hN hi hx he hs hf) fun D σ H h => asg_go (fun v σ H Q h => ?_) h
  obtain ⟨F, ρ, f, g, o, ρ', s, r, w, e, q⟩ := h
  unfold gSet at e
  split at e
  · cases e
    obtain ⟨g1, h1, ef, _, hf⟩ := SRep.hole i (by assumption) s.rep
    refine q _ _ ((hf F H (Same.refl _) fun _ _ => rfl).1 o v g r) (fun a => ?_) (Pin.set hp)
    rw [ef]
    show g a + h1 a ≤ g1 a + h1 a + g a
    omega
  · cases e
theorem ss_ret (he : SX ct X false e d) : SS ct X pn W (.Return (some e) pos) (dRet d) := by
  refine PS.imp (ps_ret he) fun D σ H h => ?_
  obtain ⟨F, ρ, f, out, s, e, q⟩ := h
  unfold dRet at e
  split at e
  · rename_i o eo
    cases e
    refine ⟨F, ρ, f, o, s, eo, fun v F1 H1 g1 ex r gd => ?_⟩
    exact q v σ F1 H1 g1 f ((ex.stp s.wf s.rep.mem gd).sub fun a => by show g1 a + f a ≤ f a + g1 a; omega) r (s.ext ex).rep Pin.refl
  · cases e
/-- return x, x moved out of its slot -/
theorem ss_retmv (i : Nat) {x : Str} {pos' : Pos} (hN : X.N[i]? = some x := by rfl) (hv : Vis X.env.scope x := by first | exact Or.inl rfl | exact Or.inr (Or.inl rfl) | exact Or.inr (Or.inr rfl)) (hd : (x == ("__debug__" : Str)) = false := by decide)
    (hcd : (x == ("__classdict__" : Str)) = false := by decide) : SS ct X pn W (.Return (some (.Name x pos')) pos) (dRetMv i) := by
  refine PS.imp (ps_ret (pe_var hN hv hd hcd)) fun D σ H h => ?_
  obtain ⟨F, ρ, f, out, s, e, q⟩ := h
  unfold dRetMv at e
  split at e
  · rename_i o eo
    cases e
    obtain ⟨l1, l2⟩ := s.rep.len eo
    obtain ⟨g, h, ef, hl, hf⟩ := SRep.hole i l1 s.rep
    obtain ⟨v, ev, r⟩ := hl o eo
    refine ⟨v, ev, ?_⟩
    have r2 := (hf F H (Same.refl _) fun _ _ => rfl).2 (some v)
    have es : σ.set i (some v) = σ := by
      apply List.ext_getElem?
      intro j
      rw [List.getElem?_set]
      split
      · rename_i hj
        subst hj
        exact ev.symm
      · rfl
    rw [es] at r2
    exact q v σ F H g h ((Stp.refl s.wf).sub fun a => by rw [ef]; exact Nat.le_refl _) r r2 Pin.refl
  · cases e
theorem ss_expr (he : SX ct X k e d) (hs : swapsWith e none pos.line X.env = pure false := by rfl) : SS ct X pn W (.Expr e pos) (dExpr d) := by
  refine PS.imp (ps_expr he hs) fun D σ H h => ?_
  obtain ⟨F, ρ, f, out, s, e, q⟩ := h
  unfold dExpr at e
  split at e
  · rename_i o eo
    cases e
    refine ⟨F, ρ, f, o, s, eo, fun v F1 H1 g1 ex r gd => ?_⟩
    exact q σ F1 H1 f (ex.stp0 s.wf s.rep.mem) (s.ext ex).rep Pin.refl
  · cases e
theorem ss_if {a b : List Stmt} (hc : ST ct X c t) (ha : SSs ct X pn W a da) (hb : SSs ct X pn W b db) : SS ct X pn W (.If c a b pos) (dIf t da db) := by
  refine PS.imp (ps_if hc ha hb) fun D σ H h => ?_
  obtain ⟨F, ρ, f, out, s, e, q⟩ := h
  unfold dIf at e
  split at e
  · refine ⟨F, ρ, f, true, s, by assumption, fun F1 H1 ex => ?_⟩
    refine iteT ?_
    exact ⟨F1, ρ, f, out, s.ext ex, e, q.go (ex.stp0 s.wf s.rep.mem) Pin.refl⟩
  · refine ⟨F, ρ, f, false, s, by assumption, fun F1 H1 ex => ?_⟩
    refine iteF ?_
    exact ⟨F1, ρ, f, out, s.ext ex, e, q.go (ex.stp0 s.wf s.rep.mem) Pin.refl⟩
  · cases e
theorem sss_nil : SSs ct X pn W [] dSkip := by
  refine PSs.imp pss_nil fun D σ H h => ?_
  obtain ⟨F, ρ, f, out, s, e, q⟩ := h
  cases e
  exact q σ F H f (Stp.refl s.wf) s.rep Pin.refl
theorem ss_pass : SS ct X pn W (.Pass pos) dSkip := by
  refine PS.imp ps_pass fun D σ H h => ?_
  obtain ⟨F, ρ, f, out, s, e, q⟩ := h
  cases e
  exact q σ F H f (Stp.refl s.wf) s.rep Pin.refl
theorem ss_never : SS ct X pn W st (fun _ => none) := PS.imp ps_never fun D σ H h => by
  obtain ⟨F, ρ, f, out, s, e, q⟩ := h
  cases e
theorem sss_never : SSs ct X pn W sts (fun _ => none) := PSs.imp pss_never fun D σ H h => by
  obtain ⟨F, ρ, f, out, s, e, q⟩ := h
  cases e
theorem ss_break : SS ct X pn W (.Break pos) (fun ρ => some (.bk ρ)) := by
  refine PS.imp ps_break fun D σ H h => ?_
  obtain ⟨F, ρ, f, out, s, e, q⟩ := h
  cases e
  exact q σ F H f (Stp.refl s.wf) s.rep Pin.refl
theorem ss_continue : SS ct X pn W (.Continue pos) (fun ρ => some (.ct ρ)) := by
  refine PS.imp ps_continue fun D σ H h => ?_
  obtain ⟨F, ρ, f, out, s, e, q⟩ := h
  cases e
  exact q σ F H f (Stp.refl s.wf) s.rep Pin.refl
theorem seq_go {D : Ends} {σ : L2.St} {H : Hp} (h : tSt ct X.K pn W (dSeq da db) D σ H) : tSeq (tSt ct X.K pn W da) (tSt ct X.K pn W db) D σ H := by
  obtain ⟨F, ρ, f, out, s, e, q⟩ := h
  unfold dSeq at e
  split at e
  · rename_i ρ1 e1
    refine ⟨F, ρ, f, _, s, e1, fun σ1 F1 H1 f1 st rs p => ?_⟩
    exact ⟨F1, ρ1, f1, out, ⟨st.wf, rs⟩, e, q.go st p⟩
  · rename_i hn
    refine ⟨F, ρ, f, out, s, e, ?_⟩
    cases out with
    | nx ρ' => exact absurd e (hn ρ')
    | bk ρ' => exact q
    | ct ρ' => exact q
    | rt o ρ' => exact q
    | er c ρ' => exact q
theorem sss_cons (h1 : SS ct X pn W st da) (h2 : SSs ct X pn W sts db) : SSs ct X pn W (st :: sts) (dSeq da db) :=
  PSs.imp (pss_cons h1 h2) fun D σ H h => seq_go h
theorem sss_one (h1 : SS ct X pn W st da) : SSs ct X pn W [st] da := pss_one h1
theorem ss_aug (i : Nat) {x : Str} {op : Operator} {r : R2} {fn : O → O → Option O} {pos' : Pos} (hN : X.N.Nodup) (ho : OpR X (inplaceOp op) r) (hr : Fn2 X ct r fn) (he : SX ct X k e d) (hp : pn i = false := by rfl) (hi : X.N[i]? = some x := by rfl)
    (hx : Loc X.env.scope x := by first | exact Or.inl rfl | exact Or.inr rfl) (hf : X.fn x = true ∨ X.env.scope.names.lookup x = some .local := by first | exact .inl rfl | exact .inr rfl) : SS ct X pn W (.AugAssign (.Name x pos') op e pos) (dAug i fn d) := by
  refine PS.imp (ps_aug hN hi hx he ho hf) fun D σ H h => ?_
  obtain ⟨F, ρ, f, out, s, e, q⟩ := h
  unfold dAug at e
  split at e
  · rename_i x ex
    split at e
    · rename_i y ey
      split at e
      · rename_i z ez
        unfold setS at e
        split at e
        · rename_i hlt
          cases e
          obtain ⟨u, g, e1, r1, l1⟩ := s.rep.get ex
          refine ⟨u, e1, F, ρ, f, y, s, ey, fun v F1 H1 g1 ext ry gd => ?_⟩
          refine hr F1 H1 x y z u v g g1 _ ext.le (r1.ext ext) ry ez fun w F2 H2 g2 ext2 rz gd2 => ?_
          have ext3 := ext.trans ext2
          have s3 := s.ext ext3
          have gd3 : Gd false zf H F2 g2 := by
            obtain ⟨n1, n2, n3⟩ := gd2.n
            exact Gd.mkn n1 (fun a q => ext.hH.free (n2 a q)) n3
          obtain ⟨g', h', ef, _, hf⟩ := SRep.hole i hlt s3.rep
          refine q _ F2 H2 _ ((ext3.stp s.wf s.rep.mem gd3).sub fun a => ?_) ((hf F2 H2 (Same.refl _) fun _ _ => rfl).1 z w g2 rz) (Pin.set hp)
          rw [ef]
          show g2 a + h' a ≤ g' a + h' a + g2 a
          omega
        · cases e
      · cases e
    · cases e
  · cases e
/-- ahead of a block: a slot's data are never written again -/
theorem sss_fz (i : Nat) (h : SSs ct X pn W sts da) : SSs ct X pn W sts (dSeq (dFz i) da) := by
  refine PSs.imp h fun D σ H h => ?_
  obtain ⟨F, ρ, f, out, s, e, q⟩ := h
  unfold dSeq dFz at e
  cases eo : look ρ i with
  | none => rw [eo] at e; cases e
  | some o =>
    rw [eo] at e
    obtain ⟨l1, l2⟩ := s.rep.len eo
    obtain ⟨g, h, ef, hl, hf⟩ := SRep.hole i l1 s.rep
    obtain ⟨v, ev, r⟩ := hl o eo
    have es : σ.set i (some v) = σ := by
      apply List.ext_getElem?
      intro j
      rw [List.getElem?_set]
      split
      · rename_i hj
        subst hj
        exact ev.symm
      · rfl
    let F1 : Hp := fun a => if g a ≠ 0 then H a else F a
    have hF1 : Same F F1 := fun a u hu => by
      show (if g a ≠ 0 then H a else F a) = some u
      by_cases z : g a ≠ 0
      · rw [if_pos z]; exact s.wf.le a u hu
      · rw [if_neg z]; exact hu
    have st : Stp F H f F1 H h := by
      refine ⟨hF1, ⟨fun a u hu => ?_, fun a => ?_, fun a z => ?_⟩, fun _ _ h _ => h, fun a z => ?_⟩
      · have hu' : (if g a ≠ 0 then H a else F a) = some u := hu
        by_cases z : g a ≠ 0
        · rw [if_pos z] at hu'; exact hu'
        · rw [if_neg z] at hu'; exact s.wf.le a u hu'
      · have := s.wf.one a
        rw [ef] at this
        have t : g a + h a ≤ 1 := this
        omega
      · have := s.wf.one a
        rw [ef] at this
        have t : g a + h a ≤ 1 := this
        show (if g a ≠ 0 then H a else F a) = none
        rw [if_neg (by omega)]
        refine s.wf.dj a ?_
        rw [ef]
        show g a + h a ≠ 0
        omega
      · rcases z with z | z
        · refine .inr (.inr ?_)
          rw [ef]; show g a + h a ≠ 0; omega
        · by_cases y : g a ≠ 0
          · refine .inr (.inr ?_)
            rw [ef]; show g a + h a ≠ 0; omega
          · have z' : (if g a ≠ 0 then H a else F a) ≠ none := z
            rw [if_neg y] at z'
            exact .inl z'
    have r2 := (hf F1 H hF1 fun _ _ => rfl).1 (frz o) v zf (r.frz hF1 fun a z => if_pos z)
    rw [es] at r2
    have ez : (fun a => zf a + h a) = h := by funext a; simp [zf]
    rw [ez] at r2
    exact ⟨F1, _, h, out, ⟨st.wf, r2⟩, e, q.go st Pin.refl⟩
end
end Mini
namespace Mini
open PySem PySem.Spec PyProof.Rows L2

/-! what a loop walks: frozen items -/
def Walks (K : PySem.W.Frag) (ct : Nat → Addr) (J : It) (os : List O) (F : Hp) : Prop := ∀ F2 H2, Same F F2 → Same F2 H2 → ∀ i,
  (os.length ≤ i → J.stop i H2) ∧ ∀ o, os[i]? = some o → J.go i H2 ∧ ∀ x H3, J.yld i H2 x H3 → ∃ F3, Ext F2 H2 F3 H3 ∧ Rep K ct F3 H3 o x zf
def tI (ct : Nat → Addr) (K : PySem.W.Frag) (d : Env → Option (List O)) : TI := fun σ H R =>
  ∃ F ρ f os, Sit K ct F H ρ σ f ∧ d ρ = some os ∧ ∀ J F' H', Ext F H F' H' → Walks K ct J os F' → R J H'
def SI (ct : Nat → Addr) (X : Cx) (tg iter : Expr) (d : Env → Option (List O)) : Prop := PI X tg iter (tI ct X.K d)
theorem PI.imp {X : Cx} {tg e : Expr} {t t' : TI} (h : PI X tg e t) (i : ∀ σ H Q, t' σ H Q → t σ H Q) : PI X tg e t' :=
  ⟨fun pins s σ H R I hq => h.run pins s σ H R I (i σ H R hq)⟩
section
variable {ct : Nat → Addr} {X : Cx} {tg e a b : Expr} {d da db : Env → Option O} {k k1 k2 : Bool}
/-- a list or a tuple -/
theorem pi_seq {te : TE} (he : PE X e te) : PI X tg e (fun σ H R => te σ H fun x H1 => ∃ a, x = .ref a ∧ (((∃ xs, SqL X.K H1 a xs) ∧ R (Itl X.K a) H1) ∨ ((∃ xs, SqT X.K H1 a xs) ∧ R (Itt X.K a) H1))) := by
  refine ⟨fun pins s σ H R I h => ?_⟩
  refine thn (he.run pins s σ H _ I h) fun v s1 ⟨x, H1, I1, r1, q1⟩ => ?_
  obtain ⟨a, e, q⟩ := q1
  subst e
  cases r1
  rcases q with ⟨⟨xs, hq⟩, q⟩ | ⟨⟨xs, hq⟩, q⟩
  · obtain ⟨its, rv, p, hz⟩ := I1.list hq
    refine wpAny_pyIter_list p.isList ?_
    refine ⟨s1.heap.objs.size, [s1.heap.objs.size], _, _, H1, rfl, I1.kept (t' := s1.toks) fun b o e => Heap.get?_push_of_some _ e, turn_list a _, ⟨_, Heap.get?_push_size _ rfl, rfl, rfl⟩, fun b hb => ?_, q⟩
    have e : b = s1.heap.objs.size := by simpa using hb
    subst e
    exact I1.fpOk (Nat.le_refl _) (I1.hok.fresh (Nat.le_refl _))
  · obtain ⟨its, rv, p, hz⟩ := I1.tuple hq
    refine wpAny_pyIter_tuple (show s1.heap.IsTuple a its.toArray from p) ?_
    refine ⟨s1.heap.objs.size, [s1.heap.objs.size], _, _, H1, rfl, I1.kept (t' := s1.toks) fun b o e => Heap.get?_push_of_some _ e, turn_tuple a _, ⟨_, Heap.get?_push_size _ rfl, rfl, rfl⟩, fun b hb => ?_, q⟩
    have e : b = s1.heap.objs.size := by simpa using hb
    subst e
    exact I1.fpOk (Nat.le_refl _) (I1.hok.fresh (Nat.le_refl _))
/-- the items of a list or a tuple; of a variable's: they must be frozen -/
def itO (k : Bool) : O → Option (List O)
  | .lst w os => if k = true then (if w = false then some os else none) else some (frzs os)
  | .tup os => if k = true then (if isFzs os = true then some os else none) else some (frzs os)
  | _ => none
def dIt (k : Bool) (d : Env → Option O) : Env → Option (List O) := fun ρ => match d ρ with
  | some o => itO k o
  | none => none
theorem walks_l {K : PySem.W.Frag} {os : List O} {F : Hp} {p : Addr} {xs : List V} (sq : SqL K F p xs) (r : ∀ F2 H2, Same F F2 → Reps K ct F2 H2 os xs zf) : Walks K ct (Itl K p) os F := fun F2 H2 h1 h2 i => by
  have sq2 : SqL K H2 p xs := Same.seq h2 (Same.seq h1 sq)
  have r2 := r F2 H2 h1
  refine ⟨fun hi => ⟨xs, sq2, by rw [← r2.length]; exact hi⟩, fun o ho => ?_⟩
  obtain ⟨v, g, e1, rv, l⟩ := r2.at ho
  refine ⟨⟨xs, v, sq2, e1⟩, fun x H3 hy => ?_⟩
  obtain ⟨eH, hy⟩ := hy
  subst eH
  have ex := hy xs sq2
  rw [e1] at ex
  cases ex
  have gz : g = zf := by funext a; exact Nat.le_zero.mp (l a)
  subst gz
  exact ⟨F2, Ext.refl h2, rv⟩
theorem walks_t {K : PySem.W.Frag} {os : List O} {F : Hp} {p : Addr} {xs : List V} (sq : SqT K F p xs) (r : ∀ F2 H2, Same F F2 → Reps K ct F2 H2 os xs zf) : Walks K ct (Itt K p) os F := fun F2 H2 h1 h2 i => by
  have sq2 : SqT K H2 p xs := Same.seqT h2 (Same.seqT h1 sq)
  have r2 := r F2 H2 h1
  refine ⟨fun hi => ⟨xs, sq2, by rw [← r2.length]; exact hi⟩, fun o ho => ?_⟩
  obtain ⟨v, g, e1, rv, l⟩ := r2.at ho
  refine ⟨⟨xs, v, sq2, e1⟩, fun x H3 hy => ?_⟩
  obtain ⟨eH, hy⟩ := hy
  subst eH
  have ex := hy xs sq2
  rw [e1] at ex
  cases ex
  have gz : g = zf := by funext a; exact Nat.le_zero.mp (l a)
  subst gz
  exact ⟨F2, Ext.refl h2, rv⟩
/-- new values are frozen -/
theorem freeze {K : PySem.W.Frag} {F H F1 H1 : Hp} {g : Fp} (e : Ext F H F1 H1) (gd : Gd false zf H F1 g) (m : ∀ a, g a ≠ 0 → ∃ u, H1 a = some u ∧ Own u) :
    Same F1 (fun a => if g a ≠ 0 then H1 a else F1 a) ∧ Ext F H (fun a => if g a ≠ 0 then H1 a else F1 a) H1 := by
  obtain ⟨n1, n2, n3⟩ := gd.n
  have h1 : Same F1 (fun a => if g a ≠ 0 then H1 a else F1 a) := fun a u hu => by
    show (if g a ≠ 0 then H1 a else F1 a) = some u
    by_cases z : g a ≠ 0
    · rw [if_pos z]; exact e.le a u hu
    · rw [if_neg z]; exact hu
  refine ⟨h1, e.hF.trans h1, e.hH, fun a u hu => ?_, fun a z => ?_⟩
  · have hu' : (if g a ≠ 0 then H1 a else F1 a) = some u := hu
    by_cases z : g a ≠ 0
    · rw [if_pos z] at hu'; exact hu'
    · rw [if_neg z] at hu'; exact e.le a u hu'
  · by_cases y : g a ≠ 0
    · exact .inr (n2 a y)
    · have z' : (if g a ≠ 0 then H1 a else F1 a) ≠ none := z
      rw [if_neg y] at z'
      exact e.new a z'
theorem si_seq (he : SX ct X k e d) : SI ct X tg e (dIt k d) := by
  refine PI.imp (pi_seq he) fun σ H R h => ?_
  obtain ⟨F, ρ, f, os, s, e, q⟩ := h
  unfold dIt at e
  split at e
  · rename_i o eo
    refine ⟨F, ρ, f, o, s, eo, fun v F1 H1 g ex r gd => ?_⟩
    cases k with
    | false =>
      have gd' : Gd false zf H F1 g := by
        obtain ⟨n1, n2, n3⟩ := gd.n
        exact Gd.mkn n1 n2 n3
      obtain ⟨h1, h2⟩ := freeze (K := X.K) ex gd' r.mem
      cases o with
      | lst w os' =>
        have eo' : some (frzs os') = some os := e
        cases eo'
        have rf := r.frz (H' := H1) h1 fun a z => if_pos z
        obtain ⟨p, xs, ev, sq, rs, _⟩ := rf
        refine ⟨p, ev, .inl ⟨⟨xs, Same.seq h2.le sq⟩, q _ _ _ h2 (walks_l sq fun F2 H2 hh => Reps.mono hh (fun a z => absurd rfl z) rs)⟩⟩
      | tup os' =>
        have eo' : some (frzs os') = some os := e
        cases eo'
        have rf := r.frz (H' := H1) h1 fun a z => if_pos z
        obtain ⟨p, xs, ev, sq, rs⟩ := rf
        exact ⟨p, ev, .inr ⟨⟨xs, Same.seqT h2.le sq⟩, q _ _ _ h2 (walks_t sq fun F2 H2 hh => Reps.mono hh (fun a z => absurd rfl z) rs)⟩⟩
      | _ => cases e
    | true =>
      cases o with
      | lst w os' =>
        have eo' : (if w = false then some os' else none) = some os := e
        cases w with
        | true => cases eo'
        | false =>
          cases eo'
          obtain ⟨p, xs, ev, sq, rs, _⟩ := r
          refine ⟨p, ev, .inl ⟨⟨xs, Same.seq ex.le sq⟩, q _ _ _ ex (walks_l sq fun F2 H2 hh => Reps.mono hh (fun a z => absurd rfl z) rs)⟩⟩
      | tup os' =>
        have eo' : (if isFzs os' = true then some os' else none) = some os := e
        split at eo'
        · rename_i z
          cases eo'
          obtain ⟨p, xs, ev, sq, rs⟩ := r
          have gz := rs.fz0 z
          subst gz
          exact ⟨p, ev, .inr ⟨⟨xs, Same.seqT ex.le sq⟩, q _ _ _ ex (walks_t sq fun F2 H2 hh => Reps.mono hh (fun a z => absurd rfl z) rs)⟩⟩
        · cases eo'
      | _ => cases e
  · cases e

/-! range -/
def rngs (lo : Int) (n : Nat) : List O := (List.range n).map fun (i : Nat) => O.int (lo + i)
def rOk0 (j : Int) : Bool := decide (-(2 ^ 62) ≤ j) && decide (j < 2 ^ 62)
noncomputable def rOk := hid rOk0
theorem rOk_def : rOk = rOk0 := hid_eq _
noncomputable def dRng1 (d : Env → Option O) : Env → Option (List O) := fun ρ => match d ρ with
  | some (.int j) => if rOk j = true then some (rngs 0 j.toNat) else none
  | _ => none
noncomputable def dRng2 (da db : Env → Option O) : Env → Option (List O) := fun ρ => match da ρ with
  | some (.int i) => match db ρ with
    | some (.int j) => if (rOk i && rOk j) = true then some (rngs i (j - i).toNat) else none
    | _ => none
  | _ => none
theorem walks_r {K : PySem.W.Frag} {F : Hp} {lo : Int} {n : Nat} : Walks K ct (Itr lo n) (rngs lo n) F := fun F2 H2 h1 h2 i => by
  have hl : (rngs lo n).length = n := by simp [rngs]
  refine ⟨fun hi => by rw [hl] at hi; exact hi, fun o ho => ?_⟩
  have hi : i < n := by rw [← hl]; exact (List.getElem?_eq_some_iff.mp ho).1
  have eo : o = .int (lo + i) := by
    simp [rngs, hi] at ho
    exact ho.symm
  subst eo
  refine ⟨hi, fun x H3 hy => ?_⟩
  obtain ⟨eH, ex⟩ := hy
  subst eH
  exact ⟨F2, Ext.refl h2, ex, rfl⟩
theorem rOk_b {j : Int} (h : rOk j = true) : -(2 ^ 62) ≤ j ∧ j < 2 ^ 62 := by
  rw [rOk_def] at h
  unfold rOk0 at h
  rw [Bool.and_eq_true] at h
  exact ⟨of_decide_eq_true h.1, of_decide_eq_true h.2⟩
theorem si_rng1 {p pos : Pos} (hm : X.mg "range" = none) (ha : SX ct X k1 a da) (hg : Gl X "range" := by rfl) (hs : starEach [a] X.env = [(false, eval a X.env)] := by rfl) : SI ct X tg (.Call (.Name "range" p) [a] [] pos) (dRng1 da) := by
  refine PI.imp (pi_range1 hg hm (pa_cons ha pa_nil hs) hs) fun σ H R h => ?_
  obtain ⟨F, ρ, f, os, s, e, q⟩ := h
  unfold dRng1 at e
  split at e
  · split at e
    · rename_i j ej hj
      cases e
      refine ⟨F, ρ, f, _, s, ej, fun v F1 H1 g ex r gd => ?_⟩
      obtain ⟨rfl, _⟩ := r
      obtain ⟨b1, b2⟩ := rOk_b hj
      exact ⟨j, rfl, b1, b2, q _ F1 H1 ex walks_r⟩
    · cases e
  · cases e
theorem si_rng2 {p pos : Pos} (hm : X.mg "range" = none) (ha : SX ct X k1 a da) (hb : SX ct X k2 b db) (hg : Gl X "range" := by rfl) (hs : starEach [a, b] X.env = [(false, eval a X.env), (false, eval b X.env)] := by rfl) (hs2 : starEach [b] X.env = [(false, eval b X.env)] := by rfl) :
    SI ct X tg (.Call (.Name "range" p) [a, b] [] pos) (dRng2 da db) := by
  refine PI.imp (pi_range2 hg hm (pa_cons ha (pa_cons hb pa_nil hs2) (by rw [hs, hs2])) hs hs2) fun σ H R h => ?_
  obtain ⟨F, ρ, f, os, s, e, q⟩ := h
  unfold dRng2 at e
  split at e
  · split at e
    · split at e
      · rename_i i ei _ j ej hj
        cases e
        refine ⟨F, ρ, f, _, s, ei, fun v F1 H1 g ex r gd => ?_⟩
        refine ⟨F1, ρ, f, _, s.ext ex, ej, fun v2 F2 H2 g2 ex2 r2 gd2 => ?_⟩
        obtain ⟨rfl, _⟩ := r
        obtain ⟨rfl, _⟩ := r2
        rw [Bool.and_eq_true] at hj
        obtain ⟨b1, b2⟩ := rOk_b hj.1
        obtain ⟨b3, b4⟩ := rOk_b hj.2
        exact ⟨i, j, rfl, ⟨b1, b2, b3, b4⟩, q _ F2 H2 (ex.trans ex2) walks_r⟩
      · cases e
    · cases e
  · cases e
end

/-! for -/
def lFor (dg : O → Env → Option Env) (body : Env → Option Out) : List O → Env → Option Out
  | [], ρ => some (.nx ρ)
  | o :: os, ρ => match dg o ρ with
    | some ρ1 => match body ρ1 with
      | some (.nx ρ2) => lFor dg body os ρ2
      | some (.ct ρ2) => lFor dg body os ρ2
      | some (.bk ρ2) => some (.nx ρ2)
      | some (.rt o ρ2) => some (.rt o ρ2)
      | some (.er c ρ2) => some (.er c ρ2)
      | none => none
    | none => none
def dFor (di : Env → Option (List O)) (dg : O → Env → Option Env) (body : Env → Option Out) : Env → Option Out := fun ρ => match di ρ with
  | some os => lFor dg body os ρ
  | none => none
section
variable {ct : Nat → Addr} {X : Cx} {pn : Nat → Bool} {W : WX} {tg iter : Expr} {di : Env → Option (List O)} {dg : O → Env → Option Env} {body : List Stmt} {db : Env → Option Out} {pos : Pos}
theorem ss_for (hp : PassesOwn (model X.prog X.w) X.A X.env X.xe) (hc : X.calm = true) (hi : SI ct X tg iter di) (hg : SG ct X pn tg dg) (hb : SSs ct X pn W body db)
    (hs : ∀ x, foldedSetIterable iter X.env x = pure x := by intro _; rfl) : SS ct X pn W (.For tg iter body [] pos) (dFor di dg db) := by
  refine PS.imp (ps_for hp hc hi hg hb hs) fun D σ H h => ?_
  obtain ⟨F, ρ, f, out, s, e, q⟩ := h
  unfold dFor at e
  split at e
  · rename_i os eo
    refine ⟨F, ρ, f, os, s, eo, fun J F1 H1 ex wk => ?_⟩
    have q1 := q.go (ex.stp0 s.wf s.rep.mem) (Pin.refl (σ := σ))
    refine ⟨fun i m σ' H' => m = os.length - i ∧ i ≤ os.length ∧ ∃ F' ρ' f', Sit X.K ct F' H' ρ' σ' f' ∧ Same F1 F' ∧ lFor dg db (os.drop i) ρ' = some out ∧ Kst X.K ct pn W F' H' f' σ' out D,
      ⟨os.length, rfl, Nat.zero_le _, F1, ρ, f, s.ext ex, Same.refl _, e, q1⟩, ?_⟩
    rintro i m σ' H' ⟨rfl, hi', F', ρ', f', s', hF', e', q'⟩
    obtain ⟨hst, hgo⟩ := wk F' H' hF' s'.wf.le i
    by_cases hlt : i < os.length
    · have ho : os[i]? = some os[i] := List.getElem?_eq_getElem hlt
      obtain ⟨go, hy⟩ := hgo _ ho
      have ed : os.drop i = os[i] :: os.drop (i + 1) := List.drop_eq_getElem_cons hlt
      rw [ed] at e'
      refine .inr ⟨go, fun σ'' H'' => ∃ F'' ρ'' f'', Sit X.K ct F'' H'' ρ'' σ'' f'' ∧ Same F1 F'' ∧ lFor dg db (os.drop (i + 1)) ρ'' = some out ∧ Kst X.K ct pn W F'' H'' f'' σ'' out D,
        fun σ'' H'' n => ⟨os.length - (i + 1), by omega, rfl, hlt, n⟩, fun x H3 y => ?_⟩
      obtain ⟨F3, ex3, r3⟩ := hy x H3 y
      have s3 := s'.ext ex3
      have q3 := q'.go (ex3.stp0 s'.wf s'.rep.mem) (Pin.refl (σ := σ'))
      unfold lFor at e'
      cases e1 : dg os[i] ρ' with
      | none => rw [e1] at e'; cases e'
      | some ρ1 =>
        rw [e1] at e'
        dsimp only at e'
        refine ⟨F3, ρ', f', zf, os[i], ρ1, s3, r3, s3.wf.sub fun a => (by show f' a + zf a ≤ f' a; simp [zf]), e1, fun σ2 f2 rs2 l2 p2 => ?_⟩
        have st2 : Stp F3 H3 f' F3 H3 f2 := (Stp.refl s3.wf).sub fun a => by have := l2 a; simpa [zf] using this
        have q2 := q3.go st2 p2
        have s2 : Sit X.K ct F3 H3 ρ1 σ2 f2 := ⟨st2.wf, rs2⟩
        have hF3 : Same F1 F3 := hF'.trans ex3.hF
        cases e2 : db ρ1 with
        | none => rw [e2] at e'; cases e'
        | some out1 =>
          rw [e2] at e'
          refine ⟨F3, ρ1, f2, out1, s2, e2, ?_⟩
          cases out1 with
          | nx ρ2 => exact fun σ4 F4 H4 f4 st rs p => ⟨F4, ρ2, f4, ⟨st.wf, rs⟩, hF3.trans st.hF, e', q2.go st p⟩
          | ct ρ2 => exact fun σ4 F4 H4 f4 st rs p => ⟨F4, ρ2, f4, ⟨st.wf, rs⟩, hF3.trans st.hF, e', q2.go st p⟩
          | bk ρ2 => cases e'; exact q2
          | rt o ρ2 => cases e'; exact q2
          | er c ρ2 => cases e'; exact q2
    · have ei : i = os.length := by omega
      subst ei
      rw [List.drop_length] at e'
      cases e'
      exact .inl ⟨hst (Nat.le_refl _), q' σ' F' H' f' (Stp.refl s'.wf) s'.rep Pin.refl⟩
  · cases e
end

/-! while, by a number of turns -/
def lWhile (t : Env → Option Bool) (body : Env → Option Out) : Nat → Env → Option Out
  | 0, _ => none
  | n + 1, ρ => match t ρ with
    | some true => match body ρ with
      | some (.nx ρ2) => lWhile t body n ρ2
      | some (.ct ρ2) => lWhile t body n ρ2
      | some (.bk ρ2) => some (.nx ρ2)
      | some (.rt o ρ2) => some (.rt o ρ2)
      | some (.er c ρ2) => some (.er c ρ2)
      | none => none
    | some false => some (.nx ρ)
    | none => none
open Classical in
noncomputable def dWhile (t : Env → Option Bool) (body : Env → Option Out) : Env → Option Out := fun ρ =>
  if h : ∃ n, (lWhile t body n ρ).isSome = true then lWhile t body h.choose ρ else none
theorem lWhile_mono {t : Env → Option Bool} {body : Env → Option Out} : ∀ {n : Nat} {ρ : Env} {out : Out}, lWhile t body n ρ = some out → lWhile t body (n + 1) ρ = some out
  | 0, _, _, h => by cases h
  | n + 1, ρ, out, h => by
    rw [lWhile] at h ⊢
    split at h
    · split at h
      · exact lWhile_mono h
      · exact lWhile_mono h
      · exact h
      · exact h
      · exact h
      · cases h
    · exact h
    · cases h
theorem lWhile_le {t : Env → Option Bool} {body : Env → Option Out} {n m : Nat} {ρ : Env} {out : Out} (h : lWhile t body n ρ = some out) (l : n ≤ m) : lWhile t body m ρ = some out := by
  induction l with
  | refl => exact h
  | step _ ih => exact lWhile_mono ih
theorem dWhile_of {t : Env → Option Bool} {body : Env → Option Out} {n : Nat} {ρ : Env} {out : Out} (h : lWhile t body n ρ = some out) : dWhile t body ρ = some out := by
  have hx : ∃ n, (lWhile t body n ρ).isSome = true := ⟨n, by rw [h]; rfl⟩
  unfold dWhile
  rw [dif_pos hx]
  cases e : lWhile t body hx.choose ρ with
  | none => have := hx.choose_spec; rw [e] at this; cases this
  | some o2 =>
    have h1 := lWhile_le h (Nat.le_max_left n hx.choose)
    have h2 := lWhile_le e (Nat.le_max_right n hx.choose)
    rw [h1] at h2
    exact h2.symm
theorem dWhile_to {t : Env → Option Bool} {body : Env → Option Out} {ρ : Env} {out : Out} (h : dWhile t body ρ = some out) : ∃ n, lWhile t body n ρ = some out := by
  unfold dWhile at h
  split at h
  · exact ⟨_, h⟩
  · cases h
section
variable {ct : Nat → Addr} {X : Cx} {pn : Nat → Bool} {W : WX} {c : Expr} {t : Env → Option Bool} {body : List Stmt} {db : Env → Option Out} {pos : Pos}
theorem ss_while (hp : PassesOwn (model X.prog X.w) X.A X.env X.xe) (hc : ST ct X c t) (hb : SSs ct X pn W body db) : SS ct X pn W (.While c body [] pos) (dWhile t db) := by
  refine PS.imp (ps_while hp hc hb) fun D σ H h => ?_
  obtain ⟨F, ρ, f, out, s, e, q⟩ := h
  obtain ⟨n, e⟩ := dWhile_to e
  refine ⟨fun m σ' H' => ∃ F' ρ' f', Sit X.K ct F' H' ρ' σ' f' ∧ lWhile t db m ρ' = some out ∧ Kst X.K ct pn W F' H' f' σ' out D, ⟨n, F, ρ, f, s, e, q⟩, ?_⟩
  rintro m σ' H' ⟨F', ρ', f', s', e', q'⟩
  cases m with
  | zero => cases e'
  | succ m =>
    rw [lWhile] at e'
    cases et : t ρ' with
    | none => rw [et] at e'; cases e'
    | some b =>
      rw [et] at e'
      refine ⟨F', ρ', f', b, s', et, fun F1 H1 ex => ?_⟩
      have q1 := q'.go (ex.stp0 s'.wf s'.rep.mem) (Pin.refl (σ := σ'))
      cases b with
      | false =>
        refine iteF ?_
        cases e'
        exact q1 σ' F1 H1 f' (Stp.refl (s'.ext ex).wf) (s'.ext ex).rep Pin.refl
      | true =>
        refine iteT ?_
        refine ⟨fun σ'' H'' => ∃ F'' ρ'' f'', Sit X.K ct F'' H'' ρ'' σ'' f'' ∧ lWhile t db m ρ'' = some out ∧ Kst X.K ct pn W F'' H'' f'' σ'' out D, fun σ'' H'' n => ⟨m, by omega, n⟩, ?_⟩
        cases e2 : db ρ' with
        | none => rw [e2] at e'; cases e'
        | some out1 =>
          rw [e2] at e'
          refine ⟨F1, ρ', f', out1, s'.ext ex, e2, ?_⟩
          cases out1 with
          | nx ρ2 => exact fun σ4 F4 H4 f4 st rs p => ⟨F4, ρ2, f4, ⟨st.wf, rs⟩, e', q1.go st p⟩
          | ct ρ2 => exact fun σ4 F4 H4 f4 st rs p => ⟨F4, ρ2, f4, ⟨st.wf, rs⟩, e', q1.go st p⟩
          | bk ρ2 => cases e'; exact q1
          | rt o ρ2 => cases e'; exact q1
          | er c ρ2 => cases e'; exact q1
end
end Mini
namespace Mini
open PySem PySem.Spec PyProof.Rows L2

/-! what a def is worth: its value, and its parameters' last states (of those that it never stores to) -/
abbrev Fn := List O → Option (O × Env)
def spF (ct : Nat → Addr) (K : PySem.W.Frag) (n : Nat) (Ff : Fn) : Sp := fun vs H Q _ => vs.length = n ∧ ∃ F os f r fin, Wf F H f ∧ Reps K ct F H os vs f ∧ Ff os = some (r, fin) ∧
  ∀ v F' H' g gf, Stp F H f F' H' (fun a => g a + gf a) → Rep K ct F' H' r v g → SRep K ct F' H' fin (vs.map some) gf → Q v H'
structure FD (P : Program) (w : World) (K : PySem.W.Frag) (mg : Str → Option Value) (base : Heap) (ct : Nat → Addr) (k : Nat) (x : Str) (n : Nat) (Ff : Fn) : Prop where
  ex : ∃ f fd ps, ps.length = n ∧ FnOk P w K mg base CX0 k f fd ps (spF ct K n Ff) ∧ mg x = some (.ref f) ∧ PySem.W.keepIn K (.ref f) = true ∧ Binds K fd ps []
theorem FD.mono {P : Program} {w : World} {K : PySem.W.Frag} {mg : Str → Option Value} {base : Heap} {ct : Nat → Addr} {k k' : Nat} {x : Str} {n : Nat} {Ff : Fn} (D : FD P w K mg base ct k x n Ff) (h : k ≤ k') : FD P w K mg base ct k' x n Ff := by
  obtain ⟨f, fd, ps, h1, h2, h3⟩ := D.ex
  exact ⟨f, fd, ps, h1, h2.mono h, h3⟩
def views : List Bool → List O → List O
  | k :: ks, o :: os => (if k = true then frz o else o) :: views ks os
  | _, _ => []
def okb : List Bool → List O → Bool
  | k :: ks, o :: os => (!k || isFz o) && okb ks os
  | _, _ => true
def dCall (ks : List Bool) (Ff : Fn) (ds : Env → Option (List O)) : Env → Option O := fun ρ => match ds ρ with
  | some os => match Ff (views ks os) with
    | some (r, _) => if (okb ks os || noFm r) = true then some r else none
    | none => none
  | none => none
section
variable {ct : Nat → Addr} {X : Cx} {ks : List Bool} {e : Expr} {es : List Expr} {ds : Env → Option (List O)} {Ff : Fn} {k : Nat} {x : Str} {p pos : Pos} {n : Nat}
theorem ARep.len {K : PySem.W.Frag} {F H : Hp} : ∀ {ks : List Bool} {os : List O} {vs : List V} {gb gv : Fp}, ARep K ct F H ks os vs gb gv → vs.length = ks.length
  | [], [], _, _, _, h => by rw [show _ = ([] : List V) from h.1]; rfl
  | true :: ks, o :: os, _, _, _, h => by
    obtain ⟨v, vr, g, l, e1, r, rs, e2⟩ := h
    subst e1
    simp [ARep.len rs]
  | false :: ks, o :: os, _, _, _, h => by
    obtain ⟨v, vr, g, l, e1, r, rs, e2⟩ := h
    subst e1
    simp [ARep.len rs]
  | [], _ :: _, _, _, _, h => (show False from h).elim
  | true :: _, [], _, _, _, h => (show False from h).elim
  | false :: _, [], _, _, _, h => (show False from h).elim
theorem ARep.view {K : PySem.W.Frag} {F F' H : Hp} (hF : Same F F') : ∀ {ks : List Bool} {os : List O} {vs : List V} {gb gv : Fp}, (∀ a, gb a ≠ 0 → F' a = H a) → ARep K ct F H ks os vs gb gv → Reps K ct F' H (views ks os) vs gv
  | [], [], _, _, _, _, h => ⟨h.1, h.2.2⟩
  | true :: ks, o :: os, _, _, _, hb, h => by
    obtain ⟨v, vr, g, l, e1, r, rs, e2⟩ := h
    subst e2
    refine ⟨v, vr, zf, _, e1, r.frz hF fun a z => hb a (by show g a + l a ≠ 0; omega), ARep.view hF (fun a z => hb a (by show g a + l a ≠ 0; omega)) rs, ?_⟩
    funext a; simp [zf]
  | false :: ks, o :: os, _, _, _, hb, h => by
    obtain ⟨v, vr, g, l, e1, r, rs, e2⟩ := h
    exact ⟨v, vr, g, l, e1, Rep.mono hF (fun _ _ => rfl) r, ARep.view hF hb rs, e2⟩
  | [], _ :: _, _, _, _, _, h => (show False from h).elim
  | true :: _, [], _, _, _, _, h => (show False from h).elim
  | false :: _, [], _, _, _, _, h => (show False from h).elim
theorem ARep.okb {K : PySem.W.Frag} {F H : Hp} : ∀ {ks : List Bool} {os : List O} {vs : List V} {gb gv : Fp}, okb ks os = true → ARep K ct F H ks os vs gb gv → gb = zf
  | [], [], _, _, _, _, h => h.2.1
  | true :: ks, o :: os, _, _, _, z, h => by
    obtain ⟨v, vr, g, l, e1, r, rs, e2⟩ := h
    rw [Mini.okb, Bool.and_eq_true] at z
    rw [e2]
    exact add_zf (r.fz0 (by simpa using z.1)) (ARep.okb z.2 rs)
  | false :: ks, o :: os, _, _, _, z, h => by
    obtain ⟨v, vr, g, l, e1, r, rs, e2⟩ := h
    rw [Mini.okb, Bool.and_eq_true] at z
    exact ARep.okb z.2 rs
  | [], _ :: _, _, _, _, _, h => (show False from h).elim
  | true :: _, [], _, _, _, _, h => (show False from h).elim
  | false :: _, [], _, _, _, _, h => (show False from h).elim
theorem ARep.memb {K : PySem.W.Frag} {F H : Hp} : ∀ {ks : List Bool} {os : List O} {vs : List V} {gb gv : Fp}, ARep K ct F H ks os vs gb gv → ∀ a, gb a ≠ 0 → ∃ u, H a = some u ∧ Own u
  | [], [], _, _, _, h, a, z => absurd (by rw [h.2.1]; rfl) z
  | true :: ks, o :: os, _, _, _, h, a, z => by
    obtain ⟨v, vr, g, l, e1, r, rs, e2⟩ := h
    by_cases q : g a = 0
    · refine ARep.memb rs a ?_
      rw [e2] at z
      have z' : g a + l a ≠ 0 := z
      omega
    · exact r.mem a q
  | false :: ks, o :: os, _, _, _, h, a, z => by
    obtain ⟨v, vr, g, l, e1, r, rs, e2⟩ := h
    exact ARep.memb rs a z
  | [], _ :: _, _, _, _, h, _, _ => (show False from h).elim
  | true :: _, [], _, _, _, h, _, _ => (show False from h).elim
  | false :: _, [], _, _, _, h, _, _ => (show False from h).elim
/-- what a call gives back, for a caller that goes on -/
theorem call_back {K : PySem.W.Frag} {F H F1 H1 : Hp} {f gb gv : Fp} {os : List O} {vs : List V} {r : O} {Q : VK} (wf : Wf F H f) (mf : ∀ a, f a ≠ 0 → ∃ u, H a = some u ∧ Own u) (ex : Ext F H F1 H1) (ar : ARep K ct F1 H1 ks os vs gb gv)
    (hb : ∀ a, gb a ≠ 0 → f a ≠ 0) (hv : Gd false f H F1 gv) (c : (Mini.okb ks os || noFm r) = true) (q : Kn K ct false f F H r Q) :
    Wf (fun a => if gb a ≠ 0 then H1 a else F1 a) H1 gv ∧ Reps K ct (fun a => if gb a ≠ 0 then H1 a else F1 a) H1 (views ks os) vs gv ∧
      ∀ v F' H' (g gf : Fp), Stp (fun a => if gb a ≠ 0 then H1 a else F1 a) H1 gv F' H' (fun a => g a + gf a) → Rep K ct F' H' r v g → Q v H' := by
  obtain ⟨n1, n2, n3⟩ := hv.n
  have hFc : Same F1 (fun a => if gb a ≠ 0 then H1 a else F1 a) := fun a u hu => by
    show (if gb a ≠ 0 then H1 a else F1 a) = some u
    by_cases z : gb a ≠ 0
    · rw [if_pos z]; exact ex.le a u hu
    · rw [if_neg z]; exact hu
  have hsep : ∀ a, gv a ≠ 0 → ¬ gb a ≠ 0 := fun a z y => by
    obtain ⟨u, hu, _⟩ := mf a (hb a y)
    rw [n2 a z] at hu; cases hu
  refine ⟨⟨fun a u hu => ?_, n1, fun a z => ?_⟩, ar.view hFc fun a z => if_pos z, fun v F' H' g gf st rv => ?_⟩
  · have hu' : (if gb a ≠ 0 then H1 a else F1 a) = some u := hu
    by_cases z : gb a ≠ 0
    · rw [if_pos z] at hu'; exact hu'
    · rw [if_neg z] at hu'; exact ex.le a u hu'
  · show (if gb a ≠ 0 then H1 a else F1 a) = none
    rw [if_neg (hsep a z)]
    exact n3 a z
  · have hH : Same H H' := fun a o ho => by
      refine st.frame a o (ex.hH a o ho) (Classical.byContradiction fun z => ?_)
      rw [n2 a z] at ho; cases ho
    have sub : Stp (fun a => if gb a ≠ 0 then H1 a else F1 a) H1 gv F' H' g := st.sub fun a => Nat.le_add_right _ _
    have new1 : ∀ a, g a ≠ 0 → H a = none := fun a z => by
      rcases sub.new a (.inl z) with y | y | y
      · obtain ⟨u, hu⟩ := some_of_ne y
        have := sub.wf.dj a z
        rw [sub.hF a u hu] at this; cases this
      · exact ex.hH.free y
      · exact n2 a y
    by_cases ob : Mini.okb ks os = true
    · have gz := ar.okb ob
      refine q v F' H' g ⟨ex.hF.trans (hFc.trans st.hF), hH, st.wf.le, fun a z => ?_⟩ rv (Gd.mkn sub.wf.one new1 sub.wf.dj)
      rcases sub.new a (.inr z) with y | y | y
      · refine ex.new a ?_
        have y' : (if gb a ≠ 0 then H1 a else F1 a) ≠ none := y
        rw [gz] at y'
        simpa [zf] using y'
      · exact .inr (ex.hH.free y)
      · exact .inr (n2 a y)
    · have nf : noFm r = true := by
        rw [Bool.or_eq_true] at c
        exact c.resolve_left ob
      have own : ∀ a, gb a ≠ 0 → ∃ u, F' a = some u ∧ Own u := fun a z => by
        obtain ⟨u, hu, ou⟩ := ar.memb a z
        exact ⟨u, st.hF a u (by show (if gb a ≠ 0 then H1 a else F1 a) = some u; rw [if_pos z]; exact hu), ou⟩
      refine q v (fun a => if gb a ≠ 0 then none else F' a) H' g ⟨fun a u hu => ?_, hH, fun a u hu => ?_, fun a z => ?_⟩ (rv.thaw (fun a => ?_) nf) (Gd.mkn sub.wf.one new1 fun a z => ?_)
      · show (if gb a ≠ 0 then none else F' a) = some u
        rw [if_neg fun z => by rw [wf.dj a (hb a z)] at hu; cases hu]
        exact st.hF a u (hFc a u (ex.hF a u hu))
      · have hu' : (if gb a ≠ 0 then none else F' a) = some u := hu
        by_cases z : gb a ≠ 0
        · rw [if_pos z] at hu'; cases hu'
        · rw [if_neg z] at hu'; exact st.wf.le a u hu'
      · have z' : (if gb a ≠ 0 then none else F' a) ≠ none := z
        by_cases w : gb a ≠ 0
        · rw [if_pos w] at z'; exact absurd rfl z'
        · rw [if_neg w] at z'
          rcases sub.new a (.inr z') with y | y | y
          · have y' : (if gb a ≠ 0 then H1 a else F1 a) ≠ none := y
            rw [if_neg w] at y'
            exact ex.new a y'
          · exact .inr (ex.hH.free y)
          · exact .inr (n2 a y)
      · by_cases w : gb a ≠ 0
        · left
          obtain ⟨u, hu, ou⟩ := own a w
          refine ⟨fun xs hx => ?_, fun o xs hx => ?_⟩
          · rw [hu] at hx; cases hx; exact ou
          · rw [hu] at hx; cases hx; exact ou
        · right
          show (if gb a ≠ 0 then none else F' a) = F' a
          rw [if_neg w]
      · show (if gb a ≠ 0 then none else F' a) = none
        by_cases w : gb a ≠ 0
        · rw [if_pos w]
        · rw [if_neg w]; exact sub.wf.dj a z
theorem call_go {t : TA} (hn : ks.length = n) (ht : ∀ σ H Q, tA ct X.K ks ds σ H Q → t σ H Q) {σ : L2.St} {H : Hp} {Q : VK} (h : tX ct X.K false (dCall ks Ff ds) σ H Q) : tCall (spF ct X.K n Ff) [] E0 t σ H Q := by
  obtain ⟨F, ρ, f, o, s, e, q⟩ := h
  unfold dCall at e
  split at e
  · rename_i os eos
    split at e
    · rename_i r fin er
      split at e
      · rename_i c
        cases e
        refine ht _ _ _ ⟨F, ρ, f, os, s, eos, fun vs F1 H1 gb gv ex ar hb hv => ?_⟩
        show spF ct X.K n Ff (vs ++ []) H1 Q E0
        rw [List.append_nil]
        obtain ⟨c1, c2, c3⟩ := call_back s.wf s.rep.mem ex ar hb hv c q
        exact ⟨by rw [ar.len, hn], _, _, gv, o, fin, c1, c2, er, fun v F' H' g gf st r _ => c3 v F' H' g gf st r⟩
      · cases e
    · cases e
  · cases e
theorem sx_call {k0 : Bool} (D : FD X.prog X.w X.K X.mg X.base ct k x n Ff) (hr : Room k X.A) (ha : SA ct X (k0 :: ks) (e :: es) ds) (hn : (k0 :: ks).length = n := by rfl) (hg : Gl X x := by rfl) (hdb : (x == ("__debug__" : Str)) = false := by decide)
    (he : starEach (e :: es) X.env = (false, eval e X.env) :: starEach es X.env := by rfl) (hpl : (backTo pos (starEach es X.env)).any (·.1) = false := by rfl) : SX ct X false (.Call (.Name x p) (e :: es) [] pos) (dCall (k0 :: ks) Ff ds) := by
  obtain ⟨f, fd, ps, hps, hF, hm, hk, hb⟩ := D.ex
  exact PE.imp (pe_call hF hr hg hm hk hb .nil pass0 ha hdb he hpl) fun σ H Q h => call_go hn (fun _ _ _ z => z) h
end

/-! a def by its body -/
def fin (pn : Nat → Bool) : Nat → Nat → Env → Env
  | _, 0, _ => []
  | i, n + 1, o :: ρ => (if pn i = true then o else none) :: fin pn (i + 1) n ρ
  | i, n + 1, [] => none :: fin pn (i + 1) n []
def dDef (pn : Nat → Bool) (n m : Nat) (d : Env → Option Out) : Fn := fun os => match d (os.map some ++ List.replicate (m - n) none) with
  | some (.rt o ρ) => some (o, fin pn 0 n ρ)
  | some (.nx ρ) => some (.non, fin pn 0 n ρ)
  | _ => none
section
variable {ct : Nat → Addr} {K : PySem.W.Frag}
theorem SRep.start {F H : Hp} {m : Nat} : ∀ {os : List O} {vs : List V} {f : Fp}, Reps K ct F H os vs f → SRep K ct F H (os.map some ++ List.replicate m none) (vs.map some ++ List.replicate m none) f
  | [], vs, f, h => by
    obtain ⟨e1, e2⟩ := h
    subst e1 e2
    simp only [List.map_nil, List.nil_append]
    induction m with
    | zero => rfl
    | succ m ih =>
      show SRep K ct F H (none :: List.replicate m none) (none :: List.replicate m none) zf
      exact ih
  | o :: os, vs, f, h => by
    obtain ⟨v, vr, g, l, e, r, rs, ef⟩ := h
    subst e
    exact ⟨g, l, r, SRep.start rs, ef⟩
theorem SRep.fin {F H : Hp} {pn : Nat → Bool} : ∀ {vs : List V} {i : Nat} {ρ : Env} {σ : L2.St} {f : Fp}, SRep K ct F H ρ σ f → (∀ j, pn (i + j) = true → j < vs.length → σ[j]? = (vs.map some)[j]?) →
    ∃ f', SRep K ct F H (fin pn i vs.length ρ) (vs.map some) f' ∧ ∀ a, f' a ≤ f a
  | [], _, _, _, _, _, _ => ⟨zf, rfl, fun _ => Nat.zero_le _⟩
  | v :: vs, i, [], σ, f, h, k => by
    obtain ⟨f', h1, h2⟩ := SRep.fin (vs := vs) (i := i + 1) (ρ := []) (σ := σ.tail) (f := f) h fun j hj hl => by
      have := k (j + 1) (by rw [show i + (j + 1) = i + 1 + j by omega]; exact hj) (by simpa using hl)
      cases σ <;> simpa using this
    exact ⟨f', h1, h2⟩
  | v :: vs, i, none :: ρ, [], f, h, k => (show False from h).elim
  | v :: vs, i, some o :: ρ, [], f, h, k => (show False from h).elim
  | v :: vs, i, some o :: ρ, none :: σ, f, h, k => (show False from h).elim
  | v :: vs, i, none :: ρ, x :: σ, f, h, k => by
    obtain ⟨f', h1, h2⟩ := SRep.fin (vs := vs) (i := i + 1) (ρ := ρ) (σ := σ) (f := f) h fun j hj hl => by
      have := k (j + 1) (by rw [show i + (j + 1) = i + 1 + j by omega]; exact hj) (by simpa using hl)
      simpa using this
    refine ⟨f', ?_, h2⟩
    show SRep K ct F H ((if pn i = true then none else none) :: Mini.fin pn (i + 1) vs.length ρ) (some v :: vs.map some) f'
    rw [ite_self]
    exact h1
  | v :: vs, i, some o :: ρ, some u :: σ, f, h, k => by
    obtain ⟨g, l, r, rs, ef⟩ := (show ∃ g h, Rep K ct F H o u g ∧ SRep K ct F H ρ σ h ∧ f = fun a => g a + h a from h)
    obtain ⟨f', h1, h2⟩ := SRep.fin (vs := vs) (i := i + 1) (ρ := ρ) (σ := σ) (f := l) rs fun j hj hl => by
      have := k (j + 1) (by rw [show i + (j + 1) = i + 1 + j by omega]; exact hj) (by simpa using hl)
      simpa using this
    by_cases hi : pn i = true
    · have e1 := k 0 (by simpa using hi) (by simp)
      have e2 : u = v := by simpa using e1
      subst e2
      refine ⟨fun a => g a + f' a, ?_, fun a => by rw [ef]; have := h2 a; show g a + f' a ≤ g a + l a; omega⟩
      show SRep K ct F H ((if pn i = true then some o else none) :: Mini.fin pn (i + 1) vs.length ρ) (some u :: vs.map some) _
      rw [if_pos hi]
      exact ⟨g, f', r, h1, rfl⟩
    · refine ⟨f', ?_, fun a => by rw [ef]; have := h2 a; show f' a ≤ g a + l a; omega⟩
      show SRep K ct F H ((if pn i = true then some o else none) :: Mini.fin pn (i + 1) vs.length ρ) (some v :: vs.map some) _
      rw [if_neg hi]
      exact h1
theorem fd_ok {P : Program} {w : World} {mg : Str → Option Value} {base : Heap} {x qual : Str} {st : Stmt} {f : Addr} {fd : FuncData} {N ps : List Str} {k : Nat} {pn : Nat → Bool} {d : Env → Option Out} (F : Fun K x qual st f fd) (S : FnScope N ps (defScope st))
    (hb : ∀ (cdv : Value) (A : Around) (outer : List PySem.Env) (s : Shared) (H : Hp) (E : XK), Room k (A.deeper (envOfC qual (defScope st) s.heap.objs.size f cdv)) →
      SSs ct (cxOf CX0 P w K mg base N qual (defScope st) f cdv A outer s H E).nox pn (fun _ _ _ _ => False) (defBody st) d) : FnOk P w K mg base CX0 (k + 1) f fd ps (spF ct K ps.length (dDef pn ps.length N.length d)) := by
  refine F.ok S (fun vs H Q E h => h.1) fun cdv A outer s H vs Q E hr h => ⟨_, hb cdv A outer s H E hr, ?_⟩
  obtain ⟨hl, F0, os, f0, r, fn, wf, rs, e, q⟩ := h
  have hstart : SRep K ct F0 H (os.map some ++ List.replicate (N.length - ps.length) none) (start N vs) f0 := by
    unfold L2.start
    rw [hl]
    exact SRep.start rs
  have pin : ∀ {σ' : L2.St}, Pin pn (start N vs) σ' → ∀ j, pn (0 + j) = true → j < vs.length → σ'[j]? = (vs.map some)[j]? := fun p j hj hjl => by
    rw [Nat.zero_add] at hj
    rw [p.2 j hj]
    unfold L2.start
    rw [List.getElem?_append_left (by simpa using hjl)]
  unfold dDef at e
  split at e
  · rename_i o ρ' ed
    cases e
    refine ⟨F0, _, f0, _, ⟨wf, hstart⟩, ed, fun v σ' F' H' g f' st r rs' p => ?_⟩
    obtain ⟨gf, h1, h2⟩ := SRep.fin rs' (pin p)
    rw [hl] at h1
    exact q v F' H' g gf (st.sub fun a => by have := h2 a; show g a + gf a ≤ g a + f' a; omega) r h1
  · rename_i ρ' ed
    cases e
    refine ⟨F0, _, f0, _, ⟨wf, hstart⟩, ed, fun σ' F' H' f' st rs' p => ?_⟩
    obtain ⟨gf, h1, h2⟩ := SRep.fin rs' (pin p)
    rw [hl] at h1
    exact q .non F' H' zf gf (st.sub fun a => by have := h2 a; show zf a + gf a ≤ f' a; simpa [zf] using this) ⟨rfl, rfl⟩ h1
  · cases e
end
theorem FD.mk' {P : Program} {w : World} {K : PySem.W.Frag} {mg : Str → Option Value} {base : Heap} {ct : Nat → Addr} {k : Nat} {x : Str} {f : Addr} {fd : FuncData} {ps : List Str} {Ff : Fn} (h : FnOk P w K mg base CX0 k f fd ps (spF ct K ps.length Ff)) (hm : mg x = some (.ref f)) (hk : PySem.W.keepIn K (.ref f) = true)
    (hb : Binds K fd ps []) : FD P w K mg base ct k x ps.length Ff := ⟨f, fd, ps, rfl, h, hm, hk, hb⟩
end Mini
namespace Mini
open PySem PySem.Spec PyProof.Rows L2
section
variable {ct : Nat → Addr} {K : PySem.W.Frag} {F F' H H' : Hp}
theorem set_self {σ : L2.St} {i : Nat} {v : V} (h : σ[i]? = some (some v)) : σ.set i (some v) = σ := by
  apply List.ext_getElem?
  intro j
  rw [List.getElem?_set]
  split
  · rename_i hj
    subst hj
    rw [if_pos (List.getElem?_eq_some_iff.mp h).1, h]
  · rfl
theorem Reps.app : ∀ {os ps : List O} {vs ws : List V} {f g : Fp}, Reps K ct F H os vs f → Reps K ct F H ps ws g → Reps K ct F H (os ++ ps) (vs ++ ws) (fun a => f a + g a)
  | [], ps, vs, ws, f, g, h, h2 => by
    obtain ⟨e1, e2⟩ := h
    subst e1 e2
    have : (fun a => zf a + g a) = g := by funext a; simp [zf]
    rw [this]
    exact h2
  | o :: os, ps, vs, ws, f, g, h, h2 => by
    obtain ⟨v, vr, g1, l, e, r, rs, ef⟩ := h
    subst e ef
    refine ⟨v, vr ++ ws, g1, _, rfl, r, Reps.app rs h2, ?_⟩
    funext a
    show g1 a + l a + g a = g1 a + (l a + g a)
    omega
theorem Reps.one {o : O} {v : V} {f : Fp} (h : Rep K ct F H o v f) : Reps K ct F H [o] [v] f := ⟨v, [], f, zf, rfl, h, ⟨rfl, rfl⟩, by funext a; simp [zf]⟩
theorem Reps.set {o : O} {v : V} {g : Fp} (hv : Rep K ct F H o v g) : ∀ {os : List O} {vs : List V} {f : Fp} (j : Nat), Reps K ct F H os vs f → ∃ f', Reps K ct F H (os.set j o) (vs.set j v) f' ∧ ∀ a, f' a ≤ f a + g a
  | [], vs, f, j, h => by
    obtain ⟨e1, e2⟩ := h
    subst e1 e2
    exact ⟨zf, ⟨rfl, rfl⟩, fun a => Nat.zero_le _⟩
  | o' :: os, vs, f, 0, h => by
    obtain ⟨v', vr, g1, l, e, r, rs, ef⟩ := h
    subst e ef
    exact ⟨_, ⟨v, vr, g, l, rfl, hv, rs, rfl⟩, fun a => by show g a + l a ≤ g1 a + l a + g a; omega⟩
  | o' :: os, vs, f, j + 1, h => by
    obtain ⟨v', vr, g1, l, e, r, rs, ef⟩ := h
    subst e ef
    obtain ⟨f', h1, h2⟩ := Reps.set hv j rs
    exact ⟨_, ⟨v', vr.set j v, g1, f', rfl, r, h1, rfl⟩, fun a => by have := h2 a; show g1 a + f' a ≤ g1 a + l a + g a; omega⟩
/-- an owned list in a slot is written; gy: what the new items bring -/
theorem SRep.wlist {ρ : Env} {σ : L2.St} {f gy : Fp} {i : Nat} {os : List O} (wf : Wf F H (fun a => f a + gy a)) (h : SRep K ct F H ρ σ f) (e : look ρ i = some (.lst true os)) :
    ∃ a xs g0, σ[i]? = some (some (.ref a)) ∧ H a = some (.lst xs) ∧ Reps K ct F H os xs g0 ∧ g0 a = 0 ∧ gy a = 0 ∧ (∀ b, g0 b ≤ f b) ∧
      ∀ os' xs' g', Reps K ct F (upd H a (.lst xs')) os' xs' g' → (∀ b, g' b ≤ g0 b + gy b) →
        ∃ f', SRep K ct F (upd H a (.lst xs')) (ρ.set i (some (.lst true os'))) σ f' ∧ Stp F H (fun a => f a + gy a) F (upd H a (.lst xs')) f' := by
  obtain ⟨l1, l2⟩ := h.len e
  obtain ⟨g, l, ef, hl, hf⟩ := SRep.hole i l1 h
  obtain ⟨v, ev, r⟩ := hl _ e
  obtain ⟨a, xs, g0, e1, ha, rs, eg⟩ := r
  subst e1
  have one := wf.one a
  have t : f a + gy a ≤ 1 := one
  have fa : f a = 1 + g0 a + l a := by rw [ef, eg]; simp [bump]
  have la : l a = 0 := by omega
  have g0a : g0 a = 0 := by omega
  have gya : gy a = 0 := by omega
  refine ⟨a, xs, g0, ev, ha, rs, g0a, gya, fun b => ?_, fun os' xs' g' r' lg => ?_⟩
  · rw [ef, eg]
    show g0 b ≤ (if b = a then 1 else 0) + g0 b + l b
    omega
  · have Fa : F a = none := wf.dj a (by show f a + gy a ≠ 0; omega)
    have hr := (hf F (upd H a (.lst xs')) (Same.refl _) fun b z => by rw [upd_ne fun y => by subst y; exact z la]).1 (.lst true os') (.ref a) (bump a g') ⟨a, xs', g', rfl, upd_same, r', rfl⟩
    rw [set_self ev] at hr
    refine ⟨_, hr, Same.refl _, ⟨fun b u hu => ?_, fun b => ?_, fun b z => ?_⟩, fun b u hu z => ?_, fun b z => ?_⟩
    · rw [upd_ne fun y => by subst y; rw [Fa] at hu; cases hu]
      exact wf.le b u hu
    · have o1 := wf.one b
      have o2 := lg b
      have o3 : f b = (if b = a then 1 else 0) + g0 b + l b := by rw [ef, eg]; rfl
      have o4 : f b + gy b ≤ 1 := o1
      show (if b = a then 1 else 0) + g' b + l b ≤ 1
      omega
    · refine wf.dj b ?_
      have o2 := lg b
      have o3 : f b = (if b = a then 1 else 0) + g0 b + l b := by rw [ef, eg]; rfl
      have z' : (if b = a then 1 else 0) + g' b + l b ≠ 0 := z
      show f b + gy b ≠ 0
      omega
    · have z' : f b + gy b = 0 := z
      rw [upd_ne fun y => by subst y; omega]
      exact hu
    · rcases z with z | z
      · refine .inr (.inr ?_)
        have o2 := lg b
        have o3 : f b = (if b = a then 1 else 0) + g0 b + l b := by rw [ef, eg]; rfl
        have z' : (if b = a then 1 else 0) + g' b + l b ≠ 0 := z
        show f b + gy b ≠ 0
        omega
      · exact .inl z
end
def dApp (i : Nat) (d : Env → Option O) : Env → Option Out := fun ρ => match look ρ i with
  | some (.lst true os) => match d ρ with
    | some o => if os.length < sizeLine then some (.nx (ρ.set i (some (.lst true (os ++ [o]))))) else none
    | none => none
  | _ => none
def dSetI (i : Nat) (di d : Env → Option O) : Env → Option Out := fun ρ => match d ρ with
  | some o => match look ρ i with
    | some (.lst true os) => match di ρ with
      | some (.int k) => match ixN os.length k with
        | some j => some (.nx (ρ.set i (some (.lst true (os.set j o)))))
        | none => none
      | _ => none
    | _ => none
  | none => none
section
variable {ct : Nat → Addr} {X : Cx} {pn : Nat → Bool} {W : WX} {e ie : Expr} {d di : Env → Option O} {k : Bool} {pos p1 p2 p3 apos : Pos}
theorem Pin.of_eq {σ : L2.St} : Pin pn σ σ := Pin.refl
/-- x.append(e) -/
theorem ss_app (i : Nat) {x : Str} (he : SX ct X false e d) (hN : X.N[i]? = some x := by rfl) (hv : Vis X.env.scope x := by first | exact Or.inl rfl | exact Or.inr (Or.inl rfl) | exact Or.inr (Or.inr rfl)) (hd : (x == ("__debug__" : Str)) = false := by decide)
    (hcd : (x == ("__classdict__" : Str)) = false := by decide)
    (hstar : starEach [e] X.env = [(false, eval e X.env)] := by rfl) (hbase : attributeBase (.Name x p1) "append" X.env (eval (.Name x p1) X.env) = eval (.Name x p1) X.env := by rfl) (hline : (apos.endLine == p2.line) = true := by rfl)
    (hs : swapsWith (.Call (.Attribute (.Name x p1) "append" apos) [e] [] p2) none pos.line X.env = pure false := by rfl) :
    SS ct X pn W (.Expr (.Call (.Attribute (.Name x p1) "append" apos) [e] [] p2) pos) (dApp i d) := by
  refine PS.imp (ps_expr (pe_bm PySem.F.plainAttrs_list PySem.F.slot_list_append PySem.F.type_list_append mt_append (pe_var hN hv hd hcd) (pa_cons he pa_nil hstar) hbase (by rw [hstar]; rfl) hline hstar rfl) hs) fun D σ H h => ?_
  obtain ⟨F, ρ, f, out, s, e, q⟩ := h
  unfold dApp at e
  split at e
  · rename_i os eo
    split at e
    · rename_i o ed
      split at e
      · rename_i hlen
        cases e
        obtain ⟨v, g, ev, r, l⟩ := s.rep.get eo
        obtain ⟨a, xs, g0, e1, ha, rs, eg⟩ := r
        subst e1
        refine ⟨.ref a, ev, .inl ⟨rfl, xs, SqL.of ha⟩, F, ρ, f, o, s, ed, fun y F1 H1 gy ex ry gd => ?_⟩
        have st := ex.stp s.wf s.rep.mem gd
        obtain ⟨a', xs', g0', ev', ha', rs', z1, z2, lg, wr⟩ := SRep.wlist st.wf (s.ext ex).rep eo
        rw [ev] at ev'
        cases ev'
        have hxs : xs' = xs := by
          have := ex.hH a _ ha
          rw [ha'] at this
          cases this; rfl
        subst hxs
        refine ⟨a, xs', y, rfl, rfl, ha', ?_, ?_⟩
        · rw [← rs'.length]; exact hlen
        · have ag : ∀ b, g0' b ≠ 0 → (upd H1 a (.lst (xs' ++ [y]))) b = H1 b := fun b z => upd_ne fun w => by subst w; exact z z1
          have ag2 : ∀ b, gy b ≠ 0 → (upd H1 a (.lst (xs' ++ [y]))) b = H1 b := fun b z => upd_ne fun w => by subst w; exact z z2
          obtain ⟨f', sr, st2⟩ := wr (os ++ [o]) (xs' ++ [y]) _ (Reps.app (Reps.mono (Same.refl _) ag rs') (Reps.one (Rep.mono (Same.refl _) ag2 ry))) fun b => Nat.le_refl _
          exact q σ F1 _ f' (st.trans st2) sr Pin.refl
      · cases e
    · cases e
  · cases e
/-- x[ie] = e -/
theorem ss_seti (i : Nat) {x : Str} (he : SX ct X false e d) (hi : SX ct X k ie di) (hN : X.N[i]? = some x := by rfl) (hv : Vis X.env.scope x := by first | exact Or.inl rfl | exact Or.inr (Or.inl rfl) | exact Or.inr (Or.inr rfl)) (hd : (x == ("__debug__" : Str)) = false := by decide)
    (hcd : (x == ("__classdict__" : Str)) = false := by decide)
    (ha : ∀ v, assign (.Subscript (.Name x p1) ie p2) X.env v = (do
      let ov ← holding [v] (eval (.Name x p1) X.env)
      let iv ← holding [v, ov] (eval ie X.env)
      standAt p2
      holding [v, ov, iv] (setItem ov iv v)
      release [v, ov, iv] []) := by intro _; rfl)
    (hs : swapsWithSole [.Subscript (.Name x p1) ie p2] e pos.line X.env = pure false := by rfl) (hw : swappedStores [.Subscript (.Name x p1) ie p2] e X.env = pure none := by rfl)
    (h1 : (assignEach [.Subscript (.Name x p1) ie p2] X.env).map (·.2) = [assign (.Subscript (.Name x p1) ie p2) X.env] := by rfl) :
    SS ct X pn W (.Assign [.Subscript (.Name x p1) ie p2] e pos) (dSetI i di d) := by
  refine PS.imp (ps_asg he (pg_sub (pe_var hN hv hd hcd) hi set_list ha) hs hw h1) fun D σ H h => ?_
  obtain ⟨F, ρ, f, out, s, e, q⟩ := h
  unfold dSetI at e
  split at e
  · rename_i o ed
    split at e
    · rename_i os eo
      split at e
      · rename_i kk ei
        split at e
        · rename_i j ej
          cases e
          refine ⟨F, ρ, f, o, s, ed, fun y F1 H1 gy ex ry gd => ?_⟩
          have s1 := s.ext ex
          have st := ex.stp s.wf s.rep.mem gd
          obtain ⟨v, g, ev, r, l⟩ := s1.rep.get eo
          refine ⟨v, ev, F1, ρ, f, .int kk, s1, ei, fun iv F2 H2 g2 ex2 ri gd2 => ?_⟩
          obtain ⟨rfl, _⟩ := ri
          have st2 := st.trans (ex2.stp0 st.wf fun b z => by
            by_cases w : f b = 0
            · exact ry.mem b (by have z' : f b + gy b ≠ 0 := z; omega)
            · exact s1.rep.mem b w)
          obtain ⟨a, xs, g0, ev', ha', rs', z1, z2, lg, wr⟩ := SRep.wlist st2.wf (s1.ext ex2).rep eo
          rw [ev] at ev'
          cases ev'
          refine ⟨a, xs, kk, j, rfl, rfl, ha', by rw [← rs'.length]; exact ej, ?_⟩
          have ag : ∀ b, g0 b ≠ 0 → (upd H2 a (.lst (xs.set j y))) b = H2 b := fun b z => upd_ne fun w => by subst w; exact z z1
          have ag2 : ∀ b, gy b ≠ 0 → (upd H2 a (.lst (xs.set j y))) b = H2 b := fun b z => upd_ne fun w => by subst w; exact z z2
          obtain ⟨g', rr, lg'⟩ := Reps.set (Rep.mono (Same.refl _) ag2 (ry.ext ex2)) j (Reps.mono (Same.refl _) ag rs')
          obtain ⟨f', sr, st3⟩ := wr _ _ g' rr lg'
          exact q σ F2 _ f' (st2.trans st3) sr Pin.refl
        · cases e
      · cases e
    · cases e
  · cases e
end
end Mini
namespace Mini
open PySem PySem.Spec PyProof.Rows L2
section
variable {ct : Nat → Addr} {K : PySem.W.Frag} {F H : Hp}
theorem Reps.ints : ∀ ns : List Int, Reps K ct F H (ns.map O.int) (ns.map V.int) zf
  | [] => ⟨rfl, rfl⟩
  | n :: ns => ⟨.int n, ns.map V.int, zf, zf, rfl, ⟨rfl, rfl⟩, Reps.ints ns, rfl⟩
theorem law_sp {Ff : Fn} {a : Addr} {ns : List Int} (hS : SqL K H a (ns.map V.int)) (h : ∃ fin, Ff [O.lst false (ns.map O.int)] = some (.bl true, fin)) : spF ct K 1 Ff [.ref a] H (fun v _ => v = .bl true) (fun _ _ _ => False) := by
  obtain ⟨fin, e⟩ := h
  refine ⟨rfl, H, [O.lst false (ns.map O.int)], zf, _, fin, ⟨Same.refl _, fun _ => Nat.zero_le _, fun _ z => absurd rfl z⟩, ⟨.ref a, [], zf, zf, rfl, ⟨a, ns.map V.int, rfl, hS, Reps.ints ns, rfl⟩, ⟨rfl, rfl⟩, rfl⟩, e, fun v F' H' g gf _ r _ => r.1⟩
/-- what every law promises -/
def spLaw (K : PySem.W.Frag) : Sp := fun vs H Q _ => ∃ (a : Addr) (ns : List Int), vs = [.ref a] ∧ ns.length ≤ 63 ∧ (∀ z ∈ ns, Builtin.Int.intBits z ≤ 1048576) ∧ SqL K H a (ns.map V.int) ∧ ∀ H', Q (.bl true) H'
theorem law_imp {Ff : Fn} (hmain : ∀ ns : List Int, ns.length ≤ 63 → (∀ z ∈ ns, Builtin.Int.intBits z ≤ 1048576) → ∃ fin, Ff [O.lst false (ns.map O.int)] = some (.bl true, fin)) {vs : List V} {H : Hp} {Q : VK} {E : XK} (h : spLaw K vs H Q E) : spF ct K 1 Ff vs H Q E := by
  obtain ⟨a, ns, rfl, hl, hb, hS, q⟩ := h
  obtain ⟨fin, e⟩ := hmain ns hl hb
  refine ⟨rfl, H, [O.lst false (ns.map O.int)], zf, _, fin, ⟨Same.refl _, fun _ => Nat.zero_le _, fun _ z => absurd rfl z⟩, ⟨.ref a, [], zf, zf, rfl, ⟨a, ns.map V.int, rfl, hS, Reps.ints ns, rfl⟩, ⟨rfl, rfl⟩, rfl⟩, e, fun v F' H' g gf _ r _ => ?_⟩
  obtain ⟨rfl, _⟩ := r
  exact q H'
end
end Mini
namespace Mini
open PySem PySem.Spec PyProof.Rows L2

/-! right-hand sides that may raise and may write a slot's data -/
inductive Rv where
  | ok (o : O) (ρ : Env) | er (c : Nat) (ρ : Env)
def KR (K : PySem.W.Frag) (ct : Nat → Addr) (W : WX) (F H : Hp) (f : Fp) (σ : L2.St) (r : Rv) (Q : VK) : Prop := match r with
  | .ok o ρ' => ∀ v F' H' g f', Stp F H f F' H' (fun a => g a + f' a) → Rep K ct F' H' o v g → SRep K ct F' H' ρ' σ f' → Q v H'
  | .er c ρ' => ∀ F' H' f', Stp F H f F' H' f' → SRep K ct F' H' ρ' σ f' → W (.ref (ct c)) none σ H'
def tR (ct : Nat → Addr) (K : PySem.W.Frag) (W : WX) (d : Env → Option Rv) : TE := fun σ H Q =>
  ∃ F ρ f r, Sit K ct F H ρ σ f ∧ d ρ = some r ∧ KR K ct W F H f σ r Q
def SR (ct : Nat → Addr) (X : Cx) (W : WX) (e : Expr) (d : Env → Option Rv) : Prop := PE X e (tR ct X.K W d)
def rOf (d : Env → Option O) : Env → Option Rv := fun ρ => match d ρ with
  | some o => some (.ok o ρ)
  | none => none
inductive Res where
  | ok (o : O) (fin : Env) | er (c : Nat) (fin : Env)
abbrev FnX := List O → Option Res
def spX (ct : Nat → Addr) (K : PySem.W.Frag) (n : Nat) (Ff : FnX) : Sp := fun vs H Q E => vs.length = n ∧ ∃ F os f r, Wf F H f ∧ Reps K ct F H os vs f ∧ Ff os = some r ∧
  match r with
  | .ok o fin => ∀ v F' H' g gf, Stp F H f F' H' (fun a => g a + gf a) → Rep K ct F' H' o v g → SRep K ct F' H' fin (vs.map some) gf → Q v H'
  | .er c fin => ∀ F' H' gf, Stp F H f F' H' gf → SRep K ct F' H' fin (vs.map some) gf → E (.ref (ct c)) none H'
structure FDX (P : Program) (w : World) (K : PySem.W.Frag) (mg : Str → Option Value) (base : Heap) (ct : Nat → Addr) (k : Nat) (x : Str) (n : Nat) (Ff : FnX) : Prop where
  ex : ∃ f fd ps, ps.length = n ∧ FnOk P w K mg base (L2.CX P w) k f fd ps (spX ct K n Ff) ∧ mg x = some (.ref f) ∧ PySem.W.keepIn K (.ref f) = true ∧ Binds K fd ps []
theorem FDX.mk' {P : Program} {w : World} {K : PySem.W.Frag} {mg : Str → Option Value} {base : Heap} {ct : Nat → Addr} {k : Nat} {x : Str} {f : Addr} {fd : FuncData} {ps : List Str} {Ff : FnX} (h : FnOk P w K mg base (L2.CX P w) k f fd ps (spX ct K ps.length Ff)) (hm : mg x = some (.ref f)) (hk : PySem.W.keepIn K (.ref f) = true)
    (hb : Binds K fd ps []) : FDX P w K mg base ct k x ps.length Ff := ⟨f, fd, ps, rfl, h, hm, hk, hb⟩
/-- a call, its arguments new values or borrowed -/
def dCallX (ks : List Bool) (Ff : FnX) (ds : Env → Option (List O)) : Env → Option Rv := fun ρ => match ds ρ with
  | some os => match Ff (views ks os) with
    | some (.ok r _) => if (okb ks os || noFm r) = true then some (.ok r ρ) else none
    | some (.er c _) => some (.er c ρ)
    | none => none
  | none => none
/-- a call that surely does not raise -/
def dCallN (ks : List Bool) (Ff : FnX) (ds : Env → Option (List O)) : Env → Option O := fun ρ => match ds ρ with
  | some os => match Ff (views ks os) with
    | some (.ok r _) => if (okb ks os || noFm r) = true then some r else none
    | _ => none
  | none => none
section
variable {ct : Nat → Addr} {X : Cx} {W : WX} {ks : List Bool} {e : Expr} {es : List Expr} {d : Env → Option O} {dr : Env → Option Rv} {ds : Env → Option (List O)} {Ff : FnX} {k : Nat} {x : Str} {p pos : Pos} {n : Nat}
theorem sr_of (h : SX ct X false e d) : SR ct X W e (rOf d) := by
  refine PE.imp h fun σ H Q h => ?_
  obtain ⟨F, ρ, f, r, s, e, q⟩ := h
  unfold rOf at e
  split at e
  · rename_i o eo
    cases e
    refine ⟨F, ρ, f, o, s, eo, fun v F1 H1 g ex r gd => ?_⟩
    exact q v F1 H1 g f ((ex.stp s.wf s.rep.mem gd).sub fun a => by show g a + f a ≤ f a + g a; omega) r (s.ext ex).rep
  · cases e
theorem Kn.of_KR {K : PySem.W.Frag} {F H : Hp} {ρ : Env} {σ : L2.St} {f : Fp} {o : O} {Q : VK} (s : Sit K ct F H ρ σ f) (q : KR K ct W F H f σ (.ok o ρ) Q) : Kn K ct false f F H o Q := fun v F1 H1 g ex r gd =>
  q v F1 H1 g f ((ex.stp s.wf s.rep.mem gd).sub fun a => by show g a + f a ≤ f a + g a; omega) r (s.ext ex).rep
theorem sr_call {k0 : Bool} (D : FDX X.prog X.w X.K X.mg X.base ct k x n Ff) (hr : Room k X.A) (tk : Takes X W) (ha : SA ct X (k0 :: ks) (e :: es) ds) (hn : (k0 :: ks).length = n := by rfl) (hg : Gl X x := by rfl) (hdb : (x == ("__debug__" : Str)) = false := by decide)
    (he : starEach (e :: es) X.env = (false, eval e X.env) :: starEach es X.env := by rfl) (hpl : (backTo pos (starEach es X.env)).any (·.1) = false := by rfl) : SR ct X W (.Call (.Name x p) (e :: es) [] pos) (dCallX (k0 :: ks) Ff ds) := by
  obtain ⟨f, fd, ps, hps, hF, hm, hk, hb⟩ := D.ex
  refine PE.imp (pe_callS hF hr hg hm hk hb (fun σ => passAt tk σ) ha hdb he hpl) fun σ H Q h => ?_
  obtain ⟨F, ρ, f, r, s, e, q⟩ := h
  unfold dCallX at e
  split at e
  · rename_i os eos
    split at e
    · rename_i o fin er
      split at e
      · rename_i c
        cases e
        refine ⟨F, ρ, f, os, s, eos, fun vs F1 H1 gb gv ex ar hb hv => ?_⟩
        obtain ⟨c1, c2, c3⟩ := call_back s.wf s.rep.mem ex ar hb hv c (Kn.of_KR s q)
        refine ⟨by rw [ar.len, hn], _, _, gv, _, c1, c2, er, fun v F' H' g gf st r _ => c3 v F' H' g gf st r⟩
      · cases e
    · rename_i c fin er
      cases e
      refine ⟨F, ρ, f, os, s, eos, fun vs F1 H1 gb gv ex ar hb hv => ?_⟩
      obtain ⟨c1, c2, c3⟩ := call_back (r := .non) (Q := fun _ _ => True) s.wf s.rep.mem ex ar hb hv (by simp [noFm]) (fun _ _ _ _ _ _ _ => True.intro)
      refine ⟨by rw [ar.len, hn], _, _, gv, _, c1, c2, er, fun F' H' gf st _ => ?_⟩
      obtain ⟨n1, n2, n3⟩ := hv.n
      -- the caller's own part
      have hFc : Same F1 (fun a => if gb a ≠ 0 then H1 a else F1 a) := fun a u hu => by
        show (if gb a ≠ 0 then H1 a else F1 a) = some u
        by_cases z : gb a ≠ 0
        · rw [if_pos z]; exact ex.le a u hu
        · rw [if_neg z]; exact hu
      have hH : Same H H' := fun a o ho => by
        refine st.frame a o (ex.hH a o ho) (Classical.byContradiction fun z => ?_)
        rw [n2 a z] at ho; cases ho
      have e2 : Ext F H (fun a => if gb a ≠ 0 then none else F' a) H' := by
        refine ⟨fun a u hu => ?_, hH, fun a u hu => ?_, fun a z => ?_⟩
        · show (if gb a ≠ 0 then none else F' a) = some u
          rw [if_neg fun z => by rw [s.wf.dj a (hb a z)] at hu; cases hu]
          exact st.hF a u (hFc a u (ex.hF a u hu))
        · have hu' : (if gb a ≠ 0 then none else F' a) = some u := hu
          by_cases z : gb a ≠ 0
          · rw [if_pos z] at hu'; cases hu'
          · rw [if_neg z] at hu'; exact st.wf.le a u hu'
        · have z' : (if gb a ≠ 0 then none else F' a) ≠ none := z
          by_cases w : gb a ≠ 0
          · rw [if_pos w] at z'; exact absurd rfl z'
          · rw [if_neg w] at z'
            rcases st.new a (.inr z') with y | y | y
            · have y' : (if gb a ≠ 0 then H1 a else F1 a) ≠ none := y
              rw [if_neg w] at y'
              exact ex.new a y'
            · exact .inr (ex.hH.free y)
            · exact .inr (n2 a y)
      exact q _ H' f (e2.stp0 s.wf s.rep.mem) (s.ext e2).rep
    · cases e
  · cases e
theorem sx_callN {k0 : Bool} (D : FDX X.prog X.w X.K X.mg X.base ct k x n Ff) (hr : Room k X.A) (ha : SA ct X (k0 :: ks) (e :: es) ds) (hn : (k0 :: ks).length = n := by rfl) (hg : Gl X x := by rfl) (hdb : (x == ("__debug__" : Str)) = false := by decide)
    (he : starEach (e :: es) X.env = (false, eval e X.env) :: starEach es X.env := by rfl) (hpl : (backTo pos (starEach es X.env)).any (·.1) = false := by rfl) : SX ct X false (.Call (.Name x p) (e :: es) [] pos) (dCallN (k0 :: ks) Ff ds) := by
  obtain ⟨f, fd, ps, hps, hF, hm, hk, hb⟩ := D.ex
  refine PE.imp (pe_callS (E := fun _ => E0) hF hr hg hm hk hb (fun σ pins H s e s' I h => ?_) ha hdb he hpl) fun σ H Q h => ?_
  · obtain ⟨_, _, _, _, _, _, _, _, _, _, _, _, z⟩ := h
    exact z.elim
  obtain ⟨F, ρ, f, r, s, e, q⟩ := h
  unfold dCallN at e
  split at e
  · rename_i os eos
    split at e
    · rename_i o fin er
      split at e
      · rename_i c
        cases e
        refine ⟨F, ρ, f, os, s, eos, fun vs F1 H1 gb gv ex ar hb hv => ?_⟩
        obtain ⟨c1, c2, c3⟩ := call_back s.wf s.rep.mem ex ar hb hv c q
        exact ⟨by rw [ar.len, hn], _, _, gv, _, c1, c2, er, fun v F' H' g gf st r _ => c3 v F' H' g gf st r⟩
      · cases e
    · cases e
  · cases e
end

/-! statements over them -/
def dAsgR (d : Env → Option Rv) (dg : O → Env → Option Env) : Env → Option Out := fun ρ => match d ρ with
  | some (.ok o ρ1) => match dg o ρ1 with
    | some ρ' => some (.nx ρ')
    | none => none
  | some (.er c ρ1) => some (.er c ρ1)
  | none => none
def dRetR (d : Env → Option Rv) : Env → Option Out := fun ρ => match d ρ with
  | some (.ok o ρ1) => some (.rt o ρ1)
  | some (.er c ρ1) => some (.er c ρ1)
  | none => none
def dExprR (d : Env → Option Rv) : Env → Option Out := fun ρ => match d ρ with
  | some (.ok _ ρ1) => some (.nx ρ1)
  | some (.er c ρ1) => some (.er c ρ1)
  | none => none
section
variable {ct : Nat → Addr} {X : Cx} {pn : Nat → Bool} {W : WX} {e tg : Expr} {pos : Pos} {dg : O → Env → Option Env} {d : Env → Option Rv}
theorem asgR_go {g : TG} (hg : ∀ v σ H Q, tGt ct X.K pn dg v σ H Q → g v σ H Q) {D : Ends} {σ : L2.St} {H : Hp} (h : tSt ct X.K pn W (dAsgR d dg) D σ H) : tAsg (tR ct X.K W d) g D σ H := by
  obtain ⟨F, ρ, f, out, s, e, q⟩ := h
  unfold dAsgR at e
  split at e
  · rename_i o ρ1 eo
    split at e
    · rename_i ρ' eg
      cases e
      refine ⟨F, ρ, f, _, s, eo, fun v F1 H1 g1 f1 st r rs => hg _ _ _ _ ?_⟩
      have st' : Stp F H f F1 H1 (fun a => f1 a + g1 a) := st.sub fun a => by show f1 a + g1 a ≤ g1 a + f1 a; omega
      refine ⟨F1, ρ1, f1, g1, o, ρ', ⟨st'.wf.sub fun a => Nat.le_add_right _ _, rs⟩, r, st'.wf, eg, fun σ' f' rs' l p => ?_⟩
      exact q σ' F1 H1 f' (st'.sub l) rs' p
    · cases e
  · rename_i c ρ1 eo
    cases e
    exact ⟨F, ρ, f, _, s, eo, fun F1 H1 f1 st rs => q σ F1 H1 f1 st rs Pin.refl⟩
  · cases e
theorem ss_asgR (he : SR ct X W e d) (hg : SG ct X pn tg dg) (hs : swapsWithSole [tg] e pos.line X.env = pure false := by rfl) (hw : swappedStores [tg] e X.env = pure none := by rfl)
    (h1 : (assignEach [tg] X.env).map (·.2) = [assign tg X.env] := by rfl) : SS ct X pn W (.Assign [tg] e pos) (dAsgR d dg) :=
  PS.imp (ps_asg he hg hs hw h1) fun D σ H h => asgR_go (fun _ _ _ _ z => z) h
theorem ss_setR (i : Nat) {x : Str} {pos' : Pos} (hN : X.N.Nodup) (he : SR ct X W e d) (hp : pn i = false := by rfl) (hi : X.N[i]? = some x := by rfl) (hx : Loc X.env.scope x := by first | exact Or.inl rfl | exact Or.inr rfl)
    (hs : swapsWith e (some (.Name x pos')) pos.line X.env = pure false := by rfl) (hf : X.fn x = true ∨ X.env.scope.names.lookup x = some .local := by first | exact .inl rfl | exact .inr rfl) : SS ct X pn W (.Assign [.Name x pos'] e pos) (dAsgR d (gSet i)) := by
  refine PS.imp (ps_set hN hi hx he hs hf) fun D σ H h => asgR_go (fun v σ H Q h => ?_) h
  obtain ⟨F, ρ, f, g, o, ρ', s, r, w, e, q⟩ := h
  unfold gSet at e
  split at e
  · cases e
    obtain ⟨g1, h1, ef, _, hf⟩ := SRep.hole i (by assumption) s.rep
    refine q _ _ ((hf F H (Same.refl _) fun _ _ => rfl).1 o v g r) (fun a => ?_) (Pin.set hp)
    rw [ef]
    show g a + h1 a ≤ g1 a + h1 a + g a
    omega
  · cases e
theorem ss_retR (he : SR ct X W e d) : SS ct X pn W (.Return (some e) pos) (dRetR d) := by
  refine PS.imp (ps_ret he) fun D σ H h => ?_
  obtain ⟨F, ρ, f, out, s, e, q⟩ := h
  unfold dRetR at e
  split at e
  · rename_i o ρ1 eo
    cases e
    exact ⟨F, ρ, f, _, s, eo, fun v F1 H1 g1 f1 st r rs => q v σ F1 H1 g1 f1 st r rs Pin.refl⟩
  · rename_i c ρ1 eo
    cases e
    exact ⟨F, ρ, f, _, s, eo, fun F1 H1 f1 st rs => q σ F1 H1 f1 st rs Pin.refl⟩
  · cases e
theorem ss_exprR (he : SR ct X W e d) (hs : swapsWith e none pos.line X.env = pure false := by rfl) : SS ct X pn W (.Expr e pos) (dExprR d) := by
  refine PS.imp (ps_expr he hs) fun D σ H h => ?_
  obtain ⟨F, ρ, f, out, s, e, q⟩ := h
  unfold dExprR at e
  split at e
  · rename_i o ρ1 eo
    cases e
    exact ⟨F, ρ, f, _, s, eo, fun v F1 H1 g1 f1 st r rs => q σ F1 H1 f1 (st.sub fun a => Nat.le_add_left _ _) rs Pin.refl⟩
  · rename_i c ρ1 eo
    cases e
    exact ⟨F, ρ, f, _, s, eo, fun F1 H1 f1 st rs => q σ F1 H1 f1 st rs Pin.refl⟩
  · cases e
/-! raise -/
structure EC (K : PySem.W.Frag) (mg : Str → Option Value) (ct : Nat → Addr) (c : Nat) (x : Str) : Prop where
  g : mg x = some (.ref (ct c))
  ex : PySem.W.excIn K (ct c) [.type "ValueError", .type "Exception", .type "BaseException", .type "object"] "ValueError.__new__" = true
  kp : PySem.W.keepIn K (.ref (ct c)) = true
  sub : PySem.W.subIn K (.ref (ct c)) (.type "BaseException") = some true
  ty : PySem.W.typeIn K (.ref (ct c)) = some (.type "type")
theorem ss_raise (c : Nat) {x m : Str} {j : Nat} {p p2 p3 : Pos} (hc : X.calm = true) (tk : Takes X W) (E : EC X.K X.mg ct c x) (hg : Gl X x := by rfl) (hdb : (x == ("__debug__" : Str)) = false := by decide) :
    SS ct X pn W (.Raise (some (.Call (.Name x p) [.Constant (.str m) j p2] [] p3)) none pos) (fun ρ => some (.er c ρ)) := by
  refine PS.imp (ps_raise hc tk (pmk_own PySem.F.excBase_ValueError E.ex E.g E.kp (raises_own E.sub E.ty) hg hdb)) fun D σ H h => ?_
  obtain ⟨F, ρ, f, out, s, e, q⟩ := h
  cases e
  exact q σ F H f (Stp.refl s.wf) s.rep Pin.refl
end

/-! a def that may raise, by its body -/
def dDefX (pn : Nat → Bool) (n m : Nat) (d : Env → Option Out) : FnX := fun os => match d (os.map some ++ List.replicate (m - n) none) with
  | some (.rt o ρ) => some (.ok o (fin pn 0 n ρ))
  | some (.nx ρ) => some (.ok .non (fin pn 0 n ρ))
  | some (.er c ρ) => some (.er c (fin pn 0 n ρ))
  | _ => none
theorem fdx_ok {ct : Nat → Addr} {K : PySem.W.Frag} {P : Program} {w : World} {mg : Str → Option Value} {base : Heap} {x qual : Str} {st : Stmt} {f : Addr} {fd : FuncData} {N ps : List Str} {k : Nat} {pn : Nat → Bool} {d : Env → Option Out} (F : Fun K x qual st f fd) (S : FnScope N ps (defScope st))
    (hb : ∀ (cdv : Value) (A : Around) (outer : List PySem.Env) (s : Shared) (H : Hp) (E : XK), Room k (A.deeper (envOfC qual (defScope st) s.heap.objs.size f cdv)) →
      SSs ct (cxOf (L2.CX P w) P w K mg base N qual (defScope st) f cdv A outer s H E) pn (fun cls d _ H' => E cls d H') (defBody st) d) : FnOk P w K mg base (L2.CX P w) (k + 1) f fd ps (spX ct K ps.length (dDefX pn ps.length N.length d)) := by
  refine F.okX S (fun vs H Q E h => h.1) fun cdv A outer s H vs Q E hr h => ⟨_, hb cdv A outer s H E hr, ?_⟩
  obtain ⟨hl, F0, os, f0, r, wf, rs, e, q⟩ := h
  have hstart : SRep K ct F0 H (os.map some ++ List.replicate (N.length - ps.length) none) (L2.start N vs) f0 := by
    unfold L2.start
    rw [hl]
    exact SRep.start rs
  have pin : ∀ {σ' : L2.St}, Pin pn (L2.start N vs) σ' → ∀ j, pn (0 + j) = true → j < vs.length → σ'[j]? = (vs.map some)[j]? := fun p j hj hjl => by
    rw [Nat.zero_add] at hj
    rw [p.2 j hj]
    unfold L2.start
    rw [List.getElem?_append_left (by simpa using hjl)]
  unfold dDefX at e
  split at e
  · rename_i o ρ' ed
    cases e
    refine ⟨F0, _, f0, _, ⟨wf, hstart⟩, ed, fun v σ' F' H' g f' st r rs' p => ?_⟩
    obtain ⟨gf, h1, h2⟩ := SRep.fin rs' (pin p)
    rw [hl] at h1
    exact q v F' H' g gf (st.sub fun a => by have := h2 a; show g a + gf a ≤ g a + f' a; omega) r h1
  · rename_i ρ' ed
    cases e
    refine ⟨F0, _, f0, _, ⟨wf, hstart⟩, ed, fun σ' F' H' f' st rs' p => ?_⟩
    obtain ⟨gf, h1, h2⟩ := SRep.fin rs' (pin p)
    rw [hl] at h1
    exact q .non F' H' zf gf (st.sub fun a => by have := h2 a; show zf a + gf a ≤ f' a; simpa [zf] using this) ⟨rfl, rfl⟩ h1
  · rename_i c ρ' ed
    cases e
    refine ⟨F0, _, f0, _, ⟨wf, hstart⟩, ed, fun σ' F' H' f' st rs' p => ?_⟩
    obtain ⟨gf, h1, h2⟩ := SRep.fin rs' (pin p)
    rw [hl] at h1
    exact q F' H' gf (st.sub h2) h1
  · cases e
end Mini
namespace Mini
open PySem PySem.Spec PyProof.Rows L2
theorem SRep.clear {K : PySem.W.Frag} {ct : Nat → Addr} {F H : Hp} : ∀ {ρ : Env} {σ : L2.St} {f : Fp} (i : Nat) (x : Option V), SRep K ct F H ρ σ f → ∃ h : Fp, SRep K ct F H (ρ.set i none) (σ.set i x) h ∧ ∀ a, h a ≤ f a
  | [], σ, f, i, x, h => ⟨f, by simpa [SRep] using h, fun _ => Nat.le_refl _⟩
  | none :: ρ, [], _, _, _, h => (show False from h).elim
  | none :: ρ, s :: σ, f, 0, x, h => ⟨f, h, fun _ => Nat.le_refl _⟩
  | none :: ρ, s :: σ, f, i + 1, x, h => by
    obtain ⟨l, h1, h2⟩ := SRep.clear (ρ := ρ) (σ := σ) i x h
    exact ⟨l, h1, h2⟩
  | some o :: ρ, [], _, _, _, h => (show False from h).elim
  | some o :: ρ, none :: σ, _, _, _, h => (show False from h).elim
  | some o :: ρ, some v :: σ, f, 0, x, h => by
    obtain ⟨g, l, r, rs, ef⟩ := (show ∃ g h, Rep K ct F H o v g ∧ SRep K ct F H ρ σ h ∧ f = fun a => g a + h a from h)
    exact ⟨l, rs, fun a => by rw [ef]; exact Nat.le_add_left _ _⟩
  | some o :: ρ, some v :: σ, f, i + 1, x, h => by
    obtain ⟨g, l, r, rs, ef⟩ := (show ∃ g h, Rep K ct F H o v g ∧ SRep K ct F H ρ σ h ∧ f = fun a => g a + h a from h)
    obtain ⟨l', h1, h2⟩ := SRep.clear (ρ := ρ) (σ := σ) i x rs
    exact ⟨fun a => g a + l' a, ⟨g, l', r, h1, rfl⟩, fun a => by rw [ef]; have := h2 a; show g a + l' a ≤ g a + l a; omega⟩
def clr (i : Nat) : Out → Option Out
  | .nx ρ => some (.nx (ρ.set i none))
  | .rt o ρ => some (.rt o (ρ.set i none))
  | .bk ρ => some (.bk (ρ.set i none))
  | .ct ρ => some (.ct (ρ.set i none))
  | .er _ _ => none
def clrO (i : Nat) (d : Option Out) : Option Out := match d with
  | some o => clr i o
  | none => none
open Classical in
noncomputable def pick (i : Nat) (g : Addr → Option Out) : Option Out := if h : ∃ out, ∀ a, clrO i (g a) = some out then some h.choose else none
theorem pick_of {i : Nat} {g : Addr → Option Out} {out : Out} (h : ∀ a, clrO i (g a) = some out) : pick i g = some out := by
  have hx : ∃ out, ∀ a, clrO i (g a) = some out := ⟨out, h⟩
  unfold pick
  rw [dif_pos hx]
  have e1 := hx.choose_spec 0
  rw [h 0] at e1
  exact e1.symm
theorem pick_to {i : Nat} {g : Addr → Option Out} {out : Out} (h : pick i g = some out) : ∀ a, clrO i (g a) = some out := by
  unfold pick at h
  split at h
  · rename_i hx
    cases h
    exact hx.choose_spec
  · cases h
/-- try .. except .. as the name of slot i -/
noncomputable def dTry (isE handles : Nat → Bool) (i : Nat) (db : Env → Option Out) (ds : Nat → Addr → Env → Option Out) : Env → Option Out := fun ρ => match db ρ with
  | some (.er c ρ1) => if isE c = true ∧ i < ρ1.length then (if handles c = true then pick i (fun a => ds c a (ρ1.set i (some (.exc a)))) else some (.er c ρ1)) else none
  | r => r
section
variable {ct : Nat → Addr} {X : Cx} {pn : Nat → Bool} {W : WX} {n x : Str} {C : Addr} {i : Nat} {body suite : List Stmt} {b0 : Stmt} {np pos pos' : Pos} {db : Env → Option Out} {ds : Nat → Addr → Env → Option Out} {isE handles : Nat → Bool}
theorem ss_try (i : Nat) (hs : X.stack = X.env :: X.outer) (hf : X.env.frame = some X.env.locals) (hN : X.N.Nodup) (tk : Takes X W) (hm : X.mg x = some (.ref C)) (hx : ∀ c, isE c = true → PySem.W.exmOne X.K (.ref (ct c)) (.ref C) = some (handles c))
    (hb : ∀ (W' : WX) (pn' : List (Addr × Obj)) (xe : Value → Shared → Prop), Takes (X.tr pn' xe) W' → PassesOwn (model X.prog X.w) X.A X.env xe → SSs ct (X.tr pn' xe) pn W' body db)
    (hsu : ∀ (a : Addr) (oe : Obj) (c : Nat) (pn' : List (Addr × Obj)), isE c = true → Zc (.ref (ct c)) none oe → (∃ vs, oe.data = .fields vs) → SSs ct (X.suite a ((a, oe) :: pn')) pn (fun _ _ _ _ => False) (b0 :: suite) (ds c a))
    (hp : pn i = false := by rfl) (hi : X.N[i]? = some n := by rfl) (hln : X.env.kindOf n = some .local := by rfl) (hg : Gl X x := by rfl) (hdb : (x == ("__debug__" : Str)) = false := by decide) :
    SS ct X pn W (.Try body [.ExceptHandler (some (.Name x np)) (some n) (b0 :: suite) pos'] [] [] pos) (dTry isE handles i db ds) := by
  refine PS.imp (ps_try_as (i := i) (c := .ref C) (tb := fun W' => tSt ct X.K pn W' db) (ts := fun a cls d => fun D σ H => ∃ c, isE c = true ∧ cls = .ref (ct c) ∧ d = none ∧ tSt ct X.K pn (fun _ _ _ _ => False) (ds c a) D σ H)
    hs hf hN hi hln ⟨hg, hdb, .inl hm⟩ tk hb fun a oe cls d pn' hz hv => ⟨fun pins s σ H D I h => ?_⟩) fun D σ H h => ?_
  · obtain ⟨c, hc, rfl, rfl, h⟩ := h
    exact (hsu a oe c pn' hc hz hv).run pins s σ H D I h
  · obtain ⟨F, ρ, f, out, s, e, q⟩ := h
    unfold dTry at e
    split at e
    · rename_i c ρ1 eb
      split at e
      · rename_i hc
        refine ⟨F, ρ, f, _, s, eb, fun σ' F' H' f' st rs p => ?_⟩
        refine ⟨handles c, hx c hc.1, fun hh a ha => ?_, fun hh => ?_⟩
        · rw [if_pos hh] at e
          have ea := pick_to e a
          unfold clrO at ea
          split at ea
          · rename_i oa eoa
            obtain ⟨g1, h1, ef, _, hf'⟩ := SRep.hole i hc.2 rs
            have rs2 := (hf' F' H' (Same.refl _) fun _ _ => rfl).1 (.exc a) (.ref a) zf ⟨rfl, rfl⟩
            have st2 : Stp F H f F' H' (fun b => zf b + h1 b) := st.sub fun b => by rw [ef]; show zf b + h1 b ≤ g1 b + h1 b; simp [zf]
            have p2 : Pin pn σ (σ'.set i (some (.ref a))) := p.trans (Pin.set hp)
            refine ⟨c, hc.1, rfl, rfl, F', _, _, oa, ⟨st2.wf, rs2⟩, eoa, ?_⟩
            have q2 := q.go st2 p2
            cases oa with
            | nx ρ2 =>
              cases ea
              intro σ3 F3 H3 f3 st3 rs3 p3
              obtain ⟨l, c1, c2⟩ := SRep.clear i none rs3
              exact q2 _ F3 H3 l (st3.sub c2) c1 (p3.trans (Pin.set hp))
            | rt o ρ2 =>
              cases ea
              intro v σ3 F3 H3 g3 f3 st3 r3 rs3 p3
              obtain ⟨l, c1, c2⟩ := SRep.clear i none rs3
              exact q2 v _ F3 H3 g3 l (st3.sub fun b => by have := c2 b; show g3 b + l b ≤ g3 b + f3 b; omega) r3 c1 (p3.trans (Pin.set hp))
            | bk ρ2 =>
              cases ea
              intro σ3 F3 H3 f3 st3 rs3 p3
              obtain ⟨l, c1, c2⟩ := SRep.clear i none rs3
              exact q2 _ F3 H3 l (st3.sub c2) c1 (p3.trans (Pin.set hp))
            | ct ρ2 =>
              cases ea
              intro σ3 F3 H3 f3 st3 rs3 p3
              obtain ⟨l, c1, c2⟩ := SRep.clear i none rs3
              exact q2 _ F3 H3 l (st3.sub c2) c1 (p3.trans (Pin.set hp))
            | er c2 ρ2 => cases ea
          · cases ea
        · rw [if_neg (by rw [hh]; exact Bool.false_ne_true)] at e
          cases e
          exact q σ' F' H' f' st rs p
      · cases e
    · rename_i hn
      refine ⟨F, ρ, f, out, s, e, ?_⟩
      cases out with
      | nx ρ' => exact q
      | rt o ρ' => exact q
      | bk ρ' => exact q
      | ct ρ' => exact q
      | er c ρ' => exact absurd e (hn c ρ')
/-- isinstance(e, N) within the suite, e the caught exception -/
def dIsE (i : Nat) (a : Addr) (b : Bool) : Env → Option O := fun ρ => match look ρ i with
  | some (.exc a') => if a' = a then some (.bl b) else none
  | _ => none
theorem sx_isE {a : Addr} {oe : Obj} {pn' : List (Addr × Obj)} {c m : Nat} {y N : Str} {p p1 p2 : Pos} {b : Bool} (i : Nat) (hm : X.mg "isinstance" = none) (hmN : X.mg N = some (.ref (ct m))) (C : ExcC X.K (ct c)) (hz : Zc (.ref (ct c)) none oe) (hf : ∃ vs, oe.data = .fields vs) (hk : PySem.W.kitOne X.K (.ref (ct c)) (.ref (ct m)) = some b)
    (hN : X.N[i]? = some y := by rfl) (hv : Vis X.env.scope y := by first | exact Or.inl rfl | exact Or.inr (Or.inl rfl) | exact Or.inr (Or.inr rfl)) (hd : (y == ("__debug__" : Str)) = false := by decide) (hcd : (y == ("__classdict__" : Str)) = false := by decide)
    (hg : Gl X "isinstance" := by rfl) (hgN : Gl X N := by rfl) (hdN : (N == ("__debug__" : Str)) = false := by decide)
    (he : starEach [.Name y p1, .Name N p2] X.env = (false, eval (.Name y p1) X.env) :: starEach [.Name N p2] X.env := by rfl) :
    SX ct (X.suite a ((a, oe) :: pn')) false (.Call (.Name "isinstance" p) [.Name y p1, .Name N p2] [] pos) (dIsE i a b) := by
  refine PE.imp (pe_callB (X := X.suite a ((a, oe) :: pn')) (call_isE C hz hf) hg hm (by decide +kernel) (pa_cons (pe_var hN hv hd hcd) (pa_cons (pe_glob (v := .ref (ct m)) hgN hmN rfl hdN) pa_nil) he) (by decide) (by decide) he rfl) fun σ H Q h => ?_
  obtain ⟨F, ρ, f, o, s, e, q⟩ := h
  unfold dIsE at e
  split at e
  · rename_i a' ea
    split at e
    · rename_i hh
      cases e
      subst hh
      obtain ⟨v, g, ev, r, _⟩ := s.rep.get ea
      obtain ⟨rfl, _⟩ := r
      exact ⟨_, ev, .ref (ct m), .ref (ct m), b, rfl, fun u hu => hu, hk, q.scal s.wf.le fun _ _ => ⟨rfl, rfl⟩⟩
    · cases e
  · cases e
end
theorem kitR_of {K : PySem.W.Frag} {x y : Addr} {b : Bool} (h : PySem.W.subIn K (.ref x) (.ref y) = some b) (hs : PySem.W.subIn K (.ref x) (.ref x) = some true) (hd : PySem.W.hasDictIn K y = true) (ht : PySem.W.typeIn K (.ref y) = some (.type "type")) : PySem.W.kitOne K (.ref x) (.ref y) = some b := by
  unfold PySem.W.kitOne
  split
  · rename_i e
    have e' : Value.ref x = Value.ref y := eq_of_beq e
    injection e' with e'
    subst e'
    rw [hs] at h
    exact h
  · unfold PySem.W.kitCls
    obtain ⟨cd, hc, _⟩ := PySem.W.any_some hd
    show (if ((PySem.W.clsIn K y).isSome && PySem.W.typeIn K (.ref y) == some (.type "type")) = true then PySem.W.subIn K (.ref x) (.ref y) else none) = some b
    rw [hc, ht]
    simpa using h
end Mini
namespace Mini
open PySem PySem.Spec PyProof.Rows L2
section
variable {ct : Nat → Addr} {X : Cx} {a b c e : Expr} {da db dc d : Env → Option O} {k k1 k2 k3 : Bool} {pos : Pos}
def shlOk0 (i j : Int) : Bool := decide (0 ≤ j) && decide ((Builtin.Int.intBits i : Int) + j ≤ 2 ^ 27)
noncomputable def shlOk := hid shlOk0
theorem shlOk_def : shlOk = shlOk0 := hid_eq _
noncomputable def oShl := intsO shlOk fun i j => .int (i * 2 ^ j.toNat)
theorem sx_shl (ha : SX ct X k1 a da) (hb : SX ct X k2 b db) : SX ct X false (.BinOp a .LShift b pos) (dBin oShl da db) :=
  sx_bin op_shlW (fn2_I (fun i j h => by
    rw [shlOk_def] at h
    unfold shlOk0 at h
    rw [Bool.and_eq_true] at h
    exact ⟨of_decide_eq_true h.1, of_decide_eq_true h.2⟩) fun _ _ _ _ _ => ⟨rfl, rfl⟩) ha hb
def oBits : O → Option O
  | .int i => some (.int (Builtin.Int.intBits i : Nat))
  | _ => none
theorem sx_bits {apos : Pos} (ha : SX ct X k a da) (hbase : attributeBase a "bit_length" X.env (eval a X.env) = eval a X.env := by rfl) (hline : (apos.endLine == pos.line) = true := by rfl) :
    SX ct X false (.Call (.Attribute a "bit_length" apos) [] [] pos) (dBind da oBits) := by
  refine PE.imp (pe_bits ha hbase hline) fun σ H Q h => ?_
  obtain ⟨F, ρ, f, o, s, e, q⟩ := h
  obtain ⟨x, e1, e2⟩ := dBind_some e
  refine ⟨F, ρ, f, x, s, e1, fun u F1 H1 g ex1 r1 gd1 => ?_⟩
  unfold oBits at e2
  split at e2
  · cases e2
    exact ⟨_, r1.1, (q.go (f' := zf) ex1).scal ex1.le fun _ _ => ⟨rfl, rfl⟩⟩
  · cases e2
/-! names of the module -/
structure GC (mg : Str → Option Value) (K : PySem.W.Frag) (ct : Nat → Addr) (x : Str) (o : O) : Prop where
  ex : ∃ v u, mg x = some u ∧ RelV v u ∧ ∀ F H, Rep K ct F H o v zf
theorem sx_glob {x : Str} {o : O} (G : GC X.mg X.K ct x o) (hg : Gl X x := by rfl) (hdb : (x == ("__debug__" : Str)) = false := by decide) : SX ct X false (.Name x pos) (fun _ => some o) := by
  obtain ⟨v, u, hm, r, h⟩ := G.ex
  exact sx_const (pe_glob hg hm r hdb) h
theorem rep_kt {K : PySem.W.Frag} {F H : Hp} {a : Addr} {dd : Option Addr} {us : List Value} {n : Nat} {sl : Array (Option Value)} {os : List O} {xs : List V} (h : K.lookup a = some ⟨.type "tuple", dd, .seq us.toArray n, sl⟩) (hl : us.length ≤ sizeLine) (r : Vals xs us) (rs : Reps K ct F H os xs zf) : Rep K ct F H (.tup os) (.ref a) zf :=
  ⟨a, xs, rfl, .inr ⟨_, us.toArray, n, h, rfl, rfl, by simpa using hl, by simpa using r⟩, rs⟩
theorem rep_kl {K : PySem.W.Frag} {F H : Hp} {a : Addr} {us : List Value} {n : Nat} {sl : Array (Option Value)} {os : List O} {xs : List V} (h : K.lookup a = some ⟨.type "list", none, .seq us.toArray n, sl⟩) (hl : us.length ≤ sizeLine) (r : Vals xs us) (rs : Reps K ct F H os xs zf) : Rep K ct F H (.lst false os) (.ref a) zf :=
  ⟨a, xs, rfl, .inr ⟨_, us.toArray, n, h, rfl, rfl, rfl, by simpa using hl, by simpa using r⟩, rs, rfl⟩
/-! is None -/
def isNon : O → Bool
  | .non => true
  | _ => false
theorem Rep.isN {K : PySem.W.Frag} {F H : Hp} {o : O} {v : V} {f : Fp} (r : Rep K ct F H o v f) : decide (v = .non) = isNon o := by
  cases o with
  | non => obtain ⟨rfl, _⟩ := r; rfl
  | bl b => obtain ⟨rfl, _⟩ := r; rfl
  | int i => obtain ⟨rfl, _⟩ := r; rfl
  | str s => obtain ⟨rfl, _⟩ := r; rfl
  | tup os => obtain ⟨a, xs, rfl, _⟩ := r; rfl
  | exc a => obtain ⟨rfl, _⟩ := r; rfl
  | lst w os => cases w <;> (obtain ⟨a, _, rfl⟩ : ∃ a : Addr, True ∧ v = .ref a := by first | (obtain ⟨a, xs, e, _⟩ := r; exact ⟨a, trivial, e⟩) | (obtain ⟨a, xs, g, e, _⟩ := r; exact ⟨a, trivial, e⟩)) <;> rfl
  | dct w ks os => cases w <;> (obtain ⟨a, _, rfl⟩ : ∃ a : Addr, True ∧ v = .ref a := by first | (obtain ⟨a, xs, e, _⟩ := r; exact ⟨a, trivial, e⟩) | (obtain ⟨a, xs, g, e, _⟩ := r; exact ⟨a, trivial, e⟩)) <;> rfl
  | ins w c ns os => cases w <;> (obtain ⟨a, _, rfl⟩ : ∃ a : Addr, True ∧ v = .ref a := by first | (obtain ⟨a, dx, xs, e, _⟩ := r; exact ⟨a, trivial, e⟩) | (obtain ⟨a, dx, xs, g, e, _⟩ := r; exact ⟨a, trivial, e⟩)) <;> rfl
def oIsN (x y : O) : Option O := match y with
  | .non => some (.bl (isNon x))
  | _ => none
def oNotN (x y : O) : Option O := match y with
  | .non => some (.bl (!isNon x))
  | _ => none
theorem fn2_isN : Fn2 X ct (fun x y H Q => y = .non ∧ Q (.bl (decide (x = .non))) H) oIsN := by
  intro F H x y z u v g h Q le rx ry e q
  unfold oIsN at e
  split at e
  · cases e
    exact ⟨ry.1, by rw [rx.isN]; exact q.scal le fun _ _ => ⟨rfl, rfl⟩⟩
  · cases e
theorem fn2_notN : Fn2 X ct (fun x y H Q => y = .non ∧ Q (.bl (!decide (x = .non))) H) oNotN := by
  intro F H x y z u v g h Q le rx ry e q
  unfold oNotN at e
  split at e
  · cases e
    exact ⟨ry.1, by rw [rx.isN]; exact q.scal le fun _ _ => ⟨rfl, rfl⟩⟩
  · cases e
theorem sx_isN (ha : SX ct X k1 a da) (hb : SX ct X k2 b db) : SX ct X false (.Compare a [.Is] [b] pos) (dBin oIsN da db) := sx_cmp op_isN fn2_isN ha hb (nomark _)
theorem sx_notN (ha : SX ct X k1 a da) (hb : SX ct X k2 b db) : SX ct X false (.Compare a [.IsNot] [b] pos) (dBin oNotN da db) := sx_cmp op_notN fn2_notN ha hb (nomark _)
theorem st_isN (ha : SX ct X k1 a da) (hb : SX ct X k2 b db) : ST ct X (.Compare a [.Is] [b] pos) (dTru oBool (dBin oIsN da db)) := st_cmpG op_isN fn2_isN ha hb (nomark _)
theorem st_notN (ha : SX ct X k1 a da) (hb : SX ct X k2 b db) : ST ct X (.Compare a [.IsNot] [b] pos) (dTru oBool (dBin oNotN da db)) := st_cmpG op_notN fn2_notN ha hb (nomark _)
/-! a op b op' c -/
def dChain (fn fn' : O → O → Option O) (da db dc : Env → Option O) : Env → Option O := fun ρ => match da ρ with
  | some x => match db ρ with
    | some y => match fn x y with
      | some (.bl true) => match dc ρ with
        | some z => fn' y z
        | none => none
      | some (.bl false) => some (.bl false)
      | _ => none
    | none => none
  | none => none
theorem chain_go {r r' : R2} {fn fn' : O → O → Option O} (hr : Fn2 X ct r fn) (hr' : Fn2 X ct r' fn') {σ : L2.St} {H : Hp} {Q : VK} (h : tX ct X.K false (dChain fn fn' da db dc) σ H Q) : tChain r r' (tX ct X.K k1 da) (tX ct X.K k2 db) (tX ct X.K k3 dc) σ H Q := by
  obtain ⟨F, ρ, f, o, s, e, q⟩ := h
  unfold dChain at e
  split at e
  · rename_i x ex
    split at e
    · rename_i y ey
      refine ⟨F, ρ, f, x, s, ex, fun u F1 H1 g ex1 r1 gd1 => ?_⟩
      refine ⟨F1, ρ, f, y, s.ext ex1, ey, fun v F2 H2 h ex2 r2 gd2 => ?_⟩
      split at e
      · rename_i e3
        refine hr F2 H2 x y _ u v g h _ ex2.le (r1.ext ex2) r2 e3 fun w F3 H3 g3 ex3 r3 gd3 => ⟨true, r3.1, ?_⟩
        refine iteT ?_
        split at e
        · rename_i z ez
          refine ⟨F3, ρ, f, z, (s.ext (ex1.trans ex2)).ext ex3, ez, fun t F4 H4 g4 ex4 r4 gd4 => ?_⟩
          exact hr' F4 H4 y z o v t h g4 Q ex4.le (r2.ext (ex3.trans ex4)) r4 e (q.go ((ex1.trans ex2).trans (ex3.trans ex4)))
        · cases e
      · rename_i e3
        cases e
        refine hr F2 H2 x y _ u v g h _ ex2.le (r1.ext ex2) r2 e3 fun w F3 H3 g3 ex3 r3 gd3 => ⟨false, r3.1, ?_⟩
        refine iteF ?_
        exact (q.go (f' := zf) ((ex1.trans ex2).trans ex3)).scal ex3.le fun _ _ => ⟨rfl, rfl⟩
      · cases e
    · cases e
  · cases e
theorem sx_chain {op op' : CmpOp} {r r' : R2} {fn fn' : O → O → Option O} (ho : OpR X (compareOp op) r) (hr : Fn2 X ct r fn) (ho' : OpR X (compareOp op') r') (hr' : Fn2 X ct r' fn') (ha : SX ct X k1 a da) (hb : SX ct X k2 b db) (hc : SX ct X k3 c dc)
    (hm : lastMarks [op, op'] [b, c] = false := by with_unfolding_all rfl) : SX ct X false (.Compare a [op, op'] [b, c] pos) (dChain fn fn' da db dc) :=
  PE.imp (pe_chain ho ho' ha hb hc hm) fun σ H Q h => chain_go hr hr' h
theorem st_chain {op op' : CmpOp} {r r' : R2} {fn fn' : O → O → Option O} (ho : OpR X (compareOp op) r) (hr : Fn2 X ct r fn) (ho' : OpR X (compareOp op') r') (hr' : Fn2 X ct r' fn') (ha : SX ct X k1 a da) (hb : SX ct X k2 b db) (hc : SX ct X k3 c dc)
    (hm : lastMarks [op, op'] [b, c] = false := by with_unfolding_all rfl) : ST ct X (.Compare a [op, op'] [b, c] pos) (dTru oBool (dChain fn fn' da db dc)) := by
  refine PT.imp (pt_chain ho ho' ha hb hc hm) fun σ H Q h => ?_
  obtain ⟨F, ρ, f, b, s, e, q⟩ := h
  unfold dTru at e
  split at e
  · rename_i o e1
    refine chain_go (ct := ct) (X := X) hr hr' (Q := fun x H' => ∃ k, x = V.bl k ∧ Q k H') ⟨F, ρ, f, o, s, e1, fun v F' H' g ex r gd => ?_⟩
    unfold oBool at e
    split at e
    · cases e
      exact ⟨_, r.1, q F' H' ex⟩
    · cases e
  · cases e
/-! x in a list or tuple of plain items -/
def flatO : O → Bool
  | .non => true
  | .bl _ => true
  | .int _ => true
  | .str _ => true
  | _ => false
def eqF : O → O → Bool
  | .non, .non => true
  | .bl a, .bl b => a == b
  | .bl a, .int b => (if a then 1 else 0) == b
  | .int a, .bl b => a == (if b then 1 else 0)
  | .int a, .int b => a == b
  | .str a, .str b => a == b
  | _, _ => false
theorem Rep.flat {K : PySem.W.Frag} {F H : Hp} {o : O} {v : V} {f : Fp} (r : Rep K ct F H o v f) (h : flatO o = true) : flatV v = true := by
  cases o with
  | non => obtain ⟨rfl, _⟩ := r; rfl
  | bl b => obtain ⟨rfl, _⟩ := r; rfl
  | int i => obtain ⟨rfl, _⟩ := r; rfl
  | str s => obtain ⟨rfl, _⟩ := r; rfl
  | _ => cases h
theorem Rep.eqF {K : PySem.W.Frag} {F H : Hp} {o p : O} {v u : V} {f g : Fp} (r : Rep K ct F H o v f) (s : Rep K ct F H p u g) (h : flatO o = true) (h2 : flatO p = true) : eqV v u = Mini.eqF o p := by
  cases o with
  | non => obtain ⟨rfl, _⟩ := r; cases p with
    | non => obtain ⟨rfl, _⟩ := s; rfl
    | bl b => obtain ⟨rfl, _⟩ := s; rfl
    | int i => obtain ⟨rfl, _⟩ := s; rfl
    | str s => obtain ⟨rfl, _⟩ := s; rfl
    | _ => cases h2
  | bl b => obtain ⟨rfl, _⟩ := r; cases p with
    | non => obtain ⟨rfl, _⟩ := s; rfl
    | bl b => obtain ⟨rfl, _⟩ := s; rfl
    | int i => obtain ⟨rfl, _⟩ := s; rfl
    | str s => obtain ⟨rfl, _⟩ := s; rfl
    | _ => cases h2
  | int i => obtain ⟨rfl, _⟩ := r; cases p with
    | non => obtain ⟨rfl, _⟩ := s; rfl
    | bl b => obtain ⟨rfl, _⟩ := s; rfl
    | int i => obtain ⟨rfl, _⟩ := s; rfl
    | str s => obtain ⟨rfl, _⟩ := s; rfl
    | _ => cases h2
  | str s' => obtain ⟨rfl, _⟩ := r; cases p with
    | non => obtain ⟨rfl, _⟩ := s; rfl
    | bl b => obtain ⟨rfl, _⟩ := s; rfl
    | int i => obtain ⟨rfl, _⟩ := s; rfl
    | str s => obtain ⟨rfl, _⟩ := s; rfl
    | _ => cases h2
  | _ => cases h
theorem Reps.inF {K : PySem.W.Frag} {F H : Hp} {p : O} {u : V} {g : Fp} (s : Rep K ct F H p u g) (h2 : flatO p = true) : ∀ {os : List O} {vs : List V} {f : Fp}, Reps K ct F H os vs f → os.all flatO = true → vs.all flatV = true ∧ inV u vs = os.any fun y => Mini.eqF y p
  | [], vs, _, h, _ => by
    obtain ⟨rfl, _⟩ := h
    exact ⟨rfl, rfl⟩
  | o :: os, vs, f, h, z => by
    obtain ⟨v, vr, g1, l, rfl, r, rs, _⟩ := h
    rw [List.all_cons, Bool.and_eq_true] at z
    obtain ⟨i1, i2⟩ := Reps.inF s h2 rs z.2
    refine ⟨by rw [List.all_cons, r.flat z.1, i1]; rfl, ?_⟩
    unfold inV at i2 ⊢
    rw [List.any_cons, List.any_cons, i2, r.eqF s z.1 h2]
def oIn (neg : Bool) (x y : O) : Option O := match y with
  | .tup ys => if (flatO x && ys.all flatO) = true then some (.bl (if neg then !(ys.any fun y => eqF y x) else ys.any fun y => eqF y x)) else none
  | .lst _ ys => if (flatO x && ys.all flatO) = true then some (.bl (if neg then !(ys.any fun y => eqF y x) else ys.any fun y => eqF y x)) else none
  | _ => none
theorem fn2_in (neg : Bool) : Fn2 X ct (rIn X.K neg) (oIn neg) := by
  intro F H x y z u v g h Q le rx ry e q
  unfold oIn at e
  split at e
  · split at e
    · rename_i c
      rw [Bool.and_eq_true] at c
      cases e
      obtain ⟨a, xs, rfl, s, rs⟩ := ry
      obtain ⟨i1, i2⟩ := Reps.inF rx c.1 rs c.2
      refine ⟨a, xs, rfl, .inr (Same.seqT le s), rx.flat c.1, i1, ?_⟩
      rw [i2]
      exact q.scal le fun _ _ => ⟨rfl, rfl⟩
    · cases e
  · split at e
    · rename_i c
      rw [Bool.and_eq_true] at c
      cases e
      obtain ⟨a, xs, g', rfl, s, rs, _⟩ := Rep.list le ry
      obtain ⟨i1, i2⟩ := Reps.inF rx c.1 rs c.2
      refine ⟨a, xs, rfl, .inl s, rx.flat c.1, i1, ?_⟩
      rw [i2]
      exact q.scal le fun _ _ => ⟨rfl, rfl⟩
    · cases e
  · cases e
theorem sx_in (ha : SX ct X k1 a da) (hb : SX ct X k2 b db) (hm : behindInMarks .In b = false := by with_unfolding_all rfl) : SX ct X false (.Compare a [.In] [b] pos) (dBin (oIn false) da db) := sx_cmp op_in_seq (fn2_in false) ha hb hm
theorem sx_nin (ha : SX ct X k1 a da) (hb : SX ct X k2 b db) (hm : behindInMarks .NotIn b = false := by with_unfolding_all rfl) : SX ct X false (.Compare a [.NotIn] [b] pos) (dBin (oIn true) da db) := sx_cmp op_notIn_seq (fn2_in true) ha hb hm
theorem st_in (ha : SX ct X k1 a da) (hb : SX ct X k2 b db) (hm : behindInMarks .In b = false := by with_unfolding_all rfl) : ST ct X (.Compare a [.In] [b] pos) (dTru oBool (dBin (oIn false) da db)) := st_cmpG op_in_seq (fn2_in false) ha hb hm
theorem st_nin (ha : SX ct X k1 a da) (hb : SX ct X k2 b db) (hm : behindInMarks .NotIn b = false := by with_unfolding_all rfl) : ST ct X (.Compare a [.NotIn] [b] pos) (dTru oBool (dBin (oIn true) da db)) := st_cmpG op_notIn_seq (fn2_in true) ha hb hm
/-! new lists and tuples of frozen items -/
theorem Kn.newl {K : PySem.W.Frag} {F H : Hp} {os : List O} {vs : List V} {Q : VK} {p : Addr} {f : Fp} (q : Kn K ct false f F H (.lst true os) Q) (le : Same F H) (r : Reps K ct F H os vs zf) (np : H p = none) : Q (.ref p) (upd H p (.lst vs)) := by
  have hFp : F p = none := le.free np
  have e2 : Ext F H F (upd H p (.lst vs)) :=
    ⟨Same.refl _, fun b o hb => by rw [upd_ne (ne_of_none hb np)]; exact hb, fun b o hb => by rw [upd_ne (ne_of_none hb hFp)]; exact le b o hb, fun a ha => .inl ha⟩
  refine q (.ref p) _ _ (bump p zf) e2 ⟨p, vs, zf, rfl, upd_same, r.ext e2, rfl⟩ (Gd.mkn (fun a => ?_) (fun a z => ?_) fun a z => ?_)
  · by_cases y : a = p
    · simp [bump, y, zf]
    · simp [bump, y, zf]
  · by_cases y : a = p
    · subst y; exact np
    · exact absurd (by simp [bump, y, zf]) z
  · by_cases y : a = p
    · subst y; exact hFp
    · exact absurd (by simp [bump, y, zf]) z
theorem Kn.newt {K : PySem.W.Frag} {F H : Hp} {os : List O} {vs : List V} {Q : VK} {p : Addr} {f : Fp} (q : Kn K ct false f F H (.tup os) Q) (le : Same F H) (r : Reps K ct F H os vs zf) (np : H p = none) : Q (.ref p) (upd H p (.tup vs)) := by
  have hFp : F p = none := le.free np
  have e2 : Ext F H (upd F p (.tup vs)) (upd H p (.tup vs)) := by
    refine ⟨fun b o hb => by rw [upd_ne (ne_of_none hb hFp)]; exact hb, fun b o hb => by rw [upd_ne (ne_of_none hb np)]; exact hb, fun b o hb => ?_, fun a ha => ?_⟩
    · by_cases y : b = p
      · subst y; rw [upd_same] at hb ⊢; exact hb
      · rw [upd_ne y] at hb ⊢; exact le b o hb
    · by_cases y : a = p
      · subst y; exact .inr np
      · rw [upd_ne y] at ha; exact .inl ha
  exact q (.ref p) _ _ zf e2 ⟨p, vs, rfl, .inl (.inl upd_same), r.ext e2⟩ Gd.zero
def oList : O → Option O
  | .lst _ os => if isFzs os = true then some (.lst true os) else none
  | .tup os => if isFzs os = true then some (.lst true os) else none
  | _ => none
theorem sx_list {p : Pos} (hm : X.mg "list" = none) (ha : SX ct X k1 a da) (hg : Gl X "list" := by rfl) (he : starEach [a] X.env = [(false, eval a X.env)] := by rfl) : SX ct X false (.Call (.Name "list" p) [a] [] pos) (dBind da oList) := by
  refine sx_t1 call_list_of ?_ hm (by decide +kernel) ha hg (by decide) (by decide) he
  intro F H x z u g Q le r e q
  unfold oList at e
  split at e
  · split at e
    · cases e
      obtain ⟨a, xs, g', rfl, s, rs, _⟩ := Rep.list le r
      have ez := rs.fz0 (by assumption)
      subst ez
      exact ⟨a, xs, rfl, .inl s, fun l nl => q.newl le rs nl⟩
    · cases e
  · split at e
    · cases e
      obtain ⟨a, xs, rfl, s, rs⟩ := r
      have ez := rs.fz0 (by assumption)
      subst ez
      exact ⟨a, xs, rfl, .inr (Same.seqT le s), fun l nl => q.newl le rs nl⟩
    · cases e
  · cases e
def oTuple : O → Option O
  | .lst _ os => if isFzs os = true then some (.tup os) else none
  | .tup os => if isFzs os = true then some (.tup os) else none
  | _ => none
theorem sx_tuple {p : Pos} (hm : X.mg "tuple" = none) (ha : SX ct X k1 a da) (hg : Gl X "tuple" := by rfl) (he : starEach [a] X.env = [(false, eval a X.env)] := by rfl) : SX ct X false (.Call (.Name "tuple" p) [a] [] pos) (dBind da oTuple) := by
  refine sx_t1 call_tuple_of ?_ hm (by decide +kernel) ha hg (by decide) (by decide) he
  intro F H x z u g Q le r e q
  unfold oTuple at e
  split at e
  · split at e
    · cases e
      obtain ⟨a, xs, g', rfl, s, rs, _⟩ := Rep.list le r
      have ez := rs.fz0 (by assumption)
      subst ez
      exact ⟨a, xs, rfl, .inl ⟨s, fun l nl => q.newt le rs nl⟩⟩
    · cases e
  · split at e
    · cases e
      obtain ⟨a, xs, rfl, s, rs⟩ := r
      have ez := rs.fz0 (by assumption)
      subst ez
      exact ⟨a, xs, rfl, .inr ⟨Same.seqT le s, q _ F H zf (Ext.refl le) ⟨a, xs, rfl, s, rs⟩ Gd.zero⟩⟩
    · cases e
  · cases e
end
end Mini
namespace Mini
open PySem PySem.Spec PyProof.Rows L2
/-! + and * of ints, texts, lists, tuples -/
theorem OpR.or {X : Cx} {f : Value → Value → Sem Value} {r r' : R2} (h : OpR X f r) (h' : OpR X f r') : OpR X f (fun x y H Q => r x y H Q ∨ r' x y H Q) := by
  intro pins s σ H x y v u Q I rx ry q
  rcases q with q | q
  · exact h pins s σ H x y v u Q I rx ry q
  · exact h' pins s σ H x y v u Q I rx ry q
def rCatL (K : PySem.W.Frag) : R2 := fun x y H Q => ∃ a b xs ys, x = .ref a ∧ y = .ref b ∧ SqL K H a xs ∧ SqL K H b ys ∧ xs.length + ys.length ≤ sizeLine ∧ ∀ p, H p = none → Q (.ref p) (upd H p (.lst (xs ++ ys)))
def rRepL (K : PySem.W.Frag) : R2 := fun x y H Q => ∃ a k xs, x = .ref a ∧ y = .int k ∧ SqL K H a xs ∧ -(2 ^ 63) ≤ k ∧ k < 2 ^ 63 ∧ xs.length * k.toNat ≤ sizeLine ∧ ∀ p, H p = none → Q (.ref p) (upd H p (.lst (List.replicate k.toNat xs).flatten))
section
variable {X : Cx}
theorem op_catL : OpR X (binaryOp .Add) (rCatL X.K) := by
  intro pins s σ H x y v u Q I rx ry h
  obtain ⟨a, b, xs, ys, rfl, rfl, ha, hb, hz, q⟩ := h
  cases rx
  cases ry
  obtain ⟨its, r1, ⟨⟨cls, dd, data, sl⟩, n, ho, hc, hdn, hd⟩, _⟩ := I.list ha
  obtain ⟨its2, r2, ⟨⟨cls2, dd2, data2, sl2⟩, n2, ho2, hc2, hdn2, hd2⟩, _⟩ := I.list hb
  simp only at hc hd hc2 hd2
  subst hc hd hc2 hd2
  have e : its.toArray ++ its2.toArray = (its ++ its2).toArray := by simp
  have el := r1.length
  have el2 := r2.length
  refine concat_meets ⟨_, ho, rfl⟩ ⟨_, ho2, rfl⟩ noFill_list_add seq_list_add PySem.F.slot_list_add PySem.F.entry_list_add (PySem.F.args_list_add_2 _ _) (list_addW a b its.toArray its2.toArray n n2 dd dd2 sl sl2 (by rw [List.size_toArray, List.size_toArray]; omega)) ⟨ho, ho2, ?_⟩
  rw [e]
  exact ⟨.ref _, _, I.lnew (t' := s.toks) (r1.append r2) (by rw [List.length_append]; exact hz), rfl, q _ I.fresh⟩
theorem op_repL : OpR X (binaryOp .Mult) (rRepL X.K) := by
  intro pins s σ H x y v u Q I rx ry h
  obtain ⟨a, k, xs, rfl, rfl, ha, h1, h2, hz, q⟩ := h
  cases rx
  obtain ⟨t, rfl⟩ := ry
  obtain ⟨its, r1, ⟨⟨cls, dd, data, sl⟩, n, ho, hc, hdn, hd⟩, _⟩ := I.list ha
  simp only at hc hd
  subst hc hd
  have el := r1.length
  have hsl := sizeLine_eq
  have hz' : its.toArray.size * k.toNat ≤ sizeLine := by rw [List.size_toArray, ← el]; exact hz
  refine wpAny_binaryOp_repeat_ref (T := "list") (U := "int") (by decide) ⟨_, ho, rfl⟩ (fun s' => typeIs_int s' k t) noFill_list_mul F.fills_int_mul F.slot_int_rmul repeat_list F.slot_int_index.lookup
    (call_meets F.slot_int_rmul (typeIs_int s k t) F.entry_int_rmul (F.args_int_rmul_2 _ _) (lm_int_rmul_list_any k t a its.toArray n dd sl)
      ⟨ho, rfl, ⟨_, ho, rfl⟩, call_meets F.slot_list_mul ⟨_, ho, rfl⟩ F.entry_list_mul (F.args_list_mul_2 _ _)
        (lm_list_mul_any a its.toArray n dd sl k t (by rw [fitsIndex_both h1 h2]; exact Bool.false_ne_true) (by omega) (by simp only [Builtin.List.listTooLong, decide_eq_true_eq]; omega))
        ⟨ho, ?_⟩⟩)
  rw [listMul_foldl_if]
  exact ⟨.ref _, _, I.lnew (t' := s.toks) (r1.rep k.toNat) (by rw [PyProof.Rows.lm_len_rep_flat, Nat.mul_comm]; exact hz), rfl, q _ I.fresh⟩
end
theorem Reps.append {K : PySem.W.Frag} {ct : Nat → Addr} {F H : Hp} : ∀ {os : List O} {vs : List V} {os' : List O} {vs' : List V}, Reps K ct F H os vs zf → Reps K ct F H os' vs' zf → Reps K ct F H (os ++ os') (vs ++ vs') zf
  | [], vs, os', vs', h, h' => by rw [show vs = [] from h.1]; exact h'
  | o :: os, vs, os', vs', h, h' => by
    obtain ⟨v, vr, g, l, ev, r, rs, ef⟩ := h
    have eg : g = zf := funext fun a => by have : 0 = g a + l a := congrFun ef a; show g a = 0; omega
    have el : l = zf := funext fun a => by have : 0 = g a + l a := congrFun ef a; show l a = 0; omega
    subst ev eg el
    exact ⟨v, vr ++ vs', zf, zf, rfl, r, Reps.append rs h', rfl⟩
theorem Reps.rep {K : PySem.W.Frag} {ct : Nat → Addr} {F H : Hp} {os : List O} {vs : List V} (h : Reps K ct F H os vs zf) : ∀ k : Nat, Reps K ct F H (List.replicate k os).flatten (List.replicate k vs).flatten zf
  | 0 => ⟨rfl, rfl⟩
  | k + 1 => by
    rw [List.replicate_succ, List.replicate_succ, List.flatten_cons, List.flatten_cons]
    exact Reps.append h (Reps.rep h k)
noncomputable def lineOk : Nat → Bool := hid fun n => decide (n ≤ sizeLine)
theorem lineOk_iff {n : Nat} : lineOk n = true ↔ n ≤ sizeLine := by
  unfold lineOk
  rw [hid_eq]
  exact decide_eq_true_iff
theorem lineOk_n {n : Nat} (h : n ≤ 16777216) : lineOk n = true := by rw [lineOk_iff, sizeLine_eq]; exact h
noncomputable def oAdd : O → O → Option O
  | .int i, .int j => some (.int (i + j))
  | .str a, .str b => if lineOk (a.length + b.length) = true then some (.str (a ++ b)) else none
  | .lst _ xs, .lst _ ys => if (isFzs xs && isFzs ys && lineOk (xs.length + ys.length)) = true then some (.lst true (xs ++ ys)) else none
  | .tup xs, .tup ys => if (isFzs xs && isFzs ys && lineOk (xs.length + ys.length)) = true then some (.tup (xs ++ ys)) else none
  | _, _ => none
noncomputable def oMul : O → O → Option O
  | .int i, .int j => if mulOk i j = true then some (.int (i * j)) else none
  | .lst _ xs, .int k => if (isFzs xs && rOk k && lineOk (xs.length * k.toNat)) = true then some (.lst true (List.replicate k.toNat xs).flatten) else none
  | _, _ => none
section
variable {ct : Nat → Addr} {X : Cx} {a b : Expr} {da db : Env → Option O} {k1 k2 : Bool} {pos : Pos}
theorem fn2_add : Fn2 X ct (fun x y H Q => (rI0 (fun i j => .int (i + j)) x y H Q ∨ (∃ i j, x = .str i ∧ y = .str j ∧ i.length + j.length ≤ sizeLine ∧ Q (.str (i ++ j)) H)) ∨ (rCatL X.K x y H Q ∨ rCatA X.K x y H Q)) oAdd := by
  intro F H x y z u v g h Q le rx ry e q
  unfold oAdd at e
  split at e
  · cases e
    exact .inl (.inl ⟨_, _, rx.1, ry.1, q.scal le fun _ _ => ⟨rfl, rfl⟩⟩)
  · split at e
    · rename_i c
      cases e
      exact .inl (.inr ⟨_, _, rx.1, ry.1, lineOk_iff.mp c, q.scal le fun _ _ => ⟨rfl, rfl⟩⟩)
    · cases e
  · split at e
    · rename_i c
      rw [Bool.and_eq_true, Bool.and_eq_true] at c
      cases e
      obtain ⟨p, xs, gx, rfl, s1, r1, _⟩ := Rep.list le rx
      obtain ⟨p', ys, gy, rfl, s2, r2, _⟩ := Rep.list le ry
      have e1 := r1.fz0 c.1.1
      have e2 := r2.fz0 c.1.2
      subst e1 e2
      exact .inr (.inl ⟨p, p', xs, ys, rfl, rfl, s1, s2, by rw [← r1.length, ← r2.length]; exact lineOk_iff.mp c.2, fun l nl => q.newl le (r1.append r2) nl⟩)
    · cases e
  · split at e
    · rename_i c
      rw [Bool.and_eq_true, Bool.and_eq_true] at c
      cases e
      obtain ⟨p, xs, rfl, s1, r1⟩ := rx
      obtain ⟨p', ys, rfl, s2, r2⟩ := ry
      have e1 := r1.fz0 c.1.1
      have e2 := r2.fz0 c.1.2
      subst e1 e2
      refine .inr (.inr ⟨p, p', xs, ys, rfl, rfl, Same.seqT le s1, Same.seqT le s2, by rw [← r1.length, ← r2.length]; exact lineOk_iff.mp c.2, fun z => ?_, fun _ z => ?_, fun _ _ l nl => q.newt le (r1.append r2) nl⟩)
      · subst z
        have l0 := r1.length
        simp at l0
        subst l0
        rw [List.nil_append] at q
        exact q _ F H zf (Ext.refl le) ⟨p', ys, rfl, s2, r2⟩ Gd.zero
      · subst z
        have l0 := r2.length
        simp at l0
        subst l0
        rw [List.append_nil] at q
        exact q _ F H zf (Ext.refl le) ⟨p, xs, rfl, s1, r1⟩ Gd.zero
    · cases e
  · cases e
theorem sx_add (ha : SX ct X k1 a da) (hb : SX ct X k2 b db) : SX ct X false (.BinOp a .Add b pos) (dBin oAdd da db) := sx_bin ((op_add.or op_add_str).or (op_catL.or op_catA)) fn2_add ha hb
theorem fn2_mul : Fn2 X ct (fun x y H Q => rI (fun i j => mulOk i j = true) (fun i j => .int (i * j)) x y H Q ∨ rRepL X.K x y H Q) oMul := by
  intro F H x y z u v g h Q le rx ry e q
  unfold oMul at e
  split at e
  · split at e
    · rename_i c
      cases e
      exact .inl ⟨_, _, rx.1, ry.1, c, q.scal le fun _ _ => ⟨rfl, rfl⟩⟩
    · cases e
  · split at e
    · rename_i c
      rw [Bool.and_eq_true, Bool.and_eq_true] at c
      cases e
      obtain ⟨p, xs, gx, rfl, s1, r1, _⟩ := Rep.list le rx
      have e1 := r1.fz0 c.1.1
      subst e1
      have b := rOk_b c.1.2
      exact .inr ⟨p, _, xs, rfl, ry.1, s1, by omega, by omega, by rw [← r1.length]; exact lineOk_iff.mp c.2, fun l nl => q.newl le (r1.rep _) nl⟩
    · cases e
  · cases e
theorem sx_mul (ha : SX ct X k1 a da) (hb : SX ct X k2 b db) : SX ct X false (.BinOp a .Mult b pos) (dBin oMul da db) := sx_bin (op_mulM.or op_repL) fn2_mul ha hb
theorem oAdd_l (w w' : Bool) (xs ys : List O) : oAdd (.lst w xs) (.lst w' ys) = if (isFzs xs && isFzs ys && lineOk (xs.length + ys.length)) = true then some (.lst true (xs ++ ys)) else none := rfl
theorem oAdd_t (xs ys : List O) : oAdd (.tup xs) (.tup ys) = if (isFzs xs && isFzs ys && lineOk (xs.length + ys.length)) = true then some (.tup (xs ++ ys)) else none := rfl
theorem oMul_l (w : Bool) (xs : List O) (k : Int) : oMul (.lst w xs) (.int k) = if (isFzs xs && rOk k && lineOk (xs.length * k.toNat)) = true then some (.lst true (List.replicate k.toNat xs).flatten) else none := rfl
end
end Mini
namespace Mini
open PySem PySem.Spec PyProof.Rows L2
def wipeE (ρ : Env) : List Nat → Env
  | [] => ρ
  | v :: vs => (wipeE ρ vs).set v none
theorem SRep.wipe {K : PySem.W.Frag} {ct : Nat → Addr} {F H : Hp} {ρ : Env} {σ : L2.St} {f : Fp} (h : SRep K ct F H ρ σ f) : ∀ vs : List Nat, ∃ l : Fp, SRep K ct F H (wipeE ρ vs) (L2.wipe σ vs) l ∧ ∀ a, l a ≤ f a
  | [] => ⟨f, h, fun _ => Nat.le_refl _⟩
  | v :: vs => by
    obtain ⟨l, h1, h2⟩ := SRep.wipe h vs
    obtain ⟨l', h3, h4⟩ := SRep.clear v none h1
    exact ⟨l', h3, fun a => Nat.le_trans (h4 a) (h2 a)⟩
theorem wipe_get {σ : L2.St} {j : Nat} : ∀ {vs : List Nat}, j ∉ vs → (L2.wipe σ vs)[j]? = σ[j]?
  | [], _ => rfl
  | v :: vs, h => by
    rw [List.mem_cons, not_or] at h
    unfold L2.wipe
    rw [List.getElem?_set_ne (fun e => h.1 e.symm), wipe_get h.2]
theorem wipe_in {σ : L2.St} {j : Nat} : ∀ {vs : List Nat}, j ∈ vs → (L2.wipe σ vs)[j]? = if j < σ.length then some none else none
  | v :: vs, h => by
    unfold L2.wipe
    by_cases e : v = j
    · subst e
      by_cases hl : v < σ.length
      · rw [List.getElem?_set_self (by rw [L2.wipe_length]; exact hl), if_pos hl]
      · rw [if_neg hl, List.getElem?_eq_none (by rw [List.length_set, L2.wipe_length]; omega)]
    · rw [List.getElem?_set_ne e]
      rcases List.mem_cons.mp h with q | q
      · exact absurd q.symm e
      · exact wipe_in q
def pnOf (vs : List Nat) : Nat → Bool := fun j => !(vs.contains j)
theorem wipe_same {σ σ2 : L2.St} {vs : List Nat} (p : Pin (pnOf vs) (L2.wipe σ vs) σ2) : L2.wipe σ2 vs = L2.wipe σ vs := by
  apply List.ext_getElem?
  intro j
  by_cases h : j ∈ vs
  · rw [wipe_in h, wipe_in h, p.1, L2.wipe_length]
  · rw [wipe_get h]
    refine p.2 j ?_
    unfold pnOf
    simp [h]
def lLc (dg : O → Env → Option Env) (dc : Env → Option Bool) (de : Env → Option O) (ρ : Env) : List O → Option (List O)
  | [] => some []
  | o :: os => match dg o ρ with
    | some ρ1 => match dc ρ1 with
      | some true => match de ρ1 with
        | some r => match lLc dg dc de ρ os with
          | some rs => some (r :: rs)
          | none => none
        | none => none
      | some false => lLc dg dc de ρ os
      | none => none
    | none => none
def dLc (di : Env → Option (List O)) (dg : O → Env → Option Env) (dc : Env → Option Bool) (de : Env → Option O) (vs : List Nat) : Env → Option O := fun ρ => match di ρ with
  | some os => if os.length ≤ sizeLine then (match lLc dg dc de (wipeE ρ vs) os with
    | some rs => some (.lst true rs)
    | none => none) else none
  | none => none
def dYes : Env → Option Bool := fun _ => some true
section
variable {ct : Nat → Addr} {X : Cx} {tg iter elt : Expr} {ifs : List Expr} {di : Env → Option (List O)} {dg : O → Env → Option Env} {dc : Env → Option Bool} {de : Env → Option O} {scope : Scope} {own : List (Str × Nat)} {pos spos : Pos}
def STs (ct : Nat → Addr) (X : Cx) (ifs : List Expr) (d : Env → Option Bool) : Prop := PTs X ifs (tT ct X.K d)
theorem PTs.imp {X : Cx} {e : List Expr} {t t' : TT} (h : PTs X e t) (i : ∀ σ H Q, t' σ H Q → t σ H Q) : PTs X e t' :=
  ⟨fun pins s σ H Q I hq => h.run pins s σ H Q I (i σ H Q hq)⟩
theorem sts_nil : STs ct X [] dYes := PTs.imp pts_nil fun σ H Q h => by
  obtain ⟨F, ρ, f, b, s, e, q⟩ := h
  cases e
  exact q F H (Ext.refl s.wf.le)
theorem sts_one {c : Expr} (h : ST ct X c dc) : STs ct X [c] dc := pts_one h
/-- what a comprehension makes -/
theorem lc_go {K : PySem.W.Frag} {wi : TI} {g : TG} {tt : TT} {te : TE} (vs : List Nat) (hi : ∀ σ H R, tI ct K di σ H R → wi σ H R) (hg : ∀ v σ H Q, tGt ct K (pnOf vs) dg v σ H Q → g v σ H Q) (ht : ∀ σ H Q, tT ct K dc σ H Q → tt σ H Q) (he : ∀ σ H Q, tX ct K false de σ H Q → te σ H Q)
    {σ : L2.St} {H : Hp} {Q : VK} (h : tX ct K false (dLc di dg dc de vs) σ H Q) : tLc wi g tt te vs σ H Q := by
  obtain ⟨F, ρ, f, out, s, e, q⟩ := h
  unfold dLc at e
  split at e
  · rename_i os eo
    split at e
    · rename_i hsz
      split at e
      · rename_i rs er
        cases e
        refine hi _ _ _ ⟨F, ρ, f, os, s, eo, fun J F1 H1 ex1 wk => ?_⟩
        intro D hD
        have hD0 : H D = none := ex1.hH.free hD
        refine ⟨fun i m H' => m = os.length - i ∧ i ≤ os.length ∧ ∃ F' acc accO g rest, Ext F H F' H' ∧ Same F1 F' ∧ F' D = none ∧ H' D = some (.lst acc) ∧ Reps K ct F' H' accO acc g ∧ Gd false f H F' g ∧ g D = 0 ∧ accO.length ≤ i ∧ lLc dg dc de (wipeE ρ vs) (os.drop i) = some rest ∧ rs = accO ++ rest,
          ⟨os.length, rfl, Nat.zero_le _, F1, [], [], zf, rs, ?_, Same.refl _, ex1.le.free hD, upd_same, ⟨rfl, rfl⟩, Gd.zero, rfl, Nat.le_refl _, er, rfl⟩, ?_⟩
        · exact ⟨ex1.hF, fun b o hb => by rw [upd_ne (ne_of_none hb hD0)]; exact ex1.hH b o hb, fun b o hb => by rw [upd_ne (ne_of_none hb (ex1.le.free hD))]; exact ex1.le b o hb, ex1.new⟩
        · rintro i m H' ⟨rfl, hi', F', acc, accO, g, rest, ex, hF', hFD, hHD, ra, gd, gD, hlen, el, ers⟩
          obtain ⟨hst, hgo⟩ := wk F' H' hF' ex.le i
          by_cases hlt : i < os.length
          · have ho : os[i]? = some os[i] := List.getElem?_eq_getElem hlt
            obtain ⟨go, hy⟩ := hgo _ ho
            have ed : os.drop i = os[i] :: os.drop (i + 1) := List.drop_eq_getElem_cons hlt
            rw [ed, lLc] at el
            refine .inr ⟨go, fun H'' => i + 1 ≤ os.length ∧ ∃ F' acc accO g rest, Ext F H F' H'' ∧ Same F1 F' ∧ F' D = none ∧ H'' D = some (.lst acc) ∧ Reps K ct F' H'' accO acc g ∧ Gd false f H F' g ∧ g D = 0 ∧ accO.length ≤ i + 1 ∧ lLc dg dc de (wipeE ρ vs) (os.drop (i + 1)) = some rest ∧ rs = accO ++ rest,
              fun H'' n => ⟨os.length - (i + 1), by omega, rfl, n.1, n.2⟩, fun x H3 y => ?_⟩
            obtain ⟨F3, ex3, r3⟩ := hy x H3 y
            cases e1 : dg os[i] (wipeE ρ vs) with
            | none => rw [e1] at el; cases el
            | some ρ1 =>
              rw [e1] at el
              dsimp only at el
              have s3 := (s.ext ex).ext ex3
              obtain ⟨fw, rw_, lw⟩ := s3.rep.wipe vs
              have wf3 : Wf F3 H3 fw := s3.wf.sub lw
              refine hg _ _ _ _ ⟨F3, wipeE ρ vs, fw, zf, os[i], ρ1, ⟨wf3, rw_⟩, r3, wf3.sub fun a => (by show fw a + zf a ≤ fw a; simp [zf]), e1, fun σ2 f2 rs2 l2 p2 => ⟨wipe_same p2, ?_⟩⟩
              have s2 : Sit K ct F3 H3 ρ1 σ2 f2 := ⟨wf3.sub fun a => by have := l2 a; simpa [zf] using this, rs2⟩
              have exA := ex.trans ex3
              have own3 : ∀ {F5 H5 : Hp}, Ext F3 H3 F5 H5 → F5 D = none ∧ H5 D = some (.lst acc) := fun {F5 H5} e5 => by
                have hH5 : H5 D = some (.lst acc) := e5.hH D _ (ex3.hH D _ hHD)
                refine ⟨none_of_nn fun z => ?_, hH5⟩
                rcases (ex3.trans e5).new D z with y | y
                · exact y hFD
                · rw [hHD] at y; cases y
              cases e2 : dc ρ1 with
              | none => rw [e2] at el; cases el
              | some b =>
                rw [e2] at el
                refine ht _ _ _ ⟨F3, ρ1, f2, b, s2, e2, fun F4 H4 ex4 => ?_⟩
                cases b with
                | false =>
                  refine iteF ?_
                  obtain ⟨d1, d2⟩ := own3 ex4
                  have ex4' := exA.trans ex4
                  refine ⟨hlt, F4, acc, accO, g, rest, ex4', hF'.trans (ex3.hF.trans ex4.hF), d1, d2, (ra.ext ex3).ext ex4, ?_, gD, by omega, el, ers⟩
                  obtain ⟨n1, n2, n3⟩ := gd.n
                  refine Gd.mkn n1 n2 fun a z => none_of_nn fun w => ?_
                  rcases (ex3.trans ex4).new a w with w | w
                  · exact w (n3 a z)
                  · obtain ⟨u, hu, _⟩ := ra.mem a z
                    rw [w] at hu; cases hu
                | true =>
                  refine iteT ?_
                  dsimp only at el
                  cases e3 : de ρ1 with
                  | none => rw [e3] at el; cases el
                  | some r =>
                    rw [e3] at el
                    dsimp only at el
                    cases e4 : lLc dg dc de (wipeE ρ vs) (os.drop (i + 1)) with
                    | none => rw [e4] at el; cases el
                    | some rest' =>
                      rw [e4] at el
                      cases el
                      refine he _ _ _ ⟨F4, ρ1, f2, r, s2.ext ex4, e3, fun yv F5 H5 gy ex5 ry gdy => ?_⟩
                      have ex45 := ex4.trans ex5
                      obtain ⟨d1, d2⟩ := own3 ex45
                      have ex5' := exA.trans ex45
                      have ra5 := ((ra.ext ex3).ext ex4).ext ex5
                      obtain ⟨n1, n2, n3⟩ := gd.n
                      obtain ⟨y1, y2, y3⟩ := gdy.n
                      have gyD : gy D = 0 := Classical.byContradiction fun z => by
                        have := y2 D z
                        rw [ex4.hH D _ (ex3.hH D _ hHD)] at this; cases this
                      have g5 : ∀ a, g a ≠ 0 → F5 a = none := fun a z => none_of_nn fun w => by
                        rcases (ex3.trans ex45).new a w with w | w
                        · exact w (n3 a z)
                        · obtain ⟨u, hu, _⟩ := ra.mem a z
                          rw [w] at hu; cases hu
                      have sep : ∀ a, g a ≠ 0 → gy a = 0 := fun a z => Classical.byContradiction fun w => by
                        obtain ⟨u, hu, _⟩ := ra.mem a z
                        have := y2 a w
                        rw [(ex3.trans ex4).hH a _ hu] at this; cases this
                      refine ⟨acc, d2, ?_, hlt, F5, acc ++ [yv], accO ++ [r], fun a => g a + gy a, rest', ?_, hF'.trans (ex3.hF.trans ex45.hF), d1, upd_same, ?_, Gd.mkn (fun a => ?_) (fun a z => ?_) (fun a z => ?_), by simp [gD, gyD], by rw [List.length_append, List.length_singleton]; omega, rfl, by rw [ers, List.append_assoc]; rfl⟩
                      · rw [← ra.length]; omega
                      · exact ⟨ex5'.hF, fun b o hb => by rw [upd_ne (ne_of_none hb hD0)]; exact ex5'.hH b o hb, fun b o hb => by rw [upd_ne (ne_of_none hb d1)]; exact ex5'.le b o hb, ex5'.new⟩
                      · have ag : ∀ b, g b ≠ 0 → (upd H5 D (.lst (acc ++ [yv]))) b = H5 b := fun b z => upd_ne fun w => by subst w; exact z gD
                        have ag2 : ∀ b, gy b ≠ 0 → (upd H5 D (.lst (acc ++ [yv]))) b = H5 b := fun b z => upd_ne fun w => by subst w; exact z gyD
                        exact Reps.app (Reps.mono (Same.refl _) ag ra5) (Reps.one (Rep.mono (Same.refl _) ag2 ry))
                      · have t1 := n1 a
                        have t2 := y1 a
                        have t3 := sep a
                        show g a + gy a ≤ 1
                        omega
                      · by_cases w : g a = 0
                        · exact (exA.trans ex4).hH.free (y2 a (by have z' : g a + gy a ≠ 0 := z; omega))
                        · exact n2 a w
                      · by_cases w : g a = 0
                        · exact y3 a (by have z' : g a + gy a ≠ 0 := z; omega)
                        · exact g5 a w
          · have ei : i = os.length := by omega
            subst ei
            rw [List.drop_length] at el
            cases el
            rw [List.append_nil] at ers
            subst ers
            obtain ⟨n1, n2, n3⟩ := gd.n
            refine .inl ⟨hst (Nat.le_refl _), q (.ref D) F' H' (bump D g) ex ⟨D, acc, g, rfl, hHD, ra, rfl⟩ (Gd.mkn (fun a => ?_) (fun a z => ?_) fun a z => ?_)⟩
            · by_cases y : a = D
              · subst y; simp [bump, gD]
              · have := n1 a; simp [bump, y, this]
            · by_cases y : a = D
              · subst y; exact hD0
              · exact n2 a (by simpa [bump, y] using z)
            · by_cases y : a = D
              · subst y; exact hFD
              · exact n3 a (by simpa [bump, y] using z)
      · cases e
    · cases e
  · cases e
theorem sx_lc (own : List (Str × Nat)) (hc : X.calm = true) (hN : X.N.Nodup) (hi : SI ct X tg iter di) (ok : BlkOk X.N X.env.scope scope own)
    (hg : ∀ (s : Shared) (H : Hp) (C : Addr) (cl : List (Str × Addr)) (fp : List Addr), SG ct (X.blk s H scope (compEnvC scope cl C X.env) fp) (pnOf (own.map (·.2))) tg dg)
    (ht : ∀ (s : Shared) (H : Hp) (C : Addr) (cl : List (Str × Addr)) (fp : List Addr), STs ct (X.blk s H scope (compEnvC scope cl C X.env) fp) ifs dc)
    (he : ∀ (s : Shared) (H : Hp) (C : Addr) (cl : List (Str × Addr)) (fp : List Addr), SX ct (X.blk s H scope (compEnvC scope cl C X.env) fp) false elt de) (hs : ∀ x, foldedSetIterable iter X.env x = pure x := by intro _; rfl) :
    SX ct X false (.ListComp elt [⟨tg, iter, ifs, 0⟩] scope pos) (dLc di dg dc de (own.map (·.2))) :=
  PE.imp (pe_lc (own := own) (wi := tI ct X.K di) (g := tGt ct X.K (pnOf (List.map Prod.snd own)) dg) (tt := tT ct X.K dc) (te := tX ct X.K false de) hc hN hi ok hg ht he hs) fun σ H Q h => lc_go _ (fun _ _ _ z => z) (fun _ _ _ _ z => z) (fun _ _ _ z => z) (fun _ _ _ z => z) h
/-- y = [..] on one line -/
theorem ss_setLc {pn : Nat → Bool} {W : WX} (i : Nat) (own : List (Str × Nat)) {y : Str} {py : Pos} (hc : X.calm = true) (hN : X.N.Nodup) (hi : SI ct X tg iter di) (ok : BlkOk X.N X.env.scope scope own)
    (hg : ∀ (s : Shared) (H : Hp) (C : Addr) (cl : List (Str × Addr)) (fp : List Addr), SG ct (X.blk s H scope (compEnvC scope cl C X.env) fp) (pnOf (own.map (·.2))) tg dg)
    (ht : ∀ (s : Shared) (H : Hp) (C : Addr) (cl : List (Str × Addr)) (fp : List Addr), STs ct (X.blk s H scope (compEnvC scope cl C X.env) fp) ifs dc)
    (he : ∀ (s : Shared) (H : Hp) (C : Addr) (cl : List (Str × Addr)) (fp : List Addr), SX ct (X.blk s H scope (compEnvC scope cl C X.env) fp) false elt de) (hsw : swapsWith (.ListComp elt [⟨tg, iter, ifs, 0⟩] scope pos) (some (.Name y py)) spos.line X.env = pure true)
    (hp : pn i = false := by rfl) (hy : X.N[i]? = some y := by rfl) (hyl : X.env.scope.names.lookup y = some .local := by rfl) (hs : ∀ x, foldedSetIterable iter X.env x = pure x := by intro _; rfl) :
    SS ct X pn W (.Assign [.Name y py] (.ListComp elt [⟨tg, iter, ifs, 0⟩] scope pos) spos) (dAsg (dLc di dg dc de (own.map (·.2))) (gSet i)) := by
  refine PS.imp (ps_setLc (own := own) (wi := tI ct X.K di) (g := tGt ct X.K (pnOf (List.map Prod.snd own)) dg) (tt := tT ct X.K dc) (te := tX ct X.K false de) hc hN hy hyl hsw hi ok hg ht he hs) fun D σ H h => ?_
  obtain ⟨F, ρ, f, out, s, e, q⟩ := h
  unfold dAsg at e
  split at e
  · rename_i o eo
    unfold gSet at e
    split at e
    · rename_i ρ' eg
      split at eg
      · cases eg
        cases e
        refine lc_go _ (fun _ _ _ z => z) (fun _ _ _ _ z => z) (fun _ _ _ z => z) (fun _ _ _ z => z) ⟨F, ρ, f, o, s, eo, fun v F1 H1 g1 ex r gd => ?_⟩
        have st := ex.stp s.wf s.rep.mem gd
        obtain ⟨g0, h0, ef, _, hf⟩ := SRep.hole i (by assumption) (s.ext ex).rep
        refine q _ F1 H1 _ (st.sub fun a => ?_) ((hf F1 H1 (Same.refl _) fun _ _ => rfl).1 o v g1 r) (Pin.set hp)
        rw [ef]
        show g1 a + h0 a ≤ g0 a + h0 a + g1 a
        omega
      · cases eg
    · cases e
  · cases e
end
end Mini
namespace Mini
open PySem PySem.Spec PyProof.Rows L2
theorem oAdd_i (i j : Int) : oAdd (.int i) (.int j) = some (.int (i + j)) := rfl
theorem oAddI_i (i j : Int) : oAddI (.int i) (.int j) = some (.int (i + j)) := rfl
theorem oSub_i (i j : Int) : oSub (.int i) (.int j) = some (.int (i - j)) := rfl
theorem oMul_i (i j : Int) : oMul (.int i) (.int j) = if mulOk i j = true then some (.int (i * j)) else none := rfl
theorem oMod_i (i j : Int) : oMod (.int i) (.int j) = if 0 < j then some (.int (i % j)) else none := by
  simp [oMod, intsO]
theorem oDiv_i (i j : Int) : oDiv (.int i) (.int j) = if 0 < j ∧ j.natAbs.log2 < 9000 then some (.int (i / j)) else none := by
  simp [oDiv, intsO]
theorem oAnd_i (i j : Int) : oAnd (.int i) (.int j) = some (.int (Builtin.bitAnd i j)) := rfl
theorem oOr_i (i j : Int) : oOr (.int i) (.int j) = some (.int (Builtin.bitOr i j)) := rfl
theorem oXor_i (i j : Int) : oXor (.int i) (.int j) = some (.int (Builtin.bitXor i j)) := rfl
theorem oLt_i (i j : Int) : oLt (.int i) (.int j) = some (.bl (decide (i < j))) := rfl
theorem oLe_i (i j : Int) : oLe (.int i) (.int j) = some (.bl (decide (i ≤ j))) := rfl
theorem oGt_i (i j : Int) : oGt (.int i) (.int j) = some (.bl (decide (j < i))) := rfl
theorem oGe_i (i j : Int) : oGe (.int i) (.int j) = some (.bl (decide (j ≤ i))) := rfl
theorem oMax_i (i j : Int) : oMax (.int i) (.int j) = some (.int (max i j)) := by
  simp [oMax, intsO]
  split <;> omega
theorem oMin_i (i j : Int) : oMin (.int i) (.int j) = some (.int (min i j)) := by
  simp [oMin, intsO]
  split <;> omega
theorem negO_i (i : Int) : negO (.int i) = some (.int (-i)) := rfl
theorem oAbs_i (i : Int) : oAbs (.int i) = some (.int ((i.natAbs : Nat) : Int)) := by
  simp [oAbs]
  split <;> omega
theorem oInt_i (i : Int) : oInt (.int i) = some (.int i) := rfl
theorem oInt_b (b : Bool) : oInt (.bl b) = some (.int (if b then 1 else 0)) := rfl
theorem oEq_i (i j : Int) : oEq (.int i) (.int j) = some (.bl (decide (i = j))) := by
  simp [oEq_def, oEq0, toPy, SeqAt.shaped, PyData.canLay0, PyData.depth, PyData.eqv]
  rfl
theorem oNe_i (i j : Int) : oNe (.int i) (.int j) = some (.bl (decide (i ≠ j))) := by
  simp [oNe_def, oNe0, toPy, SeqAt.shaped, PyData.canLay0, PyData.depth, PyData.eqv]
  rfl
theorem eqv_ii (i j : Int) : PyData.eqv (.int i) (.int j) = decide (i = j) := rfl
theorem kit_NoneType_int : kitB "NoneType" "int" = some false := by decide +kernel
theorem kit_bool_int : kitB "bool" "int" = some true := by decide +kernel
theorem kit_int_int : kitB "int" "int" = some true := by decide +kernel
theorem kit_str_int : kitB "str" "int" = some false := by decide +kernel
theorem kit_tuple_int : kitB "tuple" "int" = some false := by decide +kernel
theorem kit_list_int : kitB "list" "int" = some false := by decide +kernel
theorem kit_dict_int : kitB "dict" "int" = some false := by decide +kernel
theorem kit_NoneType_bool : kitB "NoneType" "bool" = some false := by decide +kernel
theorem kit_bool_bool : kitB "bool" "bool" = some true := by decide +kernel
theorem kit_int_bool : kitB "int" "bool" = some false := by decide +kernel
theorem kit_str_bool : kitB "str" "bool" = some false := by decide +kernel
theorem kit_tuple_bool : kitB "tuple" "bool" = some false := by decide +kernel
theorem kit_list_bool : kitB "list" "bool" = some false := by decide +kernel
theorem kit_dict_bool : kitB "dict" "bool" = some false := by decide +kernel
theorem kit_NoneType_str : kitB "NoneType" "str" = some false := by decide +kernel
theorem kit_bool_str : kitB "bool" "str" = some false := by decide +kernel
theorem kit_int_str : kitB "int" "str" = some false := by decide +kernel
theorem kit_str_str : kitB "str" "str" = some true := by decide +kernel
theorem kit_tuple_str : kitB "tuple" "str" = some false := by decide +kernel
theorem kit_list_str : kitB "list" "str" = some false := by decide +kernel
theorem kit_dict_str : kitB "dict" "str" = some false := by decide +kernel
theorem kit_NoneType_tuple : kitB "NoneType" "tuple" = some false := by decide +kernel
theorem kit_bool_tuple : kitB "bool" "tuple" = some false := by decide +kernel
theorem kit_int_tuple : kitB "int" "tuple" = some false := by decide +kernel
theorem kit_str_tuple : kitB "str" "tuple" = some false := by decide +kernel
theorem kit_tuple_tuple : kitB "tuple" "tuple" = some true := by decide +kernel
theorem kit_list_tuple : kitB "list" "tuple" = some false := by decide +kernel
theorem kit_dict_tuple : kitB "dict" "tuple" = some false := by decide +kernel
theorem kit_NoneType_list : kitB "NoneType" "list" = some false := by decide +kernel
theorem kit_bool_list : kitB "bool" "list" = some false := by decide +kernel
theorem kit_int_list : kitB "int" "list" = some false := by decide +kernel
theorem kit_str_list : kitB "str" "list" = some false := by decide +kernel
theorem kit_tuple_list : kitB "tuple" "list" = some false := by decide +kernel
theorem kit_list_list : kitB "list" "list" = some true := by decide +kernel
theorem kit_dict_list : kitB "dict" "list" = some false := by decide +kernel
theorem kit_NoneType_dict : kitB "NoneType" "dict" = some false := by decide +kernel
theorem kit_bool_dict : kitB "bool" "dict" = some false := by decide +kernel
theorem kit_int_dict : kitB "int" "dict" = some false := by decide +kernel
theorem kit_str_dict : kitB "str" "dict" = some false := by decide +kernel
theorem kit_tuple_dict : kitB "tuple" "dict" = some false := by decide +kernel
theorem kit_list_dict : kitB "list" "dict" = some false := by decide +kernel
theorem kit_dict_dict : kitB "dict" "dict" = some true := by decide +kernel
theorem isi_NoneType_int : oIsi "int" .non = some (.bl false) := by show (kitB "NoneType" "int").map O.bl = _; rw [kit_NoneType_int]; rfl
theorem isi_bool_int (b : Bool) : oIsi "int" (.bl b) = some (.bl true) := by show (kitB "bool" "int").map O.bl = _; rw [kit_bool_int]; rfl
theorem isi_int_int (i : Int) : oIsi "int" (.int i) = some (.bl true) := by show (kitB "int" "int").map O.bl = _; rw [kit_int_int]; rfl
theorem isi_str_int (s : Str) : oIsi "int" (.str s) = some (.bl false) := by show (kitB "str" "int").map O.bl = _; rw [kit_str_int]; rfl
theorem isi_tuple_int (os : List O) : oIsi "int" (.tup os) = some (.bl false) := by show (kitB "tuple" "int").map O.bl = _; rw [kit_tuple_int]; rfl
theorem isi_list_int (w : Bool) (os : List O) : oIsi "int" (.lst w os) = some (.bl false) := by show (kitB "list" "int").map O.bl = _; rw [kit_list_int]; rfl
theorem isi_dict_int (ks : List Key) (os : List O) : oIsi "int" (.dct true ks os) = some (.bl false) := by show (kitB "dict" "int").map O.bl = _; rw [kit_dict_int]; rfl
theorem isi_NoneType_bool : oIsi "bool" .non = some (.bl false) := by show (kitB "NoneType" "bool").map O.bl = _; rw [kit_NoneType_bool]; rfl
theorem isi_bool_bool (b : Bool) : oIsi "bool" (.bl b) = some (.bl true) := by show (kitB "bool" "bool").map O.bl = _; rw [kit_bool_bool]; rfl
theorem isi_int_bool (i : Int) : oIsi "bool" (.int i) = some (.bl false) := by show (kitB "int" "bool").map O.bl = _; rw [kit_int_bool]; rfl
theorem isi_str_bool (s : Str) : oIsi "bool" (.str s) = some (.bl false) := by show (kitB "str" "bool").map O.bl = _; rw [kit_str_bool]; rfl
theorem isi_tuple_bool (os : List O) : oIsi "bool" (.tup os) = some (.bl false) := by show (kitB "tuple" "bool").map O.bl = _; rw [kit_tuple_bool]; rfl
theorem isi_list_bool (w : Bool) (os : List O) : oIsi "bool" (.lst w os) = some (.bl false) := by show (kitB "list" "bool").map O.bl = _; rw [kit_list_bool]; rfl
theorem isi_dict_bool (ks : List Key) (os : List O) : oIsi "bool" (.dct true ks os) = some (.bl false) := by show (kitB "dict" "bool").map O.bl = _; rw [kit_dict_bool]; rfl
theorem isi_NoneType_str : oIsi "str" .non = some (.bl false) := by show (kitB "NoneType" "str").map O.bl = _; rw [kit_NoneType_str]; rfl
theorem isi_bool_str (b : Bool) : oIsi "str" (.bl b) = some (.bl false) := by show (kitB "bool" "str").map O.bl = _; rw [kit_bool_str]; rfl
theorem isi_int_str (i : Int) : oIsi "str" (.int i) = some (.bl false) := by show (kitB "int" "str").map O.bl = _; rw [kit_int_str]; rfl
theorem isi_str_str (s : Str) : oIsi "str" (.str s) = some (.bl true) := by show (kitB "str" "str").map O.bl = _; rw [kit_str_str]; rfl
theorem isi_tuple_str (os : List O) : oIsi "str" (.tup os) = some (.bl false) := by show (kitB "tuple" "str").map O.bl = _; rw [kit_tuple_str]; rfl
theorem isi_list_str (w : Bool) (os : List O) : oIsi "str" (.lst w os) = some (.bl false) := by show (kitB "list" "str").map O.bl = _; rw [kit_list_str]; rfl
theorem isi_dict_str (ks : List Key) (os : List O) : oIsi "str" (.dct true ks os) = some (.bl false) := by show (kitB "dict" "str").map O.bl = _; rw [kit_dict_str]; rfl
theorem isi_NoneType_tuple : oIsi "tuple" .non = some (.bl false) := by show (kitB "NoneType" "tuple").map O.bl = _; rw [kit_NoneType_tuple]; rfl
theorem isi_bool_tuple (b : Bool) : oIsi "tuple" (.bl b) = some (.bl false) := by show (kitB "bool" "tuple").map O.bl = _; rw [kit_bool_tuple]; rfl
theorem isi_int_tuple (i : Int) : oIsi "tuple" (.int i) = some (.bl false) := by show (kitB "int" "tuple").map O.bl = _; rw [kit_int_tuple]; rfl
theorem isi_str_tuple (s : Str) : oIsi "tuple" (.str s) = some (.bl false) := by show (kitB "str" "tuple").map O.bl = _; rw [kit_str_tuple]; rfl
theorem isi_tuple_tuple (os : List O) : oIsi "tuple" (.tup os) = some (.bl true) := by show (kitB "tuple" "tuple").map O.bl = _; rw [kit_tuple_tuple]; rfl
theorem isi_list_tuple (w : Bool) (os : List O) : oIsi "tuple" (.lst w os) = some (.bl false) := by show (kitB "list" "tuple").map O.bl = _; rw [kit_list_tuple]; rfl
theorem isi_dict_tuple (ks : List Key) (os : List O) : oIsi "tuple" (.dct true ks os) = some (.bl false) := by show (kitB "dict" "tuple").map O.bl = _; rw [kit_dict_tuple]; rfl
theorem isi_NoneType_list : oIsi "list" .non = some (.bl false) := by show (kitB "NoneType" "list").map O.bl = _; rw [kit_NoneType_list]; rfl
theorem isi_bool_list (b : Bool) : oIsi "list" (.bl b) = some (.bl false) := by show (kitB "bool" "list").map O.bl = _; rw [kit_bool_list]; rfl
theorem isi_int_list (i : Int) : oIsi "list" (.int i) = some (.bl false) := by show (kitB "int" "list").map O.bl = _; rw [kit_int_list]; rfl
theorem isi_str_list (s : Str) : oIsi "list" (.str s) = some (.bl false) := by show (kitB "str" "list").map O.bl = _; rw [kit_str_list]; rfl
theorem isi_tuple_list (os : List O) : oIsi "list" (.tup os) = some (.bl false) := by show (kitB "tuple" "list").map O.bl = _; rw [kit_tuple_list]; rfl
theorem isi_list_list (w : Bool) (os : List O) : oIsi "list" (.lst w os) = some (.bl true) := by show (kitB "list" "list").map O.bl = _; rw [kit_list_list]; rfl
theorem isi_dict_list (ks : List Key) (os : List O) : oIsi "list" (.dct true ks os) = some (.bl false) := by show (kitB "dict" "list").map O.bl = _; rw [kit_dict_list]; rfl
theorem isi_NoneType_dict : oIsi "dict" .non = some (.bl false) := by show (kitB "NoneType" "dict").map O.bl = _; rw [kit_NoneType_dict]; rfl
theorem isi_bool_dict (b : Bool) : oIsi "dict" (.bl b) = some (.bl false) := by show (kitB "bool" "dict").map O.bl = _; rw [kit_bool_dict]; rfl
theorem isi_int_dict (i : Int) : oIsi "dict" (.int i) = some (.bl false) := by show (kitB "int" "dict").map O.bl = _; rw [kit_int_dict]; rfl
theorem isi_str_dict (s : Str) : oIsi "dict" (.str s) = some (.bl false) := by show (kitB "str" "dict").map O.bl = _; rw [kit_str_dict]; rfl
theorem isi_tuple_dict (os : List O) : oIsi "dict" (.tup os) = some (.bl false) := by show (kitB "tuple" "dict").map O.bl = _; rw [kit_tuple_dict]; rfl
theorem isi_list_dict (w : Bool) (os : List O) : oIsi "dict" (.lst w os) = some (.bl false) := by show (kitB "list" "dict").map O.bl = _; rw [kit_list_dict]; rfl
theorem isi_dict_dict (ks : List Key) (os : List O) : oIsi "dict" (.dct true ks os) = some (.bl true) := by show (kitB "dict" "dict").map O.bl = _; rw [kit_dict_dict]; rfl
theorem look_nil (i : Nat) : look [] i = none := by simp [look]
theorem look_z (o : Option O) (ρ : Env) : look (o :: ρ) 0 = o := by cases o <;> rfl
theorem look_s (o : Option O) (ρ : Env) (i : Nat) : look (o :: ρ) (i + 1) = look ρ i := by simp [look]
theorem rngs_z (lo : Int) : rngs lo 0 = [] := rfl
theorem rngs_s (lo : Int) (n : Nat) : rngs lo (n + 1) = .int lo :: rngs (lo + 1) n := by
  simp only [rngs, List.range_succ_eq_map, List.map_cons, List.map_map, List.cons.injEq]
  refine ⟨by simp, List.map_congr_left fun i _ => ?_⟩
  simp only [Function.comp, O.int.injEq]
  push_cast
  omega
theorem line_le {n : Nat} (h : n ≤ 16777216) : (n ≤ sizeLine) = True := by simp [sizeLine_eq, h]
theorem line_lt {n : Nat} (h : n < 16777216) : (n < sizeLine) = True := by simp [sizeLine_eq, h]
theorem mLog2 {n : Nat} (h : n < 18446744073709551616) : (n.log2 < 9000) = True := by
  refine eq_true (Nat.lt_of_le_of_lt ?_ (show 63 < 9000 by decide))
  by_cases z : n = 0
  · subst z; decide
  · exact Nat.le_of_lt_succ ((Nat.log2_lt z).mpr (by simpa using h))
theorem pick_rt {i : Nat} {o : O} {f : Addr → Env} (h : ∀ a, (f a).set i none = (f 0).set i none) : pick i (fun a => some (.rt o (f a))) = some (.rt o ((f 0).set i none)) :=
  pick_of fun a => by
    show some (Out.rt o ((f a).set i none)) = _
    rw [h a]
theorem pick_nx {i : Nat} {f : Addr → Env} (h : ∀ a, (f a).set i none = (f 0).set i none) : pick i (fun a => some (.nx (f a))) = some (.nx ((f 0).set i none)) :=
  pick_of fun a => by
    show some (Out.nx ((f a).set i none)) = _
    rw [h a]
theorem oShl_B {i : Int} {n j : Nat} (h : i.natAbs < 2 ^ n) (hn : n + j ≤ 134217728) : oShl (.int i) (.int (j : Int)) = some (.int (i * 2 ^ j)) := by
  have c := shl_ok h hn
  have c' : shlOk i (j : Int) = true := by
    rw [shlOk_def]
    unfold shlOk0
    rw [decide_eq_true c.1, decide_eq_true c.2]; rfl
  simp [oShl, intsO, c']
theorem oBits_i (i : Int) : oBits (.int i) = some (.int (Builtin.Int.intBits i : Nat)) := rfl
theorem idx_t (os : List O) (i : Int) : oIdx (.tup os) (.int i) = atI os i := rfl
theorem idx_l (w : Bool) (os : List O) (i : Int) : oIdx (.lst w os) (.int i) = atI os i := rfl
theorem atI_n {α : Type} (xs : List α) (n : Nat) : atI xs (n : Int) = xs[n]? := by
  by_cases h : n < xs.length
  · rw [List.getElem?_eq_getElem h]
    exact atI_nat (List.getElem?_eq_getElem h)
  · rw [List.getElem?_eq_none (by omega)]
    unfold atI ixN
    rw [if_pos (by omega), if_neg (by omega)]
    rfl
theorem atI_lit {α : Type} (xs : List α) (n : Nat) : atI xs (no_index (OfNat.ofNat n) : Int) = xs[n]? := atI_n xs n
theorem ixN_n (m n : Nat) : ixN m (n : Int) = if n < m then some n else none := by
  unfold ixN
  rw [if_pos (by omega)]
  by_cases h : n < m
  · rw [if_pos h, if_pos (by omega)]; simp
  · rw [if_neg h, if_neg (by omega)]
theorem ixN_lit (m n : Nat) : ixN m (no_index (OfNat.ofNat n) : Int) = if n < m then some n else none := ixN_n m n
theorem atI_z {α : Type} (x : α) (xs : List α) : atI (x :: xs) 0 = some x := atI_nat (j := 0) rfl
theorem len_t (os : List O) : oLen (.tup os) = some (.int os.length) := rfl
theorem len_l (w : Bool) (os : List O) : oLen (.lst w os) = some (.int os.length) := rfl
end Mini
namespace Mini
open PySem PySem.Spec PyProof.Rows L2
/-! sizes of ints -/
def B (n : Nat) (x : Int) : Prop := x.natAbs < 2 ^ n
theorem B.lg {n : Nat} {x : Int} (h : B n x) : x.natAbs.log2 ≤ n := by
  by_cases z : x.natAbs = 0
  · rw [z]; exact Nat.zero_le _
  · exact Nat.le_of_lt ((Nat.log2_lt z).mpr h)
theorem B.mono {m n : Nat} {x : Int} (h : B m x) (l : m ≤ n) : B n x := Nat.lt_of_lt_of_le h (Nat.pow_le_pow_right (by decide) l)
theorem B.mul {m n : Nat} {x y : Int} (h : B m x) (k : B n y) : B (m + n) (x * y) := by
  unfold B at *
  rw [Int.natAbs_mul, Nat.pow_add]
  exact Nat.mul_lt_mul'' h k
theorem B.add {m n : Nat} {x y : Int} (h : B m x) (k : B n y) : B (max m n + 1) (x + y) := by
  have h' := B.mono h (Nat.le_max_left m n)
  have k' := B.mono k (Nat.le_max_right m n)
  unfold B at *
  rw [Nat.pow_succ]
  generalize 2 ^ (max m n) = p at *
  omega
theorem B.sub {m n : Nat} {x y : Int} (h : B m x) (k : B n y) : B (max m n + 1) (x - y) := by
  have h' := B.mono h (Nat.le_max_left m n)
  have k' := B.mono k (Nat.le_max_right m n)
  unfold B at *
  rw [Nat.pow_succ]
  generalize 2 ^ (max m n) = p at *
  omega
theorem B.neg {n : Nat} {x : Int} (h : B n x) : B n (-x) := by
  unfold B at *
  rw [Int.natAbs_neg]; exact h
theorem B.ok {m n : Nat} {x y : Int} (h : B m x) (k : B n y) (l : m + n < 100000000 := by decide) : mulOk x y = true := by
  rw [mulOk_def]
  unfold mulOk0
  have h1 := h.lg
  have h2 := k.lg
  exact decide_eq_true (by omega)
theorem B.half {n : Nat} {x : Int} (h : B n x) : B n (x / 2) := by
  unfold B at *
  generalize 2 ^ n = p at *
  omega
theorem B.small {x : Int} (h : -8 < x) (k : x < 8) : B 3 x := by
  unfold B
  show x.natAbs < 8
  omega
theorem B.of_bits {n : Nat} {x : Int} (h : Builtin.Int.intBits x ≤ n) : B n x := by
  unfold Builtin.Int.intBits at h
  unfold B
  split at h
  · rename_i e
    have : x = 0 := by simpa using e
    subst this
    exact Nat.pow_pos (by decide)
  · by_cases z : x.natAbs = 0
    · rw [z]; exact Nat.pow_pos (by decide)
    · exact (Nat.log2_lt z).mp (by omega)
/-! the script -/
abbrev S (ns : List Int) : O := .lst false (ns.map .int)
theorem frzs_ints : ∀ ns : List Int, frzs (ns.map O.int) = ns.map O.int
  | [] => rfl
  | n :: ns => by simp [frzs, frz, frzs_ints ns]
theorem isFzs_ints : ∀ ns : List Int, isFzs (ns.map O.int) = true
  | [] => rfl
  | n :: ns => by simp [isFzs, isFz, isFzs_ints ns]
def cell (ns : List Int) (k : Nat) : Int := ns.getD k 0
theorem cell_at {ns : List Int} {k : Nat} (h : k < ns.length) : L2.atI (ns.map O.int) (k : Int) = some (.int (cell ns k)) := by
  refine L2.atI_nat ?_
  simp [cell, h, List.getD]
theorem cell_out {ns : List Int} {k : Nat} (h : ¬ k < ns.length) : cell ns k = 0 := by
  unfold cell
  rw [List.getD_eq_getElem?_getD, List.getElem?_eq_none (by omega)]
  rfl
def rpart (n d : Int) : Int := if d % 3 = 0 then n else if d % 3 = 1 then -n % 7 else n % 5 - 2
theorem rpart_B {n d : Int} {b : Nat} (h : B b n) (l : 3 ≤ b) : B b (rpart n d) := by
  unfold rpart
  split
  · exact h
  · split
    · exact (B.small (by omega) (by omega)).mono l
    · exact (B.small (by omega) (by omega)).mono l
theorem cell_B {ns : List Int} {b : Nat} (hb : ∀ z ∈ ns, Builtin.Int.intBits z ≤ b) (k : Nat) : B b (cell ns k) := by
  unfold cell
  rw [List.getD_eq_getElem?_getD]
  cases e : ns[k]? with
  | none => exact B.of_bits (show 0 ≤ b from Nat.zero_le _)
  | some z => exact B.of_bits (hb z (List.mem_of_getElem? e))
/-! ring numbers -/
abbrev encR (a b c d : Int) : O := .tup [.int a, .int b, .int c, .int d]
theorem ne_R (a b c d e f g h : Int) : oNe (encR a b c d) (encR e f g h) = some (.bl (!(decide (a = e) && decide (b = f) && decide (c = g) && decide (d = h)))) := by
  simp [oNe_def, oNe0, toPy, toPys, SeqAt.shaped, PyData.canLay0, PyData.canLayAll0, PyData.depth, PyData.depthAll, PyData.eqv, PyData.eqvAll, Bool.and_assoc]
  rfl
theorem eq_R (a b c d e f g h : Int) : oEq (encR a b c d) (encR e f g h) = some (.bl (decide (a = e) && decide (b = f) && decide (c = g) && decide (d = h))) := by
  simp [oEq_def, oEq0, toPy, toPys, SeqAt.shaped, PyData.canLay0, PyData.canLayAll0, PyData.depth, PyData.depthAll, PyData.eqv, PyData.eqvAll, Bool.and_assoc]
  rfl
theorem oEq_b (i j : Bool) : oEq (.bl i) (.bl j) = some (.bl (decide (i = j))) := by rw [oEq_def]; cases i <;> cases j <;> rfl
theorem oNe_b (i j : Bool) : oNe (.bl i) (.bl j) = some (.bl (decide (i ≠ j))) := by rw [oNe_def]; cases i <;> cases j <;> rfl
def dg (ns : List Int) (k : Nat) : Int := ((cell ns (k + 4)).natAbs : Nat)
end Mini
namespace Mini
open PySem PySem.Spec PyProof.Rows L2
/-! bits of ints of any sign, by halves -/
theorem nand_split (m n : Nat) : m &&& n = 2 * (m / 2 &&& n / 2) + (m % 2) * (n % 2) := by
  have h1 : (m &&& n) / 2 = m / 2 &&& n / 2 := Nat.and_div_two
  have h2 : (m &&& n) % 2 = (m % 2) * (n % 2) := by
    have e : (m &&& n) % 2 = (m % 2) &&& (n % 2) := by
      have := @Nat.and_mod_two_pow m n 1
      simpa using this
    rw [e]
    rcases Nat.mod_two_eq_zero_or_one m with a | a <;> rcases Nat.mod_two_eq_zero_or_one n with b | b <;> rw [a, b] <;> rfl
  omega
theorem nor_split (m n : Nat) : m ||| n = 2 * (m / 2 ||| n / 2) + (m % 2 + n % 2 - (m % 2) * (n % 2)) := by
  have h1 : (m ||| n) / 2 = m / 2 ||| n / 2 := Nat.or_div_two
  have h2 : (m ||| n) % 2 = m % 2 + n % 2 - (m % 2) * (n % 2) := by
    have e : (m ||| n) % 2 = (m % 2) ||| (n % 2) := by
      have := @Nat.or_mod_two_pow m n 1
      simpa using this
    rw [e]
    rcases Nat.mod_two_eq_zero_or_one m with a | a <;> rcases Nat.mod_two_eq_zero_or_one n with b | b <;> rw [a, b] <;> rfl
  omega
theorem par01 (x : Int) : x % 2 = 0 ∨ x % 2 = 1 := by omega
theorem npar01 (x : Nat) : x % 2 = 0 ∨ x % 2 = 1 := by omega
theorem band_split (x y : Int) : Builtin.bitAnd x y = 2 * Builtin.bitAnd (x / 2) (y / 2) + (x % 2) * (y % 2) := by
  by_cases hx : 0 ≤ x
  · have hx2 : 0 ≤ x / 2 := by omega
    by_cases hy : 0 ≤ y
    · have hy2 : 0 ≤ y / 2 := by omega
      rw [bitAnd_pp hx hy, bitAnd_pp hx2 hy2, nand_split, show (x / 2).toNat = x.toNat / 2 by omega, show (y / 2).toNat = y.toNat / 2 by omega]
      rcases npar01 x.toNat with a | a <;> rcases npar01 y.toNat with b | b <;> rcases par01 x with c | c <;> rcases par01 y with d | d <;> rw [a, b, c, d] <;> omega
    · have hy2 : ¬ 0 ≤ y / 2 := by omega
      rw [bitAnd_pn hx hy, bitAnd_pn hx2 hy2, nand_split, show (x / 2).toNat = x.toNat / 2 by omega, show (Builtin.bitNot (y / 2)).toNat = (Builtin.bitNot y).toNat / 2 by unfold Builtin.bitNot; omega]
      rcases npar01 x.toNat with a | a <;> rcases npar01 (Builtin.bitNot y).toNat with b | b <;> rcases par01 x with c | c <;> rcases par01 y with d | d <;> rw [a, b, c, d] <;> unfold Builtin.bitNot at b <;> omega
  · have hx2 : ¬ 0 ≤ x / 2 := by omega
    by_cases hy : 0 ≤ y
    · have hy2 : 0 ≤ y / 2 := by omega
      rw [bitAnd_np hx hy, bitAnd_np hx2 hy2, nand_split, show (y / 2).toNat = y.toNat / 2 by omega, show (Builtin.bitNot (x / 2)).toNat = (Builtin.bitNot x).toNat / 2 by unfold Builtin.bitNot; omega]
      rcases npar01 y.toNat with a | a <;> rcases npar01 (Builtin.bitNot x).toNat with b | b <;> rcases par01 x with c | c <;> rcases par01 y with d | d <;> rw [a, b, c, d] <;> unfold Builtin.bitNot at b <;> omega
    · have hy2 : ¬ 0 ≤ y / 2 := by omega
      rw [bitAnd_nn hx hy, bitAnd_nn hx2 hy2, nor_split, show (Builtin.bitNot (y / 2)).toNat = (Builtin.bitNot y).toNat / 2 by unfold Builtin.bitNot; omega, show (Builtin.bitNot (x / 2)).toNat = (Builtin.bitNot x).toNat / 2 by unfold Builtin.bitNot; omega]
      generalize hp : (Builtin.bitNot x).toNat = p
      generalize hq : (Builtin.bitNot y).toNat = q
      unfold Builtin.bitNot at hp hq ⊢
      rcases npar01 p with a | a <;> rcases npar01 q with b | b <;> rcases par01 x with c | c <;> rcases par01 y with d | d <;> rw [a, b, c, d] <;> omega
theorem bor_split (x y : Int) : Builtin.bitOr x y = 2 * Builtin.bitOr (x / 2) (y / 2) + (x % 2 + y % 2 - (x % 2) * (y % 2)) := by
  rw [bitOr_and, bitOr_and, band_split]
  omega
theorem bxor_split (x y : Int) : Builtin.bitXor x y = 2 * Builtin.bitXor (x / 2) (y / 2) + (x % 2 + y % 2 - 2 * ((x % 2) * (y % 2))) := by
  unfold Builtin.bitXor
  rw [bitOr_and, bitOr_and, band_split]
  omega
def dv (k : Nat) (x : Int) : Prop := x % 2 ^ k = 0
theorem two_pow_succ (k : Nat) : (2 : Int) ^ (k + 1) = 2 * 2 ^ k := by rw [Int.pow_succ]; omega
theorem dv_succ (k : Nat) (x : Int) : dv (k + 1) x ↔ x % 2 = 0 ∧ dv k (x / 2) := by
  unfold dv
  rw [two_pow_succ]
  have hp : (0 : Int) < 2 ^ k := Int.pow_pos (by decide)
  have e : x % (2 * 2 ^ k) = x % 2 + 2 * (x / 2 % 2 ^ k) := by
    rw [Int.emod_def, Int.emod_def (x / 2), Int.ediv_ediv_of_nonneg (by decide : (0 : Int) ≤ 2), Int.emod_def x 2]
    rw [Int.mul_sub, Int.mul_assoc]
    omega
  rw [e]
  have := Int.emod_nonneg (x / 2) (Int.ne_of_gt hp)
  omega
theorem dv_zero (k : Nat) : dv k 0 := by simp [dv]
theorem dv_bor : ∀ (k : Nat) (x y : Int), dv k (Builtin.bitOr x y) ↔ dv k x ∧ dv k y
  | 0, x, y => by simp [dv]
  | k + 1, x, y => by
    rw [dv_succ, dv_succ, dv_succ]
    have s := bor_split x y
    have h : Builtin.bitOr x y / 2 = Builtin.bitOr (x / 2) (y / 2) := by
      rcases par01 x with a | a <;> rcases par01 y with b | b <;> rw [a, b] at s <;> omega
    rw [h, dv_bor k]
    have p : Builtin.bitOr x y % 2 = 0 ↔ x % 2 = 0 ∧ y % 2 = 0 := by
      rcases par01 x with a | a <;> rcases par01 y with b | b <;> rw [a, b] at s <;> omega
    rw [p]
    constructor
    · rintro ⟨⟨h1, h2⟩, h3, h4⟩; exact ⟨⟨h1, h3⟩, h2, h4⟩
    · rintro ⟨⟨h1, h3⟩, h2, h4⟩; exact ⟨⟨h1, h2⟩, h3, h4⟩
theorem band_self : ∀ (n : Nat) (x : Int), x.natAbs ≤ n → Builtin.bitAnd x x = x
  | 0, x, h => by
    have : x = 0 := by omega
    subst this
    rfl
  | n + 1, x, h => by
    by_cases z : x = 0
    · subst z; rfl
    · by_cases m1 : x = -1
      · subst m1; rfl
      · rw [band_split, band_self n (x / 2) (by omega)]
        rcases par01 x with a | a <;> rw [a] <;> omega
/-- the lowest set bit -/
theorem lowbit : ∀ (n : Nat) (x : Int), x.natAbs ≤ n → x ≠ 0 → ∃ t : Nat, Builtin.bitAnd x (-x) = 2 ^ t ∧ dv t x ∧ ¬ dv (t + 1) x
  | 0, x, h, z => absurd (by omega) z
  | n + 1, x, h, z => by
    rcases par01 x with a | a
    · obtain ⟨t, h1, h2, h3⟩ := lowbit n (x / 2) (by omega) (by omega)
      refine ⟨t + 1, ?_, (dv_succ t x).mpr ⟨a, h2⟩, fun q => h3 ((dv_succ (t + 1) x).mp q).2⟩
      rw [band_split, show (-x) / 2 = -(x / 2) by omega, h1, a, two_pow_succ]
      omega
    · refine ⟨0, ?_, by simp [dv], fun q => ?_⟩
      · rw [band_split, show (-x) / 2 = Builtin.bitNot (x / 2) by unfold Builtin.bitNot; omega, bitAnd_not, band_self _ _ (Nat.le_refl _), a, show (-x) % 2 = 1 by omega]
        simp
      · have := ((dv_succ 0 x).mp q).1
        omega
theorem intBits_pow (t : Nat) : Builtin.Int.intBits (2 ^ t) = t + 1 := by
  have hp : (0 : Int) < 2 ^ t := Int.pow_pos (by decide)
  unfold Builtin.Int.intBits
  rw [if_neg (by simpa using Int.ne_of_gt hp)]
  have e : ((2 : Int) ^ t).natAbs = 2 ^ t := by rw [Int.natAbs_pow]; rfl
  rw [e, Nat.log2_two_pow]
theorem dv_mul {k : Nat} {x : Int} (h : dv k x) : x = 2 ^ k * (x / 2 ^ k) := by
  unfold dv at h
  have := Int.mul_ediv_add_emod x (2 ^ k)
  omega
theorem dv_of_mul (k : Nat) (x : Int) : dv k (2 ^ k * x) := by
  unfold dv
  exact Int.mul_emod_right _ _
theorem dv_div {k : Nat} {x : Int} (h : dv k x) : dv (k + 1) x ↔ (x / 2 ^ k) % 2 = 0 := by
  have e := dv_mul h
  constructor
  · intro q
    have e2 := dv_mul q
    have hp : (2 : Int) ^ k ≠ 0 := Int.ne_of_gt (Int.pow_pos (by decide))
    have : x / 2 ^ k = 2 * (x / 2 ^ (k + 1)) := by
      have z : (2 : Int) ^ k * (x / 2 ^ k) = 2 ^ k * (2 * (x / 2 ^ (k + 1))) := by
        rw [← e, ← Int.mul_assoc, Int.mul_comm (2 ^ k) 2, ← two_pow_succ]
        exact e2
      exact Int.eq_of_mul_eq_mul_left hp z
    omega
  · intro q
    have : x = 2 ^ (k + 1) * (x / 2 ^ k / 2) := by
      rw [two_pow_succ, Int.mul_comm 2, Int.mul_assoc]
      have : 2 * (x / 2 ^ k / 2) = x / 2 ^ k := by omega
      rw [this]
      exact e
    rw [this]
    exact dv_of_mul _ _
/-! ring numbers and root -/
structure R where
  a : Int
  b : Int
  c : Int
  d : Int
theorem R.ext4 {x y : R} (h1 : x.a = y.a) (h2 : x.b = y.b) (h3 : x.c = y.c) (h4 : x.d = y.d) : x = y := by
  cases x; cases y; simp at h1 h2 h3 h4; subst h1 h2 h3 h4; rfl
abbrev R.enc (x : R) : O := encR x.a x.b x.c x.d
def R.zero : R := ⟨0, 0, 0, 0⟩
def R.tr (x : R) : R := ⟨x.b - x.d, x.a + x.c, x.b + x.d, x.c - x.a⟩
def R.ev (x : R) : Prop := (x.a + x.c) % 2 = 0 ∧ (x.b + x.d) % 2 = 0
instance (x : R) : Decidable x.ev := by unfold R.ev; infer_instance
def R.ov (x : R) : R := ⟨(x.b - x.d) / 2, (x.a + x.c) / 2, (x.b + x.d) / 2, (x.c - x.a) / 2⟩
def trn : Nat → R → R
  | 0, x => x
  | n + 1, x => trn n x.tr
theorem trn_add : ∀ (m n : Nat) (x : R), trn (m + n) x = trn n (trn m x)
  | 0, n, x => by rw [Nat.zero_add]; rfl
  | m + 1, n, x => by rw [show m + 1 + n = (m + n) + 1 by omega]; exact trn_add m n x.tr
theorem trn_tr (n : Nat) (x : R) : trn n x.tr = (trn n x).tr := by
  have h := trn_add n 1 x
  rw [Nat.add_comm] at h
  have h2 := trn_add 1 n x
  exact h2.symm.trans h
theorem R.tr_tr (x : R) : x.tr.tr = ⟨2 * x.a, 2 * x.b, 2 * x.c, 2 * x.d⟩ := R.ext4 (by simp [R.tr]; omega) (by simp [R.tr]; omega) (by simp [R.tr]; omega) (by simp [R.tr]; omega)
theorem R.tr_inj {x y : R} (h : x.tr = y.tr) : x = y := by
  have h1 := congrArg R.a h
  have h2 := congrArg R.b h
  have h3 := congrArg R.c h
  have h4 := congrArg R.d h
  simp [R.tr] at h1 h2 h3 h4
  exact R.ext4 (by omega) (by omega) (by omega) (by omega)
theorem trn_inj : ∀ {n : Nat} {x y : R}, trn n x = trn n y → x = y
  | 0, _, _, h => h
  | n + 1, x, y, h => R.tr_inj (trn_inj (n := n) h)
theorem R.ev_tr (x : R) : x.tr.ev := by
  constructor <;> simp [R.tr] <;> omega
theorem R.ov_tr {x : R} (h : x.ev) : x.ov.tr = x := by
  obtain ⟨h1, h2⟩ := h
  exact R.ext4 (by simp [R.tr, R.ov]; omega) (by simp [R.tr, R.ov]; omega) (by simp [R.tr, R.ov]; omega) (by simp [R.tr, R.ov]; omega)
theorem trn_zero : ∀ n : Nat, trn n R.zero = R.zero
  | 0 => rfl
  | n + 1 => trn_zero n
theorem trn_two (n : Nat) : ∀ x : R, trn (2 * n) x = ⟨2 ^ n * x.a, 2 ^ n * x.b, 2 ^ n * x.c, 2 ^ n * x.d⟩ := by
  induction n with
  | zero => intro x; exact R.ext4 (by simp [trn]) (by simp [trn]) (by simp [trn]) (by simp [trn])
  | succ n ih =>
    intro x
    rw [show 2 * (n + 1) = 2 + 2 * n by omega, trn_add]
    show trn (2 * n) x.tr.tr = _
    rw [R.tr_tr, ih]
    refine R.ext4 ?_ ?_ ?_ ?_ <;> simp only [two_pow_succ] <;> rw [Int.mul_comm 2 (2 ^ n), Int.mul_assoc]
/-- y over root to the power of k is the lowest form of x over root to the power of e -/
structure Low (x : R) (e : Nat) (y : R) (k : Nat) : Prop where
  le : k ≤ e
  val : x = trn (e - k) y
  low : k = 0 ∨ ¬ y.ev
theorem Low.uniq {x y y' : R} {e k k' : Nat} (h : Low x e y k) (h' : Low x e y' k') : y = y' ∧ k = k' := by
  have key : ∀ {y y' : R} {k k' : Nat}, Low x e y k → Low x e y' k' → ¬ k < k' := by
    intro y y' k k' h h' hlt
    have e1 := h.val.symm.trans h'.val
    have e2 : e - k = (k' - k) + (e - k') := by have := h'.le; omega
    rw [e2, trn_add] at e1
    have e3 := trn_inj e1
    have : y'.ev := by
      rw [← e3, show k' - k = (k' - k - 1) + 1 by omega, trn_add]
      exact R.ev_tr _
    rcases h'.low with z | z
    · omega
    · exact z this
  have hk : k = k' := by
    have := key h h'
    have := key h' h
    omega
  subst hk
  exact ⟨trn_inj (h.val.symm.trans h'.val), rfl⟩
theorem Low.tr {x y : R} {e k : Nat} (h : Low x e y k) : Low x.tr (e + 1) y k := by
  refine ⟨Nat.le_succ_of_le h.le, ?_, h.low⟩
  rw [h.val, ← trn_tr, show e + 1 - k = (e - k) + 1 by have := h.le; omega]
  rfl
end Mini
namespace Mini
open PySem PySem.Spec PyProof.Rows L2
/-- a loop by its invariant -/
theorem lFor_inv {dg : O → Env → Option Env} {body : Env → Option Out} (P : Nat → Env → Prop) : ∀ (os : List O) (k : Nat) (ρ : Env), P k ρ →
    (∀ i o ρ, os[i]? = some o → P (k + i) ρ → ∃ ρ1 ρ2, dg o ρ = some ρ1 ∧ body ρ1 = some (.nx ρ2) ∧ P (k + i + 1) ρ2) → ∃ ρ', lFor dg body os ρ = some (.nx ρ') ∧ P (k + os.length) ρ'
  | [], k, ρ, h, _ => ⟨ρ, rfl, by simpa using h⟩
  | o :: os, k, ρ, h, hs => by
    obtain ⟨ρ1, ρ2, e1, e2, h2⟩ := hs 0 o ρ rfl h
    obtain ⟨ρ', e3, h3⟩ := lFor_inv P os (k + 1) ρ2 h2 fun i o' ρ' ho hp => by
      have := hs (i + 1) o' ρ' (by simpa using ho) (by rw [show k + (i + 1) = k + 1 + i by omega]; exact hp)
      rw [show k + (i + 1) + 1 = k + 1 + i + 1 by omega] at this
      exact this
    refine ⟨ρ', ?_, by rw [List.length_cons, show k + (os.length + 1) = k + 1 + os.length by omega]; exact h3⟩
    rw [lFor, e1]
    dsimp only
    rw [e2]
    exact e3
theorem rngs_len (lo : Int) (n : Nat) : (rngs lo n).length = n := by simp [rngs]
theorem rngs_at {lo : Int} {n i : Nat} {o : O} (h : (rngs lo n)[i]? = some o) : o = .int (lo + i) ∧ i < n := by
  have hi : i < n := by
    have := (List.getElem?_eq_some_iff.mp h).1
    rwa [rngs_len] at this
  simp [rngs, hi] at h
  exact ⟨h.symm, hi⟩
theorem lFor_rng {dg : O → Env → Option Env} {body : Env → Option Out} (P : Nat → Env → Prop) (lo : Int) (n : Nat) (ρ : Env) (h0 : P 0 ρ)
    (hs : ∀ i ρ, i < n → P i ρ → ∃ ρ1 ρ2, dg (.int (lo + i)) ρ = some ρ1 ∧ body ρ1 = some (.nx ρ2) ∧ P (i + 1) ρ2) : ∃ ρ', lFor dg body (rngs lo n) ρ = some (.nx ρ') ∧ P n ρ' := by
  obtain ⟨ρ', e, h⟩ := lFor_inv P (rngs lo n) 0 ρ h0 fun i o ρ ho hp => by
    obtain ⟨rfl, hi⟩ := rngs_at ho
    rw [Nat.zero_add] at hp ⊢
    exact hs i ρ hi hp
  rw [rngs_len, Nat.zero_add] at h
  exact ⟨ρ', e, h⟩
end Mini
namespace Mini
open PySem PySem.Spec PyProof.Rows L2
theorem oShr_n (i : Int) (j : Nat) : oShr (.int i) (.int (j : Int)) = some (.int (i / 2 ^ j)) := by
  simp [oShr, intsO]
theorem rOk_n {n : Nat} (h : n < 4611686018427387904) : rOk (n : Int) = true := by
  rw [rOk_def]
  unfold rOk0
  rw [decide_eq_true (by omega), decide_eq_true (by omega)]; rfl
theorem dFor_rng1 {d : Env → Option O} {dg : O → Env → Option Env} {body : Env → Option Out} {ρ : Env} {n : Nat} (hd : d ρ = some (.int (n : Int))) (h : n < 4611686018427387904) : dFor (dRng1 d) dg body ρ = lFor dg body (rngs 0 n) ρ := by
  have e : dRng1 d ρ = some (rngs 0 n) := by
    unfold dRng1
    rw [hd]
    dsimp only
    rw [if_pos (rOk_n h)]
    rfl
  unfold dFor
  rw [e]
theorem rOk_i {i : Int} (h : -4611686018427387904 ≤ i) (h' : i < 4611686018427387904) : rOk i = true := by
  rw [rOk_def]
  unfold rOk0
  rw [decide_eq_true (by omega), decide_eq_true (by omega)]; rfl
theorem dFor_rng2 {da db : Env → Option O} {dg : O → Env → Option Env} {body : Env → Option Out} {ρ : Env} {i j : Int} (hd : da ρ = some (.int i)) (he : db ρ = some (.int j)) (h : rOk i = true) (h' : rOk j = true) : dFor (dRng2 da db) dg body ρ = lFor dg body (rngs i (j - i).toNat) ρ := by
  have e : dRng2 da db ρ = some (rngs i (j - i).toNat) := by
    unfold dRng2
    rw [hd]
    dsimp only
    rw [he]
    dsimp only
    rw [if_pos (by rw [h, h']; rfl)]
  unfold dFor
  rw [e]
theorem dDef_mv21 {a b c : O} {z : Option O} {L : Env → Option Out} (e2 : L [some a, some b, none] = some (Out.nx [some c, some b, z])) : dDef (fun _ => false) 2 3 (dSeq L (dRetMv 0)) [a, b] = some (c, [none, none]) := by
  simp [dDef, dSeq, e2, dRetMv, look_z, Mini.fin, List.replicate]
/-- sizes of ring numbers -/
def R.bd (n : Nat) (x : R) : Prop := B n x.a ∧ B n x.b ∧ B n x.c ∧ B n x.d
theorem R.bd.mono {m n : Nat} {x : R} (h : x.bd m) (l : m ≤ n) : x.bd n := ⟨h.1.mono l, h.2.1.mono l, h.2.2.1.mono l, h.2.2.2.mono l⟩
theorem R.bd.tr {n : Nat} {x : R} (h : x.bd n) : x.tr.bd (n + 1) := by
  obtain ⟨h1, h2, h3, h4⟩ := h
  exact ⟨(h2.sub h4).mono (by omega), (h1.add h3).mono (by omega), (h2.add h4).mono (by omega), (h3.sub h1).mono (by omega)⟩
theorem R.bd.trn : ∀ {k n : Nat} {x : R}, x.bd n → (trn k x).bd (n + k)
  | 0, _, _, h => h
  | k + 1, n, x, h => by
    have := R.bd.trn (k := k) h.tr
    rw [show n + (k + 1) = n + 1 + k by omega]
    exact this
theorem R.ev_iff (x : R) : ((x.a + x.c) % 2 = 0 ∧ (x.b + x.d) % 2 = 0) ↔ x.ev := Iff.rfl
instance : DecidableEq R := fun x y => decidable_of_iff (x.a = y.a ∧ x.b = y.b ∧ x.c = y.c ∧ x.d = y.d) ⟨fun h => R.ext4 h.1 h.2.1 h.2.2.1 h.2.2.2, fun h => by subst h; exact ⟨rfl, rfl, rfl, rfl⟩⟩
theorem R.eq_enc (x y : R) : oEq x.enc y.enc = some (.bl (decide (x = y))) := by
  rw [eq_R]
  by_cases h : x = y
  · subst h; simp
  · rw [decide_eq_false h]
    congr 2
    rw [Bool.eq_false_iff]
    simp only [ne_eq, Bool.and_eq_true, decide_eq_true_eq]
    exact fun q => h (R.ext4 q.1.1.1 q.1.1.2 q.1.2 q.2)
def R.sr (x : R) (n : Nat) : R := ⟨x.a / 2 ^ n, x.b / 2 ^ n, x.c / 2 ^ n, x.d / 2 ^ n⟩
def R.dv (n : Nat) (x : R) : Prop := Mini.dv n x.a ∧ Mini.dv n x.b ∧ Mini.dv n x.c ∧ Mini.dv n x.d
theorem R.dv_sr {n : Nat} {x : R} (h : x.dv n) : x = trn (2 * n) (x.sr n) := by
  rw [trn_two]
  exact R.ext4 (dv_mul h.1) (dv_mul h.2.1) (dv_mul h.2.2.1) (dv_mul h.2.2.2)
theorem dv_le {m n : Nat} {x : Int} (h : Mini.dv n x) (l : m ≤ n) : Mini.dv m x := by
  obtain ⟨k, rfl⟩ : ∃ k, n = m + k := ⟨n - m, by omega⟩
  have e := dv_mul h
  rw [e, Int.pow_add, Int.mul_assoc]
  exact dv_of_mul _ _
theorem R.dv.le {m n : Nat} {x : R} (h : x.dv n) (l : m ≤ n) : x.dv m := ⟨dv_le h.1 l, dv_le h.2.1 l, dv_le h.2.2.1 l, dv_le h.2.2.2 l⟩
/-- the twos of a ring number -/
theorem R.twos {x : R} (h : x ≠ R.zero) : ∃ t : Nat, Builtin.bitAnd (Builtin.bitOr (Builtin.bitOr (Builtin.bitOr x.a x.b) x.c) x.d) (-(Builtin.bitOr (Builtin.bitOr (Builtin.bitOr x.a x.b) x.c) x.d)) = 2 ^ t ∧ x.dv t ∧ ¬ x.dv (t + 1) := by
  have key : ∀ k, Mini.dv k (Builtin.bitOr (Builtin.bitOr (Builtin.bitOr x.a x.b) x.c) x.d) ↔ x.dv k := fun k => by
    rw [dv_bor, dv_bor, dv_bor]
    unfold R.dv
    constructor
    · rintro ⟨⟨⟨h1, h2⟩, h3⟩, h4⟩; exact ⟨h1, h2, h3, h4⟩
    · rintro ⟨h1, h2, h3, h4⟩; exact ⟨⟨⟨h1, h2⟩, h3⟩, h4⟩
  have nz : Builtin.bitOr (Builtin.bitOr (Builtin.bitOr x.a x.b) x.c) x.d ≠ 0 := fun q => by
    apply h
    have z : ∀ k, x.dv k := fun k => (key k).mp (by rw [q]; exact dv_zero k)
    have one : ∀ y : Int, (∀ k, Mini.dv k y) → y = 0 := fun y hy => by
      have := hy y.natAbs
      unfold Mini.dv at this
      have hb : y.natAbs < 2 ^ y.natAbs := Nat.lt_two_pow_self
      have hd : (2 : Int) ^ y.natAbs ∣ y := Int.dvd_of_emod_eq_zero this
      have hd2 := Int.natAbs_dvd_natAbs.mpr hd
      rw [Int.natAbs_pow] at hd2
      by_cases z : y.natAbs = 0
      · omega
      · have := Nat.le_of_dvd (by omega) hd2
        simp at this
        omega
    exact R.ext4 (one _ fun k => (z k).1) (one _ fun k => (z k).2.1) (one _ fun k => (z k).2.2.1) (one _ fun k => (z k).2.2.2)
  obtain ⟨t, h1, h2, h3⟩ := lowbit _ _ (Nat.le_refl _) nz
  exact ⟨t, h1, (key t).mp h2, fun q => h3 ((key _).mpr q)⟩
theorem R.zero_ev : R.zero.ev := by decide
/-- two roots more are a two more -/
theorem R.dv_more {x : R} {t : Nat} (h : x.dv t) (n : ¬ x.dv (t + 1)) (e : (x.sr t).ev) : ¬ (x.sr t).ov.ev := fun q => by
  apply n
  have e1 := R.dv_sr h
  have e2 := R.ov_tr e
  have e3 := R.ov_tr q
  have e4 : x = trn (2 * (t + 1)) (x.sr t).ov.ov := by
    rw [show 2 * (t + 1) = 2 + 2 * t by omega, trn_add]
    show x = trn (2 * t) (x.sr t).ov.ov.tr.tr
    rw [e3, e2]
    exact e1
  rw [trn_two] at e4
  generalize (x.sr t).ov.ov = y at e4
  subst e4
  exact ⟨dv_of_mul _ _, dv_of_mul _ _, dv_of_mul _ _, dv_of_mul _ _⟩
theorem Low.nf {x : R} {e : Nat} (h : e = 0 ∨ ¬ x.ev) : Low x e x e := ⟨Nat.le_refl _, by rw [Nat.sub_self]; rfl, h⟩
theorem Low.zero (e : Nat) : Low R.zero e R.zero 0 := ⟨Nat.zero_le _, (trn_zero _).symm, .inl rfl⟩
theorem R.sr_nz {x : R} {n : Nat} (h : x.dv n) (hx : x ≠ R.zero) : x.sr n ≠ R.zero := fun q => hx (by rw [R.dv_sr h, q, trn_zero])
abbrev encN (x : R) (k : Int) : O := .tup [x.enc, .int k]
theorem num_eq (x y : R) (k l : Int) : oEq (encN x k) (encN y l) = some (.bl (decide (x = y) && decide (k = l))) := by
  have h := R.eq_enc x y
  simp [oEq_def, oEq0, toPy, toPys, SeqAt.shaped, PyData.canLay0, PyData.canLayAll0, PyData.depth, PyData.depthAll, PyData.eqv, PyData.eqvAll] at h ⊢
  rw [← h]
  simp [Bool.and_assoc]
  rfl
theorem num_ne (x y : R) (k l : Int) : oNe (encN x k) (encN y l) = some (.bl (!(decide (x = y) && decide (k = l)))) := by
  have h := R.eq_enc x y
  simp [oEq_def, oNe_def, oEq0, oNe0, toPy, toPys, SeqAt.shaped, PyData.canLay0, PyData.canLayAll0, PyData.depth, PyData.depthAll, PyData.eqv, PyData.eqvAll] at h ⊢
  rw [← h]
  simp [Bool.and_assoc]
  rfl
theorem Low.zero_iff {x y : R} {e k : Nat} (h : Low x e y k) : x = R.zero ↔ y = R.zero := by
  constructor
  · intro q
    have := h.val.symm.trans q
    rw [← trn_zero (e - k)] at this
    exact trn_inj this
  · intro q
    rw [h.val, q, trn_zero]
theorem Low.zero_k {x : R} {e k : Nat} (h : Low x e R.zero k) : k = 0 := by
  rcases h.low with z | z
  · exact z
  · exact absurd R.zero_ev z
/-- the law's own test of a lowest form -/
theorem Low.law {x y : R} {e k : Nat} (h : Low x e y k) : trn (e - k) y = x := h.val.symm
end Mini
namespace Mini
open PySem PySem.Spec PyProof.Rows L2
def R.add (x y : R) : R := ⟨x.a + y.a, x.b + y.b, x.c + y.c, x.d + y.d⟩
def R.neg (x : R) : R := ⟨-x.a, -x.b, -x.c, -x.d⟩
def R.cj (x : R) : R := ⟨x.a, -x.d, -x.c, -x.b⟩
def R.w (x : R) : R := ⟨-x.d, x.a, x.b, x.c⟩
def R.mul (x y : R) : R := ⟨x.a * y.a - (x.b * y.d + x.c * y.c + x.d * y.b), x.a * y.b + x.b * y.a - (x.c * y.d + x.d * y.c), x.a * y.c + x.b * y.b + x.c * y.a - x.d * y.d, x.a * y.d + x.b * y.c + x.c * y.b + x.d * y.a⟩
def wn : Nat → R → R
  | 0, x => x
  | n + 1, x => (wn n x).w
theorem R.tr_add (x y : R) : (x.add y).tr = x.tr.add y.tr := R.ext4 (by simp [R.tr, R.add]; omega) (by simp [R.tr, R.add]; omega) (by simp [R.tr, R.add]; omega) (by simp [R.tr, R.add]; omega)
theorem R.tr_neg (x : R) : x.neg.tr = x.tr.neg := R.ext4 (by simp [R.tr, R.neg]; omega) (by simp [R.tr, R.neg]; omega) (by simp [R.tr, R.neg]; omega) (by simp [R.tr, R.neg]; omega)
theorem R.tr_cj (x : R) : x.cj.tr = x.tr.cj := R.ext4 (by simp [R.tr, R.cj]<;> omega) (by simp [R.tr, R.cj]<;> omega) (by simp [R.tr, R.cj]<;> omega) (by simp [R.tr, R.cj]<;> omega)
theorem R.tr_w (x : R) : x.w.tr = x.tr.w := R.ext4 (by simp [R.tr, R.w] <;> omega) (by simp [R.tr, R.w] <;> omega) (by simp [R.tr, R.w] <;> omega) (by simp [R.tr, R.w] <;> omega)
theorem R.tr_mul_l (x y : R) : x.tr.mul y = (x.mul y).tr := R.ext4 (by simp only [R.tr, R.mul]; grind) (by simp only [R.tr, R.mul]; grind) (by simp only [R.tr, R.mul]; grind) (by simp only [R.tr, R.mul]; grind)
theorem R.tr_mul_r (x y : R) : x.mul y.tr = (x.mul y).tr := R.ext4 (by simp only [R.tr, R.mul]; grind) (by simp only [R.tr, R.mul]; grind) (by simp only [R.tr, R.mul]; grind) (by simp only [R.tr, R.mul]; grind)
theorem trn_comm {f : R → R} (h : ∀ x, (f x).tr = f x.tr) : ∀ (n : Nat) (x : R), trn n (f x) = f (trn n x)
  | 0, _ => rfl
  | n + 1, x => by
    show trn n (f x).tr = f (trn n x.tr)
    rw [h, trn_comm h n]
theorem trn_radd : ∀ (n : Nat) (x y : R), trn n (x.add y) = (trn n x).add (trn n y)
  | 0, _, _ => rfl
  | n + 1, x, y => by
    show trn n (x.add y).tr = (trn n x.tr).add (trn n y.tr)
    rw [R.tr_add, trn_radd n]
theorem trn_mul_l : ∀ (n : Nat) (x y : R), (trn n x).mul y = trn n (x.mul y)
  | 0, _, _ => rfl
  | n + 1, x, y => by
    show (trn n x.tr).mul y = trn n (x.mul y).tr
    rw [trn_mul_l n, R.tr_mul_l]
theorem trn_mul_r : ∀ (n : Nat) (x y : R), x.mul (trn n y) = trn n (x.mul y)
  | 0, _, _ => rfl
  | n + 1, x, y => by
    show x.mul (trn n y.tr) = trn n (x.mul y).tr
    rw [trn_mul_r n, R.tr_mul_r]
theorem trn_mul (m n : Nat) (x y : R) : (trn m x).mul (trn n y) = trn (m + n) (x.mul y) := by
  rw [trn_mul_l, trn_mul_r, Nat.add_comm, trn_add]
theorem R.ev_neg (x : R) : x.neg.ev ↔ x.ev := by unfold R.ev R.neg; dsimp only; omega
theorem R.ev_cj (x : R) : x.cj.ev ↔ x.ev := by unfold R.ev R.cj; dsimp only; omega
theorem R.ev_w (x : R) : x.w.ev ↔ x.ev := by unfold R.ev R.w; dsimp only; omega
theorem wn_tr : ∀ (n : Nat) (x : R), (wn n x).tr = wn n x.tr
  | 0, _ => rfl
  | n + 1, x => by
    show (wn n x).w.tr = (wn n x.tr).w
    rw [R.tr_w, wn_tr n]
theorem wn_ev : ∀ (n : Nat) (x : R), (wn n x).ev ↔ x.ev
  | 0, _ => Iff.rfl
  | n + 1, x => (R.ev_w _).trans (wn_ev n x)
theorem wn4 (x : R) : wn 4 x = x.neg := rfl
theorem Low.map {f : R → R} (h : ∀ x, (f x).tr = f x.tr) (he : ∀ x, (f x).ev ↔ x.ev) {x y : R} {e k : Nat} (l : Low x e y k) : Low (f x) e (f y) k :=
  ⟨l.le, by rw [l.val, trn_comm h], l.low.imp id fun q r => q ((he y).mp r)⟩
theorem Low.up {x y : R} {e k : Nat} (l : Low x e y k) : ∀ n, Low (trn n x) (e + n) y k := fun n =>
  ⟨by have := l.le; omega, by rw [show e + n - k = (e - k) + n by have := l.le; omega, trn_add, ← l.val], l.low⟩
theorem Low.sum {X Y x y z : R} {ex ey kx ky k : Nat} (lx : Low X ex x kx) (ly : Low Y ey y ky) (lz : Low ((trn (max kx ky - kx) x).add (trn (max kx ky - ky) y)) (max kx ky) z k) :
    Low ((trn (max ex ey - ex) X).add (trn (max ex ey - ey) Y)) (max ex ey) z k := by
  have hx := lx.le
  have hy := ly.le
  have u := lz.up (max ex ey - max kx ky)
  rw [show max kx ky + (max ex ey - max kx ky) = max ex ey by omega, trn_radd, ← trn_add, ← trn_add] at u
  rw [lx.val, ly.val, ← trn_add, ← trn_add]
  rw [show ex - kx + (max ex ey - ex) = max kx ky - kx + (max ex ey - max kx ky) by omega, show ey - ky + (max ex ey - ey) = max kx ky - ky + (max ex ey - max kx ky) by omega]
  exact u
theorem Low.prod {X Y x y z : R} {ex ey kx ky k : Nat} (lx : Low X ex x kx) (ly : Low Y ey y ky) (lz : Low (x.mul y) (kx + ky) z k) : Low (X.mul Y) (ex + ey) z k := by
  have hx := lx.le
  have hy := ly.le
  have u := lz.up (ex - kx + (ey - ky))
  rw [show kx + ky + (ex - kx + (ey - ky)) = ex + ey by omega] at u
  rw [lx.val, ly.val, trn_mul]
  exact u
theorem R.bd_tr {n : Nat} {x : R} (h : x.tr.bd n) : x.bd n := by
  unfold R.bd B R.tr at *
  dsimp only at *
  generalize 2 ^ n = p at *
  omega
theorem R.bd_trn : ∀ {k n : Nat} {x : R}, (trn k x).bd n → x.bd n
  | 0, _, _, h => h
  | k + 1, n, x, h => R.bd_tr (R.bd_trn (k := k) h)
theorem Low.bd {n : Nat} {x y : R} {e k : Nat} (l : Low x e y k) (h : x.bd n) : y.bd n := by
  rw [l.val] at h
  exact R.bd_trn h
theorem R.bd.cj {n : Nat} {x : R} (h : x.bd n) : x.cj.bd n := ⟨h.1, h.2.2.2.neg, h.2.2.1.neg, h.2.1.neg⟩
theorem R.bd.neg {n : Nat} {x : R} (h : x.bd n) : x.neg.bd n := ⟨h.1.neg, h.2.1.neg, h.2.2.1.neg, h.2.2.2.neg⟩
end Mini
namespace Mini
open PySem PySem.Spec PyProof.Rows L2
/-! dicts with keys int or str -/
def keyO : O → Option L2.Key
  | .int i => some (.inl i)
  | .str s => some (.inr s)
  | _ => none
theorem keyO_rep {K : PySem.W.Frag} {ct : Nat → Addr} {F H : Hp} {o : O} {k : L2.Key} {v : V} {f : Fp} (h : keyO o = some k) (r : Rep K ct F H o v f) : v = kV k := by
  unfold keyO at h
  split at h
  · cases h; exact r.1
  · cases h; exact r.1
  · cases h
def kFind : List L2.Key → List O → L2.Key → Option O
  | k :: ks, o :: os, x => if k = x then some o else kFind ks os x
  | _, _, _ => none
theorem kFind_rep {K : PySem.W.Frag} {ct : Nat → Addr} {F H : Hp} {x : L2.Key} : ∀ {kvs : List (L2.Key × V)} {os : List O} {f : Fp}, Reps K ct F H os (kvs.map (·.2)) f →
    match kFind (kvs.map (·.1)) os x with
    | some o => ∃ v g, valV kvs x = some v ∧ Rep K ct F H o v g ∧ ∀ a, g a ≤ f a
    | none => valV kvs x = none
  | [], os, f, h => by
    cases os <;> simp [kFind, valV]
  | (k, v0) :: kvs, [], f, h => by
    exact absurd h.1 (by simp)
  | (k, v0) :: kvs, o :: os, f, h => by
    obtain ⟨v, vr, g, l, ev, r, rs, ef⟩ := h
    simp only [List.map_cons, List.cons.injEq] at ev
    obtain ⟨rfl, rfl⟩ := ev
    simp only [List.map_cons, kFind]
    by_cases q : k = x
    · rw [if_pos q]
      exact ⟨v0, g, by simp [valV, q], r, fun a => by rw [ef]; exact Nat.le_add_right _ _⟩
    · rw [if_neg q]
      have ih := kFind_rep (x := x) rs
      have e : valV ((k, v0) :: kvs) x = valV kvs x := by simp [valV, q]
      rw [e]
      split
      · rename_i o' e'
        rw [e'] at ih
        obtain ⟨v, g, h1, h2, h3⟩ := ih
        exact ⟨v, g, h1, h2, fun a => by rw [ef]; exact Nat.le_trans (h3 a) (Nat.le_add_left _ _)⟩
      · rename_i e'
        rw [e'] at ih
        exact ih
theorem Rep.dict {K : PySem.W.Frag} {ct : Nat → Addr} {F H : Hp} {w : Bool} {ks : List L2.Key} {os : List O} {v : V} {f : Fp} (le : Same F H) (h : Rep K ct F H (.dct w ks os) v f) :
    ∃ a kvs g, v = .ref a ∧ Rd H a (.dK kvs) ∧ ks = kvs.map (·.1) ∧ Reps K ct F H os (kvs.map (·.2)) g ∧ ∀ b, g b ≤ f b := by
  cases w with
  | false =>
    obtain ⟨a, kvs, e, s, ek, r, ef⟩ := h
    exact ⟨a, kvs, zf, e, Same.rd le s, ek, r, fun _ => Nat.zero_le _⟩
  | true =>
    obtain ⟨a, kvs, g, e, s, ek, r, ef⟩ := h
    exact ⟨a, kvs, g, e, .inl s, ek, r, fun b => by rw [ef]; exact Nat.le_add_left _ _⟩
def dTri (fn : O → O → O → Option O) (da db dc : Env → Option O) : Env → Option O := fun ρ => match da ρ with
  | some x => match db ρ with
    | some y => match dc ρ with
      | some z => fn x y z
      | none => none
    | none => none
  | none => none
theorem dTri_some {fn : O → O → O → Option O} {da db dc : Env → Option O} {ρ : Env} {o : O} (h : dTri fn da db dc ρ = some o) : ∃ x y z, da ρ = some x ∧ db ρ = some y ∧ dc ρ = some z ∧ fn x y z = some o := by
  unfold dTri at h
  split at h
  · rename_i x e
    split at h
    · rename_i y e2
      split at h
      · rename_i z e3; exact ⟨x, y, z, e, e2, e3, h⟩
      · cases h
    · cases h
  · cases h
/-- d[k] -/
def oDIdx (d y : O) : Option O := match d, keyO y with
  | .dct _ ks os, some k => kFind ks os k
  | _, _ => none
/-- d.get(k, z), with a frozen z -/
def oGet2 (d y z : O) : Option O := match d, keyO y with
  | .dct _ ks os, some k => match kFind ks os k with
    | some o => some o
    | none => if isFz z = true then some z else none
  | _, _ => none
def oDIn (neg : Bool) (y d : O) : Option O := match d, keyO y with
  | .dct _ ks os, some k => some (.bl (if neg then !(kFind ks os k).isSome else (kFind ks os k).isSome))
  | _, _ => none
section
variable {ct : Nat → Addr} {X : Cx} {a b c : Expr} {da db dc : Env → Option O} {k k2 k3 : Bool} {pos apos cpos : Pos}
theorem Gd.later {k : Bool} {f g g' : Fp} {H H2 F1 F2 : Hp} {K : PySem.W.Frag} {H1 : Hp} {o : O} {v : V} (gd1 : Gd k f H F1 g) (ex2 : Ext F1 H1 F2 H2) (r1 : Rep K ct F1 H1 o v g) (l : ∀ a, g' a ≤ g a) : Gd k f H F2 g' := by
  have z := gd1.sub l
  unfold Gd at z ⊢
  split
  · rw [if_pos (by assumption)] at z; exact z
  · rw [if_neg (by assumption)] at z
    refine ⟨z.1, z.2.1, fun a n => none_of_nn fun w => ?_⟩
    rcases ex2.new a w with w | w
    · exact w (z.2.2 a n)
    · obtain ⟨_, w', _⟩ := r1.mem a (by have := l a; omega)
      rw [w] at w'; cases w'
theorem sx_dget (hu : X.A.units + 64 < cLine) (ha : SX ct X k a da) (hb : SX ct X k2 b db) (hs : NoSl b) : SX ct X k (.Subscript a b pos) (dBin oDIdx da db) := by
  refine PE.imp (pe_dget (by omega) ha hb hs) fun σ H Q h => ?_
  obtain ⟨F, ρ, f, o, s, e, q⟩ := h
  obtain ⟨x, y, e1, e2, e3⟩ := dBin_some e
  refine ⟨F, ρ, f, x, s, e1, fun u F1 H1 g ex1 r1 gd1 => ?_⟩
  refine ⟨F1, ρ, f, y, s.ext ex1, e2, fun v F2 H2 h ex2 r2 gd2 => ?_⟩
  unfold oDIdx at e3
  split at e3
  · rename_i w ks os kk ek
    have r1' := r1.ext ex2
    obtain ⟨p, kvs, g0, ev, hp, eks, rs, l⟩ := Rep.dict ex2.le r1'
    subst eks
    have kf := kFind_rep (x := kk) rs
    rw [e3] at kf
    obtain ⟨v', g', e5, r5, l5⟩ := kf
    have l6 : ∀ a, g' a ≤ g a := fun a => Nat.le_trans (l5 a) (l a)
    exact ⟨p, v', ev, .inl ⟨kvs, kk, hp, keyO_rep ek r2, e5.symm⟩, q v' F2 H2 g' (ex1.trans ex2) r5 (Gd.later gd1 ex2 r1 l6)⟩
  · cases e3
theorem sx_get2 (hu : X.A.units + 64 < cLine) (ha : SX ct X k a da) (hb : SX ct X k2 b db) (hc : SX ct X k3 c dc)
    (hbase : attributeBase a "get" X.env (eval a X.env) = eval a X.env := by rfl) (hline : (apos.endLine == cpos.line) = true := by rfl)
    (htrees : backTo cpos (starEach [b, c] X.env) = [(false, eval b X.env), (false, eval c X.env)] := by rfl)
    (hfew : ((((backTo cpos (starEach [b, c] X.env)).all fun x => !x.1) && (backToKw cpos (keywordEach [] X.env)).all fun x => x.1.isSome) && decide (([b, c].length + List.length ([] : List (PySem.Str × Expr)) + if List.isEmpty ([] : List (PySem.Str × Expr)) = true then 0 else 1) < 30)) = true := by rfl) :
    SX ct X k (.Call (.Attribute a "get" apos) [b, c] [] cpos) (dTri oGet2 da db dc) := by
  refine PE.imp (pe_dget2 (by omega) ha hb hc ⟨hbase, hfew, hline, htrees⟩) fun σ H Q h => ?_
  obtain ⟨F, ρ, f, o, s, e, q⟩ := h
  obtain ⟨x, y, z, e1, e2, e3, e4⟩ := dTri_some e
  refine ⟨F, ρ, f, x, s, e1, fun u F1 H1 g ex1 r1 gd1 => ?_⟩
  unfold oGet2 at e4
  split at e4
  · rename_i w ks os kk ek
    obtain ⟨p, kvs, g0, ev, hp, eks, rs, l⟩ := Rep.dict ex1.le r1
    refine ⟨p, ev, .inl ⟨kvs, hp⟩, F1, ρ, f, y, s.ext ex1, e2, fun v2 F2 H2 g2 ex2 r2 gd2 => ?_⟩
    refine ⟨F2, ρ, f, z, (s.ext ex1).ext ex2, e3, fun v3 F3 H3 g3 ex3 r3 gd3 => ?_⟩
    subst eks
    have ex23 := ex2.trans ex3
    have kf := kFind_rep (x := kk) rs
    split at e4
    · rename_i o' eo
      cases e4
      rw [eo] at kf
      obtain ⟨v', g', e5, r5, l5⟩ := kf
      have l6 : ∀ a, g' a ≤ g a := fun a => Nat.le_trans (l5 a) (l a)
      exact ⟨some v', .inl ⟨kvs, kk, Same.rd ex23.hH hp, keyO_rep ek r2, e5.symm⟩, q v' F3 H3 g' (ex1.trans ex23) (r5.ext ex23) (Gd.later gd1 ex23 r1 l6)⟩
    · rename_i eo
      split at e4
      · rename_i hz
        cases e4
        rw [eo] at kf
        have ez := r3.fz0 hz
        subst ez
        exact ⟨none, .inl ⟨kvs, kk, Same.rd ex23.hH hp, keyO_rep ek r2, kf.symm⟩, q v3 F3 H3 zf (ex1.trans ex23) r3 Gd.zero⟩
      · cases e4
  · cases e4
end
theorem putK_eq {kvs : List (L2.Key × V)} {k x : L2.Key} {v0 v : V} (h : k = x) (n : x ∉ kvs.map (·.1)) : putK ((k, v0) :: kvs) x v = (k, v) :: kvs := by
  subst h
  have e : kvs.map (fun kv => if kv.1 = k then (kv.1, v) else kv) = kvs := by
    refine (List.map_congr_left (g := id) fun kv hm => ?_).trans (List.map_id _)
    have : ¬ kv.1 = k := fun q => n (List.mem_map.mpr ⟨kv, hm, q⟩)
    simp [this]
  simp [putK, e]
theorem putK_ne {kvs : List (L2.Key × V)} {k x : L2.Key} {v0 v : V} (h : ¬ k = x) : putK ((k, v0) :: kvs) x v = (k, v0) :: putK kvs x v := by
  unfold putK
  simp only [List.any_cons, decide_eq_false h, Bool.false_or, List.map_cons, if_neg h]
  split <;> simp
def kPut : List L2.Key → List O → L2.Key → O → Option (List L2.Key × List O)
  | [], [], x, o => some ([x], [o])
  | k :: ks, o' :: os, x, o => if k = x then (if (ks.any fun y => decide (y = x)) = true then none else some (k :: ks, o :: os)) else match kPut ks os x o with
    | some (ks', os') => some (k :: ks', o' :: os')
    | none => none
  | _, _, _, _ => none
theorem kPut_rep {K : PySem.W.Frag} {ct : Nat → Addr} {F H : Hp} {x : L2.Key} {o : O} {v : V} {g : Fp} (hv : Rep K ct F H o v g) : ∀ {kvs : List (L2.Key × V)} {os : List O} {f : Fp} {ks' : List L2.Key} {os' : List O}, Reps K ct F H os (kvs.map (·.2)) f →
    kPut (kvs.map (·.1)) os x o = some (ks', os') → ∃ f', (putK kvs x v).map (·.1) = ks' ∧ Reps K ct F H os' ((putK kvs x v).map (·.2)) f' ∧ ∀ a, f' a ≤ f a + g a
  | [], [], f, ks', os', h, e => by
    simp only [List.map_nil, kPut, Option.some.injEq, Prod.mk.injEq] at e
    obtain ⟨rfl, rfl⟩ := e
    exact ⟨g, by simp [putK], by simpa [putK] using Reps.one hv, fun a => Nat.le_add_left _ _⟩
  | [], o1 :: os, f, ks', os', h, e => by simp [kPut] at e
  | (k, v0) :: kvs, [], f, ks', os', h, e => by simp [kPut] at e
  | (k, v0) :: kvs, o1 :: os, f, ks', os', h, e => by
    obtain ⟨v1, vr, g1, l, ev, r, rs, ef⟩ := h
    simp only [List.map_cons, List.cons.injEq] at ev
    obtain ⟨rfl, rfl⟩ := ev
    simp only [List.map_cons, kPut] at e
    by_cases q : k = x
    · rw [if_pos q] at e
      split at e
      · cases e
      · rename_i hn
        cases e
        have hn : x ∉ kvs.map (·.1) := fun w => hn (List.any_eq_true.mpr ⟨x, w, by simp⟩)
        rw [putK_eq q hn]
        exact ⟨_, rfl, ⟨v, _, g, l, rfl, hv, rs, rfl⟩, fun a => by rw [ef]; show g a + l a ≤ g1 a + l a + g a; omega⟩
    · rw [if_neg q] at e
      split at e
      · rename_i ks2 os2 e2
        cases e
        obtain ⟨f', h1, h2, h3⟩ := kPut_rep hv rs e2
        rw [putK_ne q]
        refine ⟨_, by rw [List.map_cons, h1], ⟨v0, _, g1, f', rfl, r, h2, rfl⟩, fun a => ?_⟩
        have := h3 a
        rw [ef]
        show g1 a + f' a ≤ g1 a + l a + g a
        omega
      · cases e
section
variable {ct : Nat → Addr} {K : PySem.W.Frag} {F F' H H' : Hp}
/-- an owned dict in a slot is written; gy: what the new items bring -/
theorem SRep.wdict {ρ : Env} {σ : L2.St} {f gy : Fp} {i : Nat} {ks : List L2.Key} {os : List O} (wf : Wf F H (fun a => f a + gy a)) (h : SRep K ct F H ρ σ f) (e : look ρ i = some (.dct true ks os)) :
    ∃ a xs g0, σ[i]? = some (some (.ref a)) ∧ H a = some (.dK xs) ∧ ks = xs.map (·.1) ∧ Reps K ct F H os (xs.map (·.2)) g0 ∧ g0 a = 0 ∧ gy a = 0 ∧ (∀ b, g0 b ≤ f b) ∧
      ∀ os' xs' g', Reps K ct F (upd H a (.dK xs')) os' (xs'.map (·.2)) g' → (∀ b, g' b ≤ g0 b + gy b) →
        ∃ f', SRep K ct F (upd H a (.dK xs')) (ρ.set i (some (.dct true (xs'.map (·.1)) os'))) σ f' ∧ Stp F H (fun a => f a + gy a) F (upd H a (.dK xs')) f' := by
  obtain ⟨l1, l2⟩ := h.len e
  obtain ⟨g, l, ef, hl, hf⟩ := SRep.hole i l1 h
  obtain ⟨v, ev, r⟩ := hl _ e
  obtain ⟨a, xs, g0, e1, ha, ek, rs, eg⟩ := r
  subst e1
  have one := wf.one a
  have t : f a + gy a ≤ 1 := one
  have fa : f a = 1 + g0 a + l a := by rw [ef, eg]; simp [bump]
  have la : l a = 0 := by omega
  have g0a : g0 a = 0 := by omega
  have gya : gy a = 0 := by omega
  refine ⟨a, xs, g0, ev, ha, ek, rs, g0a, gya, fun b => ?_, fun os' xs' g' r' lg => ?_⟩
  · rw [ef, eg]
    show g0 b ≤ (if b = a then 1 else 0) + g0 b + l b
    omega
  · have Fa : F a = none := wf.dj a (by show f a + gy a ≠ 0; omega)
    have hr := (hf F (upd H a (.dK xs')) (Same.refl _) fun b z => by rw [upd_ne fun y => by subst y; exact z la]).1 (.dct true (xs'.map (·.1)) os') (.ref a) (bump a g') ⟨a, xs', g', rfl, upd_same, rfl, r', rfl⟩
    rw [set_self ev] at hr
    refine ⟨_, hr, Same.refl _, ⟨fun b u hu => ?_, fun b => ?_, fun b z => ?_⟩, fun b u hu z => ?_, fun b z => ?_⟩
    · rw [upd_ne fun y => by subst y; rw [Fa] at hu; cases hu]
      exact wf.le b u hu
    · have o1 := wf.one b
      have o2 := lg b
      have o3 : f b = (if b = a then 1 else 0) + g0 b + l b := by rw [ef, eg]; rfl
      have o4 : f b + gy b ≤ 1 := o1
      show (if b = a then 1 else 0) + g' b + l b ≤ 1
      omega
    · refine wf.dj b ?_
      have o2 := lg b
      have o3 : f b = (if b = a then 1 else 0) + g0 b + l b := by rw [ef, eg]; rfl
      have z' : (if b = a then 1 else 0) + g' b + l b ≠ 0 := z
      show f b + gy b ≠ 0
      omega
    · have z' : f b + gy b = 0 := z
      rw [upd_ne fun y => by subst y; omega]
      exact hu
    · rcases z with z | z
      · refine .inr (.inr ?_)
        have o2 := lg b
        have o3 : f b = (if b = a then 1 else 0) + g0 b + l b := by rw [ef, eg]; rfl
        have z' : (if b = a then 1 else 0) + g' b + l b ≠ 0 := z
        show f b + gy b ≠ 0
        omega
      · exact .inl z
end
/-- x[key] = e on an owned dict -/
def dSetD (i : Nat) (di d : Env → Option O) : Env → Option Out := fun ρ => match d ρ with
  | some o => match look ρ i with
    | some (.dct true ks os) => match di ρ with
      | some y => match keyO y with
        | some k => match kPut ks os k o with
          | some (ks', os') => if ks.length < sizeLine then some (.nx (ρ.set i (some (.dct true ks' os')))) else none
          | none => none
        | none => none
      | none => none
    | _ => none
  | none => none
section
variable {ct : Nat → Addr} {X : Cx} {pn : Nat → Bool} {W : WX} {e ie a b : Expr} {d di da db : Env → Option O} {k k1 k2 : Bool} {pos p1 p2 p3 apos : Pos}
theorem ss_setd (i : Nat) {x : Str} (hu : X.A.units + 64 < cLine) (he : SX ct X false e d) (hi : SX ct X k ie di) (hN : X.N[i]? = some x := by rfl) (hv : Vis X.env.scope x := by first | exact Or.inl rfl | exact Or.inr (Or.inl rfl) | exact Or.inr (Or.inr rfl)) (hd : (x == ("__debug__" : Str)) = false := by decide)
    (hcd : (x == ("__classdict__" : Str)) = false := by decide)
    (hs : swapsWith e (some (.Subscript (.Name x p1) ie p2)) pos.line X.env = pure false := by rfl) :
    SS ct X pn W (.Assign [.Subscript (.Name x p1) ie p2] e pos) (dSetD i di d) := by
  refine PS.imp (ps_dput (by omega) (pe_var hN hv hd hcd) hi he hs) fun D σ H h => ?_
  obtain ⟨F, ρ, f, out, s, e, q⟩ := h
  unfold dSetD at e
  split at e
  · rename_i o ed
    split at e
    · rename_i ks os eo
      split at e
      · rename_i y ei
        split at e
        · rename_i kk ek
          split at e
          · rename_i ks' os' ep
            split at e
            · rename_i hlen
              cases e
              refine ⟨F, ρ, f, o, s, ed, fun v F1 H1 gy ex ry gd => ?_⟩
              have s1 := s.ext ex
              have st := ex.stp s.wf s.rep.mem gd
              obtain ⟨u, g, ev, r, l⟩ := s1.rep.get eo
              refine ⟨u, ev, F1, ρ, f, y, s1, ei, fun iv F2 H2 g2 ex2 ri gd2 => ?_⟩
              have st2 := st.trans (ex2.stp0 st.wf fun b z => by
                by_cases w : f b = 0
                · exact ry.mem b (by have z' : f b + gy b ≠ 0 := z; omega)
                · exact s1.rep.mem b w)
              obtain ⟨a, kvs, g0, ev', ha', ek', rs', z1, z2, lg, wr⟩ := SRep.wdict st2.wf (s1.ext ex2).rep eo
              rw [ev] at ev'
              cases ev'
              subst ek'
              refine ⟨a, _, rfl, .inl ⟨kvs, kk, ha', keyO_rep ek ri, by simpa using hlen, rfl⟩, ?_⟩
              have ag : ∀ b, g0 b ≠ 0 → (upd H2 a (.dK (putK kvs kk v))) b = H2 b := fun b z => upd_ne fun w => by subst w; exact z z1
              have ag2 : ∀ b, gy b ≠ 0 → (upd H2 a (.dK (putK kvs kk v))) b = H2 b := fun b z => upd_ne fun w => by subst w; exact z z2
              obtain ⟨g', e1, rr, lg'⟩ := kPut_rep (Rep.mono (Same.refl _) ag2 (ry.ext ex2)) (Reps.mono (Same.refl _) ag rs') ep
              obtain ⟨f', sr, st3⟩ := wr _ _ g' rr lg'
              rw [e1] at sr
              exact q σ F2 _ f' (st2.trans st3) sr Pin.refl
            · cases e
          · cases e
        · cases e
      · cases e
    · cases e
  · cases e
theorem sx_din (hu : X.A.units + 64 < cLine) (ha : SX ct X k1 a da) (hb : SX ct X k2 b db) (hm : behindInMarks .In b = false := by with_unfolding_all rfl) : SX ct X false (.Compare a [.In] [b] pos) (dBin (oDIn false) da db) := by
  refine PE.imp (pe_cmp (pc_din (by omega) ha hb) hm) fun σ H Q h => ?_
  obtain ⟨F, ρ, f, o, s, e, q⟩ := h
  obtain ⟨x, y, e1, e2, e3⟩ := dBin_some e
  refine ⟨F, ρ, f, x, s, e1, fun u F1 H1 g ex1 r1 gd1 => ?_⟩
  refine ⟨F1, ρ, f, y, s.ext ex1, e2, fun v F2 H2 h ex2 r2 gd2 => ?_⟩
  unfold oDIn at e3
  split at e3
  · rename_i w ks os kk ek
    cases e3
    obtain ⟨p, kvs, g0, ev, hp, eks, rs, l⟩ := Rep.dict ex2.le r2
    subst eks
    have kf := kFind_rep (x := kk) rs
    refine ⟨p, valV kvs kk, ev, .inl ⟨kvs, kk, hp, keyO_rep ek r1, rfl⟩, q _ F2 H2 zf (ex1.trans ex2) ⟨?_, rfl⟩ Gd.zero⟩
    split at kf
    · rename_i o' eo
      obtain ⟨v', g', e5, r5, l5⟩ := kf
      rw [e5, eo]; rfl
    · rename_i eo
      rw [kf, eo]; rfl
  · cases e3
/-- {} -/
theorem sx_dnew : SX ct X false (.Dict [] [] pos) (fun _ => some (.dct true [] [])) := by
  refine PE.imp pe_dnewK fun σ H Q h => ?_
  obtain ⟨F, ρ, f, o, s, e, q⟩ := h
  cases e
  intro p np
  have hFp : F p = none := s.wf.le.free np
  have e2 : Ext F H F (upd H p (.dK [])) :=
    ⟨Same.refl _, fun b o hb => by rw [upd_ne (ne_of_none hb np)]; exact hb, fun b o hb => by rw [upd_ne (ne_of_none hb hFp)]; exact s.wf.le b o hb, fun a ha => .inl ha⟩
  refine q (.ref p) _ _ (bump p zf) e2 ⟨p, [], zf, rfl, upd_same, rfl, ⟨rfl, rfl⟩, rfl⟩ (Gd.mkn (fun a => ?_) (fun a z => ?_) fun a z => ?_)
  · by_cases y : a = p
    · simp [bump, y, zf]
    · simp [bump, y, zf]
  · by_cases y : a = p
    · subst y; exact np
    · exact absurd (by simp [bump, y, zf]) z
  · by_cases y : a = p
    · subst y; exact hFp
    · exact absurd (by simp [bump, y, zf]) z
end
end Mini
namespace Mini
open PySem PySem.Spec PyProof.Rows L2
/-! dict displays with frozen values -/
def PRep (K : PySem.W.Frag) (ct : Nat → Addr) (F H : Hp) : List (L2.Key × O) → List (V × V) → Prop
  | [], vs => vs = []
  | p :: ps, vs => ∃ v vr, vs = (kV p.1, v) :: vr ∧ Rep K ct F H p.2 v zf ∧ PRep K ct F H ps vr
theorem PRep.ext {K : PySem.W.Frag} {ct : Nat → Addr} {F H F' H' : Hp} (e : Ext F H F' H') : ∀ {ps : List (L2.Key × O)} {vs : List (V × V)}, PRep K ct F H ps vs → PRep K ct F' H' ps vs
  | [], _, h => h
  | p :: ps, vs, h => by
    obtain ⟨v, vr, e1, r, rs⟩ := h
    exact ⟨v, vr, e1, r.ext e, PRep.ext e rs⟩
theorem PRep.kvs {K : PySem.W.Frag} {ct : Nat → Addr} {F H : Hp} : ∀ {ps : List (L2.Key × O)} {vs : List (V × V)}, PRep K ct F H ps vs →
    ∃ kvs : List (L2.Key × V), vs = kvs.map (fun kv => (kV kv.1, kv.2)) ∧ kvs.length = ps.length ∧ PRep K ct F H ps (kvs.map fun kv => (kV kv.1, kv.2)) ∧ kvs.map (·.1) = ps.map (·.1)
  | [], vs, h => by
    subst h
    exact ⟨[], rfl, rfl, rfl, rfl⟩
  | p :: ps, vs, h => by
    obtain ⟨v, vr, e1, r, rs⟩ := h
    obtain ⟨kvs, h1, h2, h3, h4⟩ := PRep.kvs rs
    subst e1 h1
    exact ⟨(p.1, v) :: kvs, rfl, by simp [h2], ⟨v, _, rfl, r, h3⟩, by simp [h4]⟩
def dMerge : List L2.Key → List O → List (L2.Key × O) → Option O
  | ks, os, [] => some (.dct true ks os)
  | ks, os, p :: ps => match kPut ks os p.1 p.2 with
    | some (ks', os') => dMerge ks' os' ps
    | none => none
theorem merge_rep {K : PySem.W.Frag} {ct : Nat → Addr} {F H : Hp} {o : O} : ∀ {ps : List (L2.Key × O)} {kvs kvs0 : List (L2.Key × V)} {os0 : List O}, Reps K ct F H os0 (kvs0.map (·.2)) zf →
    PRep K ct F H ps (kvs.map fun kv => (kV kv.1, kv.2)) → kvs.map (·.1) = ps.map (·.1) → dMerge (kvs0.map (·.1)) os0 ps = some o →
    ∃ os, o = .dct true ((mergeK kvs0 kvs).map (·.1)) os ∧ Reps K ct F H os ((mergeK kvs0 kvs).map (·.2)) zf
  | [], [], kvs0, os0, r0, h, ek, e => by
    cases e
    exact ⟨os0, rfl, r0⟩
  | [], _ :: _, _, _, _, _, ek, _ => by cases ek
  | _ :: _, [], _, _, _, _, ek, _ => by cases ek
  | p :: ps, kv :: kvs, kvs0, os0, r0, h, ek, e => by
    obtain ⟨v, vr, e1, r, rs⟩ := h
    simp only [List.map_cons, List.cons.injEq] at e1 ek
    obtain ⟨e2, rfl⟩ := e1
    obtain ⟨e3, ek⟩ := ek
    have e4 : kv.2 = v := congrArg Prod.snd e2
    subst e4
    unfold dMerge at e
    split at e
    · rename_i ks' os' ep
      obtain ⟨f', h1, h2, h3⟩ := kPut_rep r r0 ep
      have fz : f' = zf := by funext a; exact Nat.le_zero.mp (h3 a)
      subst fz
      rw [← h1] at e
      have := merge_rep h2 rs ek e
      rw [← e3] at this
      exact this
    · cases e
def SP (ct : Nat → Addr) (X : Cx) (pos : Pos) (keys : List (Option Expr)) (values : List Expr) (ds : Env → Option (List (L2.Key × O))) : Prop :=
  ∃ trs, PPs X pos keys values trs ∧ ∀ σ F ρ f H Q ps, Sit X.K ct F H ρ σ f → ds ρ = some ps → (∀ vs F' H', Ext F H F' H' → PRep X.K ct F' H' ps vs → Q vs H') → tPairs trs σ H Q
def dPNil : Env → Option (List (L2.Key × O)) := fun _ => some []
def dPCons (dk dv : Env → Option O) (ds : Env → Option (List (L2.Key × O))) : Env → Option (List (L2.Key × O)) := fun ρ => match dk ρ with
  | some a => match dv ρ with
    | some o => match ds ρ with
      | some ps => match keyO a with
        | some k => if isFz o = true then some ((k, o) :: ps) else none
        | none => none
      | none => none
    | none => none
  | none => none
def dDct (ds : Env → Option (List (L2.Key × O))) : Env → Option O := fun ρ => match ds ρ with
  | some ps => if ps.length ≤ 15 then dMerge [] [] ps else none
  | none => none
section
variable {ct : Nat → Addr} {X : Cx} {pos : Pos} {keys : List (Option Expr)} {values : List Expr} {ds : Env → Option (List (L2.Key × O))} {k1 k2 : Bool} {ke ve : Expr} {dk dv : Env → Option O}
theorem sp_nil : SP ct X pos [] [] dPNil := ⟨[], pps_nil, fun σ F ρ f H Q ps s e q => by
  cases e
  exact q [] F H (Ext.refl s.wf.le) rfl⟩
theorem sp_cons (hk : SX ct X k1 ke dk) (hv : SX ct X k2 ve dv) (h : SP ct X pos keys values ds) : SP ct X pos (some ke :: keys) (ve :: values) (dPCons dk dv ds) := by
  obtain ⟨trs, hp, run⟩ := h
  refine ⟨_, pps_cons hk hv hp, fun σ F ρ f H Q ps s e q => ?_⟩
  unfold dPCons at e
  split at e
  · rename_i a ea
    split at e
    · rename_i o eo
      split at e
      · rename_i ps' es
        split at e
        · rename_i k ek
          split at e
          · rename_i hz
            cases e
            refine ⟨F, ρ, f, a, s, ea, fun u F1 H1 g ex1 r1 gd1 => ?_⟩
            refine ⟨F1, ρ, f, o, s.ext ex1, eo, fun v F2 H2 g2 ex2 r2 gd2 => ?_⟩
            refine run σ F2 ρ f H2 _ ps' ((s.ext ex1).ext ex2) es fun vs F3 H3 ex3 pr => ?_
            have ez := r2.fz0 hz
            subst ez
            exact q _ F3 H3 ((ex1.trans ex2).trans ex3) ⟨v, vs, by rw [keyO_rep ek r1], r2.ext ex3, pr⟩
          · cases e
        · cases e
      · cases e
    · cases e
  · cases e
theorem sx_dct (h : SP ct X pos keys values ds) (h1 : (keys.all fun x => x.isSome) = true := by rfl) (h2 : keys.length = values.length := by rfl) (h3 : keys ≠ [] := by intro q; cases q) (h4 : keys.length ≤ 15 := by decide) : SX ct X false (.Dict keys values pos) (dDct ds) := by
  obtain ⟨trs, hp, run⟩ := h
  refine PE.imp (pe_disp hp h1 h2 h3 h4) fun σ H Q h => ?_
  obtain ⟨F, ρ, f, o, s, e, q⟩ := h
  unfold dDct at e
  split at e
  · rename_i ps es
    split at e
    · rename_i hlen
      intro p np
      have hFp : F p = none := s.wf.le.free np
      have e2 : Ext F H F (upd H p (.dK [])) :=
        ⟨Same.refl _, fun b o hb => by rw [upd_ne (ne_of_none hb np)]; exact hb, fun b o hb => by rw [upd_ne (ne_of_none hb hFp)]; exact s.wf.le b o hb, fun a ha => .inl ha⟩
      refine run σ F ρ f _ _ ps (s.ext e2) es fun vs F2 H2 ex pr => ?_
      obtain ⟨kvs, ev, el, pr2, ek⟩ := pr.kvs
      refine ⟨ex.hH _ _ upd_same, kvs, ev, by omega, ?_⟩
      have hF2 : F2 p = none := none_of_nn fun w => by
        rcases ex.new p w with w | w
        · exact w hFp
        · rw [upd_same] at w; cases w
      obtain ⟨os, eo, rs⟩ := merge_rep (kvs0 := []) (os0 := []) ⟨rfl, rfl⟩ pr2 ek e
      subst eo
      have ex3 : Ext F H F2 (upd H2 p (.dK (mergeK [] kvs))) := by
        refine ⟨ex.hF, fun b o hb => ?_, fun b o hb => ?_, fun a ha => ?_⟩
        · rw [upd_ne (ne_of_none hb np)]
          exact (e2.hH.trans ex.hH) b o hb
        · rw [upd_ne (ne_of_none hb hF2)]
          exact ex.le b o hb
        · rcases ex.new a ha with w | w
          · exact .inl w
          · refine .inr ?_
            by_cases y : a = p
            · subst y; exact np
            · rw [upd_ne y] at w; exact w
      refine q (.ref p) _ _ (bump p zf) ex3 ⟨p, _, zf, rfl, upd_same, rfl, Reps.mono (Same.refl _) (fun b z => absurd rfl z) rs, rfl⟩ (Gd.mkn (fun a => ?_) (fun a z => ?_) fun a z => ?_)
      · by_cases y : a = p
        · simp [bump, y, zf]
        · simp [bump, y, zf]
      · by_cases y : a = p
        · subst y; exact np
        · exact absurd (by simp [bump, y, zf]) z
      · by_cases y : a = p
        · subst y; exact hF2
        · exact absurd (by simp [bump, y, zf]) z
    · cases e
  · cases e
end
end Mini
namespace Mini
open PySem PySem.Spec PyProof.Rows L2
/-! a dict locked and unlocked -/
structure Sw (F F' : Hp) : Prop where
  tup : ∀ (K : PySem.W.Frag) p xs, SqT K F p xs → SqT K F' p xs
  lst : ∀ (K : PySem.W.Frag) p xs, SqL K F p xs → SqL K F' p xs
  dk : ∀ p kvs, Rd F p (.dK kvs) → Rd F' p (.dK kvs)
  ins : ∀ p C dx fs, F p = some (.ins C dx fs) → F' p = some (.ins C dx fs)
def DkL (u : HO) (kvs : List (L2.Key × V)) : Prop := u = .dK kvs ∨ ∃ o, u = .frz o (.dK kvs)
theorem Sw.of {F : Hp} {a : Addr} {u u' : HO} {kvs : List (L2.Key × V)} (h : F a = some u) (d : DkL u kvs) (d' : DkL u' kvs) : Sw F (upd F a u') := by
  have ne : ∀ {p : Addr} {w : HO}, F p = some w → (∀ kvs, w ≠ .dK kvs) → (∀ o kvs, w ≠ .frz o (.dK kvs)) → upd F a u' p = some w := fun {p w} hp n1 n2 => by
    by_cases q : p = a
    · subst q
      rw [h] at hp
      cases hp
      rcases d with d | ⟨o, d⟩
      · exact absurd d (n1 _)
      · exact absurd d (n2 _ _)
    · rw [upd_ne q]; exact hp
  refine ⟨fun K p xs hs => ?_, fun K p xs hs => ?_, fun p kvs' hs => ?_, fun p C dx fs hs => ne hs (fun _ w => by cases w) fun _ _ w => by cases w⟩
  · rcases hs with (hs | ⟨o, hs⟩) | hs
    · exact .inl (.inl (ne hs (fun _ w => by cases w) fun _ _ w => by cases w))
    · exact .inl (.inr ⟨o, ne hs (fun _ w => by cases w) fun _ _ w => by cases w⟩)
    · exact .inr hs
  · rcases hs with (hs | ⟨o, hs⟩) | hs
    · exact .inl (.inl (ne hs (fun _ w => by cases w) fun _ _ w => by cases w))
    · exact .inl (.inr ⟨o, ne hs (fun _ w => by cases w) fun _ _ w => by cases w⟩)
    · exact .inr hs
  · by_cases q : p = a
    · subst q
      have ek : kvs' = kvs := by
        rcases hs with hs | ⟨o, hs⟩ <;> rw [h] at hs <;> cases hs <;> rcases d with d | ⟨o', d⟩ <;> cases d <;> rfl
      subst ek
      rcases d' with d' | ⟨o, d'⟩
      · subst d'; exact .inl upd_same
      · subst d'; exact .inr ⟨o, upd_same⟩
    · rcases hs with hs | ⟨o, hs⟩
      · exact .inl (by rw [upd_ne q]; exact hs)
      · exact .inr ⟨o, by rw [upd_ne q]; exact hs⟩
section
variable {K : PySem.W.Frag} {ct : Nat → Addr} {F F' H H' : Hp}
mutual
theorem Rep.swap (hF : Sw F F') : ∀ {o : O} {v : V} {f : Fp}, (∀ a, f a ≠ 0 → H' a = H a) → Rep K ct F H o v f → Rep K ct F' H' o v f
  | .non, _, _, _, h => h
  | .bl _, _, _, _, h => h
  | .int _, _, _, _, h => h
  | .str _, _, _, _, h => h
  | .exc _, _, _, _, h => h
  | .tup os, v, f, k, h => by
    obtain ⟨a, xs, e, s, r⟩ := h
    exact ⟨a, xs, e, hF.tup _ _ _ s, Reps.swap hF k r⟩
  | .lst false os, v, f, k, h => by
    obtain ⟨a, xs, e, s, r, ef⟩ := h
    exact ⟨a, xs, e, hF.lst _ _ _ s, Reps.swap hF (fun b hb => absurd rfl hb) r, ef⟩
  | .lst true os, v, f, k, h => by
    obtain ⟨a, xs, g, e, s, r, ef⟩ := h
    refine ⟨a, xs, g, e, ?_, Reps.swap hF (fun b hb => k b ?_) r, ef⟩
    · rw [k a (by rw [ef]; simp [bump])]; exact s
    · rw [ef]; show (if b = a then 1 else 0) + g b ≠ 0; omega
  | .dct false ks os, v, f, k, h => by
    obtain ⟨a, kvs, e, s, ek, r, ef⟩ := h
    exact ⟨a, kvs, e, hF.dk _ _ s, ek, Reps.swap hF (fun b hb => absurd rfl hb) r, ef⟩
  | .dct true ks os, v, f, k, h => by
    obtain ⟨a, kvs, g, e, s, ek, r, ef⟩ := h
    refine ⟨a, kvs, g, e, ?_, ek, Reps.swap hF (fun b hb => k b ?_) r, ef⟩
    · rw [k a (by rw [ef]; simp [bump])]; exact s
    · rw [ef]; show (if b = a then 1 else 0) + g b ≠ 0; omega
  | .ins false c ns os, v, f, k, h => by
    obtain ⟨a, dx, fs, e, s, ek, r, ef⟩ := h
    exact ⟨a, dx, fs, e, hF.ins _ _ _ _ s, ek, Reps.swap hF (fun b hb => absurd rfl hb) r, ef⟩
  | .ins true c ns os, v, f, k, h => by
    obtain ⟨a, dx, fs, g, e, s, ek, r, ef⟩ := h
    refine ⟨a, dx, fs, g, e, ?_, ek, Reps.swap hF (fun b hb => k b ?_) r, ef⟩
    · rw [k a (by rw [ef]; simp [bump])]; exact s
    · rw [ef]; show (if b = a then 1 else 0) + g b ≠ 0; omega
theorem Reps.swap (hF : Sw F F') : ∀ {os : List O} {vs : List V} {f : Fp}, (∀ a, f a ≠ 0 → H' a = H a) → Reps K ct F H os vs f → Reps K ct F' H' os vs f
  | [], _, _, _, h => h
  | o :: os, vs, f, k, h => by
    obtain ⟨v, vr, g, l, e, r, rs, ef⟩ := h
    refine ⟨v, vr, g, l, e, Rep.swap hF (fun b hb => k b ?_) r, Reps.swap hF (fun b hb => k b ?_) rs, ef⟩
    · rw [ef]; show g b + l b ≠ 0; omega
    · rw [ef]; show g b + l b ≠ 0; omega
end
theorem SRep.swap (hF : Sw F F') : ∀ {ρ : Env} {σ : L2.St} {f : Fp}, (∀ a, f a ≠ 0 → H' a = H a) → SRep K ct F H ρ σ f → SRep K ct F' H' ρ σ f
  | [], _, _, _, h => h
  | none :: ρ, [], _, _, h => (show False from h).elim
  | none :: ρ, _ :: σ, f, k, h => SRep.swap (ρ := ρ) (σ := σ) hF k h
  | some o :: ρ, [], _, _, h => (show False from h).elim
  | some o :: ρ, none :: σ, _, _, h => (show False from h).elim
  | some o :: ρ, some v :: σ, f, k, h => by
    obtain ⟨g, l, r, rs, ef⟩ := (show ∃ g h, Rep K ct F H o v g ∧ SRep K ct F H ρ σ h ∧ f = fun a => g a + h a from h)
    refine ⟨g, l, Rep.swap hF (fun b hb => k b ?_) r, SRep.swap hF (fun b hb => k b ?_) rs, ef⟩
    · rw [ef]; show g b + l b ≠ 0; omega
    · rw [ef]; show g b + l b ≠ 0; omega
theorem Sit.swap {ρ : Env} {σ : L2.St} {f : Fp} {a : Addr} {u u' : HO} {kvs : List (L2.Key × V)} (s : Sit K ct F H ρ σ f) (h : F a = some u) (d : DkL u kvs) (d' : DkL u' kvs) : Sit K ct (upd F a u') (upd H a u') ρ σ f := by
  have fa : ∀ b, f b ≠ 0 → b ≠ a := fun b z q => by
    subst q
    have := s.wf.dj b z
    rw [h] at this; cases this
  refine ⟨⟨fun b o hb => ?_, s.wf.one, fun b z => by rw [upd_ne (fa b z)]; exact s.wf.dj b z⟩, SRep.swap (Sw.of h d d') (fun b z => upd_ne (fa b z)) s.rep⟩
  by_cases q : b = a
  · subst q; rw [upd_same] at hb ⊢; exact hb
  · rw [upd_ne q] at hb ⊢; exact s.wf.le b o hb
/-- back to the unlocked dict -/
theorem Stp.unlock {f f' : Fp} {a : Addr} {od : Obj} {kvs : List (L2.Key × V)} (h : F a = some (.dK kvs)) (hH : H a = some (.dK kvs)) (st : Stp (upd F a (.frz od (.dK kvs))) (upd H a (.frz od (.dK kvs))) f F' H' f') :
    Stp F H f (upd F' a (.dK kvs)) (upd H' a (.dK kvs)) f' := by
  have hF' : F' a = some (.frz od (.dK kvs)) := st.hF _ _ upd_same
  refine ⟨fun b o hb => ?_, ⟨fun b o hb => ?_, st.wf.one, fun b z => ?_⟩, fun b o hb z => ?_, fun b z => ?_⟩
  · by_cases q : b = a
    · subst q; rw [upd_same]; rw [h] at hb; exact hb
    · rw [upd_ne q]; exact st.hF b o (by rw [upd_ne q]; exact hb)
  · by_cases q : b = a
    · subst q; rw [upd_same] at hb ⊢; exact hb
    · rw [upd_ne q] at hb ⊢; exact st.wf.le b o hb
  · have hb := st.wf.dj b z
    by_cases q : b = a
    · subst q; rw [hF'] at hb; cases hb
    · rw [upd_ne q]; exact hb
  · by_cases q : b = a
    · subst q; rw [upd_same]; rw [hH] at hb; exact hb
    · rw [upd_ne q]; exact st.frame b o (by rw [upd_ne q]; exact hb) z
  · by_cases q : b = a
    · subst q; exact .inl (by rw [h]; exact fun w => by cases w)
    · rw [upd_ne q] at z
      have := st.new b z
      rw [upd_ne q, upd_ne q] at this
      exact this
end
def keyB : L2.Key → O
  | .inl i => .int i
  | .inr s => .str s
theorem walks_k {K : PySem.W.Frag} {ct : Nat → Addr} {F : Hp} {a : Addr} {od : Obj} {kvs : List (L2.Key × V)} (h : F a = some (.frz od (.dK kvs))) : Walks K ct (Itk a od kvs) ((kvs.map (·.1)).map keyB) F := fun F2 H2 h1 h2 i => by
  have hh := h2 _ _ (h1 _ _ h)
  refine ⟨fun hi => ⟨hh, by simpa using hi⟩, fun o ho => ?_⟩
  have hlt : i < kvs.length := by
    have := (List.getElem?_eq_some_iff.mp ho).1
    simpa using this
  refine ⟨⟨hh, hlt⟩, fun x H3 hy => ?_⟩
  obtain ⟨eH, k, v, e1, e2⟩ := hy
  subst eH e2
  have : o = keyB k := by
    simp [e1] at ho
    exact ho.symm
  subst this
  refine ⟨F2, Ext.refl h2, ?_⟩
  cases k with
  | inl i => exact ⟨rfl, rfl⟩
  | inr s => exact ⟨rfl, rfl⟩
end Mini
namespace Mini
open PySem PySem.Spec PyProof.Rows L2
section
variable {ct : Nat → Addr} {X : Cx} {pn : Nat → Bool} {W : WX} {tg iter : Expr} {dg : O → Env → Option Env} {body : List Stmt} {db : Env → Option Out} {pos p : Pos} {x : Str}
theorem ps_orlock {st : Stmt} {t : TS} (h : PS X st t) : PS X st (fun D σ H => t D σ H ∨ tLock t D σ H) :=
  ⟨fun pins s σ H D I hh => hh.elim (h.run pins s σ H D I) ((ps_lock h).run pins s σ H D I)⟩
theorem for_core {J : It} {F1 H1 : Hp} {ρ : Env} {f : Fp} {σ : L2.St} {os : List O} {out : Out} {D : Ends} (s1 : Sit X.K ct F1 H1 ρ σ f) (wk : Walks X.K ct J os F1) (e : lFor dg db os ρ = some out) (q1 : Kst X.K ct pn W F1 H1 f σ out D) :
    ∃ W' : Nat → Nat → L2.St → Hp → Prop, (∃ m, W' 0 m σ H1) ∧ ∀ (i m : Nat) (σ : L2.St) (H : Hp), W' i m σ H → J.stop i H ∧ D.nx σ H ∨ J.go i H ∧ ∃ N, (∀ (σ' : L2.St) (H' : Hp), N σ' H' → ∃ m', m' < m ∧ W' (i + 1) m' σ' H') ∧
      ∀ (x : V) (H' : Hp), J.yld i H x H' → tGt ct X.K pn dg x σ H' fun σ2 H2 => tSt ct X.K pn W db { nx := N, rt := D.rt, bk := D.nx, ct := N } σ2 H2 := by
  refine ⟨fun i m σ' H' => m = os.length - i ∧ i ≤ os.length ∧ ∃ F' ρ' f', Sit X.K ct F' H' ρ' σ' f' ∧ Same F1 F' ∧ lFor dg db (os.drop i) ρ' = some out ∧ Kst X.K ct pn W F' H' f' σ' out D,
    ⟨os.length, rfl, Nat.zero_le _, F1, ρ, f, s1, Same.refl _, e, q1⟩, ?_⟩
  rintro i m σ' H' ⟨rfl, hi', F', ρ', f', s', hF', e', q'⟩
  obtain ⟨hst, hgo⟩ := wk F' H' hF' s'.wf.le i
  by_cases hlt : i < os.length
  · have ho : os[i]? = some os[i] := List.getElem?_eq_getElem hlt
    obtain ⟨go, hy⟩ := hgo _ ho
    have ed : os.drop i = os[i] :: os.drop (i + 1) := List.drop_eq_getElem_cons hlt
    rw [ed] at e'
    refine .inr ⟨go, fun σ'' H'' => ∃ F'' ρ'' f'', Sit X.K ct F'' H'' ρ'' σ'' f'' ∧ Same F1 F'' ∧ lFor dg db (os.drop (i + 1)) ρ'' = some out ∧ Kst X.K ct pn W F'' H'' f'' σ'' out D,
      fun σ'' H'' n => ⟨os.length - (i + 1), by omega, rfl, hlt, n⟩, fun x H3 y => ?_⟩
    obtain ⟨F3, ex3, r3⟩ := hy x H3 y
    have s3 := s'.ext ex3
    have q3 := q'.go (ex3.stp0 s'.wf s'.rep.mem) (Pin.refl (σ := σ'))
    unfold lFor at e'
    cases e1 : dg os[i] ρ' with
    | none => rw [e1] at e'; cases e'
    | some ρ1 =>
      rw [e1] at e'
      dsimp only at e'
      refine ⟨F3, ρ', f', zf, os[i], ρ1, s3, r3, s3.wf.sub fun a => (by show f' a + zf a ≤ f' a; simp [zf]), e1, fun σ2 f2 rs2 l2 p2 => ?_⟩
      have st2 : Stp F3 H3 f' F3 H3 f2 := (Stp.refl s3.wf).sub fun a => by have := l2 a; simpa [zf] using this
      have q2 := q3.go st2 p2
      have s2 : Sit X.K ct F3 H3 ρ1 σ2 f2 := ⟨st2.wf, rs2⟩
      have hF3 : Same F1 F3 := hF'.trans ex3.hF
      cases e2 : db ρ1 with
      | none => rw [e2] at e'; cases e'
      | some out1 =>
        rw [e2] at e'
        refine ⟨F3, ρ1, f2, out1, s2, e2, ?_⟩
        cases out1 with
        | nx ρ2 => exact fun σ4 F4 H4 f4 st rs p => ⟨F4, ρ2, f4, ⟨st.wf, rs⟩, hF3.trans st.hF, e', q2.go st p⟩
        | ct ρ2 => exact fun σ4 F4 H4 f4 st rs p => ⟨F4, ρ2, f4, ⟨st.wf, rs⟩, hF3.trans st.hF, e', q2.go st p⟩
        | bk ρ2 => cases e'; exact q2
        | rt o ρ2 => cases e'; exact q2
        | er c ρ2 => cases e'; exact q2
  · have ei : i = os.length := by omega
    subst ei
    rw [List.drop_length] at e'
    cases e'
    exact .inl ⟨hst (Nat.le_refl _), q' σ' F' H' f' (Stp.refl s'.wf) s'.rep Pin.refl⟩
/-- a walk over the keys of a frozen dict in slot i; the dict is locked meanwhile -/
def dForK (i : Nat) (dg : O → Env → Option Env) (body : Env → Option Out) : Env → Option Out := fun ρ => match look ρ i with
  | some (.dct false ks _) => match lFor dg body (ks.map keyB) ρ with
    | some (.er _ _) => none
    | r => r
  | _ => none
theorem ss_fork (i : Nat) (hp : PassesOwn (model X.prog X.w) X.A X.env X.xe) (hc : X.calm = true) (hg : SG ct X pn tg dg) (hb : SSs ct X pn W body db) (hN : X.N[i]? = some x := by rfl) (hv : Vis X.env.scope x := by first | exact Or.inl rfl | exact Or.inr (Or.inl rfl) | exact Or.inr (Or.inr rfl)) (hd : (x == ("__debug__" : Str)) = false := by decide)
    (hcd : (x == ("__classdict__" : Str)) = false := by decide)
    (hs : ∀ v, foldedSetIterable (.Name x p) X.env v = pure v := by intro _; rfl) : SS ct X pn W (.For tg (.Name x p) body [] pos) (dForK i dg db) := by
  refine PS.imp (ps_orlock (ps_for hp hc (pi_keys (pe_var hN hv hd hcd)) hg hb hs)) fun D σ H h => ?_
  obtain ⟨F, ρ, f, out, s, e, q⟩ := h
  unfold dForK at e
  split at e
  · rename_i ks os eo
    have e' : lFor dg db (ks.map keyB) ρ = some out ∧ ∀ c ρ', out ≠ .er c ρ' := by
      split at e
      · cases e
      · rename_i hne
        refine ⟨e, fun c ρ' w => ?_⟩
        subst w
        exact hne _ _ e
    obtain ⟨el, ner⟩ := e'
    obtain ⟨v, g, ev, r, l⟩ := s.rep.get eo
    obtain ⟨a, kvs, rfl, rd, ek, rs, eg⟩ := r
    subst ek
    rcases rd with hF | ⟨o, hF⟩
    · refine .inr ⟨a, .dK kvs, s.wf.le _ _ hF, True.intro, fun od => ?_⟩
      have s1 := s.swap (u' := .frz od (.dK kvs)) hF (.inl rfl) (.inr ⟨od, rfl⟩)
      refine ⟨.ref a, ev, a, od, rfl, .inl ⟨kvs, upd_same, for_core s1 (walks_k upd_same) el ?_⟩⟩
      have un : ∀ {σ' : L2.St} {F' H' : Hp} {f' : Fp}, Stp (upd F a (.frz od (.dK kvs))) (upd H a (.frz od (.dK kvs))) f F' H' f' → F' a = some (.frz od (.dK kvs)) ∧ H' a = some (.frz od (.dK kvs)) := fun {σ' F' H' f'} st =>
        ⟨st.hF _ _ upd_same, st.wf.le _ _ (st.hF _ _ upd_same)⟩
      have st' : ∀ {F' H' : Hp} {f' : Fp}, Stp (upd F a (.frz od (.dK kvs))) (upd H a (.frz od (.dK kvs))) f F' H' f' → Stp F H f (upd F' a (.dK kvs)) (upd H' a (.dK kvs)) f' := fun st => Stp.unlock hF (s.wf.le _ _ hF) st
      have fr : ∀ {F' H' : Hp} {f' : Fp}, Stp (upd F a (.frz od (.dK kvs))) (upd H a (.frz od (.dK kvs))) f F' H' f' → ∀ b, f' b ≠ 0 → b ≠ a := fun {F' H' f'} st b z w => by
        subst w
        have := st.wf.dj b z
        rw [st.hF _ _ upd_same] at this
        cases this
      cases out with
      | nx ρ' => exact fun σ' F' H' f' st sr pp => ⟨(un (σ' := σ') st).2, q σ' _ _ f' (st' st) (SRep.swap (Sw.of (un (σ' := σ') st).1 (.inr ⟨od, rfl⟩) (.inl rfl)) (fun b z => upd_ne (fr st b z)) sr) pp⟩
      | bk ρ' => exact fun σ' F' H' f' st sr pp => ⟨(un (σ' := σ') st).2, q σ' _ _ f' (st' st) (SRep.swap (Sw.of (un (σ' := σ') st).1 (.inr ⟨od, rfl⟩) (.inl rfl)) (fun b z => upd_ne (fr st b z)) sr) pp⟩
      | ct ρ' => exact fun σ' F' H' f' st sr pp => ⟨(un (σ' := σ') st).2, q σ' _ _ f' (st' st) (SRep.swap (Sw.of (un (σ' := σ') st).1 (.inr ⟨od, rfl⟩) (.inl rfl)) (fun b z => upd_ne (fr st b z)) sr) pp⟩
      | rt o ρ' => exact fun v σ' F' H' g f' st r0 sr pp => ⟨(un (σ' := σ') st).2, q v σ' _ _ g f' (st' st) (Rep.swap (Sw.of (un (σ' := σ') st).1 (.inr ⟨od, rfl⟩) (.inl rfl)) (fun b z => upd_ne (fr st b (by show g b + f' b ≠ 0; omega))) r0)
          (SRep.swap (Sw.of (un (σ' := σ') st).1 (.inr ⟨od, rfl⟩) (.inl rfl)) (fun b z => upd_ne (fr st b (by show g b + f' b ≠ 0; omega))) sr) pp⟩
      | er c ρ' => exact absurd rfl (ner c ρ')
    · exact .inl ⟨.ref a, ev, a, o, rfl, .inl ⟨kvs, s.wf.le _ _ hF, for_core s (walks_k hF) el q⟩⟩
  · cases e
end
end Mini
namespace Mini
open PySem PySem.Spec PyProof.Rows L2
/-! a call whose first argument is a variable that the callee may change -/
def dLend (i : Nat) (ks : List Bool) (Ff : Fn) (ds : Env → Option (List O)) : Env → Option Out := fun ρ => match look ρ i with
  | some oi => match ds ρ with
    | some os => match Ff (oi :: views ks os) with
      | some (_, fin) => match look fin 0 with
        | some o' => if okb ks os = true then some (.nx (ρ.set i (some o'))) else none
        | none => none
      | none => none
    | none => none
  | none => none
section
variable {ct : Nat → Addr} {X : Cx} {pn : Nat → Bool} {W : WX} {ks : List Bool} {es : List Expr} {ds : Env → Option (List O)} {Ff : Fn} {k : Nat} {x y : Str} {p p1 pos pos2 : Pos} {n : Nat}
theorem ss_lend (i : Nat) (D : FD X.prog X.w X.K X.mg X.base ct k x n Ff) (hr : Room k X.A) (ha : SA ct X ks es ds) (hn : ks.length + 1 = n := by rfl) (hN : X.N[i]? = some y := by rfl) (hv : Vis X.env.scope y := by first | exact Or.inl rfl | exact Or.inr (Or.inl rfl) | exact Or.inr (Or.inr rfl)) (hd : (y == ("__debug__" : Str)) = false := by decide)
    (hcd : (y == ("__classdict__" : Str)) = false := by decide) (hg : Gl X x := by rfl) (hdb : (x == ("__debug__" : Str)) = false := by decide)
    (he : starEach (.Name y p1 :: es) X.env = (false, eval (.Name y p1) X.env) :: starEach es X.env := by rfl) (hpl : (backTo pos (starEach es X.env)).any (·.1) = false := by rfl)
    (hs : swapsWith (.Call (.Name x p) (.Name y p1 :: es) [] pos) none pos2.line X.env = pure false := by rfl) :
    SS ct X pn W (.Expr (.Call (.Name x p) (.Name y p1 :: es) [] pos) pos2) (dLend i ks Ff ds) := by
  obtain ⟨f0, fd, ps, hps, hF, hm, hk, hb⟩ := D.ex
  refine PS.imp (ps_expr (pe_call hF hr hg hm hk hb .nil pass0 (pa_cons (pe_var hN hv hd hcd) ha he) hdb he hpl) hs) fun D σ H h => ?_
  obtain ⟨F, ρ, f, out, s, e, q⟩ := h
  unfold dLend at e
  split at e
  · rename_i oi eo
    split at e
    · rename_i os eos
      split at e
      · rename_i r fin er
        split at e
        · rename_i o' ef
          split at e
          · rename_i hok
            cases e
            obtain ⟨v, gv0, ev, -, -⟩ := s.rep.get eo
            refine ⟨v, ev, F, ρ, f, os, s, eos, fun vs F1 H1 gb gv ex ar hb hv => ?_⟩
            have gz := ar.okb hok
            subst gz
            have st := ex.stp s.wf s.rep.mem hv
            have s1 := s.ext ex
            obtain ⟨g, l, ef0, hl, hf⟩ := SRep.hole i (s1.rep.len eo).1 s1.rep
            obtain ⟨v2, ev2, ri⟩ := hl _ eo
            rw [ev] at ev2
            cases ev2
            have one : ∀ a, g a + l a + gv a ≤ 1 := fun a => by
              have := st.wf.one a
              rw [ef0] at this
              exact this
            have fl : ∀ a, f a = g a + l a := fun a => by rw [ef0]
            have memf : ∀ a, f a ≠ 0 → ∃ u, H1 a = some u ∧ Own u := s1.rep.mem
            show spF ct X.K n Ff ((v :: vs) ++ []) H1 _ E0
            rw [List.append_nil]
            refine ⟨by simp [ar.len, ← hn], F1, oi :: views ks os, fun a => g a + gv a, r, fin, ⟨st.wf.le, fun a => ?_, fun a z => ?_⟩, ⟨v, vs, g, gv, rfl, ri, ar.view (Same.refl _) (fun a z => absurd rfl z), rfl⟩, er, fun v' F' H' gr gf st2 rr sr => ?_⟩
            · have := one a
              show g a + gv a ≤ 1
              omega
            · refine st.wf.dj a ?_
              have z' : g a + gv a ≠ 0 := z
              show f a + gv a ≠ 0
              rw [fl]; omega
            · obtain ⟨v3, g0, ev3, r3, l3⟩ := sr.get ef
              have e3 : v3 = v := by
                simp at ev3
                exact ev3.symm
              subst e3
              have rest : ∀ b, l b ≠ 0 → gr b + gf b = 0 ∧ F' b = none ∧ H' b = H1 b := fun b z => by
                have o1 := one b
                obtain ⟨u, hu, _⟩ := memf b (by rw [fl]; omega)
                have fb : F1 b = none := st.wf.dj b (by show f b + gv b ≠ 0; rw [fl]; omega)
                have no : ¬ ((gr b + gf b ≠ 0) ∨ F' b ≠ none) := fun w => by
                  rcases st2.new b w with w | w | w
                  · exact w fb
                  · rw [hu] at w; cases w
                  · have w' : g b + gv b ≠ 0 := w
                    omega
                refine ⟨Classical.byContradiction fun w => no (.inl w), Classical.byContradiction fun w => no (.inr w), ?_⟩
                rw [hu]
                exact st2.frame b u hu (by show g b + gv b = 0; omega)
              have sr' := (hf F' H' st2.hF fun b z => (rest b z).2.2).1 o' v3 g0 r3
              rw [set_self ev] at sr'
              have st3 : Stp F1 H1 (fun a => f a + gv a) F' H' (fun a => g0 a + l a) := by
                refine ⟨st2.hF, ⟨st2.wf.le, fun b => ?_, fun b z => ?_⟩, fun b o hb z => ?_, fun b z => ?_⟩
                · show g0 b + l b ≤ 1
                  have o1 := one b
                  have o2 := l3 b
                  by_cases w : l b = 0
                  · have o3 : gr b + gf b ≤ 1 := st2.wf.one b
                    omega
                  · have := (rest b w).1
                    omega
                · have z' : g0 b + l b ≠ 0 := z
                  have o2 := l3 b
                  by_cases w : l b = 0
                  · exact st2.wf.dj b (by show gr b + gf b ≠ 0; omega)
                  · exact (rest b w).2.1
                · have z' : f b + gv b = 0 := z
                  rw [fl] at z'
                  exact st2.frame b o hb (by show g b + gv b = 0; omega)
                · by_cases w : l b = 0
                  · have z2 : (gr b + gf b ≠ 0) ∨ F' b ≠ none := by
                      rcases z with z | z
                      · have z' : g0 b + l b ≠ 0 := z
                        have o2 := l3 b
                        exact .inl (by omega)
                      · exact .inr z
                    rcases st2.new b z2 with y | y | y
                    · exact .inl y
                    · exact .inr (.inl y)
                    · have y' : g b + gv b ≠ 0 := y
                      exact .inr (.inr (by show f b + gv b ≠ 0; rw [fl]; omega))
                  · exact .inr (.inr (by show f b + gv b ≠ 0; rw [fl]; omega))
              exact q σ F' H' _ (st.trans st3) sr' Pin.refl
          · cases e
        · cases e
      · cases e
    · cases e
  · cases e
end
end Mini
namespace Mini
open PySem PySem.Spec PyProof.Rows L2
theorem dTru_oBool {d : Env → Option O} {ρ : Env} {b : Bool} (h : dTru oBool d ρ = some b) : d ρ = some (.bl b) := by
  unfold dTru at h
  split at h
  · rename_i o e1
    unfold oBool at h
    split at h
    · cases h; exact e1
    · cases h
  · cases h
section
variable {ct : Nat → Addr} {X : Cx} {a b : Expr} {da db : Env → Option O} {k1 k2 : Bool} {pos : Pos}
theorem sx_dnin (hu : X.A.units + 64 < cLine) (ha : SX ct X k1 a da) (hb : SX ct X k2 b db) (hm : behindInMarks .NotIn b = false := by with_unfolding_all rfl) : SX ct X false (.Compare a [.NotIn] [b] pos) (dBin (oDIn true) da db) := by
  refine PE.imp (pe_cmp (pc_dnotin (by omega) ha hb) hm) fun σ H Q h => ?_
  obtain ⟨F, ρ, f, o, s, e, q⟩ := h
  obtain ⟨x, y, e1, e2, e3⟩ := dBin_some e
  refine ⟨F, ρ, f, x, s, e1, fun u F1 H1 g ex1 r1 gd1 => ?_⟩
  refine ⟨F1, ρ, f, y, s.ext ex1, e2, fun v F2 H2 h ex2 r2 gd2 => ?_⟩
  unfold oDIn at e3
  split at e3
  · rename_i w ks os kk ek
    cases e3
    obtain ⟨p, kvs, g0, ev, hp, eks, rs, l⟩ := Rep.dict ex2.le r2
    subst eks
    have kf := kFind_rep (x := kk) rs
    refine ⟨p, valV kvs kk, ev, .inl ⟨kvs, kk, hp, keyO_rep ek r1, rfl⟩, q _ F2 H2 zf (ex1.trans ex2) ⟨?_, rfl⟩ Gd.zero⟩
    split at kf
    · rename_i o' eo
      obtain ⟨v', g', e5, r5, l5⟩ := kf
      rw [e5, eo]; rfl
    · rename_i eo
      rw [kf, eo]; rfl
  · cases e3
theorem st_din (hu : X.A.units + 64 < cLine) (ha : SX ct X k1 a da) (hb : SX ct X k2 b db) (hm : behindInMarks .In b = false := by with_unfolding_all rfl) : ST ct X (.Compare a [.In] [b] pos) (dTru oBool (dBin (oDIn false) da db)) := by
  refine PT.imp (pt_cmp (pc_din (by omega) ha hb) hm) fun σ H Q h => ?_
  obtain ⟨F, ρ, f, bb, s, e, q⟩ := h
  obtain ⟨x, y, e1, e2, e3⟩ := dBin_some (dTru_oBool e)
  refine ⟨F, ρ, f, x, s, e1, fun u F1 H1 g ex1 r1 gd1 => ?_⟩
  refine ⟨F1, ρ, f, y, s.ext ex1, e2, fun v F2 H2 h ex2 r2 gd2 => ?_⟩
  unfold oDIn at e3
  split at e3
  · rename_i w ks os kk ek
    cases e3
    obtain ⟨p, kvs, g0, ev, hp, eks, rs, l⟩ := Rep.dict ex2.le r2
    subst eks
    have kf := kFind_rep (x := kk) rs
    have ee : (valV kvs kk).isSome = (kFind (kvs.map (·.1)) os kk).isSome := by
      split at kf
      · rename_i o' eo
        obtain ⟨v', g', e5, r5, l5⟩ := kf
        rw [e5, eo]
        rfl
      · rename_i eo
        rw [kf, eo]
        rfl
    refine ⟨p, valV kvs kk, ev, .inl ⟨kvs, kk, hp, keyO_rep ek r1, rfl⟩, _, rfl, ?_⟩
    rw [ee]
    exact q F2 H2 (ex1.trans ex2)
  · cases e3
theorem st_dnin (hu : X.A.units + 64 < cLine) (ha : SX ct X k1 a da) (hb : SX ct X k2 b db) (hm : behindInMarks .NotIn b = false := by with_unfolding_all rfl) : ST ct X (.Compare a [.NotIn] [b] pos) (dTru oBool (dBin (oDIn true) da db)) := by
  refine PT.imp (pt_cmp (pc_dnotin (by omega) ha hb) hm) fun σ H Q h => ?_
  obtain ⟨F, ρ, f, bb, s, e, q⟩ := h
  obtain ⟨x, y, e1, e2, e3⟩ := dBin_some (dTru_oBool e)
  refine ⟨F, ρ, f, x, s, e1, fun u F1 H1 g ex1 r1 gd1 => ?_⟩
  refine ⟨F1, ρ, f, y, s.ext ex1, e2, fun v F2 H2 h ex2 r2 gd2 => ?_⟩
  unfold oDIn at e3
  split at e3
  · rename_i w ks os kk ek
    cases e3
    obtain ⟨p, kvs, g0, ev, hp, eks, rs, l⟩ := Rep.dict ex2.le r2
    subst eks
    have kf := kFind_rep (x := kk) rs
    have ee : (valV kvs kk).isSome = (kFind (kvs.map (·.1)) os kk).isSome := by
      split at kf
      · rename_i o' eo
        obtain ⟨v', g', e5, r5, l5⟩ := kf
        rw [e5, eo]
        rfl
      · rename_i eo
        rw [kf, eo]
        rfl
    refine ⟨p, valV kvs kk, ev, .inl ⟨kvs, kk, hp, keyO_rep ek r1, rfl⟩, _, rfl, ?_⟩
    rw [ee]
    exact q F2 H2 (ex1.trans ex2)
  · cases e3
end
/-! enumerate -/
def enumO (os : List O) : List O := os.mapIdx fun i o => .tup [.int i, o]
def dEnum (d : Env → Option O) : Env → Option (List O) := fun ρ => match d ρ with
  | some (.lst false os) => some (enumO os)
  | _ => none
theorem walks_e {K : PySem.W.Frag} {ct : Nat → Addr} {os : List O} {F : Hp} {p : Addr} {xs : List V} (sq : SqL K F p xs) (r : ∀ F2 H2, Same F F2 → Reps K ct F2 H2 os xs zf) : Walks K ct (Ite K p) (enumO os) F := fun F2 H2 h1 h2 i => by
  have sq2 : SqL K H2 p xs := Same.seq h2 (Same.seq h1 sq)
  have r2 := r F2 H2 h1
  refine ⟨fun hi => ⟨xs, sq2, by rw [← r2.length]; simpa [enumO] using hi⟩, fun o ho => ?_⟩
  have hlt : i < os.length := by
    have := (List.getElem?_eq_some_iff.mp ho).1
    simpa [enumO] using this
  obtain ⟨v, g, e1, rv, l⟩ := r2.at (List.getElem?_eq_getElem hlt)
  have eo : o = .tup [.int i, os[i]] := by
    simp [enumO, hlt] at ho
    exact ho.symm
  subst eo
  refine ⟨⟨xs, v, sq2, e1⟩, fun x H3 hy => ?_⟩
  obtain ⟨T, x', rfl, nT, rfl, hy⟩ := hy
  have ex := hy xs sq2
  rw [e1] at ex
  cases ex
  have gz : g = zf := by funext a; exact Nat.le_zero.mp (l a)
  subst gz
  have hFT : F2 T = none := h2.free nT
  have e2 : Ext F2 H2 (upd F2 T (.tup [.int i, v])) (upd H2 T (.tup [.int i, v])) := by
    refine ⟨fun b o hb => by rw [upd_ne (ne_of_none hb hFT)]; exact hb, fun b o hb => by rw [upd_ne (ne_of_none hb nT)]; exact hb, fun b o hb => ?_, fun a ha => ?_⟩
    · by_cases y : b = T
      · subst y; rw [upd_same] at hb ⊢; exact hb
      · rw [upd_ne y] at hb ⊢; exact h2 b o hb
    · by_cases y : a = T
      · subst y; exact .inr nT
      · rw [upd_ne y] at ha; exact .inl ha
  refine ⟨_, e2, T, [.int i, v], rfl, .inl (.inl upd_same), .int i, [v], zf, zf, rfl, ⟨rfl, rfl⟩, Reps.one (rv.ext e2), by funext a; simp [zf]⟩
section
variable {ct : Nat → Addr} {X : Cx} {a : Expr} {da : Env → Option O} {p pos tpos : Pos} {elts : List Expr} {kk : Nat}
theorem si_enum (hm : X.mg "enumerate" = none) (ha : SX ct X true a da) (hg : Gl X "enumerate" := by rfl) (hs : starEach [a] X.env = [(false, eval a X.env)] := by rfl) : SI ct X (.Tuple elts kk tpos) (.Call (.Name "enumerate" p) [a] [] pos) (dEnum da) := by
  refine PI.imp (pi_enum hg hm (pa_cons ha pa_nil hs) hs) fun σ H R h => ?_
  obtain ⟨F, ρ, f, os, s, e, q⟩ := h
  unfold dEnum at e
  split at e
  · rename_i os' ej
    cases e
    refine ⟨F, ρ, f, _, s, ej, fun v F1 H1 g ex r gd => ?_⟩
    obtain ⟨q1, xs, rfl, sq, rs, _⟩ := r
    exact ⟨q1, xs, rfl, Same.seq ex.le sq, q _ F1 H1 ex (walks_e sq fun F2 H2 hh => Reps.mono hh (fun a z => absurd rfl z) rs)⟩
  · cases e
end
end Mini
namespace Mini
open PySem PySem.Spec PyProof.Rows L2
/-! dicts of the module, keys texts: they are read by their name only -/
def GTab (K : PySem.W.Frag) (P : Params) (ct : Nat → Addr) : List DictEntry → List L2.Key → List O → Prop
  | [], [], [] => True
  | e :: es, .inr x :: ks, o :: os => (∃ t, e.key = .str x t) ∧ e.hash = PyData.keyHash P x ∧ (∃ v, RelV v e.val ∧ ∀ F H, Rep K ct F H o v zf) ∧ GTab K P ct es ks os
  | _, _, _ => False
theorem GTab.lits {K : PySem.W.Frag} {P : Params} {ct : Nat → Addr} : ∀ {es : List DictEntry} {ks : List L2.Key} {os : List O}, GTab K P ct es ks os → PySem.W.KeysLit P es
  | [], _, _, _ => True.intro
  | e :: es, .inr x :: ks, o :: os, h => ⟨let ⟨t, q⟩ := h.1; ⟨x, t, q, h.2.1⟩, GTab.lits h.2.2.2⟩
  | e :: es, [], _, h => (show False from h).elim
  | e :: es, .inl _ :: _, _, h => (show False from h).elim
  | e :: es, .inr _ :: _, [], h => (show False from h).elim
theorem GTab.find {K : PySem.W.Frag} {P : Params} {ct : Nat → Addr} (z : Str) : ∀ {es : List DictEntry} {ks : List L2.Key} {os : List O}, GTab K P ct es ks os → match kFind ks os (.inr z) with
    | some o => ∃ e v, es.find? (fun d => Value.isStrOf z d.key) = some e ∧ RelV v e.val ∧ ∀ F H, Rep K ct F H o v zf
    | none => es.find? (fun d => Value.isStrOf z d.key) = none
  | [], [], [], _ => rfl
  | [], [], _ :: _, h => (show False from h).elim
  | [], _ :: _, _, h => (show False from h).elim
  | e :: es, [], _, h => (show False from h).elim
  | e :: es, .inl _ :: _, _, h => (show False from h).elim
  | e :: es, .inr _ :: _, [], h => (show False from h).elim
  | e :: es, .inr x :: ks, o :: os, h => by
    obtain ⟨⟨t, hk⟩, hh, ⟨v, rv, rp⟩, ht⟩ := h
    have ih := GTab.find z ht
    have es' : Value.isStrOf z e.key = decide (x = z) := by
      rw [hk, ← PySem.W.isStr_of]
      show (x == z) = _
      by_cases q : x = z
      · subst q; simp
      · rw [decide_eq_false q]; exact beq_eq_false_iff_ne.mpr q
    unfold kFind
    by_cases q : x = z
    · rw [if_pos (by rw [q])]
      exact ⟨e, v, by rw [List.find?_cons, es', decide_eq_true q], rv, rp⟩
    · rw [if_neg (fun w => q (Sum.inr.inj w))]
      have e2 : (e :: es).find? (fun d => Value.isStrOf z d.key) = es.find? (fun d => Value.isStrOf z d.key) := by
        rw [List.find?_cons, es', decide_eq_false q]
      rw [e2]
      exact ih
/-- a name of the module that is such a dict -/
structure GD (mg : Str → Option Value) (K : PySem.W.Frag) (w : World) (ct : Nat → Addr) (x : Str) (ks : List L2.Key) (os : List O) : Prop where
  ex : ∃ a es n, mg x = some (.ref a) ∧ K.lookup a = some ⟨.type "dict", none, .dict es n, #[]⟩ ∧ (a == sysModules) = false ∧ GTab K w.params ct es.toList ks os
section
variable {X : Cx} {ct : Nat → Addr} {a : Addr} {es : Array DictEntry} {n : Nat} {ks : List L2.Key} {os : List O}
theorem GTab.by (z : Str) (g : GTab X.K X.w.params ct es.toList ks os) : match kFind ks os (.inr z) with
    | some o => ∃ u v, findBy Value.isStrOf es z = some u ∧ RelV v u ∧ ∀ F H, Rep X.K ct F H o v zf
    | none => findBy Value.isStrOf es z = none := by
  have h := g.find z
  obtain ⟨l⟩ := es
  unfold findBy
  rw [List.find?_toArray]
  have h' : match kFind ks os (.inr z) with
    | some o => ∃ e v, l.find? (fun d => Value.isStrOf z d.key) = some e ∧ RelV v e.val ∧ ∀ F H, Rep X.K ct F H o v zf
    | none => l.find? (fun d => Value.isStrOf z d.key) = none := h
  split at h'
  · obtain ⟨e, v, h1, h2, h3⟩ := h'
    exact ⟨e.val, v, by rw [h1]; rfl, h2, h3⟩
  · rw [h']; rfl
def rGIx (ct : Nat → Addr) (K : PySem.W.Frag) (a : Addr) (ks : List L2.Key) (os : List O) : R2 := fun x y H Q => ∃ z o, x = .ref a ∧ y = .str z ∧ kFind ks os (.inr z) = some o ∧ ∀ v, (∀ F H, Rep K ct F H o v zf) → Q v H
theorem ix_gd (hl : X.K.lookup a = some ⟨.type "dict", none, .dict es n, #[]⟩) (g : GTab X.K X.w.params ct es.toList ks os) : IxR X (rGIx ct X.K a ks os) := by
  intro value slice pins s σ H x y v u Q I rx ry h hs
  obtain ⟨z, o, rfl, rfl, ek, q⟩ := h
  obtain rfl : v = Value.ref a := rx
  obtain ⟨t, rfl⟩ := ry
  have hm := PySem.W.mapOf_K (prog := X.prog) (w := X.w) I.kIn hl g.lits
  have b := g.by z
  rw [ek] at b
  obtain ⟨u0, v0, e0, r0, rp⟩ := b
  exact tail_any hm.typeIs slot_dict_getitem.lookup (wpAny_getItem_of (strKind_is X.prog X.w z t) hm e0 ⟨v0, H, I.tok _, r0, q v0 rp⟩) hs
def rGIn (neg : Bool) (a : Addr) (ks : List L2.Key) (os : List O) : R2 := fun y x H Q => ∃ z, x = .ref a ∧ y = .str z ∧ Q (.bl (if neg then !(kFind ks os (.inr z)).isSome else (kFind ks os (.inr z)).isSome)) H
theorem op_gin (hl : X.K.lookup a = some ⟨.type "dict", none, .dict es n, #[]⟩) (hd : (a == sysModules) = false) (g : GTab X.K X.w.params ct es.toList ks os) : OpR X (compareOp .In) (rGIn false a ks os) := by
  intro pins s σ H y x u v Q I ry rx h
  obtain ⟨z, rfl, rfl, q⟩ := h
  obtain rfl : v = Value.ref a := rx
  obtain ⟨t, rfl⟩ := ry
  have hm := PySem.W.mapOf_K (prog := X.prog) (w := X.w) I.kIn hl g.lits
  refine wpAny_in_of (strKind_is X.prog X.w z t) hd hm ⟨_, H, I.tok _, ?_, q⟩
  have b := g.by z
  split at b
  · rename_i o ek
    obtain ⟨u0, v0, e0, _⟩ := b
    rw [ek, e0]; rfl
  · rename_i ek
    rw [ek, b]; rfl
theorem op_gnin (hl : X.K.lookup a = some ⟨.type "dict", none, .dict es n, #[]⟩) (hd : (a == sysModules) = false) (g : GTab X.K X.w.params ct es.toList ks os) : OpR X (compareOp .NotIn) (rGIn true a ks os) := by
  intro pins s σ H y x u v Q I ry rx h
  obtain ⟨z, rfl, rfl, q⟩ := h
  obtain rfl : v = Value.ref a := rx
  obtain ⟨t, rfl⟩ := ry
  have hm := PySem.W.mapOf_K (prog := X.prog) (w := X.w) I.kIn hl g.lits
  refine wpAny_notIn_of (strKind_is X.prog X.w z t) hd hm ⟨_, H, I.tok _, ?_, q⟩
  have b := g.by z
  split at b
  · rename_i o ek
    obtain ⟨u0, v0, e0, _⟩ := b
    rw [ek, e0]; rfl
  · rename_i ek
    rw [ek, b]; rfl
end
def gIdx (ks : List L2.Key) (os : List O) : O → Option O
  | .str z => kFind ks os (.inr z)
  | _ => none
def gGet (ks : List L2.Key) (os : List O) : O → O → Option O
  | .str z, d => match kFind ks os (.inr z) with
    | some o => some o
    | none => if isFz d = true then some d else none
  | _, _ => none
def gIn (neg : Bool) (ks : List L2.Key) (os : List O) : O → Option O
  | .str z => some (.bl (if neg then !(kFind ks os (.inr z)).isSome else (kFind ks os (.inr z)).isSome))
  | _ => none
section
variable {ct : Nat → Addr} {X : Cx} {a b c : Expr} {da db dc : Env → Option O} {k k2 k3 : Bool} {pos apos cpos : Pos} {x : Str} {ks : List L2.Key} {os : List O}
theorem sx_gidx (G : GD X.mg X.K X.w ct x ks os) (hb : SX ct X k2 b db) (hs : PlainIx b := by intro _ _; rfl) (hg : Gl X x := by rfl) (hdb : (x == ("__debug__" : Str)) = false := by decide) : SX ct X false (.Subscript (.Name x apos) b pos) (dBind db (gIdx ks os)) := by
  obtain ⟨p, es, n, hm, hl, hd, g⟩ := G.ex
  refine PE.imp (pe_ix (ix_gd hl g) (pe_glob (v := .ref p) hg hm rfl hdb) hb hs) fun σ H Q h => ?_
  obtain ⟨F, ρ, f, o, s, e, q⟩ := h
  obtain ⟨y, e1, e2⟩ := dBind_some e
  refine ⟨F, ρ, f, y, s, e1, fun v F2 H2 h ex2 r2 gd2 => ?_⟩
  unfold gIdx at e2
  split at e2
  · exact ⟨_, o, rfl, r2.1, e2, fun v rp => q v F2 H2 zf ex2 (rp F2 H2) Gd.zero⟩
  · cases e2
theorem gin_go {neg : Bool} {p : Addr} {σ : L2.St} {H : Hp} {Q : VK} (h : tX ct X.K false (dBind db (gIn neg ks os)) σ H Q) : tOp (rGIn neg p ks os) (tX ct X.K k2 db) (tC (.ref p)) σ H Q := by
  obtain ⟨F, ρ, f, o, s, e, q⟩ := h
  obtain ⟨y, e1, e2⟩ := dBind_some e
  refine ⟨F, ρ, f, y, s, e1, fun v F2 H2 h ex2 r2 gd2 => ?_⟩
  unfold gIn at e2
  split at e2
  · cases e2
    exact ⟨_, rfl, r2.1, q _ F2 H2 zf ex2 ⟨rfl, rfl⟩ Gd.zero⟩
  · cases e2
theorem sx_gin (G : GD X.mg X.K X.w ct x ks os) (hb : SX ct X k2 b db) (hg : Gl X x := by rfl) (hdb : (x == ("__debug__" : Str)) = false := by decide) (hm : behindInMarks .In (.Name x apos) = false := by with_unfolding_all rfl) : SX ct X false (.Compare b [.In] [.Name x apos] pos) (dBind db (gIn false ks os)) := by
  obtain ⟨p, es, n, hmg, hl, hd, g⟩ := G.ex
  exact PE.imp (pe_cmpR (op_gin hl hd g) hb (pe_glob (v := .ref p) hg hmg rfl hdb) hm) fun σ H Q h => gin_go h
theorem sx_gnin (G : GD X.mg X.K X.w ct x ks os) (hb : SX ct X k2 b db) (hg : Gl X x := by rfl) (hdb : (x == ("__debug__" : Str)) = false := by decide) (hm : behindInMarks .NotIn (.Name x apos) = false := by with_unfolding_all rfl) : SX ct X false (.Compare b [.NotIn] [.Name x apos] pos) (dBind db (gIn true ks os)) := by
  obtain ⟨p, es, n, hmg, hl, hd, g⟩ := G.ex
  exact PE.imp (pe_cmpR (op_gnin hl hd g) hb (pe_glob (v := .ref p) hg hmg rfl hdb) hm) fun σ H Q h => gin_go h
theorem st_gin_go {neg : Bool} {p : Addr} {σ : L2.St} {H : Hp} {Q : Bool → Hp → Prop} (h : tT ct X.K (dTru oBool (dBind db (gIn neg ks os))) σ H Q) : tOp (rGIn neg p ks os) (tX ct X.K k2 db) (tC (.ref p)) σ H (fun x H' => ∃ k, x = V.bl k ∧ Q k H') := by
  obtain ⟨F, ρ, f, b, s, e, q⟩ := h
  exact gin_go (ct := ct) (X := X) ⟨F, ρ, f, _, s, dTru_oBool e, fun v F' H' g ex r gd => ⟨_, r.1, q F' H' ex⟩⟩
theorem st_gin (G : GD X.mg X.K X.w ct x ks os) (hb : SX ct X k2 b db) (hg : Gl X x := by rfl) (hdb : (x == ("__debug__" : Str)) = false := by decide) (hm : behindInMarks .In (.Name x apos) = false := by with_unfolding_all rfl) : ST ct X (.Compare b [.In] [.Name x apos] pos) (dTru oBool (dBind db (gIn false ks os))) := by
  obtain ⟨p, es, n, hmg, hl, hd, g⟩ := G.ex
  exact PT.imp (pt_cmpR (op_gin hl hd g) hb (pe_glob (v := .ref p) hg hmg rfl hdb) hm) fun σ H Q h => st_gin_go h
theorem st_gnin (G : GD X.mg X.K X.w ct x ks os) (hb : SX ct X k2 b db) (hg : Gl X x := by rfl) (hdb : (x == ("__debug__" : Str)) = false := by decide) (hm : behindInMarks .NotIn (.Name x apos) = false := by with_unfolding_all rfl) : ST ct X (.Compare b [.NotIn] [.Name x apos] pos) (dTru oBool (dBind db (gIn true ks os))) := by
  obtain ⟨p, es, n, hmg, hl, hd, g⟩ := G.ex
  exact PT.imp (pt_cmpR (op_gnin hl hd g) hb (pe_glob (v := .ref p) hg hmg rfl hdb) hm) fun σ H Q h => st_gin_go h
def tGGet (ct : Nat → Addr) (K : PySem.W.Frag) (ks : List L2.Key) (os : List O) (ty tx : TE) : TE := fun σ H Q => ty σ H fun y H2 => tx σ H2 fun z H3 => ∃ w, y = .str w ∧ match kFind ks os (.inr w) with
  | some o => ∀ v, (∀ F H, Rep K ct F H o v zf) → Q v H3
  | none => Q z H3
theorem pe_gget (G : GD X.mg X.K X.w ct x ks os) {ty tx : TE} (he : PE X b ty) (hf : PE X c tx) (m : M2 X (.Name x pos) "get" apos b c cpos) (hg : Gl X x := by rfl) (hdb : (x == ("__debug__" : Str)) = false := by decide) :
    PE X (.Call (.Attribute (.Name x pos) "get" apos) [b, c] [] cpos) (tGGet ct X.K ks os ty tx) := by
  obtain ⟨p, es, n, hmg, hl, hd, g⟩ := G.ex
  refine ⟨fun pins s σ H Q I h => ?_⟩
  refine wpAny_Call_method m.base m.few m.line PySem.F.plainAttrs_dict PySem.F.slot_dict_get PySem.F.type_dict_get (thn ((pe_glob (v := .ref p) hg hmg rfl hdb).run pins s σ H (fun v H' => v = .ref p ∧ ty σ H' fun y H2 => tx σ H2 fun z H3 => ∃ w, y = .str w ∧ match kFind ks os (.inr w) with
    | some o => ∀ v, (∀ F H, Rep X.K ct F H o v zf) → Q v H3
    | none => Q z H3) I ⟨rfl, h⟩) fun u s1 ⟨xx, H1, I1, rx, ex, q1⟩ => ?_)
  subst ex
  obtain rfl : u = Value.ref p := rx
  have hm := PySem.W.mapOf_K (prog := X.prog) (w := X.w) I1.kIn hl g.lits
  refine ⟨hm.typeIs, fun b' qb => ?_, ?_⟩
  · cases qb
    exact ⟨_, I1.kIn _ _ hl, rfl⟩
  rw [m.trees]
  refine Calls.callWith_builtin rfl (Calls.evalArgs_plain (Calls.spliced_cons (thn (he.run pins s1 σ H1 _ I1 q1) fun iv s2 ⟨y, H2, I2, ry, q2⟩ =>
    Calls.spliced_cons (thn (hf.run pins s2 σ H2 _ I2 q2) fun fv s3 ⟨z, H3, I3, rz, q3⟩ => Calls.spliced_nil ?_))))
  obtain ⟨w, rfl, q3⟩ := q3
  obtain ⟨t, rfl⟩ := ry
  have hm3 := PySem.W.mapOf_K (prog := X.prog) (w := X.w) I3.kIn hl g.lits
  refine call_meetsIn PySem.F.slot_dict_get hm3.typeIs PySem.F.entry_dict_get (PySem.F.args_dict_get_3 _ _ _) (meets_dict_get_default (strKind X.prog X.w) p (strKind_is X.prog X.w w t) hd fv) ⟨_, hm3, ?_⟩
  have bb := g.by w
  split at bb
  · rename_i o ek
    rw [ek] at q3
    obtain ⟨u0, v0, e0, r0, rp⟩ := bb
    rw [e0]
    exact ⟨v0, H3, I3.tok _, r0, q3 v0 rp⟩
  · rename_i ek
    rw [ek] at q3
    rw [bb]
    exact ⟨z, H3, I3.tok _, rz, q3⟩
theorem sx_gget (G : GD X.mg X.K X.w ct x ks os) (hb : SX ct X k2 b db) (hc : SX ct X k3 c dc)
    (hbase : attributeBase (.Name x pos) "get" X.env (eval (.Name x pos) X.env) = eval (.Name x pos) X.env := by rfl) (hline : (apos.endLine == cpos.line) = true := by rfl)
    (htrees : backTo cpos (starEach [b, c] X.env) = [(false, eval b X.env), (false, eval c X.env)] := by rfl)
    (hfew : ((((backTo cpos (starEach [b, c] X.env)).all fun x => !x.1) && (backToKw cpos (keywordEach [] X.env)).all fun x => x.1.isSome) && decide (([b, c].length + List.length ([] : List (PySem.Str × Expr)) + if List.isEmpty ([] : List (PySem.Str × Expr)) = true then 0 else 1) < 30)) = true := by rfl)
    (hg : Gl X x := by rfl) (hdb : (x == ("__debug__" : Str)) = false := by decide) :
    SX ct X false (.Call (.Attribute (.Name x pos) "get" apos) [b, c] [] cpos) (dBin (gGet ks os) db dc) := by
  refine PE.imp (pe_gget G hb hc ⟨hbase, hfew, hline, htrees⟩ hg hdb) fun σ H Q h => ?_
  obtain ⟨F, ρ, f, o, s, e, q⟩ := h
  obtain ⟨y, z, e2, e3, e4⟩ := dBin_some e
  refine ⟨F, ρ, f, y, s, e2, fun v2 F2 H2 g2 ex2 r2 gd2 => ?_⟩
  refine ⟨F2, ρ, f, z, s.ext ex2, e3, fun v3 F3 H3 g3 ex3 r3 gd3 => ?_⟩
  cases y with
  | str w =>
    refine ⟨w, r2.1, ?_⟩
    simp only [gGet] at e4
    cases ek : kFind ks os (.inr w) with
    | some o' =>
      rw [ek] at e4
      cases e4
      exact fun v rp => q v F3 H3 zf (ex2.trans ex3) (rp F3 H3) Gd.zero
    | none =>
      rw [ek] at e4
      by_cases hz : isFz z = true
      · simp only [hz, if_true] at e4
        cases e4
        have ez := r3.fz0 hz
        subst ez
        exact q v3 F3 H3 zf (ex2.trans ex3) r3 Gd.zero
      · simp [hz] at e4
  | _ => simp [gGet] at e4
end
end Mini
namespace Mini
open PySem PySem.Spec PyProof.Rows L2
/-! list(d): its keys -/
def kO : L2.Key → O
  | .inl i => .int i
  | .inr s => .str s
theorem kO_fz : ∀ ks : List L2.Key, isFzs (ks.map kO) = true
  | [] => rfl
  | .inl _ :: ks => by simp [kO, isFzs, isFz, kO_fz ks]
  | .inr _ :: ks => by simp [kO, isFzs, isFz, kO_fz ks]
theorem kO_reps {K : PySem.W.Frag} {ct : Nat → Addr} {F H : Hp} : ∀ kvs : List (L2.Key × V), Reps K ct F H ((kvs.map (·.1)).map kO) (kvs.map fun kv => kV kv.1) zf
  | [] => ⟨rfl, rfl⟩
  | (.inl i, v) :: kvs => ⟨_, _, zf, zf, rfl, ⟨rfl, rfl⟩, kO_reps kvs, rfl⟩
  | (.inr i, v) :: kvs => ⟨_, _, zf, zf, rfl, ⟨rfl, rfl⟩, kO_reps kvs, rfl⟩
def oListD : O → Option O
  | .dct _ ks _ => some (.lst true (ks.map kO))
  | _ => none
section
variable {ct : Nat → Addr} {X : Cx} {a : Expr} {da : Env → Option O} {k1 : Bool} {pos : Pos}
theorem sx_listD {p : Pos} (hc : X.calm = true) (hm : X.mg "list" = none) (ha : SX ct X k1 a da) (hg : Gl X "list" := by rfl) (he : starEach [a] X.env = [(false, eval a X.env)] := by rfl) : SX ct X false (.Call (.Name "list" p) [a] [] pos) (dBind da oListD) := by
  refine sx_t1 (call_listD hc) ?_ hm (by decide +kernel) ha hg (by decide) (by decide) he
  intro F H x z u g Q le r e q
  unfold oListD at e
  split at e
  · cases e
    obtain ⟨a, kvs, g', rfl, s, ek, rs, _⟩ := Rep.dict le r
    subst ek
    exact ⟨a, kvs, rfl, s, fun l nl => q.newl le (kO_reps kvs) nl⟩
  · cases e
end
end Mini
namespace Mini
open PySem PySem.Spec PyProof.Rows L2
open Builtin Float
/-- the digits of a natural, base two, as a text -/
def binS (n : Nat) : Str := ⟨((Nat.toDigits 2 n).map Char.toNat).toArray⟩
theorem wp_retStr {M : PySem.Model} {A : Around} {X Y : Str} {Q : PySem.Fin → Shared → Prop} {E : Value → Shared → Prop} {s : Shared} (e : X = Y) (h : wpAny M A (retStr Y) Q E s) : wpAny M A (retStr X) Q E s := by rw [e]; exact h
section
variable {prog : Program} {w : World} {A : Around} {E : Value → Shared → Prop} {s : Shared}
theorem formatField_bin {a : Int} {t : Tok} {Q : Value → Shared → Prop} (ha : 0 ≤ a) (hlen : (binS a.natAbs).length ≤ sizeLine)
    (h : Q (.str (binS a.natAbs) (s.toks + 1)) { s with toks := s.toks + 1 + 1 }) :
    wpAny (model prog w) A (formatField (.int a t) (PySem.Str.ofString "b")) Q E s := by
  obtain ⟨f, hp, hty, hpr, hz, hal, hw, hgr, hsg, hfi, hag⟩ : ∃ f : FormatSpec, parseFormatSpec (PySem.Str.ofString "b").cps.toList "int" 62 = .ok f ∧ f.type = some 98 ∧ f.precision = none ∧ f.noNeg0 = false ∧ f.alt = false ∧ f.width = none ∧ f.grouping = none ∧ f.sign = none ∧ f.fill = 32 ∧ f.align = 62 := by
    refine ⟨_, rfl, rfl, rfl, rfl, rfl, rfl, rfl, rfl, rfl, rfl⟩
  have hne : ((PySem.Str.ofString "b").length == 0) = false := by decide +kernel
  have hasc : (((PySem.Str.ofString "b").cps.toList.drop 1).any (· ≥ 128) || ((PySem.Str.ofString "b").cps.getD 0 0 ≥ 128 && !([60, 62, 61, 94] : List Nat).contains ((PySem.Str.ofString "b").cps.getD 1 0))) = false := by decide +kernel
  have hsz : (PySem.Str.ofString "b").length ≤ sizeLine := by decide +kernel
  generalize hspec : PySem.Str.ofString "b" = spec at *
  show wpAny _ _ (holding [.int a t] (pyFormat (.int a t) spec)) Q E s
  refine wpAny_holding ?_
  unfold pyFormat
  refine wpAny_bind (wpAny_mkStr ?_ hsz)
  refine wpAny_bind (m := callSpecial? (.int a t) (Str.ofString "__format__") [.str spec s.toks]) (wpAny_callSpecial?_slot (name := Str.ofString "__format__") (typeIs_int _ a t) PySem.F.slot_int_format ?_)
  refine wpAny_call (codeAny_call_builtin PySem.F.slot_int_format.plain PySem.F.entry_int_format (PySem.F.slot_int_format.check _ _ _ _ _ _ _ _ (typeIs_int _ a t) (PySem.F.args_int_format_2 _ _) ?_))
  unfold Builtin.«int.__format__»
  simp only [selfAndOne, noKeywords, Int.intOfSelf, asInt?, asStr?, List.isEmpty_nil, if_true, pure_bind, bind_pure, bind_assoc, hne, hasc, Bool.false_eq_true, if_false,
    show (Value.str spec s.toks == Value.none) = false from rfl]
  refine wpAny_bind (wpAny_typeNameOf (T := "str") (typeIs_str _ _ _) (by decide) fun _ => ?_)
  first | refine wpAny_bind (wpAny_typeNameOfCut_int ?_) | refine wpAny_bind (wpAny_typeNameOf_int ?_)
  simp only [hp, hty, Option.getD_some]
  rw [if_pos (by decide)]
  show wpAny _ _ (if _ then _ else _) _ _ _
  rw [if_neg (by simp [hpr])]
  show wpAny _ _ (if _ then _ else _) _ _ _
  rw [if_neg (by simp [hz])]
  show wpAny _ _ (if _ then _ else _) _ _ _
  rw [if_neg (by decide)]
  show wpAny _ _ (if ((2 : Nat) == 10) = true then _ else _) _ _ _
  rw [if_neg (by decide)]
  show wpAny _ _ (if f.width.getD 0 > 100000 then _ else _) _ _ _
  rw [if_neg (by simp [hw])]
  have hn : decide (a < 0) = false := decide_eq_false (by omega)
  refine wp_retStr (Y := binS a.natAbs) ?_ ?_
  · obtain ⟨f1, f2, f3, f4, f5, f6, f7, f8, f9⟩ := f
    dsimp only at hty hpr hz hal hw hgr hsg hfi hag
    subst hty hpr hz hal hw hgr hsg hfi hag
    rw [hn]
    have hd : ((Nat.toDigits 2 a.natAbs).map fun c => (if (98 == 88) = true then c.toUpper else c).toNat) = (Nat.toDigits 2 a.natAbs).map Char.toNat := rfl
    rw [hd]
    generalize hD : (Nat.toDigits 2 a.natAbs).map Char.toNat = D
    have hb : binS a.natAbs = ⟨D.toArray⟩ := by rw [← hD]; rfl
    rw [hb]
    cases D with
    | nil => rfl
    | cons d D =>
      show (⟨(List.replicate ((-1 : Int) - ((([] : List Nat).length : Int) + (([] : List Nat).length : Int) + (([] : List Nat).length : Int)) - ((List.replicate ((0 : Int).toNat - (d :: D).length) 48 ++ (d :: D)).length : Int)).toNat 32 ++ [] ++ [] ++ List.replicate 0 32 ++ (List.replicate ((0 : Int).toNat - (d :: D).length) 48 ++ (d :: D)) ++ [] ++ List.replicate 0 32).toArray⟩ : Str) = _
      have z : ((-1 : Int) - ((([] : List Nat).length : Int) + (([] : List Nat).length : Int) + (([] : List Nat).length : Int)) - ((List.replicate ((0 : Int).toNat - (d :: D).length) 48 ++ (d :: D)).length : Int)).toNat = 0 := by
        simp only [List.length_nil]
        omega
      rw [z]
      simp
  · unfold retStr
    refine wpAny_bind (wpAny_mkStr (wpAny_pure ?_) hlen)
    dsimp only
    exact wpAny_bind (wpAny_isInstance (typeIs_str _ _ _) isSubtype_str_str (wpAny_pure h))
end
end Mini
namespace Mini
open PySem PySem.Spec PyProof.Rows L2
open Builtin Builtin.Str
/-- how many bits are set -/
def wt (n : Nat) : Nat := if h : n = 0 then 0 else n % 2 + wt (n / 2)
termination_by n
decreasing_by omega
theorem wt_0 : wt 0 = 0 := by rw [wt]; simp
theorem wt_s (n : Nat) : wt n = n % 2 + wt (n / 2) := by
  by_cases h : n = 0
  · subst h; rw [wt_0]
  · conv => lhs; rw [wt]
    rw [dif_neg h]
theorem cnt_core : ∀ (fuel n : Nat) (ds : List Char), n < fuel → ((Nat.toDigitsCore 2 fuel n ds).map Char.toNat).count 49 = wt n + (ds.map Char.toNat).count 49
  | 0, n, ds, h => absurd h (Nat.not_lt_zero _)
  | fuel + 1, n, ds, h => by
    have hd : ((Nat.digitChar (n % 2) :: ds).map Char.toNat).count 49 = n % 2 + (ds.map Char.toNat).count 49 := by
      rcases Nat.mod_two_eq_zero_or_one n with e | e <;> rw [e, List.map_cons, List.count_cons]
      · have : ((Nat.digitChar 0).toNat == 49) = false := by decide
        rw [this, if_neg Bool.false_ne_true]; omega
      · have : ((Nat.digitChar 1).toNat == 49) = true := by decide
        rw [this, if_pos rfl]; omega
    unfold Nat.toDigitsCore
    dsimp only
    by_cases z : n / 2 = 0
    · rw [if_pos z, hd, wt_s n, z, wt_0, Nat.add_zero]
    · rw [if_neg z, cnt_core fuel (n / 2) _ (by omega), hd, wt_s n]
      omega
theorem occ_count (c : Nat) (x : Str) : ∀ (m k : Nat) (st : Array Nat × Nat), k + m = x.length → st.1.size ≤ k → st.2 ≤ k →
    (forIn (m := Id) (List.range' k (m + 1)) st (StrLaws.occBody x ⟨#[c]⟩ x.length (x.length + 1))).run.fst.size = st.1.size + (x.cps.toList.drop k).count c
  | 0, k, st, hk, h1, h2 => by
    rw [List.range'_succ, List.forIn_cons]
    have hi : ¬ (((st.1.size < x.length + 1 ∧ st.2 ≤ k) ∧ k + (⟨#[c]⟩ : Str).length ≤ x.length) ∧ subAt x ⟨#[c]⟩ k = true) := fun q => by
      have : k + 1 ≤ x.length := q.1.2
      omega
    have hd : x.cps.toList.drop k = [] := List.drop_eq_nil_of_le (by have : x.length = x.cps.size := rfl; simp; omega)
    simp only [StrLaws.occBody, if_neg hi]
    rw [hd]
    rfl
  | m + 1, k, st, hk, h1, h2 => by
    rw [List.range'_succ, List.forIn_cons]
    have hx : x.length = x.cps.toList.length := by simp [Str.length]
    have hkl : k < x.cps.toList.length := by omega
    have hdrop : x.cps.toList.drop k = x.cps.toList[k] :: x.cps.toList.drop (k + 1) := List.drop_eq_getElem_cons hkl
    have hsub : subAt x ⟨#[c]⟩ k = decide (x.cps.toList[k] = c) := by
      unfold subAt
      have e : x.cps.extract k (k + (⟨#[c]⟩ : Str).length) = #[x.cps.toList[k]] := by
        have : (⟨#[c]⟩ : Str).length = 1 := rfl
        rw [this]
        apply Array.ext'
        rw [Array.toList_extract, List.extract_eq_drop_take, hdrop]
        simp
      rw [e]
      by_cases q : x.cps.toList[k] = c
      · rw [q]; simp
      · rw [decide_eq_false q]
        refine beq_eq_false_iff_ne.mpr fun z => q ?_
        have := congrArg Array.toList z
        simpa using this
    by_cases q : x.cps.toList[k] = c
    · have hi : (((st.1.size < x.length + 1 ∧ st.2 ≤ k) ∧ k + (⟨#[c]⟩ : Str).length ≤ x.length) ∧ subAt x ⟨#[c]⟩ k = true) := ⟨⟨⟨by omega, h2⟩, by have : (⟨#[c]⟩ : Str).length = 1 := rfl; omega⟩, by rw [hsub]; exact decide_eq_true q⟩
      simp only [StrLaws.occBody, if_pos hi]
      have ih := occ_count c x m (k + 1) (st.1.push k, k + 1) (by omega) (by rw [Array.size_push]; omega) (Nat.le_refl _)
      refine Eq.trans ih ?_
      rw [hdrop, List.count_cons, Array.size_push, q]
      simp
      omega
    · have hi : ¬ (((st.1.size < x.length + 1 ∧ st.2 ≤ k) ∧ k + (⟨#[c]⟩ : Str).length ≤ x.length) ∧ subAt x ⟨#[c]⟩ k = true) := fun z => by
        rw [hsub] at z
        exact q (of_decide_eq_true z.2)
      simp only [StrLaws.occBody, if_neg hi]
      have ih := occ_count c x m (k + 1) st (by omega) (by omega) (by omega)
      refine Eq.trans ih ?_
      rw [hdrop, List.count_cons, beq_eq_false_iff_ne.mpr q]
      rfl
theorem count_one (c : Nat) (x : Str) : Txt.count x ⟨#[c]⟩ = (x.cps.toList.count c : Nat) := by
  unfold Txt.count
  rw [StrLaws.occ_eq, Array.length_toList]
  have := occ_count c x x.length 0 (#[], 0) (by omega) (Nat.le_refl _) (Nat.le_refl _)
  have e : x.length + 1 - 0 = x.length + 1 := rfl
  rw [e, this]
  simp
theorem count_bin (n : Nat) : Txt.count (binS n) (PySem.Str.ofString "1") = (wt n : Nat) := by
  have e : PySem.Str.ofString "1" = ⟨#[49]⟩ := by decide +kernel
  rw [e, count_one]
  unfold binS Nat.toDigits
  have := cnt_core (n + 1) n [] (by omega)
  simp only [List.map_nil, List.count_nil, Nat.add_zero] at this
  rw [← this]
end Mini
namespace Mini
open PySem PySem.Spec PyProof.Rows L2
open Builtin Builtin.Str
/-! f'{e:b}', s.count(t), s.join(xs) -/
noncomputable def oBin : O → Option O
  | .int i => if 0 ≤ i ∧ lineOk (binS i.natAbs).length = true then some (.str (binS i.natAbs)) else none
  | _ => none
def oCnt : O → O → Option O
  | .str a, .str b => some (.int (Txt.count a b))
  | _, _ => none
def strsO : List O → Option (List Str)
  | [] => some []
  | .str s :: os => (strsO os).map (s :: ·)
  | _ :: _ => none
noncomputable def joinOk (a : Str) (ys : List Str) : Bool := hid (fun a ys => decide ((ys.map (·.length)).sum + ys.length * Str.length a ≤ 16777216)) a ys
theorem joinOk_iff {a : Str} {ys : List Str} : joinOk a ys = true ↔ (ys.map (·.length)).sum + ys.length * a.length ≤ 16777216 := by
  unfold joinOk
  rw [hid_eq]
  exact decide_eq_true_iff
noncomputable def oJoin : O → O → Option O
  | .str a, .lst _ os => match strsO os with
    | some ys => if joinOk a ys = true then some (.str (Txt.join a ys)) else none
    | none => none
  | _, _ => none
theorem strsO_reps {K : PySem.W.Frag} {ct : Nat → Addr} {F H : Hp} : ∀ {os : List O} {ys : List Str} {vs : List V} {f : Fp}, strsO os = some ys → Reps K ct F H os vs f → vs = ys.map V.str
  | [], ys, vs, f, e, h => by cases e; rw [show vs = [] from h.1]; rfl
  | .str s :: os, ys, vs, f, e, h => by
    obtain ⟨v, vr, g, l, ev, r, rs, ef⟩ := h
    unfold strsO at e
    cases e2 : strsO os with
    | none => rw [e2] at e; cases e
    | some zs =>
      rw [e2] at e
      cases e
      rw [ev, strsO_reps e2 rs, r.1]
      rfl
  | .non :: _, _, _, _, e, _ => by cases e
  | .bl _ :: _, _, _, _, e, _ => by cases e
  | .int _ :: _, _, _, _, e, _ => by cases e
  | .tup _ :: _, _, _, _, e, _ => by cases e
  | .lst _ _ :: _, _, _, _, e, _ => by cases e
  | .dct _ _ _ :: _, _, _, _, e, _ => by cases e
  | .ins _ _ _ _ :: _, _, _, _, e, _ => by cases e
  | .exc _ :: _, _, _, _, e, _ => by cases e
section
variable {ct : Nat → Addr} {X : Cx} {a b : Expr} {da db : Env → Option O} {k k2 : Bool} {pos p1 p2 p3 apos : Pos}
def tBin (te : TE) : TE := fun σ H Q => te σ H fun x H1 => ∃ i : Int, x = .int i ∧ 0 ≤ i ∧ (binS i.natAbs).length ≤ sizeLine ∧ Q (.str (binS i.natAbs)) H1
theorem pe_bin {te : TE} {j : Nat} (he : PE X a te) : PE X (.JoinedStr [.FormattedValue a (-1) (some (.JoinedStr [.Constant (.str "b") j p1] p2)) p3] pos) (tBin te) := by
  refine pe_joined1 ⟨fun pins s σ H Q I h => ?_⟩
  refine wpAny_FormattedValue_spec (thn (he.run pins s σ H _ I h) fun v s1 hv => ?_)
  obtain ⟨x, H1, I1, r1, i, rfl, h0, hz, q⟩ := hv
  obtain ⟨t, rfl⟩ := r1
  refine wpAny_JoinedStr_one (thn ((pe_str (X := X) (x := "b") (j := j) (pos := p1)).run pins s1 σ H1 (fun v' H' => v' = .str "b" ∧ Q (.str (binS i.natAbs)) H') I1 ⟨rfl, q⟩) fun v2 s2 hv2 => ?_)
  obtain ⟨x2, H2, I2, r2, e2, q2⟩ := hv2
  subst e2
  obtain ⟨t2, rfl⟩ := r2
  refine ⟨_, t2, rfl, ?_⟩
  exact formatField_bin h0 hz ⟨.str (binS i.natAbs), H2, I2.tok _, ⟨_, rfl⟩, q2⟩
theorem sx_binS {j : Nat} (ha : SX ct X k a da) : SX ct X false (.JoinedStr [.FormattedValue a (-1) (some (.JoinedStr [.Constant (.str "b") j p1] p2)) p3] pos) (dBind da oBin) := by
  refine PE.imp (pe_bin ha) fun σ H Q h => ?_
  obtain ⟨F, ρ, f, o, s, e, q⟩ := h
  obtain ⟨x, e1, e2⟩ := dBind_some e
  refine ⟨F, ρ, f, x, s, e1, fun u F1 H1 g ex1 r1 gd1 => ?_⟩
  unfold oBin at e2
  split at e2
  · split at e2
    · rename_i c
      cases e2
      exact ⟨_, r1.1, c.1, lineOk_iff.mp c.2, (q.go (f' := zf) ex1).scal ex1.le fun _ _ => ⟨rfl, rfl⟩⟩
    · cases e2
  · cases e2
theorem sx_cnt (ha : SX ct X k a da) (hb : SX ct X k2 b db) (hs : starEach [b] X.env = [(false, eval b X.env)] := by rfl) (hbase : attributeBase a "count" X.env (eval a X.env) = eval a X.env := by rfl) (hline : (apos.endLine == pos.line) = true := by rfl) :
    SX ct X false (.Call (.Attribute a "count" apos) [b] [] pos) (dBin oCnt da db) := by
  refine PE.imp (pe_m1 PySem.F.slot_str_count PySem.F.type_str_count mt_count ha hb hs hbase hline) fun σ H Q h => ?_
  obtain ⟨F, ρ, f, o, s, e, q⟩ := h
  obtain ⟨x, y, e1, e2, e3⟩ := dBin_some e
  refine ⟨F, ρ, f, x, s, e1, fun u F1 H1 g ex1 r1 gd1 => ?_⟩
  unfold oCnt at e3
  split at e3
  · cases e3
    refine ⟨⟨_, r1.1⟩, F1, ρ, f, _, s.ext ex1, e2, fun v F2 H2 h ex2 r2 gd2 => ?_⟩
    exact ⟨_, _, r1.1, by rw [r2.1], q _ F2 H2 zf (ex1.trans ex2) ⟨rfl, rfl⟩ Gd.zero⟩
  · cases e3
theorem sx_join (ha : SX ct X k a da) (hb : SX ct X k2 b db) (hs : starEach [b] X.env = [(false, eval b X.env)] := by rfl) (hbase : attributeBase a "join" X.env (eval a X.env) = eval a X.env := by rfl) (hline : (apos.endLine == pos.line) = true := by rfl) :
    SX ct X false (.Call (.Attribute a "join" apos) [b] [] pos) (dBin oJoin da db) := by
  refine PE.imp (pe_join ha hb hs hbase hline) fun σ H Q h => ?_
  obtain ⟨F, ρ, f, o, s, e, q⟩ := h
  obtain ⟨x, y, e1, e2, e3⟩ := dBin_some e
  refine ⟨F, ρ, f, x, s, e1, fun u F1 H1 g ex1 r1 gd1 => ?_⟩
  unfold oJoin at e3
  split at e3
  · split at e3
    · rename_i ys ey
      split at e3
      · rename_i c
        cases e3
        refine ⟨⟨_, r1.1⟩, F1, ρ, f, _, s.ext ex1, e2, fun v F2 H2 h ex2 r2 gd2 => ?_⟩
        obtain ⟨p, xs, g', rfl, sq, rs, _⟩ := Rep.list ex2.le r2
        have ev := strsO_reps ey rs
        subst ev
        exact ⟨_, p, ys, r1.1, rfl, .inl sq, joinOk_iff.mp c, q _ F2 H2 zf (ex1.trans ex2) ⟨rfl, rfl⟩ Gd.zero⟩
      · cases e3
    · cases e3
  · cases e3
end
end Mini
namespace Mini
open PySem PySem.Spec PyProof.Rows L2
/-! len(set(t)) of a tuple of ints -/
def dsti : List Int → List Int
  | [] => []
  | a :: r => if a ∈ r then dsti r else a :: dsti r
theorem dsti_mem {k : Int} : ∀ {l : List Int}, k ∈ dsti l ↔ k ∈ l
  | [] => Iff.rfl
  | a :: r => by
    unfold dsti
    by_cases h : a ∈ r
    · rw [if_pos h, dsti_mem, List.mem_cons]
      exact ⟨.inr, fun q => q.elim (fun e => e ▸ h) id⟩
    · rw [if_neg h, List.mem_cons, List.mem_cons, dsti_mem]
theorem dsti_nodup : ∀ l : List Int, (dsti l).Nodup
  | [] => List.nodup_nil
  | a :: r => by
    unfold dsti
    by_cases h : a ∈ r
    · rw [if_pos h]; exact dsti_nodup r
    · rw [if_neg h, List.nodup_cons]
      exact ⟨fun q => h (dsti_mem.mp q), dsti_nodup r⟩
theorem dsti_of : ∀ {l : List Int}, l.Nodup → dsti l = l
  | [], _ => rfl
  | a :: r, h => by
    rw [List.nodup_cons] at h
    unfold dsti
    rw [if_neg h.1, dsti_of h.2]
theorem dsti_le : ∀ l : List Int, (dsti l).length ≤ l.length
  | [] => Nat.le_refl _
  | a :: r => by
    unfold dsti
    have := dsti_le r
    by_cases h : a ∈ r
    · rw [if_pos h, List.length_cons]; omega
    · rw [if_neg h, List.length_cons, List.length_cons]; omega
theorem dsti_lt : ∀ {l : List Int}, ¬ l.Nodup → (dsti l).length < l.length
  | [], h => absurd List.nodup_nil h
  | a :: r, h => by
    unfold dsti
    have := dsti_le r
    by_cases q : a ∈ r
    · rw [if_pos q, List.length_cons]; omega
    · rw [if_neg q, List.length_cons, List.length_cons]
      have := dsti_lt (l := r) fun n => h (List.nodup_cons.mpr ⟨q, n⟩)
      omega
def intsL : List O → Option (List Int)
  | [] => some []
  | .int i :: os => (intsL os).map (i :: ·)
  | _ :: _ => none
theorem intsL_map : ∀ l : List Int, intsL (l.map O.int) = some l
  | [] => rfl
  | a :: r => by
    show (intsL (r.map O.int)).map (a :: ·) = _
    rw [intsL_map r]; rfl
theorem intsL_reps {K : PySem.W.Frag} {ct : Nat → Addr} {F H : Hp} : ∀ {os : List O} {ys : List Int} {vs : List V} {f : Fp}, intsL os = some ys → Reps K ct F H os vs f → vs = ys.map V.int
  | [], ys, vs, f, e, h => by cases e; rw [show vs = [] from h.1]; rfl
  | .int s :: os, ys, vs, f, e, h => by
    obtain ⟨v, vr, g, l, ev, r, rs, ef⟩ := h
    unfold intsL at e
    cases e2 : intsL os with
    | none => rw [e2] at e; cases e
    | some zs =>
      rw [e2] at e
      cases e
      rw [ev, intsL_reps e2 rs, r.1]
      rfl
  | .non :: _, _, _, _, e, _ => by cases e
  | .bl _ :: _, _, _, _, e, _ => by cases e
  | .str _ :: _, _, _, _, e, _ => by cases e
  | .tup _ :: _, _, _, _, e, _ => by cases e
  | .lst _ _ :: _, _, _, _, e, _ => by cases e
  | .dct _ _ _ :: _, _, _, _, e, _ => by cases e
  | .ins _ _ _ _ :: _, _, _, _, e, _ => by cases e
  | .exc _ :: _, _, _, _, e, _ => by cases e
def oLenSet : O → Option O
  | .tup os => match intsL os with
    | some ys => if ys.length ≤ 1000 then some (.int (dsti ys).length) else none
    | none => none
  | _ => none
section
variable {ct : Nat → Addr} {X : Cx} {a b c : Expr} {da db dc : Env → Option O} {k k1 k2 k3 : Bool} {p p2 q pos : Pos}
def tLenT (K : PySem.W.Frag) (ta : TE) : TE := fun σ H Q => ta σ H fun x H1 => ∃ (l : Addr) (ns : List Int), x = .ref l ∧ SqT K H1 l (ns.map V.int) ∧ ns.length ≤ 1000 ∧ Q (.int (dsti ns).length) H1
theorem pe_lenT {ta : TE} (hc : X.calm = true) (hg : Gl X "len") (hm : X.mg "len" = none) (hg2 : Gl X "set") (hm2 : X.mg "set" = none) (ha : PE X a ta)
    (na : starEach [a] X.env = (false, eval a X.env) :: starEach [] X.env := by rfl) : PE X (.Call (.Name "len" p) [.Call (.Name "set" p2) [a] [] q] [] pos) (tLenT X.K ta) := by
  refine ⟨fun pins s σ H Q I h => ?_⟩
  refine Call_ (ld_blt I hg hm PySem.boot_len ?_)
  refine PyProof.Rows.callWith_builtin1 (PyProof.Rows.args_cons ?_ rfl) rfl rfl
  refine Call_ (ld_blt I hg2 hm2 PyProof.Rows.boot_set ?_)
  refine PyProof.Rows.callWith_type1 (PyProof.Rows.args_cons (thn (ha.run pins s σ H _ I h) fun v s1 ⟨x, H1, I1, r1, q1⟩ => PyProof.Rows.args_nil ?_) na) na rfl
  obtain ⟨l, ns, rfl, hq, hl, q1⟩ := q1
  cases r1
  obtain ⟨its, rv, pt, hz⟩ := I1.tuple hq
  have hi : IntsAre its.toArray.toList ns := ints_of_vals rv
  refine call_set_tupI ns (I1.ok.hd hc) (show s1.heap.IsTuple l its.toArray from pt) hi (by unfold scanBound; omega) fun h' tk c R1 hcn k => ?_
  refine PyProof.Rows.args_nil ?_
  obtain ⟨o, es, ep, t, ho, hex, hd, g, nd, hm3, hb, hf, hn, hr, hl2⟩ := R1
  have I2 : Inv X pins σ H1 { s1 with heap := h', toks := tk } := I1.kept fun b o e => k b o e
  have e : es.size = (dsti ns).length := by
    have pm : (es.toList.map keyOf).Perm (dsti ns) := (List.perm_ext_iff_of_nodup nd (dsti_nodup ns)).mpr fun z => by rw [← hm3 z, decide_eq_true_eq, dsti_mem]
    have := pm.length_eq
    rw [List.length_map, Array.length_toList] at this
    exact this
  refine call_len_set ho hex hd hf (by have := dsti_le ns; omega) ⟨.int (dsti ns).length, H1, I2.tok _, ⟨_, by rw [e]⟩, q1⟩
theorem sx_lenSet (hc : X.calm = true) (hm : X.mg "len" = none) (hm2 : X.mg "set" = none) (ha : SX ct X k1 a da) (hg : Gl X "len" := by rfl) (hg2 : Gl X "set" := by rfl) (na : starEach [a] X.env = (false, eval a X.env) :: starEach [] X.env := by rfl) :
    SX ct X false (.Call (.Name "len" p) [.Call (.Name "set" p2) [a] [] q] [] pos) (dBind da oLenSet) := by
  refine PE.imp (pe_lenT hc hg hm hg2 hm2 ha na) fun σ H Q h => ?_
  obtain ⟨F, ρ, f, o, s, e, q⟩ := h
  obtain ⟨x, e1, e2⟩ := dBind_some e
  refine ⟨F, ρ, f, x, s, e1, fun u F1 H1 g ex1 r1 gd1 => ?_⟩
  unfold oLenSet at e2
  split at e2
  · split at e2
    · split at e2
      · rename_i ys ey hy
        cases e2
        obtain ⟨p, xs, ev, sq, rs⟩ := r1
        have e3 := intsL_reps ey rs
        subst e3
        exact ⟨p, ys, ev, Same.seqT ex1.le sq, hy, (q.go (f' := zf) ex1).scal ex1.le fun _ _ => ⟨rfl, rfl⟩⟩
      · cases e2
    · cases e2
  · cases e2
/-! slices -/
def cutO (os : List O) (lo hi : Option Int) : List O := (os.drop (HT.sIx os.length 0 lo)).take (HT.sIx os.length os.length hi - HT.sIx os.length 0 lo)
theorem Reps.dropZ {K : PySem.W.Frag} {F H : Hp} : ∀ {os : List O} {vs : List V} {f : Fp} (n : Nat), isFzs os = true → Reps K ct F H os vs f → Reps K ct F H (os.drop n) (vs.drop n) zf ∧ isFzs (os.drop n) = true
  | [], vs, f, n, z, h => by
    obtain ⟨rfl, _⟩ := h
    rw [List.drop_nil, List.drop_nil]
    exact ⟨⟨rfl, rfl⟩, rfl⟩
  | o :: os, vs, f, 0, z, h => by
    have := h.fz0 z
    subst this
    exact ⟨h, z⟩
  | o :: os, vs, f, n + 1, z, h => by
    obtain ⟨v, vr, g, l, ev, r, rs, ef⟩ := h
    subst ev
    rw [isFzs, Bool.and_eq_true] at z
    exact Reps.dropZ n z.2 rs
theorem Reps.takeZ {K : PySem.W.Frag} {F H : Hp} : ∀ {os : List O} {vs : List V} {f : Fp} (n : Nat), isFzs os = true → Reps K ct F H os vs f → Reps K ct F H (os.take n) (vs.take n) zf ∧ isFzs (os.take n) = true
  | [], vs, f, n, z, h => by
    obtain ⟨rfl, _⟩ := h
    rw [List.take_nil, List.take_nil]
    exact ⟨⟨rfl, rfl⟩, rfl⟩
  | o :: os, vs, f, 0, z, h => ⟨⟨rfl, rfl⟩, rfl⟩
  | o :: os, vs, f, n + 1, z, h => by
    obtain ⟨v, vr, g, l, ev, r, rs, ef⟩ := h
    subst ev
    rw [isFzs, Bool.and_eq_true] at z
    obtain ⟨i1, i2⟩ := Reps.takeZ n z.2 rs
    have := r.fz0 z.1
    subst this
    exact ⟨⟨v, vr.take n, zf, zf, rfl, r, i1, rfl⟩, by rw [List.take_succ_cons, isFzs, z.1, i2]; rfl⟩
theorem Reps.cut {K : PySem.W.Frag} {F H : Hp} {os : List O} {vs : List V} {f : Fp} (lo hi : Option Int) (z : isFzs os = true) (h : Reps K ct F H os vs f) : Reps K ct F H (cutO os lo hi) (cutV vs lo hi) zf := by
  unfold cutO cutV
  rw [h.length]
  obtain ⟨i1, i2⟩ := Reps.dropZ (HT.sIx vs.length 0 lo) z h
  exact (Reps.takeZ _ i2 i1).1
def oSlice (lo hi : Option Int) : O → Option O
  | .lst _ os => if isFzs os = true then some (.lst true (cutO os lo hi)) else none
  | .tup os => if isFzs os = true then some (.tup (cutO os lo hi)) else none
  | _ => none
theorem slice_go {K : PySem.W.Frag} {F H : Hp} {x z : O} {v : V} {f g : Fp} {lo hi : Option Int} {Q : VK} (le : Same F H) (r : Rep K ct F H x v f) (e : oSlice lo hi x = some z) (q : Kn K ct false g F H z Q) : rSlL K v lo hi H Q ∨ rSlA K v lo hi H Q := by
  unfold oSlice at e
  split at e
  · split at e
    · rename_i hz
      cases e
      obtain ⟨a, xs, g', rfl, s, rs, _⟩ := Rep.list le r
      exact .inl ⟨a, xs, rfl, s, fun p np => q.newl le (rs.cut lo hi hz) np⟩
    · cases e
  · split at e
    · rename_i os hz
      cases e
      obtain ⟨a, xs, rfl, s, rs⟩ := r
      refine .inr ⟨a, xs, rfl, Same.seqT le s, fun hw => ?_, fun _ p np => q.newt le (rs.cut lo hi hz) np⟩
      have e0 : cutO os lo hi = os := by
        unfold cutO
        rw [rs.length, hw.1, hw.2, ← rs.length, List.drop_zero, Nat.sub_zero, List.take_length]
      have ez := rs.fz0 hz
      subst ez
      rw [e0] at q
      exact q _ F H zf (Ext.refl le) ⟨a, xs, rfl, s, rs⟩ Gd.zero
    · cases e
  · cases e
def oSlU (x y : O) : Option O := match y with
  | .int i => oSlice none (some i) x
  | _ => none
def oSlL (x y : O) : Option O := match y with
  | .int i => oSlice (some i) none x
  | _ => none
def oSlB (x y z : O) : Option O := match y, z with
  | .int i, .int j => oSlice (some i) (some j) x
  | _, _ => none
theorem sx_slU (ha : SX ct X k a da) (hb : SX ct X k2 b db) : SX ct X false (.Subscript a (.Slice none (some b) none p2) pos) (dBin oSlU da db) := by
  refine PE.imp (pe_slice (SlR.or sl_list sl_tupA) ha po_none (po_some hb)) fun σ H Q h => ?_
  obtain ⟨F, ρ, f, o, s, e, q⟩ := h
  obtain ⟨x, y, e1, e2, e3⟩ := dBin_some e
  refine ⟨F, ρ, f, x, s, e1, fun u F1 H1 g ex1 r1 gd1 => ?_⟩
  show tX ct X.K k2 db σ H1 fun w H2 => ∃ i, w = .int i ∧ _
  refine ⟨F1, ρ, f, y, s.ext ex1, e2, fun v F2 H2 h ex2 r2 gd2 => ?_⟩
  unfold oSlU at e3
  split at e3
  · exact ⟨_, r2.1, slice_go (g := zf) ex2.le (r1.ext ex2) e3 (q.go (ex1.trans ex2))⟩
  · cases e3
theorem sx_slL (ha : SX ct X k a da) (hb : SX ct X k2 b db) : SX ct X false (.Subscript a (.Slice (some b) none none p2) pos) (dBin oSlL da db) := by
  refine PE.imp (pe_slice (SlR.or sl_list sl_tupA) ha (po_some hb) po_none) fun σ H Q h => ?_
  obtain ⟨F, ρ, f, o, s, e, q⟩ := h
  obtain ⟨x, y, e1, e2, e3⟩ := dBin_some e
  refine ⟨F, ρ, f, x, s, e1, fun u F1 H1 g ex1 r1 gd1 => ?_⟩
  show tX ct X.K k2 db σ H1 fun w H2 => ∃ i, w = .int i ∧ _
  refine ⟨F1, ρ, f, y, s.ext ex1, e2, fun v F2 H2 h ex2 r2 gd2 => ?_⟩
  unfold oSlL at e3
  split at e3
  · exact ⟨_, r2.1, slice_go (g := zf) ex2.le (r1.ext ex2) e3 (q.go (ex1.trans ex2))⟩
  · cases e3
theorem sx_slB (ha : SX ct X k a da) (hb : SX ct X k2 b db) (hc : SX ct X k3 c dc) : SX ct X false (.Subscript a (.Slice (some b) (some c) none p2) pos) (dTri oSlB da db dc) := by
  refine PE.imp (pe_slice (SlR.or sl_list sl_tupA) ha (po_some hb) (po_some hc)) fun σ H Q h => ?_
  obtain ⟨F, ρ, f, o, s, e, q⟩ := h
  obtain ⟨x, y, z, e1, e2, e3, e4⟩ := dTri_some e
  refine ⟨F, ρ, f, x, s, e1, fun u F1 H1 g ex1 r1 gd1 => ?_⟩
  show tX ct X.K k2 db σ H1 fun w H2 => ∃ i, w = .int i ∧ _
  refine ⟨F1, ρ, f, y, s.ext ex1, e2, fun v F2 H2 h ex2 r2 gd2 => ?_⟩
  unfold oSlB at e4
  split at e4
  · refine ⟨_, r2.1, ?_⟩
    show tX ct X.K k3 dc σ H2 fun w H3 => ∃ i, w = .int i ∧ _
    refine ⟨F2, ρ, f, _, (s.ext ex1).ext ex2, e3, fun v3 F3 H3 h3 ex3 r3 gd3 => ?_⟩
    exact ⟨_, r3.1, slice_go (g := zf) ex3.le ((r1.ext ex2).ext ex3) e4 (q.go ((ex1.trans ex2).trans ex3))⟩
  · cases e4
/-! str(i) -/
def oStr : O → Option O
  | .int i => if i.natAbs.log2 < 1920 then some (.str (PySem.Str.ofString (toString i))) else none
  | _ => none
theorem sx_strI (hm : X.mg "str" = none) (ha : SX ct X k1 a da) (hg : Gl X "str" := by rfl) (he : starEach [a] X.env = [(false, eval a X.env)] := by rfl) : SX ct X false (.Call (.Name "str" p) [a] [] pos) (dBind da oStr) := by
  refine sx_t1 call_str_int ?_ hm (by decide +kernel) ha hg (by decide) (by decide) he
  intro F H x z u g Q le r e q
  unfold oStr at e
  split at e
  · split at e
    · cases e
      obtain ⟨rfl, _⟩ := r
      exact ⟨_, rfl, by assumption, q.scal le fun _ _ => ⟨rfl, rfl⟩⟩
    · cases e
  · cases e
end
end Mini
namespace Mini
open PySem PySem.Spec PyProof.Rows L2
/-! x in a tuple of data of any depth -/
theorem units5 {k : Nat} {A : Around} (r : Room k A) : A.units + 65 < cLine := by have := r.un; omega
def rInDT (K : PySem.W.Frag) : R2 := fun x y H Q => ∃ d ds, Dp K H x d ∧ Dp K H y (.tuple ds) ∧ SeqAt.shaped d = true ∧ PyData.canLayAll0 ds = true ∧ Q (.bl (ds.any fun z => PyData.eqv z d)) H
section
variable {ct : Nat → Addr} {X : Cx} {a b : Expr} {da db : Env → Option O} {k1 k2 : Bool} {pos : Pos}
theorem op_inDT (hu : X.A.units + 65 < cLine) : OpR X (compareOp .In) (rInDT X.K) := by
  intro pins s σ H x y v u Q I rx ry h
  obtain ⟨d, ds, hd, he, sd, se, q⟩ := h
  obtain ⟨as, r1⟩ := Dp.reads I d x v hd rx
  obtain ⟨bs, r2⟩ := Dp.reads I (.tuple ds) y u he ry
  exact SeqAt.in_tuple_reads r2 r1 se (SeqAt.canLay_of_shaped sd) (room_in_shaped sd hu) ⟨.bl _, H, I, rfl, q⟩
def oInD (x y : O) : Option O := match y with
  | .tup ys => if (SeqAt.shaped (toPy x) && PyData.canLayAll0 (toPys ys)) = true then some (.bl ((toPys ys).any fun z => PyData.eqv z (toPy x))) else none
  | _ => none
theorem fn2_inD : Fn2 X ct (rInDT X.K) oInD := by
  intro F H x y z u v g h Q le rx ry e q
  unfold oInD at e
  split at e
  · split at e
    · rename_i c
      rw [Bool.and_eq_true] at c
      cases e
      have cy : (toPy (.tup _)).canLay0 = true := c.2
      exact ⟨toPy x, toPys _, rx.dp le (SeqAt.canLay_of_shaped c.1), ry.dp le cy, c.1, c.2, q.scal le fun _ _ => ⟨rfl, rfl⟩⟩
    · cases e
  · cases e
theorem sx_inD (hu : X.A.units + 65 < cLine) (ha : SX ct X k1 a da) (hb : SX ct X k2 b db) (hm : behindInMarks .In b = false := by with_unfolding_all rfl) : SX ct X false (.Compare a [.In] [b] pos) (dBin oInD da db) := sx_cmp (op_inDT hu) fn2_inD ha hb hm
theorem st_inD (hu : X.A.units + 65 < cLine) (ha : SX ct X k1 a da) (hb : SX ct X k2 b db) (hm : behindInMarks .In b = false := by with_unfolding_all rfl) : ST ct X (.Compare a [.In] [b] pos) (dTru oBool (dBin oInD da db)) := st_cmpG (op_inDT hu) fn2_inD ha hb hm
end
end Mini
namespace Mini
open PySem PySem.Spec PyProof.Rows L2
/-! min, max, sum of a list or a tuple of ints -/
def minL : List Int → Int
  | [] => 0
  | [a] => a
  | a :: r => min a (minL r)
def maxL : List Int → Int
  | [] => 0
  | [a] => a
  | a :: r => max a (maxL r)
theorem minL_mem : ∀ {l : List Int}, l ≠ [] → minL l ∈ l ∧ ∀ a ∈ l, minL l ≤ a
  | [], h => absurd rfl h
  | [a], _ => ⟨List.mem_singleton.mpr rfl, fun b hb => by rw [List.mem_singleton] at hb; subst hb; exact Int.le_refl _⟩
  | a :: b :: r, _ => by
    obtain ⟨h1, h2⟩ := minL_mem (l := b :: r) (by simp)
    show min a (minL (b :: r)) ∈ _ ∧ _
    refine ⟨?_, fun c hc => ?_⟩
    · by_cases q : a ≤ minL (b :: r)
      · rw [Int.min_eq_left q]; exact List.mem_cons_self ..
      · rw [Int.min_eq_right (by omega)]; exact List.mem_cons_of_mem _ h1
    · show min a (minL (b :: r)) ≤ c
      rcases List.mem_cons.mp hc with rfl | hc
      · omega
      · have := h2 c hc; omega
theorem maxL_mem : ∀ {l : List Int}, l ≠ [] → maxL l ∈ l ∧ ∀ a ∈ l, a ≤ maxL l
  | [], h => absurd rfl h
  | [a], _ => ⟨List.mem_singleton.mpr rfl, fun b hb => by rw [List.mem_singleton] at hb; subst hb; exact Int.le_refl _⟩
  | a :: b :: r, _ => by
    obtain ⟨h1, h2⟩ := maxL_mem (l := b :: r) (by simp)
    show max a (maxL (b :: r)) ∈ _ ∧ _
    refine ⟨?_, fun c hc => ?_⟩
    · by_cases q : maxL (b :: r) ≤ a
      · rw [Int.max_eq_left q]; exact List.mem_cons_self ..
      · rw [Int.max_eq_right (by omega)]; exact List.mem_cons_of_mem _ h1
    · show c ≤ max a (maxL (b :: r))
      rcases List.mem_cons.mp hc with rfl | hc
      · omega
      · have := h2 c hc; omega
theorem minL_eq {l : List Int} {m : Int} (h1 : m ∈ l) (h2 : ∀ a ∈ l, m ≤ a) : m = minL l := by
  obtain ⟨k1, k2⟩ := minL_mem (l := l) (fun e => by rw [e] at h1; cases h1)
  have := h2 _ k1
  have := k2 _ h1
  omega
theorem maxL_eq {l : List Int} {m : Int} (h1 : m ∈ l) (h2 : ∀ a ∈ l, a ≤ m) : m = maxL l := by
  obtain ⟨k1, k2⟩ := maxL_mem (l := l) (fun e => by rw [e] at h1; cases h1)
  have := h2 _ k1
  have := k2 _ h1
  omega
theorem nums_at {vs : List Value} {ns : List Int} (hi : IntsAre vs ns) {i : Nat} {v : Value} (h : vs.toArray[i]? = some v) : ∃ t, v = .int (ns.getD i 0) t := by
  have hl := IntsAre.length hi
  have h' : vs[i]? = some v := by simpa using h
  have hlt := (List.getElem?_eq_some_iff.mp h').1
  obtain ⟨t, e⟩ := hi.get i (ns.getD i 0) (by rw [List.getD_eq_getElem?_getD, List.getElem?_eq_getElem (by omega)]; rfl)
  rw [e] at h'
  exact ⟨t, (Option.some.inj h').symm⟩
theorem getD_mem' {ns : List Int} {i : Nat} (h : i < ns.length) : ns.getD i 0 ∈ ns := by
  rw [List.getD_eq_getElem?_getD, List.getElem?_eq_getElem h]
  exact List.getElem_mem h
theorem mem_getD' {ns : List Int} {a : Int} (h : a ∈ ns) : ∃ i, i < ns.length ∧ a = ns.getD i 0 := by
  obtain ⟨i, hi, e⟩ := List.mem_iff_getElem.mp h
  exact ⟨i, hi, by rw [List.getD_eq_getElem?_getD, List.getElem?_eq_getElem hi, e]; rfl⟩
section
variable {prog : Program} {w : World} {A : Around} {E : Value → Shared → Prop} {s : Shared} {l : Addr} {vs : List Value} {ns : List Int}
/-- the walk over a tuple or a list -/
theorem walk_min {op : CmpOp} (hop : op = .Lt ∨ op = .Gt) (hi : IntsAre vs ns) (hne : 0 < ns.length) {v : Value} (h : vs.toArray[argBest (if op = .Lt then fun i j => decide (ns.getD i 0 < ns.getD j 0) else fun i j => decide (ns.getD i 0 > ns.getD j 0)) (vs.toArray.size - 1)]? = some v) : ∃ t, v = .int (if op = .Lt then minL ns else maxL ns) t := by
  have hl := IntsAre.length hi
  obtain ⟨t, e⟩ := nums_at hi h
  refine ⟨t, ?_⟩
  rw [e]
  rw [List.size_toArray, hl] at *
  rcases hop with rfl | rfl
  · simp only [if_true] at *
    obtain ⟨h1, h2⟩ := argBest_lt (fun i => ns.getD i 0) (ns.length - 1)
    congr 1
    refine minL_eq (getD_mem' (by omega)) fun a ha => ?_
    obtain ⟨i, hi, rfl⟩ := mem_getD' ha
    exact h2 i (by omega)
  · have : ¬ (CmpOp.Gt = CmpOp.Lt) := by decide
    simp only [if_neg this] at *
    obtain ⟨h1, h2⟩ := argBest_gt (fun i => ns.getD i 0) (ns.length - 1)
    congr 1
    refine maxL_eq (getD_mem' (by omega)) fun a ha => ?_
    obtain ⟨i, hi, rfl⟩ := mem_getD' ha
    exact h2 i (by omega)
theorem two_lt {l : Addr} {o : Obj} (hlt : l < s.heap.objs.size) : ∀ b ∈ [s.heap.objs.size, l], b < (s.heap.push o).objs.size := fun b hb => by
  rw [Heap.size_push]
  rcases List.mem_cons.mp hb with rfl | hb
  · exact Nat.lt_succ_self _
  · rcases List.mem_cons.mp hb with rfl | hb
    · exact Nat.lt_succ_of_lt hlt
    · cases hb
theorem old_kept' {ob : Obj} {h' : Heap} (hk : ∀ b o, b ∉ [s.heap.objs.size] → (s.heap.push ob).get? b = some o → h'.get? b = some o) : ∀ b o, s.heap.get? b = some o → h'.get? b = some o := fun b o e => by
  refine hk b o (fun hm => ?_) (Heap.get?_push_of_some _ e)
  rcases List.mem_cons.mp hm with e1 | hm
  · exact absurd (e1 ▸ Heap.lt_size e) (Nat.lt_irrefl _)
  · cases hm
theorem min_tup {Q : Value → Shared → Prop} (hh : A.handled = none) (hl : s.heap.IsTuple l vs.toArray) (hi : IntsAre vs ns) (hne : 0 < ns.length)
    (h : ∀ h' t tk, (∀ b o, s.heap.get? b = some o → h'.get? b = some o) → Q (.int (minL ns) t) { s with heap := h', toks := tk }) : wpAny (model prog w) A (call (.builtin "min") [.ref l]) Q E s := by
  have hlt : l < s.heap.objs.size := by obtain ⟨_, e, _⟩ := hl; exact Heap.lt_size e
  have hz : 0 < vs.toArray.size := by rw [List.size_toArray, IntsAre.length hi]; exact hne
  refine call_min_walk (iter_tuple hl ?_)
  refine ⟨s.heap.objs.size, [s.heap.objs.size, l], [s.heap.objs.size], vs.toArray.size, _, _, fun i j => decide (ns.getD i 0 < ns.getD j 0), rfl, Walks.tuple (A := A.in1) hh _ l (Nat.ne_of_lt hlt) vs.toArray, ⟨⟨_, Heap.get?_push_size _ rfl, rfl, rfl⟩, hl.push _⟩, two_lt hlt, hz, CmpOf.ints_lt (fun i => ns.getD i 0) (fun i v => nums_at hi), fun v h' tk hP hk => ?_⟩
  obtain ⟨t, rfl⟩ := walk_min (op := .Lt) (.inl rfl) hi hne (v := v) hP
  exact h h' t tk (old_kept' hk)
theorem max_tup {Q : Value → Shared → Prop} (hh : A.handled = none) (hl : s.heap.IsTuple l vs.toArray) (hi : IntsAre vs ns) (hne : 0 < ns.length)
    (h : ∀ h' t tk, (∀ b o, s.heap.get? b = some o → h'.get? b = some o) → Q (.int (maxL ns) t) { s with heap := h', toks := tk }) : wpAny (model prog w) A (call (.builtin "max") [.ref l]) Q E s := by
  have hlt : l < s.heap.objs.size := by obtain ⟨_, e, _⟩ := hl; exact Heap.lt_size e
  have hz : 0 < vs.toArray.size := by rw [List.size_toArray, IntsAre.length hi]; exact hne
  refine call_max_walk (iter_tuple hl ?_)
  refine ⟨s.heap.objs.size, [s.heap.objs.size, l], [s.heap.objs.size], vs.toArray.size, _, _, fun i j => decide (ns.getD i 0 > ns.getD j 0), rfl, Walks.tuple (A := A.in1) hh _ l (Nat.ne_of_lt hlt) vs.toArray, ⟨⟨_, Heap.get?_push_size _ rfl, rfl, rfl⟩, hl.push _⟩, two_lt hlt, hz, CmpOf.ints_gt (fun i => ns.getD i 0) (fun i v => nums_at hi), fun v h' tk hP hk => ?_⟩
  obtain ⟨t, rfl⟩ := walk_min (op := .Gt) (.inr rfl) hi hne (v := v) hP
  exact h h' t tk (old_kept' hk)
theorem min_lst {Q : Value → Shared → Prop} (hh : A.handled = none) (hl : s.heap.IsList l vs.toArray) (hi : IntsAre vs ns) (hne : 0 < ns.length)
    (h : ∀ h' t tk, (∀ b o, s.heap.get? b = some o → h'.get? b = some o) → Q (.int (minL ns) t) { s with heap := h', toks := tk }) : wpAny (model prog w) A (call (.builtin "min") [.ref l]) Q E s := by
  have hlt : l < s.heap.objs.size := by obtain ⟨_, e, _⟩ := hl; exact Heap.lt_size e
  have hz : 0 < vs.toArray.size := by rw [List.size_toArray, IntsAre.length hi]; exact hne
  refine call_min_walk (wpAny_pyIter_list hl ?_)
  refine ⟨s.heap.objs.size, [s.heap.objs.size, l], [s.heap.objs.size], vs.toArray.size, _, _, fun i j => decide (ns.getD i 0 < ns.getD j 0), rfl, Walks.list (A := A.in1) hh _ l (Nat.ne_of_lt hlt) vs.toArray, ⟨⟨_, Heap.get?_push_size _ rfl, rfl, rfl⟩, hl.push _⟩, two_lt hlt, hz, CmpOf.ints_lt (fun i => ns.getD i 0) (fun i v => nums_at hi), fun v h' tk hP hk => ?_⟩
  obtain ⟨t, rfl⟩ := walk_min (op := .Lt) (.inl rfl) hi hne (v := v) hP
  exact h h' t tk (old_kept' hk)
theorem max_lst {Q : Value → Shared → Prop} (hh : A.handled = none) (hl : s.heap.IsList l vs.toArray) (hi : IntsAre vs ns) (hne : 0 < ns.length)
    (h : ∀ h' t tk, (∀ b o, s.heap.get? b = some o → h'.get? b = some o) → Q (.int (maxL ns) t) { s with heap := h', toks := tk }) : wpAny (model prog w) A (call (.builtin "max") [.ref l]) Q E s := by
  have hlt : l < s.heap.objs.size := by obtain ⟨_, e, _⟩ := hl; exact Heap.lt_size e
  have hz : 0 < vs.toArray.size := by rw [List.size_toArray, IntsAre.length hi]; exact hne
  refine call_max_walk (wpAny_pyIter_list hl ?_)
  refine ⟨s.heap.objs.size, [s.heap.objs.size, l], [s.heap.objs.size], vs.toArray.size, _, _, fun i j => decide (ns.getD i 0 > ns.getD j 0), rfl, Walks.list (A := A.in1) hh _ l (Nat.ne_of_lt hlt) vs.toArray, ⟨⟨_, Heap.get?_push_size _ rfl, rfl, rfl⟩, hl.push _⟩, two_lt hlt, hz, CmpOf.ints_gt (fun i => ns.getD i 0) (fun i v => nums_at hi), fun v h' tk hP hk => ?_⟩
  obtain ⟨t, rfl⟩ := walk_min (op := .Gt) (.inr rfl) hi hne (v := v) hP
  exact h h' t tk (old_kept' hk)
theorem preSum_list : ∀ (ns : List Int) (k : Nat), k ≤ ns.length → preSum (fun i => ns.getD i 0) k = (ns.take k).sum
  | ns, 0, _ => by simp [preSum]
  | ns, k + 1, h => by
    show preSum (fun i => ns.getD i 0) k + ns.getD k 0 = _
    rw [preSum_list ns k (by omega), List.take_add_one, List.sum_append]
    congr 1
    rw [List.getD_eq_getElem?_getD, List.getElem?_eq_getElem (by omega)]
    simp
theorem sum_lst {Q : Value → Shared → Prop} (hh : A.handled = none) (hl : s.heap.IsList l vs.toArray) (hi : IntsAre vs ns)
    (h : ∀ h' t tk, (∀ b o, s.heap.get? b = some o → h'.get? b = some o) → Q (.int ns.sum t) { s with heap := h', toks := tk }) : wpAny (model prog w) A (call (.builtin "sum") [.ref l]) Q E s := by
  have hlt : l < s.heap.objs.size := by obtain ⟨_, e, _⟩ := hl; exact Heap.lt_size e
  refine call_sum_walkG (wpAny_pyIter_list hl ?_)
  refine ⟨s.heap.objs.size, [s.heap.objs.size, l], [s.heap.objs.size], vs.toArray.size, _, _, fun i => ns.getD i 0, rfl, Walks.list (A := A.in1) hh _ l (Nat.ne_of_lt hlt) vs.toArray, ⟨⟨_, Heap.get?_push_size _ rfl, rfl, rfl⟩, hl.push _⟩, two_lt hlt, (fun i v => nums_at hi), fun h' tk t hk => ?_⟩
  rw [List.size_toArray, IntsAre.length hi, preSum_list ns _ (Nat.le_refl _), List.take_length]
  exact h h' t tk (old_kept' hk)
end
section
variable {X : Cx}
def rSeqI (K : PySem.W.Frag) (g : List Int → Int) : List V → Hp → VK → Prop := fun xs H Q => ∃ (p : Addr) (ns : List Int), xs = [.ref p] ∧ (SqL K H p (ns.map V.int) ∨ SqT K H p (ns.map V.int)) ∧ ns ≠ [] ∧ Q (.int (g ns)) H
theorem call_minS (hc : X.calm = true) : CallR X (.builtin "min") (rSeqI X.K minL) := by
  intro pins s σ H xs us Q I r h
  obtain ⟨p, ns, rfl, hs, hne, q⟩ := h
  rw [Vals.ref1 r]
  have hn : 0 < ns.length := List.length_pos_iff.mpr hne
  rcases hs with hs | hs
  · obtain ⟨its, rv, hl, _⟩ := I.list hs
    exact min_lst (I.ok.hd hc) hl.isList (ints_of_vals rv) hn fun h' t tk k => ⟨.int (minL ns), H, I.kept k, ⟨t, rfl⟩, q⟩
  · obtain ⟨its, rv, hl, _⟩ := I.tuple hs
    exact min_tup (I.ok.hd hc) hl (ints_of_vals rv) hn fun h' t tk k => ⟨.int (minL ns), H, I.kept k, ⟨t, rfl⟩, q⟩
theorem call_maxS (hc : X.calm = true) : CallR X (.builtin "max") (rSeqI X.K maxL) := by
  intro pins s σ H xs us Q I r h
  obtain ⟨p, ns, rfl, hs, hne, q⟩ := h
  rw [Vals.ref1 r]
  have hn : 0 < ns.length := List.length_pos_iff.mpr hne
  rcases hs with hs | hs
  · obtain ⟨its, rv, hl, _⟩ := I.list hs
    exact max_lst (I.ok.hd hc) hl.isList (ints_of_vals rv) hn fun h' t tk k => ⟨.int (maxL ns), H, I.kept k, ⟨t, rfl⟩, q⟩
  · obtain ⟨its, rv, hl, _⟩ := I.tuple hs
    exact max_tup (I.ok.hd hc) hl (ints_of_vals rv) hn fun h' t tk k => ⟨.int (maxL ns), H, I.kept k, ⟨t, rfl⟩, q⟩
def rSumI (K : PySem.W.Frag) : List V → Hp → VK → Prop := fun xs H Q => ∃ (p : Addr) (ns : List Int), xs = [.ref p] ∧ SqL K H p (ns.map V.int) ∧ Q (.int ns.sum) H
theorem call_sumS (hc : X.calm = true) : CallR X (.builtin "sum") (rSumI X.K) := by
  intro pins s σ H xs us Q I r h
  obtain ⟨p, ns, rfl, hs, q⟩ := h
  rw [Vals.ref1 r]
  obtain ⟨its, rv, hl, _⟩ := I.list hs
  exact sum_lst (I.ok.hd hc) hl.isList (ints_of_vals rv) fun h' t tk k => ⟨.int ns.sum, H, I.kept k, ⟨t, rfl⟩, q⟩
end
def oSeqI (g : List Int → Int) : O → Option O
  | .tup os => match intsL os with
    | some (a :: r) => some (.int (g (a :: r)))
    | _ => none
  | .lst _ os => match intsL os with
    | some (a :: r) => some (.int (g (a :: r)))
    | _ => none
  | _ => none
def oSum : O → Option O
  | .lst _ os => match intsL os with
    | some r => some (.int r.sum)
    | _ => none
  | _ => none
section
variable {ct : Nat → Addr} {X : Cx} {a b c : Expr} {da db dc : Env → Option O} {k k1 k2 k3 : Bool} {p p2 q pos : Pos}
theorem fn_seqI (g : List Int → Int) : Fn1 X ct (rSeqI X.K g) (oSeqI g) := by
  intro F H x z u f Q le r e q
  unfold oSeqI at e
  split at e
  · split at e
    · rename_i ei
      cases e
      obtain ⟨p, xs, rfl, s, rs⟩ := r
      have e3 := intsL_reps ei rs
      subst e3
      exact ⟨p, _, rfl, .inr (Same.seqT le s), by simp, q.scal le fun _ _ => ⟨rfl, rfl⟩⟩
    · cases e
  · split at e
    · rename_i ei
      cases e
      obtain ⟨p, xs, g', rfl, s, rs, _⟩ := Rep.list le r
      have e3 := intsL_reps ei rs
      subst e3
      exact ⟨p, _, rfl, .inl s, by simp, q.scal le fun _ _ => ⟨rfl, rfl⟩⟩
    · cases e
  · cases e
theorem fn_sum : Fn1 X ct (rSumI X.K) oSum := by
  intro F H x z u f Q le r e q
  unfold oSum at e
  split at e
  · split at e
    · rename_i ei
      cases e
      obtain ⟨p, xs, g', rfl, s, rs, _⟩ := Rep.list le r
      have e3 := intsL_reps ei rs
      subst e3
      exact ⟨p, _, rfl, s, q.scal le fun _ _ => ⟨rfl, rfl⟩⟩
    · cases e
  · cases e
theorem sx_min1 (hc : X.calm = true) (hm : X.mg "min" = none) (ha : SX ct X k1 a da) (hg : Gl X "min" := by rfl) (he : starEach [a] X.env = [(false, eval a X.env)] := by rfl) : SX ct X false (.Call (.Name "min" p) [a] [] pos) (dBind da (oSeqI minL)) :=
  sx_b1 (call_minS hc) (fn_seqI minL) hm (by decide +kernel) ha hg (by decide) (by decide) he
theorem sx_max1 (hc : X.calm = true) (hm : X.mg "max" = none) (ha : SX ct X k1 a da) (hg : Gl X "max" := by rfl) (he : starEach [a] X.env = [(false, eval a X.env)] := by rfl) : SX ct X false (.Call (.Name "max" p) [a] [] pos) (dBind da (oSeqI maxL)) :=
  sx_b1 (call_maxS hc) (fn_seqI maxL) hm (by decide +kernel) ha hg (by decide) (by decide) he
theorem sx_sum1 (hc : X.calm = true) (hm : X.mg "sum" = none) (ha : SX ct X k1 a da) (hg : Gl X "sum" := by rfl) (he : starEach [a] X.env = [(false, eval a X.env)] := by rfl) : SX ct X false (.Call (.Name "sum" p) [a] [] pos) (dBind da oSum) :=
  sx_b1 (call_sumS hc) fn_sum hm (by decide +kernel) ha hg (by decide) (by decide) he
end
end Mini
namespace Mini
open PySem PySem.Spec PyProof.Rows L2
open Sem (wp)
/-! max(xs, default=z) -/
theorem ok_df (a z : Value) : argsOk "max" ⟨[a], [(PySem.Str.ofString "default", z)]⟩ := by unfold argsOk; kernel_rfl
section
variable {prog : Program} {w : World} {A : Around} {E : Value → Shared → Prop} {s : Shared}
theorem call_kw {id : String} {b : Builtin} {us : List Value} {kw : List (Str × Value)} {Q : Value → Shared → Prop} (nk : builtinKind id = none) (pl : plainId id = true) (en : entryFor table id = some b) (ok : argsOk id ⟨us, kw⟩)
    (hb : wpAny (model prog w) A.in1 (b ⟨us, kw⟩) (fun out t => match out with
      | .done f => (match (Except.ok f : Result) with | .ok (.ret v) => Q v t | .ok _ => False | .error e => E e t)
      | .again c => c.quiet = true ∧ codeAny (model prog w) A c (fun r t => match r with | .ok (.ret v) => Q v t | .ok _ => False | .error e => E e t) t) E s) :
    wpAny (model prog w) A (call (.builtin id) us kw) Q E s := by
  refine wpAny_call (codeAny_call_builtin pl en ?_)
  simp only [checkBuiltinCall, nk]
  cases sg : Manifest.signature? id with
  | none => exact wpAny_pure hb
  | some g =>
    simp only [argsOk, sg] at ok
    have ok' : Bind.checkArgs id g ⟨us, kw⟩ = pure () := ok
    show wpAny _ A.in1 (Bind.checkArgs id g ⟨us, kw⟩) _ _ s
    rw [ok']
    exact wpAny_pure hb
end
section
variable {prog : Program} {w : World} {A : Around} {R : Result → Shared → Prop} {I : Addr} {fp wr : List Addr} {m : Nat} {P : Nat → Value → Prop} {St : Nat → Heap → Prop}
theorem lp_nm : (toString "max" ++ toString ".loop" : String) = "max.loop" := by decide
theorem df_loop (wk : PySem.Walks prog w A.in1 I fp wr m P St) (gt : Nat → Nat → Bool) (cp : CmpOf prog w A.in1 .Gt P gt) (L : Addr) (nL : L ∉ fp) (kw : List (Str × Value)) :
    ∀ (r j : Nat) (t : Shared) (b : Value) (n0 : Nat), m - (j + 1) = r → j + 1 ≤ m → St (j + 1) t.heap → P (argBest gt j) b →
    t.heap.get? L = some { cls := .type "list", dict := none, data := .seq #[b, b] n0, slots := #[] } →
    (∀ v h2 k2, P (argBest gt (m - 1)) v → (∀ a o, a ∉ wr → a ≠ L → t.heap.get? a = some o → h2.get? a = some o) → R (.ok (.ret v)) { t with heap := h2, toks := k2 }) →
    codeAny (model prog w) A (.builtin "max.loop" ⟨[.ref I, .none, .ref L], kw⟩) R t := by
  have nw : L ∉ wr := fun q => nL (wk.sub _ q)
  intro r
  induction r with
  | zero =>
    intro j t b n0 e1 e2 st pb gl fin
    have ej : j + 1 = m := by omega
    refine codeAny_builtin F.entry_max_loop ?_
    rw [Around.under_plainId F.plain_max_loop _]
    show wpAny _ A.in1 (seqItems? (.ref L) >>= _) _ _ t
    refine wpAny_bind (wpAny_seqItems gl rfl ?_)
    show wpAny _ A.in1 (tryCatch (pyNext (.ref I)) _ >>= _) _ _ t
    refine wpAny_bind (wpAny_tryCatch (wk.done t _ _ (ej ▸ st) fun h2 k2 kp => ?_))
    have gl2 := kp L _ nw gl
    show wpAny _ A.in1 (updateSeq L (fun _ => #[]) >>= _) _ _ _
    refine wpAny_bind ?_
    refine wpAny_updateSeq gl2 rfl (wpAny_bind (wpAny_letGo (wpAny_pure ?_)))
    exact fin b _ k2 (by rw [← ej]; exact pb) fun a o n1 n2 q => (Heap.get?_update_other _ _ (Ne.symm n2)).trans (kp a o n1 q)
  | succ r ih =>
    intro j t b n0 e1 e2 st pb gl fin
    have jl : j + 1 < m := by omega
    refine codeAny_builtin F.entry_max_loop ?_
    rw [Around.under_plainId F.plain_max_loop _]
    show wpAny _ A.in1 (seqItems? (.ref L) >>= _) _ _ t
    refine wpAny_bind (wpAny_seqItems gl rfl ?_)
    show wpAny _ A.in1 (tryCatch (pyNext (.ref I)) _ >>= _) _ _ t
    refine wpAny_bind (wpAny_tryCatch (wk.item (j + 1) t _ _ jl st fun v h2 k2 pv st2 kp => ?_))
    have gl2 := kp L _ nw gl
    show wpAny _ A.in1 (tryCatch (holding [v, v] (richCompare .Gt v b >>= _)) _ >>= _) _ _ _
    refine wpAny_bind (wpAny_tryCatch (wpAny_holding (wpAny_bind (cp (j + 1) (argBest gt j) v b _ _ _ pv pb ?_))))
    refine wpAny_bind (wpAny_holding (wpAny_truthy_bool ?_))
    refine wpAny_bind (wpAny_letGo (wpAny_pure ?_))
    cases hg : gt (j + 1) (argBest gt j) with
    | true =>
      simp only [if_true]
      refine wpAny_bind ?_
      refine wpAny_updateSeq gl2 rfl (wpAny_bind (wpAny_letGo ?_))
      rw [lp_nm]
      refine wpAny_pure ⟨plainId_quiet F.plain_max_loop _, ih (j + 1) _ v _ (by omega) jl (wk.frame _ _ _ st2 fun a ma o q => ?_) (by simp only [argBest, hg, if_true]; exact pv) (Heap.get?_update_self _ gl2 rfl) fun v2 h3 k3 p3 kp3 => ?_⟩
      · exact (Heap.get?_update_other _ _ (fun q2 : L = a => nL (by rw [q2]; exact ma))).trans q
      · exact fin v2 h3 k3 p3 fun a o n1 n2 q => kp3 a o n1 n2 ((Heap.get?_update_other _ _ (Ne.symm n2)).trans (kp a o n1 q))
    | false =>
      simp only [Bool.false_eq_true, if_false]
      refine wpAny_bind (wpAny_letGo ?_)
      rw [lp_nm]
      refine wpAny_pure ⟨plainId_quiet F.plain_max_loop _, ih (j + 1) _ b n0 (by omega) jl st2 (by simp only [argBest, hg, Bool.false_eq_true, if_false]; exact pb) gl2 fun v2 h3 k3 p3 kp3 => ?_⟩
      exact fin v2 h3 k3 p3 fun a o n1 n2 q => kp3 a o n1 n2 (kp a o n1 q)
theorem df_first (wk : PySem.Walks prog w A.in1 I fp wr m P St) (gt : Nat → Nat → Bool) (cp : CmpOf prog w A.in1 .Gt P gt) (L : Addr) (nL : L ∉ fp) (hm : 0 < m) {kw : List (Str × Value)} {t : Shared} {n0 : Nat} (st : St 0 t.heap)
    (gl : t.heap.get? L = some { cls := .type "list", dict := none, data := .seq #[] n0, slots := #[] })
    (fin : ∀ v h2 k2, P (argBest gt (m - 1)) v → (∀ a o, a ∉ wr → a ≠ L → t.heap.get? a = some o → h2.get? a = some o) → R (.ok (.ret v)) { t with heap := h2, toks := k2 }) :
    codeAny (model prog w) A (.builtin "max.loop" ⟨[.ref I, .none, .ref L], kw⟩) R t := by
  have nw : L ∉ wr := fun q => nL (wk.sub _ q)
  refine codeAny_builtin F.entry_max_loop ?_
  rw [Around.under_plainId F.plain_max_loop _]
  show wpAny _ A.in1 (seqItems? (.ref L) >>= _) _ _ t
  refine wpAny_bind (wpAny_seqItems gl rfl ?_)
  show wpAny _ A.in1 (tryCatch (pyNext (.ref I)) _ >>= _) _ _ t
  refine wpAny_bind (wpAny_tryCatch (wk.item 0 t _ _ hm st fun v h2 k2 pv st2 kp => ?_))
  have gl2 := kp L _ nw gl
  show wpAny _ A.in1 (updateSeq L (fun _ => #[v, v]) >>= _) _ _ _
  refine wpAny_bind ?_
  refine wpAny_updateSeq gl2 rfl ?_
  rw [lp_nm]
  refine wpAny_pure ⟨plainId_quiet F.plain_max_loop _, df_loop wk gt cp L nL kw _ 0 _ v _ rfl hm (wk.frame _ _ _ st2 fun a ma o q => ?_) pv (Heap.get?_update_self _ gl2 rfl) fun v2 h3 k3 p3 kp3 => ?_⟩
  · exact (Heap.get?_update_other _ _ (fun q2 : L = a => nL (by rw [q2]; exact ma))).trans q
  · exact fin v2 h3 k3 p3 fun a o n1 n2 q => kp3 a o n1 n2 ((Heap.get?_update_other _ _ (Ne.symm n2)).trans (kp a o n1 q))
theorem df_none (wk : PySem.Walks prog w A.in1 I fp wr 0 P St) (L : Addr) (nL : L ∉ fp) {x : Str} {z : Value} {t : Shared} {n0 : Nat} (st : St 0 t.heap)
    (gl : t.heap.get? L = some { cls := .type "list", dict := none, data := .seq #[] n0, slots := #[] })
    (fin : ∀ h2 k2, (∀ a o, a ∉ wr → t.heap.get? a = some o → h2.get? a = some o) → R (.ok (.ret z)) { t with heap := h2, toks := k2 }) :
    codeAny (model prog w) A (.builtin "max.loop" ⟨[.ref I, .none, .ref L], [(x, z)]⟩) R t := by
  refine codeAny_builtin F.entry_max_loop ?_
  rw [Around.under_plainId F.plain_max_loop _]
  show wpAny _ A.in1 (seqItems? (.ref L) >>= _) _ _ t
  refine wpAny_bind (wpAny_seqItems gl rfl ?_)
  show wpAny _ A.in1 (tryCatch (pyNext (.ref I)) _ >>= _) _ _ t
  refine wpAny_bind (wpAny_tryCatch (wk.done t _ _ st fun h2 k2 kp => ?_))
  show wpAny _ A.in1 (rule _ >>= _) _ _ _
  exact wpAny_bind (wpAny_rule (wpAny_pure (fin h2 k2 kp)))
end
section
variable {prog : Program} {w : World} {A : Around} {E : Value → Shared → Prop} {s : Shared} {l : Addr} {vs : List Value} {ns : List Int}
theorem max_df {z : Value} {Q : Value → Shared → Prop} (hh : A.handled = none) (hl : s.heap.IsList l vs.toArray) (hi : IntsAre vs ns)
    (h0 : ns = [] → ∀ h' tk, (∀ b o, s.heap.get? b = some o → h'.get? b = some o) → Q z { s with heap := h', toks := tk })
    (h1 : ns ≠ [] → ∀ h' t tk, (∀ b o, s.heap.get? b = some o → h'.get? b = some o) → Q (.int (maxL ns) t) { s with heap := h', toks := tk }) :
    wpAny (model prog w) A (call (.builtin "max") [.ref l] [(PySem.Str.ofString "default", z)]) Q E s := by
  have hlt : l < s.heap.objs.size := by obtain ⟨_, e, _⟩ := hl; exact Heap.lt_size e
  have hvn := IntsAre.length hi
  refine call_kw F.kind_max F.plain_max F.entry_max (ok_df _ _) ?_
  show wpAny _ A.in1 (Builtin.Builtins.bindParams "max" ["key", "default"] 0 ⟨[], [(PySem.Str.ofString "default", z)]⟩ >>= _) _ _ s
  refine wpAny_bind (wpAny_of_eq (show Builtin.Builtins.bindParams "max" ["key", "default"] 0 ⟨[], [(PySem.Str.ofString "default", z)]⟩ = pure [none, some z] from rfl) ?_)
  refine wpAny_bind (wpAny_pure ?_)
  refine wpAny_bind (wpAny_pyIter_list hl ?_)
  have st0 : (s.heap.push { cls := .type "list_iterator", data := .fields #[.ref l, .int 0 0] }).IsListIter s.heap.objs.size l 0 ∧ (s.heap.push { cls := .type "list_iterator", data := .fields #[.ref l, .int 0 0] }).IsList l vs.toArray := ⟨⟨_, Heap.get?_push_size _ rfl, rfl, rfl⟩, hl.push _⟩
  have wk := PySem.Walks.list (prog := prog) (w := w) (A := A.in1) hh s.heap.objs.size l (Nat.ne_of_lt hlt) vs.toArray
  refine wpAny_bind (wpAny_newObj_type ?_)
  rw [lp_nm]
  have nS : (s.heap.push { cls := .type "list_iterator", data := .fields #[.ref l, .int 0 0] }).objs.size ∉ [s.heap.objs.size, l] := fun q => by
    rw [Heap.size_push] at q
    rcases List.mem_cons.mp q with e | q
    · exact absurd e (Nat.succ_ne_self _)
    · rcases List.mem_cons.mp q with e | q
      · exact absurd e.symm (Nat.ne_of_lt (Nat.lt_succ_of_lt hlt))
      · cases q
  have kept : ∀ {h' : Heap}, (∀ a o, a ∉ [s.heap.objs.size] → a ≠ (s.heap.push { cls := .type "list_iterator", data := .fields #[.ref l, .int 0 0] }).objs.size → ((s.heap.push { cls := .type "list_iterator", data := .fields #[.ref l, .int 0 0] }).push { cls := .type "list", data := .seq #[] }).get? a = some o → h'.get? a = some o) → ∀ b o, s.heap.get? b = some o → h'.get? b = some o := fun {h'} q b o e => by
    have lb := Heap.lt_size e
    refine q b o (fun m => ?_) ?_ (Heap.get?_push_of_some _ (Heap.get?_push_of_some _ e))
    · rcases List.mem_cons.mp m with e1 | m
      · exact absurd e1 (Nat.ne_of_lt lb)
      · cases m
    · rw [Heap.size_push]; exact Nat.ne_of_lt (Nat.lt_succ_of_lt lb)
  have st1 := wk.frame 0 _ ((s.heap.push { cls := .type "list_iterator", data := .fields #[.ref l, .int 0 0] }).push { cls := .type "list", data := .seq #[] }) st0 fun b _ o e => Heap.get?_push_of_some _ e
  by_cases hne : ns = []
  · have h0 := h0 hne
    have hz : vs.toArray.size = 0 := by rw [List.size_toArray, hvn, hne]; rfl
    rw [hz] at wk
    refine wpAny_pure ⟨plainId_quiet F.plain_max_loop _, df_none wk _ nS st1 (Heap.get?_push_size _ rfl) fun h2 k2 kp => ?_⟩
    exact h0 h2 k2 (kept fun a o n1 _ e => kp a o n1 e)
  · have h1 := h1 hne
    have hn : 0 < ns.length := List.length_pos_iff.mpr hne
    have hz : 0 < vs.toArray.size := by rw [List.size_toArray, hvn]; exact hn
    refine wpAny_pure ⟨plainId_quiet F.plain_max_loop _, df_first wk (fun i j => decide (ns.getD i 0 > ns.getD j 0)) (CmpOf.ints_gt (fun i => ns.getD i 0) (fun i v => nums_at hi)) _ nS hz st1 (Heap.get?_push_size _ rfl) fun v h2 k2 pv kp => ?_⟩
    obtain ⟨t, rfl⟩ := walk_min (op := .Gt) (.inr rfl) hi hn (v := v) pv
    exact h1 h2 t k2 (kept kp)
end
section
variable {X : Cx}
def rMaxD (K : PySem.W.Frag) : List V → List V → Hp → VK → Prop := fun xs zs H Q => ∃ (p : Addr) (ns : List Int) (z : Int), xs = [.ref p] ∧ zs = [.int z] ∧ SqL K H p (ns.map V.int) ∧ Q (.int (if ns = [] then z else maxL ns)) H
theorem call_maxD (hc : X.calm = true) : CallRK X (.builtin "max") [PySem.Str.ofString "default"] (rMaxD X.K) := by
  intro pins s σ H xs zs us ws Q I r rz h
  obtain ⟨p, ns, z, rfl, rfl, hs, q⟩ := h
  rw [Vals.ref1 r]
  obtain ⟨w1, rfl, t1, rfl⟩ := vals1 rz
  obtain ⟨its, rv, hl, _⟩ := I.list hs
  refine max_df (I.ok.hd hc) hl.isList (ints_of_vals rv) (fun e h' tk k => ?_) fun e h' t tk k => ?_
  · rw [if_pos e] at q
    exact ⟨.int z, H, I.kept k, ⟨t1, rfl⟩, q⟩
  · rw [if_neg e] at q
    exact ⟨.int (maxL ns), H, I.kept k, ⟨t, rfl⟩, q⟩
end
def oMaxD (x y : O) : Option O := match x, y with
  | .lst _ os, .int z => match intsL os with
    | some r => some (.int (if r = [] then z else maxL r))
    | none => none
  | _, _ => none
section
variable {ct : Nat → Addr} {X : Cx} {a b : Expr} {da db : Env → Option O} {k1 k2 : Bool} {p kpos pos : Pos}
theorem sx_maxD (hc : X.calm = true) (hm : X.mg "max" = none) (ha : SX ct X k1 a da) (hb : SX ct X k2 b db) (hg : Gl X "max" := by rfl) (he : backTo pos (starEach [a] X.env) = (false, eval a X.env) :: backTo pos (starEach [] X.env) := by rfl)
    (na : starEach [a] X.env = [(false, eval a X.env)] := by rfl)
    (hall : (backToKw pos (keywordEach [⟨some "default", b, kpos⟩] X.env)).all (·.1.isSome) = true := by rfl) (hnone : (backToKw pos (keywordEach [⟨some "default", b, kpos⟩] X.env)).any (·.1.isNone) = false := by rfl) (hks : (backToKw pos (keywordEach [⟨some "default", b, kpos⟩] X.env)).filterMap (·.1) = [PySem.Str.ofString "default"] := by rfl) (hpl : (backTo pos (starEach [a] X.env)).any (·.1) = false := by rfl) :
    SX ct X false (.Call (.Name "max" p) [a] [⟨some "default", b, kpos⟩] pos) (dBin oMaxD da db) := by
  refine PE.imp (pe_callBK (call_maxD hc) hg hm (by decide +kernel) (pa_cons ha pa_nil na) (pk_cons hb pk_nil) (by decide) (by decide) he hpl hall hnone hks) fun σ H Q h => ?_
  obtain ⟨F, ρ, f, o, s, e, q⟩ := h
  obtain ⟨x, y, e1, e2, e3⟩ := dBin_some e
  show tX ct X.K k1 da σ H fun v H1 => tX ct X.K k2 db σ H1 fun z H2 => rMaxD X.K [v] [z] H2 Q
  refine ⟨F, ρ, f, x, s, e1, fun u F1 H1 g ex1 r1 gd1 => ?_⟩
  refine ⟨F1, ρ, f, y, s.ext ex1, e2, fun v F2 H2 g2 ex2 r2 gd2 => ?_⟩
  unfold oMaxD at e3
  split at e3
  · split at e3
    · rename_i ei
      cases e3
      obtain ⟨p, xs, g', rfl, sq, rs, _⟩ := Rep.list ex2.le (r1.ext ex2)
      have e4 := intsL_reps ei rs
      subst e4
      exact ⟨p, _, _, rfl, by rw [r2.1], sq, q _ F2 H2 zf (ex1.trans ex2) ⟨rfl, rfl⟩ Gd.zero⟩
    · cases e3
  · cases e3
end
end Mini
namespace Mini
open PySem PySem.Spec PyProof.Rows L2
/-! x[i] op= e on an owned list, x.insert(i, e) -/
def rGetN (K : PySem.W.Frag) : V → V → Hp → VK → Prop := fun x y H Q => ∃ (p : Addr) (xs : List V) (k : Nat) (v : V), x = .ref p ∧ y = .int (k : Int) ∧ SqL K H p xs ∧ xs[k]? = some v ∧ Q v H
theorem get_lst {X : Cx} : PGet X (rGetN X.K) := by
  intro pins s σ H o i ov iv Q I ro ri h
  obtain ⟨p, xs, k, v, rfl, rfl, hq, he, q⟩ := h
  cases ro
  obtain ⟨t, rfl⟩ := ri
  obtain ⟨its, r, pl, hz⟩ := I.list hq
  obtain ⟨w, ew, rw'⟩ := r.get he
  have hl := r.length
  have hn := line63
  have hk := (List.getElem?_eq_some_iff.mp he).1
  exact wpAny_getItem_list pl.isList (by omega) (by omega) (by simpa using ew) ⟨v, H, I, rw', q⟩
def dAugI (i : Nat) (fn : O → O → Option O) (di d : Env → Option O) : Env → Option Out := fun ρ => match look ρ i with
  | some (.lst true os) => match di ρ with
    | some (.int k) => if 0 ≤ k then (match os[k.toNat]? with
      | some old => match d ρ with
        | some y => match fn old y with
          | some z => some (.nx (ρ.set i (some (.lst true (os.set k.toNat z)))))
          | none => none
        | none => none
      | none => none) else none
    | _ => none
  | _ => none
def dIns (i : Nat) (di d : Env → Option O) : Env → Option Out := fun ρ => match look ρ i with
  | some (.lst true os) => match di ρ with
    | some (.int k) => match d ρ with
      | some o => if 0 ≤ k ∧ k < 4611686018427387904 ∧ os.length < sizeLine ∧ isFzs os = true ∧ isFz o = true then some (.nx (ρ.set i (some (.lst true (os.take k.toNat ++ [o] ++ os.drop k.toNat))))) else none
      | none => none
    | _ => none
  | _ => none
section
variable {ct : Nat → Addr} {X : Cx} {pn : Nat → Bool} {W : WX} {e ie : Expr} {d di : Env → Option O} {k k2 : Bool} {pos p1 p2 p3 apos : Pos}
theorem ss_augI (i : Nat) {x : Str} {op : Operator} {r : R2} {fn : O → O → Option O} (ho : OpR X (inplaceOp op) r) (hr : Fn2 X ct r fn) (hi : SX ct X k ie di) (he : SX ct X k2 e d) (hN : X.N[i]? = some x := by rfl) (hv : Vis X.env.scope x := by first | exact Or.inl rfl | exact Or.inr (Or.inl rfl) | exact Or.inr (Or.inr rfl)) (hd : (x == ("__debug__" : Str)) = false := by decide)
    (hcd : (x == ("__classdict__" : Str)) = false := by decide)
    (ha : ∀ ov iv new, augStore ie ov iv new = (do holding [new, ov, iv] (setItem ov iv new); release [new, ov, iv] []; pure .next) := by intros; rfl) :
    SS ct X pn W (.AugAssign (.Subscript (.Name x p1) ie p2) op e pos) (dAugI i fn di d) := by
  refine PS.imp (ps_augS (pe_var hN hv hd hcd) hi get_lst he ho set_list ha) fun D σ H h => ?_
  obtain ⟨F, ρ, f, out, s, e, q⟩ := h
  unfold dAugI at e
  split at e
  · rename_i os eo
    split at e
    · rename_i kk ei
      split at e
      · rename_i h0
        split at e
        · rename_i old eold
          split at e
          · rename_i y ed
            split at e
            · rename_i z ez
              cases e
              obtain ⟨v, g, ev, r0, l⟩ := s.rep.get eo
              refine ⟨v, ev, F, ρ, f, .int kk, s, ei, fun iv F1 H1 g1 ex1 ri gd1 => ?_⟩
              obtain ⟨rfl, _⟩ := ri
              have s1 := s.ext ex1
              obtain ⟨v', g', ev', r1, l1⟩ := s1.rep.get eo
              rw [ev] at ev'
              cases ev'
              obtain ⟨a, xs, g0, e1, hA, rs, eg⟩ := r1
              subst e1
              obtain ⟨ov, og, ex, ro, lo⟩ := rs.at eold
              refine ⟨a, xs, kk.toNat, ov, rfl, by rw [show ((kk.toNat : Nat) : Int) = kk by omega], SqL.of hA, ex, ?_⟩
              refine ⟨F1, ρ, f, y, s1, ed, fun yv F2 H2 g2 ex2 ry gd2 => ?_⟩
              refine hr F2 H2 old y z ov yv og g2 _ ex2.le (ro.ext ex2) ry ez fun w F3 H3 g3 ex3 rz gd3 => ?_
              have ext := (ex1.trans ex2).trans ex3
              have s3 := s.ext ext
              have gd3' : Gd false zf H F3 g3 := by
                obtain ⟨n1, n2, n3⟩ := gd3.n
                exact Gd.mkn n1 (fun b q => (ex1.trans ex2).hH.free (n2 b q)) n3
              have st := ext.stp s.wf s.rep.mem gd3'
              obtain ⟨a', xs', g0', ev', ha', rs', z1, z2, lg, wr⟩ := SRep.wlist st.wf s3.rep eo
              rw [ev] at ev'
              cases ev'
              have hj : kk.toNat < os.length := (List.getElem?_eq_some_iff.mp eold).1
              refine ⟨a, xs', kk, kk.toNat, rfl, rfl, ha', ?_, ?_⟩
              · rw [← rs'.length]
                unfold L2.ixN
                rw [if_pos h0, if_pos (by omega)]
              · have ag : ∀ b, g0' b ≠ 0 → (upd H3 a (.lst (xs'.set kk.toNat w))) b = H3 b := fun b z => upd_ne fun w => by subst w; exact z z1
                have ag2 : ∀ b, g3 b ≠ 0 → (upd H3 a (.lst (xs'.set kk.toNat w))) b = H3 b := fun b z => upd_ne fun w => by subst w; exact z z2
                obtain ⟨g', rr, lg'⟩ := Reps.set (Rep.mono (Same.refl _) ag2 rz) kk.toNat (Reps.mono (Same.refl _) ag rs')
                obtain ⟨f', sr, st3⟩ := wr _ _ g' rr lg'
                exact q σ F3 _ f' (st.trans st3) sr Pin.refl
            · cases e
          · cases e
        · cases e
      · cases e
    · cases e
  · cases e
theorem ss_ins (i : Nat) {x : Str} (hi : SX ct X false ie di) (he : SX ct X false e d) (hN : X.N[i]? = some x := by rfl) (hv : Vis X.env.scope x := by first | exact Or.inl rfl | exact Or.inr (Or.inl rfl) | exact Or.inr (Or.inr rfl)) (hd : (x == ("__debug__" : Str)) = false := by decide)
    (hcd : (x == ("__classdict__" : Str)) = false := by decide)
    (hstar : starEach [ie, e] X.env = (false, eval ie X.env) :: starEach [e] X.env := by rfl) (hstar2 : starEach [e] X.env = [(false, eval e X.env)] := by rfl) (hbase : attributeBase (.Name x p1) "insert" X.env (eval (.Name x p1) X.env) = eval (.Name x p1) X.env := by rfl) (hline : (apos.endLine == p2.line) = true := by rfl)
    (hs : swapsWith (.Call (.Attribute (.Name x p1) "insert" apos) [ie, e] [] p2) none pos.line X.env = pure false := by rfl) :
    SS ct X pn W (.Expr (.Call (.Attribute (.Name x p1) "insert" apos) [ie, e] [] p2) pos) (dIns i di d) := by
  refine PS.imp (ps_expr (pe_bm PySem.F.plainAttrs_list PySem.F.slot_list_insert PySem.F.type_list_insert mt_insert (pe_var hN hv hd hcd) (pa_cons hi (pa_cons he pa_nil hstar2) hstar) hbase (by rw [hstar, hstar2]; rfl) hline hstar (by rw [hstar2]; rfl)) hs) fun D σ H h => ?_
  obtain ⟨F, ρ, f, out, s, e, q⟩ := h
  unfold dIns at e
  split at e
  · rename_i os eo
    split at e
    · rename_i kk ei
      split at e
      · rename_i o ed
        split at e
        · rename_i hc
          obtain ⟨h0, h1, hlen, hz, hzo⟩ := hc
          cases e
          obtain ⟨v, g, ev, r, l⟩ := s.rep.get eo
          obtain ⟨a, xs, g0, e1, ha, rs, eg⟩ := r
          subst e1
          refine ⟨.ref a, ev, .inl ⟨rfl, xs, SqL.of ha⟩, F, ρ, f, .int kk, s, ei, fun iv F1 H1 g1 ex1 ri gd1 => ?_⟩
          obtain ⟨rfl, _⟩ := ri
          refine ⟨F1, ρ, f, o, s.ext ex1, ed, fun y F2 H2 gy ex2 ry gd2 => ?_⟩
          have ez := ry.fz0 hzo
          subst ez
          have ext := ex1.trans ex2
          have st := ext.stp s.wf s.rep.mem (Gd.zero (k := false) (f := zf) (H := H) (F' := F2))
          obtain ⟨a', xs', g0', ev', ha', rs', z1, z2, lg, wr⟩ := SRep.wlist st.wf (s.ext ext).rep eo
          rw [ev] at ev'
          cases ev'
          have hxs : xs' = xs := by
            have := ext.hH a _ ha
            rw [ha'] at this
            cases this; rfl
          subst hxs
          have eg0 := rs'.fz0 hz
          subst eg0
          refine ⟨a, xs', kk, y, rfl, rfl, ha', by rw [← rs'.length]; exact hlen, h0, by omega, ?_⟩
          obtain ⟨t1, t2⟩ := Reps.takeZ kk.toNat hz rs'
          obtain ⟨t3, t4⟩ := Reps.dropZ kk.toNat hz rs'
          have rr : Reps X.K ct F2 H2 (os.take kk.toNat ++ [o] ++ os.drop kk.toNat) (xs'.take kk.toNat ++ [y] ++ xs'.drop kk.toNat) zf := Reps.append (Reps.append t1 ⟨y, [], zf, zf, rfl, ry, ⟨rfl, rfl⟩, rfl⟩) t3
          obtain ⟨f', sr, st2⟩ := wr _ _ zf (Reps.mono (Same.refl _) (fun b z => absurd rfl z) rr) fun b => Nat.zero_le _
          exact q σ F2 _ f' (st.trans st2) sr Pin.refl
        · cases e
      · cases e
    · cases e
  · cases e
end
end Mini
namespace Mini
open PySem PySem.Spec PyProof.Rows L2
/-! an expression that raises -/
def tE (ct : Nat → Addr) (K : PySem.W.Frag) (W : WX) (d : Env → Option Nat) : TE := fun σ H _ =>
  ∃ F ρ f c, Sit K ct F H ρ σ f ∧ d ρ = some c ∧ KR K ct W F H f σ (.er c ρ) (fun _ _ => True)
def tAE (ct : Nat → Addr) (K : PySem.W.Frag) (W : WX) (d : Env → Option Nat) : TA := fun σ H _ =>
  ∃ F ρ f c, Sit K ct F H ρ σ f ∧ d ρ = some c ∧ KR K ct W F H f σ (.er c ρ) (fun _ _ => True)
def SE (ct : Nat → Addr) (X : Cx) (W : WX) (e : Expr) (d : Env → Option Nat) : Prop := PE X e (tE ct X.K W d)
def SAE (ct : Nat → Addr) (X : Cx) (W : WX) (es : List Expr) (d : Env → Option Nat) : Prop := PA X es (tAE ct X.K W d)
def eCall (ks : List Bool) (Ff : FnX) (ds : Env → Option (List O)) : Env → Option Nat := fun ρ => match ds ρ with
  | some os => match Ff (views ks os) with
    | some (.er c _) => some c
    | _ => none
  | none => none
/-- this one surely does not raise, the next does -/
def eNext (d : Env → Option O) (e : Env → Option Nat) : Env → Option Nat := fun ρ => match d ρ with
  | some _ => e ρ
  | none => none
/-- a statement ends with the error of its expression, if there is one -/
def dEr (e : Env → Option Nat) : Env → Option Out := fun ρ => match e ρ with
  | some c => some (.er c ρ)
  | none => none
def dOrO (d1 d2 : Env → Option Out) : Env → Option Out := fun ρ => match d1 ρ with
  | some o => some o
  | none => d2 ρ
section
variable {ct : Nat → Addr} {X : Cx} {pn : Nat → Bool} {W : WX} {ks : List Bool} {e : Expr} {es : List Expr} {d1 : Env → Option O} {de : Env → Option Nat} {ds : Env → Option (List O)} {Ff : FnX} {F0 : Fn} {k : Nat} {x : Str} {p pos p1 p2 apos : Pos} {n : Nat} {kb : Bool}
theorem se_call {k0 : Bool} (D : FDX X.prog X.w X.K X.mg X.base ct k x n Ff) (hr : Room k X.A) (tk : Takes X W) (ha : SA ct X (k0 :: ks) (e :: es) ds) (hn : (k0 :: ks).length = n := by rfl) (hg : Gl X x := by rfl) (hdb : (x == ("__debug__" : Str)) = false := by decide)
    (he : starEach (e :: es) X.env = (false, eval e X.env) :: starEach es X.env := by rfl) (hpl : (backTo pos (starEach es X.env)).any (·.1) = false := by rfl) : SE ct X W (.Call (.Name x p) (e :: es) [] pos) (eCall (k0 :: ks) Ff ds) := by
  refine PE.imp (sr_call D hr tk ha hn hg hdb he hpl) fun σ H Q h => ?_
  obtain ⟨F, ρ, f, c, s, e, q⟩ := h
  refine ⟨F, ρ, f, .er c ρ, s, ?_, q⟩
  unfold eCall at e
  cases eos : ds ρ with
  | none => rw [eos] at e; cases e
  | some os =>
    rw [eos] at e
    unfold dCallX
    rw [eos]
    cases er : Ff (views (k0 :: ks) os) with
    | none => dsimp only at e; rw [er] at e; cases e
    | some r =>
      cases r with
      | ok o fin => dsimp only at e; rw [er] at e; cases e
      | er c' fin =>
        dsimp only at e
        rw [er] at e
        cases e
        dsimp only
        rw [er]
theorem sae_here (h : SE ct X W e de) (hs : starEach (e :: es) X.env = (false, eval e X.env) :: starEach es X.env := by rfl) : SAE ct X W (e :: es) de := by
  refine PA.imp (pa_cons (t := fun _ _ _ => False) h ⟨fun _ _ _ _ _ _ _ h => h.elim⟩ hs) fun σ H Q h => ?_
  exact h
theorem sae_next (h1 : SX ct X kb e d1) (h2 : SAE ct X W es de) (hs : starEach (e :: es) X.env = (false, eval e X.env) :: starEach es X.env := by rfl) : SAE ct X W (e :: es) (eNext d1 de) := by
  refine PA.imp (pa_cons h1 h2 hs) fun σ H Q h => ?_
  obtain ⟨F, ρ, f, c, s, e, q⟩ := h
  unfold eNext at e
  split at e
  · rename_i o eo
    refine ⟨F, ρ, f, o, s, eo, fun v F1 H1 g ex r gd => ?_⟩
    exact ⟨F1, ρ, f, c, s.ext ex, e, fun F' H' f' st rs => q F' H' f' ((ex.stp0 s.wf s.rep.mem).trans st) rs⟩
  · cases e
theorem se_tup {x1} (h : SAE ct X W es de) : SE ct X W (.Tuple es x1 pos) de :=
  PE.imp (pe_tup h) fun σ H Q h => h
/-- f(.., e, ..) where e raises -/
theorem se_args (D : FD X.prog X.w X.K X.mg X.base ct k x n F0) (hr : Room k X.A) (ha : SAE ct X W (e :: es) de) (hg : Gl X x := by rfl) (hdb : (x == ("__debug__" : Str)) = false := by decide)
    (he : starEach (e :: es) X.env = (false, eval e X.env) :: starEach es X.env := by rfl) (hpl : (backTo pos (starEach es X.env)).any (·.1) = false := by rfl) : SE ct X W (.Call (.Name x p) (e :: es) [] pos) de := by
  obtain ⟨f, fd, ps, hps, hF, hm, hk, hb⟩ := D.ex
  exact PE.imp (pe_call hF hr hg hm hk hb .nil pass0 ha hdb he hpl) fun σ H Q h => h
theorem se_argsX (D : FDX X.prog X.w X.K X.mg X.base ct k x n Ff) (hr : Room k X.A) (ha : SAE ct X W (e :: es) de) (hg : Gl X x := by rfl) (hdb : (x == ("__debug__" : Str)) = false := by decide)
    (he : starEach (e :: es) X.env = (false, eval e X.env) :: starEach es X.env := by rfl) (hpl : (backTo pos (starEach es X.env)).any (·.1) = false := by rfl) : SE ct X W (.Call (.Name x p) (e :: es) [] pos) de := by
  obtain ⟨f, fd, ps, hps, hF, hm, hk, hb⟩ := D.ex
  refine PE.imp (pe_callS (E := fun _ => E0) hF hr hg hm hk hb (fun σ pins H s e s' I h => ?_) ha hdb he hpl) fun σ H Q h => h
  obtain ⟨_, _, _, _, _, _, _, _, _, _, _, _, z⟩ := h
  exact z.elim
theorem ss_or {st : Stmt} {da db : Env → Option Out} (h1 : SS ct X pn W st da) (h2 : SS ct X pn W st db) : SS ct X pn W st (dOrO da db) := by
  refine ⟨fun pins s σ H D I h => ?_⟩
  obtain ⟨F, ρ, f, out, s0, e, q⟩ := h
  unfold dOrO at e
  split at e
  · rename_i o eo
    cases e
    exact h1.run pins s σ H D I ⟨F, ρ, f, _, s0, eo, q⟩
  · exact h2.run pins s σ H D I ⟨F, ρ, f, _, s0, e, q⟩
theorem er_go {D : Ends} {σ : L2.St} {H : Hp} {Q : VK} (h : tSt ct X.K pn W (dEr de) D σ H) : tE ct X.K W de σ H Q := by
  obtain ⟨F, ρ, f, out, s, e, q⟩ := h
  unfold dEr at e
  split at e
  · rename_i c eo
    cases e
    exact ⟨F, ρ, f, c, s, eo, fun F1 H1 f1 st rs => q σ F1 H1 f1 st rs Pin.refl⟩
  · cases e
theorem ss_retE (he : SE ct X W e de) : SS ct X pn W (.Return (some e) pos) (dEr de) :=
  PS.imp (ps_ret he) fun D σ H h => er_go h
theorem ss_exprE (he : SE ct X W e de) (hs : swapsWith e none pos.line X.env = pure false := by rfl) : SS ct X pn W (.Expr e pos) (dEr de) :=
  PS.imp (ps_expr he hs) fun D σ H h => er_go h
/-- x.append(e) where e raises -/
def eAt (i : Nat) (de : Env → Option Nat) : Env → Option Nat := fun ρ => match look ρ i with
  | some (.lst true _) => de ρ
  | _ => none
theorem ss_appE (i : Nat) {x : Str} (he : SE ct X W e de) (hN : X.N[i]? = some x := by rfl) (hv : Vis X.env.scope x := by first | exact Or.inl rfl | exact Or.inr (Or.inl rfl) | exact Or.inr (Or.inr rfl)) (hd : (x == ("__debug__" : Str)) = false := by decide)
    (hcd : (x == ("__classdict__" : Str)) = false := by decide)
    (hstar : starEach [e] X.env = [(false, eval e X.env)] := by rfl) (hbase : attributeBase (.Name x p1) "append" X.env (eval (.Name x p1) X.env) = eval (.Name x p1) X.env := by rfl) (hline : (apos.endLine == p2.line) = true := by rfl)
    (hs : swapsWith (.Call (.Attribute (.Name x p1) "append" apos) [e] [] p2) none pos.line X.env = pure false := by rfl) :
    SS ct X pn W (.Expr (.Call (.Attribute (.Name x p1) "append" apos) [e] [] p2) pos) (dEr (eAt i de)) := by
  refine PS.imp (ps_expr (pe_bm PySem.F.plainAttrs_list PySem.F.slot_list_append PySem.F.type_list_append mt_append (pe_var hN hv hd hcd) (pa_cons he pa_nil hstar) hbase (by rw [hstar]; rfl) hline hstar rfl) hs) fun D σ H h => ?_
  obtain ⟨F, ρ, f, out, s, e, q⟩ := h
  unfold dEr at e
  split at e
  · rename_i c ec
    cases e
    unfold eAt at ec
    split at ec
    · rename_i os eo
      obtain ⟨v, g, ev, r, l⟩ := s.rep.get eo
      obtain ⟨a, xs, g0, e1, ha, rs, eg⟩ := r
      subst e1
      exact ⟨.ref a, ev, .inl ⟨rfl, xs, SqL.of ha⟩, F, ρ, f, c, s, ec, fun F1 H1 f1 st rs => q σ F1 H1 f1 st rs Pin.refl⟩
    · cases ec
  · cases e
end
end Mini
namespace Mini
open PySem PySem.Spec PyProof.Rows L2
/-! range(i, j, -1) -/
def rngsD (lo : Int) (n : Nat) : List O := (List.range n).map fun (i : Nat) => O.int (lo + (i : Int) * (-1))
noncomputable def dRngD (da db dc : Env → Option O) : Env → Option (List O) := fun ρ => match da ρ with
  | some (.int i) => match db ρ with
    | some (.int j) => match dc ρ with
      | some (.int c) => if (rOk i && rOk j && decide (c = -1)) = true then some (rngsD i (i - j).toNat) else none
      | _ => none
    | _ => none
  | _ => none
theorem walks_c {ct : Nat → Addr} {K : PySem.W.Frag} {F : Hp} {lo : Int} {n : Nat} : Walks K ct (Itc lo (-1) n) (rngsD lo n) F := fun F2 H2 h1 h2 i => by
  have hl : (rngsD lo n).length = n := by simp [rngsD]
  refine ⟨fun hi => by rw [hl] at hi; exact hi, fun o ho => ?_⟩
  have hi : i < n := by rw [← hl]; exact (List.getElem?_eq_some_iff.mp ho).1
  have eo : o = .int (lo + (i : Int) * (-1)) := by
    unfold rngsD at ho
    rw [List.getElem?_map, List.getElem?_range hi] at ho
    cases ho
    rfl
  subst eo
  refine ⟨hi, fun x H3 hy => ?_⟩
  obtain ⟨eH, ex⟩ := hy
  subst eH
  exact ⟨F2, Ext.refl h2, ex, rfl⟩
section
variable {ct : Nat → Addr} {X : Cx} {tg a b c : Expr} {da db dc : Env → Option O} {k1 k2 k3 : Bool}
theorem si_rngD {p pos : Pos} (hm : X.mg "range" = none) (ha : SX ct X k1 a da) (hb : SX ct X k2 b db) (hc : SX ct X k3 c dc) (hg : Gl X "range" := by rfl)
    (hs : starEach [a, b, c] X.env = (false, eval a X.env) :: starEach [b, c] X.env := by rfl) (hs1 : starEach [b, c] X.env = (false, eval b X.env) :: starEach [c] X.env := by rfl) (hs2 : starEach [c] X.env = [(false, eval c X.env)] := by rfl)
    (hpl : (backTo pos (starEach [b, c] X.env)).any (·.1) = false := by rfl) :
    SI ct X tg (.Call (.Name "range" p) [a, b, c] [] pos) (dRngD da db dc) := by
  refine PI.imp (pi_range3 hg hm (pa_cons ha (pa_cons hb (pa_cons hc pa_nil hs2) hs1) hs) hs hpl) fun σ H R h => ?_
  obtain ⟨F, ρ, f, os, s, e, q⟩ := h
  unfold dRngD at e
  split at e
  · split at e
    · split at e
      · split at e
        · rename_i i ei _ j ej _ c ec hj
          cases e
          refine ⟨F, ρ, f, _, s, ei, fun v F1 H1 g ex r gd => ?_⟩
          refine ⟨F1, ρ, f, _, s.ext ex, ej, fun v2 F2 H2 g2 ex2 r2 gd2 => ?_⟩
          refine ⟨F2, ρ, f, _, (s.ext ex).ext ex2, ec, fun v3 F3 H3 g3 ex3 r3 gd3 => ?_⟩
          obtain ⟨rfl, _⟩ := r
          obtain ⟨rfl, _⟩ := r2
          obtain ⟨rfl, _⟩ := r3
          rw [Bool.and_eq_true, Bool.and_eq_true] at hj
          obtain ⟨b1, b2⟩ := rOk_b hj.1.1
          obtain ⟨b3, b4⟩ := rOk_b hj.1.2
          have hc1 := of_decide_eq_true hj.2
          subst hc1
          exact ⟨i, j, -1, _, rfl, RgC.neg b1 b2 b3 b4, q _ F3 H3 ((ex.trans ex2).trans ex3) walks_c⟩
        · cases e
      · cases e
    · cases e
  · cases e
end
/-! an expression that looks at a slot as frozen -/
def dView (i : Nat) (d : Env → Option O) : Env → Option O := fun ρ => match look ρ i with
  | some o => match d (ρ.set i (some (frz o))) with
    | some r => if noFm r = true then some r else none
    | none => none
  | none => none
section
variable {ct : Nat → Addr} {X : Cx} {e : Expr} {d : Env → Option O}
theorem sx_view (i : Nat) (he : SX ct X false e d) : SX ct X false e (dView i d) := by
  refine PE.imp he fun σ H Q h => ?_
  obtain ⟨F, ρ, f, r, s, e, q⟩ := h
  unfold dView at e
  split at e
  · rename_i o eo
    split at e
    · rename_i r' er
      split at e
      · rename_i hn
        cases e
        obtain ⟨l1, l2⟩ := s.rep.len eo
        obtain ⟨g, l, ef, hl, hf⟩ := SRep.hole i l1 s.rep
        obtain ⟨v, ev, rv⟩ := hl _ eo
        obtain ⟨c1, c2, c3⟩ := call_back (ks := [true]) (os := [o]) (vs := [v]) (gb := fun a => g a + zf a) (gv := zf) s.wf s.rep.mem (Ext.refl s.wf.le) ⟨v, [], g, zf, rfl, rv, ⟨rfl, rfl, rfl⟩, rfl⟩ (fun a z => by
          have z' : g a + 0 ≠ 0 := z
          rw [ef]; show g a + l a ≠ 0; omega) Gd.zero (by rw [hn, Bool.or_true]) q
        have c1 : Wf (fun a => if g a ≠ 0 then H a else F a) H zf := c1
        have c2 : Reps X.K ct (fun a => if g a ≠ 0 then H a else F a) H [frz o] [v] zf := c2
        have c3 : ∀ w (F' H' : Hp) (g1 gf : Fp), Stp (fun a => if g a ≠ 0 then H a else F a) H zf F' H' (fun a => g1 a + gf a) → Rep X.K ct F' H' r w g1 → Q w H' := c3
        obtain ⟨v', vr', g1, g2, ee, r1, r2, eg⟩ := c2
        cases ee
        obtain ⟨e1, e2⟩ := r2
        have g1z : g1 = zf := by
          funext a
          have := congrFun eg a
          have t : zf a = g1 a + g2 a := this
          show g1 a = 0
          have tz : zf a = 0 := rfl
          omega
        subst g1z
        have hFs : Same F (fun a => if g a ≠ 0 then H a else F a) := fun a u hu => by
          show (if g a ≠ 0 then H a else F a) = some u
          by_cases z : g a ≠ 0
          · rw [if_pos z]; exact s.wf.le a u hu
          · rw [if_neg z]; exact hu
        have sr := (hf (fun a => if g a ≠ 0 then H a else F a) H hFs fun _ _ => rfl).1 (frz o) v zf r1
        rw [set_self ev] at sr
        have zl : (fun a => zf a + l a) = l := by funext a; show 0 + l a = l a; omega
        rw [zl] at sr
        refine ⟨_, _, l, r, ⟨⟨c1.le, fun a => ?_, fun a z => ?_⟩, sr⟩, er, fun w F1 H1 g3 ex rw gd => ?_⟩
        · have := s.wf.one a
          rw [ef] at this
          have t : g a + l a ≤ 1 := this
          omega
        · have o1 := s.wf.one a
          have o2 := s.wf.dj a
          rw [ef] at o1 o2
          have t : g a + l a ≤ 1 := o1
          show (if g a ≠ 0 then H a else F a) = none
          rw [if_neg (by omega)]
          exact o2 (by show g a + l a ≠ 0; omega)
        · obtain ⟨n1, n2, n3⟩ := gd.n
          have st := ex.stp c1 (fun a z => absurd rfl z) (Gd.mkn (f := zf) n1 n2 n3)
          exact c3 w F1 H1 g3 zf (st.sub fun a => by show g3 a + 0 ≤ 0 + g3 a; omega) rw
      · cases e
    · cases e
  · cases e
end
/-! x[i].append(e): a list in an owned list -/
section
variable {ct : Nat → Addr} {K : PySem.W.Frag} {F F' H H' : Hp}
theorem Reps.hole : ∀ {os : List O} {vs : List V} {f : Fp} {j : Nat} {o : O}, Reps K ct F H os vs f → os[j]? = some o → ∃ (v : V) (g l : Fp), vs[j]? = some v ∧ Rep K ct F H o v g ∧ (f = fun a => g a + l a) ∧
    ∀ H' o' g', (∀ a, l a ≠ 0 → H' a = H a) → Rep K ct F H' o' v g' → Reps K ct F H' (os.set j o') vs (fun a => g' a + l a)
  | [], _, _, _, _, _, e => by simp at e
  | o1 :: os, vs, f, 0, o, h, e => by
    obtain ⟨v, vr, g, l, ev, r, rs, ef⟩ := h
    subst ev
    cases e
    refine ⟨v, g, l, rfl, r, ef, fun H' o' g' hh r' => ?_⟩
    exact ⟨v, vr, g', l, rfl, r', Reps.mono (Same.refl _) hh rs, rfl⟩
  | o1 :: os, vs, f, j + 1, o, h, e => by
    obtain ⟨v, vr, g, l, ev, r, rs, ef⟩ := h
    subst ev
    obtain ⟨w, g2, l2, e1, r2, ef2, hh2⟩ := Reps.hole (j := j) rs (by simpa using e)
    refine ⟨w, g2, fun a => g a + l2 a, by simpa using e1, r2, ?_, fun H' o' g' hh r' => ?_⟩
    · rw [ef, ef2]; funext a; show g a + (g2 a + l2 a) = g2 a + (g a + l2 a); omega
    · have r1 := hh2 H' o' g' (fun a z => hh a (by show g a + l2 a ≠ 0; omega)) r'
      refine ⟨v, vr, g, _, rfl, Rep.mono (Same.refl _) (fun a z => hh a (by show g a + l2 a ≠ 0; omega)) r, r1, ?_⟩
      funext a
      show g' a + (g a + l2 a) = g a + (g' a + l2 a)
      omega
/-- a slot's value is written at one place -/
theorem SRep.write {ρ : Env} {σ : L2.St} {f gy : Fp} {i : Nat} {o : O} (wf : Wf F H (fun a => f a + gy a)) (h : SRep K ct F H ρ σ f) (e : look ρ i = some o) :
    ∃ (v : V) (g l : Fp), σ[i]? = some (some v) ∧ Rep K ct F H o v g ∧ (f = fun a => g a + l a) ∧
      ∀ a u o' g', g a ≠ 0 → Rep K ct F (upd H a u) o' v g' → (∀ b, g' b ≤ g b + gy b) →
        ∃ f', SRep K ct F (upd H a u) (ρ.set i (some o')) σ f' ∧ Stp F H (fun a => f a + gy a) F (upd H a u) f' := by
  obtain ⟨l1, l2⟩ := h.len e
  obtain ⟨g, l, ef, hl, hf⟩ := SRep.hole i l1 h
  obtain ⟨v, ev, r⟩ := hl _ e
  refine ⟨v, g, l, ev, r, ef, fun a u o' g' ga r' lg => ?_⟩
  have one := wf.one a
  have t : f a + gy a ≤ 1 := one
  have fa : f a = g a + l a := by rw [ef]
  have la : l a = 0 := by omega
  have Fa : F a = none := wf.dj a (by show f a + gy a ≠ 0; omega)
  have hr := (hf F (upd H a u) (Same.refl _) fun b z => by rw [upd_ne fun y => by subst y; exact z la]).1 o' v g' r'
  rw [set_self ev] at hr
  refine ⟨_, hr, Same.refl _, ⟨fun b u hu => ?_, fun b => ?_, fun b z => ?_⟩, fun b u hu z => ?_, fun b z => ?_⟩
  · rw [upd_ne fun y => by subst y; rw [Fa] at hu; cases hu]
    exact wf.le b u hu
  · have o1 := wf.one b
    have o2 := lg b
    have o3 : f b = g b + l b := by rw [ef]
    have o4 : f b + gy b ≤ 1 := o1
    show g' b + l b ≤ 1
    omega
  · refine wf.dj b ?_
    have o2 := lg b
    have o3 : f b = g b + l b := by rw [ef]
    have z' : g' b + l b ≠ 0 := z
    show f b + gy b ≠ 0
    omega
  · have z' : f b + gy b = 0 := z
    rw [upd_ne fun y => by subst y; omega]
    exact hu
  · rcases z with z | z
    · refine .inr (.inr ?_)
      have o2 := lg b
      have o3 : f b = g b + l b := by rw [ef]
      have z' : g' b + l b ≠ 0 := z
      show f b + gy b ≠ 0
      omega
    · exact .inl z
end
def dAppI (i : Nat) (di d : Env → Option O) : Env → Option Out := fun ρ => match look ρ i with
  | some (.lst true os) => match di ρ with
    | some (.int k) => if 0 ≤ k then (match os[k.toNat]? with
      | some (.lst true qs) => match d ρ with
        | some y => if qs.length < sizeLine then some (.nx (ρ.set i (some (.lst true (os.set k.toNat (.lst true (qs ++ [y]))))))) else none
        | none => none
      | _ => none) else none
    | _ => none
  | _ => none
section
variable {ct : Nat → Addr} {X : Cx} {pn : Nat → Bool} {W : WX} {e ie : Expr} {d di : Env → Option O} {k : Bool} {pos p1 p2 p3 apos : Pos}
theorem ss_appI (i : Nat) {x : Str} (hi : SX ct X k ie di) (he : SX ct X false e d) (hsx : PlainIx ie := by intro _ _; rfl) (hN : X.N[i]? = some x := by rfl) (hv : Vis X.env.scope x := by first | exact Or.inl rfl | exact Or.inr (Or.inl rfl) | exact Or.inr (Or.inr rfl)) (hd : (x == ("__debug__" : Str)) = false := by decide)
    (hcd : (x == ("__classdict__" : Str)) = false := by decide)
    (hstar : starEach [e] X.env = [(false, eval e X.env)] := by rfl) (hbase : attributeBase (.Subscript (.Name x p1) ie p3) "append" X.env (eval (.Subscript (.Name x p1) ie p3) X.env) = eval (.Subscript (.Name x p1) ie p3) X.env := by rfl) (hline : (apos.endLine == p2.line) = true := by rfl)
    (hs : swapsWith (.Call (.Attribute (.Subscript (.Name x p1) ie p3) "append" apos) [e] [] p2) none pos.line X.env = pure false := by rfl) :
    SS ct X pn W (.Expr (.Call (.Attribute (.Subscript (.Name x p1) ie p3) "append" apos) [e] [] p2) pos) (dAppI i di d) := by
  refine PS.imp (ps_expr (pe_bm PySem.F.plainAttrs_list PySem.F.slot_list_append PySem.F.type_list_append mt_append (pe_ix ix_seq (pe_var hN hv hd hcd) hi hsx) (pa_cons he pa_nil hstar) hbase (by rw [hstar]; rfl) hline hstar rfl) hs) fun D σ H h => ?_
  obtain ⟨F, ρ, f, out, s, e, q⟩ := h
  unfold dAppI at e
  split at e
  · rename_i os eo
    split at e
    · rename_i kk ei
      split at e
      · rename_i h0
        split at e
        · rename_i qs eq
          split at e
          · rename_i y ed
            split at e
            · rename_i hlen
              cases e
              obtain ⟨v, g, ev, r0, l0⟩ := s.rep.get eo
              refine ⟨v, ev, F, ρ, f, .int kk, s, ei, fun iv F1 H1 g1 ex1 ri gd1 => ?_⟩
              obtain ⟨rfl, _⟩ := ri
              have s1 := s.ext ex1
              obtain ⟨v', g', ev', r1, l1⟩ := s1.rep.get eo
              rw [ev] at ev'
              cases ev'
              obtain ⟨a, xs, g0, e1, hA, rs, eg⟩ := r1
              subst e1
              obtain ⟨w, gw, ew, rw', lw⟩ := rs.at eq
              obtain ⟨a2, xs2, g2, ew2, hA2, rs2, eg2⟩ := rw'
              subst ew2
              have hat : L2.atI xs kk = some (.ref a2) := by
                have := L2.atI_nat ew
                rwa [show ((kk.toNat : Nat) : Int) = kk by omega] at this
              refine .inl ⟨a, xs, kk, .ref a2, rfl, rfl, SqL.of hA, hat, ?_⟩
              refine ⟨.inl ⟨rfl, xs2, SqL.of hA2⟩, F1, ρ, f, y, s1, ed, fun yv F2 H2 gy ex2 ry gd2 => ?_⟩
              have st1 := ex1.stp0 s.wf s.rep.mem
              have st2 := ex2.stp s1.wf s1.rep.mem gd2
              obtain ⟨u, gu, lu, eu, ru, efu, wr⟩ := SRep.write st2.wf (s1.ext ex2).rep eo
              rw [ev] at eu
              cases eu
              obtain ⟨b, ys, h0', eb, hB, rsB, egB⟩ := ru
              cases eb
              have hys : ys = xs := by
                have := ex2.hH a _ hA
                rw [hB] at this
                cases this; rfl
              subst hys
              obtain ⟨w', gj, lj, ew', rj, efj, hole⟩ := Reps.hole rsB eq
              rw [ew] at ew'
              cases ew'
              obtain ⟨b2, ys2, gq, eb2, hB2, rsq, egq⟩ := rj
              cases eb2
              have hys2 : ys2 = xs2 := by
                have := ex2.hH a2 _ hA2
                rw [hB2] at this
                cases this; rfl
              subst hys2
              have one2 := st2.wf.one a2
              have fa2 : f a2 = gu a2 + lu a2 := by rw [efu]
              have ga2 : gu a2 = (if a2 = a then 1 else 0) + h0' a2 := by rw [egB]; rfl
              have ha2 : h0' a2 = gj a2 + lj a2 := by rw [efj]
              have gja : gj a2 = 1 + gq a2 := by rw [egq]; simp [bump]
              have t2 : f a2 + gy a2 ≤ 1 := one2
              have na : a2 ≠ a := fun z => by rw [if_pos z] at ga2; omega
              have lj0 : lj a2 = 0 := by omega
              have gq0 : gq a2 = 0 := by omega
              have gy0 : gy a2 = 0 := by omega
              refine ⟨a2, ys2, yv, rfl, rfl, hB2, by rw [← rsq.length]; exact hlen, ?_⟩
              have ag : ∀ b, gq b ≠ 0 → (upd H2 a2 (.lst (ys2 ++ [yv]))) b = H2 b := fun b z => upd_ne fun w => by subst w; exact z gq0
              have ag2 : ∀ b, gy b ≠ 0 → (upd H2 a2 (.lst (ys2 ++ [yv]))) b = H2 b := fun b z => upd_ne fun w => by subst w; exact z gy0
              have ag3 : ∀ b, lj b ≠ 0 → (upd H2 a2 (.lst (ys2 ++ [yv]))) b = H2 b := fun b z => upd_ne fun w => by subst w; exact z lj0
              have rin : Rep X.K ct F2 (upd H2 a2 (.lst (ys2 ++ [yv]))) (.lst true (qs ++ [y])) (.ref a2) (bump a2 fun b => gq b + gy b) :=
                ⟨a2, ys2 ++ [yv], _, rfl, upd_same, Reps.app (Reps.mono (Same.refl _) ag rsq) (Reps.one (Rep.mono (Same.refl _) ag2 ry)), rfl⟩
              have rout := hole _ _ _ ag3 rin
              have rall : Rep X.K ct F2 (upd H2 a2 (.lst (ys2 ++ [yv]))) (.lst true (os.set kk.toNat (.lst true (qs ++ [y])))) (.ref a) (bump a fun b => (bump a2 fun b => gq b + gy b) b + lj b) :=
                ⟨a, ys, _, rfl, by rw [upd_ne fun z => na z.symm]; exact hB, rout, rfl⟩
              obtain ⟨f', sr, st3⟩ := wr a2 (.lst (ys2 ++ [yv])) _ _ (by omega) rall (fun b => by
                have e1 : gu b = (if b = a then 1 else 0) + h0' b := by rw [egB]; rfl
                have e2 : h0' b = gj b + lj b := by rw [efj]
                have e3 : gj b = (if b = a2 then 1 else 0) + gq b := by rw [egq]; rfl
                show (if b = a then 1 else 0) + (((if b = a2 then 1 else 0) + (gq b + gy b)) + lj b) ≤ gu b + gy b
                omega)
              exact q σ F2 _ f' ((st1.trans st2).trans st3) sr Pin.refl
            · cases e
          · cases e
        · cases e
      · cases e
    · cases e
  · cases e
end
end Mini
namespace Mini
open PySem PySem.Spec PyProof.Rows L2
/-- comprehensions within comprehensions: what their scope is made of -/
def relS (scope sc : Scope) : Scope := { scope with names := scope.names.map fun (n, k) => if (k == .free && sc.kind == .function && sc.names.lookup n == some .cell) = true then (n, .cell) else (n, k) }
theorem relS_eq (scope : Scope) (e : PySem.Env) : relabel scope e = relS scope e.scope := rfl
theorem blkOk_rel {N : List Str} {s1 scope sc : Scope} {own : List (Str × Nat)} {cl : List (Str × Addr)} {C : Addr} {e : PySem.Env} (he : e.scope = sc) (h : blkC N (relS s1 sc) scope own = true) : BlkOk N (compEnvC s1 cl C e).scope scope own := by
  refine blkOk_by ?_
  subst he
  exact h
end Mini
namespace Mini
open PySem PySem.Spec PyProof.Rows L2
/-- comprehensions with two fors -/
def lLc2 (dg : O → Env → Option Env) (dc : Env → Option Bool) (di1 : Env → Option (List O)) (dg1 : O → Env → Option Env) (dc1 : Env → Option Bool) (de : Env → Option O) (vs1 : List Nat) (ρ : Env) : List O → Option (List O)
  | [] => some []
  | o :: os => match dg o ρ with
    | some ρ1 => match dc ρ1 with
      | some true => match di1 ρ1 with
        | some os1 => match lLc dg1 dc1 de (wipeE ρ1 vs1) os1 with
          | some r => match lLc2 dg dc di1 dg1 dc1 de vs1 ρ os with
            | some rs => some (r ++ rs)
            | none => none
          | none => none
        | none => none
      | some false => lLc2 dg dc di1 dg1 dc1 de vs1 ρ os
      | none => none
    | none => none
def dLc2 (di : Env → Option (List O)) (dg : O → Env → Option Env) (dc : Env → Option Bool) (di1 : Env → Option (List O)) (dg1 : O → Env → Option Env) (dc1 : Env → Option Bool) (de : Env → Option O) (vs vs1 : List Nat) : Env → Option O := fun ρ => match di ρ with
  | some os => match lLc2 dg dc di1 dg1 dc1 de vs1 (wipeE ρ vs) os with
    | some rs => if rs.length ≤ sizeLine then some (.lst true rs) else none
    | none => none
  | none => none
section
variable {ct : Nat → Addr} {X : Cx} {tg iter tg1 iter1 elt : Expr} {ifs ifs1 : List Expr} {di di1 : Env → Option (List O)} {dg dg1 : O → Env → Option Env} {dc dc1 : Env → Option Bool} {de : Env → Option O} {scope : Scope} {own : List (Str × Nat)} {vs1 : List Nat} {pos spos : Pos}
/-- a heap in which only the list under way has changed -/
theorem Sit.upd_other {K : PySem.W.Frag} {F H : Hp} {ρ : Env} {σ : L2.St} {f : Fp} {D : Addr} {u : HO} (s : Sit K ct F H ρ σ f) (hD : f D = 0) (hF : F D = none) : Sit K ct F (upd H D u) ρ σ f := by
  refine ⟨⟨fun b o hb => by rw [upd_ne (ne_of_none hb hF)]; exact s.wf.le b o hb, s.wf.one, s.wf.dj⟩, SRep.mono (Same.refl _) (fun a z => upd_ne fun w => ?_) s.rep⟩
  subst w
  exact z hD
theorem lc2_go {K : PySem.W.Frag} {wi wi1 : TI} {g g1 : TG} {tt tt1 : TT} {te : TE} (vs vs1 : List Nat) (hi : ∀ σ H R, tI ct K di σ H R → wi σ H R) (hg : ∀ v σ H Q, tGt ct K (pnOf vs) dg v σ H Q → g v σ H Q) (ht : ∀ σ H Q, tT ct K dc σ H Q → tt σ H Q)
    (hi1 : ∀ σ H R, tI ct K di1 σ H R → wi1 σ H R) (hg1 : ∀ v σ H Q, tGt ct K (pnOf vs1) dg1 v σ H Q → g1 v σ H Q) (ht1 : ∀ σ H Q, tT ct K dc1 σ H Q → tt1 σ H Q) (he : ∀ σ H Q, tX ct K false de σ H Q → te σ H Q)
    {σ : L2.St} {H : Hp} {Q : VK} (h : tX ct K false (dLc2 di dg dc di1 dg1 dc1 de vs vs1) σ H Q) : tLc2 wi g tt wi1 g1 tt1 te vs vs1 σ H Q := by
  obtain ⟨F, ρ, f, out, s, e, q⟩ := h
  unfold dLc2 at e
  split at e
  · rename_i os eo
    split at e
    · rename_i rs er
      split at e
      · rename_i hsz
        cases e
        refine hi _ _ _ ⟨F, ρ, f, os, s, eo, fun J F1 H1 ex1 wk => ?_⟩
        intro D hD
        have hD0 : H D = none := ex1.hH.free hD
        have fD : f D = 0 := Classical.byContradiction fun z => by
          obtain ⟨u, hu, _⟩ := s.rep.mem D z
          rw [hD0] at hu; cases hu
        refine ⟨fun i m H' => m = os.length - i ∧ i ≤ os.length ∧ ∃ F' acc accO g rest, Ext F H F' H' ∧ Same F1 F' ∧ F' D = none ∧ H' D = some (.lst acc) ∧ Reps K ct F' H' accO acc g ∧ Gd false f H F' g ∧ g D = 0 ∧ lLc2 dg dc di1 dg1 dc1 de vs1 (wipeE ρ vs) (os.drop i) = some rest ∧ rs = accO ++ rest,
          ⟨os.length, rfl, Nat.zero_le _, F1, [], [], zf, rs, ?_, Same.refl _, ex1.le.free hD, upd_same, ⟨rfl, rfl⟩, Gd.zero, rfl, er, rfl⟩, ?_⟩
        · exact ⟨ex1.hF, fun b o hb => by rw [upd_ne (ne_of_none hb hD0)]; exact ex1.hH b o hb, fun b o hb => by rw [upd_ne (ne_of_none hb (ex1.le.free hD))]; exact ex1.le b o hb, ex1.new⟩
        · rintro i m H' ⟨rfl, hi', F', acc, accO, g, rest, ex, hF', hFD, hHD, ra, gd, gD, el, ers⟩
          obtain ⟨hst, hgo⟩ := wk F' H' hF' ex.le i
          by_cases hlt : i < os.length
          · have ho : os[i]? = some os[i] := List.getElem?_eq_getElem hlt
            obtain ⟨go, hy⟩ := hgo _ ho
            have ed : os.drop i = os[i] :: os.drop (i + 1) := List.drop_eq_getElem_cons hlt
            rw [ed, lLc2] at el
            refine .inr ⟨go, fun H'' => i + 1 ≤ os.length ∧ ∃ F' acc accO g rest, Ext F H F' H'' ∧ Same F1 F' ∧ F' D = none ∧ H'' D = some (.lst acc) ∧ Reps K ct F' H'' accO acc g ∧ Gd false f H F' g ∧ g D = 0 ∧ lLc2 dg dc di1 dg1 dc1 de vs1 (wipeE ρ vs) (os.drop (i + 1)) = some rest ∧ rs = accO ++ rest,
              fun H'' n => ⟨os.length - (i + 1), by omega, rfl, n.1, n.2⟩, fun x H3 y => ?_⟩
            obtain ⟨F3, ex3, r3⟩ := hy x H3 y
            cases e1 : dg os[i] (wipeE ρ vs) with
            | none => rw [e1] at el; cases el
            | some ρ1 =>
              rw [e1] at el
              dsimp only at el
              have s3 := (s.ext ex).ext ex3
              obtain ⟨fw, rw_, lw⟩ := s3.rep.wipe vs
              have wf3 : Wf F3 H3 fw := s3.wf.sub lw
              refine hg _ _ _ _ ⟨F3, wipeE ρ vs, fw, zf, os[i], ρ1, ⟨wf3, rw_⟩, r3, wf3.sub fun a => (by show fw a + zf a ≤ fw a; simp [zf]), e1, fun σ2 f2 rs2 l2 p2 => ⟨wipe_same p2, ?_⟩⟩
              have s2 : Sit K ct F3 H3 ρ1 σ2 f2 := ⟨wf3.sub fun a => by have := l2 a; simpa [zf] using this, rs2⟩
              have f2D : f2 D = 0 := by
                have t1 := l2 D
                have t2 := lw D
                rw [fD] at t2
                have t3 : fw D + zf D = fw D := by simp [zf]
                omega
              have exA := ex.trans ex3
              have own3 : ∀ {F5 H5 : Hp}, Ext F3 H3 F5 H5 → F5 D = none ∧ H5 D = some (.lst acc) := fun {F5 H5} e5 => by
                have hH5 : H5 D = some (.lst acc) := e5.hH D _ (ex3.hH D _ hHD)
                refine ⟨none_of_nn fun z => ?_, hH5⟩
                rcases (ex3.trans e5).new D z with y | y
                · exact y hFD
                · rw [hHD] at y; cases y
              have gd4 : ∀ {F5 H5 : Hp}, Ext F3 H3 F5 H5 → Gd false f H F5 g := fun {F5 H5} e5 => by
                obtain ⟨n1, n2, n3⟩ := gd.n
                refine Gd.mkn n1 n2 fun a z => none_of_nn fun w => ?_
                rcases (ex3.trans e5).new a w with w | w
                · exact w (n3 a z)
                · obtain ⟨u, hu, _⟩ := ra.mem a z
                  rw [w] at hu; cases hu
              cases e2 : dc ρ1 with
              | none => rw [e2] at el; cases el
              | some b =>
                rw [e2] at el
                refine ht _ _ _ ⟨F3, ρ1, f2, b, s2, e2, fun F4 H4 ex4 => ?_⟩
                cases b with
                | false =>
                  refine iteF ?_
                  obtain ⟨d1, d2⟩ := own3 ex4
                  have ex4' := exA.trans ex4
                  exact ⟨hlt, F4, acc, accO, g, rest, ex4', hF'.trans (ex3.hF.trans ex4.hF), d1, d2, (ra.ext ex3).ext ex4, gd4 ex4, gD, el, ers⟩
                | true =>
                  refine iteT ?_
                  dsimp only at el
                  cases e3 : di1 ρ1 with
                  | none => rw [e3] at el; cases el
                  | some os1 =>
                    rw [e3] at el
                    dsimp only at el
                    cases e4 : lLc dg1 dc1 de (wipeE ρ1 vs1) os1 with
                    | none => rw [e4] at el; cases el
                    | some r1 =>
                      rw [e4] at el
                      dsimp only at el
                      cases e5 : lLc2 dg dc di1 dg1 dc1 de vs1 (wipeE ρ vs) (os.drop (i + 1)) with
                      | none => rw [e5] at el; cases el
                      | some rest' =>
                        rw [e5] at el
                        cases el
                        refine hi1 _ _ _ ⟨F4, ρ1, f2, os1, s2.ext ex4, e3, fun J1 F5 H5 ex5 wk1 => ?_⟩
                        have ex45 := ex4.trans ex5
                        obtain ⟨d1, d2⟩ := own3 ex45
                        refine ⟨fun j k H' => k = os1.length - j ∧ j ≤ os1.length ∧ ∃ F' acc accO g restI, Ext F H F' H' ∧ Same F1 F' ∧ Same F5 F' ∧ F' D = none ∧ H' D = some (.lst acc) ∧ Reps K ct F' H' accO acc g ∧ Gd false f H F' g ∧ g D = 0 ∧ Sit K ct F' H' ρ1 σ2 f2 ∧ lLc dg1 dc1 de (wipeE ρ1 vs1) (os1.drop j) = some restI ∧ rs = accO ++ (restI ++ rest'),
                          ⟨os1.length, rfl, Nat.zero_le _, F5, acc, accO, g, r1, exA.trans ex45, hF'.trans (ex3.hF.trans ex45.hF), Same.refl _, d1, d2, ((ra.ext ex3).ext ex4).ext ex5, gd4 ex45, gD, (s2.ext ex4).ext ex5, e4, ers⟩, ?_⟩
                        clear ers ra gd gD gd4 own3 hHD hFD
                        rintro j k H6 ⟨rfl, hj', F6, acc, accO, g, restI, exB, hF6, hF56, d3, d4, ra, gd, gD, sB, elI, ers⟩
                        obtain ⟨hst1, hgo1⟩ := wk1 F6 H6 hF56 exB.le j
                        by_cases hlt1 : j < os1.length
                        · have ho1 : os1[j]? = some os1[j] := List.getElem?_eq_getElem hlt1
                          obtain ⟨go1, hy1⟩ := hgo1 _ ho1
                          have ed1 : os1.drop j = os1[j] :: os1.drop (j + 1) := List.drop_eq_getElem_cons hlt1
                          rw [ed1, lLc] at elI
                          refine .inr ⟨go1, fun H'' => j + 1 ≤ os1.length ∧ ∃ F' acc accO g restI, Ext F H F' H'' ∧ Same F1 F' ∧ Same F5 F' ∧ F' D = none ∧ H'' D = some (.lst acc) ∧ Reps K ct F' H'' accO acc g ∧ Gd false f H F' g ∧ g D = 0 ∧ Sit K ct F' H'' ρ1 σ2 f2 ∧ lLc dg1 dc1 de (wipeE ρ1 vs1) (os1.drop (j + 1)) = some restI ∧ rs = accO ++ (restI ++ rest'),
                            fun H'' n => ⟨os1.length - (j + 1), by omega, rfl, n.1, n.2⟩, fun x1 H7 y1 => ?_⟩
                          obtain ⟨F7, ex7, r7⟩ := hy1 x1 H7 y1
                          cases e6 : dg1 os1[j] (wipeE ρ1 vs1) with
                          | none => rw [e6] at elI; cases elI
                          | some ρ2 =>
                            rw [e6] at elI
                            dsimp only at elI
                            have s7 := sB.ext ex7
                            obtain ⟨fw1, rw1, lw1⟩ := s7.rep.wipe vs1
                            have wf7 : Wf F7 H7 fw1 := s7.wf.sub lw1
                            refine hg1 _ _ _ _ ⟨F7, wipeE ρ1 vs1, fw1, zf, os1[j], ρ2, ⟨wf7, rw1⟩, r7, wf7.sub fun a => (by show fw1 a + zf a ≤ fw1 a; simp [zf]), e6, fun σ3 f3 rs3 l3 p3 => ⟨wipe_same p3, ?_⟩⟩
                            have s8 : Sit K ct F7 H7 ρ2 σ3 f3 := ⟨wf7.sub fun a => by have := l3 a; simpa [zf] using this, rs3⟩
                            have exC := exB.trans ex7
                            have own7 : ∀ {F9 H9 : Hp}, Ext F7 H7 F9 H9 → F9 D = none ∧ H9 D = some (.lst acc) := fun {F9 H9} e9 => by
                              have hH9 : H9 D = some (.lst acc) := e9.hH D _ (ex7.hH D _ d4)
                              refine ⟨none_of_nn fun z => ?_, hH9⟩
                              rcases (ex7.trans e9).new D z with y | y
                              · exact y d3
                              · rw [d4] at y; cases y
                            have gd8 : ∀ {F9 H9 : Hp}, Ext F7 H7 F9 H9 → Gd false f H F9 g := fun {F9 H9} e9 => by
                              obtain ⟨n1, n2, n3⟩ := gd.n
                              refine Gd.mkn n1 n2 fun a z => none_of_nn fun w => ?_
                              rcases (ex7.trans e9).new a w with w | w
                              · exact w (n3 a z)
                              · obtain ⟨u, hu, _⟩ := ra.mem a z
                                rw [w] at hu; cases hu
                            cases e7 : dc1 ρ2 with
                            | none => rw [e7] at elI; cases elI
                            | some b1 =>
                              rw [e7] at elI
                              refine ht1 _ _ _ ⟨F7, ρ2, f3, b1, s8, e7, fun F8 H8 ex8 => ?_⟩
                              cases b1 with
                              | false =>
                                refine iteF ?_
                                obtain ⟨c1, c2⟩ := own7 ex8
                                exact ⟨hlt1, F8, acc, accO, g, restI, exC.trans ex8, hF6.trans (ex7.hF.trans ex8.hF), hF56.trans (ex7.hF.trans ex8.hF), c1, c2, (ra.ext ex7).ext ex8, gd8 ex8, gD, s7.ext ex8, elI, ers⟩
                              | true =>
                                refine iteT ?_
                                dsimp only at elI
                                cases e8 : de ρ2 with
                                | none => rw [e8] at elI; cases elI
                                | some r =>
                                  rw [e8] at elI
                                  dsimp only at elI
                                  cases e9 : lLc dg1 dc1 de (wipeE ρ1 vs1) (os1.drop (j + 1)) with
                                  | none => rw [e9] at elI; cases elI
                                  | some restJ =>
                                    rw [e9] at elI
                                    cases elI
                                    refine he _ _ _ ⟨F8, ρ2, f3, r, s8.ext ex8, e8, fun yv F9 H9 gy ex9 ry gdy => ?_⟩
                                    have ex89 := ex8.trans ex9
                                    obtain ⟨c1, c2⟩ := own7 ex89
                                    have exD := exC.trans ex89
                                    have ra9 := ((ra.ext ex7).ext ex8).ext ex9
                                    obtain ⟨n1, n2, n3⟩ := (gd8 ex89).n
                                    obtain ⟨y1', y2, y3⟩ := gdy.n
                                    have gyD : gy D = 0 := Classical.byContradiction fun z => by
                                      have := y2 D z
                                      rw [ex8.hH D _ (ex7.hH D _ d4)] at this; cases this
                                    have sep : ∀ a, g a ≠ 0 → gy a = 0 := fun a z => Classical.byContradiction fun w => by
                                      obtain ⟨u, hu, _⟩ := ra.mem a z
                                      have := y2 a w
                                      rw [(ex7.trans ex8).hH a _ hu] at this; cases this
                                    refine ⟨acc, c2, ?_, hlt1, F9, acc ++ [yv], accO ++ [r], fun a => g a + gy a, restJ, ?_, hF6.trans (ex7.hF.trans ex89.hF), hF56.trans (ex7.hF.trans ex89.hF), c1, upd_same, ?_, Gd.mkn (fun a => ?_) (fun a z => ?_) (fun a z => ?_), by simp [gD, gyD], (s7.ext ex89).upd_other f2D c1, rfl, by rw [ers, List.append_assoc]; rfl⟩
                                    · have : rs.length = accO.length + (restJ.length + 1 + rest'.length) := by rw [ers]; simp only [List.length_append, List.length_cons]
                                      rw [← ra.length]; omega
                                    · exact ⟨exD.hF, fun b o hb => by rw [upd_ne (ne_of_none hb hD0)]; exact exD.hH b o hb, fun b o hb => by rw [upd_ne (ne_of_none hb c1)]; exact exD.le b o hb, exD.new⟩
                                    · have ag : ∀ b, g b ≠ 0 → (upd H9 D (.lst (acc ++ [yv]))) b = H9 b := fun b z => upd_ne fun w => by subst w; exact z gD
                                      have ag2 : ∀ b, gy b ≠ 0 → (upd H9 D (.lst (acc ++ [yv]))) b = H9 b := fun b z => upd_ne fun w => by subst w; exact z gyD
                                      exact Reps.app (Reps.mono (Same.refl _) ag ra9) (Reps.one (Rep.mono (Same.refl _) ag2 ry))
                                    · have t1 := n1 a
                                      have t2 := y1' a
                                      have t3 := sep a
                                      show g a + gy a ≤ 1
                                      omega
                                    · by_cases w : g a = 0
                                      · exact (exC.trans ex8).hH.free (y2 a (by have z' : g a + gy a ≠ 0 := z; omega))
                                      · exact n2 a w
                                    · by_cases w : g a = 0
                                      · exact y3 a (by have z' : g a + gy a ≠ 0 := z; omega)
                                      · exact n3 a w
                        · have ei : j = os1.length := by omega
                          subst ei
                          rw [List.drop_length] at elI
                          cases elI
                          exact .inl ⟨hst1 (Nat.le_refl _), hlt, F6, acc, accO, g, rest', exB, hF6, d3, d4, ra, gd, gD, rfl, ers⟩
          · have ei : i = os.length := by omega
            subst ei
            rw [List.drop_length] at el
            cases el
            rw [List.append_nil] at ers
            subst ers
            obtain ⟨n1, n2, n3⟩ := gd.n
            refine .inl ⟨hst (Nat.le_refl _), q (.ref D) F' H' (bump D g) ex ⟨D, acc, g, rfl, hHD, ra, rfl⟩ (Gd.mkn (fun a => ?_) (fun a z => ?_) fun a z => ?_)⟩
            · by_cases y : a = D
              · subst y; simp [bump, gD]
              · have := n1 a; simp [bump, y, this]
            · by_cases y : a = D
              · subst y; exact hD0
              · exact n2 a (by simpa [bump, y] using z)
            · by_cases y : a = D
              · subst y; exact hFD
              · exact n3 a (by simpa [bump, y] using z)
      · cases e
    · cases e
  · cases e
theorem sx_lc2 (own : List (Str × Nat)) (vs1 : List Nat) (hc : X.calm = true) (hN : X.N.Nodup) (hi : SI ct X tg iter di) (ok : BlkOk X.N X.env.scope scope own) (hv : ∀ i, i ∈ vs1 → i ∈ own.map (·.2))
    (hg : ∀ (s : Shared) (H : Hp) (C : Addr) (cl : List (Str × Addr)) (fp : List Addr), SG ct (X.blk s H scope (compEnvC scope cl C X.env) fp) (pnOf (own.map (·.2))) tg dg)
    (ht : ∀ (s : Shared) (H : Hp) (C : Addr) (cl : List (Str × Addr)) (fp : List Addr), STs ct (X.blk s H scope (compEnvC scope cl C X.env) fp) ifs dc)
    (hi1 : ∀ (s : Shared) (H : Hp) (C : Addr) (cl : List (Str × Addr)) (fp : List Addr), SI ct (X.blk s H scope (compEnvC scope cl C X.env) fp) tg1 iter1 di1)
    (hg1 : ∀ (s : Shared) (H : Hp) (C : Addr) (cl : List (Str × Addr)) (fp : List Addr), SG ct (X.blk s H scope (compEnvC scope cl C X.env) fp) (pnOf vs1) tg1 dg1)
    (ht1 : ∀ (s : Shared) (H : Hp) (C : Addr) (cl : List (Str × Addr)) (fp : List Addr), STs ct (X.blk s H scope (compEnvC scope cl C X.env) fp) ifs1 dc1)
    (he : ∀ (s : Shared) (H : Hp) (C : Addr) (cl : List (Str × Addr)) (fp : List Addr), SX ct (X.blk s H scope (compEnvC scope cl C X.env) fp) false elt de) (hs : ∀ x, foldedSetIterable iter X.env x = pure x := by intro _; rfl) (hs1 : ∀ (env : PySem.Env) x, foldedSetIterable iter1 env x = pure x := by intro _ _; rfl) :
    SX ct X false (.ListComp elt [⟨tg, iter, ifs, 0⟩, ⟨tg1, iter1, ifs1, 0⟩] scope pos) (dLc2 di dg dc di1 dg1 dc1 de (own.map (·.2)) vs1) :=
  PE.imp (pe_lc2 (own := own) (vs1 := vs1) (wi := tI ct X.K di) (g := tGt ct X.K (pnOf (List.map Prod.snd own)) dg) (tt := tT ct X.K dc) (wi1 := tI ct X.K di1) (g1 := tGt ct X.K (pnOf vs1) dg1) (tt1 := tT ct X.K dc1) (te := tX ct X.K false de) hc hN hi ok hv hg ht hi1 hg1 ht1 he hs hs1) fun σ H Q h => lc2_go _ _ (fun _ _ _ z => z) (fun _ _ _ _ z => z) (fun _ _ _ z => z) (fun _ _ _ z => z) (fun _ _ _ _ z => z) (fun _ _ _ z => z) (fun _ _ _ z => z) h
end
end Mini
namespace Mini
open PySem PySem.Spec PyProof.Rows L2
/-! reversed(range(n)), del xs[i] -/
noncomputable def dRevR (da : Env → Option O) : Env → Option (List O) := fun ρ => match da ρ with
  | some (.int j) => if rOk j = true then some (rngsD (j - 1) j.toNat) else none
  | _ => none
section
variable {ct : Nat → Addr} {X : Cx} {tg a : Expr} {da : Env → Option O} {k : Bool}
theorem si_revR1 {p pos p2 pos2 : Pos} (hr : X.mg "reversed" = none) (hm : X.mg "range" = none) (ha : SX ct X k a da) (hgr : Gl X "reversed" := by rfl) (hg : Gl X "range" := by rfl) (na : starEach [a] X.env = (false, eval a X.env) :: starEach [] X.env := by rfl)
    (hs : starEach [.Call (.Name "range" p) [a] [] pos] X.env = (false, eval (.Call (.Name "range" p) [a] [] pos) X.env) :: starEach [] X.env := by rfl) :
    SI ct X tg (.Call (.Name "reversed" p2) [.Call (.Name "range" p) [a] [] pos] [] pos2) (dRevR da) := by
  refine PI.imp (pi_revR hgr hr (prg_1 hg hm ha na) hs) fun σ H R h => ?_
  obtain ⟨F, ρ, f, os, s, e, q⟩ := h
  unfold dRevR at e
  split at e
  · rename_i j ej
    split at e
    · rename_i hj
      cases e
      refine ⟨F, ρ, f, _, s, ej, fun v F1 H1 g ex r gd => ?_⟩
      obtain ⟨rfl, _⟩ := r
      obtain ⟨b1, b2⟩ := rOk_b hj
      refine ⟨j, rfl, by decide, by decide, b1, b2, ?_⟩
      rw [show (j - 0) = j by omega]
      by_cases hp : 0 ≤ j
      · rw [show (0 : Int) + ((j.toNat : Nat) : Int) - 1 = j - 1 by omega]
        exact q _ F1 H1 ex walks_c
      · have z : j.toNat = 0 := by omega
        rw [z]
        have w := q (Itc (0 + ((0 : Nat) : Int) - 1) (-1) 0) F1 H1 ex (by
          rw [z]
          exact walks_c (lo := 0 + ((0 : Nat) : Int) - 1) (n := 0))
        exact w
    · cases e
  · cases e
end
section
variable {ct : Nat → Addr} {X : Cx} {pn : Nat → Bool} {W : WX} {ie : Expr} {di : Env → Option O} {pos p1 p2 : Pos} {k : Bool}
def dDelI (i : Nat) (di : Env → Option O) : Env → Option Out := fun ρ => match look ρ i with
  | some (.lst true os) => match di ρ with
    | some (.int j) => if isFzs os = true ∧ 0 ≤ j ∧ j < os.length ∧ j < 4611686018427387904 then some (.nx (ρ.set i (some (.lst true (os.eraseIdx j.toNat))))) else none
    | _ => none
  | _ => none
theorem Reps.eraseZ {K : PySem.W.Frag} {F H : Hp} {os : List O} {vs : List V} {f : Fp} (n : Nat) (z : isFzs os = true) (h : Reps K ct F H os vs f) : Reps K ct F H (os.eraseIdx n) (vs.eraseIdx n) zf := by
  rw [List.eraseIdx_eq_take_drop_succ, List.eraseIdx_eq_take_drop_succ]
  have t := (h.takeZ n z).1
  have d := (h.dropZ (n + 1) z).1
  have := Reps.app t d
  exact this
theorem seqIx_nn {j : Int} {n : Nat} (h0 : 0 ≤ j) (h1 : j < n) : seqIndex? j n = some j.toNat := by
  unfold seqIndex?
  have n0 : ¬ j < 0 := by omega
  simp only [if_neg n0]
  rw [if_pos (by simp [h0, h1])]
theorem ss_delI (i : Nat) {x : Str} (hi : SX ct X k ie di) (hN : X.N[i]? = some x := by rfl) (hv : Vis X.env.scope x := by first | exact Or.inl rfl | exact Or.inr (Or.inl rfl) | exact Or.inr (Or.inr rfl)) (hd : (x == ("__debug__" : Str)) = false := by decide)
    (hcd : (x == ("__classdict__" : Str)) = false := by decide) : SS ct X pn W (.Delete [.Subscript (.Name x p1) ie p2] pos) (dDelI i di) := by
  refine PS.imp (ps_delL (pe_var hN hv hd hcd) hi) fun D σ H h => ?_
  obtain ⟨F, ρ, f, out, s, e, q⟩ := h
  unfold dDelI at e
  split at e
  · rename_i os eo
    split at e
    · rename_i j ei
      split at e
      · rename_i hj
        obtain ⟨hz, h0, h1, h2⟩ := hj
        cases e
        obtain ⟨v, g, ev, r, l⟩ := s.rep.get eo
        refine ⟨v, ev, F, ρ, f, .int j, s, ei, fun iv F2 H2 g2 ex2 ri gd2 => ?_⟩
        obtain ⟨rfl, _⟩ := ri
        have st2 := ex2.stp s.wf s.rep.mem (Gd.zero (k := false) (f := f))
        obtain ⟨a, xs, g0, ev', ha', rs', z1, z2, lg, wr⟩ := SRep.wlist st2.wf (s.ext ex2).rep eo
        rw [ev] at ev'
        cases ev'
        have hl : xs.length = os.length := rs'.length.symm
        refine ⟨a, xs, j, j.toNat, rfl, rfl, ha', by omega, by omega, by rw [hl]; exact seqIx_nn h0 h1, ?_⟩
        have rz : Reps X.K ct F2 H2 os xs zf := by have := rs'.fz0 hz; subst this; exact rs'
        have rr := Reps.mono (H' := upd H2 a (.lst (xs.eraseIdx j.toNat))) (Same.refl _) (fun b z => absurd rfl z) (Reps.eraseZ j.toNat hz rz)
        obtain ⟨f', sr, st3⟩ := wr _ _ zf rr (fun b => Nat.zero_le _)
        exact q σ F2 _ f' (st2.trans st3) sr Pin.refl
      · cases e
    · cases e
  · cases e
end
end Mini
namespace Mini
open PySem PySem.Spec PyProof.Rows L2
/-! zip of two lists or of two tuples -/
def zipO : List O → List O → List O
  | x :: xs, y :: ys => .tup [x, y] :: zipO xs ys
  | _, _ => []
theorem zipO_len : ∀ xs ys : List O, (zipO xs ys).length = min xs.length ys.length
  | [], ys => by rw [zipO]; simp; intros; contradiction
  | x :: xs, [] => by rw [zipO]; simp; intros; contradiction
  | x :: xs, y :: ys => by rw [zipO, List.length_cons, List.length_cons, List.length_cons, zipO_len xs ys]; omega
theorem zipO_at : ∀ {xs ys : List O} {i : Nat} {o : O}, (zipO xs ys)[i]? = some o → ∃ x y, xs[i]? = some x ∧ ys[i]? = some y ∧ o = .tup [x, y]
  | [], ys, i, o, h => by simp [zipO] at h
  | x :: xs, [], i, o, h => by simp [zipO] at h
  | x :: xs, y :: ys, 0, o, h => by
    rw [zipO] at h
    simp at h
    exact ⟨x, y, rfl, rfl, h.symm⟩
  | x :: xs, y :: ys, i + 1, o, h => by
    rw [zipO, List.getElem?_cons_succ] at h
    obtain ⟨x', y', h1, h2, h3⟩ := zipO_at h
    exact ⟨x', y', by rw [List.getElem?_cons_succ]; exact h1, by rw [List.getElem?_cons_succ]; exact h2, h3⟩
def dZip (d : Env → Option (List O)) : Env → Option (List O) := fun ρ => match d ρ with
  | some [.tup xs, .tup ys] => if (isFzs xs && isFzs ys) = true then some (zipO xs ys) else none
  | some [.lst false xs, .lst false ys] => some (zipO xs ys)
  | _ => none
theorem new_pair {K : PySem.W.Frag} {ct : Nat → Addr} {F2 H2 : Hp} (h2 : Same F2 H2) {x y : O} {v v' : V} (rv : Rep K ct F2 H2 x v zf) (rv' : Rep K ct F2 H2 y v' zf) {T : Addr} (nT : H2 T = none) : ∃ F3, Ext F2 H2 F3 (upd H2 T (.tup [v, v'])) ∧ Rep K ct F3 (upd H2 T (.tup [v, v'])) (.tup [x, y]) (.ref T) zf := by
  have hFT : F2 T = none := h2.free nT
  have e2 : Ext F2 H2 (upd F2 T (.tup [v, v'])) (upd H2 T (.tup [v, v'])) := by
    refine ⟨fun b o hb => by rw [upd_ne (ne_of_none hb hFT)]; exact hb, fun b o hb => by rw [upd_ne (ne_of_none hb nT)]; exact hb, fun b o hb => ?_, fun a ha => ?_⟩
    · by_cases y : b = T
      · subst y; rw [upd_same] at hb ⊢; exact hb
      · rw [upd_ne y] at hb ⊢; exact h2 b o hb
    · by_cases y : a = T
      · subst y; exact .inr nT
      · rw [upd_ne y] at ha; exact .inl ha
  refine ⟨_, e2, T, [v, v'], rfl, .inl (.inl upd_same), v, [v'], zf, zf, rfl, rv.ext e2, Reps.one (rv'.ext e2), by funext a; simp [zf]⟩
theorem walks_zT {K : PySem.W.Frag} {ct : Nat → Addr} {oa ob : List O} {F : Hp} {p q : Addr} {xs ys : List V} (sa : SqT K F p xs) (sb : SqT K F q ys) (ra : ∀ F2 H2, Same F F2 → Reps K ct F2 H2 oa xs zf) (rb : ∀ F2 H2, Same F F2 → Reps K ct F2 H2 ob ys zf) : Walks K ct (RZ.ItzT K p q) (zipO oa ob) F := fun F2 H2 h1 h2 i => by
  have sa2 : SqT K H2 p xs := Same.seqT h2 (Same.seqT h1 sa)
  have sb2 : SqT K H2 q ys := Same.seqT h2 (Same.seqT h1 sb)
  have ra2 := ra F2 H2 h1
  have rb2 := rb F2 H2 h1
  refine ⟨fun hi => ⟨xs, ys, sa2, sb2, by rw [zipO_len, ra2.length, rb2.length] at hi; omega⟩, fun o ho => ?_⟩
  obtain ⟨x, y, ex, ey, rfl⟩ := zipO_at ho
  obtain ⟨v, g, e1, rv, l⟩ := ra2.at ex
  obtain ⟨v', g', e1', rv', l'⟩ := rb2.at ey
  refine ⟨⟨xs, ys, v, v', sa2, sb2, e1, e1'⟩, fun z H3 hz => ?_⟩
  obtain ⟨T, x', y', rfl, nT, rfl, hx, hy⟩ := hz
  have t1 := hx xs sa2
  have t2 := hy ys sb2
  rw [e1] at t1
  rw [e1'] at t2
  cases t1
  cases t2
  have gz : g = zf := by funext a; exact Nat.le_zero.mp (l a)
  have gz' : g' = zf := by funext a; exact Nat.le_zero.mp (l' a)
  subst gz gz'
  exact new_pair h2 rv rv' nT
theorem walks_zL {K : PySem.W.Frag} {ct : Nat → Addr} {oa ob : List O} {F : Hp} {p q : Addr} {xs ys : List V} (sa : SqL K F p xs) (sb : SqL K F q ys) (ra : ∀ F2 H2, Same F F2 → Reps K ct F2 H2 oa xs zf) (rb : ∀ F2 H2, Same F F2 → Reps K ct F2 H2 ob ys zf) : Walks K ct (Itz K p q) (zipO oa ob) F := fun F2 H2 h1 h2 i => by
  have sa2 : SqL K H2 p xs := Same.seq h2 (Same.seq h1 sa)
  have sb2 : SqL K H2 q ys := Same.seq h2 (Same.seq h1 sb)
  have ra2 := ra F2 H2 h1
  have rb2 := rb F2 H2 h1
  refine ⟨fun hi => ⟨xs, ys, sa2, sb2, by rw [zipO_len, ra2.length, rb2.length] at hi; omega⟩, fun o ho => ?_⟩
  obtain ⟨x, y, ex, ey, rfl⟩ := zipO_at ho
  obtain ⟨v, g, e1, rv, l⟩ := ra2.at ex
  obtain ⟨v', g', e1', rv', l'⟩ := rb2.at ey
  refine ⟨⟨xs, ys, v, v', sa2, sb2, e1, e1'⟩, fun z H3 hz => ?_⟩
  obtain ⟨T, x', y', rfl, nT, rfl, hx, hy⟩ := hz
  have t1 := hx xs sa2
  have t2 := hy ys sb2
  rw [e1] at t1
  rw [e1'] at t2
  cases t1
  cases t2
  have gz : g = zf := by funext a; exact Nat.le_zero.mp (l a)
  have gz' : g' = zf := by funext a; exact Nat.le_zero.mp (l' a)
  subst gz gz'
  exact new_pair h2 rv rv' nT
section
variable {ct : Nat → Addr} {X : Cx} {a b : Expr} {ds : Env → Option (List O)} {p pos tpos : Pos} {elts : List Expr} {kk : Nat}
theorem si_zip (hm : X.mg "zip" = none) (ha : SA ct X [true, true] [a, b] ds) (hg : Gl X "zip" := by rfl) (he : starEach [a, b] X.env = (false, eval a X.env) :: starEach [b] X.env := by rfl) (hp : (backTo pos (starEach [b] X.env)).any (·.1) = false := by rfl) : SI ct X (.Tuple elts kk tpos) (.Call (.Name "zip" p) [a, b] [] pos) (dZip ds) := by
  refine PI.imp (RZ.pi_zipA hg hm ha he hp) fun σ H R h => ?_
  obtain ⟨F, ρ, f, os, s, e, q⟩ := h
  unfold dZip at e
  split at e
  · rename_i xs ys ej
    split at e
    · rename_i z
      cases e
      rw [Bool.and_eq_true] at z
      refine ⟨F, ρ, f, _, s, ej, fun vs F1 H1 gb gv ex r hb hv => ?_⟩
      obtain ⟨v, vr, g, h, rfl, r1, ⟨v', vr', g', h', rfl, r2, ⟨rfl, rfl, rfl⟩, rfl⟩, rfl⟩ := r
      obtain ⟨p1, x1, rfl, sq1, rs1⟩ := r1
      obtain ⟨p2, x2, rfl, sq2, rs2⟩ := r2
      have gz1 := rs1.fz0 z.1
      have gz2 := rs2.fz0 z.2
      subst gz1 gz2
      exact ⟨p1, p2, x1, x2, rfl, .inr ⟨Same.seqT ex.le sq1, Same.seqT ex.le sq2, q _ F1 H1 ex (walks_zT sq1 sq2 (fun F2 H2 hh => Reps.mono hh (fun a z => absurd rfl z) rs1) (fun F2 H2 hh => Reps.mono hh (fun a z => absurd rfl z) rs2))⟩⟩
    · cases e
  · rename_i xs ys ej
    cases e
    refine ⟨F, ρ, f, _, s, ej, fun vs F1 H1 gb gv ex r hb hv => ?_⟩
    obtain ⟨v, vr, g, h, rfl, r1, ⟨v', vr', g', h', rfl, r2, ⟨rfl, rfl, rfl⟩, rfl⟩, rfl⟩ := r
    obtain ⟨p1, x1, rfl, sq1, rs1, rfl⟩ := r1
    obtain ⟨p2, x2, rfl, sq2, rs2, rfl⟩ := r2
    exact ⟨p1, p2, x1, x2, rfl, .inl ⟨Same.seq ex.le sq1, Same.seq ex.le sq2, q _ F1 H1 ex (walks_zL sq1 sq2 (fun F2 H2 hh => Reps.mono hh (fun a z => absurd rfl z) rs1) (fun F2 H2 hh => Reps.mono hh (fun a z => absurd rfl z) rs2))⟩⟩
  · cases e
end
end Mini
namespace Mini
open PySem PySem.Spec PyProof.Rows L2
/-- a new value, looked at as one that is never written again -/
def dNew (d : Env → Option O) : Env → Option O := fun ρ => match d ρ with
  | some o => some (frz o)
  | none => none
section
variable {ct : Nat → Addr} {X : Cx} {e : Expr} {d : Env → Option O}
theorem sx_new (he : SX ct X false e d) : SX ct X false e (dNew d) := by
  refine PE.imp he fun σ H Q h => ?_
  obtain ⟨F, ρ, f, o, s, e, q⟩ := h
  unfold dNew at e
  split at e
  · rename_i o' eo
    cases e
    refine ⟨F, ρ, f, o', s, eo, fun v F1 H1 g ex r gd => ?_⟩
    have gd' : Gd false zf H F1 g := by
      obtain ⟨n1, n2, n3⟩ := gd.n
      exact Gd.mkn n1 n2 n3
    obtain ⟨h1, h2⟩ := freeze (K := X.K) ex gd' r.mem
    exact q v _ H1 zf h2 (r.frz (H' := H1) h1 fun a z => if_pos z) Gd.zero
  · cases e
end
end Mini
namespace Mini
open PySem PySem.Spec PyProof.Rows L2
/-! instances of own classes: fields -/
def fldO (f : Str) : List Str → List O → Option O
  | n :: ns, o :: os => if f = n then some o else fldO f ns os
  | _, _ => none
def putN (f : Str) : List Str → List Str
  | [] => [f]
  | n :: ns => if n = f then n :: ns else n :: putN f ns
def putO (f : Str) (o : O) : List Str → List O → List O
  | n :: ns, x :: os => if n = f then o :: os else x :: putO f o ns os
  | _, _ => [o]
section
variable {ct : Nat → Addr} {K : PySem.W.Frag} {F H : Hp}
theorem Reps.fld {f : Str} {o : O} : ∀ {fs : List (Str × V)} {os : List O} {g : Fp}, Reps K ct F H os (fs.map (·.2)) g → fldO f (fs.map (·.1)) os = some o → ∃ v g', fs.lookup f = some v ∧ Rep K ct F H o v g' ∧ ∀ a, g' a ≤ g a
  | [], _, _, _, e => by simp [fldO] at e
  | (n, x) :: fs, [], _, _, e => by simp [fldO] at e
  | (n, x) :: fs, y :: os, g, h, e => by
    obtain ⟨v, vr, g1, l, ev, r, rs, ef⟩ := h
    cases ev
    have e : (if f = n then some y else fldO f (fs.map (·.1)) os) = some o := e
    by_cases q : f = n
    · subst q
      rw [if_pos rfl] at e
      cases e
      refine ⟨x, g1, by simp [List.lookup], r, fun a => by rw [ef]; exact Nat.le_add_right _ _⟩
    · rw [if_neg q] at e
      obtain ⟨v, g', e1, r', l'⟩ := Reps.fld rs e
      refine ⟨v, g', ?_, r', fun a => by rw [ef]; exact Nat.le_trans (l' a) (Nat.le_add_left _ _)⟩
      rw [List.lookup, show (f == n) = false from beq_eq_false_iff_ne.mpr q]
      exact e1
theorem Rep.inst {w : Bool} {c : Nat} {ns : List Str} {os : List O} {v : V} {f : Fp} (le : Same F H) (h : Rep K ct F H (.ins w c ns os) v f) : ∃ a dx fs g, v = .ref a ∧ H a = some (.ins (ct c) dx fs) ∧ ns = fs.map (·.1) ∧ Reps K ct F H os (fs.map (·.2)) g ∧ ∀ b, g b ≤ f b := by
  cases w with
  | false =>
    obtain ⟨a, dx, fs, e, s, en, r, ef⟩ := h
    exact ⟨a, dx, fs, zf, e, le _ _ s, en, r, fun _ => Nat.zero_le _⟩
  | true =>
    obtain ⟨a, dx, fs, g, e, s, en, r, ef⟩ := h
    exact ⟨a, dx, fs, g, e, s, en, r, fun b => by rw [ef]; exact Nat.le_add_left _ _⟩
theorem Reps.put {f : Str} {o : O} {y : V} {gy : Fp} (ry : Rep K ct F H o y gy) : ∀ {fs : List (Str × V)} {os : List O} {g : Fp}, Reps K ct F H os (fs.map (·.2)) g →
    ∃ g', Reps K ct F H (putO f o (fs.map (·.1)) os) ((putF f y fs).map (·.2)) g' ∧ (∀ a, g' a ≤ g a + gy a) ∧ putN f (fs.map (·.1)) = (putF f y fs).map (·.1)
  | [], os, g, h => by
    obtain ⟨v, hv⟩ : ∃ v, v = os := ⟨_, rfl⟩
    cases os with
    | nil => exact ⟨gy, Reps.one ry, fun a => Nat.le_add_left _ _, rfl⟩
    | cons x os =>
      obtain ⟨v, vr, g1, l, ev, _⟩ := h
      cases ev
  | (n, x) :: fs, [], g, h => by
    obtain ⟨e, _⟩ := h
    cases e
  | (n, x) :: fs, z :: os, g, h => by
    obtain ⟨v, vr, g1, l, ev, r, rs, ef⟩ := h
    cases ev
    by_cases q : n = f
    · subst q
      refine ⟨fun a => gy a + l a, ?_, fun a => by rw [ef]; show gy a + l a ≤ g1 a + l a + gy a; omega, ?_⟩
      · simp only [List.map_cons, putO, putF, if_pos rfl]
        exact ⟨y, _, gy, l, rfl, ry, rs, rfl⟩
      · simp [putN, putF]
    · obtain ⟨g', r', l', e'⟩ := Reps.put (f := f) ry rs
      refine ⟨fun a => g1 a + g' a, ?_, fun a => by rw [ef]; have := l' a; show g1 a + g' a ≤ g1 a + l a + gy a; omega, ?_⟩
      · simp only [List.map_cons, putO, putF, if_neg q]
        exact ⟨x, _, g1, g', rfl, r, r', rfl⟩
      · simp only [List.map_cons, putN, putF, if_neg q]
        rw [e']
end
def dFld (c : Nat) (f : Str) (d : Env → Option O) : Env → Option O := fun ρ => match d ρ with
  | some (.ins _ c' ns os) => if c' = c then fldO f ns os else none
  | _ => none
def dSetF (i c : Nat) (f : Str) (d : Env → Option O) : Env → Option Out := fun ρ => match d ρ with
  | some o => match look ρ i with
    | some (.ins true c' ns os) => if c' = c ∧ ns.length < 1000 then some (.nx (ρ.set i (some (.ins true c (putN f ns) (putO f o ns os))))) else none
    | _ => none
  | none => none
section
variable {ct : Nat → Addr} {X : Cx} {pn : Nat → Bool} {W : WX} {e value : Expr} {d : Env → Option O} {k : Bool} {pos pos' p1 : Pos}
theorem sx_fld (c : Nat) {f : Str} (C : Cls X.K (ct c)) (n : NoAttr X.K (ct c) f) (he : SX ct X k e d) (hb : attributeBase e f X.env (eval e X.env) = eval e X.env := by rfl) : SX ct X k (.Attribute e f pos) (dFld c f d) := by
  refine PE.imp (pe_fld he hb) fun σ H Q h => ?_
  obtain ⟨F, ρ, f', o, s, e, q⟩ := h
  unfold dFld at e
  split at e
  · rename_i w c' ns os eo
    split at e
    · rename_i hc
      subst hc
      refine ⟨F, ρ, f', _, s, eo, fun v F1 H1 g ex r gd => ?_⟩
      obtain ⟨a, dx, fs, g0, ev, ha, en, rs, l⟩ := Rep.inst ex.le r
      subst en
      obtain ⟨u, g1, e1, ru, l1⟩ := rs.fld e
      exact ⟨a, _, dx, fs, u, ev, ha, C, n, e1, q u F1 H1 g1 ex ru (gd.sub fun b => Nat.le_trans (l1 b) (l b))⟩
    · cases e
  · cases e
theorem ss_fld (i c : Nat) {x f : Str} (C : Cls X.K (ct c)) (n : NoAttr X.K (ct c) f) (he : SX ct X false value d) (hN : X.N[i]? = some x := by rfl) (hv : Vis X.env.scope x := by first | exact Or.inl rfl | exact Or.inr (Or.inl rfl) | exact Or.inr (Or.inr rfl)) (hd : (x == ("__debug__" : Str)) = false := by decide)
    (hcd : (x == ("__classdict__" : Str)) = false := by decide) (hs : swapsWith value (some (.Attribute (.Name x p1) f pos')) pos.line X.env = pure false := by rfl) :
    SS ct X pn W (.Assign [.Attribute (.Name x p1) f pos'] value pos) (dSetF i c f d) := by
  refine PS.imp (ps_fld (pe_var hN hv hd hcd) he hs) fun D σ H h => ?_
  obtain ⟨F, ρ, f', out, s, e, q⟩ := h
  unfold dSetF at e
  split at e
  · rename_i o ed
    split at e
    · rename_i c' ns os eo
      split at e
      · rename_i hc
        obtain ⟨hc, hlen⟩ := hc
        subst hc
        cases e
        refine ⟨F, ρ, f', o, s, ed, fun y F1 H1 gy ex ry gd => ?_⟩
        have st := ex.stp s.wf s.rep.mem gd
        obtain ⟨v, g, l, ev, r, ef, wr⟩ := SRep.write st.wf (s.ext ex).rep eo
        obtain ⟨a, dx, fs, g0, e1, ha, en, rs, eg⟩ := r
        subst e1 en
        refine ⟨.ref a, ev, a, _, dx, fs, rfl, ha, C, n, by simpa using hlen, ?_⟩
        have one := st.wf.one a
        have t : f' a + gy a ≤ 1 := one
        have fa : f' a = g a + l a := by rw [ef]
        have ga : g a = 1 + g0 a := by rw [eg]; simp [bump]
        have g0a : g0 a = 0 := by omega
        have gya : gy a = 0 := by omega
        obtain ⟨g', r', l', en'⟩ := Reps.put (f := f) ry rs
        have ag : ∀ b, g' b ≠ 0 → (upd H1 a (.ins (ct c') dx (putF f y fs))) b = H1 b := fun b z => upd_ne fun w => by
          subst w
          have := l' b
          omega
        have rall : Rep X.K ct F1 (upd H1 a (.ins (ct c') dx (putF f y fs))) (.ins true c' (putN f (fs.map (·.1))) (putO f o (fs.map (·.1)) os)) (.ref a) (bump a g') :=
          ⟨a, dx, putF f y fs, g', rfl, upd_same, en', Reps.mono (Same.refl _) ag r', rfl⟩
        obtain ⟨f2, sr, st2⟩ := wr a (.ins (ct c') dx (putF f y fs)) _ _ (by omega) rall (fun b => by
          have e1 : g b = (if b = a then 1 else 0) + g0 b := by rw [eg]; rfl
          have e2 := l' b
          show (if b = a then 1 else 0) + g' b ≤ g b + gy b
          omega)
        exact q σ F1 _ f2 (st.trans st2) sr Pin.refl
      · cases e
    · cases e
  · cases e
end
/-! methods and properties -/
structure FDM (P : Program) (w : World) (K : PySem.W.Frag) (mg : Str → Option Value) (base : Heap) (ct : Nat → Addr) (k c : Nat) (m : Str) (n : Nat) (Ff : Fn) : Prop where
  ex : ∃ f fd ps, ps.length = n ∧ FnOk P w K mg base CX0 k f fd ps (spF ct K n Ff) ∧ Meth K (ct c) m f ∧ Binds K fd ps []
structure FDP (P : Program) (w : World) (K : PySem.W.Frag) (mg : Str → Option Value) (base : Heap) (ct : Nat → Addr) (k c : Nat) (m : Str) (Ff : Fn) : Prop where
  ex : ∃ p g fd ps, ps.length = 1 ∧ FnOk P w K mg base CX0 k g fd ps (spF ct K 1 Ff) ∧ PropOf K (ct c) m p g ∧ Binds K fd ps []
def noFld (m : Str) : List Str → Bool
  | [] => true
  | n :: ns => !(m == n) && noFld m ns
theorem noFld_lookup {m : Str} : ∀ {fs : List (Str × V)}, noFld m (fs.map (·.1)) = true → fs.lookup m = none
  | [], _ => rfl
  | (n, x) :: fs, h => by
    rw [List.map_cons, noFld, Bool.and_eq_true] at h
    rw [List.lookup, show (m == n) = false by simpa using h.1]
    exact noFld_lookup h.2
def isObj (c : Nat) (m : Str) : O → Bool
  | .ins _ c' ns _ => decide (c' = c) && noFld m ns
  | _ => false
/-- o.m(..): a call with o ahead -/
def dMeth (c : Nat) (m : Str) (ks : List Bool) (Ff : Fn) (d : Env → Option O) (ds : Env → Option (List O)) : Env → Option O := fun ρ => match d ρ with
  | some o => if isObj c m o = true then dCall ks Ff (dCons d ds) ρ else none
  | none => none
def dProp (c : Nat) (k : Bool) (Ff : Fn) (d : Env → Option O) : Env → Option O := fun ρ => match d ρ with
  | some (.ins w c' ns os) => if c' = c then dCall [k] Ff (dCons d dNil) ρ else none
  | _ => none
section
variable {ct : Nat → Addr} {X : Cx} {pn : Nat → Bool} {W : WX} {e o : Expr} {es : List Expr} {d : Env → Option O} {ds : Env → Option (List O)} {k k2 : Bool} {ks : List Bool} {pos apos p : Pos} {Ff : Fn} {n kk : Nat}
/-- the object and the arguments together -/
theorem obj_args {F H : Hp} {ρ : Env} {σ : L2.St} {f : Fp} {oo : O} {os : List O} {Q : List V → Hp → Prop} (s : Sit X.K ct F H ρ σ f) (e2 : ds ρ = some os)
    (q : ∀ vs F' H' gb gv, Ext F H F' H' → ARep X.K ct F' H' (k :: ks) (oo :: os) vs gb gv → (∀ a, gb a ≠ 0 → f a ≠ 0) → Gd false f H F' gv → Q vs H') :
    Kn X.K ct k f F H oo (fun v H1 => (∃ F1 g, Same F1 H1 ∧ Rep X.K ct F1 H1 oo v g) ∧ tA ct X.K ks ds σ H1 fun vs H2 => Q (v :: vs) H2) := fun v F1 H1 g ex1 r1 gd1 => by
  refine ⟨⟨F1, g, ex1.le, r1⟩, F1, ρ, f, os, s.ext ex1, e2, fun vs F2 H2 gb gv ex2 r2 hb hv => ?_⟩
  obtain ⟨n1, n2, n3⟩ := hv.n
  have r1' := r1.ext ex2
  cases k with
  | true =>
    refine q (v :: vs) F2 H2 (fun a => g a + gb a) gv (ex1.trans ex2) ⟨v, vs, g, gb, rfl, r1', r2, rfl⟩ (fun a ha => ?_) (Gd.mkn n1 (fun a q => ex1.hH.free (n2 a q)) n3)
    by_cases z : g a = 0
    · exact hb a (by omega)
    · have := gd1.b a; omega
  | false =>
    obtain ⟨m1, m2, m3⟩ := gd1.n
    have sep : ∀ a, g a ≠ 0 → gv a = 0 := fun a z => by
      obtain ⟨u, hu, _⟩ := r1.mem a z
      by_cases w : gv a = 0
      · exact w
      · have := n2 a w; rw [hu] at this; cases this
    refine q (v :: vs) F2 H2 gb (fun a => g a + gv a) (ex1.trans ex2) ⟨v, vs, g, gv, rfl, r1', r2, rfl⟩ hb (Gd.mkn (fun a => ?_) (fun a z => ?_) fun a z => ?_)
    · have := m1 a; have := n1 a; have := sep a
      show g a + gv a ≤ 1
      omega
    · by_cases w : g a = 0
      · exact ex1.hH.free (n2 a (by have z' : g a + gv a ≠ 0 := z; omega))
      · exact m2 a w
    · by_cases w : g a = 0
      · exact n3 a (by have z' : g a + gv a ≠ 0 := z; omega)
      · obtain ⟨u, hu, _⟩ := r1.mem a w
        refine none_of_nn fun y => ?_
        rcases ex2.new a y with y | y
        · exact y (m3 a w)
        · rw [hu] at y; cases y
theorem isObj_ins {c : Nat} {m : Str} {oo : O} (h : isObj c m oo = true) : ∃ w ns os, oo = .ins w c ns os ∧ noFld m ns = true := by
  cases oo with
  | ins w c' ns os =>
    unfold isObj at h
    rw [Bool.and_eq_true] at h
    have e := of_decide_eq_true h.1
    subst e
    exact ⟨w, ns, os, rfl, h.2⟩
  | _ => cases h
theorem meth_go {t : TA} {te : TE} {c : Nat} {m : Str} (hn : (k :: ks).length = n) (hte : ∀ σ H Q, tX ct X.K k d σ H Q → te σ H Q) (ht : ∀ σ H Q, tA ct X.K ks ds σ H Q → t σ H Q) {σ : L2.St} {H : Hp} {Q : VK} (h : tX ct X.K false (dMeth c m (k :: ks) Ff d ds) σ H Q) : tMeth (ct c) m (spF ct X.K n Ff) [] E0 te t σ H Q := by
  obtain ⟨F, ρ, f, o, s, e, q⟩ := h
  unfold dMeth at e
  split at e
  · rename_i oo eo
    split at e
    · rename_i hob
      unfold dCall at e
      split at e
      · rename_i os eos
        obtain ⟨o1, os1, e1, e2, rfl⟩ := dCons_some eos
        rw [eo] at e1
        cases e1
        split at e
        · rename_i r fin er
          split at e
          · rename_i cc
            cases e
            refine hte _ _ _ ⟨F, ρ, f, oo, s, eo, fun v F1 H1 g ex r1 gd => ?_⟩
            have kn := obj_args (k := k) (ks := ks) (Q := fun vs H2 => spF ct X.K n Ff vs H2 Q E0) s e2 (fun vs F1 H1 gb gv ex ar hb hv => by
              obtain ⟨c1, c2, c3⟩ := call_back s.wf s.rep.mem ex ar hb hv cc q
              exact ⟨by rw [ar.len, hn], _, _, gv, _, fin, c1, c2, er, fun v F' H' g gf st r _ => c3 v F' H' g gf st r⟩) v F1 H1 g ex r1 gd
            obtain ⟨-, ta⟩ := kn
            obtain ⟨w, ns, qs, ei, nf⟩ := isObj_ins hob
            subst ei
            obtain ⟨a, dx, fs, g0, ev, ha, en, rs, l⟩ := Rep.inst ex.le r1
            subst en
            refine ⟨a, dx, fs, ev, ha, noFld_lookup nf, ht _ _ _ ?_⟩
            obtain ⟨F3, ρ3, f3, os3, s3, e3, q3⟩ := ta
            refine ⟨F3, ρ3, f3, os3, s3, e3, fun vs F' H' gb gv ex' ar hb hv => ?_⟩
            have := q3 vs F' H' gb gv ex' ar hb hv
            show spF ct X.K n Ff (v :: (vs ++ [])) H' Q E0
            rw [List.append_nil]
            exact this
          · cases e
        · cases e
      · cases e
    · cases e
  · cases e
theorem sx_meth {c : Nat} {m : Str} {k0 : Bool} {pl : Sem Bool} (D : FDM X.prog X.w X.K X.mg X.base ct kk c m n Ff) (C : Cls X.K (ct c)) (hr : Room kk X.A) (ho : SX ct X k o d) (ha : SA ct X (k0 :: ks) (e :: es) ds) (hn : (k :: k0 :: ks).length = n := by rfl)
    (hst : starEach (e :: es) X.env = (false, eval e X.env) :: starEach es X.env := by rfl) (hpl : (backTo pos (starEach es X.env)).any (·.1) = false := by rfl)
    (ht : eval (.Call (.Attribute o m apos) (e :: es) [] pos) X.env = (do
      let ov ← eval o X.env
      standAt apos.atName
      let (f, first) ← holding [ov] (getMethod ov m pl)
      callWith pos f first (backTo pos (starEach (e :: es) X.env)) (backToKw pos (keywordEach [] X.env))) := by rfl) :
    SX ct X false (.Call (.Attribute o m apos) (e :: es) [] pos) (dMeth c m (k :: k0 :: ks) Ff d ds) := by
  obtain ⟨f, fd, ps, hps, hF, hm, hb⟩ := D.ex
  exact PE.imp (pe_meth ho C hm hF hr hb .nil pass0 ha hst hpl ht) fun σ H Q h => meth_go hn (fun _ _ _ z => z) (fun _ _ _ z => z) h
theorem sx_meth0 {c : Nat} {m : Str} {pl : Sem Bool} (D : FDM X.prog X.w X.K X.mg X.base ct kk c m 1 Ff) (C : Cls X.K (ct c)) (hr : Room kk X.A) (ho : SX ct X k o d)
    (ht : eval (.Call (.Attribute o m apos) [] [] pos) X.env = (do
      let ov ← eval o X.env
      standAt apos.atName
      let (f, first) ← holding [ov] (getMethod ov m pl)
      callWith pos f first (backTo pos (starEach [] X.env)) (backToKw pos (keywordEach [] X.env))) := by rfl) :
    SX ct X false (.Call (.Attribute o m apos) [] [] pos) (dMeth c m [k] Ff d dNil) := by
  obtain ⟨f, fd, ps, hps, hF, hm, hb⟩ := D.ex
  refine PE.imp (pe_meth0 ho C hm hF hr hb .nil pass0 ht) fun σ H Q h => meth_go (ks := []) (by rfl) (fun _ _ _ z => z) (fun σ H Q h => ?_) h
  obtain ⟨F, ρ, f, os, s, e, q⟩ := h
  cases e
  exact q [] F H zf zf (Ext.refl s.wf.le) ⟨rfl, rfl, rfl⟩ (fun _ h => absurd rfl h) Gd.zero
theorem sx_prop {c : Nat} {m : Str} (D : FDP X.prog X.w X.K X.mg X.base ct kk c m Ff) (C : Cls X.K (ct c)) (hr : Room (kk + 1) X.A) (ho : SX ct X k o d) (hab : attributeBase o m X.env (eval o X.env) = eval o X.env := by rfl) :
    SX ct X false (.Attribute o m pos) (dProp c k Ff d) := by
  obtain ⟨p, g, fd, ps, hps, hF, hp, hb⟩ := D.ex
  refine PE.imp (pe_prop ho C hp hF hr hb .nil (pass0 (X := X.nox)) hab) fun σ H Q h => ?_
  obtain ⟨F, ρ, f, r, s, e, q⟩ := h
  unfold dProp at e
  split at e
  · rename_i w c' ns qs eo
    split at e
    · rename_i hc
      subst hc
      unfold dCall at e
      split at e
      · rename_i os eos
        obtain ⟨o1, os1, e1, e2, rfl⟩ := dCons_some eos
        rw [eo] at e1
        cases e1
        cases e2
        split at e
        · rename_i r' fin er
          split at e
          · rename_i cc
            cases e
            refine ⟨F, ρ, f, _, s, eo, fun v F1 H1 g1 ex r1 gd => ?_⟩
            obtain ⟨a, dx, fs, g0, ev, ha, en, rs, l⟩ := Rep.inst ex.le r1
            have kn := obj_args (k := k) (ks := []) (ds := dNil) (Q := fun vs H2 => spF ct X.K 1 Ff vs H2 Q E0) s rfl (fun vs F1 H1 gb gv ex ar hb hv => by
              obtain ⟨c1, c2, c3⟩ := call_back s.wf s.rep.mem ex ar hb hv cc q
              exact ⟨by rw [ar.len]; rfl, _, _, gv, _, fin, c1, c2, er, fun v F' H' g gf st r _ => c3 v F' H' g gf st r⟩) v F1 H1 g1 ex r1 gd
            obtain ⟨-, F3, ρ3, f3, os3, s3, e3, q3⟩ := kn
            cases e3
            have := q3 [] F3 H1 zf zf (Ext.refl s3.wf.le) ⟨rfl, rfl, rfl⟩ (fun _ h => absurd rfl h) Gd.zero
            rw [ev] at this
            exact ⟨a, dx, fs, ev, ha, this⟩
          · cases e
        · cases e
      · cases e
    · cases e
  · cases e
end
end Mini
namespace Mini
open PySem PySem.Spec PyProof.Rows L2
/-! making instances; methods that may raise -/
structure FDC (P : Program) (w : World) (K : PySem.W.Frag) (mg : Str → Option Value) (base : Heap) (ct : Nat → Addr) (k c : Nat) (x : Str) (n : Nat) (Ff : FnX) : Prop where
  ex : ∃ f fd ps, ps.length = n + 1 ∧ FnOk P w K mg base (L2.CX P w) k f fd ps (spX ct K (n + 1) Ff) ∧ Mk K (ct c) f ∧ mg x = some (.ref (ct c)) ∧ Binds K fd ps []
structure FDMX (P : Program) (w : World) (K : PySem.W.Frag) (mg : Str → Option Value) (base : Heap) (ct : Nat → Addr) (k c : Nat) (m : Str) (n : Nat) (Ff : FnX) : Prop where
  ex : ∃ f fd ps, ps.length = n ∧ FnOk P w K mg base (L2.CX P w) k f fd ps (spX ct K n Ff) ∧ Meth K (ct c) m f ∧ Binds K fd ps []
/-- C(..), which surely does not raise -/
def dMakeN (c : Nat) (ks : List Bool) (Ff : FnX) (ds : Env → Option (List O)) : Env → Option O := fun ρ => match ds ρ with
  | some os => match Ff (.ins true c [] [] :: views ks os) with
    | some (.ok .non fin) => match look fin 0 with
      | some o' => if (okb ks os || noFm o') = true then some o' else none
      | none => none
    | _ => none
  | none => none
def dMethN (c : Nat) (m : Str) (ks : List Bool) (Ff : FnX) (d : Env → Option O) (ds : Env → Option (List O)) : Env → Option O := fun ρ => match d ρ with
  | some o => if isObj c m o = true then dCallN ks Ff (dCons d ds) ρ else none
  | none => none
def dMethX (c : Nat) (m : Str) (ks : List Bool) (Ff : FnX) (d : Env → Option O) (ds : Env → Option (List O)) : Env → Option Rv := fun ρ => match d ρ with
  | some o => if isObj c m o = true then dCallX ks Ff (dCons d ds) ρ else none
  | none => none
section
variable {ct : Nat → Addr} {X : Cx} {pn : Nat → Bool} {W : WX} {e o : Expr} {es : List Expr} {d : Env → Option O} {ds : Env → Option (List O)} {k k2 : Bool} {ks : List Bool} {pos apos p : Pos} {Ff : FnX} {n kk : Nat} {x : Str}
theorem passN {X : Cx} : Passes (L2.CX X.prog X.w) X E0 := fun pins σ H s e s' I h => by
  obtain ⟨_, _, _, _, _, _, _, _, _, _, _, _, z⟩ := h
  exact z.elim
theorem sx_makeN {c : Nat} {k0 : Bool} (D : FDC X.prog X.w X.K X.mg X.base ct kk c x n Ff) (hr : Room (kk + 1) X.A) (ha : SA ct X (k0 :: ks) (e :: es) ds) (hn : (k0 :: ks).length = n := by rfl) (hg : Gl X x := by rfl) (hdb : (x == ("__debug__" : Str)) = false := by decide)
    (he : starEach (e :: es) X.env = (false, eval e X.env) :: starEach es X.env := by rfl) (hpl : (backTo pos (starEach es X.env)).any (·.1) = false := by rfl) : SX ct X false (.Call (.Name x p) (e :: es) [] pos) (dMakeN c (k0 :: ks) Ff ds) := by
  obtain ⟨f0, fd, ps, hps, hF, M, hm, hb⟩ := D.ex
  refine PE.imp (pe_make M hF hr hg hm hb .nil passN ha hdb he hpl) fun σ H Q h => ?_
  obtain ⟨F, ρ, f, r, s, e, q⟩ := h
  unfold dMakeN at e
  cases eos : ds ρ with
  | none => rw [eos] at e; cases e
  | some os =>
    rw [eos] at e
    dsimp only at e
    cases er : Ff (.ins true c [] [] :: views (k0 :: ks) os) with
    | none => rw [er] at e; cases e
    | some rr =>
      rw [er] at e
      cases rr with
      | er c' fin => cases e
      | ok r0 fin =>
        cases r0 with
        | non =>
          dsimp only at e
          cases ef : look fin 0 with
          | none => rw [ef] at e; cases e
          | some o' =>
            rw [ef] at e
            dsimp only at e
            split at e
            · rename_i cc
              cases e
              refine ⟨F, ρ, f, os, s, eos, fun vs F1 H1 gb gv ex ar hb' hv => fun a dx ha' hdx hne => ?_⟩
              obtain ⟨c1, c2, c3⟩ := call_back s.wf s.rep.mem ex ar hb' hv cc q
              generalize (fun a => if gb a ≠ 0 then H1 a else F1 a) = G at *
              have Ga : G a = none := none_of_nn fun w => by
                obtain ⟨u, hu⟩ := some_of_ne w
                have := c1.le a u hu
                rw [ha'] at this; cases this
              have hH2 : Same H1 (upd (upd H1 dx (.own a)) a (.ins (ct c) dx [])) := fun b u hu => by
                have n1 : b ≠ a := fun y => by rw [y, ha'] at hu; cases hu
                have n2 : b ≠ dx := fun y => by rw [y, hdx] at hu; cases hu
                rw [upd_ne n1, upd_ne n2]
                exact hu
              have ex2 : Ext G H1 G (upd (upd H1 dx (.own a)) a (.ins (ct c) dx [])) := ⟨Same.refl _, hH2, c1.le.trans hH2, fun b z => .inl z⟩
              have gd2 : Gd false zf H1 G (bump a zf) := Gd.mkn (fun b => by show (if b = a then 1 else 0) + 0 ≤ 1; split <;> omega) (fun b z => by
                by_cases y : b = a
                · subst y; exact ha'
                · exact absurd (by show (if b = a then 1 else 0) + 0 = 0; rw [if_neg y]) z) (fun b z => by
                by_cases y : b = a
                · subst y; exact Ga
                · exact absurd (by show (if b = a then 1 else 0) + 0 = 0; rw [if_neg y]) z)
              have st1 := (ex2.stp c1 (Reps.mem c2) gd2).sub (f1 := fun b => (bump a zf) b + gv b) fun b => by show _ ≤ gv b + (bump a zf) b; omega
              show spX ct X.K (n + 1) Ff (.ref a :: (vs ++ [])) _ _ E0
              rw [List.append_nil]
              have ag : ∀ b, gv b ≠ 0 → (upd (upd H1 dx (.own a)) a (.ins (ct c) dx [])) b = H1 b := fun b z => by
                obtain ⟨u, hu, _⟩ := Reps.mem c2 b z
                rw [hu]
                exact hH2 b u hu
              refine ⟨by rw [List.length_cons, ar.len, hn], G, .ins true c [] [] :: views (k0 :: ks) os, _, _, st1.wf, ⟨.ref a, vs, bump a zf, gv, rfl, ⟨a, dx, [], zf, rfl, upd_same, rfl, ⟨rfl, rfl⟩, rfl⟩, Reps.mono (Same.refl _) ag c2, rfl⟩, er, fun v F' H' g gf st rv sr => ?_⟩
              obtain ⟨rv1, -⟩ := rv
              obtain ⟨v3, g0, ev3, r3, l3⟩ := sr.get ef
              have e3 : v3 = .ref a := by simp at ev3; exact ev3.symm
              subst e3
              refine ⟨rv1, c3 (.ref a) F' H' g0 zf ((st1.trans st).sub fun b => ?_) r3⟩
              have := l3 b
              show g0 b + 0 ≤ g b + gf b
              omega
            · cases e
        | _ => cases e
/-- a method call, what is raised wished for at the caller's slots -/
def tMethAt (C : Addr) (m : Str) (sp : Sp) (E : L2.St → XK) (ta : TE) (t : TA) : TE := fun σ H Q => ta σ H fun x H1 => ∃ a dx fs, x = .ref a ∧ H1 a = some (.ins C dx fs) ∧ fs.lookup m = none ∧
  t σ H1 fun vs H2 => sp (x :: vs) H2 Q (E σ)
theorem pe_methAt {CX : CXT} {C f : Addr} {m : Str} {fd : FuncData} {ps : List Str} {sp : Sp} {E : L2.St → XK} {ta : TE} {t : TA} {pl : Sem Bool} (he : PE X o ta) (c : Cls X.K C) (hm : Meth X.K C m f) (F : FnOk X.prog X.w X.K X.mg X.base CX kk f fd ps sp) (hr : Room kk X.A) (hb : Binds X.K fd ps []) (hx : ∀ σ, PassesAt CX X σ (E σ)) (ha : PA X (e :: es) t)
    (hst : starEach (e :: es) X.env = (false, eval e X.env) :: starEach es X.env) (hpl : (backTo pos (starEach es X.env)).any (·.1) = false)
    (ht : eval (.Call (.Attribute o m apos) (e :: es) [] pos) X.env = (do
      let ov ← eval o X.env
      standAt apos.atName
      let (f, first) ← holding [ov] (getMethod ov m pl)
      callWith pos f first (backTo pos (starEach (e :: es) X.env)) (backToKw pos (keywordEach [] X.env)))) :
    PE X (.Call (.Attribute o m apos) (e :: es) [] pos) (tMethAt C m sp E ta t) := by
  refine ⟨fun pins s σ H Q I h => PySem.W.methodCall_KW (pl := pl) (thn (he.run pins s σ H _ I h) fun u s1 hu => ?_) ht⟩
  obtain ⟨x, H1, I1, rx, a, dx, fs, ex, ea, l, q⟩ := hu
  subst ex
  obtain rfl : u = Value.ref a := rx
  refine getmeth_ok I1 ea c hm l (PySem.W.callWith_K (first := [.ref a]) (h₀ := X.base) I.ok.mod.kin hm.kp (thn (ha.run pos pins s1 σ H1 _ I1 q) fun us s2 hu => ?_) hst hpl)
  obtain ⟨vs, H2, I2, r, q2⟩ := hu
  exact ⟨I2.kIn, run_fnS (us := .ref a :: us) (vs := .ref a :: vs) F hr hb (hx σ) I2 (.cons rfl r) q2⟩
/-- what the arguments of a call that may raise come to -/
theorem callX_args {F H : Hp} {ρ : Env} {σ : L2.St} {f : Fp} {os : List O} {r : Rv} {Q : VK} (hn : ks.length = n) (s : Sit X.K ct F H ρ σ f) (eos : ds ρ = some os) (e : dCallX ks Ff ds ρ = some r) (q : KR X.K ct W F H f σ r Q)
    (vs : List V) (F1 H1 : Hp) (gb gv : Fp) (ex : Ext F H F1 H1) (ar : ARep X.K ct F1 H1 ks os vs gb gv) (hb : ∀ a, gb a ≠ 0 → f a ≠ 0) (hv : Gd false f H F1 gv) : spX ct X.K n Ff vs H1 Q (WE W σ) := by
  unfold dCallX at e
  rw [eos] at e
  dsimp only at e
  cases er : Ff (views ks os) with
  | none => rw [er] at e; cases e
  | some rr =>
    rw [er] at e
    cases rr with
    | ok o fin =>
      dsimp only at e
      split at e
      · rename_i c
        cases e
        obtain ⟨c1, c2, c3⟩ := call_back s.wf s.rep.mem ex ar hb hv c (Kn.of_KR s q)
        exact ⟨by rw [ar.len, hn], _, _, gv, _, c1, c2, er, fun v F' H' g gf st r _ => c3 v F' H' g gf st r⟩
      · cases e
    | er c fin =>
      cases e
      obtain ⟨c1, c2, c3⟩ := call_back (r := .non) (Q := fun _ _ => True) s.wf s.rep.mem ex ar hb hv (by simp [noFm]) (fun _ _ _ _ _ _ _ => True.intro)
      refine ⟨by rw [ar.len, hn], _, _, gv, _, c1, c2, er, fun F' H' gf st _ => ?_⟩
      obtain ⟨n1, n2, n3⟩ := hv.n
      have hFc : Same F1 (fun a => if gb a ≠ 0 then H1 a else F1 a) := fun a u hu => by
        show (if gb a ≠ 0 then H1 a else F1 a) = some u
        by_cases z : gb a ≠ 0
        · rw [if_pos z]; exact ex.le a u hu
        · rw [if_neg z]; exact hu
      have hH : Same H H' := fun a o ho => by
        refine st.frame a o (ex.hH a o ho) (Classical.byContradiction fun z => ?_)
        rw [n2 a z] at ho; cases ho
      have e2 : Ext F H (fun a => if gb a ≠ 0 then none else F' a) H' := by
        refine ⟨fun a u hu => ?_, hH, fun a u hu => ?_, fun a z => ?_⟩
        · show (if gb a ≠ 0 then none else F' a) = some u
          rw [if_neg fun z => by rw [s.wf.dj a (hb a z)] at hu; cases hu]
          exact st.hF a u (hFc a u (ex.hF a u hu))
        · have hu' : (if gb a ≠ 0 then none else F' a) = some u := hu
          by_cases z : gb a ≠ 0
          · rw [if_pos z] at hu'; cases hu'
          · rw [if_neg z] at hu'; exact st.wf.le a u hu'
        · have z' : (if gb a ≠ 0 then none else F' a) ≠ none := z
          by_cases w : gb a ≠ 0
          · rw [if_pos w] at z'; exact absurd rfl z'
          · rw [if_neg w] at z'
            rcases st.new a (.inr z') with y | y | y
            · have y' : (if gb a ≠ 0 then H1 a else F1 a) ≠ none := y
              rw [if_neg w] at y'
              exact ex.new a y'
            · exact .inr (ex.hH.free y)
            · exact .inr (n2 a y)
      exact q _ H' f (e2.stp0 s.wf s.rep.mem) (s.ext e2).rep
theorem methX_go {t : TA} {te : TE} {c : Nat} {m : Str} (hn : (k :: ks).length = n) (hte : ∀ σ H Q, tX ct X.K k d σ H Q → te σ H Q) (ht : ∀ σ H Q, tA ct X.K ks ds σ H Q → t σ H Q) {σ : L2.St} {H : Hp} {Q : VK} (h : tR ct X.K W (dMethX c m (k :: ks) Ff d ds) σ H Q) : tMethAt (ct c) m (spX ct X.K n Ff) (WE W) te t σ H Q := by
  obtain ⟨F, ρ, f, r, s, e, q⟩ := h
  unfold dMethX at e
  cases eo : d ρ with
  | none => rw [eo] at e; cases e
  | some oo =>
    rw [eo] at e
    dsimp only at e
    split at e
    · rename_i hob
      cases e2 : ds ρ with
      | none =>
        unfold dCallX dCons at e
        rw [eo] at e
        dsimp only at e
        rw [e2] at e
        cases e
      | some os =>
        have eos : dCons d ds ρ = some (oo :: os) := by unfold dCons; rw [eo]; dsimp only; rw [e2]
        refine hte _ _ _ ⟨F, ρ, f, oo, s, eo, fun v F1 H1 g ex r1 gd => ?_⟩
        have kn := obj_args (k := k) (ks := ks) (Q := fun vs H2 => spX ct X.K n Ff vs H2 Q (WE W σ)) s e2 (fun vs F1 H1 gb gv ex ar hb hv => callX_args hn s eos e q vs F1 H1 gb gv ex ar hb hv) v F1 H1 g ex r1 gd
        obtain ⟨-, ta⟩ := kn
        obtain ⟨w, ns, qs, ei, nf⟩ := isObj_ins hob
        subst ei
        obtain ⟨a, dx, fs, g0, ev, ha, en, rs, l⟩ := Rep.inst ex.le r1
        subst en
        exact ⟨a, dx, fs, ev, ha, noFld_lookup nf, ht _ _ _ ta⟩
    · cases e
theorem sr_meth {c : Nat} {m : Str} {k0 : Bool} {pl : Sem Bool} (D : FDMX X.prog X.w X.K X.mg X.base ct kk c m n Ff) (C : Cls X.K (ct c)) (hr : Room kk X.A) (tk : Takes X W) (ho : SX ct X k o d) (ha : SA ct X (k0 :: ks) (e :: es) ds) (hn : (k :: k0 :: ks).length = n := by rfl)
    (hst : starEach (e :: es) X.env = (false, eval e X.env) :: starEach es X.env := by rfl) (hpl : (backTo pos (starEach es X.env)).any (·.1) = false := by rfl)
    (ht : eval (.Call (.Attribute o m apos) (e :: es) [] pos) X.env = (do
      let ov ← eval o X.env
      standAt apos.atName
      let (f, first) ← holding [ov] (getMethod ov m pl)
      callWith pos f first (backTo pos (starEach (e :: es) X.env)) (backToKw pos (keywordEach [] X.env))) := by rfl) :
    SR ct X W (.Call (.Attribute o m apos) (e :: es) [] pos) (dMethX c m (k :: k0 :: ks) Ff d ds) := by
  obtain ⟨f, fd, ps, hps, hF, hm, hb⟩ := D.ex
  exact PE.imp (pe_methAt ho C hm hF hr hb (fun σ => passAt tk σ) ha hst hpl ht) fun σ H Q h => methX_go hn (fun _ _ _ z => z) (fun _ _ _ z => z) h
theorem sx_methN {c : Nat} {m : Str} {k0 : Bool} {pl : Sem Bool} (D : FDMX X.prog X.w X.K X.mg X.base ct kk c m n Ff) (C : Cls X.K (ct c)) (hr : Room kk X.A) (ho : SX ct X k o d) (ha : SA ct X (k0 :: ks) (e :: es) ds) (hn : (k :: k0 :: ks).length = n := by rfl)
    (hst : starEach (e :: es) X.env = (false, eval e X.env) :: starEach es X.env := by rfl) (hpl : (backTo pos (starEach es X.env)).any (·.1) = false := by rfl)
    (ht : eval (.Call (.Attribute o m apos) (e :: es) [] pos) X.env = (do
      let ov ← eval o X.env
      standAt apos.atName
      let (f, first) ← holding [ov] (getMethod ov m pl)
      callWith pos f first (backTo pos (starEach (e :: es) X.env)) (backToKw pos (keywordEach [] X.env))) := by rfl) :
    SX ct X false (.Call (.Attribute o m apos) (e :: es) [] pos) (dMethN c m (k :: k0 :: ks) Ff d ds) := by
  obtain ⟨f, fd, ps, hps, hF, hm, hb⟩ := D.ex
  refine PE.imp (pe_methAt (E := fun _ => E0) ho C hm hF hr hb (fun σ pins H s e s' I h => ?_) ha hst hpl ht) fun σ H Q h => ?_
  · obtain ⟨_, _, _, _, _, _, _, _, _, _, _, _, z⟩ := h
    exact z.elim
  obtain ⟨F, ρ, f', r, s, e, q⟩ := h
  unfold dMethN at e
  cases eo : d ρ with
  | none => rw [eo] at e; cases e
  | some oo =>
    rw [eo] at e
    dsimp only at e
    split at e
    · rename_i hob
      unfold dCallN at e
      cases eos : dCons d ds ρ with
      | none => rw [eos] at e; cases e
      | some os1 =>
        rw [eos] at e
        dsimp only at e
        obtain ⟨o1, os, e1, e2, rfl⟩ := dCons_some eos
        rw [eo] at e1
        cases e1
        cases er : Ff (views (k :: k0 :: ks) (oo :: os)) with
        | none => rw [er] at e; cases e
        | some rr =>
          rw [er] at e
          cases rr with
          | er c' fin => cases e
          | ok r' fin =>
            dsimp only at e
            split at e
            · rename_i cc
              cases e
              refine ⟨F, ρ, f', oo, s, eo, fun v F1 H1 g ex r1 gd => ?_⟩
              have kn := obj_args (k := k) (ks := k0 :: ks) (Q := fun vs H2 => spX ct X.K n Ff vs H2 Q E0) s e2 (fun vs F1 H1 gb gv ex ar hb hv => by
                obtain ⟨c1, c2, c3⟩ := call_back s.wf s.rep.mem ex ar hb hv cc q
                exact ⟨by rw [ar.len, hn], _, _, gv, _, c1, c2, er, fun v F' H' g gf st r _ => c3 v F' H' g gf st r⟩) v F1 H1 g ex r1 gd
              obtain ⟨-, ta⟩ := kn
              obtain ⟨w, ns, qs, ei, nf⟩ := isObj_ins hob
              subst ei
              obtain ⟨a, dx, fs, g0, ev, ha', en, rs, l⟩ := Rep.inst ex.le r1
              subst en
              exact ⟨a, dx, fs, ev, ha', noFld_lookup nf, ta⟩
            · cases e
    · cases e
end
end Mini
namespace Mini
open PySem PySem.Spec PyProof.Rows L2 RT
/-! reversed(xs), xs.extend(ys) -/
def dRev (k : Bool) (d : Env → Option O) : Env → Option (List O) := fun ρ => match dIt k d ρ with
  | some os => some os.reverse
  | none => none
section
variable {ct : Nat → Addr}
theorem rev_at {α : Type} {os : List α} {i : Nat} {o : α} (h : os.reverse[i]? = some o) : i < os.length ∧ os[os.length - 1 - i]? = some o := by
  have hi : i < os.length := by
    have := (List.getElem?_eq_some_iff.mp h).1
    rwa [List.length_reverse] at this
  refine ⟨hi, ?_⟩
  rw [List.getElem?_reverse hi] at h
  exact h
theorem walks_lr {K : PySem.W.Frag} {os : List O} {F : Hp} {p : Addr} {xs : List V} (sq : SqL K F p xs) (r : ∀ F2 H2, Same F F2 → Reps K ct F2 H2 os xs zf) : Walks K ct (Itv K p xs.length) os.reverse F := fun F2 H2 h1 h2 i => by
  have sq2 : SqL K H2 p xs := Same.seq h2 (Same.seq h1 sq)
  have r2 := r F2 H2 h1
  have hl := r2.length
  refine ⟨fun hi => by rw [List.length_reverse] at hi; show xs.length ≤ i; omega, fun o ho => ?_⟩
  obtain ⟨hi, ho⟩ := rev_at ho
  obtain ⟨v, g, e1, rv, l⟩ := r2.at ho
  rw [hl] at e1 hi
  refine ⟨⟨hi, xs, v, sq2, e1⟩, fun x H3 hy => ?_⟩
  obtain ⟨eH, hy⟩ := hy
  subst eH
  have ex := hy xs sq2
  rw [e1] at ex
  cases ex
  have gz : g = zf := by funext a; exact Nat.le_zero.mp (l a)
  subst gz
  exact ⟨F2, Ext.refl h2, rv⟩
theorem walks_tr {K : PySem.W.Frag} {os : List O} {F : Hp} {p : Addr} {xs : List V} (sq : SqT K F p xs) (r : ∀ F2 H2, Same F F2 → Reps K ct F2 H2 os xs zf) : Walks K ct (ItvT K p xs.length) os.reverse F := fun F2 H2 h1 h2 i => by
  have sq2 : SqT K H2 p xs := Same.seqT h2 (Same.seqT h1 sq)
  have r2 := r F2 H2 h1
  have hl := r2.length
  refine ⟨fun hi => by rw [List.length_reverse] at hi; show xs.length ≤ i; omega, fun o ho => ?_⟩
  obtain ⟨hi, ho⟩ := rev_at ho
  obtain ⟨v, g, e1, rv, l⟩ := r2.at ho
  rw [hl] at e1 hi
  refine ⟨⟨hi, xs, v, sq2, e1⟩, fun x H3 hy => ?_⟩
  obtain ⟨eH, hy⟩ := hy
  subst eH
  have ex := hy xs sq2
  rw [e1] at ex
  cases ex
  have gz : g = zf := by funext a; exact Nat.le_zero.mp (l a)
  subst gz
  exact ⟨F2, Ext.refl h2, rv⟩
end
section
variable {ct : Nat → Addr} {X : Cx} {tg e : Expr} {d : Env → Option O} {k : Bool}
theorem si_rev {p pos : Pos} (hm : X.mg "reversed" = none) (he : SX ct X k e d) (hg : Gl X "reversed" := by rfl) (hs : starEach [e] X.env = (false, eval e X.env) :: starEach [] X.env := by rfl) : SI ct X tg (.Call (.Name "reversed" p) [e] [] pos) (dRev k d) := by
  refine PI.imp (pi_revA hg hm he hs) fun σ H R h => ?_
  obtain ⟨F, ρ, f, ors, s, e, q⟩ := h
  unfold dRev at e
  split at e
  · rename_i os e'
    cases e
    unfold dIt at e'
    split at e'
    · rename_i o eo
      refine ⟨F, ρ, f, o, s, eo, fun v F1 H1 g ex r gd => ?_⟩
      cases k with
      | false =>
        have gd' : Gd false zf H F1 g := by
          obtain ⟨n1, n2, n3⟩ := gd.n
          exact Gd.mkn n1 n2 n3
        obtain ⟨h1, h2⟩ := freeze (K := X.K) ex gd' r.mem
        cases o with
        | lst w os' =>
          have eo' : some (frzs os') = some os := e'
          cases eo'
          obtain ⟨p, xs, ev, sq, rs, _⟩ := r.frz (H' := H1) h1 fun a z => if_pos z
          exact ⟨p, xs, ev, .inl ⟨Same.seq h2.le sq, q _ _ _ h2 (walks_lr sq fun F2 H2 hh => Reps.mono hh (fun a z => absurd rfl z) rs)⟩⟩
        | tup os' =>
          have eo' : some (frzs os') = some os := e'
          cases eo'
          obtain ⟨p, xs, ev, sq, rs⟩ := r.frz (H' := H1) h1 fun a z => if_pos z
          exact ⟨p, xs, ev, .inr ⟨Same.seqT h2.le sq, q _ _ _ h2 (walks_tr sq fun F2 H2 hh => Reps.mono hh (fun a z => absurd rfl z) rs)⟩⟩
        | _ => cases e'
      | true =>
        cases o with
        | lst w os' =>
          have eo' : (if w = false then some os' else none) = some os := e'
          cases w with
          | true => cases eo'
          | false =>
            cases eo'
            obtain ⟨p, xs, ev, sq, rs, _⟩ := r
            exact ⟨p, xs, ev, .inl ⟨Same.seq ex.le sq, q _ _ _ ex (walks_lr sq fun F2 H2 hh => Reps.mono hh (fun a z => absurd rfl z) rs)⟩⟩
        | tup os' =>
          have eo' : (if isFzs os' = true then some os' else none) = some os := e'
          split at eo'
          · rename_i z
            cases eo'
            obtain ⟨p, xs, ev, sq, rs⟩ := r
            have gz := rs.fz0 z
            subst gz
            exact ⟨p, xs, ev, .inr ⟨Same.seqT ex.le sq, q _ _ _ ex (walks_tr sq fun F2 H2 hh => Reps.mono hh (fun a z => absurd rfl z) rs)⟩⟩
          · cases eo'
        | _ => cases e'
    · cases e'
  · cases e
end
def dExt (i : Nat) (d : Env → Option O) : Env → Option Out := fun ρ => match look ρ i with
  | some (.lst true os) => match d ρ with
    | some (.lst true qs) => if os.length + qs.length ≤ sizeLine then some (.nx (ρ.set i (some (.lst true (os ++ qs))))) else none
    | _ => none
  | _ => none
section
variable {ct : Nat → Addr} {X : Cx} {pn : Nat → Bool} {W : WX} {e : Expr} {d : Env → Option O} {pos p1 p2 apos : Pos}
theorem ss_ext (i : Nat) {x : Str} (he : SX ct X false e d) (hN : X.N[i]? = some x := by rfl) (hv : Vis X.env.scope x := by first | exact Or.inl rfl | exact Or.inr (Or.inl rfl) | exact Or.inr (Or.inr rfl)) (hd : (x == ("__debug__" : Str)) = false := by decide)
    (hcd : (x == ("__classdict__" : Str)) = false := by decide)
    (hstar : starEach [e] X.env = [(false, eval e X.env)] := by rfl) (hbase : attributeBase (.Name x p1) "extend" X.env (eval (.Name x p1) X.env) = eval (.Name x p1) X.env := by rfl) (hline : (apos.endLine == p2.line) = true := by rfl)
    (hs : swapsWith (.Call (.Attribute (.Name x p1) "extend" apos) [e] [] p2) none pos.line X.env = pure false := by rfl) :
    SS ct X pn W (.Expr (.Call (.Attribute (.Name x p1) "extend" apos) [e] [] p2) pos) (dExt i d) := by
  refine PS.imp (ps_expr (pe_bm PySem.F.plainAttrs_list PySem.F.slot_list_extend PySem.F.type_list_extend mt_extend (pe_var hN hv hd hcd) (pa_cons he pa_nil hstar) hbase (by rw [hstar]; rfl) hline hstar rfl) hs) fun D σ H h => ?_
  obtain ⟨F, ρ, f, out, s, e, q⟩ := h
  unfold dExt at e
  split at e
  · rename_i os eo
    split at e
    · rename_i qs ed
      split at e
      · rename_i hlen
        cases e
        obtain ⟨v, g, ev, r, l⟩ := s.rep.get eo
        obtain ⟨a, xs, g0, e1, ha, rs, eg⟩ := r
        subst e1
        refine ⟨.ref a, ev, .inl ⟨rfl, xs, SqL.of ha⟩, F, ρ, f, _, s, ed, fun y F1 H1 gy ex ry gd => ?_⟩
        have st := ex.stp s.wf s.rep.mem gd
        obtain ⟨b, ys, gq, ey, hb, rq, egy⟩ := ry
        subst ey
        obtain ⟨u, gu, lu, eu, ru, efu, wr⟩ := SRep.write st.wf (s.ext ex).rep eo
        rw [ev] at eu
        cases eu
        obtain ⟨a', xs', g1, ea, ha', rs', eg1⟩ := ru
        cases ea
        have hxs : xs' = xs := by
          have := ex.hH a _ ha
          rw [ha'] at this
          cases this; rfl
        subst hxs
        have one := st.wf.one a
        have t : f a + gy a ≤ 1 := one
        have fa : f a = gu a + lu a := by rw [efu]
        have ga : gu a = 1 + g1 a := by rw [eg1]; simp [bump]
        have gya : gy a = 0 := by omega
        have gqa : gq a = 0 := by
          have : gy a = (if a = b then 1 else 0) + gq a := by rw [egy]; rfl
          omega
        refine ⟨a, b, xs', ys, rfl, rfl, ha', hb, by rw [← rs'.length, ← rq.length]; exact hlen, ?_⟩
        have ag : ∀ c, g1 c ≠ 0 → (upd H1 a (.lst (xs' ++ ys))) c = H1 c := fun c z => upd_ne fun w => by subst w; omega
        have ag2 : ∀ c, gq c ≠ 0 → (upd H1 a (.lst (xs' ++ ys))) c = H1 c := fun c z => upd_ne fun w => by subst w; exact z gqa
        have rall : Rep X.K ct F1 (upd H1 a (.lst (xs' ++ ys))) (.lst true (os ++ qs)) (.ref a) (bump a fun c => g1 c + gq c) :=
          ⟨a, _, _, rfl, upd_same, Reps.app (Reps.mono (Same.refl _) ag rs') (Reps.mono (Same.refl _) ag2 rq), rfl⟩
        obtain ⟨f', sr, st3⟩ := wr a (.lst (xs' ++ ys)) _ _ (by omega) rall (fun c => by
          have e1 : gu c = (if c = a then 1 else 0) + g1 c := by rw [eg1]; rfl
          have e2 : gy c = (if c = b then 1 else 0) + gq c := by rw [egy]; rfl
          show (if c = a then 1 else 0) + (g1 c + gq c) ≤ gu c + gy c
          omega)
        exact q σ F1 _ f' (st.trans st3) sr Pin.refl
      · cases e
    · cases e
  · cases e
end
end Mini
namespace Mini
open PySem PySem.Spec PyProof.Rows L2
/-! x.m(..) as a statement: the object may be changed, the method may raise -/
def dLendX (i c : Nat) (m : Str) (ks : List Bool) (Ff : FnX) (ds : Env → Option (List O)) : Env → Option Out := fun ρ => match look ρ i with
  | some oi => if isObj c m oi = true then (match ds ρ with
    | some os => if okb ks os = true then (match Ff (oi :: views ks os) with
      | some (.ok _ fin) => match look fin 0 with
        | some o' => some (.nx (ρ.set i (some o')))
        | none => none
      | some (.er e fin) => match look fin 0 with
        | some o' => some (.er e (ρ.set i (some o')))
        | none => none
      | none => none) else none
    | none => none) else none
  | none => none
section
variable {ct : Nat → Addr} {K : PySem.W.Frag}
/-- a slot's value was lent to a callee and comes back -/
theorem lend_back {F1 H1 : Hp} {ρ : Env} {σ : L2.St} {f gv : Fp} {i : Nat} {oi : O} (wf : Wf F1 H1 (fun a => f a + gv a)) (h : SRep K ct F1 H1 ρ σ f) (eo : look ρ i = some oi) :
    ∃ v g, σ[i]? = some (some v) ∧ Rep K ct F1 H1 oi v g ∧ (∀ a, g a ≤ f a) ∧ ∀ (F' H' : Hp) (t : Fp) o' g0, Stp F1 H1 (fun a => g a + gv a) F' H' t → Rep K ct F' H' o' v g0 → (∀ a, g0 a ≤ t a) →
      ∃ f', SRep K ct F' H' (ρ.set i (some o')) σ f' ∧ Stp F1 H1 (fun a => f a + gv a) F' H' f' := by
  obtain ⟨g, l, ef0, hl, hf⟩ := SRep.hole i (h.len eo).1 h
  obtain ⟨v, ev, ri⟩ := hl _ eo
  have fl : ∀ a, f a = g a + l a := fun a => by rw [ef0]
  refine ⟨v, g, ev, ri, fun a => by rw [fl]; exact Nat.le_add_right _ _, fun F' H' t o' g0 st2 r3 l3 => ?_⟩
  have one : ∀ a, g a + l a + gv a ≤ 1 := fun a => by
    have := wf.one a
    have t : f a + gv a ≤ 1 := this
    rw [fl] at t
    exact t
  have memf : ∀ a, f a ≠ 0 → ∃ u, H1 a = some u ∧ Own u := h.mem
  have rest : ∀ b, l b ≠ 0 → t b = 0 ∧ F' b = none ∧ H' b = H1 b := fun b z => by
    have o1 := one b
    obtain ⟨u, hu, _⟩ := memf b (by rw [fl]; omega)
    have fb : F1 b = none := wf.dj b (by show f b + gv b ≠ 0; rw [fl]; omega)
    have no : ¬ ((t b ≠ 0) ∨ F' b ≠ none) := fun w => by
      rcases st2.new b w with w | w | w
      · exact w fb
      · rw [hu] at w; cases w
      · have w' : g b + gv b ≠ 0 := w
        omega
    refine ⟨Classical.byContradiction fun w => no (.inl w), Classical.byContradiction fun w => no (.inr w), ?_⟩
    rw [hu]
    exact st2.frame b u hu (by show g b + gv b = 0; omega)
  have sr' := (hf F' H' st2.hF fun b z => (rest b z).2.2).1 o' v g0 r3
  rw [set_self ev] at sr'
  refine ⟨_, sr', st2.hF, ⟨st2.wf.le, fun b => ?_, fun b z => ?_⟩, fun b o hb z => ?_, fun b z => ?_⟩
  · show g0 b + l b ≤ 1
    have o1 := one b
    have o2 := l3 b
    by_cases w : l b = 0
    · have o3 : t b ≤ 1 := st2.wf.one b
      omega
    · have := (rest b w).1
      omega
  · have z' : g0 b + l b ≠ 0 := z
    have o2 := l3 b
    by_cases w : l b = 0
    · exact st2.wf.dj b (by omega)
    · exact (rest b w).2.1
  · have z' : f b + gv b = 0 := z
    rw [fl] at z'
    exact st2.frame b o hb (by show g b + gv b = 0; omega)
  · by_cases w : l b = 0
    · have z2 : (t b ≠ 0) ∨ F' b ≠ none := by
        rcases z with z | z
        · have z' : g0 b + l b ≠ 0 := z
          have o2 := l3 b
          exact .inl (by omega)
        · exact .inr z
      rcases st2.new b z2 with y | y | y
      · exact .inl y
      · exact .inr (.inl y)
      · have y' : g b + gv b ≠ 0 := y
        exact .inr (.inr (by show f b + gv b ≠ 0; rw [fl]; omega))
    · exact .inr (.inr (by show f b + gv b ≠ 0; rw [fl]; omega))
end
section
variable {ct : Nat → Addr} {X : Cx} {pn : Nat → Bool} {W : WX} {ks : List Bool} {e : Expr} {es : List Expr} {ds : Env → Option (List O)} {Ff : FnX} {kk : Nat} {y : Str} {p1 apos pos pos2 : Pos} {n : Nat}
theorem ss_lendX (i : Nat) {c : Nat} {m : Str} {k0 : Bool} {pl : Sem Bool} (D : FDMX X.prog X.w X.K X.mg X.base ct kk c m n Ff) (C : Cls X.K (ct c)) (hr : Room kk X.A) (tk : Takes X W) (ha : SA ct X (k0 :: ks) (e :: es) ds) (hn : (k0 :: ks).length + 1 = n := by rfl)
    (hN : X.N[i]? = some y := by rfl) (hv : Vis X.env.scope y := by first | exact Or.inl rfl | exact Or.inr (Or.inl rfl) | exact Or.inr (Or.inr rfl)) (hd : (y == ("__debug__" : Str)) = false := by decide)
    (hcd : (y == ("__classdict__" : Str)) = false := by decide)
    (hst : starEach (e :: es) X.env = (false, eval e X.env) :: starEach es X.env := by rfl) (hpl : (backTo pos (starEach es X.env)).any (·.1) = false := by rfl)
    (ht : eval (.Call (.Attribute (.Name y p1) m apos) (e :: es) [] pos) X.env = (do
      let ov ← eval (.Name y p1) X.env
      standAt apos.atName
      let (f, first) ← holding [ov] (getMethod ov m pl)
      callWith pos f first (backTo pos (starEach (e :: es) X.env)) (backToKw pos (keywordEach [] X.env))) := by rfl)
    (hs : swapsWith (.Call (.Attribute (.Name y p1) m apos) (e :: es) [] pos) none pos2.line X.env = pure false := by rfl) :
    SS ct X pn W (.Expr (.Call (.Attribute (.Name y p1) m apos) (e :: es) [] pos) pos2) (dLendX i c m (k0 :: ks) Ff ds) := by
  obtain ⟨f0, fd, ps, hps, hF, hm, hb⟩ := D.ex
  refine PS.imp (ps_expr (pe_methAt (pe_var hN hv hd hcd) C hm hF hr hb (fun σ => passAt tk σ) ha hst hpl ht) hs) fun D σ H h => ?_
  obtain ⟨F, ρ, f, out, s, e, q⟩ := h
  unfold dLendX at e
  cases eo : look ρ i with
  | none => rw [eo] at e; cases e
  | some oi =>
    rw [eo] at e
    dsimp only at e
    split at e
    · rename_i hob
      cases eos : ds ρ with
      | none => rw [eos] at e; cases e
      | some os =>
        rw [eos] at e
        dsimp only at e
        split at e
        · rename_i hok
          obtain ⟨v, gv0, ev, r0, -⟩ := s.rep.get eo
          obtain ⟨w, ns, qs, ei, nf⟩ := isObj_ins hob
          subst ei
          obtain ⟨a, dx, fs, g0, eva, hA, en, -, -⟩ := Rep.inst s.wf.le r0
          subst en
          refine ⟨v, ev, a, dx, fs, eva, hA, noFld_lookup nf, F, ρ, f, os, s, eos, fun vs F1 H1 gb gv ex ar hb' hv => ?_⟩
          have gz := ar.okb hok
          subst gz
          have st := ex.stp s.wf s.rep.mem hv
          have s1 := s.ext ex
          obtain ⟨v1, g, ev1, ri, lg, back⟩ := lend_back st.wf s1.rep eo
          rw [ev] at ev1
          cases ev1
          have av := ar.view (Same.refl _) (fun a z => absurd rfl z)
          have wf1 : Wf F1 H1 (fun a => g a + gv a) := st.wf.sub fun a => by have := lg a; show g a + gv a ≤ f a + gv a; omega
          have ln : (v :: vs).length = n := by rw [List.length_cons, ar.len, hn]
          cases er : Ff (.ins w c (fs.map (·.1)) qs :: views (k0 :: ks) os) with
          | none => rw [er] at e; cases e
          | some rr =>
            rw [er] at e
            cases rr with
            | ok r fin =>
              dsimp only at e
              cases ef : look fin 0 with
              | none => rw [ef] at e; cases e
              | some o' =>
                rw [ef] at e
                cases e
                refine ⟨ln, F1, .ins w c (fs.map (·.1)) qs :: views (k0 :: ks) os, _, _, wf1, ⟨v, vs, g, gv, rfl, ri, av, rfl⟩, er, fun v' F' H' gr gf st2 rv sr => ?_⟩
                obtain ⟨v3, g3, ev3, r3, l3⟩ := sr.get ef
                have e3 : v3 = v := by simp at ev3; exact ev3.symm
                subst e3
                obtain ⟨f', sr', st3⟩ := back F' H' _ o' g3 st2 r3 fun a => by have := l3 a; show g3 a ≤ gr a + gf a; omega
                exact q σ F' H' f' (st.trans st3) sr' Pin.refl
            | er c' fin =>
              dsimp only at e
              cases ef : look fin 0 with
              | none => rw [ef] at e; cases e
              | some o' =>
                rw [ef] at e
                cases e
                refine ⟨ln, F1, .ins w c (fs.map (·.1)) qs :: views (k0 :: ks) os, _, _, wf1, ⟨v, vs, g, gv, rfl, ri, av, rfl⟩, er, fun F' H' gf st2 sr => ?_⟩
                obtain ⟨v3, g3, ev3, r3, l3⟩ := sr.get ef
                have e3 : v3 = v := by simp at ev3; exact ev3.symm
                subst e3
                obtain ⟨f', sr', st3⟩ := back F' H' _ o' g3 st2 r3 l3
                exact q σ F' H' f' (st.trans st3) sr' Pin.refl
        · cases e
    · cases e
end
end Mini
namespace Mini
open PySem PySem.Spec PyProof.Rows L2
/-! a def with defaults, all its arguments given -/
structure FunD (K : PySem.W.Frag) (x qual : Str) (st : Stmt) (f : Addr) (fd : FuncData) : Prop where
  ex : ∃ (oc : Value) (od : Option Addr) (dV kV doc pm : Value) (an : Option Addr) (cdv ct : Value) (osl : Array (Option Value)),
    fd = PySem.W.fnOf x qual (defArgs st) (defBody st) (defScope st) dV kV doc pm an cdv ct ∧ K.lookup f = some ⟨oc, od, .func fd, osl⟩ ∧ PySem.W.codeIn K cdv qual = true
theorem fund_mk {K : PySem.W.Frag} {x qual : Str} {st : Stmt} {f : Addr} {oc : Value} {od an : Option Addr} {osl : Array (Option Value)} {dV kV doc pm cdv ct : Value} (l : K.lookup f = some ⟨oc, od, .func (PySem.W.fnOf x qual (defArgs st) (defBody st) (defScope st) dV kV doc pm an cdv ct), osl⟩)
    (c : PySem.W.codeIn K cdv qual = true) : FunD K x qual st f (PySem.W.fnOf x qual (defArgs st) (defBody st) (defScope st) dV kV doc pm an cdv ct) := ⟨⟨oc, od, dV, kV, doc, pm, an, cdv, ct, osl, rfl, l, c⟩⟩
theorem fund_fun {K : PySem.W.Frag} {x qual : Str} {st : Stmt} {f : Addr} {fd : FuncData} (F : Fun K x qual st f fd) : FunD K x qual st f fd := by
  obtain ⟨oc, od, kV, doc, pm, an, cdv, ct, osl, e, l, c⟩ := F.ex
  exact ⟨⟨oc, od, .none, kV, doc, pm, an, cdv, ct, osl, e, l, c⟩⟩
theorem FunD.binds {K : PySem.W.Frag} {x qual : Str} {st : Stmt} {f : Addr} {fd : FuncData} {ps : List Str} (F : FunD K x qual st f fd)
    (h : ∀ (dV kV doc pm : Value) (an : Option Addr) (cdv ct : Value) (us : List Value), us.length = ps.length → bindArgs (PySem.W.fnOf x qual (defArgs st) (defBody st) (defScope st) dV kV doc pm an cdv ct) ⟨us, []⟩ = pure (ps.zip us)) : Binds K fd ps [] := by
  obtain ⟨oc, od, dV, kV, doc, pm, an, cdv, ct, osl, rfl, lk, hcd⟩ := F.ex
  exact .all (h dV kV doc pm an cdv ct)
theorem fdd_ok {ct : Nat → Addr} {K : PySem.W.Frag} {P : Program} {w : World} {mg : Str → Option Value} {base : Heap} {x qual : Str} {st : Stmt} {f : Addr} {fd : FuncData} {N ps : List Str} {k : Nat} {pn : Nat → Bool} {d : Env → Option Out} (F : FunD K x qual st f fd) (S : FnScope N ps (defScope st))
    (hb : ∀ (cdv : Value) (A : Around) (outer : List PySem.Env) (s : Shared) (H : Hp) (E : XK), Room k (A.deeper (envOfC qual (defScope st) s.heap.objs.size f cdv)) →
      SSs ct (cxOf (L2.CX P w) P w K mg base N qual (defScope st) f cdv A outer s H E) pn (fun cls d _ H' => E cls d H') (defBody st) d) : FnOk P w K mg base (L2.CX P w) (k + 1) f fd ps (spX ct K ps.length (dDefX pn ps.length N.length d)) := by
  obtain ⟨oc, od, dV, kV, doc, pm, an, cdv, ct', osl, rfl, lk, hcd⟩ := F.ex
  refine fn_of lk hcd S (fun vs H Q E h => h.1) fun A outer s H vs Q E hr h => ⟨_, hb cdv A outer s H E hr, ?_⟩
  obtain ⟨hl, F0, os, f0, r, wf, rs, e, q⟩ := h
  have hstart : SRep K ct F0 H (os.map some ++ List.replicate (N.length - ps.length) none) (L2.start N vs) f0 := by
    unfold L2.start
    rw [hl]
    exact SRep.start rs
  have pin : ∀ {σ' : L2.St}, Pin pn (L2.start N vs) σ' → ∀ j, pn (0 + j) = true → j < vs.length → σ'[j]? = (vs.map some)[j]? := fun p j hj hjl => by
    rw [Nat.zero_add] at hj
    rw [p.2 j hj]
    unfold L2.start
    rw [List.getElem?_append_left (by simpa using hjl)]
  unfold dDefX at e
  split at e
  · rename_i o ρ' ed
    cases e
    refine ⟨F0, _, f0, _, ⟨wf, hstart⟩, ed, fun v σ' F' H' g f' st r rs' p => ?_⟩
    obtain ⟨gf, h1, h2⟩ := SRep.fin rs' (pin p)
    rw [hl] at h1
    exact q v F' H' g gf (st.sub fun a => by have := h2 a; show g a + gf a ≤ g a + f' a; omega) r h1
  · rename_i ρ' ed
    cases e
    refine ⟨F0, _, f0, _, ⟨wf, hstart⟩, ed, fun σ' F' H' f' st rs' p => ?_⟩
    obtain ⟨gf, h1, h2⟩ := SRep.fin rs' (pin p)
    rw [hl] at h1
    exact q .non F' H' zf gf (st.sub fun a => by have := h2 a; show zf a + gf a ≤ f' a; simpa [zf] using this) ⟨rfl, rfl⟩ h1
  · rename_i c ρ' ed
    cases e
    refine ⟨F0, _, f0, _, ⟨wf, hstart⟩, ed, fun σ' F' H' f' st rs' p => ?_⟩
    obtain ⟨gf, h1, h2⟩ := SRep.fin rs' (pin p)
    rw [hl] at h1
    exact q F' H' gf (st.sub h2) h1
  · cases e
theorem binds_dflt {K : PySem.W.Frag} {fd : FuncData} {ps : List Str} {T : Addr} {o : Obj} {items : Array Value} {n : Nat} (ld : K.lookup T = some o) (hs : o.data = .seq items n) (hd : fd.defaults = .ref T)
    (h : ∀ us : List Value, us.length = ps.length → ∃ k, bindArgs fd ⟨us, []⟩ = (seqItems? fd.defaults >>= k) ∧ k (some items) = pure (ps.zip us)) : Binds K fd ps [] := fun s us hK hl => by
  rw [List.append_nil] at hl ⊢
  obtain ⟨k, h1, h2⟩ := h us hl
  exact .of_defaults hd (hK _ _ ld) hs h1 h2
end Mini
namespace Mini
open PySem PySem.Spec PyProof.Rows L2
/-! making instances by an __init__ that never raises -/
structure FDC0 (P : Program) (w : World) (K : PySem.W.Frag) (mg : Str → Option Value) (base : Heap) (ct : Nat → Addr) (k c : Nat) (x : Str) (n : Nat) (Ff : Fn) : Prop where
  ex : ∃ f fd ps, ps.length = n + 1 ∧ FnOk P w K mg base CX0 k f fd ps (spF ct K (n + 1) Ff) ∧ Mk K (ct c) f ∧ mg x = some (.ref (ct c)) ∧ Binds K fd ps []
def dMake0 (c : Nat) (ks : List Bool) (Ff : Fn) (ds : Env → Option (List O)) : Env → Option O := fun ρ => match ds ρ with
  | some os => match Ff (.ins true c [] [] :: views ks os) with
    | some (.non, fin) => match look fin 0 with
      | some o' => if (okb ks os || noFm o') = true then some o' else none
      | none => none
    | _ => none
  | none => none
section
variable {ct : Nat → Addr} {X : Cx} {e : Expr} {es : List Expr} {ds : Env → Option (List O)} {ks : List Bool} {pos p : Pos} {F0f : Fn} {n kk : Nat} {x : Str}
theorem sx_make0 {c : Nat} {k0 : Bool} (D : FDC0 X.prog X.w X.K X.mg X.base ct kk c x n F0f) (hr : Room (kk + 1) X.A) (ha : SA ct X (k0 :: ks) (e :: es) ds) (hn : (k0 :: ks).length = n := by rfl) (hg : Gl X x := by rfl) (hdb : (x == ("__debug__" : Str)) = false := by decide)
    (he : starEach (e :: es) X.env = (false, eval e X.env) :: starEach es X.env := by rfl) (hpl : (backTo pos (starEach es X.env)).any (·.1) = false := by rfl) : SX ct X false (.Call (.Name x p) (e :: es) [] pos) (dMake0 c (k0 :: ks) F0f ds) := by
  obtain ⟨f0, fd, ps, hps, hF, M, hm, hb⟩ := D.ex
  refine PE.imp (pe_make M hF hr hg hm hb .nil pass0 ha hdb he hpl) fun σ H Q h => ?_
  obtain ⟨F, ρ, f, r, s, e, q⟩ := h
  unfold dMake0 at e
  cases eos : ds ρ with
  | none => rw [eos] at e; cases e
  | some os =>
    rw [eos] at e
    dsimp only at e
    cases er : F0f (.ins true c [] [] :: views (k0 :: ks) os) with
    | none => rw [er] at e; cases e
    | some rr =>
      rw [er] at e
      obtain ⟨r0, fin⟩ := rr
      cases r0 with
      | non =>
        dsimp only at e
        cases ef : look fin 0 with
        | none => rw [ef] at e; cases e
        | some o' =>
          rw [ef] at e
          dsimp only at e
          split at e
          · rename_i cc
            cases e
            refine ⟨F, ρ, f, os, s, eos, fun vs F1 H1 gb gv ex ar hb' hv => fun a dx ha' hdx hne => ?_⟩
            obtain ⟨c1, c2, c3⟩ := call_back s.wf s.rep.mem ex ar hb' hv cc q
            generalize (fun a => if gb a ≠ 0 then H1 a else F1 a) = G at *
            have Ga : G a = none := none_of_nn fun w => by
              obtain ⟨u, hu⟩ := some_of_ne w
              have := c1.le a u hu
              rw [ha'] at this; cases this
            have hH2 : Same H1 (upd (upd H1 dx (.own a)) a (.ins (ct c) dx [])) := fun b u hu => by
              have n1 : b ≠ a := fun y => by rw [y, ha'] at hu; cases hu
              have n2 : b ≠ dx := fun y => by rw [y, hdx] at hu; cases hu
              rw [upd_ne n1, upd_ne n2]
              exact hu
            have ex2 : Ext G H1 G (upd (upd H1 dx (.own a)) a (.ins (ct c) dx [])) := ⟨Same.refl _, hH2, c1.le.trans hH2, fun b z => .inl z⟩
            have gd2 : Gd false zf H1 G (bump a zf) := Gd.mkn (fun b => by show (if b = a then 1 else 0) + 0 ≤ 1; split <;> omega) (fun b z => by
              by_cases y : b = a
              · subst y; exact ha'
              · exact absurd (by show (if b = a then 1 else 0) + 0 = 0; rw [if_neg y]) z) (fun b z => by
              by_cases y : b = a
              · subst y; exact Ga
              · exact absurd (by show (if b = a then 1 else 0) + 0 = 0; rw [if_neg y]) z)
            have st1 := (ex2.stp c1 (Reps.mem c2) gd2).sub (f1 := fun b => (bump a zf) b + gv b) fun b => by show _ ≤ gv b + (bump a zf) b; omega
            show spF ct X.K (n + 1) F0f (.ref a :: (vs ++ [])) _ _ E0
            rw [List.append_nil]
            have ag : ∀ b, gv b ≠ 0 → (upd (upd H1 dx (.own a)) a (.ins (ct c) dx [])) b = H1 b := fun b z => by
              obtain ⟨u, hu, _⟩ := Reps.mem c2 b z
              rw [hu]
              exact hH2 b u hu
            refine ⟨by rw [List.length_cons, ar.len, hn], G, .ins true c [] [] :: views (k0 :: ks) os, _, _, _, st1.wf, ⟨.ref a, vs, bump a zf, gv, rfl, ⟨a, dx, [], zf, rfl, upd_same, rfl, ⟨rfl, rfl⟩, rfl⟩, Reps.mono (Same.refl _) ag c2, rfl⟩, er, fun v F' H' g gf st rv sr => ?_⟩
            obtain ⟨rv1, -⟩ := rv
            obtain ⟨v3, g0, ev3, r3, l3⟩ := sr.get ef
            have e3 : v3 = .ref a := by simp at ev3; exact ev3.symm
            subst e3
            refine ⟨rv1, c3 (.ref a) F' H' g0 zf ((st1.trans st).sub fun b => ?_) r3⟩
            have := l3 b
            show g0 b + 0 ≤ g b + gf b
            omega
          · cases e
      | _ => cases e
end
theorem fdd0_ok {ct : Nat → Addr} {K : PySem.W.Frag} {P : Program} {w : World} {mg : Str → Option Value} {base : Heap} {x qual : Str} {st : Stmt} {f : Addr} {fd : FuncData} {N ps : List Str} {k : Nat} {pn : Nat → Bool} {d : Env → Option Out} (F : FunD K x qual st f fd) (S : FnScope N ps (defScope st))
    (hb : ∀ (cdv : Value) (A : Around) (outer : List PySem.Env) (s : Shared) (H : Hp) (E : XK), Room k (A.deeper (envOfC qual (defScope st) s.heap.objs.size f cdv)) →
      SSs ct (cxOf CX0 P w K mg base N qual (defScope st) f cdv A outer s H E).nox pn (fun _ _ _ _ => False) (defBody st) d) : FnOk P w K mg base CX0 (k + 1) f fd ps (spF ct K ps.length (dDef pn ps.length N.length d)) := by
  obtain ⟨oc, od, dV, kV, doc, pm, an, cdv, ct', osl, rfl, lk, hcd⟩ := F.ex
  refine fn_of lk hcd S (fun vs H Q E h => h.1) fun A outer s H vs Q E hr h => ⟨_, PSs.nox (hb cdv A outer s H E hr), ?_⟩
  obtain ⟨hl, F0, os, f0, r, fn, wf, rs, e, q⟩ := h
  have hstart : SRep K ct F0 H (os.map some ++ List.replicate (N.length - ps.length) none) (start N vs) f0 := by
    unfold L2.start
    rw [hl]
    exact SRep.start rs
  have pin : ∀ {σ' : L2.St}, Pin pn (start N vs) σ' → ∀ j, pn (0 + j) = true → j < vs.length → σ'[j]? = (vs.map some)[j]? := fun p j hj hjl => by
    rw [Nat.zero_add] at hj
    rw [p.2 j hj]
    unfold L2.start
    rw [List.getElem?_append_left (by simpa using hjl)]
  unfold dDef at e
  split at e
  · rename_i o ρ' ed
    cases e
    refine ⟨F0, _, f0, _, ⟨wf, hstart⟩, ed, fun v σ' F' H' g f' st r rs' p => ?_⟩
    obtain ⟨gf, h1, h2⟩ := SRep.fin rs' (pin p)
    rw [hl] at h1
    exact q v F' H' g gf (st.sub fun a => by have := h2 a; show g a + gf a ≤ g a + f' a; omega) r h1
  · rename_i ρ' ed
    cases e
    refine ⟨F0, _, f0, _, ⟨wf, hstart⟩, ed, fun σ' F' H' f' st rs' p => ?_⟩
    obtain ⟨gf, h1, h2⟩ := SRep.fin rs' (pin p)
    rw [hl] at h1
    exact q .non F' H' zf gf (st.sub fun a => by have := h2 a; show zf a + gf a ≤ f' a; simpa [zf] using this) ⟨rfl, rfl⟩ h1
  · cases e
end Mini
namespace Mini
open PySem PySem.Spec PyProof.Rows L2
/-! places within a slot's value: fields and items, all owned -/
inductive PSt where
  | ix (k : Nat) | fl (c : Nat) (n : Str)
def getP : O → List PSt → Option O
  | o, [] => some o
  | .lst true os, .ix k :: P => match os[k]? with
    | some o => getP o P
    | none => none
  | .ins true c ns os, .fl c' n :: P => if c = c' then (match fldO n ns os with
    | some o => getP o P
    | none => none) else none
  | _, _ :: _ => none
def modP (fn : O → Option O) : O → List PSt → Option O
  | o, [] => fn o
  | .lst true os, .ix k :: P => match os[k]? with
    | some o => (match modP fn o P with
      | some o' => some (.lst true (os.set k o'))
      | none => none)
    | none => none
  | .ins true c ns os, .fl c' n :: P => if c = c' then (match fldO n ns os with
    | some o => (match modP fn o P with
      | some o' => some (.ins true c ns (putO n o' ns os))
      | none => none)
    | none => none) else none
  | _, _ :: _ => none
def wk (ct : Nat → Addr) (H : Hp) : V → List PSt → V → Prop
  | v, [], w => v = w
  | v, .ix k :: P, w => ∃ a xs u, v = .ref a ∧ H a = some (.lst xs) ∧ xs[k]? = some u ∧ wk ct H u P w
  | v, .fl c n :: P, w => ∃ a dx fs u, v = .ref a ∧ H a = some (.ins (ct c) dx fs) ∧ fs.lookup n = some u ∧ wk ct H u P w
section
variable {ct : Nat → Addr} {K : PySem.W.Frag} {F H H' : Hp}
theorem wk.det : ∀ {P : List PSt} {v w w' : V}, wk ct H v P w → wk ct H v P w' → w = w'
  | [], _, _, _, h, h' => h.symm.trans h'
  | .ix k :: P, _, _, _, h, h' => by
    obtain ⟨a, xs, u, e1, e2, e3, h⟩ := h
    obtain ⟨a', xs', u', e1', e2', e3', h'⟩ := h'
    rw [e1] at e1'; cases e1'
    rw [e2] at e2'; cases e2'
    rw [e3] at e3'; cases e3'
    exact wk.det h h'
  | .fl c n :: P, _, _, _, h, h' => by
    obtain ⟨a, dx, xs, u, e1, e2, e3, h⟩ := h
    obtain ⟨a', dx', xs', u', e1', e2', e3', h'⟩ := h'
    rw [e1] at e1'; cases e1'
    rw [e2] at e2'; cases e2'
    rw [e3] at e3'; cases e3'
    exact wk.det h h'
theorem wk.mono (le : Same H H') : ∀ {P : List PSt} {v w : V}, wk ct H v P w → wk ct H' v P w
  | [], _, _, h => h
  | .ix k :: P, _, _, h => by
    obtain ⟨a, xs, u, e1, e2, e3, h⟩ := h
    exact ⟨a, xs, u, e1, le _ _ e2, e3, wk.mono le h⟩
  | .fl c n :: P, _, _, h => by
    obtain ⟨a, dx, xs, u, e1, e2, e3, h⟩ := h
    exact ⟨a, dx, xs, u, e1, le _ _ e2, e3, wk.mono le h⟩
theorem wk.split : ∀ {P P' : List PSt} {v w : V}, wk ct H v (P ++ P') w → ∃ u, wk ct H v P u ∧ wk ct H u P' w
  | [], _, v, _, h => ⟨v, rfl, h⟩
  | .ix k :: P, _, _, _, h => by
    obtain ⟨a, xs, u, e1, e2, e3, h⟩ := h
    obtain ⟨u', h1, h2⟩ := wk.split h
    exact ⟨u', ⟨a, xs, u, e1, e2, e3, h1⟩, h2⟩
  | .fl c n :: P, _, _, _, h => by
    obtain ⟨a, dx, xs, u, e1, e2, e3, h⟩ := h
    obtain ⟨u', h1, h2⟩ := wk.split h
    exact ⟨u', ⟨a, dx, xs, u, e1, e2, e3, h1⟩, h2⟩
theorem wk.join : ∀ {P P' : List PSt} {v u w : V}, wk ct H v P u → wk ct H u P' w → wk ct H v (P ++ P') w
  | [], _, _, _, _, h, h' => by cases h; exact h'
  | .ix k :: P, _, _, _, _, h, h' => by
    obtain ⟨a, xs, u, e1, e2, e3, h⟩ := h
    exact ⟨a, xs, u, e1, e2, e3, wk.join h h'⟩
  | .fl c n :: P, _, _, _, _, h, h' => by
    obtain ⟨a, dx, xs, u, e1, e2, e3, h⟩ := h
    exact ⟨a, dx, xs, u, e1, e2, e3, wk.join h h'⟩
theorem getP_split : ∀ {P P' : List PSt} {o s : O}, getP o (P ++ P') = some s → ∃ u, getP o P = some u ∧ getP u P' = some s
  | [], _, o, _, h => ⟨o, rfl, h⟩
  | .ix k :: P, P', o, s, h => by
    cases o with
    | lst w os =>
      cases w with
      | false => cases h
      | true =>
        have h : (match os[k]? with | some o => getP o (P ++ P') | none => none) = some s := h
        cases e : os[k]? with
        | none => rw [e] at h; cases h
        | some o =>
          rw [e] at h
          obtain ⟨u, h1, h2⟩ := getP_split (P := P) (P' := P') h
          exact ⟨u, by show (match os[k]? with | some o => getP o P | none => none) = some u; rw [e]; exact h1, h2⟩
    | _ => cases h
  | .fl c n :: P, P', o, s, h => by
    cases o with
    | ins w c' ns os =>
      cases w with
      | false => cases h
      | true =>
        have h : (if c' = c then (match fldO n ns os with | some o => getP o (P ++ P') | none => none) else none) = some s := h
        by_cases hc : c' = c
        · rw [if_pos hc] at h
          cases e : fldO n ns os with
          | none => rw [e] at h; cases h
          | some o =>
            rw [e] at h
            obtain ⟨u, h1, h2⟩ := getP_split (P := P) (P' := P') h
            exact ⟨u, by show (if c' = c then (match fldO n ns os with | some o => getP o P | none => none) else none) = some u; rw [if_pos hc, e]; exact h1, h2⟩
        · rw [if_neg hc] at h; cases h
    | _ => cases h
theorem Reps.fldHole {f : Str} {o : O} : ∀ {fs : List (Str × V)} {os : List O} {g : Fp}, Reps K ct F H os (fs.map (·.2)) g → fldO f (fs.map (·.1)) os = some o → ∃ (v : V) (g1 l : Fp), fs.lookup f = some v ∧ Rep K ct F H o v g1 ∧ (g = fun a => g1 a + l a) ∧
    ∀ H' o' g', (∀ a, l a ≠ 0 → H' a = H a) → Rep K ct F H' o' v g' → Reps K ct F H' (putO f o' (fs.map (·.1)) os) (fs.map (·.2)) (fun a => g' a + l a)
  | [], _, _, _, e => by simp [fldO] at e
  | (n, x) :: fs, [], _, _, e => by simp [fldO] at e
  | (n, x) :: fs, y :: os, g, h, e => by
    obtain ⟨v, vr, g1, l, ev, r, rs, ef⟩ := h
    cases ev
    have e : (if f = n then some y else fldO f (fs.map (·.1)) os) = some o := e
    by_cases q : f = n
    · subst q
      rw [if_pos rfl] at e
      cases e
      refine ⟨x, g1, l, by simp [List.lookup], r, ef, fun H' o' g' hh r' => ?_⟩
      simp only [List.map_cons, putO, if_pos rfl]
      exact ⟨x, _, g', l, rfl, r', Reps.mono (Same.refl _) hh rs, rfl⟩
    · rw [if_neg q] at e
      obtain ⟨v, g2, l2, e1, r2, ef2, hh2⟩ := Reps.fldHole rs e
      refine ⟨v, g2, fun a => g1 a + l2 a, ?_, r2, ?_, fun H' o' g' hh r' => ?_⟩
      · rw [List.lookup, show (f == n) = false from beq_eq_false_iff_ne.mpr q]
        exact e1
      · rw [ef, ef2]; funext a; show g1 a + (g2 a + l2 a) = g2 a + (g1 a + l2 a); omega
      · have r1 := hh2 H' o' g' (fun a z => hh a (by show g1 a + l2 a ≠ 0; omega)) r'
        simp only [List.map_cons, putO, if_neg (fun z : n = f => q z.symm)]
        refine ⟨x, _, g1, _, rfl, Rep.mono (Same.refl _) (fun a z => hh a (by show g1 a + l2 a ≠ 0; omega)) r, r1, ?_⟩
        funext a
        show g' a + (g1 a + l2 a) = g1 a + (g' a + l2 a)
        omega
theorem getP_rep : ∀ {P : List PSt} {o s : O} {v : V} {g : Fp}, Rep K ct F H o v g → getP o P = some s → ∃ w gs, wk ct H v P w ∧ Rep K ct F H s w gs ∧ ∀ a, gs a ≤ g a
  | [], o, s, v, g, r, e => by cases e; exact ⟨v, g, rfl, r, fun _ => Nat.le_refl _⟩
  | .ix k :: P, o, s, v, g, r, e => by
    cases o with
    | lst w os =>
      cases w with
      | false => cases e
      | true =>
        obtain ⟨a, xs, g0, ev, ha, rs, eg⟩ := r
        have e : (match os[k]? with | some o => getP o P | none => none) = some s := e
        cases ek : os[k]? with
        | none => rw [ek] at e; cases e
        | some o =>
          rw [ek] at e
          obtain ⟨u, g1, l, e1, r1, ef, _⟩ := Reps.hole rs ek
          obtain ⟨w, gs, h1, h2, h3⟩ := getP_rep r1 e
          exact ⟨w, gs, ⟨a, xs, u, ev, ha, e1, h1⟩, h2, fun b => by have := h3 b; rw [eg, ef]; show gs b ≤ (if b = a then 1 else 0) + (g1 b + l b); omega⟩
    | _ => cases e
  | .fl c n :: P, o, s, v, g, r, e => by
    cases o with
    | ins w c' ns os =>
      cases w with
      | false => cases e
      | true =>
        obtain ⟨a, dx, fs, g0, ev, ha, en, rs, eg⟩ := r
        subst en
        have e : (if c' = c then (match fldO n (fs.map (·.1)) os with | some o => getP o P | none => none) else none) = some s := e
        by_cases hc : c' = c
        · subst hc
          rw [if_pos rfl] at e
          cases ek : fldO n (fs.map (·.1)) os with
          | none => rw [ek] at e; cases e
          | some o =>
            rw [ek] at e
            obtain ⟨u, g1, l, e1, r1, ef, _⟩ := Reps.fldHole rs ek
            obtain ⟨w, gs, h1, h2, h3⟩ := getP_rep r1 e
            exact ⟨w, gs, ⟨a, dx, fs, u, ev, ha, e1, h1⟩, h2, fun b => by have := h3 b; rw [eg, ef]; show gs b ≤ (if b = a then 1 else 0) + (g1 b + l b); omega⟩
        · rw [if_neg hc] at e; cases e
    | _ => cases e
/-- a change at a place -/
theorem modP_rep {fn : O → Option O} : ∀ {P : List PSt} {o o' : O} {v : V} {g : Fp}, Rep K ct F H o v g → modP fn o P = some o' → (∀ b, g b ≤ 1) → ∃ (w : V) (s s' : O) (gs l : Fp), wk ct H v P w ∧ Rep K ct F H s w gs ∧ fn s = some s' ∧ (g = fun a => gs a + l a) ∧ getP o P = some s ∧
    ∀ H' gs', (∀ a, l a ≠ 0 → H' a = H a) → Rep K ct F H' s' w gs' → Rep K ct F H' o' v (fun a => gs' a + l a)
  | [], o, o', v, g, r, e, one => ⟨v, o, o', g, zf, rfl, r, e, by funext a; show g a = g a + 0; omega, rfl, fun H' gs' _ r' => by
      have : (fun a => gs' a + zf a) = gs' := by funext a; show gs' a + 0 = gs' a; omega
      rw [this]; exact r'⟩
  | .ix k :: P, o, o', v, g, r, e, one => by
    cases o with
    | lst w os =>
      cases w with
      | false => cases e
      | true =>
        obtain ⟨a, xs, g0, ev, ha, rs, eg⟩ := r
        have e : (match os[k]? with | some o => (match modP fn o P with | some o' => some (O.lst true (os.set k o')) | none => none) | none => none) = some o' := e
        cases ek : os[k]? with
        | none => rw [ek] at e; cases e
        | some o1 =>
          rw [ek] at e
          dsimp only at e
          cases em : modP fn o1 P with
          | none => rw [em] at e; cases e
          | some o2 =>
            rw [em] at e
            cases e
            obtain ⟨u, g1, l, e1, r1, ef, hole⟩ := Reps.hole rs ek
            obtain ⟨w, s, s', gs, l2, h1, h2, h3, h4, h5, h6⟩ := modP_rep r1 em (fun b => by have := one b; rw [eg, ef] at this; have t : (if b = a then 1 else 0) + (g1 b + l b) ≤ 1 := this; omega)
            refine ⟨w, s, s', gs, fun b => (if b = a then 1 else 0) + (l2 b + l b), ⟨a, xs, u, ev, ha, e1, h1⟩, h2, h3, ?_, ?_, fun H' gs' hh r' => ?_⟩
            · funext b
              rw [eg, ef, h4]
              show (if b = a then 1 else 0) + (gs b + l2 b + l b) = gs b + ((if b = a then 1 else 0) + (l2 b + l b))
              omega
            · show (match os[k]? with | some o => getP o P | none => none) = some s
              rw [ek]; exact h5
            · have q := h6 H' gs' (fun b z => hh b (by show (if b = a then 1 else 0) + (l2 b + l b) ≠ 0; omega)) r'
              have q2 := hole H' o2 _ (fun b z => hh b (by show (if b = a then 1 else 0) + (l2 b + l b) ≠ 0; omega)) q
              refine ⟨a, xs, _, ev, ?_, q2, ?_⟩
              · rw [hh a (by show (if a = a then 1 else 0) + (l2 a + l a) ≠ 0; rw [if_pos rfl]; omega)]; exact ha
              · funext b
                show gs' b + ((if b = a then 1 else 0) + (l2 b + l b)) = (if b = a then 1 else 0) + (gs' b + l2 b + l b)
                omega
    | _ => cases e
  | .fl c n :: P, o, o', v, g, r, e, one => by
    cases o with
    | ins w c' ns os =>
      cases w with
      | false => cases e
      | true =>
        obtain ⟨a, dx, fs, g0, ev, ha, en, rs, eg⟩ := r
        subst en
        have e : (if c' = c then (match fldO n (fs.map (·.1)) os with | some o => (match modP fn o P with | some o' => some (O.ins true c' (fs.map (·.1)) (putO n o' (fs.map (·.1)) os)) | none => none) | none => none) else none) = some o' := e
        by_cases hc : c' = c
        · subst hc
          rw [if_pos rfl] at e
          cases ek : fldO n (fs.map (·.1)) os with
          | none => rw [ek] at e; cases e
          | some o1 =>
            rw [ek] at e
            dsimp only at e
            cases em : modP fn o1 P with
            | none => rw [em] at e; cases e
            | some o2 =>
              rw [em] at e
              cases e
              obtain ⟨u, g1, l, e1, r1, ef, hole⟩ := Reps.fldHole rs ek
              obtain ⟨w, s, s', gs, l2, h1, h2, h3, h4, h5, h6⟩ := modP_rep r1 em (fun b => by have := one b; rw [eg, ef] at this; have t : (if b = a then 1 else 0) + (g1 b + l b) ≤ 1 := this; omega)
              refine ⟨w, s, s', gs, fun b => (if b = a then 1 else 0) + (l2 b + l b), ⟨a, dx, fs, u, ev, ha, e1, h1⟩, h2, h3, ?_, ?_, fun H' gs' hh r' => ?_⟩
              · funext b
                rw [eg, ef, h4]
                show (if b = a then 1 else 0) + (gs b + l2 b + l b) = gs b + ((if b = a then 1 else 0) + (l2 b + l b))
                omega
              · show (if c' = c' then (match fldO n (fs.map (·.1)) os with | some o => getP o P | none => none) else none) = some s
                rw [if_pos rfl, ek]; exact h5
              · have q := h6 H' gs' (fun b z => hh b (by show (if b = a then 1 else 0) + (l2 b + l b) ≠ 0; omega)) r'
                have q2 := hole H' o2 _ (fun b z => hh b (by show (if b = a then 1 else 0) + (l2 b + l b) ≠ 0; omega)) q
                refine ⟨a, dx, fs, _, ev, ?_, rfl, q2, ?_⟩
                · rw [hh a (by show (if a = a then 1 else 0) + (l2 a + l a) ≠ 0; rw [if_pos rfl]; omega)]; exact ha
                · funext b
                  show gs' b + ((if b = a then 1 else 0) + (l2 b + l b)) = (if b = a then 1 else 0) + (gs' b + l2 b + l b)
                  omega
        · rw [if_neg hc] at e; cases e
    | _ => cases e
/-- a slot's value is changed at a place -/
theorem SRep.modP {fn : O → Option O} {ρ : Env} {σ : L2.St} {f gy : Fp} {i : Nat} {o o' : O} {P : List PSt} (wf : Wf F H (fun a => f a + gy a)) (h : SRep K ct F H ρ σ f) (e : look ρ i = some o) (m : modP fn o P = some o') :
    ∃ (v w : V) (s s' : O) (gs : Fp), σ[i]? = some (some v) ∧ wk ct H v P w ∧ Rep K ct F H s w gs ∧ fn s = some s' ∧ getP o P = some s ∧ (∀ b, gs b ≤ f b) ∧
      ∀ a u gs', gs a ≠ 0 → Rep K ct F (upd H a u) s' w gs' → (∀ b, gs' b ≤ gs b + gy b) →
        ∃ f', SRep K ct F (upd H a u) (ρ.set i (some o')) σ f' ∧ Stp F H (fun a => f a + gy a) F (upd H a u) f' := by
  obtain ⟨v, g, l, ev, r, ef, wr⟩ := SRep.write wf h e
  have one : ∀ b, g b + l b + gy b ≤ 1 := fun b => by have t : f b + gy b ≤ 1 := wf.one b; rw [ef] at t; exact t
  obtain ⟨w, s, s', gs, ls, h1, h2, h3, h4, h5, h6⟩ := modP_rep r m (fun b => by have := one b; omega)
  refine ⟨v, w, s, s', gs, ev, h1, h2, h3, h5, fun b => by rw [ef, h4]; show gs b ≤ gs b + ls b + l b; omega, fun a u gs' ga r' lg => ?_⟩
  have t := one a
  have ga2 : g a = gs a + ls a := by rw [h4]
  have la : ls a = 0 := by omega
  refine wr a u o' _ (by omega) (h6 _ gs' (fun b z => upd_ne fun y => by subst y; exact z la) r') (fun b => ?_)
  have := lg b
  show gs' b + ls b ≤ g b + gy b
  rw [h4]
  show gs' b + ls b ≤ gs b + ls b + gy b
  omega
/-- a place, as an expression -/
def tLoc (ct : Nat → Addr) (K : PySem.W.Frag) (i : Nat) (dp : Env → Option (List PSt)) : TE := fun σ H Q => ∃ F ρ f v o s P, Sit K ct F H ρ σ f ∧ σ[i]? = some (some v) ∧ look ρ i = some o ∧ dp ρ = some P ∧ getP o P = some s ∧
  ∀ w F' H', Ext F H F' H' → wk ct H' v P w → Q w H'
def SLoc (ct : Nat → Addr) (X : Cx) (i : Nat) (e : Expr) (dp : Env → Option (List PSt)) : Prop := PE X e (tLoc ct X.K i dp)
def pNil : Env → Option (List PSt) := fun _ => some []
def pFl (dp : Env → Option (List PSt)) (c : Nat) (n : Str) : Env → Option (List PSt) := fun ρ => match dp ρ with
  | some P => some (P ++ [.fl c n])
  | none => none
def pIx (dp : Env → Option (List PSt)) (di : Env → Option O) : Env → Option (List PSt) := fun ρ => match dp ρ with
  | some P => match di ρ with
    | some (.int k) => if 0 ≤ k then some (P ++ [.ix k.toNat]) else none
    | _ => none
  | none => none
end
section
variable {ct : Nat → Addr} {X : Cx} {pn : Nat → Bool} {W : WX} {e ie : Expr} {d di : Env → Option O} {dp : Env → Option (List PSt)} {k : Bool} {pos p1 p2 p3 apos : Pos} {i : Nat}
theorem sl_var (i : Nat) {x : Str} (hN : X.N[i]? = some x := by rfl) (hv : Vis X.env.scope x := by first | exact Or.inl rfl | exact Or.inr (Or.inl rfl) | exact Or.inr (Or.inr rfl)) (hd : (x == ("__debug__" : Str)) = false := by decide)
    (hcd : (x == ("__classdict__" : Str)) = false := by decide) : SLoc ct X i (.Name x pos) pNil := by
  refine PE.imp (pe_var hN hv hd hcd) fun σ H Q h => ?_
  obtain ⟨F, ρ, f, v, o, s, P, st, ev, eo, ep, eg, q⟩ := h
  cases ep
  exact ⟨v, ev, q v F H (Ext.refl st.wf.le) rfl⟩
theorem sl_fld (c : Nat) {n : Str} (C : Cls X.K (ct c)) (na : NoAttr X.K (ct c) n) (he : SLoc ct X i e dp) (hb : attributeBase e n X.env (eval e X.env) = eval e X.env := by rfl) : SLoc ct X i (.Attribute e n pos) (pFl dp c n) := by
  refine PE.imp (pe_fld he hb) fun σ H Q h => ?_
  obtain ⟨F, ρ, f, v, o, s, P', st, ev, eo, ep, eg, q⟩ := h
  unfold pFl at ep
  cases e1 : dp ρ with
  | none => rw [e1] at ep; cases ep
  | some P =>
    rw [e1] at ep
    cases ep
    obtain ⟨u, g1, g2⟩ := getP_split eg
    refine ⟨F, ρ, f, v, o, u, P, st, ev, eo, e1, g1, fun w F' H' ex hw => ?_⟩
    obtain ⟨v', g, ev', r, l⟩ := (st.ext ex).rep.get eo
    rw [ev] at ev'
    cases ev'
    obtain ⟨w2, gs, h1, h2, h3⟩ := getP_rep r eg
    obtain ⟨w1, k1, k2⟩ := h1.split
    have := hw.det k1
    subst this
    obtain ⟨a, dx, fs, u2, q1, q2, q3, q4⟩ := k2
    cases q4
    exact ⟨a, _, dx, fs, _, q1, q2, C, na, q3, q _ F' H' ex h1⟩
theorem sl_ix (he : SLoc ct X i e dp) (hi : SX ct X k ie di) (hs : PlainIx ie := by intro _ _; rfl) : SLoc ct X i (.Subscript e ie pos) (pIx dp di) := by
  refine PE.imp (pe_ix ix_seq he hi hs) fun σ H Q h => ?_
  obtain ⟨F, ρ, f, v, o, s, P', st, ev, eo, ep, eg, q⟩ := h
  unfold pIx at ep
  cases e1 : dp ρ with
  | none => rw [e1] at ep; cases ep
  | some P =>
    rw [e1] at ep
    dsimp only at ep
    split at ep
    · rename_i kk ei
      split at ep
      · rename_i h0
        cases ep
        obtain ⟨u, g1, g2⟩ := getP_split eg
        refine ⟨F, ρ, f, v, o, u, P, st, ev, eo, e1, g1, fun w F' H' ex hw => ?_⟩
        refine ⟨F', ρ, f, .int kk, st.ext ex, ei, fun iv F2 H2 gi ex2 ri gd => ?_⟩
        obtain ⟨rfl, _⟩ := ri
        obtain ⟨v', g, ev', r, l⟩ := ((st.ext ex).ext ex2).rep.get eo
        rw [ev] at ev'
        cases ev'
        obtain ⟨w2, gs, h1, h2, h3⟩ := getP_rep r eg
        obtain ⟨w1, k1, k2⟩ := h1.split
        have := (hw.mono ex2.hH).det k1
        subst this
        obtain ⟨a, xs, u2, q1, q2, q3, q4⟩ := k2
        cases q4
        have hat : L2.atI xs kk = some w2 := by
          have := L2.atI_nat q3
          rwa [show ((kk.toNat : Nat) : Int) = kk by omega] at this
        exact .inl ⟨a, xs, kk, w2, q1, rfl, SqL.of q2, hat, q w2 F2 H2 (ex.trans ex2) h1⟩
      · cases ep
    · cases ep
/-- a statement that changes what stands at a place -/
def dModP (i : Nat) (dp : Env → Option (List PSt)) (fn : O → Option O) : Env → Option Out := fun ρ => match look ρ i with
  | some o => match dp ρ with
    | some P => match modP fn o P with
      | some o' => some (.nx (ρ.set i (some o')))
      | none => none
    | none => none
  | none => none
theorem dModP_some {i : Nat} {fn : O → Option O} {ρ : Env} {out : Out} (h : dModP i dp fn ρ = some out) : ∃ o P o', look ρ i = some o ∧ dp ρ = some P ∧ modP fn o P = some o' ∧ out = .nx (ρ.set i (some o')) := by
  unfold dModP at h
  split at h
  · rename_i o eo
    split at h
    · rename_i P ep
      split at h
      · rename_i o' em
        cases h
        exact ⟨o, P, o', eo, ep, em, rfl⟩
      · cases h
    · cases h
  · cases h
def apO (y : O) : O → Option O
  | .lst true os => if os.length < sizeLine then some (.lst true (os ++ [y])) else none
  | _ => none
/-- place.append(e) -/
def dAppP (i : Nat) (dp : Env → Option (List PSt)) (d : Env → Option O) : Env → Option Out := fun ρ => match d ρ with
  | some y => dModP i dp (apO y) ρ
  | none => none
theorem modP_get {fn : O → Option O} : ∀ {P : List PSt} {o o' : O}, modP fn o P = some o' → ∃ s s', getP o P = some s ∧ fn s = some s'
  | [], o, o', h => ⟨o, o', rfl, h⟩
  | .ix k :: P, o, o', h => by
    cases o with
    | lst w os =>
      cases w with
      | false => cases h
      | true =>
        have h : (match os[k]? with | some o => (match modP fn o P with | some o' => some (O.lst true (os.set k o')) | none => none) | none => none) = some o' := h
        cases ek : os[k]? with
        | none => rw [ek] at h; cases h
        | some o1 =>
          rw [ek] at h
          dsimp only at h
          cases em : modP fn o1 P with
          | none => rw [em] at h; cases h
          | some o2 =>
            obtain ⟨s, s', h1, h2⟩ := modP_get em
            exact ⟨s, s', by show (match os[k]? with | some o => getP o P | none => none) = some s; rw [ek]; exact h1, h2⟩
    | _ => cases h
  | .fl c n :: P, o, o', h => by
    cases o with
    | ins w c' ns os =>
      cases w with
      | false => cases h
      | true =>
        have h : (if c' = c then (match fldO n ns os with | some o => (match modP fn o P with | some o' => some (O.ins true c' ns (putO n o' ns os)) | none => none) | none => none) else none) = some o' := h
        by_cases hc : c' = c
        · rw [if_pos hc] at h
          cases ek : fldO n ns os with
          | none => rw [ek] at h; cases h
          | some o1 =>
            rw [ek] at h
            dsimp only at h
            cases em : modP fn o1 P with
            | none => rw [em] at h; cases h
            | some o2 =>
              obtain ⟨s, s', h1, h2⟩ := modP_get em
              exact ⟨s, s', by show (if c' = c then (match fldO n ns os with | some o => getP o P | none => none) else none) = some s; rw [if_pos hc, ek]; exact h1, h2⟩
        · rw [if_neg hc] at h; cases h
    | _ => cases h
theorem sit_val {K : PySem.W.Frag} {F H : Hp} {ρ : Env} {σ : L2.St} {f : Fp} {o : O} (st : Sit K ct F H ρ σ f) (eo : look ρ i = some o) : ∃ v, σ[i]? = some (some v) := by
  obtain ⟨v, g, ev, r, l⟩ := st.rep.get eo
  exact ⟨v, ev⟩
theorem ss_appP (hl : SLoc ct X i e dp) (he : SX ct X false ie d)
    (hstar : starEach [ie] X.env = [(false, eval ie X.env)] := by rfl) (hbase : attributeBase e "append" X.env (eval e X.env) = eval e X.env := by rfl) (hline : (apos.endLine == p2.line) = true := by rfl)
    (hs : swapsWith (.Call (.Attribute e "append" apos) [ie] [] p2) none pos.line X.env = pure false := by rfl) :
    SS ct X pn W (.Expr (.Call (.Attribute e "append" apos) [ie] [] p2) pos) (dAppP i dp d) := by
  refine PS.imp (ps_expr (pe_bm PySem.F.plainAttrs_list PySem.F.slot_list_append PySem.F.type_list_append mt_append hl (pa_cons he pa_nil hstar) hbase (by rw [hstar]; rfl) hline hstar rfl) hs) fun D σ H h => ?_
  obtain ⟨F, ρ, f, out, st, e, q⟩ := h
  unfold dAppP at e
  split at e
  · rename_i y ed
    obtain ⟨o, P, o', eo, ep, em, rfl⟩ := dModP_some e
    obtain ⟨s0, s0', eg, es⟩ := modP_get em
    obtain ⟨v, ev⟩ := sit_val st eo
    refine ⟨F, ρ, f, v, o, s0, P, st, ev, eo, ep, eg, fun w F' H' ex hw => ?_⟩
    have s1 := st.ext ex
    obtain ⟨v', g', ev', r', l'⟩ := s1.rep.get eo
    rw [ev] at ev'
    cases ev'
    obtain ⟨w2, gs2, h1, h2, h3⟩ := getP_rep r' eg
    have := hw.det h1
    subst this
    cases s0 with
    | lst b qs =>
      cases b with
      | false => cases es
      | true =>
        have es : (if qs.length < sizeLine then some (O.lst true (qs ++ [y])) else none) = some s0' := es
        by_cases hlen : qs.length < sizeLine
        · obtain ⟨a, xs, g0, ew, ha, rs, eg0⟩ := h2
          subst ew
          refine ⟨.inl ⟨rfl, xs, SqL.of ha⟩, F', ρ, f, y, s1, ed, fun yv F2 H2 gy ex2 ry gd => ?_⟩
          have st2 := ex.stp0 st.wf st.rep.mem
          have st3 := ex2.stp s1.wf s1.rep.mem gd
          obtain ⟨v3, w3, s3, s3', gs3, ev3, hw3, rw3, es3, eg3, lg3, wr⟩ := SRep.modP st3.wf (s1.ext ex2).rep eo em
          rw [ev] at ev3
          cases ev3
          have := (hw.mono ex2.hH).det hw3
          subst this
          rw [eg] at eg3
          cases eg3
          obtain ⟨b2, ys, gq, eb, hB, rsq, egq⟩ := rw3
          cases eb
          have hys : ys = xs := by
            have := ex2.hH a _ ha
            rw [hB] at this
            cases this; rfl
          subst hys
          have es4 : (if qs.length < sizeLine then some (O.lst true (qs ++ [y])) else none) = some s3' := es3
          rw [if_pos hlen] at es4
          cases es4
          have one : f a + gy a ≤ 1 := st3.wf.one a
          have g3a : gs3 a = 1 + gq a := by rw [egq]; simp [bump]
          have l3 := lg3 a
          have gqa : gq a = 0 := by omega
          have gya : gy a = 0 := by omega
          refine ⟨a, ys, yv, rfl, rfl, hB, by rw [← rsq.length]; exact hlen, ?_⟩
          have ag : ∀ b, gq b ≠ 0 → (upd H2 a (.lst (ys ++ [yv]))) b = H2 b := fun b z => upd_ne fun w => by subst w; exact z gqa
          have ag2 : ∀ b, gy b ≠ 0 → (upd H2 a (.lst (ys ++ [yv]))) b = H2 b := fun b z => upd_ne fun w => by subst w; exact z gya
          have rin : Rep X.K ct F2 (upd H2 a (.lst (ys ++ [yv]))) (.lst true (qs ++ [y])) (.ref a) (bump a fun b => gq b + gy b) :=
            ⟨a, ys ++ [yv], _, rfl, upd_same, Reps.app (Reps.mono (Same.refl _) ag rsq) (Reps.one (Rep.mono (Same.refl _) ag2 ry)), rfl⟩
          obtain ⟨f', sr, st4⟩ := wr a (.lst (ys ++ [yv])) _ (by omega) rin (fun b => by
            have e1 : gs3 b = (if b = a then 1 else 0) + gq b := by rw [egq]; rfl
            show (if b = a then 1 else 0) + (gq b + gy b) ≤ gs3 b + gy b
            omega)
          exact q σ F2 _ f' ((st2.trans st3).trans st4) sr Pin.refl
        · rw [if_neg hlen] at es; cases es
    | _ => cases es
  · cases e
def stO' (kk : Int) (y : O) : O → Option O
  | .lst true os => match ixN os.length kk with
    | some j => some (.lst true (os.set j y))
    | none => none
  | _ => none
/-- place[ie] = e -/
def dSetP (i : Nat) (dp : Env → Option (List PSt)) (di d : Env → Option O) : Env → Option Out := fun ρ => match d ρ with
  | some y => match di ρ with
    | some (.int kk) => dModP i dp (stO' kk y) ρ
    | _ => none
  | none => none
theorem ss_setP {ve : Expr} (hl : SLoc ct X i e dp) (he : SX ct X false ve d) (hi : SX ct X k ie di)
    (ha : ∀ v, assign (.Subscript e ie p2) X.env v = (do
      let ov ← holding [v] (eval e X.env)
      let iv ← holding [v, ov] (eval ie X.env)
      standAt p2
      holding [v, ov, iv] (setItem ov iv v)
      release [v, ov, iv] []) := by intro _; rfl)
    (hs : swapsWithSole [.Subscript e ie p2] ve pos.line X.env = pure false := by rfl) (hw : swappedStores [.Subscript e ie p2] ve X.env = pure none := by rfl)
    (h1 : (assignEach [.Subscript e ie p2] X.env).map (·.2) = [assign (.Subscript e ie p2) X.env] := by rfl) :
    SS ct X pn W (.Assign [.Subscript e ie p2] ve pos) (dSetP i dp di d) := by
  refine PS.imp (ps_asg he (pg_sub hl hi set_list ha) hs hw h1) fun D σ H h => ?_
  obtain ⟨F, ρ, f, out, st, e, q⟩ := h
  unfold dSetP at e
  split at e
  · rename_i y ed
    split at e
    · rename_i kk ei
      obtain ⟨o, P, o', eo, ep, em, rfl⟩ := dModP_some e
      obtain ⟨s0, s0', eg, es⟩ := modP_get em
      obtain ⟨v, ev⟩ := sit_val st eo
      refine ⟨F, ρ, f, y, st, ed, fun yv F1 H1 gy ex ry gd => ?_⟩
      have s1 := st.ext ex
      have stp1 := ex.stp st.wf st.rep.mem gd
      refine ⟨F1, ρ, f, v, o, s0, P, s1, ev, eo, ep, eg, fun w F' H' exl hw => ?_⟩
      have s2 := s1.ext exl
      refine ⟨F', ρ, f, .int kk, s2, ei, fun iv F2 H2 gi ex2 ri gd2 => ?_⟩
      obtain ⟨rfl, _⟩ := ri
      have exx := exl.trans ex2
      have stp2 := stp1.trans (exx.stp0 stp1.wf fun b z => by
        by_cases w : f b = 0
        · exact ry.mem b (by have z' : f b + gy b ≠ 0 := z; omega)
        · exact s1.rep.mem b w)
      obtain ⟨v3, w3, s3, s3', gs3, ev3, hw3, rw3, es3, eg3, lg3, wr⟩ := SRep.modP stp2.wf (s1.ext exx).rep eo em
      rw [ev] at ev3
      cases ev3
      have := (hw.mono ex2.hH).det hw3
      subst this
      rw [eg] at eg3
      cases eg3
      cases s0 with
      | lst b qs =>
        cases b with
        | false => cases es
        | true =>
          have es : (match ixN qs.length kk with | some j => some (O.lst true (qs.set j y)) | none => none) = some s3' := es3
          cases ej : ixN qs.length kk with
          | none => rw [ej] at es; cases es
          | some j =>
            rw [ej] at es
            cases es
            obtain ⟨a, ys, gq, eb, hB, rsq, egq⟩ := rw3
            subst eb
            have one : f a + gy a ≤ 1 := stp2.wf.one a
            have g3a : gs3 a = 1 + gq a := by rw [egq]; simp [bump]
            have l3 := lg3 a
            have gqa : gq a = 0 := by omega
            have gya : gy a = 0 := by omega
            refine ⟨a, ys, kk, j, rfl, rfl, hB, by rw [← rsq.length]; exact ej, ?_⟩
            have ag : ∀ b, gq b ≠ 0 → (upd H2 a (.lst (ys.set j yv))) b = H2 b := fun b z => upd_ne fun w => by subst w; exact z gqa
            have ag2 : ∀ b, gy b ≠ 0 → (upd H2 a (.lst (ys.set j yv))) b = H2 b := fun b z => upd_ne fun w => by subst w; exact z gya
            obtain ⟨g', rr, lg'⟩ := Reps.set (Rep.mono (Same.refl _) ag2 (ry.ext exx)) j (Reps.mono (Same.refl _) ag rsq)
            obtain ⟨f', sr, st4⟩ := wr a (.lst (ys.set j yv)) _ (by omega) (⟨a, _, g', rfl, upd_same, rr, rfl⟩ : Rep X.K ct F2 (upd H2 a (.lst (ys.set j yv))) (.lst true (qs.set j y)) (.ref a) (bump a g')) (fun b => by
              have e1 : gs3 b = (if b = a then 1 else 0) + gq b := by rw [egq]; rfl
              have := lg' b
              show (if b = a then 1 else 0) + g' b ≤ gs3 b + gy b
              omega)
            exact q σ F2 _ f' (stp2.trans st4) sr Pin.refl
      | _ => cases es
    · cases e
  · cases e
end
end Mini
namespace Mini
open PySem PySem.Spec PyProof.Rows L2
/-! x = e where e raises -/
section
variable {ct : Nat → Addr} {X : Cx} {pn : Nat → Bool} {W : WX} {e : Expr} {de : Env → Option Nat} {pos : Pos}
theorem ss_setE (i : Nat) {x : Str} {pos' : Pos} (hN : X.N.Nodup) (he : SE ct X W e de) (hi : X.N[i]? = some x := by rfl) (hx : Loc X.env.scope x := by first | exact Or.inl rfl | exact Or.inr rfl)
    (hs : swapsWith e (some (.Name x pos')) pos.line X.env = pure false := by rfl) (hf : X.fn x = true ∨ X.env.scope.names.lookup x = some .local := by first | exact .inl rfl | exact .inr rfl) : SS ct X pn W (.Assign [.Name x pos'] e pos) (dEr de) :=
  PS.imp (ps_set hN hi hx he hs hf) fun D σ H h => er_go h
end
/-! sorted(xs) of ints -/
def insI (i : Int) : List Int → List Int
  | [] => [i]
  | j :: r => if i ≤ j then i :: j :: r else j :: insI i r
def srtI : List Int → List Int
  | [] => []
  | i :: r => insI i (srtI r)
theorem insI_perm (i : Int) : ∀ l : List Int, (insI i l).Perm (i :: l)
  | [] => .refl _
  | j :: r => by
    unfold insI
    split
    · exact .refl _
    · exact ((insI_perm i r).cons j).trans (.swap i j r)
theorem srtI_perm : ∀ l : List Int, (srtI l).Perm l
  | [] => .refl _
  | i :: r => (insI_perm i _).trans ((srtI_perm r).cons i)
theorem insI_srt (i : Int) : ∀ l : List Int, l.Pairwise (· ≤ ·) → (insI i l).Pairwise (· ≤ ·)
  | [], _ => List.pairwise_singleton _ _
  | j :: r, h => by
    obtain ⟨h1, h2⟩ := List.pairwise_cons.mp h
    unfold insI
    split
    · rename_i hij
      exact List.pairwise_cons.mpr ⟨fun k hk => by
        rcases List.mem_cons.mp hk with rfl | hk
        · exact hij
        · exact Int.le_trans hij (h1 k hk), h⟩
    · rename_i hij
      refine List.pairwise_cons.mpr ⟨fun k hk => ?_, insI_srt i r h2⟩
      rcases List.mem_cons.mp ((insI_perm i r).mem_iff.mp hk) with rfl | hk
      · omega
      · exact h1 k hk
theorem srtI_srt : ∀ l : List Int, (srtI l).Pairwise (· ≤ ·)
  | [] => List.Pairwise.nil
  | i :: r => insI_srt i _ (srtI_srt r)
theorem srtI_uniq {l l' : List Int} (p : l'.Perm l) (s : l'.Pairwise (· ≤ ·)) : l' = srtI l :=
  List.Perm.eq_of_pairwise (fun a b _ _ h1 h2 => Int.le_antisymm h1 h2) s (srtI_srt l) (p.trans (srtI_perm l).symm)
def oSort : O → Option O
  | .lst _ os => match intsL os with
    | some ns => some (.lst true ((srtI ns).map .int))
    | none => none
  | _ => none
section
variable {ct : Nat → Addr} {X : Cx} {a b c : Expr} {da db dc : Env → Option O} {k k1 k2 k3 : Bool} {p p2 q pos : Pos}
theorem sx_sorted (hm : X.mg "sorted" = none) (ha : SX ct X k1 a da) (hg : Gl X "sorted" := by rfl) (he : starEach [a] X.env = [(false, eval a X.env)] := by rfl) : SX ct X false (.Call (.Name "sorted" p) [a] [] pos) (dBind da oSort) := by
  refine sx_b1 cr_sortedI ?_ hm (by decide +kernel) ha hg (by decide) (by decide) he
  intro F H x z u f Q le r e q
  unfold oSort at e
  split at e
  · split at e
    · rename_i ns ei
      cases e
      obtain ⟨p, xs, g', rfl, s, rs, _⟩ := Rep.list le r
      have e3 := intsL_reps ei rs
      subst e3
      refine ⟨p, ns, rfl, s, fun ns' l pm sr nl => ?_⟩
      rw [srtI_uniq pm sr]
      exact q.newl le (Reps.ints _) nl
    · cases e
  · cases e
/-! list(range(n)) -/
noncomputable def oLstRg : O → Option O
  | .int j => if rOk j = true ∧ j ≤ 16777216 then some (.lst true (rngs 0 j.toNat)) else none
  | _ => none
theorem sx_listRg (hc : X.calm = true) (hml : X.mg "list" = none) (hm : X.mg "range" = none) (ha : SX ct X k1 a da) (hgl : Gl X "list" := by rfl) (hg : Gl X "range" := by rfl) (na : starEach [a] X.env = (false, eval a X.env) :: starEach [] X.env := by rfl)
    (na2 : starEach [.Call (.Name "range" p2) [a] [] q] X.env = (false, eval (.Call (.Name "range" p2) [a] [] q) X.env) :: starEach [] X.env := by rfl) :
    SX ct X false (.Call (.Name "list" p) [.Call (.Name "range" p2) [a] [] q] [] pos) (dBind da oLstRg) := by
  refine PE.imp (pe_listRg hc hgl hml (prg_1 hg hm ha na) na2) fun σ H Q h => ?_
  obtain ⟨F, ρ, f, o, s, e, q⟩ := h
  obtain ⟨x, e1, e2⟩ := dBind_some e
  refine ⟨F, ρ, f, x, s, e1, fun v F1 H1 g ex r gd => ?_⟩
  unfold oLstRg at e2
  split at e2
  · rename_i j
    split at e2
    · rename_i hj
      cases e2
      obtain ⟨rfl, _⟩ := r
      obtain ⟨b1, b2⟩ := rOk_b hj.1
      refine ⟨j, rfl, ⟨by decide, by decide, b1, b2, by have := hj.2; omega⟩, fun l nl => ?_⟩
      have q1 := q.go (f' := f) ex
      refine Kn.newl (os := rngs 0 j.toNat) q1 ex.le ?_ nl
      unfold rngs rgV
      rw [show (j - 0).toNat = j.toNat by rw [Int.sub_zero]]
      have := Reps.ints (ct := ct) (K := X.K) (F := F1) (H := H1) ((List.range j.toNat).map fun i : Nat => (0 : Int) + (i : Int))
      rw [List.map_map, List.map_map] at this
      exact this
    · cases e2
  · cases e2
end
/-! xs.append(ys.pop(e)) -/
def dAppPop (i j : Nat) (di : Env → Option O) : Env → Option Out := fun ρ => match look ρ i with
  | some (.lst true os) => match look ρ j with
    | some (.lst true ps) => match di ρ with
      | some (.int k) => if isFzs ps = true ∧ 0 ≤ k ∧ k < 4611686018427387904 ∧ os.length < sizeLine ∧ i ≠ j then (match ps[k.toNat]? with
        | some y => some (.nx ((ρ.set j (some (.lst true (ps.eraseIdx k.toNat)))).set i (some (.lst true (os ++ [y])))))
        | none => none) else none
      | _ => none
    | _ => none
  | _ => none
section
variable {ct : Nat → Addr} {X : Cx} {pn : Nat → Bool} {W : WX} {ie : Expr} {di : Env → Option O} {pos p1 p2 p3 p4 apos apos2 : Pos} {k : Bool}
theorem look_set_ne {ρ : Env} {i j : Nat} {o : Option O} (h : i ≠ j) : look (ρ.set j o) i = look ρ i := by
  unfold look
  rw [List.getElem?_set_ne (fun z => h z.symm)]
theorem Reps.eraseZ' {K : PySem.W.Frag} {F H : Hp} {os : List O} {vs : List V} {f : Fp} (n : Nat) (z : isFzs os = true) (h : Reps K ct F H os vs f) : Reps K ct F H (os.eraseIdx n) (vs.eraseIdx n) zf := by
  rw [List.eraseIdx_eq_take_drop_succ, List.eraseIdx_eq_take_drop_succ]
  have t := (h.takeZ n z).1
  have d := (h.dropZ (n + 1) z).1
  have := Reps.app t d
  exact this
theorem isFzs_at : ∀ {os : List O} {n : Nat} {o : O}, isFzs os = true → os[n]? = some o → isFz o = true
  | [], _, _, _, h => by simp at h
  | o1 :: os, 0, o, z, h => by
    cases h
    rw [isFzs, Bool.and_eq_true] at z
    exact z.1
  | o1 :: os, n + 1, o, z, h => by
    rw [isFzs, Bool.and_eq_true] at z
    exact isFzs_at z.2 (by simpa using h)
theorem ss_appPop (i j : Nat) {x y : Str} (hi : SX ct X k ie di) (hN : X.N[i]? = some x := by rfl) (hv : Vis X.env.scope x := by first | exact Or.inl rfl | exact Or.inr (Or.inl rfl) | exact Or.inr (Or.inr rfl)) (hd : (x == ("__debug__" : Str)) = false := by decide)
    (hcd : (x == ("__classdict__" : Str)) = false := by decide) (hN' : X.N[j]? = some y := by rfl) (hv' : Vis X.env.scope y := by first | exact Or.inl rfl | exact Or.inr (Or.inl rfl) | exact Or.inr (Or.inr rfl)) (hd' : (y == ("__debug__" : Str)) = false := by decide)
    (hcd' : (y == ("__classdict__" : Str)) = false := by decide)
    (hstar2 : starEach [ie] X.env = [(false, eval ie X.env)] := by rfl) (hbase2 : attributeBase (.Name y p3) "pop" X.env (eval (.Name y p3) X.env) = eval (.Name y p3) X.env := by rfl) (hline2 : (apos2.endLine == p4.line) = true := by rfl)
    (hstar : starEach [.Call (.Attribute (.Name y p3) "pop" apos2) [ie] [] p4] X.env = [(false, eval (.Call (.Attribute (.Name y p3) "pop" apos2) [ie] [] p4) X.env)] := by rfl) (hbase : attributeBase (.Name x p1) "append" X.env (eval (.Name x p1) X.env) = eval (.Name x p1) X.env := by rfl) (hline : (apos.endLine == p2.line) = true := by rfl)
    (hs : swapsWith (.Call (.Attribute (.Name x p1) "append" apos) [.Call (.Attribute (.Name y p3) "pop" apos2) [ie] [] p4] [] p2) none pos.line X.env = pure false := by rfl) :
    SS ct X pn W (.Expr (.Call (.Attribute (.Name x p1) "append" apos) [.Call (.Attribute (.Name y p3) "pop" apos2) [ie] [] p4] [] p2) pos) (dAppPop i j di) := by
  refine PS.imp (ps_expr (pe_bm PySem.F.plainAttrs_list PySem.F.slot_list_append PySem.F.type_list_append mt_append (pe_var hN hv hd hcd)
    (pa_cons (pe_bm PySem.F.plainAttrs_list PySem.F.slot_list_pop PySem.F.type_list_pop mt_popAt (pe_var hN' hv' hd' hcd') (pa_cons hi pa_nil hstar2) hbase2 (by rw [hstar2]; rfl) hline2 hstar2 rfl) pa_nil hstar) hbase (by rw [hstar]; rfl) hline hstar rfl) hs) fun D σ H h => ?_
  obtain ⟨F, ρ, f, out, s, e, q⟩ := h
  unfold dAppPop at e
  split at e
  · rename_i os eo
    split at e
    · rename_i ps ep
      split at e
      · rename_i kk ei
        split at e
        · rename_i hc
          obtain ⟨hz, h0, h63, hlen, hij⟩ := hc
          split at e
          · rename_i yv ey
            cases e
            obtain ⟨v, g, ev, r, l⟩ := s.rep.get eo
            obtain ⟨a, xs, g0, e1, ha, rs, eg⟩ := r
            subst e1
            obtain ⟨v', g', ev', r', l'⟩ := s.rep.get ep
            obtain ⟨b, zs, h0', e1', hb, rs', eg'⟩ := r'
            subst e1'
            refine ⟨.ref a, ev, .inl ⟨rfl, xs, SqL.of ha⟩, .ref b, ev', .inl ⟨rfl, zs, SqL.of hb⟩, F, ρ, f, .int kk, s, ei, fun iv F2 H2 g2 ex2 ri gd2 => ?_⟩
            obtain ⟨rfl, _⟩ := ri
            have s2 := s.ext ex2
            have st2 := ex2.stp s.wf s.rep.mem (Gd.zero (k := false) (f := f))
            obtain ⟨b', zs', g3, ev3, hb', rs3, z1, z2, lg, wr⟩ := SRep.wlist st2.wf s2.rep ep
            rw [ev'] at ev3
            cases ev3
            have hzs : zs' = zs := by
              have := ex2.hH b _ hb
              rw [hb'] at this
              cases this; rfl
            subst hzs
            have hl : zs'.length = ps.length := rs3.length.symm
            obtain ⟨w, gw, ew, rw', lw⟩ := rs3.at ey
            have hk : kk.toNat < ps.length := (List.getElem?_eq_some_iff.mp ey).1
            refine ⟨b, zs', kk, kk.toNat, w, rfl, rfl, hb', by omega, by omega, by rw [hl]; exact seqIx_nn' h0 (by omega), ew, ?_⟩
            have rz : Reps X.K ct F2 H2 ps zs' zf := by have := rs3.fz0 hz; subst this; exact rs3
            have rr := Reps.mono (H' := upd H2 b (.lst (zs'.eraseIdx kk.toNat))) (Same.refl _) (fun b z => absurd rfl z) (Reps.eraseZ' kk.toNat hz rz)
            obtain ⟨f', sr, st3⟩ := wr _ _ zf rr (fun b => Nat.zero_le _)
            have st4 := st2.trans st3
            have eo' : look (ρ.set j (some (.lst true (ps.eraseIdx kk.toNat)))) i = some (.lst true os) := by rw [look_set_ne hij]; exact eo
            have gwz := rw'.fz0 (isFzs_at hz ey)
            subst gwz
            have wf0 : Wf F2 (upd H2 b (.lst (zs'.eraseIdx kk.toNat))) (fun a => f' a + zf a) := by
              have : (fun a => f' a + zf a) = f' := by funext a; show f' a + 0 = f' a; omega
              rw [this]; exact st4.wf
            obtain ⟨a', xs', g4, ev4, ha', rs4, y1, y2, lg4, wr4⟩ := SRep.wlist wf0 sr eo'
            rw [ev] at ev4
            cases ev4
            refine ⟨a, xs', w, rfl, rfl, ha', by rw [← rs4.length]; exact hlen, ?_⟩
            have ag : ∀ b', g4 b' ≠ 0 → (upd (upd H2 b (.lst (zs'.eraseIdx kk.toNat))) a (.lst (xs' ++ [w]))) b' = (upd H2 b (.lst (zs'.eraseIdx kk.toNat))) b' := fun b' z => upd_ne fun w => by subst w; exact z y1
            have ry : Rep X.K ct F2 (upd (upd H2 b (.lst (zs'.eraseIdx kk.toNat))) a (.lst (xs' ++ [w]))) yv w zf := Rep.mono (Same.refl _) (fun b z => absurd rfl z) rw'
            obtain ⟨f5, sr5, st5⟩ := wr4 (os ++ [yv]) (xs' ++ [w]) _ (Reps.app (Reps.mono (Same.refl _) ag rs4) (Reps.one ry)) fun b => Nat.le_refl _
            refine q σ F2 _ f5 (st4.trans ?_) sr5 Pin.refl
            have : (fun a => f' a + zf a) = f' := by funext a; show f' a + 0 = f' a; omega
            rw [this] at st5
            exact st5
          · cases e
        · cases e
      · cases e
    · cases e
  · cases e
where
  seqIx_nn' {j : Int} {n : Nat} (h0 : 0 ≤ j) (h1 : j < n) : seqIndex? j n = some j.toNat := by
    unfold seqIndex?
    have n0 : ¬ j < 0 := by omega
    simp only [if_neg n0]
    rw [if_pos (by simp [h0, h1])]
end
end Mini
namespace Mini
open PySem PySem.Spec PyProof.Rows L2
/-! x.m(..) that changes x, as an expression -/
noncomputable def dLendR (i c : Nat) (m : Str) (ks : List Bool) (Ff : FnX) (ds : Env → Option (List O)) : Env → Option Rv := fun ρ => match look ρ i with
  | some oi => if isObj c m oi = true then (match ds ρ with
    | some os => if okb ks os = true then (match Ff (oi :: views ks os) with
      | some (.ok r fin) => match look fin 0 with
        | some o' => some (.ok r (ρ.set i (some o')))
        | none => none
      | some (.er e fin) => match look fin 0 with
        | some o' => some (.er e (ρ.set i (some o')))
        | none => none
      | none => none) else none
    | none => none) else none
  | none => none
/-- the same of a method that never raises -/
noncomputable def dLend0 (i c : Nat) (m : Str) (ks : List Bool) (Ff : Fn) (ds : Env → Option (List O)) : Env → Option Rv := fun ρ => match look ρ i with
  | some oi => if isObj c m oi = true then (match ds ρ with
    | some os => if okb ks os = true then (match Ff (oi :: views ks os) with
      | some (r, fin) => match look fin 0 with
        | some o' => some (.ok r (ρ.set i (some o')))
        | none => none
      | none => none) else none
    | none => none) else none
  | none => none
section
variable {ct : Nat → Addr} {K : PySem.W.Frag}
theorem lend_back2 {F1 H1 : Hp} {ρ : Env} {σ : L2.St} {f gv : Fp} {i : Nat} {oi : O} (wf : Wf F1 H1 (fun a => f a + gv a)) (h : SRep K ct F1 H1 ρ σ f) (eo : look ρ i = some oi) :
    ∃ v g, σ[i]? = some (some v) ∧ Rep K ct F1 H1 oi v g ∧ (∀ a, g a ≤ f a) ∧ ∀ (F' H' : Hp) (t gr : Fp) o' g0, Stp F1 H1 (fun a => g a + gv a) F' H' t → Rep K ct F' H' o' v g0 → (∀ a, gr a + g0 a ≤ t a) →
      ∃ f', SRep K ct F' H' (ρ.set i (some o')) σ f' ∧ Stp F1 H1 (fun a => f a + gv a) F' H' (fun a => gr a + f' a) := by
  obtain ⟨g, l, ef0, hl, hf⟩ := SRep.hole i (h.len eo).1 h
  obtain ⟨v, ev, ri⟩ := hl _ eo
  have fl : ∀ a, f a = g a + l a := fun a => by rw [ef0]
  refine ⟨v, g, ev, ri, fun a => by rw [fl]; exact Nat.le_add_right _ _, fun F' H' t gr o' g0 st2 r3 l3 => ?_⟩
  have one : ∀ a, g a + l a + gv a ≤ 1 := fun a => by
    have := wf.one a
    have t : f a + gv a ≤ 1 := this
    rw [fl] at t
    exact t
  have memf : ∀ a, f a ≠ 0 → ∃ u, H1 a = some u ∧ Own u := h.mem
  have rest : ∀ b, l b ≠ 0 → t b = 0 ∧ F' b = none ∧ H' b = H1 b := fun b z => by
    have o1 := one b
    obtain ⟨u, hu, _⟩ := memf b (by rw [fl]; omega)
    have fb : F1 b = none := wf.dj b (by show f b + gv b ≠ 0; rw [fl]; omega)
    have no : ¬ ((t b ≠ 0) ∨ F' b ≠ none) := fun w => by
      rcases st2.new b w with w | w | w
      · exact w fb
      · rw [hu] at w; cases w
      · have w' : g b + gv b ≠ 0 := w
        omega
    refine ⟨Classical.byContradiction fun w => no (.inl w), Classical.byContradiction fun w => no (.inr w), ?_⟩
    rw [hu]
    exact st2.frame b u hu (by show g b + gv b = 0; omega)
  have sr' := (hf F' H' st2.hF fun b z => (rest b z).2.2).1 o' v g0 r3
  rw [set_self ev] at sr'
  refine ⟨_, sr', st2.hF, ⟨st2.wf.le, fun b => ?_, fun b z => ?_⟩, fun b o hb z => ?_, fun b z => ?_⟩
  · show gr b + (g0 b + l b) ≤ 1
    have o1 := one b
    have o2 := l3 b
    by_cases w : l b = 0
    · have o3 : t b ≤ 1 := st2.wf.one b
      omega
    · have := (rest b w).1
      omega
  · have z' : gr b + (g0 b + l b) ≠ 0 := z
    have o2 := l3 b
    by_cases w : l b = 0
    · exact st2.wf.dj b (by omega)
    · exact (rest b w).2.1
  · have z' : f b + gv b = 0 := z
    rw [fl] at z'
    exact st2.frame b o hb (by show g b + gv b = 0; omega)
  · by_cases w : l b = 0
    · have z2 : (t b ≠ 0) ∨ F' b ≠ none := by
        rcases z with z | z
        · have z' : gr b + (g0 b + l b) ≠ 0 := z
          have o2 := l3 b
          exact .inl (by omega)
        · exact .inr z
      rcases st2.new b z2 with y | y | y
      · exact .inl y
      · exact .inr (.inl y)
      · have y' : g b + gv b ≠ 0 := y
        exact .inr (.inr (by show f b + gv b ≠ 0; rw [fl]; omega))
    · exact .inr (.inr (by show f b + gv b ≠ 0; rw [fl]; omega))
end
section
variable {ct : Nat → Addr} {X : Cx} {pn : Nat → Bool} {W : WX} {ks : List Bool} {e : Expr} {es : List Expr} {ds : Env → Option (List O)} {Ff : FnX} {F0 : Fn} {kk : Nat} {y : Str} {p1 apos pos pos2 : Pos} {n : Nat}
/-- the lent object, ahead of the arguments -/
theorem lend_go {F : Hp} {ρ : Env} {f : Fp} {σ : L2.St} {H : Hp} {i c : Nat} {m : Str} {oi : O} {os : List O} {Q' : List V → Hp → Prop} (s : Sit X.K ct F H ρ σ f) (eo : look ρ i = some oi) (hob : isObj c m oi = true) (eos : ds ρ = some os) (hok : okb ks os = true) (hn : ks.length + 1 = n)
    (q : ∀ (v : V) (vs : List V) (F1 H1 : Hp) (g gv : Fp), (v :: vs).length = n → Wf F1 H1 (fun a => g a + gv a) → Reps X.K ct F1 H1 (oi :: views ks os) (v :: vs) (fun a => g a + gv a) →
      (∀ (F' H' : Hp) (t gr : Fp) o' g0, Stp F1 H1 (fun a => g a + gv a) F' H' t → Rep X.K ct F' H' o' v g0 → (∀ a, gr a + g0 a ≤ t a) → ∃ f', SRep X.K ct F' H' (ρ.set i (some o')) σ f' ∧ Stp F H f F' H' (fun a => gr a + f' a)) → Q' (v :: vs) H1) :
    ∃ v, σ[i]? = some (some v) ∧ ∃ a dx fs, v = .ref a ∧ H a = some (.ins (ct c) dx fs) ∧ fs.lookup m = none ∧ tA ct X.K ks ds σ H fun vs H1 => Q' (v :: vs) H1 := by
  obtain ⟨v, gv0, ev, r0, -⟩ := s.rep.get eo
  obtain ⟨w, ns, qs, ei, nf⟩ := isObj_ins hob
  subst ei
  obtain ⟨a, dx, fs, g0, eva, hA, en, -, -⟩ := Rep.inst s.wf.le r0
  subst en
  refine ⟨v, ev, a, dx, fs, eva, hA, noFld_lookup nf, F, ρ, f, os, s, eos, fun vs F1 H1 gb gv ex ar hb' hv => ?_⟩
  have gz := ar.okb hok
  subst gz
  have st := ex.stp s.wf s.rep.mem hv
  have s1 := s.ext ex
  obtain ⟨v1, g, ev1, ri, lg, back⟩ := lend_back2 st.wf s1.rep eo
  rw [ev] at ev1
  cases ev1
  have av := ar.view (Same.refl _) (fun a z => absurd rfl z)
  have wf1 : Wf F1 H1 (fun a => g a + gv a) := st.wf.sub fun a => by have := lg a; show g a + gv a ≤ f a + gv a; omega
  have ln : (v :: vs).length = n := by rw [List.length_cons, ar.len, hn]
  refine q v vs F1 H1 g gv ln wf1 ⟨v, vs, g, gv, rfl, ri, av, rfl⟩ fun F' H' t gr o' g0 st2 r3 l3 => ?_
  obtain ⟨f', h1, h2⟩ := back F' H' t gr o' g0 st2 r3 l3
  exact ⟨f', h1, st.trans h2⟩
theorem sr_lendX (i : Nat) {c : Nat} {m : Str} {k0 : Bool} {pl : Sem Bool} (D : FDMX X.prog X.w X.K X.mg X.base ct kk c m n Ff) (C : Cls X.K (ct c)) (hr : Room kk X.A) (tk : Takes X W) (ha : SA ct X (k0 :: ks) (e :: es) ds) (hn : (k0 :: ks).length + 1 = n := by rfl)
    (hN : X.N[i]? = some y := by rfl) (hv : Vis X.env.scope y := by first | exact Or.inl rfl | exact Or.inr (Or.inl rfl) | exact Or.inr (Or.inr rfl)) (hd : (y == ("__debug__" : Str)) = false := by decide)
    (hcd : (y == ("__classdict__" : Str)) = false := by decide)
    (hst : starEach (e :: es) X.env = (false, eval e X.env) :: starEach es X.env := by rfl) (hpl : (backTo pos (starEach es X.env)).any (·.1) = false := by rfl)
    (ht : eval (.Call (.Attribute (.Name y p1) m apos) (e :: es) [] pos) X.env = (do
      let ov ← eval (.Name y p1) X.env
      standAt apos.atName
      let (f, first) ← holding [ov] (getMethod ov m pl)
      callWith pos f first (backTo pos (starEach (e :: es) X.env)) (backToKw pos (keywordEach [] X.env))) := by rfl) :
    SR ct X W (.Call (.Attribute (.Name y p1) m apos) (e :: es) [] pos) (dLendR i c m (k0 :: ks) Ff ds) := by
  obtain ⟨f0, fd, ps, hps, hF, hm, hb⟩ := D.ex
  refine PE.imp (pe_methAt (pe_var hN hv hd hcd) C hm hF hr hb (fun σ => passAt tk σ) ha hst hpl ht) fun σ H Q h => ?_
  obtain ⟨F, ρ, f, out, s, e, q⟩ := h
  unfold dLendR at e
  cases eo : look ρ i with
  | none => rw [eo] at e; cases e
  | some oi =>
    rw [eo] at e
    dsimp only at e
    split at e
    · rename_i hob
      cases eos : ds ρ with
      | none => rw [eos] at e; cases e
      | some os =>
        rw [eos] at e
        dsimp only at e
        split at e
        · rename_i hok
          refine lend_go (Q' := fun vs H1 => spX ct X.K n Ff vs H1 Q (WE W σ)) s eo hob eos hok hn fun v vs F1 H1 g gv ln wf1 rr back => ?_
          cases er : Ff (oi :: views (k0 :: ks) os) with
          | none => rw [er] at e; cases e
          | some r1 =>
            rw [er] at e
            cases r1 with
            | ok r fin =>
              dsimp only at e
              cases ef : look fin 0 with
              | none => rw [ef] at e; cases e
              | some o' =>
                rw [ef] at e
                cases e
                refine ⟨ln, F1, _, _, _, wf1, rr, er, fun v' F' H' gr gf st2 rv sr => ?_⟩
                obtain ⟨v3, g3, ev3, r3, l3⟩ := sr.get ef
                have e3 : v3 = v := by simp at ev3; exact ev3.symm
                subst e3
                obtain ⟨f', sr', st3⟩ := back F' H' _ gr o' g3 st2 r3 fun a => by have := l3 a; show gr a + g3 a ≤ gr a + gf a; omega
                exact q v' F' H' gr f' st3 rv sr'
            | er c' fin =>
              dsimp only at e
              cases ef : look fin 0 with
              | none => rw [ef] at e; cases e
              | some o' =>
                rw [ef] at e
                cases e
                refine ⟨ln, F1, _, _, _, wf1, rr, er, fun F' H' gf st2 sr => ?_⟩
                obtain ⟨v3, g3, ev3, r3, l3⟩ := sr.get ef
                have e3 : v3 = v := by simp at ev3; exact ev3.symm
                subst e3
                obtain ⟨f', sr', st3⟩ := back F' H' _ zf o' g3 st2 r3 fun a => by have := l3 a; show 0 + g3 a ≤ gf a; omega
                have : (fun a => zf a + f' a) = f' := by funext a; show 0 + f' a = f' a; omega
                rw [this] at st3
                exact q F' H' f' st3 sr'
        · cases e
    · cases e
theorem lend0_go {σ : L2.St} {H : Hp} {Q : VK} {i c : Nat} {m : Str} (hn : ks.length + 1 = n) (h : tR ct X.K W (dLend0 i c m ks F0 ds) σ H Q) :
    ∃ v, σ[i]? = some (some v) ∧ ∃ a dx fs, v = .ref a ∧ H a = some (.ins (ct c) dx fs) ∧ fs.lookup m = none ∧ tA ct X.K ks ds σ H fun vs H1 => spF ct X.K n F0 (v :: (vs ++ [])) H1 Q E0 := by
  obtain ⟨F, ρ, f, out, s, e, q⟩ := h
  unfold dLend0 at e
  cases eo : look ρ i with
  | none => rw [eo] at e; cases e
  | some oi =>
    rw [eo] at e
    dsimp only at e
    split at e
    · rename_i hob
      cases eos : ds ρ with
      | none => rw [eos] at e; cases e
      | some os =>
        rw [eos] at e
        dsimp only at e
        split at e
        · rename_i hok
          have := lend_go (Q' := fun vs H1 => spF ct X.K n F0 vs H1 Q E0) s eo hob eos hok hn fun v vs F1 H1 g gv ln wf1 rr back => by
            cases er : F0 (oi :: views ks os) with
            | none => rw [er] at e; cases e
            | some r1 =>
              obtain ⟨r, fin⟩ := r1
              rw [er] at e
              dsimp only at e
              cases ef : look fin 0 with
              | none => rw [ef] at e; cases e
              | some o' =>
                rw [ef] at e
                cases e
                refine ⟨ln, F1, _, _, _, _, wf1, rr, er, fun v' F' H' gr gf st2 rv sr => ?_⟩
                obtain ⟨v3, g3, ev3, r3, l3⟩ := sr.get ef
                have e3 : v3 = v := by simp at ev3; exact ev3.symm
                subst e3
                obtain ⟨f', sr', st3⟩ := back F' H' _ gr o' g3 st2 r3 fun a => by have := l3 a; show gr a + g3 a ≤ gr a + gf a; omega
                exact q v' F' H' gr f' st3 rv sr'
          obtain ⟨v, h1, a, dx, fs, h2, h3, h4, h5⟩ := this
          refine ⟨v, h1, a, dx, fs, h2, h3, h4, ?_⟩
          obtain ⟨F3, ρ3, f3, os3, s3, e3, q3⟩ := h5
          refine ⟨F3, ρ3, f3, os3, s3, e3, fun vs F' H' gb gv ex' ar hb hv => ?_⟩
          have := q3 vs F' H' gb gv ex' ar hb hv
          show spF ct X.K n F0 (v :: (vs ++ [])) H' Q E0
          rw [List.append_nil]
          exact this
        · cases e
    · cases e
theorem sr_lend (i : Nat) {c : Nat} {m : Str} {k0 : Bool} {pl : Sem Bool} (D : FDM X.prog X.w X.K X.mg X.base ct kk c m n F0) (C : Cls X.K (ct c)) (hr : Room kk X.A) (ha : SA ct X (k0 :: ks) (e :: es) ds) (hn : (k0 :: ks).length + 1 = n := by rfl)
    (hN : X.N[i]? = some y := by rfl) (hv : Vis X.env.scope y := by first | exact Or.inl rfl | exact Or.inr (Or.inl rfl) | exact Or.inr (Or.inr rfl)) (hd : (y == ("__debug__" : Str)) = false := by decide)
    (hcd : (y == ("__classdict__" : Str)) = false := by decide)
    (hst : starEach (e :: es) X.env = (false, eval e X.env) :: starEach es X.env := by rfl) (hpl : (backTo pos (starEach es X.env)).any (·.1) = false := by rfl)
    (ht : eval (.Call (.Attribute (.Name y p1) m apos) (e :: es) [] pos) X.env = (do
      let ov ← eval (.Name y p1) X.env
      standAt apos.atName
      let (f, first) ← holding [ov] (getMethod ov m pl)
      callWith pos f first (backTo pos (starEach (e :: es) X.env)) (backToKw pos (keywordEach [] X.env))) := by rfl) :
    SR ct X W (.Call (.Attribute (.Name y p1) m apos) (e :: es) [] pos) (dLend0 i c m (k0 :: ks) F0 ds) := by
  obtain ⟨f0, fd, ps, hps, hF, hm, hb⟩ := D.ex
  exact PE.imp (pe_meth (pe_var hN hv hd hcd) C hm hF hr hb .nil pass0 ha hst hpl ht) fun σ H Q h => lend0_go hn h
theorem sr_lend0 (i : Nat) {c : Nat} {m : Str} {pl : Sem Bool} (D : FDM X.prog X.w X.K X.mg X.base ct kk c m 1 F0) (C : Cls X.K (ct c)) (hr : Room kk X.A)
    (hN : X.N[i]? = some y := by rfl) (hv : Vis X.env.scope y := by first | exact Or.inl rfl | exact Or.inr (Or.inl rfl) | exact Or.inr (Or.inr rfl)) (hd : (y == ("__debug__" : Str)) = false := by decide)
    (hcd : (y == ("__classdict__" : Str)) = false := by decide)
    (ht : eval (.Call (.Attribute (.Name y p1) m apos) [] [] pos) X.env = (do
      let ov ← eval (.Name y p1) X.env
      standAt apos.atName
      let (f, first) ← holding [ov] (getMethod ov m pl)
      callWith pos f first (backTo pos (starEach [] X.env)) (backToKw pos (keywordEach [] X.env))) := by rfl) :
    SR ct X W (.Call (.Attribute (.Name y p1) m apos) [] [] pos) (dLend0 i c m [] F0 dNil) := by
  obtain ⟨f0, fd, ps, hps, hF, hm, hb⟩ := D.ex
  refine PE.imp (pe_meth0 (pe_var hN hv hd hcd) C hm hF hr hb .nil pass0 ht) fun σ H Q h => ?_
  obtain ⟨v, h1, a, dx, fs, h2, h3, h4, F, ρ, f, os, s, e, q⟩ := lend0_go (ks := []) rfl h
  refine ⟨v, h1, a, dx, fs, h2, h3, h4, ?_⟩
  cases e
  exact q [] F H zf zf (Ext.refl s.wf.le) ⟨rfl, rfl, rfl⟩ (fun _ h => absurd rfl h) Gd.zero
/-! if x.m(..) is not None or C -/
def dIfN (dr : Env → Option Rv) (t : Env → Option Bool) (a b : Env → Option Out) : Env → Option Out := fun ρ => match dr ρ with
  | some (.ok .non ρ') => dIf t a b ρ'
  | _ => none
variable {cl C : Expr} {dr : Env → Option Rv} {t : Env → Option Bool} {da db : Env → Option Out} {a b : List Stmt} {rest : List Expr} {d2 : Env → Option O} {k2 : Bool} {ne : Expr} {cpos bpos : Pos}
theorem ifN_go {D : Ends} {σ : L2.St} {H : Hp} {tb : TE} {tC : TT} {ta2 tb2 : TS} (hne : ∀ σ H Q, tX ct X.K k2 (fun _ => some .non) σ H Q → tb σ H Q) (hC : ∀ σ H Q, tT ct X.K t σ H Q → tC σ H Q) (h1 : ∀ D σ H, tSt ct X.K pn W da D σ H → ta2 D σ H) (h2 : ∀ D σ H, tSt ct X.K pn W db D σ H → tb2 D σ H)
    (h : tSt ct X.K pn W (dIfN dr t da db) D σ H) : tR ct X.K W dr σ H fun x H1 => tb σ H1 fun y H2 => y = .non ∧ ∃ k, V.bl (!decide (x = V.non)) = V.bl k ∧ (if k = true then ta2 D σ H2 else tC σ H2 fun k H3 => if k = true then ta2 D σ H3 else tb2 D σ H3) := by
  obtain ⟨F, ρ, f, out, s, e, q⟩ := h
  unfold dIfN at e
  split at e
  · rename_i ρ' er
    refine ⟨F, ρ, f, _, s, er, fun v F' H' g f' st r sr => ?_⟩
    obtain ⟨rfl, gz⟩ := r
    subst gz
    have st' : Stp F H f F' H' f' := by
      have : (fun a => zf a + f' a) = f' := by funext a; show 0 + f' a = f' a; omega
      rw [this] at st; exact st
    have s1 : Sit X.K ct F' H' ρ' σ f' := ⟨st'.wf, sr⟩
    refine hne _ _ _ ⟨F', ρ', f', .non, s1, rfl, fun v2 F2 H2 g2 ex r2 gd2 => ?_⟩
    obtain ⟨rfl, _⟩ := r2
    refine ⟨rfl, false, by simp, ?_⟩
    rw [if_neg Bool.false_ne_true]
    have s2 := s1.ext ex
    have st2 := st'.trans (ex.stp0 s1.wf s1.rep.mem)
    unfold dIf at e
    split at e
    · rename_i et
      refine hC _ _ _ ⟨F2, ρ', f', true, s2, et, fun F3 H3 ex3 => ?_⟩
      refine iteT ?_
      exact h1 _ _ _ ⟨F3, ρ', f', out, s2.ext ex3, e, q.go (st2.trans (ex3.stp0 s2.wf s2.rep.mem)) Pin.refl⟩
    · rename_i et
      refine hC _ _ _ ⟨F2, ρ', f', false, s2, et, fun F3 H3 ex3 => ?_⟩
      refine iteF ?_
      exact h2 _ _ _ ⟨F3, ρ', f', out, s2.ext ex3, e, q.go (st2.trans (ex3.stp0 s2.wf s2.rep.mem)) Pin.refl⟩
    · cases e
  · cases e
theorem ss_ifNor (he : SR ct X W cl dr) (hn : SX ct X k2 ne (fun _ => some .non)) (hC : SW ct X (.BoolOp .Or (C :: rest) bpos) t) (ha : SSs ct X pn W a da) (hb : SSs ct X pn W b db) (hm : behindInMarks .IsNot ne = false := by rfl) :
    SS ct X pn W (.If (.BoolOp .Or (.Compare cl [.IsNot] [ne] cpos :: C :: rest) bpos) a b pos) (dIfN dr t da db) := by
  refine PS.imp (ps_if (PW.pt (pw_or (pt_cmpR op_notN he hn hm) hC)) ha hb) fun D σ H h => ?_
  exact ifN_go (fun _ _ _ z => z) (fun _ _ _ z => z) (fun _ _ _ z => z) (fun _ _ _ z => z) h
end
/-! C(..) that may raise -/
noncomputable def dMakeR (c : Nat) (ks : List Bool) (Ff : FnX) (ds : Env → Option (List O)) : Env → Option Rv := fun ρ => match ds ρ with
  | some os => match Ff (.ins true c [] [] :: views ks os) with
    | some (.ok .non fin) => match look fin 0 with
      | some o' => if (okb ks os || noFm o') = true then some (.ok o' ρ) else none
      | none => none
    | some (.er e _) => some (.er e ρ)
    | _ => none
  | none => none
section
variable {X : Cx} {CX : CXT} {k : Nat} {f C : Addr} {fd : FuncData} {ps : List Str} {sp : Sp} {x : Str} {p pos : Pos} {e : Expr} {es : List Expr} {t : TA}
theorem made_at {E : XK} {pins : List (Addr × Obj)} {σ : L2.St} {H : Hp} {s : Shared} {Q : VK} {us : List Value} {vs : List V} (M : Mk X.K C f) (Fo : FnOk X.prog X.w X.K X.mg X.base CX k f fd ps sp) (room : Room (k + 1) X.A) (bi : Binds X.K fd ps [])
    (pa : PassesAt CX X σ E) (I : Inv X pins σ H s) (rv : Vals vs us)
    (h : ∀ q dx, H q = none → H dx = none → dx ≠ q → sp (.ref q :: vs) (upd (upd H dx (.own q)) q (.ins C dx [])) (fun v H2 => v = .non ∧ Q (.ref q) H2) E) :
    wpAny (model X.prog X.w) X.A (call (.ref C) us) (EP X pins σ Q) X.xe s := by
  have f1 : H (s.heap.objs.size + 1) = none := I.hok.fresh (Nat.le_succ _)
  have f2 : H s.heap.objs.size = none := I.hok.fresh (Nat.le_refl _)
  have sp1 := h _ _ f1 f2 (Nat.ne_of_lt (Nat.lt_succ_self _))
  have In := Inv.made (C := C) I
  have rr : Vals (V.ref (s.heap.objs.size + 1) :: vs) (Value.ref (s.heap.objs.size + 1) :: us) := .cons rfl rv
  have ln : (Value.ref (s.heap.objs.size + 1) :: us).length = ps.length := by rw [← rr.length, Fo.len _ _ _ _ sp1]
  have b := bi _ (Value.ref (s.heap.objs.size + 1) :: us) In.kIn (by rw [List.append_nil]; exact ln)
  rw [List.append_nil] at b
  have run := Fo.run _ X.stack _ _ ⟨Value.ref (s.heap.objs.size + 1) :: us, []⟩ _ _ _ E (room.make C us []) (In.env0.make C us []) b rr sp1
  refine wpAny_call (make_map (f := f) I.kIn M.makes M.init (beq_iff_eq.mp M.fn) (codeAny_mono run fun out s2 ho => ?_))
  cases out with
  | error er => exact pa pins _ _ er s2 In ho
  | ok w =>
    cases w with
    | ret u =>
      obtain ⟨v, H', I3, rw3, e3, q3⟩ := In.after ho
      subst e3
      exact ⟨rw3, ⟨.ref (s.heap.objs.size + 1), H', I3, rfl, q3⟩⟩
    | next => exact ho.elim
    | brk => exact ho.elim
    | cont => exact ho.elim
def tMakeAt (C : Addr) (sp : Sp) (E : L2.St → XK) (t : TA) : TE := fun σ H Q => t σ H fun vs H1 => ∀ q dx, H1 q = none → H1 dx = none → dx ≠ q →
  sp (.ref q :: vs) (upd (upd H1 dx (.own q)) q (.ins C dx [])) (fun v H2 => v = .non ∧ Q (.ref q) H2) (E σ)
theorem pe_makeAt {E : L2.St → XK} (M : Mk X.K C f) (Fo : FnOk X.prog X.w X.K X.mg X.base CX k f fd ps sp) (room : Room (k + 1) X.A) (g : Gl X x) (m : X.mg x = some (.ref C)) (bi : Binds X.K fd ps []) (pa : ∀ σ, PassesAt CX X σ (E σ))
    (ha : PA X (e :: es) t) (hdb : (x == ("__debug__" : Str)) = false) (he : starEach (e :: es) X.env = (false, eval e X.env) :: starEach es X.env) (hpl : (backTo pos (starEach es X.env)).any (·.1) = false) :
    PE X (.Call (.Name x p) (e :: es) [] pos) (tMakeAt C sp E t) :=
  ⟨fun pins s σ H Q I h => wpAny_Call_Name_kw (ld_glob I g m (PySem.W.callWith_K (h₀ := X.base) I.ok.mod.kin M.kp (thn (ha.run pos pins s σ H _ I h) fun us s1 ⟨_, _, I1, r, q⟩ => ⟨I1.kIn, made_at M Fo room bi (pa σ) I1 r q⟩) he hpl) hdb)⟩
end
section
variable {ct : Nat → Addr} {X : Cx} {W : WX} {ks : List Bool} {e : Expr} {es : List Expr} {ds : Env → Option (List O)} {Ff : FnX} {kk : Nat} {x : Str} {p pos : Pos} {n : Nat}
theorem sr_makeX {c : Nat} {k0 : Bool} (D : FDC X.prog X.w X.K X.mg X.base ct kk c x n Ff) (hr : Room (kk + 1) X.A) (tk : Takes X W) (ha : SA ct X (k0 :: ks) (e :: es) ds) (hn : (k0 :: ks).length = n := by rfl) (hg : Gl X x := by rfl) (hdb : (x == ("__debug__" : Str)) = false := by decide)
    (he : starEach (e :: es) X.env = (false, eval e X.env) :: starEach es X.env := by rfl) (hpl : (backTo pos (starEach es X.env)).any (·.1) = false := by rfl) : SR ct X W (.Call (.Name x p) (e :: es) [] pos) (dMakeR c (k0 :: ks) Ff ds) := by
  obtain ⟨f0, fd, ps, hps, hF, M, hm, hb⟩ := D.ex
  refine PE.imp (pe_makeAt M hF hr hg hm hb (fun σ => passAt tk σ) ha hdb he hpl) fun σ H Q h => ?_
  obtain ⟨F, ρ, f, r, s, e, q⟩ := h
  unfold dMakeR at e
  cases eos : ds ρ with
  | none => rw [eos] at e; cases e
  | some os =>
    rw [eos] at e
    dsimp only at e
    have start : ∀ {F1 H1 : Hp} {gb gv : Fp} {vs : List V} {G : Hp} {a dx : Addr}, Wf G H1 gv → Reps X.K ct G H1 (views (k0 :: ks) os) vs gv → H1 a = none → H1 dx = none → dx ≠ a →
        Stp G H1 gv G (upd (upd H1 dx (.own a)) a (.ins (ct c) dx [])) (fun b => bump a zf b + gv b) ∧ Reps X.K ct G (upd (upd H1 dx (.own a)) a (.ins (ct c) dx [])) (.ins true c [] [] :: views (k0 :: ks) os) (.ref a :: vs) (fun b => bump a zf b + gv b) := fun {F1 H1 gb gv vs G a dx} c1 c2 ha' hdx hne => by
      have Ga : G a = none := none_of_nn fun w => by
        obtain ⟨u, hu⟩ := some_of_ne w
        have := c1.le a u hu
        rw [ha'] at this; cases this
      have hH2 : Same H1 (upd (upd H1 dx (.own a)) a (.ins (ct c) dx [])) := fun b u hu => by
        have n1 : b ≠ a := fun y => by rw [y, ha'] at hu; cases hu
        have n2 : b ≠ dx := fun y => by rw [y, hdx] at hu; cases hu
        rw [upd_ne n1, upd_ne n2]
        exact hu
      have ex2 : Ext G H1 G (upd (upd H1 dx (.own a)) a (.ins (ct c) dx [])) := ⟨Same.refl _, hH2, c1.le.trans hH2, fun b z => .inl z⟩
      have gd2 : Gd false zf H1 G (bump a zf) := Gd.mkn (fun b => by show (if b = a then 1 else 0) + 0 ≤ 1; split <;> omega) (fun b z => by
        by_cases y : b = a
        · subst y; exact ha'
        · exact absurd (by show (if b = a then 1 else 0) + 0 = 0; rw [if_neg y]) z) (fun b z => by
        by_cases y : b = a
        · subst y; exact Ga
        · exact absurd (by show (if b = a then 1 else 0) + 0 = 0; rw [if_neg y]) z)
      refine ⟨(ex2.stp c1 (Reps.mem c2) gd2).sub (f1 := fun b => (bump a zf) b + gv b) fun b => by show _ ≤ gv b + (bump a zf) b; omega, ?_⟩
      have ag : ∀ b, gv b ≠ 0 → (upd (upd H1 dx (.own a)) a (.ins (ct c) dx [])) b = H1 b := fun b z => by
        obtain ⟨u, hu, _⟩ := Reps.mem c2 b z
        rw [hu]
        exact hH2 b u hu
      exact ⟨.ref a, vs, bump a zf, gv, rfl, ⟨a, dx, [], zf, rfl, upd_same, rfl, ⟨rfl, rfl⟩, rfl⟩, Reps.mono (Same.refl _) ag c2, rfl⟩
    cases er : Ff (.ins true c [] [] :: views (k0 :: ks) os) with
    | none => rw [er] at e; cases e
    | some rr =>
      rw [er] at e
      cases rr with
      | ok r0 fin =>
        cases r0 with
        | non =>
          dsimp only at e
          cases ef : look fin 0 with
          | none => rw [ef] at e; cases e
          | some o' =>
            rw [ef] at e
            dsimp only at e
            split at e
            · rename_i cc
              cases e
              refine ⟨F, ρ, f, os, s, eos, fun vs F1 H1 gb gv ex ar hb' hv => fun a dx ha' hdx hne => ?_⟩
              obtain ⟨c1, c2, c3⟩ := call_back s.wf s.rep.mem ex ar hb' hv cc (Kn.of_KR s q)
              obtain ⟨st1, rr⟩ := start (F1 := F1) (gb := gb) c1 c2 ha' hdx hne
              refine ⟨by rw [List.length_cons, ar.len, hn], _, _, _, _, st1.wf, rr, er, fun v F' H' g gf st rv sr => ?_⟩
              obtain ⟨rv1, -⟩ := rv
              obtain ⟨v3, g0, ev3, r3, l3⟩ := sr.get ef
              have e3 : v3 = .ref a := by simp at ev3; exact ev3.symm
              subst e3
              refine ⟨rv1, c3 (.ref a) F' H' g0 zf ((st1.trans st).sub fun b => ?_) r3⟩
              have := l3 b
              show g0 b + 0 ≤ g b + gf b
              omega
            · cases e
        | _ => cases e
      | er c' fin =>
        cases e
        refine ⟨F, ρ, f, os, s, eos, fun vs F1 H1 gb gv ex ar hb' hv => fun a dx ha' hdx hne => ?_⟩
        obtain ⟨c1, c2, c3⟩ := call_back (r := .non) (Q := fun _ _ => True) s.wf s.rep.mem ex ar hb' hv (by simp [noFm]) (fun _ _ _ _ _ _ _ => True.intro)
        obtain ⟨st1, rr⟩ := start (F1 := F1) (gb := gb) c1 c2 ha' hdx hne
        refine ⟨by rw [List.length_cons, ar.len, hn], _, _, _, _, st1.wf, rr, er, fun F' H' gf st0 _ => ?_⟩
        have st := st1.trans st0
        obtain ⟨n1, n2, n3⟩ := hv.n
        have hFc : Same F1 (fun a => if gb a ≠ 0 then H1 a else F1 a) := fun a u hu => by
          show (if gb a ≠ 0 then H1 a else F1 a) = some u
          by_cases z : gb a ≠ 0
          · rw [if_pos z]; exact ex.le a u hu
          · rw [if_neg z]; exact hu
        have hH : Same H H' := fun a o ho => by
          refine st.frame a o (ex.hH a o ho) (Classical.byContradiction fun z => ?_)
          rw [n2 a z] at ho; cases ho
        have e2 : Ext F H (fun a => if gb a ≠ 0 then none else F' a) H' := by
          refine ⟨fun a u hu => ?_, hH, fun a u hu => ?_, fun a z => ?_⟩
          · show (if gb a ≠ 0 then none else F' a) = some u
            rw [if_neg fun z => by rw [s.wf.dj a (hb' a z)] at hu; cases hu]
            exact st.hF a u (hFc a u (ex.hF a u hu))
          · have hu' : (if gb a ≠ 0 then none else F' a) = some u := hu
            by_cases z : gb a ≠ 0
            · rw [if_pos z] at hu'; cases hu'
            · rw [if_neg z] at hu'; exact st.wf.le a u hu'
          · have z' : (if gb a ≠ 0 then none else F' a) ≠ none := z
            by_cases w : gb a ≠ 0
            · rw [if_pos w] at z'; exact absurd rfl z'
            · rw [if_neg w] at z'
              rcases st.new a (.inr z') with y | y | y
              · have y' : (if gb a ≠ 0 then H1 a else F1 a) ≠ none := y
                rw [if_neg w] at y'
                exact ex.new a y'
              · exact .inr (ex.hH.free y)
              · exact .inr (n2 a y)
        exact q _ H' f (e2.stp0 s.wf s.rep.mem) (s.ext e2).rep
end
end Mini
namespace Mini
open PySem PySem.Spec PyProof.Rows L2
/-! ring numbers: sums and powers of w -/
theorem R.add_comm (x y : R) : x.add y = y.add x := R.ext4 (Int.add_comm _ _) (Int.add_comm _ _) (Int.add_comm _ _) (Int.add_comm _ _)
theorem R.add_assoc (x y z : R) : (x.add y).add z = x.add (y.add z) := R.ext4 (Int.add_assoc _ _ _) (Int.add_assoc _ _ _) (Int.add_assoc _ _ _) (Int.add_assoc _ _ _)
theorem R.zero_add (x : R) : R.zero.add x = x := R.ext4 (Int.zero_add _) (Int.zero_add _) (Int.zero_add _) (Int.zero_add _)
theorem R.add_zero (x : R) : x.add R.zero = x := R.ext4 (Int.add_zero _) (Int.add_zero _) (Int.add_zero _) (Int.add_zero _)
theorem R.w_add (x y : R) : (x.add y).w = x.w.add y.w := R.ext4 (by simp only [R.add, R.w]; omega) rfl rfl rfl
theorem R.neg_add (x y : R) : (x.add y).neg = x.neg.add y.neg := R.ext4 (by simp only [R.add, R.neg]; omega) (by simp only [R.add, R.neg]; omega) (by simp only [R.add, R.neg]; omega) (by simp only [R.add, R.neg]; omega)
theorem R.add_neg (x : R) : x.add x.neg = R.zero := R.ext4 (Int.add_right_neg _) (Int.add_right_neg _) (Int.add_right_neg _) (Int.add_right_neg _)
theorem R.neg_neg (x : R) : x.neg.neg = x := R.ext4 (Int.neg_neg _) (Int.neg_neg _) (Int.neg_neg _) (Int.neg_neg _)
theorem R.neg_zero : R.zero.neg = R.zero := rfl
theorem wn_add : ∀ (m n : Nat) (x : R), wn (m + n) x = wn m (wn n x)
  | 0, n, x => by rw [Nat.zero_add]; rfl
  | m + 1, n, x => by rw [show m + 1 + n = (m + n) + 1 by omega]; show (wn (m + n) x).w = _; rw [wn_add m n]; rfl
theorem wn_8 (x : R) : wn 8 x = x := R.ext4 (Int.neg_neg _) (Int.neg_neg _) (Int.neg_neg _) (Int.neg_neg _)
theorem wn_8k : ∀ (k : Nat) (x : R), wn (8 * k) x = x
  | 0, _ => rfl
  | k + 1, x => by rw [show 8 * (k + 1) = 8 + 8 * k by omega, wn_add, wn_8k, wn_8]
theorem wn_mod (n : Nat) (x : R) : wn (n % 8) x = wn n x := by
  conv => rhs; rw [← Nat.mod_add_div n 8]
  rw [wn_add, wn_8k]
theorem wn_eq {m n : Nat} (h : m % 8 = n % 8) (x : R) : wn m x = wn n x := by rw [← wn_mod m, ← wn_mod n, h]
theorem wn_radd : ∀ (n : Nat) (x y : R), wn n (x.add y) = (wn n x).add (wn n y)
  | 0, _, _ => rfl
  | n + 1, x, y => by show (wn n (x.add y)).w = _; rw [wn_radd n, R.w_add]; rfl
theorem wn_z : ∀ n : Nat, wn n R.zero = R.zero
  | 0 => rfl
  | n + 1 => by show (wn n R.zero).w = _; rw [wn_z n]; rfl
theorem wn_neg (n : Nat) (x : R) : wn n x.neg = (wn n x).neg := by rw [← wn4, ← wn4, ← wn_add, ← wn_add, Nat.add_comm]
theorem wn_trn (n m : Nat) (x : R) : trn m (wn n x) = wn n (trn m x) := trn_comm (fun x => wn_tr n x) m x
theorem wn_inj {n : Nat} {x y : R} (h : wn n x = wn n y) : x = y := by
  have e : wn (8 * n - n) (wn n x) = wn (8 * n - n) (wn n y) := by rw [h]
  rw [← wn_add, ← wn_add, show 8 * n - n + n = 8 * n by omega, wn_8k, wn_8k] at e
  exact e

/-! amplitudes: a list of pairs -/
abbrev Amp := List (Nat × R)
def val : Amp → Nat → R
  | [], _ => R.zero
  | (i, x) :: l, j => if i = j then x else val l j
def setA : Amp → Nat → R → Amp
  | [], i, x => [(i, x)]
  | (j, y) :: l, i, x => if j = i then (j, x) :: l else (j, y) :: setA l i x
def keysA (l : Amp) : List Nat := l.map (·.1)
structure AmpOk (N : Nat) (l : Amp) : Prop where
  nd : (keysA l).Nodup
  lt : ∀ i ∈ keysA l, i < N
theorem val_setA : ∀ (l : Amp) (i : Nat) (x : R) (j : Nat), val (setA l i x) j = if i = j then x else val l j
  | [], i, x, j => rfl
  | (k, y) :: l, i, x, j => by
    unfold setA
    by_cases h : k = i
    · subst h
      rw [if_pos rfl]
      unfold val
      split <;> rfl
    · rw [if_neg h]
      unfold val
      rw [val_setA l i x j]
      by_cases q : k = j
      · subst q; rw [if_pos rfl, if_pos rfl, if_neg (fun e => h e.symm)]
      · rw [if_neg q, if_neg q]
theorem keys_setA : ∀ (l : Amp) (i : Nat) (x : R), keysA (setA l i x) = if i ∈ keysA l then keysA l else keysA l ++ [i]
  | [], i, x => rfl
  | (k, y) :: l, i, x => by
    unfold setA
    by_cases h : k = i
    · subst h; rw [if_pos rfl, if_pos (by simp [keysA])]; rfl
    · rw [if_neg h]
      show k :: keysA (setA l i x) = _
      rw [keys_setA l i x]
      by_cases m : i ∈ keysA l
      · rw [if_pos m, if_pos (by show i ∈ k :: keysA l; exact List.mem_cons_of_mem _ m)]; rfl
      · rw [if_neg m, if_neg (by show ¬ i ∈ k :: keysA l; rw [List.mem_cons]; exact fun q => q.elim (fun e => h e.symm) m)]; rfl
theorem AmpOk.set {N : Nat} {l : Amp} {i : Nat} (h : AmpOk N l) (hi : i < N) (x : R) : AmpOk N (setA l i x) := by
  refine ⟨?_, fun j => ?_⟩
  · rw [keys_setA]
    split
    · exact h.nd
    · rename_i m
      refine List.nodup_append.mpr ⟨h.nd, (by simp), fun a ha b hb e => ?_⟩
      rw [List.mem_singleton] at hb
      subst hb e
      exact m ha
  · rw [keys_setA]
    split
    · exact h.lt j
    · intro m
      rcases List.mem_append.mp m with q | q
      · exact h.lt j q
      · rw [List.mem_singleton] at q; omega
theorem nodup_lt_len : ∀ (N : Nat) (l : List Nat), l.Nodup → (∀ i ∈ l, i < N) → l.length ≤ N
  | 0, [], _, _ => Nat.le_refl _
  | 0, a :: l, _, h => absurd (h a (List.mem_cons_self ..)) (Nat.not_lt_zero _)
  | N + 1, l, nd, h => by
    have h1 := nodup_lt_len N (l.erase N) (nd.erase _) (fun i hi => by
      have m := (List.Nodup.mem_erase_iff nd).mp hi
      have := h i m.2
      have := m.1
      omega)
    have h2 := List.length_erase (a := N) (l := l)
    split at h2 <;> omega
theorem AmpOk.len {N : Nat} {l : Amp} (h : AmpOk N l) : l.length ≤ N := by
  have := nodup_lt_len N _ h.nd h.lt
  simpa [keysA] using this
theorem AmpOk.nil (N : Nat) : AmpOk N [] := ⟨List.nodup_nil, fun _ h => nomatch h⟩
/-! as data -/
def ek (l : Amp) : List L2.Key := l.map fun p => .inl (p.1 : Int)
def ev (l : Amp) : List O := l.map fun p => p.2.enc
def aD (w : Bool) (l : Amp) : O := .dct w (ek l) (ev l)
theorem ek_len (l : Amp) : (ek l).length = l.length := by simp [ek]
theorem kFind_amp : ∀ (l : Amp) (i : Nat), kFind (ek l) (ev l) (.inl (i : Int)) = if i ∈ keysA l then some (val l i).enc else none
  | [], i => rfl
  | (k, y) :: l, i => by
    show (if (Sum.inl (k : Int) : L2.Key) = .inl (i : Int) then some y.enc else kFind (ek l) (ev l) (.inl (i : Int))) = _
    by_cases h : k = i
    · subst h
      rw [if_pos rfl, if_pos (by simp [keysA])]
      simp [val]
    · rw [if_neg (fun e => h (by have := Sum.inl.inj e; omega)), kFind_amp l i]
      have e : i ∈ keysA ((k, y) :: l) ↔ i ∈ keysA l := by
        show i ∈ k :: keysA l ↔ _
        rw [List.mem_cons]
        exact ⟨fun q => q.resolve_left fun e => h e.symm, Or.inr⟩
      by_cases m : i ∈ keysA l
      · rw [if_pos m, if_pos (e.mpr m)]; simp [val, h]
      · rw [if_neg m, if_neg (fun q => m (e.mp q))]
theorem val_not {l : Amp} {i : Nat} (h : i ∉ keysA l) : val l i = R.zero := by
  induction l with
  | nil => rfl
  | cons p l ih =>
    obtain ⟨k, y⟩ := p
    have h1 : i ∉ k :: keysA l := h
    rw [List.mem_cons, not_or] at h1
    unfold val
    rw [if_neg (fun e => h1.1 e.symm)]
    exact ih h1.2
theorem kPut_amp : ∀ (l : Amp) (i : Nat) (x : R), (keysA l).Nodup → kPut (ek l) (ev l) (.inl (i : Int)) x.enc = some (ek (setA l i x), ev (setA l i x))
  | [], i, x, _ => rfl
  | (k, y) :: l, i, x, nd => by
    have nd' : (k :: keysA l).Nodup := nd
    rw [List.nodup_cons] at nd'
    show (if (Sum.inl (k : Int) : L2.Key) = .inl (i : Int) then (if ((ek l).any fun y => decide (y = .inl (i : Int))) = true then none else some (.inl (k : Int) :: ek l, x.enc :: ev l)) else match kPut (ek l) (ev l) (.inl (i : Int)) x.enc with
      | some (ks', os') => some (.inl (k : Int) :: ks', y.enc :: os')
      | none => none) = _
    unfold setA
    by_cases h : k = i
    · subst h
      rw [if_pos rfl, if_neg, if_pos rfl]
      · rfl
      · intro q
        obtain ⟨z, hz, e⟩ := List.any_eq_true.mp q
        have e := of_decide_eq_true e
        subst e
        obtain ⟨p, hp, e⟩ := List.mem_map.mp hz
        have : p.1 = k := by have := Sum.inl.inj e; omega
        exact nd'.1 (List.mem_map.mpr ⟨p, hp, this⟩)
    · rw [if_neg (fun e => h (by have := Sum.inl.inj e; omega)), if_neg h, kPut_amp l i x nd'.2]
      rfl
theorem frz_ev : ∀ l : Amp, frzs (ev l) = ev l
  | [] => rfl
  | p :: l => by show frz p.2.enc :: frzs (ev l) = _; rw [frz_ev l]; rfl
theorem fz_ev : ∀ l : Amp, isFzs (ev l) = true
  | [] => rfl
  | p :: l => by show (isFz p.2.enc && isFzs (ev l)) = _; rw [fz_ev l]; rfl
theorem nofm_ev : ∀ l : Amp, noFms (ev l) = true
  | [] => rfl
  | p :: l => by show (noFm p.2.enc && noFms (ev l)) = _; rw [nofm_ev l]; rfl
theorem frz_aD (w : Bool) (l : Amp) : frz (aD w l) = aD false l := by unfold aD; rw [frz, frz_ev]
theorem fz_aD (l : Amp) : isFz (aD false l) = true := by unfold aD; rw [isFz, fz_ev]; rfl
theorem nofm_aD (l : Amp) : noFm (aD true l) = true := by unfold aD; rw [noFm, nofm_ev]; rfl

/-! sums over a list of pairs -/
def sumA (f : Nat → R → R) : Amp → R
  | [] => R.zero
  | (i, x) :: l => (f i x).add (sumA f l)
theorem sumA_zero {f : Nat → R → R} : ∀ {l : Amp}, (∀ p ∈ l, f p.1 p.2 = R.zero) → sumA f l = R.zero
  | [], _ => rfl
  | (i, x) :: l, h => by
    show (f i x).add (sumA f l) = _
    rw [h (i, x) (List.mem_cons_self ..), sumA_zero fun p hp => h p (List.mem_cons_of_mem _ hp), R.zero_add]
theorem sumA_one {f : Nat → R → R} {i0 : Nat} (hz : f i0 R.zero = R.zero) : ∀ {l : Amp}, (keysA l).Nodup → (∀ i x, i ≠ i0 → f i x = R.zero) → sumA f l = f i0 (val l i0)
  | [], _, _ => hz.symm
  | (i, x) :: l, nd, h => by
    have nd' : (i :: keysA l).Nodup := nd
    rw [List.nodup_cons] at nd'
    show (f i x).add (sumA f l) = _
    by_cases e : i = i0
    · subst e
      rw [sumA_zero fun p hp => h p.1 p.2 fun e => nd'.1 (by rw [← e]; exact List.mem_map.mpr ⟨p, hp, rfl⟩), R.add_zero]
      simp [val]
    · rw [h i x e, R.zero_add, sumA_one hz nd'.2 h]
      simp [val, e]
theorem sumA_add (f g : Nat → R → R) : ∀ l : Amp, sumA (fun i x => (f i x).add (g i x)) l = (sumA f l).add (sumA g l)
  | [] => rfl
  | (i, x) :: l => by
    show ((f i x).add (g i x)).add (sumA _ l) = ((f i x).add (sumA f l)).add ((g i x).add (sumA g l))
    rw [sumA_add f g l, R.add_assoc, R.add_assoc, ← R.add_assoc (g i x), R.add_comm (g i x), R.add_assoc]
end Mini
namespace Mini
open PySem PySem.Spec PyProof.Rows L2
/-! bits of naturals -/
def bt (i q : Nat) : Nat := i / 2 ^ q % 2
theorem bt_lt (i q : Nat) : bt i q < 2 := Nat.mod_lt _ (by decide)
theorem bt01 (i q : Nat) : bt i q = 0 ∨ bt i q = 1 := by have := bt_lt i q; omega
theorem bt_test (i q : Nat) : bt i q = (i.testBit q).toNat := by
  unfold bt
  rw [Nat.testBit_eq_decide_div_mod_eq]
  have h : i / 2 ^ q % 2 < 2 := Nat.mod_lt _ (by decide)
  generalize i / 2 ^ q % 2 = z at h ⊢
  match z, h with
  | 0, _ => rfl
  | 1, _ => rfl
theorem eq_of_bt {i j : Nat} (h : ∀ q, bt i q = bt j q) : i = j := Nat.eq_of_testBit_eq fun q => by
  have := h q
  rw [bt_test, bt_test] at this
  cases hi : i.testBit q <;> cases hj : j.testBit q <;> simp [hi, hj] at this ⊢
theorem bt_xor (i j q : Nat) : bt (i ^^^ j) q = (bt i q + bt j q) % 2 := by
  rw [bt_test, bt_test, bt_test, Nat.testBit_xor]
  cases i.testBit q <;> cases j.testBit q <;> rfl
theorem bt_and (i j q : Nat) : bt (i &&& j) q = bt i q * bt j q := by
  rw [bt_test, bt_test, bt_test, Nat.testBit_and]
  cases i.testBit q <;> cases j.testBit q <;> rfl
theorem bt_or (i j q : Nat) : bt (i ||| j) q = bt i q + bt j q - bt i q * bt j q := by
  rw [bt_test, bt_test, bt_test, Nat.testBit_or]
  cases i.testBit q <;> cases j.testBit q <;> rfl
theorem bt_pow (b q r : Nat) (h : b < 2) : bt (b * 2 ^ q) r = if q = r then b else 0 := by
  match b, h with
  | 0, _ => rw [bt_test]; simp
  | 1, _ =>
    rw [bt_test, Nat.one_mul, Nat.testBit_two_pow]
    by_cases e : q = r
    · simp [e]
    · simp [e]
theorem bt_flip (i b q r : Nat) (h : b < 2) : bt (i ^^^ b * 2 ^ q) r = if q = r then (bt i r + b) % 2 else bt i r := by
  rw [bt_xor, bt_pow _ _ _ h]
  have := bt_lt i r
  split
  · rfl
  · omega
theorem xor_lt {i j w : Nat} (h : i < 2 ^ w) (k : j < 2 ^ w) : i ^^^ j < 2 ^ w := Nat.xor_lt_two_pow h k
theorem bpow_lt {b q w : Nat} (h : b < 2) (k : q < w) : b * 2 ^ q < 2 ^ w := by
  have h1 : 2 ^ (q + 1) ≤ 2 ^ w := Nat.pow_le_pow_right (by decide) k
  rw [Nat.pow_succ] at h1
  have h2 : b * 2 ^ q ≤ 1 * 2 ^ q := Nat.mul_le_mul_right _ (by omega)
  have h3 := Nat.two_pow_pos q
  omega
theorem xor_xor_self (i j : Nat) : i ^^^ j ^^^ j = i := by rw [Nat.xor_assoc, Nat.xor_self, Nat.xor_zero]
/-! low part and its neighbour -/
theorem nxor_split (m n : Nat) : m ^^^ n = 2 * (m / 2 ^^^ n / 2) + (m % 2 + n % 2) % 2 := by
  have h1 : (m ^^^ n) / 2 = m / 2 ^^^ n / 2 := Nat.xor_div_two
  have h2 : (m ^^^ n) % 2 = (m % 2 + n % 2) % 2 := by
    have := bt_xor m n 0
    simpa [bt] using this
  omega
theorem xor_pow_add : ∀ (q i : Nat), bt i q = 1 → (i ^^^ 2 ^ q) + 2 ^ q = i
  | 0, i, h => by
    have h' : i % 2 = 1 := by simpa [bt] using h
    rw [Nat.pow_zero, nxor_split, h']
    simp
    omega
  | q + 1, i, h => by
    have h' : bt (i / 2) q = 1 := by
      unfold bt at h ⊢
      rw [Nat.div_div_eq_div_mul, ← Nat.pow_succ']
      exact h
    have ih := xor_pow_add q (i / 2) h'
    have e : 2 ^ (q + 1) / 2 = 2 ^ q := by rw [Nat.pow_succ]; omega
    have e2 : 2 ^ (q + 1) % 2 = 0 := by rw [Nat.pow_succ]; omega
    have e3 : 2 ^ (q + 1) = 2 * 2 ^ q := by rw [Nat.pow_succ]; omega
    rw [nxor_split, e, e2]
    omega
theorem sub_flip (i q : Nat) : i - bt i q * 2 ^ q = i ^^^ bt i q * 2 ^ q ∧ bt i q * 2 ^ q ≤ i := by
  rcases bt01 i q with h | h
  · rw [h]; simp
  · rw [h, Nat.one_mul]
    have := xor_pow_add q i h
    omega
/-- the neighbour above -/
theorem add_flip (i q : Nat) (h : bt i q = 0) : i + 2 ^ q = i ^^^ 2 ^ q := by
  have e : bt (i ^^^ 2 ^ q) q = 1 := by
    have := bt_flip i 1 q q (by decide)
    rw [Nat.one_mul, if_pos rfl, h] at this
    exact this
  have := xor_pow_add q _ e
  rw [xor_xor_self] at this
  exact this.symm ▸ rfl
/-! ints that are naturals -/
theorem natAnd (i j : Nat) : Builtin.bitAnd (i : Int) (j : Int) = ((i &&& j : Nat) : Int) := by
  rw [bitAnd_pp (by omega) (by omega)]; simp
theorem natOr (i j : Nat) : Builtin.bitOr (i : Int) (j : Int) = ((i ||| j : Nat) : Int) := by
  have e : ((i ||| j : Nat) : Int) + ((i &&& j : Nat) : Int) = (i : Int) + (j : Int) := by
    have : ∀ (n i j : Nat), i ≤ n → (i ||| j) + (i &&& j) = i + j := fun n => by
      induction n with
      | zero => intro i j h; have : i = 0 := by omega
                subst this; simp
      | succ n ih =>
        intro i j h
        by_cases z : i = 0
        · subst z; simp
        · have a := ih (i / 2) (j / 2) (by omega)
          rw [nor_split, nand_split]
          rcases Nat.mod_two_eq_zero_or_one i with p | p <;> rcases Nat.mod_two_eq_zero_or_one j with q | q <;> rw [p, q] <;> omega
    have := this i i j (Nat.le_refl _)
    omega
  have := bitOr_and (i : Int) (j : Int)
  rw [natAnd] at this
  omega
theorem natXor (i j : Nat) : Builtin.bitXor (i : Int) (j : Int) = ((i ^^^ j : Nat) : Int) := by
  have : ∀ (n i j : Nat), i ≤ n → j ≤ n → Builtin.bitXor (i : Int) (j : Int) = ((i ^^^ j : Nat) : Int) := fun n => by
    induction n with
    | zero => intro i j h h'; have : i = 0 := by omega
              have : j = 0 := by omega
              subst_vars; rfl
    | succ n ih =>
      intro i j h h'
      have e := nxor_split i j
      rw [bxor_split, show (i : Int) / 2 = ((i / 2 : Nat) : Int) by omega, show (j : Int) / 2 = ((j / 2 : Nat) : Int) by omega, ih (i / 2) (j / 2) (by omega) (by omega)]
      rcases Nat.mod_two_eq_zero_or_one i with p | p <;> rcases Nat.mod_two_eq_zero_or_one j with q | q <;> rw [p, q] at e <;> rw [show (i : Int) % 2 = ((i % 2 : Nat) : Int) by omega, show (j : Int) % 2 = ((j % 2 : Nat) : Int) by omega, p, q] <;> omega
  exact this (max i j) i j (by omega) (by omega)
theorem natShr (i q : Nat) : (i : Int) / 2 ^ q = ((i / 2 ^ q : Nat) : Int) := by
  rw [Int.natCast_ediv, Int.natCast_pow]; rfl
theorem nat_and1 (i : Nat) : i &&& 1 = i % 2 := Nat.and_one_is_mod i
theorem natBit (i q : Nat) : Builtin.bitAnd ((i : Int) / 2 ^ q) 1 = (bt i q : Int) := by
  rw [natShr, show (1 : Int) = ((1 : Nat) : Int) from rfl, natAnd, nat_and1]; rfl
theorem oShl_n {b q : Nat} (hb : b < 2) (hq : q ≤ 100000) : oShl (.int (b : Int)) (.int (q : Int)) = some (.int ((b * 2 ^ q : Nat) : Int)) := by
  have h : (b : Int).natAbs < 2 ^ 1 := by simpa using hb
  rw [oShl_B h (by omega)]
  simp
theorem oShl_1 {q : Nat} (hq : q ≤ 100000) : oShl (.int 1) (.int (q : Int)) = some (.int ((1 * 2 ^ q : Nat) : Int)) := oShl_n (b := 1) (by decide) hq
/-! texts -/
theorem ofS_iff (a b : String) : (PySem.Str.ofString a = PySem.Str.ofString b) ↔ a = b := by
  constructor
  · intro h
    rw [PySem.Str.ofString_eq_toList, PySem.Str.ofString_eq_toList] at h
    have h1 : (a.toList.map Char.toNat) = (b.toList.map Char.toNat) := by
      have := congrArg (fun s => s.cps.toList) h
      simpa using this
    have inj : ∀ (l m : List Char), l.map Char.toNat = m.map Char.toNat → l = m := by
      intro l
      induction l with
      | nil => intro m h; cases m with
        | nil => rfl
        | cons _ _ => simp at h
      | cons c l ih => intro m h; cases m with
        | nil => simp at h
        | cons d m =>
          simp only [List.map_cons, List.cons.injEq] at h
          rw [ih m h.2, show c = d from Char.toNat_inj.mp h.1]
    exact String.toList_inj.mp (inj _ _ h1)
  · rintro rfl; rfl
theorem beq_dec (a b : Str) : (a == b) = decide (a = b) := by
  by_cases h : a = b
  · subst h; simp
  · rw [decide_eq_false h]; exact beq_eq_false_iff_ne.mpr h
theorem strOk_of (s : String) : PyData.strOk (PySem.Str.ofString s) = true := by
  rw [PySem.Str.ofString_eq_toList]
  unfold PyData.strOk
  simp only [List.all_toArray, List.all_map]
  rw [List.all_eq_true]
  intro c _
  have h := c.valid
  simp only [Function.comp, decide_eq_true_eq]
  rcases h with h | h
  · have : c.toNat < 55296 := h
    omega
  · have := h.2
    exact this
theorem dec_ofS (a b : String) : decide (PySem.Str.ofString a = PySem.Str.ofString b) = decide (a = b) := by
  by_cases h : a = b
  · subst h; simp
  · rw [decide_eq_false h, decide_eq_false (fun e => h ((ofS_iff a b).mp e))]
theorem oEq_s (a b : String) : oEq (.str (PySem.Str.ofString a)) (.str (PySem.Str.ofString b)) = some (.bl (decide (a = b))) := by
  simp [oEq_def, oEq0, toPy, SeqAt.shaped, PyData.canLay0, PyData.depth, PyData.eqv, beq_dec, strOk_of, ofS_iff]
theorem oNe_s (a b : String) : oNe (.str (PySem.Str.ofString a)) (.str (PySem.Str.ofString b)) = some (.bl (!decide (a = b))) := by
  simp [oNe_def, oNe0, toPy, SeqAt.shaped, PyData.canLay0, PyData.depth, PyData.eqv, beq_dec, strOk_of, ofS_iff]
theorem eqF_s (a b : String) : eqF (.str (PySem.Str.ofString a)) (.str (PySem.Str.ofString b)) = decide (a = b) := (beq_dec _ _).trans (dec_ofS a b)
theorem eqF_i (a b : Int) : eqF (.int a) (.int b) = decide (a = b) := by
  show (a == b) = _
  by_cases h : a = b
  · subst h; simp
  · rw [decide_eq_false h]; exact beq_eq_false_iff_ne.mpr h
theorem mulOk_n {i j : Nat} (h : i < 2 ^ 64) (k : j < 2 ^ 64) : mulOk (i : Int) (j : Int) = true := by
  have b : ∀ {i : Nat}, i < 2 ^ 64 → (i : Int).natAbs.log2 < 64 := fun {i} h => by
    rw [Int.natAbs_natCast]
    by_cases z : i = 0
    · subst z; decide
    · exact (Nat.log2_lt z).mpr h
  have h1 := b h
  have h2 := b k
  rw [mulOk_def]
  exact decide_eq_true (by omega)
theorem oMul_n {i j : Nat} (h : i < 2 ^ 64) (k : j < 2 ^ 64) : oMul (.int (i : Int)) (.int (j : Int)) = some (.int ((i * j : Nat) : Int)) := by
  show (if mulOk (i : Int) (j : Int) = true then some (O.int ((i : Int) * (j : Int))) else none) = _
  rw [if_pos (mulOk_n h k), Int.natCast_mul]
theorem mulOk_s {i j : Int} (h : i.natAbs < 2 ^ 64) (k : j.natAbs < 2 ^ 64) : mulOk i j = true := by
  have b : ∀ {i : Nat}, i < 2 ^ 64 → i.log2 < 64 := fun {i} h => by
    by_cases z : i = 0
    · subst z; decide
    · exact (Nat.log2_lt z).mpr h
  have h1 := b h
  have h2 := b k
  rw [mulOk_def]
  exact decide_eq_true (by omega)
theorem oMul_b {i j : Int} (h : i.natAbs < 2 ^ 64) (k : j.natAbs < 2 ^ 64) : oMul (.int i) (.int j) = some (.int (i * j)) := by
  show (if mulOk i j = true then some (O.int (i * j)) else none) = _
  rw [if_pos (mulOk_s h k)]
end Mini
namespace Mini
open PySem PySem.Spec PyProof.Rows L2
theorem sumA_snoc (f : Nat → R → R) : ∀ (l : Amp) (p : Nat × R), sumA f (l ++ [p]) = (sumA f l).add (f p.1 p.2)
  | [], p => by show (f p.1 p.2).add R.zero = R.zero.add (f p.1 p.2); rw [R.add_comm]
  | (i, x) :: l, p => by
    show (f i x).add (sumA f (l ++ [p])) = ((f i x).add (sumA f l)).add (f p.1 p.2)
    rw [sumA_snoc f l p, R.add_assoc]
theorem lFor_amp {dg : O → Env → Option Env} {body : Env → Option Out} (P : Amp → Env → Prop) (l : Amp) (ρ : Env) (h0 : P [] ρ)
    (hs : ∀ d p r ρ, l = d ++ p :: r → P d ρ → ∃ ρ1 ρ2, dg (.int (p.1 : Int)) ρ = some ρ1 ∧ body ρ1 = some (.nx ρ2) ∧ P (d ++ [p]) ρ2) : ∃ ρ', lFor dg body ((ek l).map keyB) ρ = some (.nx ρ') ∧ P l ρ' := by
  have key : ∀ (r d : Amp) (ρ : Env), l = d ++ r → P d ρ → ∃ ρ', lFor dg body ((ek r).map keyB) ρ = some (.nx ρ') ∧ P l ρ' := by
    intro r
    induction r with
    | nil => intro d ρ e h; rw [List.append_nil] at e; subst e; exact ⟨ρ, rfl, h⟩
    | cons p r ih =>
      intro d ρ e h
      obtain ⟨ρ1, ρ2, e1, e2, h2⟩ := hs d p r ρ e h
      obtain ⟨ρ', e3, h3⟩ := ih (d ++ [p]) ρ2 (by rw [e]; simp) h2
      refine ⟨ρ', ?_, h3⟩
      show lFor dg body (.int (p.1 : Int) :: (ek r).map keyB) ρ = _
      rw [lFor, e1]
      dsimp only
      rw [e2]
      exact e3
  exact key l [] ρ rfl h0
theorem val_mem {l : Amp} (nd : (keysA l).Nodup) {i : Nat} {x : R} (h : (i, x) ∈ l) : val l i = x := by
  induction l with
  | nil => nomatch h
  | cons p l ih =>
    obtain ⟨k, y⟩ := p
    have nd' : (k :: keysA l).Nodup := nd
    rw [List.nodup_cons] at nd'
    unfold val
    rcases List.mem_cons.mp h with e | e
    · cases e; rw [if_pos rfl]
    · have : k ≠ i := fun q => nd'.1 (by rw [q]; exact List.mem_map.mpr ⟨(i, x), e, rfl⟩)
      rw [if_neg this]
      exact ih nd'.2 e
/-! gates -/
inductive K1 where | H | X | Y | Z | S | SDG | T | TDG
  deriving DecidableEq
inductive K2 where | CX | CZ | SWAP
  deriving DecidableEq
inductive Gate where
  | one (k : K1) (q : Nat)
  | two (k : K2) (a b : Nat)
  | w
  deriving DecidableEq
def K1.nm : K1 → Str
  | .H => PySem.Str.ofString "H" | .X => PySem.Str.ofString "X" | .Y => PySem.Str.ofString "Y" | .Z => PySem.Str.ofString "Z" | .S => PySem.Str.ofString "S" | .SDG => PySem.Str.ofString "SDG" | .T => PySem.Str.ofString "T" | .TDG => PySem.Str.ofString "TDG"
def K2.nm : K2 → Str
  | .CX => PySem.Str.ofString "CX" | .CZ => PySem.Str.ofString "CZ" | .SWAP => PySem.Str.ofString "SWAP"
def Gate.enc : Gate → O
  | .one k q => .tup [.str k.nm, .tup [.int (q : Int)]]
  | .two k a b => .tup [.str k.nm, .tup [.int (a : Int), .int (b : Int)]]
  | .w => .tup [.str (PySem.Str.ofString "W"), .tup []]
def Gate.fits (n : Nat) : Gate → Prop
  | .one _ q => q < n
  | .two _ a b => a < n ∧ b < n ∧ a ≠ b
  | .w => True
def Gate.isH : Gate → Bool
  | .one .H _ => true
  | _ => false
/-- the steps of the diagonal kinds -/
def K1.st : K1 → Nat
  | .Z => 4 | .S => 2 | .SDG => 6 | .T => 1 | .TDG => 7 | _ => 0
/-- where a gate other than H carries an index, and the steps -/
def mvi : Gate → Nat → Nat
  | .one .X q, i => i ^^^ 1 * 2 ^ q
  | .one .Y q, i => i ^^^ 1 * 2 ^ q
  | .one _ _, i => i
  | .two .CX a b, i => i ^^^ bt i a * 2 ^ b
  | .two .CZ _ _, i => i
  | .two .SWAP a b, i => i ^^^ ((bt i a + bt i b) % 2) * 2 ^ a ^^^ ((bt i a + bt i b) % 2) * 2 ^ b
  | .w, i => i
def mvs : Gate → Nat → Nat
  | .one .X _, _ => 0
  | .one .Y q, i => 2 + 4 * bt i q
  | .one k q, i => k.st * bt i q
  | .two .CZ a b, i => 4 * bt i a * bt i b
  | .two _ _ _, _ => 0
  | .w, _ => 1
def gop (g : Gate) (A : Nat → R) : Nat → R := match g with
  | .one .H q => fun j => if bt j q = 1 then (A (j ^^^ 1 * 2 ^ q)).add (A j).neg else (A j).add (A (j ^^^ 1 * 2 ^ q))
  | g => fun j => wn (mvs g (mvi g j)) (A (mvi g j))
theorem mvi_inv {n : Nat} {g : Gate} (f : g.fits n) (i : Nat) : mvi g (mvi g i) = i := by
  cases g with
  | one k q => cases k <;> simp only [mvi, xor_xor_self]
  | two k a b =>
    obtain ⟨_, _, h⟩ := (show a < n ∧ b < n ∧ a ≠ b from f)
    cases k with
    | CX =>
      simp only [mvi]
      rw [bt_flip _ _ _ _ (bt_lt i a), if_neg (fun e => h e.symm), xor_xor_self]
    | CZ => rfl
    | SWAP =>
      simp only [mvi]
      have c2 : (bt i a + bt i b) % 2 < 2 := Nat.mod_lt _ (by decide)
      have e : ∀ r, bt (i ^^^ ((bt i a + bt i b) % 2) * 2 ^ a ^^^ ((bt i a + bt i b) % 2) * 2 ^ b) r = if r = a then bt i b else if r = b then bt i a else bt i r := fun r => by
        have p := bt01 i a
        have q := bt01 i b
        rw [bt_flip _ _ _ _ c2, bt_flip _ _ _ _ c2]
        rcases Decidable.em (a = r) with ra | ra <;> rcases Decidable.em (b = r) with rb | rb
        · exact absurd (ra.trans rb.symm) h
        · subst ra; rw [if_neg rb, if_pos rfl, if_pos rfl]; omega
        · subst rb; rw [if_pos rfl, if_neg ra, if_neg (fun e => ra e.symm), if_pos rfl]; omega
        · rw [if_neg rb, if_neg ra, if_neg (fun e => ra e.symm), if_neg (fun e => rb e.symm)]
      refine eq_of_bt fun r => ?_
      have ha := e a
      have hb := e b
      rw [if_pos rfl] at ha
      rw [if_neg (fun z => h z.symm), if_pos rfl] at hb
      generalize hm : i ^^^ ((bt i a + bt i b) % 2) * 2 ^ a ^^^ ((bt i a + bt i b) % 2) * 2 ^ b = m at *
      have c2' : (bt m a + bt m b) % 2 < 2 := Nat.mod_lt _ (by decide)
      rw [bt_flip _ _ _ _ c2', bt_flip _ _ _ _ c2', e r, ha, hb]
      have p := bt01 i a
      have q := bt01 i b
      rcases Decidable.em (a = r) with ra | ra <;> rcases Decidable.em (b = r) with rb | rb
      · exact absurd (ra.trans rb.symm) h
      · subst ra; rw [if_neg rb, if_pos rfl, if_pos rfl]; omega
      · subst rb; rw [if_pos rfl, if_neg ra, if_neg (fun e => ra e.symm), if_pos rfl]; omega
      · rw [if_neg rb, if_neg ra, if_neg (fun e => ra e.symm), if_neg (fun e => rb e.symm)]
  | w => rfl
theorem mvi_lt {n : Nat} {g : Gate} (f : g.fits n) {i : Nat} (h : i < 2 ^ n) : mvi g i < 2 ^ n := by
  cases g with
  | one k q =>
    have hq : q < n := f
    cases k <;> simp only [mvi] <;> first | exact h | exact xor_lt h (bpow_lt (by decide) hq)
  | two k a b =>
    obtain ⟨h1, h2, _⟩ := (show a < n ∧ b < n ∧ a ≠ b from f)
    cases k with
    | CX => exact xor_lt h (bpow_lt (bt_lt _ _) h2)
    | CZ => exact h
    | SWAP => exact xor_lt (xor_lt h (bpow_lt (Nat.mod_lt _ (by decide)) h1)) (bpow_lt (Nat.mod_lt _ (by decide)) h2)
  | w => exact h
/-- what one entry brings -/
def gct (g : Gate) (j : Nat) : Nat → R → R := match g with
  | .one .H q => fun i x => (if i ^^^ bt i q * 2 ^ q = j then x else R.zero).add (if (i ^^^ bt i q * 2 ^ q) ^^^ 1 * 2 ^ q = j then wn (4 * bt i q) x else R.zero)
  | g => fun i x => if mvi g i = j then wn (mvs g i) x else R.zero
theorem lo_of {i q : Nat} : bt (i ^^^ bt i q * 2 ^ q) q = 0 := by
  rw [bt_flip _ _ _ _ (bt_lt i q), if_pos rfl]
  have := bt01 i q
  omega
theorem if_z (c : Prop) [Decidable c] : (if c then R.zero else R.zero) = R.zero := by split <;> rfl
theorem sum_gop {n : Nat} {g : Gate} (f : g.fits n) {l : Amp} (nd : (keysA l).Nodup) (j : Nat) : sumA (gct g j) l = gop g (val l) j := by
  by_cases hH : ∃ q, g = .one .H q
  · obtain ⟨q, rfl⟩ := hH
    show sumA (fun i x => (if i ^^^ bt i q * 2 ^ q = j then x else R.zero).add (if (i ^^^ bt i q * 2 ^ q) ^^^ 1 * 2 ^ q = j then wn (4 * bt i q) x else R.zero)) l = _
    show _ = (if bt j q = 1 then (val l (j ^^^ 1 * 2 ^ q)).add (val l j).neg else (val l j).add (val l (j ^^^ 1 * 2 ^ q)))
    have fb : ∀ i, bt (i ^^^ 1 * 2 ^ q) q = 1 - bt i q := fun i => by
      rw [bt_flip _ _ _ _ (by decide), if_pos rfl]
      have := bt01 i q
      omega
    -- split by the bit of the source
    have sp : ∀ (i : Nat) (x : R), ((if i ^^^ bt i q * 2 ^ q = j then x else R.zero).add (if (i ^^^ bt i q * 2 ^ q) ^^^ 1 * 2 ^ q = j then wn (4 * bt i q) x else R.zero))
        = (if i = j then (if bt j q = 1 then x.neg else x) else R.zero).add (if i = j ^^^ 1 * 2 ^ q then x else R.zero) := fun i x => by
      rcases bt01 i q with h | h
      · rw [h, Nat.zero_mul, Nat.xor_zero]
        by_cases e : i = j
        · subst e
          have ne : ¬ i = i ^^^ 1 * 2 ^ q := fun z => by have := fb i; rw [← z] at this; omega
          rw [if_pos rfl, if_pos rfl, if_neg (fun z => ne z.symm), if_neg ne, if_neg (by omega)]
        · rw [if_neg e, if_neg e]
          by_cases e2 : i = j ^^^ 1 * 2 ^ q
          · rw [if_pos e2, if_pos (by rw [e2, xor_xor_self])]; rfl
          · rw [if_neg e2, if_neg (fun z => e2 (by rw [← z, xor_xor_self]))]
      · rw [h, xor_xor_self]
        by_cases e : i = j
        · subst e
          have ne : ¬ i = i ^^^ 1 * 2 ^ q := fun z => by have := fb i; rw [← z] at this; omega
          rw [if_pos rfl, if_pos rfl, if_neg (fun z => ne z.symm), if_neg ne, if_pos h, R.add_comm]; rfl
        · rw [if_neg e, if_neg e]
          by_cases e2 : i = j ^^^ 1 * 2 ^ q
          · rw [if_pos e2, if_pos (by rw [e2, xor_xor_self]), R.add_comm]
          · rw [if_neg e2, if_neg (fun z => e2 (by rw [← z, xor_xor_self])), R.add_comm]
    rw [show (fun i x => (if i ^^^ bt i q * 2 ^ q = j then x else R.zero).add (if (i ^^^ bt i q * 2 ^ q) ^^^ 1 * 2 ^ q = j then wn (4 * bt i q) x else R.zero))
        = fun i x => (if i = j then (if bt j q = 1 then x.neg else x) else R.zero).add (if i = j ^^^ 1 * 2 ^ q then x else R.zero) from funext fun i => funext fun x => sp i x]
    rw [sumA_add (fun i x => if i = j then (if bt j q = 1 then x.neg else x) else R.zero) (fun i x => if i = j ^^^ 1 * 2 ^ q then x else R.zero)]
    rw [sumA_one (f := fun i x => if i = j then (if bt j q = 1 then x.neg else x) else R.zero) (i0 := j) (by rw [if_pos rfl, R.neg_zero, if_z]) nd fun i x e => if_neg e]
    rw [sumA_one (f := fun i x => if i = j ^^^ 1 * 2 ^ q then x else R.zero) (i0 := j ^^^ 1 * 2 ^ q) (if_pos rfl) nd fun i x e => if_neg e]
    rw [if_pos rfl, if_pos rfl]
    split
    · rw [R.add_comm]
    · rfl
  · have e1 : gct g j = fun i x => if mvi g i = j then wn (mvs g i) x else R.zero := by
      unfold gct
      split
      · rename_i q; exact absurd ⟨q, rfl⟩ hH
      · rfl
    have e2 : gop g (val l) j = wn (mvs g (mvi g j)) (val l (mvi g j)) := by
      unfold gop
      split
      · rename_i q; exact absurd ⟨q, rfl⟩ hH
      · rfl
    rw [e1, e2, sumA_one (f := fun i x => if mvi g i = j then wn (mvs g i) x else R.zero) (i0 := mvi g j) (by rw [wn_z, if_z]) nd]
    · rw [if_pos (mvi_inv f j)]
    · intro i x h
      exact if_neg fun e => h (by rw [← e, mvi_inv f])
theorem gop_ne {g : Gate} (h : g.isH = false) (A : Nat → R) (j : Nat) : gop g A j = wn (mvs g (mvi g j)) (A (mvi g j)) := by
  unfold gop
  split
  · simp [Gate.isH] at h
  · rfl
theorem gct_ne {g : Gate} (h : g.isH = false) (j i : Nat) (x : R) : gct g j i x = if mvi g i = j then wn (mvs g i) x else R.zero := by
  unfold gct
  split
  · simp [Gate.isH] at h
  · rfl
theorem isH_iff (g : Gate) : g.isH = true ↔ ∃ q, g = .one .H q := by
  constructor
  · intro h
    unfold Gate.isH at h
    split at h
    · exact ⟨_, rfl⟩
    · cases h
  · rintro ⟨q, rfl⟩; rfl
def gops : List Gate → (Nat → R) → Nat → R
  | [], A => A
  | g :: gs, A => gops gs (gop g A)
def hs : List Gate → Nat
  | [] => 0
  | g :: gs => (if g.isH then 1 else 0) + hs gs
def dl (i : Nat) : Nat → R := fun j => if i = j then ⟨1, 0, 0, 0⟩ else R.zero
end Mini
namespace Mini
open PySem PySem.Spec PyProof.Rows L2
theorem oDIdx_aD (w : Bool) (l : Amp) (i : Nat) : oDIdx (aD w l) (.int (i : Int)) = kFind (ek l) (ev l) (.inl (i : Int)) := rfl
theorem oGet2_aD (w : Bool) (l : Amp) (i : Nat) (x : R) : oGet2 (aD w l) (.int (i : Int)) x.enc = some (if i ∈ keysA l then (val l i).enc else x.enc) := by
  show (match kFind (ek l) (ev l) (.inl (i : Int)) with
    | some o => some o
    | none => if isFz x.enc = true then some x.enc else none) = _
  rw [kFind_amp]
  by_cases m : i ∈ keysA l
  · rw [if_pos m, if_pos m]
  · rw [if_neg m, if_neg m]
    simp [isFz, isFzs]
theorem oGet2_aD0 (w : Bool) (l : Amp) (i : Nat) : oGet2 (aD w l) (.int (i : Int)) (.tup [.int 0, .int 0, .int 0, .int 0]) = some (val l i).enc := by
  have h := oGet2_aD w l i R.zero
  rw [show R.zero.enc = .tup [.int 0, .int 0, .int 0, .int 0] from rfl] at h
  rw [h]
  by_cases m : i ∈ keysA l
  · rw [if_pos m]
  · rw [if_neg m, val_not m]; rfl
theorem dForK_aD {i : Nat} {dg : O → Env → Option Env} {body : Env → Option Out} {ρ ρ' : Env} {l : Amp} (h : look ρ i = some (aD false l)) (e : lFor dg body ((ek l).map keyB) ρ = some (.nx ρ')) : dForK i dg body ρ = some (.nx ρ') := by
  unfold dForK
  rw [h]
  show (match lFor dg body ((ek l).map keyB) ρ with
    | some (.er _ _) => none
    | r => r) = _
  rw [e]
theorem dSeq_nx {a b : Env → Option Out} {ρ ρ' : Env} (h : a ρ = some (.nx ρ')) : dSeq a b ρ = b ρ' := by
  unfold dSeq; rw [h]
theorem AmpOk.key {N : Nat} {d r : Amp} {p : Nat × R} {l : Amp} (h : AmpOk N l) (e : l = d ++ p :: r) : p.1 ∈ keysA l ∧ val l p.1 = p.2 ∧ p.1 < N := by
  have m : p ∈ l := by rw [e]; simp
  have k : p.1 ∈ keysA l := List.mem_map.mpr ⟨p, m, rfl⟩
  exact ⟨k, val_mem h.nd m, h.lt _ k⟩
theorem oDIdx_at {N : Nat} {d r : Amp} {p : Nat × R} {l : Amp} (h : AmpOk N l) (e : l = d ++ p :: r) (w : Bool) : oDIdx (aD w l) (.int (p.1 : Int)) = some p.2.enc := by
  obtain ⟨k, v, _⟩ := h.key e
  rw [oDIdx_aD, kFind_amp, if_pos k, v]
theorem keysA_snoc (d : Amp) (p : Nat × R) : keysA (d ++ [p]) = keysA d ++ [p.1] := by simp [keysA]
end Mini
namespace Mini
open PySem PySem.Spec PyProof.Rows L2
theorem oMax_sub (a b : Nat) : oMax (.int 0) (.int ((a : Int) - (b : Int))) = some (.int ((a - b : Nat) : Int)) := by
  show some (O.int (if (a : Int) - b > 0 then (a : Int) - b else 0)) = _
  split <;> congr 2 <;> omega
theorem lFor_ints {dg : O → Env → Option Env} {body : Env → Option Out} (P : Env → Prop) : ∀ (ns : List Nat) (ρ : Env), P ρ →
    (∀ i ∈ ns, ∀ ρ, P ρ → ∃ ρ1 ρ2, dg (.int (i : Int)) ρ = some ρ1 ∧ body ρ1 = some (.nx ρ2) ∧ P ρ2) → ∃ ρ', lFor dg body (ns.map fun i : Nat => O.int (i : Int)) ρ = some (.nx ρ') ∧ P ρ'
  | [], ρ, h, _ => ⟨ρ, rfl, h⟩
  | i :: ns, ρ, h, hs => by
    obtain ⟨ρ1, ρ2, e1, e2, h2⟩ := hs i (List.mem_cons_self ..) ρ h
    obtain ⟨ρ', e3, h3⟩ := lFor_ints P ns ρ2 h2 fun j hj => hs j (List.mem_cons_of_mem _ hj)
    refine ⟨ρ', ?_, h3⟩
    rw [List.map_cons, lFor, e1]
    dsimp only
    rw [e2]
    exact e3
theorem ek_kO (l : Amp) : (ek l).map kO = (keysA l).map fun i : Nat => O.int (i : Int) := by
  unfold ek keysA
  rw [List.map_map, List.map_map]
  rfl
theorem oListD_aD (w : Bool) (l : Amp) : oListD (aD w l) = some (.lst true ((keysA l).map fun i : Nat => O.int (i : Int))) := by
  rw [← ek_kO]; rfl
theorem isFzs_nats : ∀ ns : List Nat, isFzs (ns.map fun i : Nat => O.int (i : Int)) = true
  | [] => rfl
  | n :: ns => by rw [List.map_cons, isFzs, isFzs_nats ns]; rfl
end Mini
namespace Mini
open PySem PySem.Spec PyProof.Rows L2
theorem frzs_nats : ∀ ns : List Nat, frzs (ns.map fun i : Nat => O.int (i : Int)) = ns.map fun i : Nat => O.int (i : Int)
  | [] => rfl
  | n :: ns => by rw [List.map_cons, frzs, frzs_nats ns]; rfl
theorem frzs_app : ∀ a b : List O, frzs (a ++ b) = frzs a ++ frzs b
  | [], _ => rfl
  | x :: a, b => by rw [List.cons_append, frzs, frzs_app a b, frzs]; rfl
theorem isFzs_app : ∀ a b : List O, isFzs (a ++ b) = (isFzs a && isFzs b)
  | [], _ => rfl
  | x :: a, b => by rw [List.cons_append, isFzs, isFzs_app a b, isFzs, Bool.and_assoc]
end Mini
namespace Mini
open PySem PySem.Spec PyProof.Rows L2
theorem dWhile_n {t : Env → Option Bool} {body : Env → Option Out} (P : Nat → Env → Prop) (n : Nat) (ρ : Env) (h0 : P 0 ρ)
    (hs : ∀ k ρ, k < n → P k ρ → t ρ = some true ∧ ∃ ρ', body ρ = some (.nx ρ') ∧ P (k + 1) ρ') (he : ∀ ρ, P n ρ → t ρ = some false) : ∃ ρ', dWhile t body ρ = some (.nx ρ') ∧ P n ρ' := by
  have key : ∀ m k ρ, k + m = n → P k ρ → ∃ ρ', lWhile t body (m + 1) ρ = some (.nx ρ') ∧ P n ρ' := by
    intro m
    induction m with
    | zero =>
      intro k ρ e h
      have : k = n := by omega
      subst this
      refine ⟨ρ, ?_, h⟩
      rw [lWhile, he ρ h]
    | succ m ih =>
      intro k ρ e h
      obtain ⟨h1, ρ', h2, h3⟩ := hs k ρ (by omega) h
      obtain ⟨ρ2, h4, h5⟩ := ih (k + 1) ρ' (by omega) h3
      refine ⟨ρ2, ?_, h5⟩
      rw [lWhile, h1]
      dsimp only
      rw [h2]
      exact h4
  obtain ⟨ρ', h1, h2⟩ := key n 0 ρ (by omega) h0
  exact ⟨ρ', dWhile_of h1, h2⟩
/-- how many bits -/
def nbt (m : Nat) : Nat := if m = 0 then 0 else m.log2 + 1
theorem nbt_lt {m k : Nat} : k < nbt m ↔ 0 < m / 2 ^ k := by
  unfold nbt
  by_cases h : m = 0
  · subst h; simp
  · rw [if_neg h]
    have := Nat.le_log2 h (k := k)
    have p := Nat.two_pow_pos k
    rw [Nat.div_pos_iff]
    omega
theorem nbt_le {m w : Nat} (h : m < 2 ^ w) : nbt m ≤ w := by
  refine Nat.le_of_not_lt fun q => ?_
  have := nbt_lt.mp q
  rw [Nat.div_eq_of_lt h] at this
  omega
theorem bt_hi {i w q : Nat} (h : i < 2 ^ w) (k : w ≤ q) : bt i q = 0 := by
  unfold bt
  rw [Nat.div_eq_of_lt (Nat.lt_of_lt_of_le h (Nat.pow_le_pow_right (by decide) k))]
theorem lt_of_bt {i w : Nat} (h : ∀ q, w ≤ q → bt i q = 0) : i < 2 ^ w := by
  refine Nat.lt_pow_two_of_testBit _ fun q hq => ?_
  have := h q hq
  rw [bt_test] at this
  cases e : i.testBit q <;> simp [e] at this ⊢
/-! Pauli operators -/
structure Pau where
  ph : Nat
  x : Nat
  z : Nat
def Pau.enc (p : Pau) : O := .tup [.int (p.ph : Int), .int (p.x : Int), .int (p.z : Int)]
structure Pau.ok (w : Nat) (p : Pau) : Prop where
  ph : p.ph < 4
  x : p.x < 2 ^ w
  z : p.z < 2 ^ w
def pst : Nat → Nat → Nat → Nat → Nat
  | 0, _, _, _ => 0
  | n + 1, x, z, i => pst n x z i + bt z n * (4 * bt i n + 2 * bt x n)
theorem pst_more {x z i n : Nat} (hz : z < 2 ^ n) : ∀ k, pst (n + k) x z i = pst n x z i
  | 0 => rfl
  | k + 1 => by
    rw [← Nat.add_assoc, pst, pst_more hz k, bt_hi hz (by omega), Nat.zero_mul, Nat.add_zero]
theorem pst_bd : ∀ n x z i, pst n x z i ≤ 6 * n
  | 0, _, _, _ => Nat.le_refl _
  | n + 1, x, z, i => by
    have h1 := pst_bd n x z i
    have h2 := bt_lt z n
    have h3 := bt_lt i n
    have h4 := bt_lt x n
    rw [pst]
    have : bt z n * (4 * bt i n + 2 * bt x n) ≤ 1 * 6 := Nat.mul_le_mul (by omega) (by omega)
    omega
def psteps (w : Nat) (p : Pau) (i : Nat) : Nat := 2 * p.ph + pst w p.x p.z i
def pop (w : Nat) (p : Pau) (A : Nat → R) : Nat → R := fun j => wn (psteps w p (j ^^^ p.x)) (A (j ^^^ p.x))
end Mini
namespace Mini
open PySem PySem.Spec PyProof.Rows L2
def tm (x z i r : Nat) : Nat := bt z r * (4 * bt i r + 2 * bt x r)
theorem pst_same {w x z i x' z' i' : Nat} (h : ∀ r, r < w → tm x' z' i' r = tm x z i r) : pst w x' z' i' = pst w x z i := by
  induction w with
  | zero => rfl
  | succ n ih =>
    show pst n x' z' i' + tm x' z' i' n = pst n x z i + tm x z i n
    rw [ih fun r hr => h r (by omega), h n (by omega)]
theorem pst_upd1 {w x z i x' z' i' q : Nat} (hq : q < w) (h : ∀ r, r ≠ q → tm x' z' i' r = tm x z i r) : pst w x' z' i' + tm x z i q = pst w x z i + tm x' z' i' q := by
  induction w with
  | zero => omega
  | succ n ih =>
    show pst n x' z' i' + tm x' z' i' n + tm x z i q = pst n x z i + tm x z i n + tm x' z' i' q
    by_cases e : q = n
    · subst e
      rw [pst_same fun r hr => h r (by omega)]
      omega
    · have := ih (by omega)
      rw [h n (by omega)]
      omega
theorem pst_upd2 {w x z i x' z' i' a b : Nat} (ha : a < w) (hb : b < w) (hab : a ≠ b) (h : ∀ r, r ≠ a → r ≠ b → tm x' z' i' r = tm x z i r) :
    pst w x' z' i' + (tm x z i a + tm x z i b) = pst w x z i + (tm x' z' i' a + tm x' z' i' b) := by
  induction w with
  | zero => omega
  | succ n ih =>
    show pst n x' z' i' + tm x' z' i' n + (tm x z i a + tm x z i b) = pst n x z i + tm x z i n + (tm x' z' i' a + tm x' z' i' b)
    by_cases e : a = n
    · subst e
      have := pst_upd1 (w := a) (q := b) (x := x) (z := z) (i := i) (x' := x') (z' := z') (i' := i') (by omega) 
      have h2 : pst a x' z' i' + tm x z i b = pst a x z i + tm x' z' i' b := by
        -- below a only b differs
        clear this
        have key : ∀ m, m ≤ a → b < m → pst m x' z' i' + tm x z i b = pst m x z i + tm x' z' i' b := by
          intro m
          induction m with
          | zero => intro _ q; omega
          | succ m ihm =>
            intro hm hbm
            show pst m x' z' i' + tm x' z' i' m + tm x z i b = pst m x z i + tm x z i m + tm x' z' i' b
            by_cases e : b = m
            · subst e
              rw [pst_same fun r hr => h r (by omega) (by omega)]
              omega
            · have := ihm (by omega) (by omega)
              rw [h m (by omega) (by omega)]
              omega
        exact key a (Nat.le_refl _) (by omega)
      omega
    · by_cases e2 : b = n
      · subst e2
        have key : ∀ m, m ≤ b → a < m → pst m x' z' i' + tm x z i a = pst m x z i + tm x' z' i' a := by
          intro m
          induction m with
          | zero => intro _ q; omega
          | succ m ihm =>
            intro hm hbm
            show pst m x' z' i' + tm x' z' i' m + tm x z i a = pst m x z i + tm x z i m + tm x' z' i' a
            by_cases e : a = m
            · subst e
              rw [pst_same fun r hr => h r (by omega) (by omega)]
              omega
            · have := ihm (by omega) (by omega)
              rw [h m (by omega) (by omega)]
              omega
        have := key b (Nat.le_refl _) (by omega)
        omega
      · have := ih (by omega) (by omega)
        rw [h n (by omega) (by omega)]
        omega
theorem bt_swap (i a b : Nat) (h : a ≠ b) (r : Nat) : bt (i ^^^ ((bt i a + bt i b) % 2) * 2 ^ a ^^^ ((bt i a + bt i b) % 2) * 2 ^ b) r = if r = a then bt i b else if r = b then bt i a else bt i r := by
  have c2 : (bt i a + bt i b) % 2 < 2 := Nat.mod_lt _ (by decide)
  have p := bt01 i a
  have q := bt01 i b
  rw [bt_flip _ _ _ _ c2, bt_flip _ _ _ _ c2]
  rcases Decidable.em (a = r) with ra | ra <;> rcases Decidable.em (b = r) with rb | rb
  · exact absurd (ra.trans rb.symm) h
  · subst ra; rw [if_neg rb, if_pos rfl, if_pos rfl]; omega
  · subst rb; rw [if_pos rfl, if_neg ra, if_neg (fun e => ra e.symm), if_pos rfl]; omega
  · rw [if_neg rb, if_neg ra, if_neg (fun e => ra e.symm), if_neg (fun e => rb e.symm)]
/-- a gate other than H -/
theorem img_ne {w : Nat} {g : Gate} (h : g.isH = false) (f : g.fits w) {p p' : Pau} (hi : ∀ i, mvi g (i ^^^ p.x) = mvi g i ^^^ p'.x)
    (hs : ∀ i, (psteps w p' (mvi g i) + mvs g i) % 8 = (psteps w p i + mvs g (i ^^^ p.x)) % 8) (A : Nat → R) (j : Nat) : pop w p' (gop g A) j = gop g (pop w p A) j := by
  unfold pop
  rw [gop_ne h, gop_ne h]
  have e1 : mvi g (j ^^^ p'.x) = mvi g j ^^^ p.x := by
    have := hi (mvi g j ^^^ p.x)
    rw [xor_xor_self, mvi_inv f] at this
    have t2 : j ^^^ p'.x = mvi g (mvi g j ^^^ p.x) := by
      conv => lhs; rw [this]
      rw [xor_xor_self]
    rw [t2, mvi_inv f]
  rw [e1, ← wn_add, ← wn_add]
  refine wn_eq ?_ _
  have := hs (mvi g j ^^^ p.x)
  rw [xor_xor_self] at this
  rw [show mvi g (mvi g j ^^^ p.x) = j ^^^ p'.x by rw [← e1, mvi_inv f]] at this
  rw [this, Nat.add_comm]
theorem gop_H (q : Nat) (A : Nat → R) (j : Nat) : gop (.one .H q) A j = (wn (4 * bt j q) (A j)).add (A (j ^^^ 1 * 2 ^ q)) := by
  show (if bt j q = 1 then (A (j ^^^ 1 * 2 ^ q)).add (A j).neg else (A j).add (A (j ^^^ 1 * 2 ^ q))) = _
  rcases bt01 j q with h | h
  · rw [h, if_neg (by decide)]; rfl
  · rw [h, if_pos rfl, R.add_comm]; rfl
/-- the tables of the kinds on one qubit -/
def imT : K1 → Nat → Nat → Nat × Nat × Nat
  | .H, 0, 0 => (0, 0, 0) | .H, 1, 0 => (0, 0, 1) | .H, 0, _ => (0, 1, 0) | .H, _, _ => (2, 1, 1)
  | .X, 0, 0 => (0, 0, 0) | .X, 1, 0 => (0, 1, 0) | .X, 0, _ => (2, 0, 1) | .X, _, _ => (2, 1, 1)
  | .Y, 0, 0 => (0, 0, 0) | .Y, 1, 0 => (2, 1, 0) | .Y, 0, _ => (2, 0, 1) | .Y, _, _ => (0, 1, 1)
  | .Z, 0, 0 => (0, 0, 0) | .Z, 1, 0 => (2, 1, 0) | .Z, 0, _ => (0, 0, 1) | .Z, _, _ => (2, 1, 1)
  | .S, 0, 0 => (0, 0, 0) | .S, 1, 0 => (0, 1, 1) | .S, 0, _ => (0, 0, 1) | .S, _, _ => (2, 1, 0)
  | .SDG, 0, 0 => (0, 0, 0) | .SDG, 1, 0 => (2, 1, 1) | .SDG, 0, _ => (0, 0, 1) | .SDG, _, _ => (0, 1, 0)
  | _, _, _ => (0, 0, 0)
structure Img1 (k : K1) (q : Nat) (p p' : Pau) : Prop where
  ph : p'.ph = (p.ph + (imT k (bt p.x q) (bt p.z q)).1) % 4
  x : bt p'.x q = (imT k (bt p.x q) (bt p.z q)).2.1
  z : bt p'.z q = (imT k (bt p.x q) (bt p.z q)).2.2
  ox : ∀ r, r ≠ q → bt p'.x r = bt p.x r
  oz : ∀ r, r ≠ q → bt p'.z r = bt p.z r
def K1.cl : K1 → Bool
  | .T => false | .TDG => false | _ => true
theorem img1_ne {w q : Nat} {k : K1} (hk : k.cl = true) (hH : k ≠ .H) (hq : q < w) {p p' : Pau} (h : Img1 k q p p') (A : Nat → R) (j : Nat) : pop w p' (gop (.one k q) A) j = gop (.one k q) (pop w p A) j := by
  have g1 : (Gate.one k q).isH = false := by cases k <;> first | rfl | exact absurd rfl hH
  have f : (Gate.one k q).fits w := hq
  have hph := h.ph
  have hx := h.x
  have hz := h.z
  have bx := bt01 p.x q
  have bz := bt01 p.z q
  have bm : ∀ i r, bt (mvi (.one k q) i) r = if q = r then (if k = .X ∨ k = .Y then (bt i r + 1) % 2 else bt i r) else bt i r := fun i r => by
    cases k <;> simp only [mvi] <;> first
      | (rw [bt_flip _ _ _ _ (by decide)]; simp; done)
      | (simp; done)
  refine img_ne g1 f (fun i => eq_of_bt fun r => ?_) (fun i => ?_) A j
  · rw [bm, bt_xor, bt_xor, bm]
    by_cases e : q = r
    · subst e
      rw [if_pos rfl, if_pos rfl, hx]
      have bi := bt01 i q
      rcases bx with a | a <;> rcases bz with b | b <;> rcases bi with c | c <;> rw [a, b, c] <;> cases k <;> first | rfl | (simp [K1.cl] at hk; done) | exact absurd rfl hH
    · rw [if_neg e, if_neg e, h.ox r (fun t => e t.symm)]
  · have up := pst_upd1 (x := p.x) (z := p.z) (i := i) (x' := p'.x) (z' := p'.z) (i' := mvi (.one k q) i) hq fun r hr => by
      unfold tm
      rw [h.ox r hr, h.oz r hr, bm, if_neg (fun t => hr t.symm)]
    have bi := bt01 i q
    have bxx := bt_xor i p.x q
    have bmq := bm i q
    rw [if_pos rfl] at bmq
    unfold psteps
    unfold tm at up
    rw [hx, hz, bmq] at up
    generalize pst w p'.x p'.z (mvi (.one k q) i) = S' at *
    generalize pst w p.x p.z i = S at *
    rcases bx with a | a <;> rcases bz with b | b <;> rcases bi with c | c <;> rw [a, b] at hph up <;> rw [c] at up <;> rw [a, c] at bxx <;> cases k <;> first
      | (simp [K1.cl] at hk; done)
      | exact absurd rfl hH
      | (simp only [imT, mvs, K1.st, c, bxx, reduceCtorEq, or_self, or_false, or_true, true_or, false_or, if_true, if_false] at hph up ⊢; omega)
theorem img1_H {w q : Nat} (hq : q < w) {p p' : Pau} (h : Img1 .H q p p') (A : Nat → R) (j : Nat) : pop w p' (gop (.one .H q) A) j = gop (.one .H q) (pop w p A) j := by
  have hph := h.ph
  have hx := h.x
  have hz := h.z
  have bx := bt01 p.x q
  have bz := bt01 p.z q
  rw [gop_H]
  unfold pop
  rw [gop_H, wn_radd, ← wn_add]
  have up : ∀ i i', (∀ r, r ≠ q → bt i' r = bt i r) → pst w p'.x p'.z i' + tm p.x p.z i q = pst w p.x p.z i + tm p'.x p'.z i' q := fun i i' hi => pst_upd1 hq fun r hr => by
    unfold tm
    rw [h.ox r hr, h.oz r hr, hi r hr]
  have fo : ∀ i r, r ≠ q → bt (i ^^^ 1 * 2 ^ q) r = bt i r := fun i r hr => by rw [bt_flip _ _ _ _ (by decide), if_neg (fun t => hr t.symm)]
  have fq : ∀ i, bt (i ^^^ 1 * 2 ^ q) q = (bt i q + 1) % 2 := fun i => by rw [bt_flip _ _ _ _ (by decide), if_pos rfl]
  by_cases e : bt p.x q = bt p.z q
  · have ex : p'.x = p.x := eq_of_bt fun r => by
      by_cases hr : r = q
      · subst hr; rw [hx, ← e]; rcases bx with a | a <;> rw [a] <;> rfl
      · exact h.ox r hr
    rw [ex, show (j ^^^ p.x) ^^^ 1 * 2 ^ q = (j ^^^ 1 * 2 ^ q) ^^^ p.x by rw [Nat.xor_assoc, Nat.xor_comm p.x, ← Nat.xor_assoc]]
    have u1 := up (j ^^^ p.x) (j ^^^ p.x) fun _ _ => rfl
    have u2 := up ((j ^^^ 1 * 2 ^ q) ^^^ p.x) (j ^^^ p.x) fun r hr => by rw [bt_xor, bt_xor, fo j r hr]
    have b1 := bt_xor j p.x q
    have b2 := bt_xor (j ^^^ 1 * 2 ^ q) p.x q
    rw [fq] at b2
    have bj := bt01 j q
    congr 1
    · rw [← wn_add]
      refine wn_eq ?_ _
      unfold psteps
      unfold tm at u1
      rw [hx, hz, b1, ← e] at u1
      rw [← e] at hph
      rw [b1]
      generalize pst w p'.x p'.z (j ^^^ p.x) = S' at *
      generalize pst w p.x p.z (j ^^^ p.x) = S at *
      rcases bx with a | a <;> rcases bj with c | c <;> rw [a] at hph u1 <;> rw [c] at u1 <;> simp only [imT, a, c] at * <;> omega
    · refine wn_eq ?_ _
      unfold psteps
      unfold tm at u2
      rw [hx, hz, b1, b2, ← e] at u2
      rw [← e] at hph
      generalize pst w p'.x p'.z (j ^^^ p.x) = S' at *
      generalize pst w p.x p.z ((j ^^^ 1 * 2 ^ q) ^^^ p.x) = S at *
      rcases bx with a | a <;> rcases bj with c | c <;> rw [a] at hph u2 <;> rw [c] at u2 <;> simp only [imT, a, c] at * <;> omega
  · have ex : p'.x = p.x ^^^ 1 * 2 ^ q := eq_of_bt fun r => by
      by_cases hr : r = q
      · subst hr
        rw [hx, fq]
        rcases bx with a | a <;> rcases bz with b | b <;> rw [a, b] <;> first | rfl | exact absurd (a.trans b.symm) e
      · rw [h.ox r hr, fo _ r hr]
    have e1 : j ^^^ p'.x = (j ^^^ 1 * 2 ^ q) ^^^ p.x := by rw [ex, ← Nat.xor_assoc, Nat.xor_assoc, Nat.xor_comm p.x, ← Nat.xor_assoc]
    have e2 : ((j ^^^ 1 * 2 ^ q) ^^^ p.x) ^^^ 1 * 2 ^ q = j ^^^ p.x := by rw [Nat.xor_assoc, Nat.xor_comm p.x, ← Nat.xor_assoc, xor_xor_self]
    rw [e1, e2, R.add_comm]
    have u1 := up (j ^^^ p.x) ((j ^^^ 1 * 2 ^ q) ^^^ p.x) fun r hr => by rw [bt_xor, fo j r hr, bt_xor]
    have u2 := up ((j ^^^ 1 * 2 ^ q) ^^^ p.x) ((j ^^^ 1 * 2 ^ q) ^^^ p.x) fun _ _ => rfl
    have b1 := bt_xor j p.x q
    have b2 := bt_xor (j ^^^ 1 * 2 ^ q) p.x q
    rw [fq] at b2
    have bj := bt01 j q
    congr 1
    · rw [← wn_add]
      refine wn_eq ?_ _
      unfold psteps
      unfold tm at u1
      rw [hx, hz, b1, b2] at u1
      generalize pst w p'.x p'.z ((j ^^^ 1 * 2 ^ q) ^^^ p.x) = S' at *
      generalize pst w p.x p.z (j ^^^ p.x) = S at *
      rcases bx with a | a <;> rcases bz with b | b <;> rcases bj with c | c <;> first | exact absurd (a.trans b.symm) e | (rw [a, b] at hph u1 <;> rw [c] at u1 <;> simp only [imT, a, b, c] at * <;> omega)
    · refine wn_eq ?_ _
      unfold psteps
      unfold tm at u2
      rw [hx, hz, b2] at u2
      rw [b2]
      generalize pst w p'.x p'.z ((j ^^^ 1 * 2 ^ q) ^^^ p.x) = S' at *
      generalize pst w p.x p.z ((j ^^^ 1 * 2 ^ q) ^^^ p.x) = S at *
      rcases bx with a | a <;> rcases bz with b | b <;> rcases bj with c | c <;> first | exact absurd (a.trans b.symm) e | (rw [a, b] at hph u2 <;> rw [c] at u2 <;> simp only [imT, a, b, c] at * <;> omega)
end Mini
namespace Mini
open PySem PySem.Spec PyProof.Rows L2
def imT2 : K2 → Nat → Nat → Nat → Nat → Nat × Nat × Nat × Nat × Nat
  | .CX, xa, xb, za, zb => (if xa = 1 ∧ zb = 1 ∧ xb = za then 2 else 0, xa, (xb + xa) % 2, (za + zb) % 2, zb)
  | .CZ, xa, xb, za, zb => (2 * (xb * zb) + (if xa = 1 ∧ xb = 1 ∧ zb = za then 2 else 0) + 2 * (((zb + xa) % 2) * xb), xa, xb, (za + xb) % 2, (zb + xa) % 2)
  | .SWAP, xa, xb, za, zb => (0, xb, xa, zb, za)
def mvT : K2 → Nat → Nat → Nat × Nat
  | .CX, ia, ib => (ia, (ib + ia) % 2)
  | .CZ, ia, ib => (ia, ib)
  | .SWAP, ia, ib => (ib, ia)
structure Img2 (k : K2) (a b : Nat) (p p' : Pau) : Prop where
  ph : p'.ph % 4 = (p.ph + (imT2 k (bt p.x a) (bt p.x b) (bt p.z a) (bt p.z b)).1) % 4
  xa : bt p'.x a = (imT2 k (bt p.x a) (bt p.x b) (bt p.z a) (bt p.z b)).2.1
  xb : bt p'.x b = (imT2 k (bt p.x a) (bt p.x b) (bt p.z a) (bt p.z b)).2.2.1
  za : bt p'.z a = (imT2 k (bt p.x a) (bt p.x b) (bt p.z a) (bt p.z b)).2.2.2.1
  zb : bt p'.z b = (imT2 k (bt p.x a) (bt p.x b) (bt p.z a) (bt p.z b)).2.2.2.2
  ox : ∀ r, r ≠ a → r ≠ b → bt p'.x r = bt p.x r
  oz : ∀ r, r ≠ a → r ≠ b → bt p'.z r = bt p.z r
theorem bm2 (k : K2) {a b : Nat} (hab : a ≠ b) (i : Nat) : bt (mvi (.two k a b) i) a = (mvT k (bt i a) (bt i b)).1 ∧ bt (mvi (.two k a b) i) b = (mvT k (bt i a) (bt i b)).2 ∧ ∀ r, r ≠ a → r ≠ b → bt (mvi (.two k a b) i) r = bt i r := by
  cases k with
  | CX =>
    simp only [mvi, mvT]
    refine ⟨?_, ?_, fun r h1 h2 => ?_⟩
    · rw [bt_flip _ _ _ _ (bt_lt i a), if_neg (fun e => hab e.symm)]
    · rw [bt_flip _ _ _ _ (bt_lt i a), if_pos rfl]
    · rw [bt_flip _ _ _ _ (bt_lt i a), if_neg (fun e => h2 e.symm)]
  | CZ => exact ⟨rfl, rfl, fun _ _ _ => rfl⟩
  | SWAP =>
    simp only [mvi, mvT]
    refine ⟨?_, ?_, fun r h1 h2 => ?_⟩
    · rw [bt_swap i a b hab, if_pos rfl]
    · rw [bt_swap i a b hab, if_neg (fun e => hab e.symm), if_pos rfl]
    · rw [bt_swap i a b hab, if_neg h1, if_neg h2]
theorem mvs2 (k : K2) (a b i : Nat) : mvs (.two k a b) i = if k = .CZ then 4 * bt i a * bt i b else 0 := by cases k <;> rfl
theorem img2_arith (k : K2) (xa xb za zb ia ib S S' P P' : Nat) (h1 : xa = 0 ∨ xa = 1) (h2 : xb = 0 ∨ xb = 1) (h3 : za = 0 ∨ za = 1) (h4 : zb = 0 ∨ zb = 1) (h5 : ia = 0 ∨ ia = 1) (h6 : ib = 0 ∨ ib = 1)
    (hp : P' % 4 = (P + (imT2 k xa xb za zb).1) % 4)
    (up : S' + (za * (4 * ia + 2 * xa) + zb * (4 * ib + 2 * xb)) = S + ((imT2 k xa xb za zb).2.2.2.1 * (4 * (mvT k ia ib).1 + 2 * (imT2 k xa xb za zb).2.1) + (imT2 k xa xb za zb).2.2.2.2 * (4 * (mvT k ia ib).2 + 2 * (imT2 k xa xb za zb).2.2.1))) :
    (2 * P' + S' + if k = .CZ then 4 * ia * ib else 0) % 8 = (2 * P + S + if k = .CZ then 4 * ((ia + xa) % 2) * ((ib + xb) % 2) else 0) % 8 := by
  rcases h1 with rfl | rfl <;> rcases h2 with rfl | rfl <;> rcases h3 with rfl | rfl <;> rcases h4 with rfl | rfl <;> rcases h5 with rfl | rfl <;> rcases h6 with rfl | rfl <;> cases k <;> simp [imT2, mvT] at hp up ⊢ <;> omega
theorem img2_ok {w a b : Nat} {k : K2} (f : (Gate.two k a b).fits w) {p p' : Pau} (h : Img2 k a b p p') (A : Nat → R) (j : Nat) : pop w p' (gop (.two k a b) A) j = gop (.two k a b) (pop w p A) j := by
  obtain ⟨ha, hb, hab⟩ := (show a < w ∧ b < w ∧ a ≠ b from f)
  refine img_ne rfl f (fun i => eq_of_bt fun r => ?_) (fun i => ?_) A j
  · obtain ⟨m1, m2, m3⟩ := bm2 k hab (i ^^^ p.x)
    obtain ⟨n1, n2, n3⟩ := bm2 k hab i
    have xa := h.xa
    have xb := h.xb
    rw [bt_xor]
    by_cases ra : r = a
    · subst ra
      rw [m1, n1, xa, bt_xor, bt_xor]
      have e1 := bt01 i r
      have e2 := bt01 i b
      have e3 := bt01 p.x r
      have e4 := bt01 p.x b
      cases k <;> simp only [mvT, imT2] <;> omega
    · by_cases rb : r = b
      · subst rb
        rw [m2, n2, xb, bt_xor, bt_xor]
        have e1 := bt01 i r
        have e2 := bt01 i a
        have e3 := bt01 p.x r
        have e4 := bt01 p.x a
        cases k <;> simp only [mvT, imT2] <;> omega
      · rw [m3 r ra rb, n3 r ra rb, h.ox r ra rb, bt_xor]
  · obtain ⟨n1, n2, n3⟩ := bm2 k hab i
    have up := pst_upd2 (x := p.x) (z := p.z) (i := i) (x' := p'.x) (z' := p'.z) (i' := mvi (.two k a b) i) ha hb hab fun r h1 h2 => by
      unfold tm
      rw [h.ox r h1 h2, h.oz r h1 h2, n3 r h1 h2]
    unfold tm at up
    rw [h.xa, h.xb, h.za, h.zb, n1, n2] at up
    have := img2_arith k _ _ _ _ _ _ _ _ p.ph p'.ph (bt01 p.x a) (bt01 p.x b) (bt01 p.z a) (bt01 p.z b) (bt01 i a) (bt01 i b) h.ph up
    rw [mvs2, mvs2, bt_xor, bt_xor]
    exact this
theorem pop_w (w : Nat) (p : Pau) (A : Nat → R) (j : Nat) : pop w p (gop .w A) j = gop .w (pop w p A) j := by
  show wn _ (wn 1 (A (j ^^^ p.x))) = wn 1 (wn _ (A (j ^^^ p.x)))
  rw [← wn_add, ← wn_add, Nat.add_comm]
  rfl
def Gate.isT : Gate → Bool
  | .one .T _ => true
  | .one .TDG _ => true
  | _ => false
end Mini
namespace Mini
open PySem PySem.Spec PyProof.Rows L2
def wts : Nat → Nat → Nat
  | 0, _ => 0
  | w + 1, n => wts w n + bt n w
theorem bt_half (n r : Nat) : bt (n / 2) r = bt n (r + 1) := by
  unfold bt
  rw [Nat.div_div_eq_div_mul, ← Nat.pow_succ']
theorem wts_half : ∀ (w n : Nat), wts (w + 1) n = n % 2 + wts w (n / 2)
  | 0, n => by show 0 + bt n 0 = n % 2 + 0; unfold bt; simp
  | w + 1, n => by
    show wts (w + 1) n + bt n (w + 1) = n % 2 + (wts w (n / 2) + bt (n / 2) w)
    rw [wts_half w n, bt_half]
    omega
theorem wt_wts : ∀ (w n : Nat), n < 2 ^ w → wt n = wts w n
  | 0, n, h => by
    have : n = 0 := by simpa using h
    subst this
    exact wt_0
  | w + 1, n, h => by
    rw [wt_s, wts_half, wt_wts w (n / 2) (by rw [Nat.pow_succ] at h; omega)]
theorem digits2_len : ∀ (k fuel n : Nat) (ds : List Char), 1 ≤ k → n < 2 ^ k → (Nat.toDigitsCore 2 fuel n ds).length ≤ ds.length + k
  | _, 0, _, ds, _, _ => by simp [Nat.toDigitsCore]
  | k, fuel + 1, n, ds, hk, hn => by
    unfold Nat.toDigitsCore
    dsimp only
    by_cases h0 : n / 2 = 0
    · rw [if_pos h0, List.length_cons]; omega
    · rw [if_neg h0]
      have hk2 : 2 ≤ k := by
        by_cases h1 : k = 1
        · subst h1; omega
        · omega
      obtain ⟨j, rfl⟩ : ∃ j, k = j + 1 := ⟨k - 1, by omega⟩
      have ih := digits2_len j fuel (n / 2) (Nat.digitChar (n % 2) :: ds) (by omega) (by rw [Nat.pow_succ] at hn; omega)
      rw [List.length_cons] at ih
      omega
theorem binS_len {n k : Nat} (hk : 1 ≤ k) (h : n < 2 ^ k) : (binS n).length ≤ k := by
  show ((Nat.toDigits 2 n).map Char.toNat).toArray.size ≤ k
  rw [List.size_toArray, List.length_map]
  have := digits2_len k (n + 1) n [] hk h
  simpa [Nat.toDigits] using this
theorem oBin_n {n k : Nat} (hk : 1 ≤ k) (hk2 : k ≤ 16777216) (h : n < 2 ^ k) : oBin (.int (n : Int)) = some (.str (binS n)) := by
  have l := binS_len hk h
  show (if 0 ≤ (n : Int) ∧ lineOk (binS (n : Int).natAbs).length = true then some (O.str (binS (n : Int).natAbs)) else none) = _
  rw [Int.natAbs_natCast, if_pos ⟨by omega, lineOk_n (by omega)⟩]
theorem oCnt_b (n : Nat) : oCnt (.str (binS n)) (.str (PySem.Str.ofString "1")) = some (.int (wt n : Nat)) := by
  show some (O.int _) = _
  rw [count_bin]
/-! products and commutators of Pauli operators -/
theorem mul_arith (w ax az bx bz i : Nat) : (2 * (wts w (ax &&& az) + wts w (bx &&& bz)) + 4 * wts w (az &&& bx) + pst w (ax ^^^ bx) (az ^^^ bz) i) % 8
    = (2 * wts w ((ax ^^^ bx) &&& (az ^^^ bz)) + pst w bx bz i + pst w ax az (i ^^^ bx)) % 8 := by
  induction w with
  | zero => rfl
  | succ w ih =>
    simp only [wts, pst, bt_and, bt_xor]
    generalize wts w (ax &&& az) = s1 at *
    generalize wts w (bx &&& bz) = s2 at *
    generalize wts w (az &&& bx) = s3 at *
    generalize wts w ((ax ^^^ bx) &&& (az ^^^ bz)) = s4 at *
    generalize pst w (ax ^^^ bx) (az ^^^ bz) i = t1 at *
    generalize pst w bx bz i = t2 at *
    generalize pst w ax az (i ^^^ bx) = t3 at *
    rcases bt01 ax w with h1 | h1 <;> rcases bt01 az w with h2 | h2 <;> rcases bt01 bx w with h3 | h3 <;> rcases bt01 bz w with h4 | h4 <;> rcases bt01 i w with h5 | h5 <;> simp only [h1, h2, h3, h4, h5] <;> omega
theorem com_arith (w ax az bx bz i : Nat) : (pst w bx bz i + pst w ax az (i ^^^ bx) + 4 * (wts w (ax &&& bz) + wts w (az &&& bx))) % 8
    = (pst w ax az i + pst w bx bz (i ^^^ ax)) % 8 := by
  induction w with
  | zero => rfl
  | succ w ih =>
    simp only [wts, pst, bt_and, bt_xor]
    generalize wts w (ax &&& bz) = s1 at *
    generalize wts w (az &&& bx) = s3 at *
    generalize pst w bx bz (i ^^^ ax) = t1 at *
    generalize pst w bx bz i = t2 at *
    generalize pst w ax az (i ^^^ bx) = t3 at *
    generalize pst w ax az i = t4 at *
    rcases bt01 ax w with h1 | h1 <;> rcases bt01 az w with h2 | h2 <;> rcases bt01 bx w with h3 | h3 <;> rcases bt01 bz w with h4 | h4 <;> rcases bt01 i w with h5 | h5 <;> simp only [h1, h2, h3, h4, h5] <;> omega
theorem nbt_bits (n : Nat) : Builtin.Int.intBits (n : Int) = nbt n := by
  unfold Builtin.Int.intBits nbt
  by_cases h : n = 0
  · subst h; rfl
  · rw [if_neg (by simpa using h), if_neg h, Int.natAbs_natCast]
theorem lt_nbt (n : Nat) : n < 2 ^ nbt n := by
  refine Nat.lt_of_not_le fun h => ?_
  have : 0 < n / 2 ^ nbt n := Nat.div_pos h (Nat.two_pow_pos _)
  exact absurd (nbt_lt.mpr this) (Nat.lt_irrefl _)
end Mini
namespace Mini
open PySem PySem.Spec PyProof.Rows L2
theorem Gate.enc_fz (g : Gate) : isFz g.enc = true := by cases g <;> rfl
theorem Gate.enc_frz (g : Gate) : frz g.enc = g.enc := by cases g <;> rfl
theorem gl_fz : ∀ gs : List Gate, isFzs (gs.map Gate.enc) = true
  | [] => rfl
  | g :: gs => by rw [List.map_cons, isFzs, g.enc_fz, gl_fz gs]; rfl
theorem gl_frz : ∀ gs : List Gate, frzs (gs.map Gate.enc) = gs.map Gate.enc
  | [] => rfl
  | g :: gs => by rw [List.map_cons, frzs, g.enc_frz, gl_frz gs]
/-- a loop over gates -/
theorem lFor_gates {dg : O → Env → Option Env} {body : Env → Option Out} (P : List Gate → Env → Prop) : ∀ (gs done : List Gate) (ρ : Env), P done ρ →
    (∀ d g r ρ, gs = d ++ g :: r → P (done ++ d) ρ → ∃ ρ1 ρ2, dg g.enc ρ = some ρ1 ∧ body ρ1 = some (.nx ρ2) ∧ P (done ++ d ++ [g]) ρ2) → ∃ ρ', lFor dg body (gs.map Gate.enc) ρ = some (.nx ρ') ∧ P (done ++ gs) ρ'
  | [], done, ρ, h, _ => ⟨ρ, rfl, by simpa using h⟩
  | g :: gs, done, ρ, h, hs => by
    obtain ⟨ρ1, ρ2, e1, e2, h2⟩ := hs [] g gs ρ rfl (by simpa using h)
    obtain ⟨ρ', e3, h3⟩ := lFor_gates P gs (done ++ [g]) ρ2 (by simpa using h2) fun d g' r ρ' e hp => by
      have := hs (g :: d) g' r ρ' (by rw [e]; rfl) (by simpa using hp)
      simpa using this
    refine ⟨ρ', ?_, by simpa using h3⟩
    rw [List.map_cons, lFor, e1]
    dsimp only
    rw [e2]
    exact e3
theorem gops_snoc : ∀ (gs : List Gate) (g : Gate) (A : Nat → R), gops (gs ++ [g]) A = gop g (gops gs A)
  | [], _, _ => rfl
  | h :: gs, g, A => gops_snoc gs g (gop h A)
theorem gops_app : ∀ (gs hs : List Gate) (A : Nat → R), gops (gs ++ hs) A = gops hs (gops gs A)
  | [], _, _ => rfl
  | h :: gs, hs, A => gops_app gs hs (gop h A)
theorem hs_snoc : ∀ (gs : List Gate) (g : Gate), hs (gs ++ [g]) = hs gs + if g.isH then 1 else 0
  | [], g => by show (if g.isH then 1 else 0) + 0 = 0 + _; omega
  | h :: gs, g => by show (if h.isH then 1 else 0) + hs (gs ++ [g]) = ((if h.isH then 1 else 0) + hs gs) + _; rw [hs_snoc gs g]; omega
theorem hs_app : ∀ (gs gs' : List Gate), hs (gs ++ gs') = hs gs + hs gs'
  | [], g => by show hs g = 0 + hs g; omega
  | h :: gs, g => by show (if h.isH then 1 else 0) + hs (gs ++ g) = ((if h.isH then 1 else 0) + hs gs) + _; rw [hs_app gs g]; omega
theorem hs_le : ∀ gs : List Gate, hs gs ≤ gs.length
  | [] => Nat.le_refl _
  | g :: gs => by
    have := hs_le gs
    show (if g.isH then 1 else 0) + hs gs ≤ gs.length + 1
    split <;> omega
/-- one index, turned -/
def dlS (s k : Nat) : Nat → R := fun j => if k = j then wn s ⟨1, 0, 0, 0⟩ else R.zero
theorem gop_dlS {w : Nat} {g : Gate} (h : g.isH = false) (f : g.fits w) (s k : Nat) : gop g (dlS s k) = dlS (s + mvs g k) (mvi g k) := funext fun j => by
  rw [gop_ne h]
  unfold dlS
  by_cases e : k = mvi g j
  · have e2 : mvi g k = j := by rw [e, mvi_inv f]
    rw [if_pos e, if_pos e2, ← wn_add, ← e, Nat.add_comm]
  · have e2 : ¬ mvi g k = j := fun q => e (by rw [← q, mvi_inv f])
    rw [if_neg e, if_neg e2, wn_z]
theorem val_one (i : Nat) (x : R) (j : Nat) : val [(i, x)] j = if i = j then x else R.zero := rfl
theorem val_dlS (i s : Nat) : val [(i, wn s ⟨1, 0, 0, 0⟩)] = dlS s i := rfl
theorem amp_one {N i : Nat} (h : i < N) (x : R) : AmpOk N [(i, x)] := ⟨by simp [keysA], fun j hj => by simp [keysA] at hj; omega⟩
end Mini
namespace Mini
open PySem PySem.Spec PyProof.Rows L2
def plK (bx bz : Nat) : Option K1 := if bz = 0 then (if bx = 0 then none else some .X) else (if bx = 0 then some .Z else some .Y)
def plS (bx bz : Nat) : String := if bz = 0 then (if bx = 0 then "I" else "X") else (if bx = 0 then "Z" else "Y")
def pgl : Nat → Pau → List Gate
  | 0, _ => []
  | n + 1, p => pgl n p ++ (match plK (bt p.x n) (bt p.z n) with | none => [] | some k => [.one k n])
def xl : Nat → Nat → Nat
  | 0, _ => 0
  | n + 1, x => xl n x ^^^ bt x n * 2 ^ n
theorem bt_xl : ∀ (n x r : Nat), bt (xl n x) r = if r < n then bt x r else 0
  | 0, x, r => by rw [if_neg (Nat.not_lt_zero _)]; show bt 0 r = 0; rw [bt_test]; simp
  | n + 1, x, r => by
    show bt (xl n x ^^^ bt x n * 2 ^ n) r = _
    rw [bt_flip _ _ _ _ (bt_lt x n), bt_xl n x r]
    have := bt_lt x n
    by_cases e : n = r
    · subst e; rw [if_pos rfl, if_neg (Nat.lt_irrefl _), if_pos (Nat.lt_succ_self _)]; omega
    · rw [if_neg e]
      by_cases h : r < n
      · rw [if_pos h, if_pos (by omega)]
      · rw [if_neg h, if_neg (by omega)]
theorem xl_all {n x : Nat} (h : x < 2 ^ n) : xl n x = x := eq_of_bt fun r => by
  rw [bt_xl]
  split
  · rfl
  · rw [bt_hi h (by omega)]
theorem pgl_fits {w : Nat} {p : Pau} : ∀ n, n ≤ w → ∀ g ∈ pgl n p, g.fits w
  | 0, _, g, h => nomatch h
  | n + 1, hn, g, h => by
    rcases List.mem_append.mp h with q | q
    · exact pgl_fits n (by omega) g q
    · split at q
      · nomatch q
      · rw [List.mem_singleton] at q
        subst q
        show n < w
        omega
theorem pgl_len {p : Pau} : ∀ n, (pgl n p).length ≤ n
  | 0 => Nat.le_refl _
  | n + 1 => by
    show (pgl n p ++ _).length ≤ _
    rw [List.length_append]
    have := pgl_len (p := p) n
    split <;> simp <;> omega
theorem pgl_kind {p : Pau} : ∀ n, ∀ g ∈ pgl n p, ∃ k q, g = .one k q ∧ (k = .X ∨ k = .Y ∨ k = .Z)
  | 0, g, h => nomatch h
  | n + 1, g, h => by
    rcases List.mem_append.mp h with q | q
    · exact pgl_kind n g q
    · split at q
      · nomatch q
      · rename_i k e
        rw [List.mem_singleton] at q
        subst q
        refine ⟨k, n, rfl, ?_⟩
        unfold plK at e
        split at e <;> split at e <;> cases e <;> simp
theorem pgl_ops {w : Nat} {p : Pau} (i : Nat) : ∀ n, n ≤ w → gops (pgl n p) (dlS 0 i) = dlS (pst n p.x p.z i) (i ^^^ xl n p.x)
  | 0, _ => by show dlS 0 i = dlS 0 (i ^^^ 0); rw [Nat.xor_zero]
  | n + 1, hn => by
    have ih := pgl_ops (w := w) (p := p) i n (by omega)
    have hb : bt (i ^^^ xl n p.x) n = bt i n := by
      rw [bt_xor, bt_xl, if_neg (Nat.lt_irrefl _)]
      have := bt_lt i n
      omega
    show gops (pgl n p ++ (match plK (bt p.x n) (bt p.z n) with | none => [] | some k => [.one k n])) (dlS 0 i) = dlS (pst n p.x p.z i + bt p.z n * (4 * bt i n + 2 * bt p.x n)) (i ^^^ (xl n p.x ^^^ bt p.x n * 2 ^ n))
    rcases bt01 p.x n with hx | hx <;> rcases bt01 p.z n with hz | hz <;> rw [hx, hz]
    · show gops (pgl n p ++ []) _ = _
      rw [List.append_nil, ih]
      simp
    · show gops (pgl n p ++ [.one .Z n]) _ = _
      rw [gops_snoc, ih, gop_dlS (w := w) (g := .one .Z n) rfl (show n < w by omega)]
      show dlS (_ + 4 * bt (i ^^^ xl n p.x) n) (i ^^^ xl n p.x) = _
      rw [hb]
      simp
    · show gops (pgl n p ++ [.one .X n]) _ = _
      rw [gops_snoc, ih, gop_dlS (w := w) (g := .one .X n) rfl (show n < w by omega)]
      show dlS (_ + 0) (i ^^^ xl n p.x ^^^ 1 * 2 ^ n) = _
      rw [Nat.xor_assoc]
      simp
    · show gops (pgl n p ++ [.one .Y n]) _ = _
      rw [gops_snoc, ih, gop_dlS (w := w) (g := .one .Y n) rfl (show n < w by omega)]
      show dlS (_ + (2 + 4 * bt (i ^^^ xl n p.x) n)) (i ^^^ xl n p.x ^^^ 1 * 2 ^ n) = _
      rw [hb, Nat.xor_assoc, show 1 * (4 * bt i n + 2 * 1) = 2 + 4 * bt i n by omega]
theorem wrep_ops (s k : Nat) : ∀ m, gops (List.replicate m .w) (dlS s k) = dlS (s + m) k
  | 0 => rfl
  | m + 1 => by
    rw [List.replicate_succ']
    rw [gops_snoc, wrep_ops s k m, gop_dlS (w := 0) (g := .w) rfl True.intro]
    rfl
theorem hs_zero : ∀ gs : List Gate, (∀ g ∈ gs, g.isH = false) → hs gs = 0
  | [], _ => rfl
  | g :: gs, h => by
    show (if g.isH then 1 else 0) + hs gs = 0
    rw [h g (List.mem_cons_self ..), hs_zero gs fun g' hg => h g' (List.mem_cons_of_mem _ hg)]
    rfl
/-! texts -/
theorem strOk_app (a b : Str) : PyData.strOk (a ++ b) = (PyData.strOk a && PyData.strOk b) := by
  show (a.cps ++ b.cps).all _ = _
  rw [Array.all_append]
  rfl
theorem oEq_str {a : Str} (h : PyData.strOk a = true) : oEq (.str a) (.str a) = some (.bl true) := by
  rw [oEq_def]
  unfold oEq0
  rw [if_pos]
  · show some (O.bl (a == a)) = _
    rw [beq_self_eq_true]
  · simp [toPy, SeqAt.shaped, PyData.canLay0, PyData.depth, h]
def catS : List Str → Str
  | [] => ⟨#[]⟩
  | s :: ss => s ++ catS ss
theorem catS_snoc : ∀ (ss : List Str) (t : Str), catS (ss ++ [t]) = catS ss ++ t
  | [], t => by
    show t ++ ⟨#[]⟩ = ⟨#[]⟩ ++ t
    show (⟨t.cps ++ #[]⟩ : Str) = ⟨#[] ++ t.cps⟩
    simp
  | s :: ss, t => by
    show s ++ catS (ss ++ [t]) = (s ++ catS ss) ++ t
    rw [catS_snoc ss t]
    show (⟨s.cps ++ ((catS ss).cps ++ t.cps)⟩ : Str) = ⟨s.cps ++ (catS ss).cps ++ t.cps⟩
    rw [Array.append_assoc]
theorem Str.app_assoc (a b c : Str) : a ++ b ++ c = a ++ (b ++ c) := by
  show (⟨a.cps ++ b.cps ++ c.cps⟩ : Str) = ⟨a.cps ++ (b.cps ++ c.cps)⟩
  rw [Array.append_assoc]
theorem join_cat (ys : List Str) : Txt.join (PySem.Str.ofString "") ys = catS ys := by
  have e0 : PySem.Str.ofString "" = ⟨#[]⟩ := by decide +kernel
  rw [e0]
  have key : ∀ (r : List Str) (acc : Array Nat), r.foldl (fun acc p => acc ++ #[] ++ p.cps) acc = acc ++ (catS r).cps := by
    intro r
    induction r with
    | nil => intro acc; show acc = acc ++ #[]; simp
    | cons s r ih =>
      intro acc
      show r.foldl _ (acc ++ #[] ++ s.cps) = acc ++ (s.cps ++ (catS r).cps)
      rw [ih]
      simp
  cases ys with
  | nil => rfl
  | cons s r =>
    show (⟨r.foldl (fun acc p => acc ++ #[] ++ p.cps) s.cps⟩ : Str) = s ++ catS r
    rw [key]
    rfl
theorem strsO_map : ∀ ss : List Str, strsO (ss.map O.str) = some ss
  | [] => rfl
  | s :: ss => by rw [List.map_cons, strsO, strsO_map ss]; rfl
end Mini
namespace Mini
open PySem PySem.Spec PyProof.Rows L2
/-! states of lowest forms -/
abbrev encF (p : R × Nat) : O := encN p.1 (p.2 : Int)
def stO (N : Nat) (f : Nat → R × Nat) : List O := (List.range N).map fun i => encF (f i)
theorem stO_len (N : Nat) (f : Nat → R × Nat) : (stO N f).length = N := by simp [stO]
theorem stO_at {N i : Nat} (f : Nat → R × Nat) (h : i < N) : (stO N f)[i]? = some (encF (f i)) := by simp [stO, h]
theorem stO_ix {N i : Nat} (f : Nat → R × Nat) (h : i < N) (b : Bool) : oIdx (.lst b (stO N f)) (.int (i : Int)) = some (encF (f i)) := by
  rw [idx_l, atI_n, stO_at f h]
theorem fz_map {α : Type} (g : α → O) (h : ∀ a, isFz (g a) = true) : ∀ l : List α, isFzs (l.map g) = true
  | [] => rfl
  | a :: l => by rw [List.map_cons, isFzs, h a, fz_map g h l]; rfl
theorem frz_map {α : Type} (g : α → O) (h : ∀ a, frz (g a) = g a) : ∀ l : List α, frzs (l.map g) = l.map g
  | [] => rfl
  | a :: l => by rw [List.map_cons, frzs, h a, frz_map g h l]
theorem nofm_map {α : Type} (g : α → O) (h : ∀ a, noFm (g a) = true) : ∀ l : List α, noFms (l.map g) = true
  | [] => rfl
  | a :: l => by rw [List.map_cons, noFms, h a, nofm_map g h l]; rfl
theorem stO_fz (N : Nat) (f : Nat → R × Nat) : isFzs (stO N f) = true := fz_map _ (fun _ => rfl) _
theorem stO_frz (N : Nat) (f : Nat → R × Nat) : frzs (stO N f) = stO N f := frz_map _ (fun _ => rfl) _
theorem stO_nofm (N : Nat) (f : Nat → R × Nat) : noFms (stO N f) = true := nofm_map _ (fun _ => rfl) _
theorem lLc_all {dg : O → Env → Option Env} {dc : Env → Option Bool} {de : Env → Option O} {ρ : Env} {el g : Nat → O} : ∀ ns : List Nat, (∀ i ∈ ns, ∃ ρ1, dg (el i) ρ = some ρ1 ∧ dc ρ1 = some true ∧ de ρ1 = some (g i)) → lLc dg dc de ρ (ns.map el) = some (ns.map g)
  | [], _ => rfl
  | n :: ns, h => by
    obtain ⟨ρ1, h1, h2, h3⟩ := h n (List.mem_cons_self ..)
    rw [List.map_cons, List.map_cons, lLc, h1]
    dsimp only
    rw [h2]
    dsimp only
    rw [h3]
    dsimp only
    rw [lLc_all ns fun i hi => h i (List.mem_cons_of_mem _ hi)]
theorem dLc_all {di : Env → Option (List O)} {dg : O → Env → Option Env} {dc : Env → Option Bool} {de : Env → Option O} {vs : List Nat} {ρ : Env} {el g : Nat → O} {N : Nat} (hN : N ≤ 16777216) (hd : di ρ = some ((List.range N).map el))
    (h : ∀ i, i < N → ∃ ρ1, dg (el i) (wipeE ρ vs) = some ρ1 ∧ dc ρ1 = some true ∧ de ρ1 = some (g i)) : dLc di dg dc de vs ρ = some (.lst true ((List.range N).map g)) := by
  unfold dLc
  rw [hd]
  dsimp only
  rw [if_pos (by rw [sizeLine_eq]; simp; exact hN), lLc_all _ fun i hi => h i (List.mem_range.mp hi)]
theorem rng_map {d : Env → Option O} {ρ : Env} {N : Nat} (hd : d ρ = some (.int (N : Int))) (h : N < 4611686018427387904) : dRng1 d ρ = some ((List.range N).map fun i : Nat => O.int (i : Int)) := by
  unfold dRng1
  rw [hd]
  dsimp only
  rw [if_pos (rOk_n h)]
  unfold rngs
  congr 1
  rw [show ((N : Int)).toNat = N by omega]
  refine List.map_congr_left fun i _ => ?_
  rw [Int.zero_add]
/-! masks -/
theorem and_pow_iff (j q : Nat) : j &&& 1 * 2 ^ q = 1 * 2 ^ q ↔ bt j q = 1 := by
  constructor
  · intro h
    have := congrArg (fun x => bt x q) h
    simp only [bt_and, bt_pow 1 q q (by decide), if_pos] at this
    omega
  · intro h
    refine eq_of_bt fun r => ?_
    rw [bt_and, bt_pow 1 q r (by decide)]
    by_cases e : q = r
    · subst e; rw [if_pos rfl, h]
    · rw [if_neg e]; omega
theorem and_or_iff (j a b : Nat) : j &&& (1 * 2 ^ a ||| 1 * 2 ^ b) = (1 * 2 ^ a ||| 1 * 2 ^ b) ↔ bt j a = 1 ∧ bt j b = 1 := by
  constructor
  · intro h
    have h1 := congrArg (fun x => bt x a) h
    have h2 := congrArg (fun x => bt x b) h
    simp only [bt_and, bt_or, bt_pow 1 a a (by decide), bt_pow 1 b b (by decide), bt_pow 1 a b (by decide), bt_pow 1 b a (by decide), if_pos] at h1 h2
    have l1 := bt_lt j a
    have l2 := bt_lt j b
    constructor
    · by_cases e : b = a
      · rw [if_pos e] at h1; omega
      · rw [if_neg e] at h1; omega
    · by_cases e : a = b
      · rw [if_pos e] at h2; omega
      · rw [if_neg e] at h2; omega
  · rintro ⟨h1, h2⟩
    refine eq_of_bt fun r => ?_
    rw [bt_and, bt_or, bt_pow 1 a r (by decide), bt_pow 1 b r (by decide)]
    by_cases e : a = r
    · subst e; rw [if_pos rfl, h1]; split <;> omega
    · rw [if_neg e]
      by_cases e2 : b = r
      · subst e2; rw [if_pos rfl, h2]
      · rw [if_neg e2]; omega
theorem and_ex_iff (j a b : Nat) (h : a ≠ b) : (j &&& (1 * 2 ^ a ||| 1 * 2 ^ b) = 1 * 2 ^ a ∨ j &&& (1 * 2 ^ a ||| 1 * 2 ^ b) = 1 * 2 ^ b) ↔ (bt j a + bt j b) % 2 = 1 := by
  have l1 := bt01 j a
  have l2 := bt01 j b
  have key : ∀ c d : Nat, c < 2 → d < 2 → (j &&& (1 * 2 ^ a ||| 1 * 2 ^ b) = (c * 2 ^ a ||| d * 2 ^ b) ↔ bt j a = c ∧ bt j b = d) := by
    intro c d hc hd
    constructor
    · intro e
      have h1 := congrArg (fun x => bt x a) e
      have h2 := congrArg (fun x => bt x b) e
      simp only [bt_and, bt_or, bt_pow 1 a a (by decide), bt_pow 1 b b (by decide), bt_pow 1 a b (by decide), bt_pow 1 b a (by decide), bt_pow c a a hc, bt_pow c a b hc, bt_pow d b a hd, bt_pow d b b hd, if_pos, if_neg h, if_neg (fun t : b = a => h t.symm)] at h1 h2
      omega
    · rintro ⟨h1, h2⟩
      refine eq_of_bt fun r => ?_
      rw [bt_and, bt_or, bt_or, bt_pow 1 a r (by decide), bt_pow 1 b r (by decide), bt_pow c a r hc, bt_pow d b r hd]
      by_cases e : a = r
      · subst e; rw [if_pos rfl, if_pos rfl, h1, if_neg (fun t => h t.symm), if_neg (fun t => h t.symm)]; omega
      · rw [if_neg e, if_neg e]
        by_cases e2 : b = r
        · subst e2; rw [if_pos rfl, if_pos rfl, h2]; omega
        · rw [if_neg e2, if_neg e2]; omega
  have k1 := key 1 0 (by decide) (by decide)
  have k2 := key 0 1 (by decide) (by decide)
  rw [show 1 * 2 ^ a ||| 0 * 2 ^ b = 1 * 2 ^ a by simp] at k1
  rw [show 0 * 2 ^ a ||| 1 * 2 ^ b = 1 * 2 ^ b by simp] at k2
  rw [k1, k2]
  omega
theorem or_two {w a b : Nat} (h : a ≠ b) (j : Nat) : j ^^^ (1 * 2 ^ a ||| 1 * 2 ^ b) = j ^^^ 1 * 2 ^ a ^^^ 1 * 2 ^ b := eq_of_bt fun r => by
  rw [bt_xor, bt_xor, bt_xor, bt_or, bt_pow 1 a r (by decide), bt_pow 1 b r (by decide)]
  have := bt_lt j r
  by_cases e : a = r
  · subst e; rw [if_pos rfl, if_neg (fun t => h t.symm)]; omega
  · rw [if_neg e]; split <;> omega
/-! lowest forms over one exponent -/
theorem Low.then {X z y : R} {E k k' : Nat} (l : Low X E z k) (l' : Low z (k + 1) y k') : Low X (E + 1) y k' := by
  have h1 := l.le
  have h2 := l'.le
  refine ⟨by omega, ?_, l'.low⟩
  rw [l.val, l'.val, ← trn_add]
  congr 1
  omega
theorem Low.wn {X y : R} {E k : Nat} (l : Low X E y k) (n : Nat) : Low (wn n X) E (Mini.wn n y) k := l.map (fun x => wn_tr n x) (fun x => wn_ev n x)
theorem Low.neg {X y : R} {E k : Nat} (l : Low X E y k) : Low X.neg E y.neg k := l.map R.tr_neg R.ev_neg
end Mini
namespace Mini
open PySem PySem.Spec PyProof.Rows L2
theorem stO_set {N k : Nat} (f : Nat → R × Nat) (r : R × Nat) : (stO N f).set k (encF r) = stO N (fun i => if i = k then r else f i) := by
  unfold stO
  refine List.ext_getElem (by simp) fun i h1 h2 => ?_
  simp only [List.getElem_set, List.getElem_map, List.getElem_range]
  by_cases e : k = i
  · rw [if_pos e, if_pos e.symm]
  · rw [if_neg e, if_neg (fun t => e t.symm)]
theorem or_pow (k q : Nat) : k ||| 1 * 2 ^ q = if bt k q = 1 then k else k ^^^ 1 * 2 ^ q := by
  refine eq_of_bt fun r => ?_
  rw [bt_or, bt_pow 1 q r (by decide)]
  by_cases h : bt k q = 1
  · rw [if_pos h]
    by_cases e : q = r
    · subst e; rw [if_pos rfl, h]
    · rw [if_neg e]; omega
  · rw [if_neg h, bt_flip _ _ _ _ (by decide)]
    have := bt01 k q
    by_cases e : q = r
    · subst e; rw [if_pos rfl, if_pos rfl]; omega
    · rw [if_neg e, if_neg e]; omega
/-- the partner with bit q clear -/
def lo (q j : Nat) : Nat := j ^^^ bt j q * 2 ^ q
theorem lo_bit (q j : Nat) : bt (lo q j) q = 0 := lo_of
theorem lo_eq {q j k : Nat} (hk : bt k q = 0) : lo q j = k ↔ j = k ∨ j = k ^^^ 1 * 2 ^ q := by
  unfold lo
  constructor
  · intro h
    rcases bt01 j q with a | a
    · rw [a] at h; left; simpa using h
    · rw [a] at h; right; rw [← h, xor_xor_self]
  · rintro (h | h)
    · subst h; rw [hk]; simp
    · have : bt j q = 1 := by rw [h, bt_flip _ _ _ _ (by decide), if_pos rfl, hk]
      rw [this, h, xor_xor_self]
end Mini
namespace Mini
open PySem PySem.Spec PyProof.Rows L2
/-! what an outcome must be -/
def Wp (Q : Out → Prop) (x : Option Out) : Prop := ∃ out, x = some out ∧ Q out
def Sq (Q : Out → Prop) (b : Env → Option Out) : Out → Prop
  | .nx ρ => Wp Q (b ρ)
  | .rt o ρ => Q (.rt o ρ)
  | .bk ρ => Q (.bk ρ)
  | .ct ρ => Q (.ct ρ)
  | .er c ρ => Q (.er c ρ)
/-- within a loop: J is what holds ahead of the next turn -/
def Lp (Q : Out → Prop) (J : Env → Prop) : Out → Prop
  | .nx ρ => J ρ
  | .ct ρ => J ρ
  | .bk ρ => Q (.nx ρ)
  | .rt o ρ => Q (.rt o ρ)
  | .er c ρ => Q (.er c ρ)
/-- it ends with this value -/
def Ends (v : O) : Out → Prop
  | .rt o _ => o = v
  | .nx _ => v = .non
  | _ => False
/-- it ends, and this holds of value and slots -/
def EndsF (R : O → Env → Prop) : Out → Prop
  | .rt o ρ => R o ρ
  | .nx ρ => R .non ρ
  | _ => False
/-- it ends with this value, or raises -/
def EndsX (R : O → Prop) (S : Nat → Prop) : Out → Prop
  | .rt o _ => R o
  | .nx _ => R .non
  | .er c _ => S c
  | _ => False
def setE (i : Nat) (o : Option O) (ρ ρ' : Env) : Prop := i < ρ.length ∧ ρ.set i o = ρ'
section
variable {Q : Out → Prop} {J : Env → Prop} {a b c : Env → Option Out} {d d' da db dc : Env → Option O} {t ta tb : Env → Option Bool} {dg : O → Env → Option Env} {ds : Env → Option (List O)} {di : Env → Option (List O)} {body : Env → Option Out} {ρ ρ' ρ1 ρ2 : Env} {i j k n m : Nat} {o o' x y z : O} {os os' : List O} {fn : O → O → Option O} {f1 : O → Option O}
theorem Wp.mono {Q Q' : Out → Prop} {x : Option Out} (h : Wp Q x) (hq : ∀ o, Q o → Q' o) : Wp Q' x := by
  obtain ⟨o, e, q⟩ := h
  exact ⟨o, e, hq _ q⟩
/-- what holds behind a statement, before the next -/
def Ct (Q : Out → Prop) (J : Env → Prop) : Out → Prop
  | .nx ρ => J ρ
  | .ct ρ => Q (.ct ρ)
  | .bk ρ => Q (.bk ρ)
  | .rt o ρ => Q (.rt o ρ)
  | .er c ρ => Q (.er c ρ)
theorem wp_cut {x : Option Out} (J : Env → Prop) (h1 : Wp (Ct Q J) x) (h2 : ∀ ρ, J ρ → Q (.nx ρ)) : Wp Q x := by
  obtain ⟨out, e, q⟩ := h1
  refine ⟨out, e, ?_⟩
  cases out with
  | nx ρ => exact h2 _ q
  | ct ρ => exact q
  | rt o ρ => exact q
  | er c ρ => exact q
  | bk ρ => exact q
theorem ct_nx (h : J ρ) : Ct Q J (.nx ρ) := h
theorem ct_ct (h : Q (.ct ρ)) : Ct Q J (.ct ρ) := h
theorem ct_bk (h : Q (.bk ρ)) : Ct Q J (.bk ρ) := h
theorem ct_rt (h : Q (.rt o ρ)) : Ct Q J (.rt o ρ) := h
theorem ct_er {c : Nat} (h : Q (.er c ρ)) : Ct Q J (.er c ρ) := h
theorem wp_of {out : Out} {x : Option Out} (h : x = some out) (q : Q out) : Wp Q x := ⟨out, h, q⟩
theorem setE_z {o1 : Option O} {o2 : Option O} {r : Env} : setE 0 o2 (o1 :: r) (o2 :: r) := ⟨Nat.succ_pos _, rfl⟩
theorem setE_s {o1 : Option O} {o2 : Option O} {r r' : Env} (h : setE i o2 r r') : setE (i + 1) o2 (o1 :: r) (o1 :: r') := ⟨Nat.succ_lt_succ h.1, by rw [List.set_cons_succ, h.2]⟩
theorem wp_seq (h : Wp (Sq Q b) (a ρ)) : Wp Q (dSeq a b ρ) := by
  obtain ⟨out, e, q⟩ := h
  unfold Wp dSeq
  rw [e]
  cases out with
  | nx ρ => exact q
  | rt o ρ => exact ⟨_, rfl, q⟩
  | bk ρ => exact ⟨_, rfl, q⟩
  | ct ρ => exact ⟨_, rfl, q⟩
  | er c ρ => exact ⟨_, rfl, q⟩
theorem sq_nx (h : Wp Q (b ρ)) : Sq Q b (.nx ρ) := h
theorem sq_rt (h : Q (.rt o ρ)) : Sq Q b (.rt o ρ) := h
theorem sq_bk (h : Q (.bk ρ)) : Sq Q b (.bk ρ) := h
theorem sq_ct (h : Q (.ct ρ)) : Sq Q b (.ct ρ) := h
theorem sq_er {c : Nat} (h : Q (.er c ρ)) : Sq Q b (.er c ρ) := h
theorem lp_nx (h : J ρ) : Lp Q J (.nx ρ) := h
theorem lp_ct (h : J ρ) : Lp Q J (.ct ρ) := h
theorem lp_bk (h : Q (.nx ρ)) : Lp Q J (.bk ρ) := h
theorem lp_rt (h : Q (.rt o ρ)) : Lp Q J (.rt o ρ) := h
theorem lp_er {c : Nat} (h : Q (.er c ρ)) : Lp Q J (.er c ρ) := h
theorem ends_rt {v : O} : Ends v (.rt v ρ) := rfl
theorem ends_of {v : O} (h : o = v) : Ends v (.rt o ρ) := h
theorem wp_asg (e : d ρ = some o) (s : dg o ρ = some ρ') (q : Q (.nx ρ')) : Wp Q (dAsg d dg ρ) := ⟨_, by unfold dAsg; rw [e]; dsimp only; rw [s], q⟩
theorem wp_skip (q : Q (.nx ρ)) : Wp Q (dSkip ρ) := ⟨_, rfl, q⟩
theorem wp_ret (e : d ρ = some o) (q : Q (.rt o ρ)) : Wp Q (dRet d ρ) := ⟨_, by unfold dRet; rw [e], q⟩
theorem wp_retmv (e : look ρ i = some o) (s : setE i none ρ ρ') (q : Q (.rt o ρ')) : Wp Q (dRetMv i ρ) := ⟨.rt o ρ', by unfold dRetMv; rw [e]; dsimp only; rw [s.2], q⟩
theorem wp_bk (q : Q (.bk ρ)) : Wp Q ((fun ρ => some (.bk ρ)) ρ) := ⟨_, rfl, q⟩
theorem wp_some {out : Out} (q : Q out) : Wp Q (some out) := ⟨_, rfl, q⟩
theorem wp_expr (e : d ρ = some o) (q : Q (.nx ρ)) : Wp Q (dExpr d ρ) := ⟨_, by unfold dExpr; rw [e], q⟩
theorem wp_fz (e : look ρ i = some o) (z : frz o = o') (s : setE i (some o') ρ ρ') (q : Q (.nx ρ')) : Wp Q (dFz i ρ) := ⟨_, by unfold dFz; rw [e]; dsimp only; rw [z, s.2], q⟩
theorem wp_if {v : Bool} (e : t ρ = some v) (h1 : v = true → Wp Q (a ρ)) (h2 : v = false → Wp Q (b ρ)) : Wp Q (dIf t a b ρ) := by
  unfold dIf
  rw [e]
  cases v with
  | true => exact h1 rfl
  | false => exact h2 rfl
theorem wp_ift (e : t ρ = some true) (h : Wp Q (a ρ)) : Wp Q (dIf t a b ρ) := by unfold dIf; rw [e]; exact h
theorem wp_iff (e : t ρ = some false) (h : Wp Q (b ρ)) : Wp Q (dIf t a b ρ) := by unfold dIf; rw [e]; exact h
theorem wp_ift2 {v : Bool} (e : t ρ = some v) (hv : v = true) (h : Wp Q (a ρ)) : Wp Q (dIf t a b ρ) := wp_ift (hv ▸ e) h
theorem wp_iff2 {v : Bool} (e : t ρ = some v) (hv : v = false) (h : Wp Q (b ρ)) : Wp Q (dIf t a b ρ) := wp_iff (hv ▸ e) h
theorem wp_app (e : look ρ i = some (.lst true os)) (h : d ρ = some o) (l : os.length < 16777216) (s : setE i (some (.lst true (os ++ [o]))) ρ ρ') (q : Q (.nx ρ')) : Wp Q (dApp i d ρ) :=
  ⟨_, by unfold dApp; rw [e]; dsimp only; rw [h]; dsimp only; rw [if_pos (by rw [sizeLine_eq]; exact l), s.2], q⟩
theorem wp_setI {kk : Int} (h : d ρ = some o) (e : look ρ i = some (.lst true os)) (h2 : da ρ = some (.int kk)) (l : ixN os.length kk = some j) (s : setE i (some (.lst true (os.set j o))) ρ ρ') (q : Q (.nx ρ')) : Wp Q (dSetI i da d ρ) :=
  ⟨_, by unfold dSetI; rw [h]; dsimp only; rw [e]; dsimp only; rw [h2]; dsimp only; rw [l]; dsimp only; rw [s.2], q⟩
theorem wp_aug (e : look ρ i = some x) (h : d ρ = some y) (h2 : fn x y = some z) (s : setE i (some z) ρ ρ') (q : Q (.nx ρ')) : Wp Q (dAug i fn d ρ) := by
  refine ⟨.nx ρ', ?_, q⟩
  unfold dAug
  rw [e]; dsimp only; rw [h]; dsimp only; rw [h2]; dsimp only
  unfold setS
  rw [if_pos s.1, s.2]
theorem wp_for (h : di ρ = some os) (q : Wp Q (lFor dg body os ρ)) : Wp Q (dFor di dg body ρ) := by unfold dFor; rw [h]; exact q
/-- a loop by its invariant over places -/
theorem wl_inv (I : Nat → Env → Prop) : ∀ (os : List O) (k : Nat) (ρ : Env), I k ρ → (∀ j o ρ, os[j]? = some o → I (k + j) ρ → ∃ ρ1, dg o ρ = some ρ1 ∧ Wp (Lp Q (I (k + j + 1))) (body ρ1)) → (∀ ρ, I (k + os.length) ρ → Q (.nx ρ)) → Wp Q (lFor dg body os ρ)
  | [], k, ρ, h0, _, hq => ⟨_, rfl, hq ρ h0⟩
  | o :: os, k, ρ, h0, hs, hq => by
    obtain ⟨ρ1, e1, out, e2, q⟩ := hs 0 o ρ rfl h0
    have go : ∀ ρ2, I (k + 1) ρ2 → Wp Q (lFor dg body os ρ2) := fun ρ2 h2 => wl_inv I os (k + 1) ρ2 h2 (fun j o ρ ho hi => by
      have := hs (j + 1) o ρ ho (by rw [show k + (j + 1) = k + 1 + j by omega]; exact hi)
      rw [show k + (j + 1) = k + 1 + j by omega] at this
      exact this) (fun ρ hi => hq ρ (by rw [List.length_cons, show k + (os.length + 1) = k + 1 + os.length by omega]; exact hi))
    unfold Wp
    rw [lFor, e1]
    dsimp only
    rw [e2]
    cases out with
    | nx ρ => exact go _ q
    | ct ρ => exact go _ q
    | rt o ρ => exact ⟨_, rfl, q⟩
    | bk ρ => exact ⟨_, rfl, q⟩
    | er c ρ => exact ⟨_, rfl, q⟩
/-- over range -/
theorem wl_rng (I : Nat → Env → Prop) {lo : Int} {n : Nat} (h0 : I 0 ρ) (hs : ∀ j ρ, j < n → I j ρ → ∃ ρ1, dg (.int (lo + (j : Int))) ρ = some ρ1 ∧ Wp (Lp Q (I (j + 1))) (body ρ1)) (hq : ∀ ρ, I n ρ → Q (.nx ρ)) : Wp Q (lFor dg body (rngs lo n) ρ) := by
  refine wl_inv I _ 0 ρ h0 (fun j o ρ ho hi => ?_) (fun ρ hi => hq ρ ?_)
  · obtain ⟨rfl, hj⟩ := rngs_at ho
    rw [Nat.zero_add] at hi ⊢
    exact hs j ρ hj hi
  · rw [rngs_len, Nat.zero_add] at hi
    exact hi
theorem wl_rng0 (I : Nat → Env → Prop) {n : Nat} (h0 : I 0 ρ) (hs : ∀ j ρ, j < n → I j ρ → ∃ ρ1, dg (.int (j : Int)) ρ = some ρ1 ∧ Wp (Lp Q (I (j + 1))) (body ρ1)) (hq : ∀ ρ, I n ρ → Q (.nx ρ)) : Wp Q (lFor dg body (rngs 0 n) ρ) :=
  wl_rng I h0 (fun j ρ hj hi => by rw [Int.zero_add]; exact hs j ρ hj hi) hq
/-- over a list of data -/
theorem wl_map {α : Type} (I : List α → Env → Prop) (el : α → O) : ∀ (xs done : List α) (ρ : Env), I done ρ → (∀ d x r ρ, done ++ xs = d ++ x :: r → I d ρ → ∃ ρ1, dg (el x) ρ = some ρ1 ∧ Wp (Lp Q (I (d ++ [x]))) (body ρ1)) → (∀ ρ, I (done ++ xs) ρ → Q (.nx ρ)) → Wp Q (lFor dg body (xs.map el) ρ)
  | [], done, ρ, h0, _, hq => ⟨_, rfl, hq ρ (by rw [List.append_nil]; exact h0)⟩
  | x :: xs, done, ρ, h0, hs, hq => by
    obtain ⟨ρ1, e1, out, e2, q⟩ := hs done x xs ρ rfl h0
    have go : ∀ ρ2, I (done ++ [x]) ρ2 → Wp Q (lFor dg body (xs.map el) ρ2) := fun ρ2 h2 => wl_map I el xs (done ++ [x]) ρ2 h2 (fun d x' r ρ e hi => hs d x' r ρ (by rw [← e, List.append_assoc]; rfl) hi) (fun ρ hi => hq ρ (by rw [List.append_assoc] at hi; exact hi))
    unfold Wp
    rw [List.map_cons, lFor, e1]
    dsimp only
    rw [e2]
    cases out with
    | nx ρ => exact go _ q
    | ct ρ => exact go _ q
    | rt o ρ => exact ⟨_, rfl, q⟩
    | bk ρ => exact ⟨_, rfl, q⟩
    | er c ρ => exact ⟨_, rfl, q⟩
theorem wl_nil (q : Q (.nx ρ)) : Wp Q (lFor dg body [] ρ) := ⟨_, rfl, q⟩
/-- a while by a measure -/
theorem wp_while (I : Nat → Env → Prop) : ∀ (n : Nat) (ρ : Env), I n ρ → (∀ n ρ, I n ρ → ∃ v, t ρ = some v ∧ (v = true → Wp (Lp Q fun ρ' => ∃ n', n' < n ∧ I n' ρ') (body ρ)) ∧ (v = false → Q (.nx ρ))) → Wp Q (dWhile t body ρ) := by
  intro n
  induction n using Nat.strongRecOn with
  | ind n ih =>
    intro ρ h0 hs
    obtain ⟨v, e, h1, h2⟩ := hs n ρ h0
    cases v with
    | false =>
      have l : lWhile t body 1 ρ = some (.nx ρ) := by rw [lWhile, e]
      exact ⟨_, dWhile_of l, h2 rfl⟩
    | true =>
      obtain ⟨out, e2, q⟩ := h1 rfl
      have go : ∀ ρ2, (∃ n', n' < n ∧ I n' ρ2) → (body ρ = some (.nx ρ2) ∨ body ρ = some (.ct ρ2)) → Wp Q (dWhile t body ρ) := fun ρ2 ⟨n', hn, hi⟩ hb => by
        obtain ⟨out, e3, q⟩ := ih n' hn ρ2 hi hs
        obtain ⟨N, e4⟩ := dWhile_to e3
        refine ⟨out, dWhile_of (n := N + 1) ?_, q⟩
        rw [lWhile, e]
        dsimp only
        rcases hb with hb | hb <;> (rw [hb]; exact e4)
      cases out with
      | nx ρ2 => exact go ρ2 q (.inl e2)
      | ct ρ2 => exact go ρ2 q (.inr e2)
      | rt o ρ2 => exact ⟨_, dWhile_of (n := 1) (by rw [lWhile, e]; dsimp only; rw [e2]), q⟩
      | bk ρ2 => exact ⟨_, dWhile_of (n := 1) (by rw [lWhile, e]; dsimp only; rw [e2]), q⟩
      | er c ρ2 => exact ⟨_, dWhile_of (n := 1) (by rw [lWhile, e]; dsimp only; rw [e2]), q⟩
/-! a def -/
def envE (os : List O) (k : Nat) (ρ : Env) : Prop := os.map some ++ List.replicate k none = ρ
theorem env_c (h : envE os k ρ) : envE (o :: os) k (some o :: ρ) := by
  unfold envE at h ⊢
  rw [List.map_cons, List.cons_append, h]
theorem env_s (h : envE [] k ρ) : envE [] (k + 1) (none :: ρ) := by
  unfold envE at h ⊢
  rw [← h, List.map_nil, List.nil_append, List.nil_append, List.replicate_succ]
theorem env_z : envE [] 0 [] := rfl
theorem envE.to (hk : k + n = m) (he : envE os k ρ) : os.map some ++ List.replicate (m - n) none = ρ := by
  rw [show m - n = k by omega]; exact he
theorem def_wp {pn : Nat → Bool} {v : O} (hk : k + n = m) (he : envE os k ρ) (h : Wp (Ends v) (a ρ)) : ∃ f, dDef pn n m a os = some (v, f) := by
  obtain ⟨out, e, q⟩ := h
  unfold dDef
  rw [he.to hk, e]
  cases out with
  | rt o ρ => cases q; exact ⟨_, rfl⟩
  | nx ρ => cases q; exact ⟨_, rfl⟩
  | bk ρ => exact q.elim
  | ct ρ => exact q.elim
  | er c ρ => exact q.elim
theorem def_wpF {pn : Nat → Bool} {R : O → Env → Prop} (hk : k + n = m) (he : envE os k ρ) (h : Wp (EndsF fun o ρ => R o (fin pn 0 n ρ)) (a ρ)) : ∃ v f, dDef pn n m a os = some (v, f) ∧ R v f := by
  obtain ⟨out, e, q⟩ := h
  unfold dDef
  rw [he.to hk, e]
  cases out with
  | rt o ρ => exact ⟨_, _, rfl, q⟩
  | nx ρ => exact ⟨_, _, rfl, q⟩
  | bk ρ => exact q.elim
  | ct ρ => exact q.elim
  | er c ρ => exact q.elim
theorem def_wpE {pn : Nat → Bool} {R : O → Prop} (hk : k + n = m) (he : envE os k ρ) (h : Wp (EndsF fun o _ => R o) (a ρ)) : ∃ v f, dDef pn n m a os = some (v, f) ∧ R v := def_wpF (R := fun o _ => R o) hk he h
/-- a def that may raise: it ends with v -/
theorem defX_wp {pn : Nat → Bool} {v : O} (hk : k + n = m) (he : envE os k ρ) (h : Wp (Ends v) (a ρ)) : ∃ f, dDefX pn n m a os = some (.ok v f) := by
  obtain ⟨out, e, q⟩ := h
  unfold dDefX
  rw [he.to hk, e]
  cases out with
  | rt o ρ => cases q; exact ⟨_, rfl⟩
  | nx ρ => cases q; exact ⟨_, rfl⟩
  | bk ρ => exact q.elim
  | ct ρ => exact q.elim
  | er c ρ => exact q.elim
def Raises (k : Nat) : Out → Prop
  | .er c _ => c = k
  | _ => False
theorem defX_er {pn : Nat → Bool} {c : Nat} (hk : k + n = m) (he : envE os k ρ) (h : Wp (Raises c) (a ρ)) : ∃ f, dDefX pn n m a os = some (.er c f) := by
  obtain ⟨out, e, q⟩ := h
  unfold dDefX
  rw [he.to hk, e]
  cases out with
  | er c ρ => cases q; exact ⟨_, rfl⟩
  | nx ρ => exact q.elim
  | bk ρ => exact q.elim
  | ct ρ => exact q.elim
  | rt o ρ => exact q.elim
theorem raises_er {c : Nat} : Raises c (.er c ρ) := rfl
theorem defX_wpE {pn : Nat → Bool} {R : O → Prop} {S : Nat → Prop} (hk : k + n = m) (he : envE os k ρ) (h : Wp (EndsX R S) (a ρ)) : (∃ v f, dDefX pn n m a os = some (.ok v f) ∧ R v) ∨ (∃ c f, dDefX pn n m a os = some (.er c f) ∧ S c) := by
  obtain ⟨out, e, q⟩ := h
  unfold dDefX
  rw [he.to hk, e]
  cases out with
  | rt o ρ => exact .inl ⟨_, _, rfl, q⟩
  | nx ρ => exact .inl ⟨_, _, rfl, q⟩
  | er c ρ => exact .inr ⟨_, _, rfl, q⟩
  | bk ρ => exact q.elim
  | ct ρ => exact q.elim
/-! calls that may raise -/
theorem wp_asgR {dr : Env → Option Rv} (e : dr ρ = some (.ok o ρ1)) (s : dg o ρ1 = some ρ') (q : Q (.nx ρ')) : Wp Q (dAsgR dr dg ρ) := ⟨_, by unfold dAsgR; rw [e]; dsimp only; rw [s], q⟩
theorem wp_asgRe {dr : Env → Option Rv} {c : Nat} (e : dr ρ = some (.er c ρ1)) (q : Q (.er c ρ1)) : Wp Q (dAsgR dr dg ρ) := ⟨_, by unfold dAsgR; rw [e], q⟩
theorem wp_retR {dr : Env → Option Rv} (e : dr ρ = some (.ok o ρ1)) (q : Q (.rt o ρ1)) : Wp Q (dRetR dr ρ) := ⟨_, by unfold dRetR; rw [e], q⟩
theorem wp_retRe {dr : Env → Option Rv} {c : Nat} (e : dr ρ = some (.er c ρ1)) (q : Q (.er c ρ1)) : Wp Q (dRetR dr ρ) := ⟨_, by unfold dRetR; rw [e], q⟩
theorem wp_exprR {dr : Env → Option Rv} (e : dr ρ = some (.ok o ρ1)) (q : Q (.nx ρ1)) : Wp Q (dExprR dr ρ) := ⟨_, by unfold dExprR; rw [e], q⟩
theorem wp_exprRe {dr : Env → Option Rv} {c : Nat} (e : dr ρ = some (.er c ρ1)) (q : Q (.er c ρ1)) : Wp Q (dExprR dr ρ) := ⟨_, by unfold dExprR; rw [e], q⟩
/-- what a try's suite must do -/
def Tq (Q : Out → Prop) (isE handles : Nat → Bool) (i : Nat) (dz : Nat → Addr → Env → Option Out) : Out → Prop
  | .er c ρ1 => isE c = true ∧ i < ρ1.length ∧ (handles c = true → (∃ v, (∀ a, Wp (Ends v) (dz c a (ρ1.set i (some (.exc a)))) ∧ ∀ out, dz c a (ρ1.set i (some (.exc a))) = some out → ∃ ρ2, out = .rt v ρ2 ∧ ρ2.set i none = ρ1.set i none) ∧ Q (.rt v (ρ1.set i none)))) ∧ (handles c = false → Q (.er c ρ1))
  | out => Q out
theorem wp_try {isE handles : Nat → Bool} {dz : Nat → Addr → Env → Option Out} (h : Wp (Tq Q isE handles i dz) (b ρ)) : Wp Q (dTry isE handles i b dz ρ) := by
  obtain ⟨out, e, q⟩ := h
  unfold dTry
  rw [e]
  cases out with
  | nx ρ => exact ⟨_, rfl, q⟩
  | rt o ρ => exact ⟨_, rfl, q⟩
  | bk ρ => exact ⟨_, rfl, q⟩
  | ct ρ => exact ⟨_, rfl, q⟩
  | er c ρ1 =>
    obtain ⟨q1, q2, q3, q4⟩ := q
    dsimp only
    rw [if_pos ⟨q1, q2⟩]
    cases hc : handles c with
    | false => rw [if_neg Bool.false_ne_true]; exact ⟨_, rfl, q4 hc⟩
    | true =>
      rw [if_pos rfl]
      obtain ⟨v, hv, qv⟩ := q3 hc
      have : pick i (fun a => dz c a (ρ1.set i (some (.exc a)))) = some (.rt v (ρ1.set i none)) := by
        refine pick_of fun a => ?_
        obtain ⟨⟨out, e, _⟩, k⟩ := hv a
        obtain ⟨ρ2, rfl, e2⟩ := k out e
        rw [e]
        show some (Out.rt v (ρ2.set i none)) = _
        rw [e2]
      exact ⟨_, this, qv⟩
/-- the suite gives back a value and changes nothing -/
theorem tq_rt {isE handles : Nat → Bool} {dz : Nat → Addr → Env → Option Out} {c : Nat} {v : O} (h1 : isE c = true) (h2 : i < ρ1.length) (h3 : handles c = true) (h4 : ∀ a, dz c a (ρ1.set i (some (.exc a))) = some (.rt v (ρ1.set i (some (.exc a))))) (q : Q (.rt v (ρ1.set i none))) : Tq Q isE handles i dz (.er c ρ1) :=
  ⟨h1, h2, fun _ => ⟨v, fun a => ⟨⟨_, h4 a, rfl⟩, fun out e => by rw [h4 a] at e; cases e; exact ⟨_, rfl, by rw [List.set_set]⟩⟩, q⟩, fun z => by rw [h3] at z; cases z⟩
theorem tq_nx {isE handles : Nat → Bool} {dz : Nat → Addr → Env → Option Out} (q : Q (.nx ρ)) : Tq Q isE handles i dz (.nx ρ) := q
theorem tq_rtn {isE handles : Nat → Bool} {dz : Nat → Addr → Env → Option Out} (q : Q (.rt o ρ)) : Tq Q isE handles i dz (.rt o ρ) := q
theorem ret_eq (h : d ρ = some o) : dRet d ρ = some (.rt o ρ) := by unfold dRet; rw [h]
theorem ev_isE {a : Addr} {v : Bool} (h : look ρ i = some (.exc a)) : dIsE i a v ρ = some (.bl v) := by unfold dIsE; rw [h]; dsimp only; rw [if_pos rfl]
/-! expressions -/
theorem ev_some {α : Type} {x : α} : some x = some x := rfl
theorem ev_look (h : look ρ i = some o) : look ρ i = some o := h
theorem ev_bin (h1 : da ρ = some x) (h2 : db ρ = some y) (h3 : fn x y = some z) : dBin fn da db ρ = some z := by unfold dBin; rw [h1]; dsimp only; rw [h2]; exact h3
theorem ev_bind (h1 : d ρ = some x) (h3 : f1 x = some z) : dBind d f1 ρ = some z := by unfold dBind; rw [h1]; exact h3
theorem ev_tri {f3 : O → O → O → Option O} {u : O} (h1 : da ρ = some x) (h2 : db ρ = some y) (h3 : dc ρ = some z) (h4 : f3 x y z = some u) : dTri f3 da db dc ρ = some u := by unfold dTri; rw [h1, h2, h3]; exact h4
theorem ev_tru {f : O → Option Bool} {v : Bool} (h : d ρ = some o) (h2 : f o = some v) : dTru f d ρ = some v := by unfold dTru; rw [h]; exact h2
theorem ev_nil : dNil ρ = some [] := rfl
theorem ev_cons (h : d ρ = some o) (h2 : ds ρ = some os) : dCons d ds ρ = some (o :: os) := by unfold dCons; rw [h]; dsimp only; rw [h2]
theorem ev_tup (h : ds ρ = some os) (l : os.length ≤ 16777216) : dTup ds ρ = some (.tup os) := by unfold dTup; rw [h]; dsimp only; rw [if_pos (by rw [sizeLine_eq]; exact l)]
theorem ev_lst (h : ds ρ = some os) (l : os.length ≤ 16777216) : dLst ds ρ = some (.lst true os) := by unfold dLst; rw [h]; dsimp only; rw [if_pos (by rw [sizeLine_eq]; exact l)]
theorem ev_call {ks : List Bool} {Ff : Fn} {vs : List O} {r : O} {f : Env} (h : ds ρ = some os) (hv : views ks os = vs) (e : Ff vs = some (r, f)) (ok : (okb ks os || noFm r) = true) : dCall ks Ff ds ρ = some r := by
  unfold dCall
  rw [h]
  dsimp only
  rw [hv, e]
  dsimp only
  rw [if_pos ok]
theorem ev_callN {ks : List Bool} {Ff : FnX} {vs : List O} {r : O} {f : Env} (h : ds ρ = some os) (hv : views ks os = vs) (e : Ff vs = some (.ok r f)) (ok : (okb ks os || noFm r) = true) : dCallN ks Ff ds ρ = some r := by
  unfold dCallN
  rw [h]
  dsimp only
  rw [hv, e]
  dsimp only
  rw [if_pos ok]
theorem ev_callX {ks : List Bool} {Ff : FnX} {vs : List O} {r : O} {f : Env} (h : ds ρ = some os) (hv : views ks os = vs) (e : Ff vs = some (.ok r f)) (ok : (okb ks os || noFm r) = true) : dCallX ks Ff ds ρ = some (.ok r ρ) := by
  unfold dCallX
  rw [h]
  dsimp only
  rw [hv, e]
  dsimp only
  rw [if_pos ok]
theorem ev_callXe {ks : List Bool} {Ff : FnX} {vs : List O} {c : Nat} {f : Env} (h : ds ρ = some os) (hv : views ks os = vs) (e : Ff vs = some (.er c f)) : dCallX ks Ff ds ρ = some (.er c ρ) := by
  unfold dCallX
  rw [h]
  dsimp only
  rw [hv, e]
theorem vw_nil : views [] [] = [] := rfl
theorem vw_t {ks : List Bool} {vs : List O} (h : frz o = o') (h2 : views ks os = vs) : views (true :: ks) (o :: os) = o' :: vs := by rw [views, if_pos rfl, h, h2]
theorem vw_f {ks : List Bool} {vs : List O} (h2 : views ks os = vs) : views (false :: ks) (o :: os) = o :: vs := by rw [views, if_neg Bool.false_ne_true, h2]
theorem fz_i {i : Int} : frz (.int i) = .int i := rfl
theorem fz_b {b : Bool} : frz (.bl b) = .bl b := rfl
theorem fz_s {s : Str} : frz (.str s) = .str s := rfl
theorem fz_n : frz .non = .non := rfl
theorem fz_e {a : Addr} : frz (.exc a) = .exc a := rfl
theorem fz_t (h : frzs os = os') : frz (.tup os) = .tup os' := by rw [frz, h]
theorem fz_l {w : Bool} (h : frzs os = os') : frz (.lst w os) = .lst false os' := by rw [frz, h]
theorem fz_d {w : Bool} {ks : List L2.Key} (h : frzs os = os') : frz (.dct w ks os) = .dct false ks os' := by rw [frz, h]
theorem fz_o {w : Bool} {c : Nat} {ks : List Str} (h : frzs os = os') : frz (.ins w c ks os) = .ins false c ks os' := by rw [frz, h]
theorem fzs_n : frzs [] = [] := rfl
theorem fzs_c (h : frz o = o') (h2 : frzs os = os') : frzs (o :: os) = o' :: os' := by rw [frzs, h, h2]
theorem fzs_m {α : Type} {g : α → O} {l : List α} (h : ∀ a, frz (g a) = g a) : frzs (l.map g) = l.map g := frz_map g h l
theorem fzs_i {ns : List Int} : frzs (ns.map O.int) = ns.map O.int := frz_map _ (fun _ => rfl) _
@[simp] theorem isfzs_i {ns : List Int} : isFzs (ns.map O.int) = true := fz_map _ (fun _ => rfl) _
@[simp] theorem nofms_i {ns : List Int} : noFms (ns.map O.int) = true := nofm_map _ (fun _ => rfl) _
theorem ev_copy (h : isFz o = true) : copyO o = some o := by unfold copyO; rw [if_pos h]
theorem ev_gSet {o1 : O} (h : setE i (some o1) ρ ρ') : gSet i o1 ρ = some ρ' := by unfold gSet; rw [if_pos h.1, h.2]
theorem ev_gsNil : gsNil [] ρ = some ρ := rfl
theorem ev_gsCons {g : O → Env → Option Env} {gs : List O → Env → Option Env} (h : g o ρ = some ρ1) (h2 : gs os ρ1 = some ρ2) : gsCons g gs (o :: os) ρ = some ρ2 := by unfold gsCons; dsimp only; rw [h]; exact h2
theorem ev_gTup {gs : List O → Env → Option Env} (l : os.length = n) (h : gs os ρ = some ρ') : gTupO n gs (.tup os) ρ = some ρ' := by unfold gTupO; dsimp only; rw [if_pos l]; exact h
theorem ev_mod {i j : Int} (h : 0 < j) : oMod (.int i) (.int j) = some (.int (i % j)) := by rw [oMod_i, if_pos h]
theorem ev_div {i j : Int} (h : 0 < j ∧ j < 18446744073709551616) : oDiv (.int i) (.int j) = some (.int (i / j)) := by
  rw [oDiv_i, if_pos]
  refine ⟨h.1, of_eq_true (mLog2 ?_)⟩
  have := h.1; have := h.2
  omega
theorem ev_mul {i j : Int} (h : i.natAbs < 2 ^ 64 ∧ j.natAbs < 2 ^ 64) : oMul (.int i) (.int j) = some (.int (i * j)) := oMul_b h.1 h.2
theorem ev_idx_t {i : Int} (h : L2.atI os i = some o) : oIdx (.tup os) (.int i) = some o := h
theorem ev_idx_l {w : Bool} {i : Int} (h : L2.atI os i = some o) : oIdx (.lst w os) (.int i) = some o := h
theorem ev_at_z : L2.atI (o :: os) 0 = some o := atI_z o os
theorem ev_at_l {n : Nat} (h : os[n]? = some o) : L2.atI os (no_index (OfNat.ofNat n) : Int) = some o := by rw [atI_lit]; exact h
theorem ev_at_n {n : Nat} (h : os[n]? = some o) : L2.atI os (n : Int) = some o := by rw [atI_n]; exact h
theorem ev_ge_map {α : Type} {g : α → O} {l : List α} {a : α} (h : l[n]? = some a) : (l.map g)[n]? = some (g a) := by rw [List.getElem?_map, h]; rfl
theorem ev_bnot {v : Bool} (h : t ρ = some v) : bNot t ρ = some (!v) := by unfold bNot; rw [h]
theorem ev_band {v w : Bool} (h : ta ρ = some v) (h2 : tb ρ = some w) : bAnd ta tb ρ = some (v && w) := by unfold bAnd; rw [h]; cases v with
  | false => exact rfl
  | true => exact h2
theorem ev_band_f (h : ta ρ = some false) : bAnd ta tb ρ = some false := by unfold bAnd; rw [h]
theorem ev_bor {v w : Bool} (h : ta ρ = some v) (h2 : tb ρ = some w) : bOr ta tb ρ = some (v || w) := by unfold bOr; rw [h]; cases v with
  | false => exact h2
  | true => exact rfl
theorem ev_bor_t (h : ta ρ = some true) : bOr ta tb ρ = some true := by unfold bOr; rw [h]
/-- the second is looked at only where the first holds -/
theorem ev_band' {v w : Bool} (h : ta ρ = some v) (h2 : v = true → tb ρ = some w) (h3 : v = false → w = false) : bAnd ta tb ρ = some w := by
  unfold bAnd; rw [h]; cases v with
  | true => exact h2 rfl
  | false => rw [h3 rfl]
theorem ev_bor' {v w : Bool} (h : ta ρ = some v) (h2 : v = false → tb ρ = some w) (h3 : v = true → w = true) : bOr ta tb ρ = some w := by
  unfold bOr; rw [h]; cases v with
  | false => exact h2 rfl
  | true => rw [h3 rfl]
theorem ev_vand {v w : Bool} (h : da ρ = some (.bl v)) (h2 : db ρ = some (.bl w)) : vAnd da db ρ = some (.bl (v && w)) := by unfold vAnd; rw [h]; cases v with
  | false => exact rfl
  | true => exact h2
theorem ev_vand' {v w : Bool} (h : da ρ = some (.bl v)) (h2 : v = true → db ρ = some (.bl w)) (h3 : v = false → w = false) : vAnd da db ρ = some (.bl w) := by
  unfold vAnd; rw [h]; cases v with
  | true => exact h2 rfl
  | false => rw [h3 rfl]
theorem ev_vor {v w : Bool} (h : da ρ = some (.bl v)) (h2 : db ρ = some (.bl w)) : vOr da db ρ = some (.bl (v || w)) := by unfold vOr; rw [h]; cases v with
  | false => exact h2
  | true => exact rfl
theorem ev_not {v : Bool} : oNot (.bl v) = some (.bl (!v)) := rfl
theorem ev_ite_t (h : t ρ = some true) (h2 : da ρ = some x) : dIte t da db ρ = some x := by unfold dIte; rw [h]; exact h2
theorem ev_ite_f (h : t ρ = some false) (h2 : db ρ = some x) : dIte t da db ρ = some x := by unfold dIte; rw [h]; exact h2
theorem ev_ite {v : Bool} (h : t ρ = some v) (h1 : da ρ = some x) (h2 : db ρ = some y) : dIte t da db ρ = some (if v = true then x else y) := by unfold dIte; rw [h]; cases v with
  | false => exact h2
  | true => exact h1
theorem ev_it {k : Bool} (h : d ρ = some o) (h2 : itO k o = some os) : dIt k d ρ = some os := by unfold dIt; rw [h]; exact h2
theorem it_tl : itO true (.lst false os) = some os := rfl
theorem it_tt (h : isFzs os = true) : itO true (.tup os) = some os := by simp [itO, h]
theorem it_fl {w : Bool} (h : frzs os = os') : itO false (.lst w os) = some os' := by simp [itO, h]
theorem it_ft (h : frzs os = os') : itO false (.tup os) = some os' := by simp [itO, h]
theorem ev_rng1 {n : Nat} (h : d ρ = some (.int (n : Int))) (l : n < 4611686018427387904) : dRng1 d ρ = some (rngs 0 n) := by
  unfold dRng1
  rw [h]
  dsimp only
  rw [if_pos (rOk_n l), Int.toNat_natCast]
theorem ev_rng1i {i : Int} (h : d ρ = some (.int i)) (l : -4611686018427387904 ≤ i ∧ i < 4611686018427387904) : dRng1 d ρ = some (rngs 0 i.toNat) := by
  unfold dRng1
  rw [h]
  dsimp only
  rw [if_pos (rOk_i l.1 l.2)]
theorem ev_rng2 {i j : Int} (h : da ρ = some (.int i)) (h2 : db ρ = some (.int j)) (l : (-4611686018427387904 ≤ i ∧ i < 4611686018427387904) ∧ -4611686018427387904 ≤ j ∧ j < 4611686018427387904) : dRng2 da db ρ = some (rngs i (j - i).toNat) := by
  unfold dRng2
  rw [h]
  dsimp only
  rw [h2]
  dsimp only
  rw [rOk_i l.1.1 l.1.2, rOk_i l.2.1 l.2.2]
  rfl
theorem ev_enum (h : d ρ = some (.lst false os)) : dEnum d ρ = some (enumO os) := by unfold dEnum; rw [h]
theorem ev_list {w : Bool} (h : isFzs os = true) : oList (.lst w os) = some (.lst true os) := by simp [oList, oTuple, h]
theorem ev_list_t (h : isFzs os = true) : oList (.tup os) = some (.lst true os) := by simp [oList, oTuple, h]
theorem ev_tuple {w : Bool} (h : isFzs os = true) : oTuple (.lst w os) = some (.tup os) := by simp [oList, oTuple, h]
theorem ev_tuple_t (h : isFzs os = true) : oTuple (.tup os) = some (.tup os) := by simp [oList, oTuple, h]
theorem ev_add_l {w w' : Bool} (h : isFzs os = true) (h2 : isFzs os' = true) (l : os.length + os'.length ≤ 16777216) : oAdd (.lst w os) (.lst w' os') = some (.lst true (os ++ os')) := by
  rw [oAdd_l, h, h2, lineOk_n l]; rfl
theorem ev_len16 (h : os.length ≤ 16777216) : os.length ≤ 16777216 := h
theorem ev_n62 (h : n < 4611686018427387904) : n < 4611686018427387904 := h
theorem ev_r2 {i j : Int} (l : (-4611686018427387904 ≤ i ∧ i < 4611686018427387904) ∧ -4611686018427387904 ≤ j ∧ j < 4611686018427387904) : (-4611686018427387904 ≤ i ∧ i < 4611686018427387904) ∧ -4611686018427387904 ≤ j ∧ j < 4611686018427387904 := l
theorem ev_tru_b {v : Bool} : oTru (.bl v) = some v := rfl
theorem ev_bool {v : Bool} : oBool (.bl v) = some v := rfl
theorem ev_tru_i {i : Int} : oTru (.int i) = some (i != 0) := rfl
theorem ev_tru_t : oTru (.tup os) = some (!os.isEmpty) := rfl
theorem ev_tru_l {w : Bool} : oTru (.lst w os) = some (!os.isEmpty) := rfl
theorem ev_ok {ks : List Bool} {r : O} (h : (okb ks os || noFm r) = true) : (okb ks os || noFm r) = true := h
/-- a comprehension without if -/
theorem ev_lc {α : Type} {el g : α → O} {vs : List Nat} {xs : List α} (hd : di ρ = some (xs.map el)) (l : xs.length ≤ 16777216) (hs : ∀ x ∈ xs, ∃ ρ1, dg (el x) (wipeE ρ vs) = some ρ1 ∧ d ρ1 = some (g x)) : dLc di dg dYes d vs ρ = some (.lst true (xs.map g)) := by
  unfold dLc
  rw [hd]
  dsimp only
  rw [if_pos (by rw [List.length_map, sizeLine_eq]; exact l)]
  have : ∀ ys : List α, (∀ x ∈ ys, x ∈ xs) → lLc dg dYes d (wipeE ρ vs) (ys.map el) = some (ys.map g) := by
    intro ys
    induction ys with
    | nil => intro _; rfl
    | cons y ys ih =>
      intro hy
      obtain ⟨ρ1, e1, e2⟩ := hs y (hy y (List.mem_cons_self ..))
      rw [List.map_cons, lLc, e1]
      dsimp only
      unfold dYes
      dsimp only
      rw [e2]
      dsimp only
      have := ih fun x hx => hy x (List.mem_cons_of_mem _ hx)
      unfold dYes at this
      rw [this]
      rfl
  rw [this xs fun _ h => h]
/-- a comprehension with an if -/
theorem ev_lcIf {α : Type} {el g : α → O} {vs : List Nat} {xs : List α} (p : α → Bool) (hd : di ρ = some (xs.map el)) (l : xs.length ≤ 16777216) (hs : ∀ x ∈ xs, ∃ ρ1, dg (el x) (wipeE ρ vs) = some ρ1 ∧ t ρ1 = some (p x) ∧ (p x = true → d ρ1 = some (g x))) : dLc di dg t d vs ρ = some (.lst true ((xs.filter p).map g)) := by
  unfold dLc
  rw [hd]
  dsimp only
  rw [if_pos (by rw [List.length_map, sizeLine_eq]; exact l)]
  have : ∀ ys : List α, (∀ x ∈ ys, x ∈ xs) → lLc dg t d (wipeE ρ vs) (ys.map el) = some ((ys.filter p).map g) := by
    intro ys
    induction ys with
    | nil => intro _; rfl
    | cons y ys ih =>
      intro hy
      obtain ⟨ρ1, e1, e2, e3⟩ := hs y (hy y (List.mem_cons_self ..))
      have := ih fun x hx => hy x (List.mem_cons_of_mem _ hx)
      rw [List.map_cons, lLc, e1]
      dsimp only
      rw [e2]
      cases hp : p y with
      | false =>
        dsimp only
        rw [this, List.filter_cons_of_neg (by rw [hp]; decide)]
      | true =>
        dsimp only
        rw [e3 hp]
        dsimp only
        rw [this, List.filter_cons_of_pos hp]
        rfl
  rw [this xs fun _ h => h]
theorem rngs_map (n : Nat) : rngs 0 n = (List.range n).map fun k : Nat => O.int (k : Int) := by
  unfold rngs
  refine List.map_congr_left fun i _ => ?_
  rw [Int.zero_add]
end
end Mini
namespace Mini
open PySem PySem.Spec PyProof.Rows L2
/-! data that is compared -/
structure EqC {α : Type} [DecidableEq α] (g : α → O) (D : Nat) : Prop where
  ok : ∀ a, PyData.canLay0 (toPy (g a)) = true
  dp : ∀ a, PyData.depth (toPy (g a)) ≤ D
  eq : ∀ a b, PyData.eqv (toPy (g a)) (toPy (g b)) = decide (a = b)
theorem EqC.all {α : Type} [DecidableEq α] {g : α → O} {D : Nat} (h : EqC g D) : ∀ l : List α, PyData.canLayAll0 (toPys (l.map g)) = true ∧ PyData.depthAll (toPys (l.map g)) ≤ D ∧ ∀ l' : List α, PyData.eqvAll (toPys (l.map g)) (toPys (l'.map g)) = decide (l = l')
  | [] => ⟨rfl, Nat.zero_le _, fun l' => by cases l' <;> simp [toPys, PyData.eqvAll]⟩
  | a :: l => by
    obtain ⟨i1, i2, i3⟩ := h.all l
    refine ⟨?_, ?_, fun l' => ?_⟩
    · show (PyData.canLay0 _ && PyData.canLayAll0 _) = true
      rw [h.ok, i1]; rfl
    · show max (PyData.depth _) (PyData.depthAll _) ≤ D
      exact Nat.max_le.mpr ⟨h.dp a, i2⟩
    · cases l' with
      | nil => simp [toPys, PyData.eqvAll]
      | cons b l' =>
        show (PyData.eqv _ _ && PyData.eqvAll _ _) = _
        rw [h.eq, i3]
        by_cases e1 : a = b
        · by_cases e2 : l = l' <;> simp [e1, e2]
        · simp [e1]
theorem EqC.int : EqC O.int 0 := ⟨fun _ => rfl, fun _ => Nat.le_refl _, fun a b => rfl⟩
abbrev natO (k : Nat) : O := .int (k : Int)
theorem EqC.nat : EqC natO 0 := ⟨fun _ => rfl, fun _ => Nat.le_refl _, fun a b => by
  show decide ((a : Int) = (b : Int)) = decide (a = b)
  by_cases h : a = b
  · simp [h]
  · have : ¬ (a : Int) = (b : Int) := by omega
    simp [h, this]⟩
theorem EqC.tup {α : Type} [DecidableEq α] {g : α → O} {D : Nat} (h : EqC g D) : EqC (fun l : List α => O.tup (l.map g)) (D + 1) := ⟨fun l => (h.all l).1, fun l => Nat.succ_le_succ (h.all l).2.1, fun a b => (h.all a).2.2 b⟩
theorem EqC.lst {α : Type} [DecidableEq α] {g : α → O} {D : Nat} (w : Bool) (h : EqC g D) : EqC (fun l : List α => O.lst w (l.map g)) (D + 1) := ⟨fun l => (h.all l).1, fun l => Nat.succ_le_succ (h.all l).2.1, fun a b => (h.all a).2.2 b⟩
theorem EqC.pair {α β : Type} [DecidableEq α] [DecidableEq β] {g : α → O} {k : β → O} {D D' : Nat} (h : EqC g D) (h' : EqC k D') : EqC (fun p : α × β => O.tup [g p.1, k p.2]) (max D D' + 1) := ⟨fun p => by
    show (PyData.canLay0 _ && (PyData.canLay0 _ && true)) = true
    rw [h.ok, h'.ok]; rfl, fun p => by
    show max (PyData.depth _) (max (PyData.depth _) 0) + 1 ≤ _
    have := h.dp p.1; have := h'.dp p.2
    omega, fun a b => by
    show (PyData.eqv _ _ && (PyData.eqv _ _ && true)) = _
    rw [h.eq, h'.eq]
    obtain ⟨a1, a2⟩ := a
    obtain ⟨b1, b2⟩ := b
    by_cases e1 : a1 = b1 <;> by_cases e2 : a2 = b2 <;> simp [e1, e2]⟩
theorem shp {d : PyData} (h1 : d.canLay0 = true) (h2 : d.depth ≤ 64) : SeqAt.shaped d = true := by
  show (d.canLay0 && decide (d.depth ≤ 64)) = true
  rw [h1, decide_eq_true h2]; rfl
theorem EqC.oEq {α : Type} [DecidableEq α] {g : α → O} {D : Nat} (h : EqC g D) (hD : D ≤ 64) (a b : α) : Mini.oEq (g a) (g b) = some (.bl (decide (a = b))) := by
  rw [oEq_def]
  unfold oEq0
  rw [shp (h.ok a) (Nat.le_trans (h.dp a) hD), shp (h.ok b) (Nat.le_trans (h.dp b) hD), h.eq]; rfl
theorem EqC.oNe {α : Type} [DecidableEq α] {g : α → O} {D : Nat} (h : EqC g D) (hD : D ≤ 64) (a b : α) : Mini.oNe (g a) (g b) = some (.bl (!decide (a = b))) := by
  rw [oNe_def]
  unfold oNe0
  rw [shp (h.ok a) (Nat.le_trans (h.dp a) hD), shp (h.ok b) (Nat.le_trans (h.dp b) hD), h.eq]; rfl
theorem EqC.oEqL {α : Type} [DecidableEq α] {g : α → O} {D : Nat} (h : EqC g D) (hD : D ≤ 63) (w w' : Bool) (a b : List α) : Mini.oEq (.lst w (a.map g)) (.lst w' (b.map g)) = some (.bl (decide (a = b))) := by
  obtain ⟨h1, h2, h3⟩ := h.all a
  obtain ⟨k1, k2, k3⟩ := h.all b
  rw [oEq_def]
  unfold oEq0
  rw [shp (d := toPy (.lst w (a.map g))) h1 (show PyData.depthAll _ + 1 ≤ 64 by omega), shp (d := toPy (.lst w' (b.map g))) k1 (show PyData.depthAll _ + 1 ≤ 64 by omega)]
  show some (O.bl (PyData.eqvAll _ _)) = _
  rw [h3]
theorem EqC.oNeL {α : Type} [DecidableEq α] {g : α → O} {D : Nat} (h : EqC g D) (hD : D ≤ 63) (w w' : Bool) (a b : List α) : Mini.oNe (.lst w (a.map g)) (.lst w' (b.map g)) = some (.bl (!decide (a = b))) := by
  obtain ⟨h1, h2, h3⟩ := h.all a
  obtain ⟨k1, k2, k3⟩ := h.all b
  rw [oNe_def]
  unfold oNe0
  rw [shp (d := toPy (.lst w (a.map g))) h1 (show PyData.depthAll _ + 1 ≤ 64 by omega), shp (d := toPy (.lst w' (b.map g))) k1 (show PyData.depthAll _ + 1 ≤ 64 by omega)]
  show some (O.bl (!PyData.eqvAll _ _)) = _
  rw [h3]
section
variable {Q : Out → Prop} {J : Env → Prop} {a b c : Env → Option Out} {d d' da db dc di : Env → Option O} {t ta tb : Env → Option Bool} {ds : Env → Option (List O)} {dp : Env → Option (List PSt)} {ρ ρ' ρ1 ρ2 : Env} {i j k n m : Nat} {o o' x y z : O} {os os' ps : List O} {P : List PSt}
theorem wp_appPop {kk : Nat} (e1 : look ρ i = some (.lst true os)) (e2 : look ρ j = some (.lst true ps)) (h : di ρ = some (.int (kk : Int))) (z : isFzs ps = true) (l1 : kk < 4611686018427387904) (l2 : os.length < 16777216) (ne : i ≠ j) (hy : ps[kk]? = some y)
    (s1 : setE j (some (.lst true (ps.eraseIdx kk))) ρ ρ1) (s2 : setE i (some (.lst true (os ++ [y]))) ρ1 ρ') (q : Q (.nx ρ')) : Wp Q (dAppPop i j di ρ) := by
  refine ⟨.nx ρ', ?_, q⟩
  unfold dAppPop
  rw [e1]; dsimp only; rw [e2]; dsimp only; rw [h]; dsimp only
  rw [if_pos ⟨z, by omega, by omega, by rw [sizeLine_eq]; exact l2, ne⟩, Int.toNat_natCast, hy]
  dsimp only
  rw [s1.2, s2.2]
theorem wp_modP {fn : O → Option O} (e : look ρ i = some o) (h : dp ρ = some P) (hm : modP fn o P = some o') (s : setE i (some o') ρ ρ') (q : Q (.nx ρ')) : Wp Q (dModP i dp fn ρ) := by
  refine ⟨.nx ρ', ?_, q⟩
  unfold dModP
  rw [e]; dsimp only; rw [h]; dsimp only; rw [hm]; dsimp only; rw [s.2]
theorem wp_setP {kk : Int} (h1 : d ρ = some y) (h2 : di ρ = some (.int kk)) (e : look ρ i = some o) (h : dp ρ = some P) (hm : modP (stO' kk y) o P = some o') (s : setE i (some o') ρ ρ') (q : Q (.nx ρ')) : Wp Q (dSetP i dp di d ρ) := by
  unfold dSetP
  rw [h1]; dsimp only; rw [h2]; exact wp_modP e h hm s q
theorem wp_appP (h1 : d ρ = some y) (e : look ρ i = some o) (h : dp ρ = some P) (hm : modP (apO y) o P = some o') (s : setE i (some o') ρ ρ') (q : Q (.nx ρ')) : Wp Q (dAppP i dp d ρ) := by
  unfold dAppP
  rw [h1]; exact wp_modP e h hm s q
theorem ev_pNil : pNil ρ = some [] := rfl
theorem ev_pFl {c : Nat} {f : Str} (h : dp ρ = some P) : pFl dp c f ρ = some (P ++ [.fl c f]) := by unfold pFl; rw [h]
theorem ev_pFl0 {c : Nat} {f : Str} : pFl pNil c f ρ = some [.fl c f] := rfl
theorem ev_pIx {k : Nat} (h : dp ρ = some P) (h2 : d ρ = some (.int (k : Int))) : pIx dp d ρ = some (P ++ [.ix k]) := by
  unfold pIx; rw [h]; dsimp only; rw [h2]; dsimp only
  rw [if_pos (by omega), Int.toNat_natCast]
theorem modP_nil {fn : O → Option O} (h : fn o = some o') : modP fn o [] = some o' := h
theorem modP_fl {fn : O → Option O} {c : Nat} {f : Str} {ns : List Str} (h1 : fldO f ns os = some o) (h2 : modP fn o P = some o') (h3 : putO f o' ns os = os') : modP fn (.ins true c ns os) (.fl c f :: P) = some (.ins true c ns os') := by
  show (if c = c then _ else none) = _
  rw [if_pos rfl, h1]; dsimp only; rw [h2]; dsimp only; rw [h3]
theorem modP_ix {fn : O → Option O} {k : Nat} (h1 : os[k]? = some o) (h2 : modP fn o P = some o') : modP fn (.lst true os) (.ix k :: P) = some (.lst true (os.set k o')) := by
  show (match os[k]? with | some o => _ | none => none) = _
  rw [h1]; dsimp only; rw [h2]
theorem st_n {k : Nat} (h : k < os.length) : stO' (k : Int) y (.lst true os) = some (.lst true (os.set k y)) := by
  show (match ixN os.length (k : Int) with | some j => _ | none => none) = _
  rw [ixN_n, if_pos h]
theorem ap_n (h : os.length < 16777216) : apO y (.lst true os) = some (.lst true (os ++ [y])) := by
  show (if os.length < sizeLine then _ else none) = _
  rw [if_pos (by rw [sizeLine_eq]; exact h)]
theorem wp_setF {c : Nat} {f : Str} {ns ns' : List Str} (h : d ρ = some o) (e : look ρ i = some (.ins true c ns os)) (l : ns.length < 1000) (h1 : putN f ns = ns') (h2 : putO f o ns os = os') (s : setE i (some (.ins true c ns' os')) ρ ρ') (q : Q (.nx ρ')) : Wp Q (dSetF i c f d ρ) := by
  refine ⟨.nx ρ', ?_, q⟩
  unfold dSetF
  rw [h]; dsimp only; rw [e]; dsimp only; rw [if_pos ⟨rfl, l⟩, h1, h2, s.2]
theorem ev_fld {c : Nat} {w : Bool} {f : Str} {ns : List Str} (h : d ρ = some (.ins w c ns os)) (h2 : fldO f ns os = some o) : dFld c f d ρ = some o := by
  unfold dFld
  rw [h]; dsimp only; rw [if_pos rfl]; exact h2
theorem ev_prop {c : Nat} {k w : Bool} {ns : List Str} {Ff : Fn} (h : d ρ = some (.ins w c ns os)) (h2 : dCall [k] Ff (dCons d dNil) ρ = some o) : dProp c k Ff d ρ = some o := by
  unfold dProp
  rw [h]; dsimp only; rw [if_pos rfl]; exact h2
theorem ev_meth {c : Nat} {m : Str} {ks : List Bool} {Ff : Fn} (h : d ρ = some x) (ho : isObj c m x = true) (h2 : dCall ks Ff (dCons d ds) ρ = some o) : dMeth c m ks Ff d ds ρ = some o := by
  unfold dMeth
  rw [h]; dsimp only; rw [if_pos ho]; exact h2
theorem ev_lend0 {c : Nat} {m : Str} {ks : List Bool} {Ff : Fn} {vs : List O} {r : O} {fin : Env} (e : look ρ i = some x) (ho : isObj c m x = true) (h : ds ρ = some os) (hk : okb ks os = true) (hv : views ks os = vs) (hf : Ff (x :: vs) = some (r, fin)) (hl : look fin 0 = some o') (s : setE i (some o') ρ ρ') : dLend0 i c m ks Ff ds ρ = some (.ok r ρ') := by
  unfold dLend0
  rw [e]; dsimp only; rw [if_pos ho, h]; dsimp only; rw [if_pos hk, hv, hf]; dsimp only; rw [hl]; dsimp only; rw [s.2]
theorem ev_lendR {c : Nat} {m : Str} {ks : List Bool} {Ff : FnX} {vs : List O} {r : O} {fin : Env} (e : look ρ i = some x) (ho : isObj c m x = true) (h : ds ρ = some os) (hk : okb ks os = true) (hv : views ks os = vs) (hf : Ff (x :: vs) = some (.ok r fin)) (hl : look fin 0 = some o') (s : setE i (some o') ρ ρ') : dLendR i c m ks Ff ds ρ = some (.ok r ρ') := by
  unfold dLendR
  rw [e]; dsimp only; rw [if_pos ho, h]; dsimp only; rw [if_pos hk, hv, hf]; dsimp only; rw [hl]; dsimp only; rw [s.2]
theorem ev_lendRe {c e' : Nat} {m : Str} {ks : List Bool} {Ff : FnX} {vs : List O} {fin : Env} (e : look ρ i = some x) (ho : isObj c m x = true) (h : ds ρ = some os) (hk : okb ks os = true) (hv : views ks os = vs) (hf : Ff (x :: vs) = some (.er e' fin)) (hl : look fin 0 = some o') (s : setE i (some o') ρ ρ') : dLendR i c m ks Ff ds ρ = some (.er e' ρ') := by
  unfold dLendR
  rw [e]; dsimp only; rw [if_pos ho, h]; dsimp only; rw [if_pos hk, hv, hf]; dsimp only; rw [hl]; dsimp only; rw [s.2]
theorem ev_makeR {c : Nat} {ks : List Bool} {Ff : FnX} {vs : List O} {fin : Env} (h : ds ρ = some os) (hv : views ks os = vs) (hf : Ff (.ins true c [] [] :: vs) = some (.ok .non fin)) (hl : look fin 0 = some o') (ok : (okb ks os || noFm o') = true) : dMakeR c ks Ff ds ρ = some (.ok o' ρ) := by
  unfold dMakeR
  rw [h]; dsimp only; rw [hv, hf]; dsimp only; rw [hl]; dsimp only; rw [if_pos ok]
theorem ev_makeRe {c e : Nat} {ks : List Bool} {Ff : FnX} {vs : List O} {fin : Env} (h : ds ρ = some os) (hv : views ks os = vs) (hf : Ff (.ins true c [] [] :: vs) = some (.er e fin)) : dMakeR c ks Ff ds ρ = some (.er e ρ) := by
  unfold dMakeR
  rw [h]; dsimp only; rw [hv, hf]
theorem wp_ifN {dr : Env → Option Rv} (h : dr ρ = some (.ok .non ρ1)) (q : Wp Q (dIf t a b ρ1)) : Wp Q (dIfN dr t a b ρ) := by
  unfold dIfN
  rw [h]; exact q
theorem ev_sort {w : Bool} {ns : List Int} : oSort (.lst w (ns.map O.int)) = some (.lst true ((srtI ns).map O.int)) := by
  show (match intsL (ns.map O.int) with | some ns => _ | none => none) = _
  rw [intsL_map]
theorem ev_lstRg {n : Nat} (h : n ≤ 16777216) : oLstRg (.int (n : Int)) = some (.lst true (rngs 0 n)) := by
  show (if rOk (n : Int) = true ∧ (n : Int) ≤ 16777216 then _ else none) = _
  rw [if_pos ⟨rOk_n (by omega), by omega⟩, Int.toNat_natCast]
theorem rngs_nat (n : Nat) : rngs 0 n = (List.range n).map natO := rngs_map n
theorem ev_fldO {f : Str} {ns : List Str} (h : fldO f ns os = some o) : fldO f ns os = some o := h
theorem ev_putO {f : Str} {ns : List Str} (h : putO f o ns os = os') : putO f o ns os = os' := h
theorem ev_putN {f : Str} {ns ns' : List Str} (h : putN f ns = ns') : putN f ns = ns' := h
theorem putO_hit {f : Str} {ns : List Str} : putO f o (f :: ns) (x :: os) = o :: os := by rw [putO, if_pos rfl]
theorem putO_miss {f g : Str} {ns : List Str} (h : g ≠ f) (h2 : putO f o ns os = os') : putO f o (g :: ns) (x :: os) = x :: os' := by rw [putO, if_neg h, h2]
theorem putO_nil {f : Str} : putO f o [] [] = [o] := rfl
theorem putN_hit {f : Str} {ns : List Str} : putN f (f :: ns) = f :: ns := by rw [putN, if_pos rfl]
theorem putN_miss {f g : Str} {ns ns' : List Str} (h : g ≠ f) (h2 : putN f ns = ns') : putN f (g :: ns) = g :: ns' := by rw [putN, if_neg h, h2]
theorem putN_nil {f : Str} : putN f [] = [f] := rfl
theorem ev_isObj {c : Nat} {m : Str} (h : isObj c m o = true) : isObj c m o = true := h
theorem ev_okb {ks : List Bool} (h : okb ks os = true) : okb ks os = true := h
theorem natO_frz (k : Nat) : frz (natO k) = natO k := rfl
theorem fzs_nat {l : List Nat} : frzs (l.map natO) = l.map natO := frz_map _ (fun _ => rfl) _
@[simp] theorem isfzs_nat {l : List Nat} : isFzs (l.map natO) = true := fz_map _ (fun _ => rfl) _
@[simp] theorem nofms_nat {l : List Nat} : noFms (l.map natO) = true := nofm_map _ (fun _ => rfl) _
theorem defX_wpF {pn : Nat → Bool} {R : O → Env → Prop} (hk : k + n = m) (he : envE os k ρ) (h : Wp (EndsF fun o ρ => R o (fin pn 0 n ρ)) (a ρ)) : ∃ v f, dDefX pn n m a os = some (.ok v f) ∧ R v f := by
  obtain ⟨out, e, q⟩ := h
  unfold dDefX
  rw [he.to hk, e]
  cases out with
  | rt o ρ => exact ⟨_, _, rfl, q⟩
  | nx ρ => exact ⟨_, _, rfl, q⟩
  | bk ρ => exact q.elim
  | ct ρ => exact q.elim
  | er c ρ => exact q.elim
theorem enum_at {j : Nat} (h : (enumO os)[j]? = some o) : ∃ x, os[j]? = some x ∧ o = .tup [.int (j : Int), x] := by
  unfold enumO at h
  rw [List.getElem?_mapIdx] at h
  cases e : os[j]? with
  | none => rw [e] at h; cases h
  | some x => rw [e] at h; cases h; exact ⟨x, rfl, rfl⟩
theorem enum_len : (enumO os).length = os.length := by simp [enumO]
def castL (l : List Nat) : List Int := l.map fun k : Nat => (k : Int)
theorem cast_int (l : List Nat) : (castL l).map O.int = l.map natO := by unfold castL; rw [List.map_map]; rfl
theorem cast_inj {l l' : List Nat} (h : castL l = castL l') : l = l' := by
  induction l generalizing l' with
  | nil => cases l' with
    | nil => rfl
    | cons b l' => cases h
  | cons a l ih => cases l' with
    | nil => cases h
    | cons b l' =>
      unfold castL at h
      rw [List.map_cons, List.map_cons, List.cons.injEq] at h
      rw [ih h.2, show a = b by omega]
theorem perm_of_srt {L : List Int} {n : Nat} (h : srtI L = castL (List.range n)) : ∃ P : List Nat, L = castL P ∧ P.Perm (List.range n) := by
  have p := srtI_perm L
  rw [h] at p
  have nn : ∀ x ∈ L, ∃ k : Nat, x = (k : Int) := fun x hx => by
    obtain ⟨k, _, e⟩ := List.mem_map.mp (p.mem_iff.mpr hx)
    exact ⟨k, e.symm⟩
  have e : L = castL (L.map Int.toNat) := by
    unfold castL
    rw [List.map_map]
    refine (List.map_id L).symm.trans (List.map_congr_left fun x hx => ?_)
    obtain ⟨k, rfl⟩ := nn x hx
    rfl
  refine ⟨L.map Int.toNat, e, ?_⟩
  have := (p.symm.map Int.toNat)
  unfold castL at this
  rw [List.map_map] at this
  refine this.trans ?_
  rw [show (Int.toNat ∘ fun k : Nat => (k : Int)) = id from funext fun k => rfl, List.map_id]
theorem srt_of_perm {P : List Nat} {n : Nat} (h : P.Perm (List.range n)) : srtI (castL P) = castL (List.range n) := by
  refine (srtI_uniq (l := castL P) (h.symm.map _) ?_).symm
  rw [List.pairwise_map]
  exact List.pairwise_le_range.imp fun h => by omega
theorem set_nat (l : List Nat) (i k : Nat) : (l.map natO).set i (.int (k : Int)) = (l.set i k).map natO := by rw [List.map_set]
theorem ok_m {ks : List Bool} {r : O} (h : noFm r = true) : (okb ks os || noFm r) = true := by rw [h, Bool.or_true]
theorem ok_z {ks : List Bool} {r : O} (h : okb ks os = true) : (okb ks os || noFm r) = true := by rw [h, Bool.true_or]
theorem okb_nil : okb [] [] = true := rfl
theorem okb_f {ks : List Bool} (h : okb ks os = true) : okb (false :: ks) (o :: os) = true := by rw [okb, h]; rfl
theorem okb_t {ks : List Bool} (h : isFz o = true) (h2 : okb ks os = true) : okb (true :: ks) (o :: os) = true := by rw [okb, h, h2]; rfl
theorem nfm_i {i : Int} : noFm (.int i) = true := rfl
theorem nfm_b {b : Bool} : noFm (.bl b) = true := rfl
theorem nfm_s {b : Str} : noFm (.str b) = true := rfl
theorem nfm_n : noFm .non = true := rfl
theorem nfm_l (h : noFms os = true) : noFm (.lst true os) = true := by rw [noFm, h]; rfl
theorem nfm_t (h : noFms os = true) : noFm (.tup os) = true := by rw [noFm, h]
theorem nfm_o {c : Nat} {ns : List Str} (h : noFms os = true) : noFm (.ins true c ns os) = true := by rw [noFm, h]; rfl
theorem nfm_d {ks : List L2.Key} (h : noFms os = true) : noFm (.dct true ks os) = true := by rw [noFm, h]; rfl
theorem nfms_n : noFms [] = true := rfl
theorem nfms_c (h : noFm o = true) (h2 : noFms os = true) : noFms (o :: os) = true := by rw [noFms, h, h2]; rfl
theorem ifz_i {i : Int} : isFz (.int i) = true := rfl
theorem ifz_b {b : Bool} : isFz (.bl b) = true := rfl
theorem ifz_s {b : Str} : isFz (.str b) = true := rfl
theorem ifz_n : isFz .non = true := rfl
theorem ifz_l (h : isFzs os = true) : isFz (.lst false os) = true := by rw [isFz, h]; rfl
theorem ifz_t (h : isFzs os = true) : isFz (.tup os) = true := by rw [isFz, h]
theorem ifz_o {c : Nat} {ns : List Str} (h : isFzs os = true) : isFz (.ins false c ns os) = true := by rw [isFz, h]; rfl
theorem ifz_d {ks : List L2.Key} (h : isFzs os = true) : isFz (.dct false ks os) = true := by rw [isFz, h]; rfl
theorem ifzs_n : isFzs [] = true := rfl
theorem ifzs_c (h : isFz o = true) (h2 : isFzs os = true) : isFzs (o :: os) = true := by rw [isFzs, h, h2]; rfl
theorem ev_ixN {m k : Nat} (h : k < m) : ixN m (k : Int) = some k := by rw [ixN_n, if_pos h]
theorem ev_ixN0 {m : Nat} (h : 0 < m) : ixN m 0 = some 0 := ev_ixN (k := 0) h
theorem nat_ints (l : List Nat) : l.map natO = (l.map fun k : Nat => (k : Int)).map O.int := by rw [List.map_map]; rfl
end
end Mini
namespace K77
open PySem PySem.Spec PyProof.Rows L2 Mini
def topS (i : Nat) : Stmt := PySem.Challenge.pw_phasor_k77_layouts.main.body.getD i (.Pass ⟨0, 0, 0, 0⟩)
def topM (i j : Nat) : Stmt := match topS i with
  | .ClassDef (body := b) .. => b.getD j (.Pass ⟨0, 0, 0, 0⟩)
  | _ => .Pass ⟨0, 0, 0, 0⟩
def isE (c : Nat) : Bool := decide (c < 2)
def subE (c m : Nat) : Bool := ([[true, false], [true, true]].getD c []).getD m false
section
variable {P : Program} {w : World} {K : PySem.W.Frag} {mg : Str → Option Value} {base : Heap} {ct : Nat → Addr}
abbrev s__law_cell : Stmt := topS 8
theorem sc__law_cell : FnScope ["script", "k"] ["script", "k"] (defScope s__law_cell) := ⟨rfl, rfl, rfl, by decide +kernel, rfl, by decide +kernel, by decide +kernel⟩
noncomputable def F__law_cell : Fn := dDef (fun _ => false) 2 2 (dSeq (dIf (dTru oBool (dBin oLt (fun ρ => look ρ 1) (dBind (fun ρ => look ρ 0) oLen)))
  (dRet (dBind (dBin oIdx (fun ρ => look ρ 0) (fun ρ => look ρ 1)) copyO))
  dSkip)
  (dRet (fun _ => some (.int 0))))
set_option maxHeartbeats 4000000 in
theorem ok__law_cell {f : Addr} {fd : FuncData} (F : Fun K "_law_cell" "_law_cell" s__law_cell f fd) (m_len : mg "len" = none) : FnOk P w K mg base CX0 1 f fd ["script", "k"] (spF ct K 2 F__law_cell) :=
  fd_ok F sc__law_cell fun cdv A outer s H E hr => by
    have nd := sc__law_cell.nd
    have hu := hr.units
    exact (sss_cons (ss_if (st_lt (sx_var 1) (sx_len m_len (sx_var 0)))
  (sss_one (ss_ret (sx_copy (sx_idx (sx_var 0) (sx_var 1)))))
  sss_nil)
  (sss_one (ss_ret sx_int)))
abbrev s__law_order : Stmt := topS 10
theorem sc__law_order : FnScope ["number", "places", "rest", "found", "k"] ["number", "places"] (defScope s__law_order) := ⟨rfl, rfl, rfl, by decide +kernel, rfl, by decide +kernel, by decide +kernel⟩
noncomputable def Bd__law_order_1 : Mini.Env → Option Mini.Out := (dSeq (dAppPop 3 2 (dBin oMod (dBind (fun ρ => look ρ 0) oInt) (dBind (fun ρ => look ρ 2) oLen)))
  (dAsg (dBin oDiv (fun ρ => look ρ 0) (dBin oAdd (dBind (fun ρ => look ρ 2) oLen) (fun _ => some (.int 1)))) (gSet 0)))
noncomputable def F__law_order : Fn := dDef (fun _ => false) 2 5 (dSeq (dAsg (dBind (fun ρ => look ρ 1) oLstRg) (gSet 2))
  (dSeq (dAsg (dLst dNil) (gSet 3))
  (dSeq (dFor (dRng1 (fun ρ => look ρ 1)) (gSet 4)
  Bd__law_order_1)
  (dRetMv 3))))
set_option maxHeartbeats 4000000 in
theorem ok__law_order {f : Addr} {fd : FuncData} (F : Fun K "_law_order" "_law_order" s__law_order f fd) (m_list : mg "list" = none) (m_range : mg "range" = none) (m_int : mg "int" = none) (m_len : mg "len" = none) : FnOk P w K mg base CX0 1 f fd ["number", "places"] (spF ct K 2 F__law_order) :=
  fd_ok F sc__law_order fun cdv A outer s H E hr => by
    have nd := sc__law_order.nd
    have hu := hr.units
    exact (sss_cons (ss_set 2 nd (sx_listRg rfl m_list m_range (sx_var 1)))
  (sss_cons (ss_set 3 nd (sx_lst sa_nil))
  (sss_cons (ss_for PassesOwn.never rfl (si_rng1 m_range (sx_var 1)) (sg_name 4 nd)
  (sss_cons (ss_appPop 3 2 (sx_mod (sx_int1 m_int (sx_var 0)) (sx_len m_len (sx_var 2))))
  (sss_one (ss_set 0 nd (sx_div (sx_var 0) (sx_add (sx_len m_len (sx_var 2)) sx_int))))))
  (sss_one (ss_retmv 3)))))
abbrev s_Layout__init : Stmt := topM 5 0
theorem sc_Layout__init : FnScope ["self", "order", "qubit", "place"] ["self", "order"] (defScope s_Layout__init) := ⟨rfl, rfl, rfl, by decide +kernel, rfl, by decide +kernel, by decide +kernel⟩
noncomputable def Bd_Layout__init_1 : Mini.Env → Option Mini.Out := (dSeq (dFz 2) (dSetP 0 (pFl pNil 2 (PySem.Str.ofString "_holders")) (fun ρ => look ρ 3) (dBind (fun ρ => look ρ 2) copyO)))
noncomputable def F_Layout__init : FnX := dDefX (fun i => i == 0) 2 4 (dSeq (dIf (dTru oBool (dBin oNe (dBind (fun ρ => look ρ 1) oSort) (dBind (dBind (fun ρ => look ρ 1) oLen) oLstRg)))
  (fun ρ => some (.er 1 ρ))
  dSkip)
  (dSeq (dSetF 0 2 (PySem.Str.ofString "_places") (dBind (fun ρ => look ρ 1) oList))
  (dSeq (dSetF 0 2 (PySem.Str.ofString "_holders") (dBind (fun ρ => look ρ 1) oList))
  (dSeq (dFz 1) (dFor (dEnum (fun ρ => look ρ 1)) (gTupO 2 (gsCons (gSet 2) (gsCons (gSet 3) gsNil)))
  Bd_Layout__init_1)))))
set_option maxHeartbeats 4000000 in
theorem ok_Layout__init {f : Addr} {fd : FuncData} (F : Fun K "__init__" "Layout.__init__" s_Layout__init f fd) (C_Layout : Cls K (ct 2)) (n_Layout__places : NoAttr K (ct 2) (PySem.Str.ofString "_places")) (n_Layout__holders : NoAttr K (ct 2) (PySem.Str.ofString "_holders")) (m_sorted : mg "sorted" = none) (m_len : mg "len" = none) (m_list : mg "list" = none) (m_range : mg "range" = none) (m_enumerate : mg "enumerate" = none) (E_PhasorError : EC K mg ct 0 "PhasorError") (xn_PhasorError : mg "PhasorError" = some (.ref (ct 0))) (E_SizeMismatch : EC K mg ct 1 "SizeMismatch") (xn_SizeMismatch : mg "SizeMismatch" = some (.ref (ct 1))) (T_exm : ∀ c m, isE c = true → isE m = true → PySem.W.exmOne K (.ref (ct c)) (.ref (ct m)) = some (subE c m)) (T_C : ∀ c, isE c = true → ExcC K (ct c)) (T_kit : ∀ c m, isE c = true → isE m = true → PySem.W.kitOne K (.ref (ct c)) (.ref (ct m)) = some (subE c m)) : FnOk P w K mg base (L2.CX P w) 1 f fd ["self", "order"] (spX ct K 2 F_Layout__init) :=
  fdx_ok F sc_Layout__init fun cdv A outer s H E hr => by
    have nd := sc_Layout__init.nd
    have hu := hr.units
    exact (sss_cons (ss_if (st_ne hu (sx_sorted m_sorted (sx_var 1)) (sx_listRg rfl m_list m_range (sx_len m_len (sx_var 1))))
  (sss_one (ss_raise 1 rfl (takes_of rfl rfl rfl rfl) E_SizeMismatch))
  sss_nil)
  (sss_cons (ss_fld 0 2 C_Layout n_Layout__places (sx_list m_list (sx_var 1)))
  (sss_cons (ss_fld 0 2 C_Layout n_Layout__holders (sx_list m_list (sx_var 1)))
  (sss_fz 1 (sss_one (ss_for (passes_of rfl) rfl (si_enum m_enumerate (sx_var 1)) (sg_tup rfl (sgs_cons (sg_name 2 nd) (sgs_cons (sg_name 3 nd) sgs_nil)))
  (sss_fz 2 (sss_one (ss_setP (sl_fld 2 C_Layout n_Layout__holders (sl_var 0)) (sx_copy (sx_var 2)) (sx_var 3))))))))))
abbrev s__law_numbers : Stmt := topS 9
theorem sc__law_numbers : FnScope ["script", "first", "most", "found", "at", "cell", "k", "mixed"] ["script", "first", "most"] (defScope s__law_numbers) := ⟨rfl, rfl, rfl, by decide +kernel, rfl, by decide +kernel, by decide +kernel⟩
noncomputable def Bd__law_numbers_1 : Mini.Env → Option Mini.Out := (dIf (bAnd (dTru oBool (dBin oGt (fun ρ => look ρ 5) (fun _ => some (.int 0)))) (dTru oBool (dBin oLt (dBind (fun ρ => look ρ 3) oLen) (fun ρ => look ρ 2))))
  (dSeq (dApp 3 (dBin oMod (dBind (fun ρ => look ρ 5) oInt) (fun _ => some (.int 4096))))
  (dAsg (dBin oDiv (fun ρ => look ρ 5) (fun _ => some (.int 4096))) (gSet 5)))
  dSkip)
noncomputable def Bd__law_numbers_2 : Mini.Env → Option Mini.Out := (dSeq (dAsg (dBind (dBin oIdx (fun ρ => look ρ 0) (fun ρ => look ρ 4)) oAbs) (gSet 5))
  (dIf (dTru oBool (dBin oGe (fun ρ => look ρ 5) (fun _ => some (.int 1000000000000000000))))
  (dFor (dRng1 (fun _ => some (.int 60))) (gSet 6)
  Bd__law_numbers_1)
  (dIf (dTru oBool (dBin oLt (dBind (fun ρ => look ρ 3) oLen) (fun ρ => look ρ 2)))
  (dSeq (dAsg (dBin oMod (dBind (dBin oAdd (dBin oAdd (dBin oMul (fun ρ => look ρ 5) (fun _ => some (.int 48271))) (dBin oMul (fun ρ => look ρ 4) (fun _ => some (.int 69621)))) (fun _ => some (.int 12345))) oInt) (fun _ => some (.int 2147483647))) (gSet 7))
  (dSeq (dAsg (dBin oMod (dBind (dBin oAdd (dBin oMul (fun ρ => look ρ 7) (fun _ => some (.int 69621))) (dBin oDiv (fun ρ => look ρ 7) (fun _ => some (.int 1009)))) oInt) (fun _ => some (.int 1000003))) (gSet 7))
  (dApp 3 (dBin oMod (dBind (fun ρ => look ρ 7) oInt) (fun _ => some (.int 4096))))))
  dSkip)))
noncomputable def F__law_numbers : Fn := dDef (fun _ => false) 3 8 (dSeq (dAsg (dLst dNil) (gSet 3))
  (dSeq (dFor (dRng2 (fun ρ => look ρ 1) (dBind (fun ρ => look ρ 0) oLen)) (gSet 4)
  Bd__law_numbers_2)
  (dRetMv 3)))
set_option maxHeartbeats 4000000 in
theorem ok__law_numbers {f : Addr} {fd : FuncData} (F : Fun K "_law_numbers" "_law_numbers" s__law_numbers f fd) (m_range : mg "range" = none) (m_len : mg "len" = none) (m_abs : mg "abs" = none) (m_int : mg "int" = none) : FnOk P w K mg base CX0 1 f fd ["script", "first", "most"] (spF ct K 3 F__law_numbers) :=
  fd_ok F sc__law_numbers fun cdv A outer s H E hr => by
    have nd := sc__law_numbers.nd
    have hu := hr.units
    exact (sss_cons (ss_set 3 nd (sx_lst sa_nil))
  (sss_cons (ss_for PassesOwn.never rfl (si_rng2 m_range (sx_var 1) (sx_len m_len (sx_var 0))) (sg_name 4 nd)
  (sss_cons (ss_set 5 nd (sx_abs m_abs (sx_idx (sx_var 0) (sx_var 4))))
  (sss_one (ss_if (st_ge (sx_var 5) sx_int)
  (sss_one (ss_for PassesOwn.never rfl (si_rng1 m_range sx_int) (sg_name 6 nd)
  (sss_one (ss_if (st_bool (sw_and (st_gt (sx_var 5) sx_int) (sw_and1 (st_lt (sx_len m_len (sx_var 3)) (sx_var 2)))))
  (sss_cons (ss_app 3 (sx_mod (sx_int1 m_int (sx_var 5)) sx_int))
  (sss_one (ss_set 5 nd (sx_div (sx_var 5) sx_int))))
  sss_nil))))
  (sss_one (ss_if (st_lt (sx_len m_len (sx_var 3)) (sx_var 2))
  (sss_cons (ss_set 7 nd (sx_mod (sx_int1 m_int (sx_add (sx_add (sx_mul (sx_var 5) sx_int) (sx_mul (sx_var 4) sx_int)) sx_int)) sx_int))
  (sss_cons (ss_set 7 nd (sx_mod (sx_int1 m_int (sx_add (sx_mul (sx_var 7) sx_int) (sx_div (sx_var 7) sx_int))) sx_int))
  (sss_one (ss_app 3 (sx_mod (sx_int1 m_int (sx_var 7)) sx_int)))))
  sss_nil))))))
  (sss_one (ss_retmv 3))))
abbrev s__law_swapped : Stmt := topS 11
theorem sc__law_swapped : FnScope ["order", "a", "b", "found", "place"] ["order", "a", "b"] (defScope s__law_swapped) := ⟨rfl, rfl, rfl, by decide +kernel, rfl, by decide +kernel, by decide +kernel⟩
noncomputable def Bd__law_swapped_1 : Mini.Env → Option Mini.Out := (dIf (dTru oBool (dBin oEq (fun ρ => look ρ 4) (fun ρ => look ρ 1)))
  (dApp 3 (dBind (fun ρ => look ρ 2) copyO))
  (dIf (dTru oBool (dBin oEq (fun ρ => look ρ 4) (fun ρ => look ρ 2)))
  (dApp 3 (dBind (fun ρ => look ρ 1) copyO))
  (dApp 3 (dBind (fun ρ => look ρ 4) copyO))))
noncomputable def F__law_swapped : Fn := dDef (fun _ => false) 3 5 (dSeq (dAsg (dLst dNil) (gSet 3))
  (dSeq (dFz 0) (dSeq (dFor (dIt true (fun ρ => look ρ 0)) (gSet 4)
  Bd__law_swapped_1)
  (dRetMv 3))))
set_option maxHeartbeats 4000000 in
theorem ok__law_swapped {f : Addr} {fd : FuncData} (F : Fun K "_law_swapped" "_law_swapped" s__law_swapped f fd) : FnOk P w K mg base CX0 1 f fd ["order", "a", "b"] (spF ct K 3 F__law_swapped) :=
  fd_ok F sc__law_swapped fun cdv A outer s H E hr => by
    have nd := sc__law_swapped.nd
    have hu := hr.units
    exact (sss_cons (ss_set 3 nd (sx_lst sa_nil))
  (sss_fz 0 (sss_cons (ss_for PassesOwn.never rfl (si_seq (sx_var 0)) (sg_name 4 nd)
  (sss_one (ss_if (st_eq hu (sx_var 4) (sx_var 1))
  (sss_one (ss_app 3 (sx_copy (sx_var 2))))
  (sss_one (ss_if (st_eq hu (sx_var 4) (sx_var 2))
  (sss_one (ss_app 3 (sx_copy (sx_var 1))))
  (sss_one (ss_app 3 (sx_copy (sx_var 4)))))))))
  (sss_one (ss_retmv 3)))))
abbrev s_Layout__swap : Stmt := topM 5 4
theorem sc_Layout__swap : FnScope ["self", "a", "b", "first", "second"] ["self", "a", "b"] (defScope s_Layout__swap) := ⟨rfl, rfl, rfl, by decide +kernel, rfl, by decide +kernel, by decide +kernel⟩
noncomputable def F_Layout__swap : Fn := dDef (fun i => i == 0) 3 5 (dSeq (dAsg (dBind (dBin oIdx (dFld 2 (PySem.Str.ofString "_holders") (fun ρ => look ρ 0)) (fun ρ => look ρ 1)) copyO) (gSet 3))
  (dSeq (dAsg (dBind (dBin oIdx (dFld 2 (PySem.Str.ofString "_holders") (fun ρ => look ρ 0)) (fun ρ => look ρ 2)) copyO) (gSet 4))
  (dSeq (dFz 4) (dSeq (dSetP 0 (pFl pNil 2 (PySem.Str.ofString "_holders")) (fun ρ => look ρ 1) (dBind (fun ρ => look ρ 4) copyO))
  (dSeq (dFz 3) (dSeq (dSetP 0 (pFl pNil 2 (PySem.Str.ofString "_holders")) (fun ρ => look ρ 2) (dBind (fun ρ => look ρ 3) copyO))
  (dSeq (dFz 1) (dSeq (dSetP 0 (pFl pNil 2 (PySem.Str.ofString "_places")) (fun ρ => look ρ 4) (dBind (fun ρ => look ρ 1) copyO))
  (dSeq (dFz 2) (dSetP 0 (pFl pNil 2 (PySem.Str.ofString "_places")) (fun ρ => look ρ 3) (dBind (fun ρ => look ρ 2) copyO)))))))))))
set_option maxHeartbeats 4000000 in
theorem ok_Layout__swap {f : Addr} {fd : FuncData} (F : Fun K "swap" "Layout.swap" s_Layout__swap f fd) (C_Layout : Cls K (ct 2)) (n_Layout__holders : NoAttr K (ct 2) (PySem.Str.ofString "_holders")) (n_Layout__places : NoAttr K (ct 2) (PySem.Str.ofString "_places")) : FnOk P w K mg base CX0 1 f fd ["self", "a", "b"] (spF ct K 3 F_Layout__swap) :=
  fd_ok F sc_Layout__swap fun cdv A outer s H E hr => by
    have nd := sc_Layout__swap.nd
    have hu := hr.units
    exact (sss_cons (ss_set 3 nd (sx_copy (sx_idx (sx_fld 2 C_Layout n_Layout__holders (sx_var 0)) (sx_var 1))))
  (sss_cons (ss_set 4 nd (sx_copy (sx_idx (sx_fld 2 C_Layout n_Layout__holders (sx_var 0)) (sx_var 2))))
  (sss_fz 4 (sss_cons (ss_setP (sl_fld 2 C_Layout n_Layout__holders (sl_var 0)) (sx_copy (sx_var 4)) (sx_var 1))
  (sss_fz 3 (sss_cons (ss_setP (sl_fld 2 C_Layout n_Layout__holders (sl_var 0)) (sx_copy (sx_var 3)) (sx_var 2))
  (sss_fz 1 (sss_cons (ss_setP (sl_fld 2 C_Layout n_Layout__places (sl_var 0)) (sx_copy (sx_var 1)) (sx_var 4))
  (sss_fz 2 (sss_one (ss_setP (sl_fld 2 C_Layout n_Layout__places (sl_var 0)) (sx_copy (sx_var 2)) (sx_var 3))))))))))))
abbrev s_Layout__order : Stmt := topM 5 1
theorem sc_Layout__order : FnScope ["self"] ["self"] (defScope s_Layout__order) := ⟨rfl, rfl, rfl, by decide +kernel, rfl, by decide +kernel, by decide +kernel⟩
noncomputable def F_Layout__order : Fn := dDef (fun _ => false) 1 1 (dRet (dBind (dFld 2 (PySem.Str.ofString "_places") (fun ρ => look ρ 0)) oList))
set_option maxHeartbeats 4000000 in
theorem ok_Layout__order {f : Addr} {fd : FuncData} (F : Fun K "order" "Layout.order" s_Layout__order f fd) (C_Layout : Cls K (ct 2)) (n_Layout__places : NoAttr K (ct 2) (PySem.Str.ofString "_places")) (m_list : mg "list" = none) : FnOk P w K mg base CX0 1 f fd ["self"] (spF ct K 1 F_Layout__order) :=
  fd_ok F sc_Layout__order fun cdv A outer s H E hr => by
    have nd := sc_Layout__order.nd
    have hu := hr.units
    exact (sss_one (ss_ret (sx_list m_list (sx_fld 2 C_Layout n_Layout__places (sx_var 0)))))
abbrev s_Layout__place_of : Stmt := topM 5 2
theorem sc_Layout__place_of : FnScope ["self", "qubit"] ["self", "qubit"] (defScope s_Layout__place_of) := ⟨rfl, rfl, rfl, by decide +kernel, rfl, by decide +kernel, by decide +kernel⟩
noncomputable def F_Layout__place_of : Fn := dDef (fun _ => false) 2 2 (dRet (dBind (dBin oIdx (dFld 2 (PySem.Str.ofString "_places") (fun ρ => look ρ 0)) (fun ρ => look ρ 1)) copyO))
set_option maxHeartbeats 4000000 in
theorem ok_Layout__place_of {f : Addr} {fd : FuncData} (F : Fun K "place_of" "Layout.place_of" s_Layout__place_of f fd) (C_Layout : Cls K (ct 2)) (n_Layout__places : NoAttr K (ct 2) (PySem.Str.ofString "_places")) : FnOk P w K mg base CX0 1 f fd ["self", "qubit"] (spF ct K 2 F_Layout__place_of) :=
  fd_ok F sc_Layout__place_of fun cdv A outer s H E hr => by
    have nd := sc_Layout__place_of.nd
    have hu := hr.units
    exact (sss_one (ss_ret (sx_copy (sx_idx (sx_fld 2 C_Layout n_Layout__places (sx_var 0)) (sx_var 1)))))
abbrev s_Layout__holder_of : Stmt := topM 5 3
theorem sc_Layout__holder_of : FnScope ["self", "place"] ["self", "place"] (defScope s_Layout__holder_of) := ⟨rfl, rfl, rfl, by decide +kernel, rfl, by decide +kernel, by decide +kernel⟩
noncomputable def F_Layout__holder_of : Fn := dDef (fun _ => false) 2 2 (dRet (dBind (dBin oIdx (dFld 2 (PySem.Str.ofString "_holders") (fun ρ => look ρ 0)) (fun ρ => look ρ 1)) copyO))
set_option maxHeartbeats 4000000 in
theorem ok_Layout__holder_of {f : Addr} {fd : FuncData} (F : Fun K "holder_of" "Layout.holder_of" s_Layout__holder_of f fd) (C_Layout : Cls K (ct 2)) (n_Layout__holders : NoAttr K (ct 2) (PySem.Str.ofString "_holders")) : FnOk P w K mg base CX0 1 f fd ["self", "place"] (spF ct K 2 F_Layout__holder_of) :=
  fd_ok F sc_Layout__holder_of fun cdv A outer s H E hr => by
    have nd := sc_Layout__holder_of.nd
    have hu := hr.units
    exact (sss_one (ss_ret (sx_copy (sx_idx (sx_fld 2 C_Layout n_Layout__holders (sx_var 0)) (sx_var 1)))))
abbrev s__law_is_integer : Stmt := topS 7
theorem sc__law_is_integer : FnScope ["actual"] ["actual"] (defScope s__law_is_integer) := ⟨rfl, rfl, rfl, by decide +kernel, rfl, by decide +kernel, by decide +kernel⟩
noncomputable def F__law_is_integer : Fn := dDef (fun _ => false) 1 1 (dRet (vAnd (dBind (fun ρ => look ρ 0) (oIsi "int")) (dBind (dBind (fun ρ => look ρ 0) (oIsi "bool")) oNot)))
set_option maxHeartbeats 4000000 in
theorem ok__law_is_integer {f : Addr} {fd : FuncData} (F : Fun K "_law_is_integer" "_law_is_integer" s__law_is_integer f fd) (m_isinstance : mg "isinstance" = none) (m_bool : mg "bool" = none) (m_int : mg "int" = none) : FnOk P w K mg base CX0 1 f fd ["actual"] (spF ct K 1 F__law_is_integer) :=
  fd_ok F sc__law_is_integer fun cdv A outer s H E hr => by
    have nd := sc__law_is_integer.nd
    have hu := hr.units
    exact (sss_one (ss_ret (sx_and (sx_isi (T := "int") m_isinstance m_int (by decide +kernel) (sx_var 0)) (sx_one (sx_not (sx_isi (T := "bool") m_isinstance m_bool (by decide +kernel) (sx_var 0)))))))
abbrev s_law : Stmt := topS 12
theorem sc_law : FnScope ["script", "digit", "places", "order", "valid", "given", "number", "handed", "listed", "qubit", "layout", "e", "a", "b", "place", "holder"] ["script"] (defScope s_law) := ⟨rfl, rfl, rfl, by decide +kernel, rfl, by decide +kernel, by decide +kernel⟩
noncomputable def Bd_law_1 : Mini.Env → Option Mini.Out := (dSeq (dAsg (dBin oMod (dBind (fun ρ => look ρ 6) oInt) (fun ρ => look ρ 2)) (gSet 12))
  (dSeq (dAsg (dBin oMod (dBin oDiv (fun ρ => look ρ 6) (fun _ => some (.int 8))) (fun ρ => look ρ 2)) (gSet 13))
  (dIf (dTru oBool (dBin oNe (fun ρ => look ρ 12) (fun ρ => look ρ 13)))
  (dSeq (dAsg (dCall [true, true, true] F__law_swapped (dCons (fun ρ => look ρ 3) (dCons (fun ρ => look ρ 12) (dCons (fun ρ => look ρ 13) dNil)))) (gSet 3))
  (dIfN (dLend0 10 2 (PySem.Str.ofString "swap") [true, true] F_Layout__swap (dCons (fun ρ => look ρ 12) (dCons (fun ρ => look ρ 13) dNil))) (dTru oBool (dBin oNe (dProp 2 true F_Layout__order (fun ρ => look ρ 10)) (fun ρ => look ρ 3)))
  (dRet (fun _ => some (.bl false)))
  dSkip))
  dSkip)))
noncomputable def Bd_law_2 : Mini.Env → Option Mini.Out := (dSeq (dAsg (dMeth 2 (PySem.Str.ofString "place_of") [true, true] F_Layout__place_of (fun ρ => look ρ 10) (dCons (fun ρ => look ρ 9) dNil)) (gSet 14))
  (dSeq (dAsg (dMeth 2 (PySem.Str.ofString "holder_of") [true, true] F_Layout__holder_of (fun ρ => look ρ 10) (dCons (dBin oIdx (fun ρ => look ρ 3) (fun ρ => look ρ 9)) dNil)) (gSet 15))
  (dSeq (dFz 14) (dSeq (dFz 15) (dIf (bOr (bNot (dTru oTru (dCall [true] F__law_is_integer (dCons (fun ρ => look ρ 14) dNil)))) (bOr (dTru oBool (dBin oNe (fun ρ => look ρ 14) (dBin oIdx (fun ρ => look ρ 3) (fun ρ => look ρ 9)))) (bOr (bNot (dTru oTru (dCall [true] F__law_is_integer (dCons (fun ρ => look ρ 15) dNil)))) (dTru oBool (dBin oNe (fun ρ => look ρ 15) (fun ρ => look ρ 9))))))
  (dRet (fun _ => some (.bl false)))
  dSkip)))))
noncomputable def F_law : Fn := dDef (fun _ => false) 1 16 (dSeq (dAsg (dBind (dCall [true, false] F__law_cell (dCons (fun ρ => look ρ 0) (dCons (fun _ => some (.int 0)) dNil))) oAbs) (gSet 1))
  (dSeq (dAsg (dBin oAdd (fun _ => some (.int 1)) (dBin oMod (dBind (fun ρ => look ρ 1) oInt) (fun _ => some (.int 8)))) (gSet 2))
  (dSeq (dAsg (dCall [false, true] F__law_order (dCons (dBind (dCall [true, false] F__law_cell (dCons (fun ρ => look ρ 0) (dCons (fun _ => some (.int 1)) dNil))) oAbs) (dCons (fun ρ => look ρ 2) dNil))) (gSet 3))
  (dSeq (dIf (dTru oBool (dBin oEq (dBin oMod (dBin oDiv (fun ρ => look ρ 1) (fun _ => some (.int 8))) (fun _ => some (.int 4))) (fun _ => some (.int 1))))
  (dSetI 3 (dBin oMod (dBin oDiv (fun ρ => look ρ 1) (fun _ => some (.int 32))) (fun ρ => look ρ 2)) (dBin oSub (dBin oMod (dBin oDiv (fun ρ => look ρ 1) (fun _ => some (.int 256))) (fun _ => some (.int 12))) (fun _ => some (.int 2))))
  dSkip)
  (dSeq (dAsg (dBin oEq (dBind (fun ρ => look ρ 3) oSort) (dBind (fun ρ => look ρ 2) oLstRg)) (gSet 4))
  (dSeq (dAsg (dBind (fun ρ => look ρ 3) oList) (gSet 5))
  (dSeq (dTry isE (fun c => subE c 0) 11
  (dAsgR (dMakeR 2 [true] F_Layout__init (dCons (fun ρ => look ρ 5) dNil)) (gSet 10))
  (fun c a => (dRet (vAnd (dIsE 11 a (subE c 1)) (dBind (fun ρ => look ρ 4) oNot)))))
  (dSeq (dIf (bOr (bNot (dTru oTru (fun ρ => look ρ 4))) (dTru oBool (dBin oNe (fun ρ => look ρ 5) (fun ρ => look ρ 3))))
  (dRet (fun _ => some (.bl false)))
  dSkip)
  (dSeq (dSetI 5 (fun _ => some (.int 0)) (dBind (fun _ => some (.int 7)) negO))
  (dSeq (dFor (dIt false (dCall [true, false, false] F__law_numbers (dCons (fun ρ => look ρ 0) (dCons (fun _ => some (.int 2)) (dCons (fun _ => some (.int 40)) dNil))))) (gSet 6)
  Bd_law_1)
  (dSeq (dAsg (dProp 2 true F_Layout__order (fun ρ => look ρ 10)) (gSet 7))
  (dSeq (dApp 7 (dBind (fun _ => some (.int 7)) negO))
  (dSeq (dAsg (dProp 2 true F_Layout__order (fun ρ => look ρ 10)) (gSet 8))
  (dSeq (dIf (bOr (bNot (dTru oTru (dBind (fun ρ => look ρ 8) (oIsi "list")))) (dTru oBool (dBin oNe (fun ρ => look ρ 8) (fun ρ => look ρ 3))))
  (dRet (fun _ => some (.bl false)))
  dSkip)
  (dSeq (dFor (dRng1 (fun ρ => look ρ 2)) (gSet 9)
  Bd_law_2)
  (dRet (fun _ => some (.bl true))))))))))))))))))
set_option maxHeartbeats 4000000 in
theorem ok_law {f : Addr} {fd : FuncData} (F : Fun K "law" "law" s_law f fd) (D__law_cell : FD P w K mg base ct 1 "_law_cell" 2 F__law_cell) (D__law_order : FD P w K mg base ct 1 "_law_order" 2 F__law_order) (D_Layout__init : FDC P w K mg base ct 1 2 "Layout" 1 F_Layout__init) (D__law_numbers : FD P w K mg base ct 1 "_law_numbers" 3 F__law_numbers) (D__law_swapped : FD P w K mg base ct 1 "_law_swapped" 3 F__law_swapped) (D_Layout__swap : FDM P w K mg base ct 1 2 "swap" 3 F_Layout__swap) (D_Layout__order : FDP P w K mg base ct 1 2 "order" F_Layout__order) (D_Layout__place_of : FDM P w K mg base ct 1 2 "place_of" 2 F_Layout__place_of) (D_Layout__holder_of : FDM P w K mg base ct 1 2 "holder_of" 2 F_Layout__holder_of) (D__law_is_integer : FD P w K mg base ct 1 "_law_is_integer" 1 F__law_is_integer) (C_Layout : Cls K (ct 2)) (m_abs : mg "abs" = none) (m_int : mg "int" = none) (m_sorted : mg "sorted" = none) (m_list : mg "list" = none) (m_range : mg "range" = none) (m_isinstance : mg "isinstance" = none) (E_PhasorError : EC K mg ct 0 "PhasorError") (xn_PhasorError : mg "PhasorError" = some (.ref (ct 0))) (E_SizeMismatch : EC K mg ct 1 "SizeMismatch") (xn_SizeMismatch : mg "SizeMismatch" = some (.ref (ct 1))) (T_exm : ∀ c m, isE c = true → isE m = true → PySem.W.exmOne K (.ref (ct c)) (.ref (ct m)) = some (subE c m)) (T_C : ∀ c, isE c = true → ExcC K (ct c)) (T_kit : ∀ c m, isE c = true → isE m = true → PySem.W.kitOne K (.ref (ct c)) (.ref (ct m)) = some (subE c m)) : FnOk P w K mg base CX0 3 f fd ["script"] (spF ct K 1 F_law) :=
  fd_ok F sc_law fun cdv A outer s H E hr => by
    have nd := sc_law.nd
    have hu := hr.units
    exact (sss_cons (ss_set 1 nd (sx_abs m_abs (sx_call D__law_cell (hr.mono (by decide)) (sa_cons (sx_var 0) (sa_cons sx_int sa_nil)))))
  (sss_cons (ss_set 2 nd (sx_add sx_int (sx_mod (sx_int1 m_int (sx_var 1)) sx_int)))
  (sss_cons (ss_set 3 nd (sx_call D__law_order (hr.mono (by decide)) (sa_cons (sx_abs m_abs (sx_call D__law_cell (hr.mono (by decide)) (sa_cons (sx_var 0) (sa_cons sx_int sa_nil)))) (sa_cons (sx_var 2) sa_nil))))
  (sss_cons (ss_if (st_eq hu (sx_mod (sx_div (sx_var 1) sx_int) sx_int) sx_int)
  (sss_one (ss_seti 3 (sx_sub (sx_mod (sx_div (sx_var 1) sx_int) sx_int) sx_int) (sx_mod (sx_div (sx_var 1) sx_int) (sx_var 2))))
  sss_nil)
  (sss_cons (ss_set 4 nd (sx_eq hu (sx_sorted m_sorted (sx_var 3)) (sx_listRg rfl m_list m_range (sx_var 2))))
  (sss_cons (ss_set 5 nd (sx_list m_list (sx_var 3)))
  (sss_cons (ss_try 11 rfl rfl nd takes0 xn_PhasorError (fun c hc => T_exm c 0 hc (by decide))
  (fun W pn xe tk po => (sss_one (ss_setR 10 nd (sr_makeX D_Layout__init (hr.mono (show 2 ≤ _ by decide)) tk (sa_cons (sx_var 5) sa_nil)))))
  (fun a oe c pn hc hz hf => (sss_one (ss_ret (sx_and (sx_isE (c := c) (m := 1) 11 m_isinstance (xn_SizeMismatch) (T_C c hc) hz hf (T_kit c 1 hc (by decide))) (sx_one (sx_not (sx_var 4))))))))
  (sss_cons (ss_if (st_bool (sw_or (st_not (st_tru (sx_var 4))) (sw_or1 (st_ne hu (sx_var 5) (sx_var 3)))))
  (sss_one (ss_ret sx_bl))
  sss_nil)
  (sss_cons (ss_seti 5 (sx_neg sx_int) sx_int)
  (sss_cons (ss_for PassesOwn.never rfl (si_seq (sx_call D__law_numbers (hr.mono (by decide)) (sa_cons (sx_var 0) (sa_cons sx_int (sa_cons sx_int sa_nil))))) (sg_name 6 nd)
  (sss_cons (ss_set 12 nd (sx_mod (sx_int1 m_int (sx_var 6)) (sx_var 2)))
  (sss_cons (ss_set 13 nd (sx_mod (sx_div (sx_var 6) sx_int) (sx_var 2)))
  (sss_one (ss_if (st_ne hu (sx_var 12) (sx_var 13))
  (sss_cons (ss_set 3 nd (sx_call D__law_swapped (hr.mono (by decide)) (sa_cons (sx_var 3) (sa_cons (sx_var 12) (sa_cons (sx_var 13) sa_nil)))))
  (sss_one (ss_ifNor (sr_lend 10 D_Layout__swap C_Layout (hr.mono (show 1 ≤ _ by decide)) (sa_cons (sx_var 12) (sa_cons (sx_var 13) sa_nil))) sx_non (sw_or1 (st_ne hu (sx_prop D_Layout__order C_Layout (hr.mono (show 2 ≤ _ by decide)) (sx_var 10)) (sx_var 3)))
  (sss_one (ss_ret sx_bl))
  sss_nil)))
  sss_nil)))))
  (sss_cons (ss_set 7 nd (sx_prop D_Layout__order C_Layout (hr.mono (show 2 ≤ _ by decide)) (sx_var 10)))
  (sss_cons (ss_app 7 (sx_neg sx_int))
  (sss_cons (ss_set 8 nd (sx_prop D_Layout__order C_Layout (hr.mono (show 2 ≤ _ by decide)) (sx_var 10)))
  (sss_cons (ss_if (st_bool (sw_or (st_not (st_tru (sx_isi (T := "list") m_isinstance m_list (by decide +kernel) (sx_var 8)))) (sw_or1 (st_ne hu (sx_var 8) (sx_var 3)))))
  (sss_one (ss_ret sx_bl))
  sss_nil)
  (sss_cons (ss_for PassesOwn.never rfl (si_rng1 m_range (sx_var 2)) (sg_name 9 nd)
  (sss_cons (ss_set 14 nd (sx_meth D_Layout__place_of C_Layout (hr.mono (show 1 ≤ _ by decide)) (sx_var 10) (sa_cons (sx_var 9) sa_nil)))
  (sss_cons (ss_set 15 nd (sx_meth D_Layout__holder_of C_Layout (hr.mono (show 1 ≤ _ by decide)) (sx_var 10) (sa_cons (sx_idx (sx_var 3) (sx_var 9)) sa_nil)))
  (sss_fz 14 (sss_fz 15 (sss_one (ss_if (st_bool (sw_or (st_not (st_tru (sx_call D__law_is_integer (hr.mono (by decide)) (sa_cons (sx_var 14) sa_nil)))) (sw_or (st_ne hu (sx_var 14) (sx_idx (sx_var 3) (sx_var 9))) (sw_or (st_not (st_tru (sx_call D__law_is_integer (hr.mono (by decide)) (sa_cons (sx_var 15) sa_nil)))) (sw_or1 (st_ne hu (sx_var 15) (sx_var 9)))))))
  (sss_one (ss_ret sx_bl))
  sss_nil)))))))
  (sss_one (ss_ret sx_bl)))))))))))))))))
end
set_option maxHeartbeats 40000000 in
theorem all_mk {l : PySem.W.OpenLaw} {w : World} {K : PySem.W.Frag} {h : Heap} {mg : Str → Option Value} {fa : Addr} (X : K.In h) (G : h.Ns mainGlobals mg) (hfa : mg "law" = some (.ref fa))
    {x_Layout : Addr}
    {x_PhasorError : Addr} {x_SizeMismatch : Addr}
    (xa_Layout : PySem.W.nsIn K mainGlobals "Layout" = some (some (.ref x_Layout)))
    {f0 : Addr} {od0 an0 : Option Addr} {sl0 : Array (Option Value)} {oc0 kV0 dc0 pm0 cd0 ct0 : Value}
    (a0 : PySem.W.nsIn K mainGlobals "_law_cell" = some (some (.ref f0))) (l0 : K.lookup f0 = some ⟨oc0, od0, .func (PySem.W.fnOf "_law_cell" "_law_cell" (defArgs s__law_cell) (defBody s__law_cell) (defScope s__law_cell) .none kV0 dc0 pm0 an0 cd0 ct0), sl0⟩) (c0 : PySem.W.codeIn K cd0 "_law_cell" = true) (k0 : PySem.W.keepIn K (.ref f0) = true)
    {f1 : Addr} {od1 an1 : Option Addr} {sl1 : Array (Option Value)} {oc1 kV1 dc1 pm1 cd1 ct1 : Value}
    (a1 : PySem.W.nsIn K mainGlobals "_law_order" = some (some (.ref f1))) (l1 : K.lookup f1 = some ⟨oc1, od1, .func (PySem.W.fnOf "_law_order" "_law_order" (defArgs s__law_order) (defBody s__law_order) (defScope s__law_order) .none kV1 dc1 pm1 an1 cd1 ct1), sl1⟩) (c1 : PySem.W.codeIn K cd1 "_law_order" = true) (k1 : PySem.W.keepIn K (.ref f1) = true)
    {f2 : Addr} {od2 an2 : Option Addr} {sl2 : Array (Option Value)} {oc2 kV2 dc2 pm2 cd2 ct2 : Value}
    (a2 : PySem.W.findIn K (.ref x_Layout) "__init__" = some (some (.ref f2))) (af2 : PySem.W.isFn K (.ref f2) = true)
    (l2 : K.lookup f2 = some ⟨oc2, od2, .func (PySem.W.fnOf "__init__" "Layout.__init__" (defArgs s_Layout__init) (defBody s_Layout__init) (defScope s_Layout__init) .none kV2 dc2 pm2 an2 cd2 ct2), sl2⟩) (c2 : PySem.W.codeIn K cd2 "Layout.__init__" = true) (k2 : PySem.W.keepIn K (.ref f2) = true)
    {f3 : Addr} {od3 an3 : Option Addr} {sl3 : Array (Option Value)} {oc3 kV3 dc3 pm3 cd3 ct3 : Value}
    (a3 : PySem.W.nsIn K mainGlobals "_law_numbers" = some (some (.ref f3))) (l3 : K.lookup f3 = some ⟨oc3, od3, .func (PySem.W.fnOf "_law_numbers" "_law_numbers" (defArgs s__law_numbers) (defBody s__law_numbers) (defScope s__law_numbers) .none kV3 dc3 pm3 an3 cd3 ct3), sl3⟩) (c3 : PySem.W.codeIn K cd3 "_law_numbers" = true) (k3 : PySem.W.keepIn K (.ref f3) = true)
    {f4 : Addr} {od4 an4 : Option Addr} {sl4 : Array (Option Value)} {oc4 kV4 dc4 pm4 cd4 ct4 : Value}
    (a4 : PySem.W.nsIn K mainGlobals "_law_swapped" = some (some (.ref f4))) (l4 : K.lookup f4 = some ⟨oc4, od4, .func (PySem.W.fnOf "_law_swapped" "_law_swapped" (defArgs s__law_swapped) (defBody s__law_swapped) (defScope s__law_swapped) .none kV4 dc4 pm4 an4 cd4 ct4), sl4⟩) (c4 : PySem.W.codeIn K cd4 "_law_swapped" = true) (k4 : PySem.W.keepIn K (.ref f4) = true)
    {f5 : Addr} {od5 an5 : Option Addr} {sl5 : Array (Option Value)} {oc5 kV5 dc5 pm5 cd5 ct5 : Value}
    (a5 : PySem.W.findIn K (.ref x_Layout) "swap" = some (some (.ref f5))) (af5 : PySem.W.isFn K (.ref f5) = true)
    (l5 : K.lookup f5 = some ⟨oc5, od5, .func (PySem.W.fnOf "swap" "Layout.swap" (defArgs s_Layout__swap) (defBody s_Layout__swap) (defScope s_Layout__swap) .none kV5 dc5 pm5 an5 cd5 ct5), sl5⟩) (c5 : PySem.W.codeIn K cd5 "Layout.swap" = true) (k5 : PySem.W.keepIn K (.ref f5) = true)
    {f6 : Addr} {od6 an6 : Option Addr} {sl6 : Array (Option Value)} {oc6 kV6 dc6 pm6 cd6 ct6 : Value}
    {p6 : Addr} {re6 : List Value} (ap6 : PySem.W.findIn K (.ref x_Layout) "order" = some (some (.ref p6))) (a6 : PySem.W.recIn K p6 "property" = some (.ref f6 :: re6)) (ag6 : PySem.W.specialIn K (.ref p6) "__get__" = some (some (.builtin "property.__get__"))) (at6 : PySem.W.takesIn K (.ref p6) = some true)
    (l6 : K.lookup f6 = some ⟨oc6, od6, .func (PySem.W.fnOf "order" "Layout.order" (defArgs s_Layout__order) (defBody s_Layout__order) (defScope s_Layout__order) .none kV6 dc6 pm6 an6 cd6 ct6), sl6⟩) (c6 : PySem.W.codeIn K cd6 "Layout.order" = true) (k6 : PySem.W.keepIn K (.ref f6) = true)
    {f7 : Addr} {od7 an7 : Option Addr} {sl7 : Array (Option Value)} {oc7 kV7 dc7 pm7 cd7 ct7 : Value}
    (a7 : PySem.W.findIn K (.ref x_Layout) "place_of" = some (some (.ref f7))) (af7 : PySem.W.isFn K (.ref f7) = true)
    (l7 : K.lookup f7 = some ⟨oc7, od7, .func (PySem.W.fnOf "place_of" "Layout.place_of" (defArgs s_Layout__place_of) (defBody s_Layout__place_of) (defScope s_Layout__place_of) .none kV7 dc7 pm7 an7 cd7 ct7), sl7⟩) (c7 : PySem.W.codeIn K cd7 "Layout.place_of" = true) (k7 : PySem.W.keepIn K (.ref f7) = true)
    {f8 : Addr} {od8 an8 : Option Addr} {sl8 : Array (Option Value)} {oc8 kV8 dc8 pm8 cd8 ct8 : Value}
    (a8 : PySem.W.findIn K (.ref x_Layout) "holder_of" = some (some (.ref f8))) (af8 : PySem.W.isFn K (.ref f8) = true)
    (l8 : K.lookup f8 = some ⟨oc8, od8, .func (PySem.W.fnOf "holder_of" "Layout.holder_of" (defArgs s_Layout__holder_of) (defBody s_Layout__holder_of) (defScope s_Layout__holder_of) .none kV8 dc8 pm8 an8 cd8 ct8), sl8⟩) (c8 : PySem.W.codeIn K cd8 "Layout.holder_of" = true) (k8 : PySem.W.keepIn K (.ref f8) = true)
    {f9 : Addr} {od9 an9 : Option Addr} {sl9 : Array (Option Value)} {oc9 kV9 dc9 pm9 cd9 ct9 : Value}
    (a9 : PySem.W.nsIn K mainGlobals "_law_is_integer" = some (some (.ref f9))) (l9 : K.lookup f9 = some ⟨oc9, od9, .func (PySem.W.fnOf "_law_is_integer" "_law_is_integer" (defArgs s__law_is_integer) (defBody s__law_is_integer) (defScope s__law_is_integer) .none kV9 dc9 pm9 an9 cd9 ct9), sl9⟩) (c9 : PySem.W.codeIn K cd9 "_law_is_integer" = true) (k9 : PySem.W.keepIn K (.ref f9) = true)
    {f10 : Addr} {od10 an10 : Option Addr} {sl10 : Array (Option Value)} {oc10 kV10 dc10 pm10 cd10 ct10 : Value}
    (a10 : PySem.W.nsIn K mainGlobals "law" = some (some (.ref f10))) (l10 : K.lookup f10 = some ⟨oc10, od10, .func (PySem.W.fnOf "law" "law" (defArgs s_law) (defBody s_law) (defScope s_law) .none kV10 dc10 pm10 an10 cd10 ct10), sl10⟩) (c10 : PySem.W.codeIn K cd10 "law" = true) (k10 : PySem.W.keepIn K (.ref f10) = true)
    (y1_Layout : PySem.W.plainGet K x_Layout Str.empty = true)
    (y2_Layout : PySem.W.hasDictIn K x_Layout = true)
    (y3_Layout : PySem.W.plainOver K x_Layout = true)
    (y4_Layout : PySem.W.findIn K (.ref x_Layout) "__setattr__" = some (some (.builtin "object.__setattr__")))
    (y5_Layout : PySem.W.makesIn K x_Layout = true)
    (y6_Layout : PySem.W.keepIn K (.ref x_Layout) = true)
    (w_Layout__places : PySem.W.findIn K (.ref x_Layout) "_places" = some none)
    (w_Layout__holders : PySem.W.findIn K (.ref x_Layout) "_holders" = some none)
    (z_len : PySem.W.nsIn K mainGlobals "len" = some none)
    (z_list : PySem.W.nsIn K mainGlobals "list" = some none)
    (z_range : PySem.W.nsIn K mainGlobals "range" = some none)
    (z_int : PySem.W.nsIn K mainGlobals "int" = some none)
    (z_sorted : PySem.W.nsIn K mainGlobals "sorted" = some none)
    (z_enumerate : PySem.W.nsIn K mainGlobals "enumerate" = some none)
    (z_abs : PySem.W.nsIn K mainGlobals "abs" = some none)
    (z_isinstance : PySem.W.nsIn K mainGlobals "isinstance" = some none)
    (z_bool : PySem.W.nsIn K mainGlobals "bool" = some none)
    (xa_PhasorError : PySem.W.nsIn K mainGlobals "PhasorError" = some (some (.ref x_PhasorError)))
    (xe_PhasorError : PySem.W.excIn K x_PhasorError [.type "ValueError", .type "Exception", .type "BaseException", .type "object"] "ValueError.__new__" = true)
    (xk_PhasorError : PySem.W.keepIn K (.ref x_PhasorError) = true)
    (xs_PhasorError : PySem.W.subIn K (.ref x_PhasorError) (.type "BaseException") = some true)
    (xt_PhasorError : PySem.W.typeIn K (.ref x_PhasorError) = some (.type "type"))
    (xg_PhasorError : PySem.W.findIn K (.ref x_PhasorError) "__getattribute__" = some (some (.builtin "BaseException.__getattribute__")))
    (xh_PhasorError : PySem.W.findIn K (.ref x_PhasorError) "__getattr__" = some none)
    (xd_PhasorError : PySem.W.hasDictIn K x_PhasorError = true)
    (xc_PhasorError : PySem.W.findIn K (.ref x_PhasorError) "__class__" = some (some (.builtin "object.__class__")))
    (xm_PhasorError : PySem.W.mroIn K x_PhasorError (.type "object") = some true)
    (xz_PhasorError_PhasorError : PySem.W.subIn K (.ref x_PhasorError) (.ref x_PhasorError) = some true)
    (xz_PhasorError_SizeMismatch : PySem.W.subIn K (.ref x_PhasorError) (.ref x_SizeMismatch) = some false)
    (xa_SizeMismatch : PySem.W.nsIn K mainGlobals "SizeMismatch" = some (some (.ref x_SizeMismatch)))
    (xe_SizeMismatch : PySem.W.excIn K x_SizeMismatch [.type "ValueError", .type "Exception", .type "BaseException", .type "object"] "ValueError.__new__" = true)
    (xk_SizeMismatch : PySem.W.keepIn K (.ref x_SizeMismatch) = true)
    (xs_SizeMismatch : PySem.W.subIn K (.ref x_SizeMismatch) (.type "BaseException") = some true)
    (xt_SizeMismatch : PySem.W.typeIn K (.ref x_SizeMismatch) = some (.type "type"))
    (xg_SizeMismatch : PySem.W.findIn K (.ref x_SizeMismatch) "__getattribute__" = some (some (.builtin "BaseException.__getattribute__")))
    (xh_SizeMismatch : PySem.W.findIn K (.ref x_SizeMismatch) "__getattr__" = some none)
    (xd_SizeMismatch : PySem.W.hasDictIn K x_SizeMismatch = true)
    (xc_SizeMismatch : PySem.W.findIn K (.ref x_SizeMismatch) "__class__" = some (some (.builtin "object.__class__")))
    (xm_SizeMismatch : PySem.W.mroIn K x_SizeMismatch (.type "object") = some true)
    (xz_SizeMismatch_PhasorError : PySem.W.subIn K (.ref x_SizeMismatch) (.ref x_PhasorError) = some true)
    (xz_SizeMismatch_SizeMismatch : PySem.W.subIn K (.ref x_SizeMismatch) (.ref x_SizeMismatch) = some true)
    (xo1 : PySem.W.specialIn K (.builtin "object.__class__") "__get__" = some (some (.builtin "getset_descriptor.__get__")))
    (xo2 : PySem.W.takesIn K (.builtin "object.__class__") = some true)
    (hmain : ∀ ns : List Int, ns.length ≤ 63 → (∀ z ∈ ns, Builtin.Int.intBits z ≤ 1048576) → ∃ fin, F_law [O.lst false (ns.map O.int)] = some (.bl true, fin))
    : ∃ fd : FuncData, (∀ (s : Shared) (v : Value), BindsTo s fd ⟨[v], []⟩ [("script", v)]) ∧ ∀ base : Heap, K.In base → base.Ns mainGlobals mg → FnOk l.prog w K mg base CX0 3 fa fd ["script"] (spLaw K) := by
  have e := hfa.symm.trans (PySem.W.mg_of X G a10)
  cases e
  have U__law_cell := fun_mk (st := s__law_cell) l0 c0 k0
  have U__law_order := fun_mk (st := s__law_order) l1 c1 k1
  have U_Layout__init := fun_mk (st := s_Layout__init) l2 c2 k2
  have U__law_numbers := fun_mk (st := s__law_numbers) l3 c3 k3
  have U__law_swapped := fun_mk (st := s__law_swapped) l4 c4 k4
  have U_Layout__swap := fun_mk (st := s_Layout__swap) l5 c5 k5
  have U_Layout__order := fun_mk (st := s_Layout__order) l6 c6 k6
  have U_Layout__place_of := fun_mk (st := s_Layout__place_of) l7 c7 k7
  have U_Layout__holder_of := fun_mk (st := s_Layout__holder_of) l8 c8 k8
  have U__law_is_integer := fun_mk (st := s__law_is_integer) l9 c9 k9
  have U_law := fun_mk (st := s_law) l10 c10 k10
  have C_Layout : Cls K ((fun n => [x_PhasorError, x_SizeMismatch, x_Layout].getD n 0) 2) := ⟨y1_Layout, y2_Layout, y3_Layout, y4_Layout⟩
  have n_Layout__places : NoAttr K ((fun n => [x_PhasorError, x_SizeMismatch, x_Layout].getD n 0) 2) (PySem.Str.ofString "_places") := w_Layout__places
  have n_Layout__holders : NoAttr K ((fun n => [x_PhasorError, x_SizeMismatch, x_Layout].getD n 0) 2) (PySem.Str.ofString "_holders") := w_Layout__holders
  have m_len := PySem.W.mg_none_of X G z_len
  have m_list := PySem.W.mg_none_of X G z_list
  have m_range := PySem.W.mg_none_of X G z_range
  have m_int := PySem.W.mg_none_of X G z_int
  have m_sorted := PySem.W.mg_none_of X G z_sorted
  have m_enumerate := PySem.W.mg_none_of X G z_enumerate
  have m_abs := PySem.W.mg_none_of X G z_abs
  have m_isinstance := PySem.W.mg_none_of X G z_isinstance
  have m_bool := PySem.W.mg_none_of X G z_bool
  have xn_PhasorError : mg "PhasorError" = some (.ref ((fun n => [x_PhasorError, x_SizeMismatch, x_Layout].getD n 0) 0)) := PySem.W.mg_of X G xa_PhasorError
  have E_PhasorError : EC K mg (fun n => [x_PhasorError, x_SizeMismatch, x_Layout].getD n 0) 0 "PhasorError" := ⟨xn_PhasorError, xe_PhasorError, xk_PhasorError, xs_PhasorError, xt_PhasorError⟩
  have xn_SizeMismatch : mg "SizeMismatch" = some (.ref ((fun n => [x_PhasorError, x_SizeMismatch, x_Layout].getD n 0) 1)) := PySem.W.mg_of X G xa_SizeMismatch
  have E_SizeMismatch : EC K mg (fun n => [x_PhasorError, x_SizeMismatch, x_Layout].getD n 0) 1 "SizeMismatch" := ⟨xn_SizeMismatch, xe_SizeMismatch, xk_SizeMismatch, xs_SizeMismatch, xt_SizeMismatch⟩
  have T_exm : ∀ c m, isE c = true → isE m = true → PySem.W.exmOne K (.ref ((fun n => [x_PhasorError, x_SizeMismatch, x_Layout].getD n 0) c)) (.ref ((fun n => [x_PhasorError, x_SizeMismatch, x_Layout].getD n 0) m)) = some (subE c m) := fun c m hc hm => match c, m, hc, hm with
    | 0, 0, _, _ => PySem.W.exm_ref xs_PhasorError xd_PhasorError xt_PhasorError xz_PhasorError_PhasorError
    | 0, 1, _, _ => PySem.W.exm_ref xs_SizeMismatch xd_SizeMismatch xt_SizeMismatch xz_PhasorError_SizeMismatch
    | 1, 0, _, _ => PySem.W.exm_ref xs_PhasorError xd_PhasorError xt_PhasorError xz_SizeMismatch_PhasorError
    | 1, 1, _, _ => PySem.W.exm_ref xs_SizeMismatch xd_SizeMismatch xt_SizeMismatch xz_SizeMismatch_SizeMismatch
    | c + 2, _, h, _ => absurd h (by unfold isE; simp)
    | 0, c + 2, _, h => absurd h (by unfold isE; simp)
    | 1, c + 2, _, h => absurd h (by unfold isE; simp)
  have T_kit : ∀ c m, isE c = true → isE m = true → PySem.W.kitOne K (.ref ((fun n => [x_PhasorError, x_SizeMismatch, x_Layout].getD n 0) c)) (.ref ((fun n => [x_PhasorError, x_SizeMismatch, x_Layout].getD n 0) m)) = some (subE c m) := fun c m hc hm => match c, m, hc, hm with
    | 0, 0, _, _ => kitR_of xz_PhasorError_PhasorError xz_PhasorError_PhasorError xd_PhasorError xt_PhasorError
    | 0, 1, _, _ => kitR_of xz_PhasorError_SizeMismatch xz_PhasorError_PhasorError xd_SizeMismatch xt_SizeMismatch
    | 1, 0, _, _ => kitR_of xz_SizeMismatch_PhasorError xz_SizeMismatch_SizeMismatch xd_PhasorError xt_PhasorError
    | 1, 1, _, _ => kitR_of xz_SizeMismatch_SizeMismatch xz_SizeMismatch_SizeMismatch xd_SizeMismatch xt_SizeMismatch
    | c + 2, _, h, _ => absurd h (by unfold isE; simp)
    | 0, c + 2, _, h => absurd h (by unfold isE; simp)
    | 1, c + 2, _, h => absurd h (by unfold isE; simp)
  have T_C : ∀ c, isE c = true → ExcC K ((fun n => [x_PhasorError, x_SizeMismatch, x_Layout].getD n 0) c) := fun c hc => match c, hc with
    | 0, _ => ⟨xg_PhasorError, xh_PhasorError, xs_PhasorError, xd_PhasorError, xc_PhasorError, xo1, xo2, xm_PhasorError⟩
    | 1, _ => ⟨xg_SizeMismatch, xh_SizeMismatch, xs_SizeMismatch, xd_SizeMismatch, xc_SizeMismatch, xo1, xo2, xm_SizeMismatch⟩
    | c + 2, h => absurd h (by unfold isE; simp)
  refine ⟨PySem.W.fnOf "law" "law" (defArgs s_law) (defBody s_law) (defScope s_law) .none kV10 dc10 pm10 an10 cd10 ct10, fun s v => .of_eq rfl, fun base _ _ => ?_⟩
  have O__law_cell := ok__law_cell (P := l.prog) (w := w) (mg := mg) (base := base) (ct := (fun n => [x_PhasorError, x_SizeMismatch, x_Layout].getD n 0)) U__law_cell m_len
  have D__law_cell : FD l.prog w K mg base (fun n => [x_PhasorError, x_SizeMismatch, x_Layout].getD n 0) 1 "_law_cell" 2 F__law_cell := FD.mk' O__law_cell (PySem.W.mg_of X G a0) U__law_cell.kp (U__law_cell.binds (ps := ["script", "k"]) fun _ _ _ _ _ _ us hl => match us, hl with | [_, _], _ => rfl)
  have O__law_order := ok__law_order (P := l.prog) (w := w) (mg := mg) (base := base) (ct := (fun n => [x_PhasorError, x_SizeMismatch, x_Layout].getD n 0)) U__law_order m_list m_range m_int m_len
  have D__law_order : FD l.prog w K mg base (fun n => [x_PhasorError, x_SizeMismatch, x_Layout].getD n 0) 1 "_law_order" 2 F__law_order := FD.mk' O__law_order (PySem.W.mg_of X G a1) U__law_order.kp (U__law_order.binds (ps := ["number", "places"]) fun _ _ _ _ _ _ us hl => match us, hl with | [_, _], _ => rfl)
  have O_Layout__init := ok_Layout__init (P := l.prog) (w := w) (mg := mg) (base := base) (ct := (fun n => [x_PhasorError, x_SizeMismatch, x_Layout].getD n 0)) U_Layout__init C_Layout n_Layout__places n_Layout__holders m_sorted m_len m_list m_range m_enumerate E_PhasorError xn_PhasorError E_SizeMismatch xn_SizeMismatch T_exm T_C T_kit
  have D_Layout__init : FDC l.prog w K mg base (fun n => [x_PhasorError, x_SizeMismatch, x_Layout].getD n 0) 1 2 "Layout" 1 F_Layout__init := ⟨_, _, _, rfl, O_Layout__init, ⟨y5_Layout, a2, af2, y6_Layout⟩, PySem.W.mg_of X G xa_Layout, (U_Layout__init.binds (ps := ["self", "order"]) fun _ _ _ _ _ _ us hl => match us, hl with | [_, _], _ => rfl)⟩
  have O__law_numbers := ok__law_numbers (P := l.prog) (w := w) (mg := mg) (base := base) (ct := (fun n => [x_PhasorError, x_SizeMismatch, x_Layout].getD n 0)) U__law_numbers m_range m_len m_abs m_int
  have D__law_numbers : FD l.prog w K mg base (fun n => [x_PhasorError, x_SizeMismatch, x_Layout].getD n 0) 1 "_law_numbers" 3 F__law_numbers := FD.mk' O__law_numbers (PySem.W.mg_of X G a3) U__law_numbers.kp (U__law_numbers.binds (ps := ["script", "first", "most"]) fun _ _ _ _ _ _ us hl => match us, hl with | [_, _, _], _ => rfl)
  have O__law_swapped := ok__law_swapped (P := l.prog) (w := w) (mg := mg) (base := base) (ct := (fun n => [x_PhasorError, x_SizeMismatch, x_Layout].getD n 0)) U__law_swapped
  have D__law_swapped : FD l.prog w K mg base (fun n => [x_PhasorError, x_SizeMismatch, x_Layout].getD n 0) 1 "_law_swapped" 3 F__law_swapped := FD.mk' O__law_swapped (PySem.W.mg_of X G a4) U__law_swapped.kp (U__law_swapped.binds (ps := ["order", "a", "b"]) fun _ _ _ _ _ _ us hl => match us, hl with | [_, _, _], _ => rfl)
  have O_Layout__swap := ok_Layout__swap (P := l.prog) (w := w) (mg := mg) (base := base) (ct := (fun n => [x_PhasorError, x_SizeMismatch, x_Layout].getD n 0)) U_Layout__swap C_Layout n_Layout__holders n_Layout__places
  have D_Layout__swap : FDM l.prog w K mg base (fun n => [x_PhasorError, x_SizeMismatch, x_Layout].getD n 0) 1 2 "swap" 3 F_Layout__swap := ⟨_, _, _, rfl, O_Layout__swap, ⟨a5, af5, k5⟩, (U_Layout__swap.binds (ps := ["self", "a", "b"]) fun _ _ _ _ _ _ us hl => match us, hl with | [_, _, _], _ => rfl)⟩
  have O_Layout__order := ok_Layout__order (P := l.prog) (w := w) (mg := mg) (base := base) (ct := (fun n => [x_PhasorError, x_SizeMismatch, x_Layout].getD n 0)) U_Layout__order C_Layout n_Layout__places m_list
  have D_Layout__order : FDP l.prog w K mg base (fun n => [x_PhasorError, x_SizeMismatch, x_Layout].getD n 0) 1 2 "order" F_Layout__order := ⟨_, _, _, _, rfl, O_Layout__order, ⟨ap6, ag6, at6, ⟨_, a6⟩⟩, (U_Layout__order.binds (ps := ["self"]) fun _ _ _ _ _ _ us hl => match us, hl with | [_], _ => rfl)⟩
  have O_Layout__place_of := ok_Layout__place_of (P := l.prog) (w := w) (mg := mg) (base := base) (ct := (fun n => [x_PhasorError, x_SizeMismatch, x_Layout].getD n 0)) U_Layout__place_of C_Layout n_Layout__places
  have D_Layout__place_of : FDM l.prog w K mg base (fun n => [x_PhasorError, x_SizeMismatch, x_Layout].getD n 0) 1 2 "place_of" 2 F_Layout__place_of := ⟨_, _, _, rfl, O_Layout__place_of, ⟨a7, af7, k7⟩, (U_Layout__place_of.binds (ps := ["self", "qubit"]) fun _ _ _ _ _ _ us hl => match us, hl with | [_, _], _ => rfl)⟩
  have O_Layout__holder_of := ok_Layout__holder_of (P := l.prog) (w := w) (mg := mg) (base := base) (ct := (fun n => [x_PhasorError, x_SizeMismatch, x_Layout].getD n 0)) U_Layout__holder_of C_Layout n_Layout__holders
  have D_Layout__holder_of : FDM l.prog w K mg base (fun n => [x_PhasorError, x_SizeMismatch, x_Layout].getD n 0) 1 2 "holder_of" 2 F_Layout__holder_of := ⟨_, _, _, rfl, O_Layout__holder_of, ⟨a8, af8, k8⟩, (U_Layout__holder_of.binds (ps := ["self", "place"]) fun _ _ _ _ _ _ us hl => match us, hl with | [_, _], _ => rfl)⟩
  have O__law_is_integer := ok__law_is_integer (P := l.prog) (w := w) (mg := mg) (base := base) (ct := (fun n => [x_PhasorError, x_SizeMismatch, x_Layout].getD n 0)) U__law_is_integer m_isinstance m_bool m_int
  have D__law_is_integer : FD l.prog w K mg base (fun n => [x_PhasorError, x_SizeMismatch, x_Layout].getD n 0) 1 "_law_is_integer" 1 F__law_is_integer := FD.mk' O__law_is_integer (PySem.W.mg_of X G a9) U__law_is_integer.kp (U__law_is_integer.binds (ps := ["actual"]) fun _ _ _ _ _ _ us hl => match us, hl with | [_], _ => rfl)
  have O_law := ok_law (P := l.prog) (w := w) (mg := mg) (base := base) (ct := (fun n => [x_PhasorError, x_SizeMismatch, x_Layout].getD n 0)) U_law D__law_cell D__law_order D_Layout__init D__law_numbers D__law_swapped D_Layout__swap D_Layout__order D_Layout__place_of D_Layout__holder_of D__law_is_integer C_Layout m_abs m_int m_sorted m_list m_range m_isinstance E_PhasorError xn_PhasorError E_SizeMismatch xn_SizeMismatch T_exm T_C T_kit
  exact O_law.imp fun vs H Q E h => law_imp hmain h
end K77
namespace K77
open Mini PySem PySem.Spec PyProof.Rows
abbrev S (ns : List Int) : O := .lst false (ns.map .int)
local macro_rules | `(tactic| array_mem_dec) => `(tactic| fail)
local macro_rules | `(tactic| sizeOf_list_dec) => `(tactic| first | rfl | with_reducible assumption | array_mem_dec | omega | (simp only [List.length_map, List.length_set, List.length_append, List.length_range, List.length_cons, List.length_nil]; omega) | (simp [okb, isFz, isFzs, noFm, noFms, -List.map_map]; done))
local macro_rules | `(tactic| array_get_dec) => `(tactic| repeat' first
  | with_reducible exact Mini.ev_some
  | with_reducible assumption
  | ((with_reducible apply Mini.ev_look); rfl)
  | with_reducible apply Mini.ev_bin
  | with_reducible apply Mini.ev_bind
  | with_reducible apply Mini.ev_tru
  | with_reducible exact Mini.ev_nil
  | with_reducible apply Mini.env_c
  | with_reducible exact Mini.env_z
  | with_reducible apply Mini.env_s
  | with_reducible apply Mini.ev_cons
  | with_reducible apply Mini.ev_tup
  | with_reducible apply Mini.ev_lst
  | ((with_reducible apply Mini.ev_len16); (focus (exact (Nat.le_of_ble_eq_true rfl))))
  | with_reducible apply Mini.ev_call
  | with_reducible apply Mini.ev_callN
  | with_reducible apply Mini.ev_callX
  | with_reducible exact Mini.vw_nil
  | with_reducible apply Mini.vw_t
  | with_reducible apply Mini.vw_f
  | with_reducible exact Mini.fz_i
  | with_reducible exact Mini.fz_b
  | with_reducible exact Mini.fz_s
  | with_reducible exact Mini.fz_n
  | with_reducible apply Mini.fz_t
  | with_reducible apply Mini.fz_l
  | with_reducible apply Mini.fz_d
  | with_reducible apply Mini.fz_o
  | with_reducible exact Mini.fzs_n
  | with_reducible apply Mini.fzs_c
  | with_reducible exact Mini.fzs_i
  | with_reducible exact Mini.oAdd_i _ _
  | with_reducible exact Mini.oAddI_i _ _
  | with_reducible exact Mini.oSub_i _ _
  | ((with_reducible apply Mini.ev_mul); omega)
  | ((with_reducible apply Mini.ev_mod); omega)
  | ((with_reducible apply Mini.ev_div); omega)
  | with_reducible exact Mini.negO_i _
  | with_reducible exact Mini.oAbs_i _
  | with_reducible exact Mini.oInt_i _
  | with_reducible exact Mini.oInt_b _
  | with_reducible exact Mini.oLt_i _ _
  | with_reducible exact Mini.oLe_i _ _
  | with_reducible exact Mini.oGt_i _ _
  | with_reducible exact Mini.oGe_i _ _
  | with_reducible exact Mini.oEq_i _ _
  | with_reducible exact Mini.oNe_i _ _
  | with_reducible exact Mini.oMax_i _ _
  | with_reducible exact Mini.oMin_i _ _
  | with_reducible exact Mini.oEq_s _ _
  | with_reducible exact Mini.oNe_s _ _
  | with_reducible exact Mini.len_t _
  | with_reducible exact Mini.len_l _ _
  | with_reducible exact Mini.isi_int_int _
  | with_reducible exact Mini.isi_int_bool _
  | with_reducible exact Mini.isi_bool_bool _
  | with_reducible exact Mini.isi_tuple_tuple _
  | with_reducible exact Mini.isi_list_list _ _
  | with_reducible exact Mini.isi_str_str _
  | with_reducible apply Mini.ev_idx_t
  | with_reducible apply Mini.ev_idx_l
  | with_reducible exact Mini.ev_at_z
  | ((with_reducible apply Mini.ev_at_l); (focus (first | rfl | with_reducible assumption | array_mem_dec)))
  | with_reducible apply Mini.ev_at_n
  | with_reducible apply Mini.ev_ge_map
  | with_reducible apply Mini.ev_copy
  | with_reducible apply Mini.ev_gSet
  | with_reducible exact Mini.setE_z
  | with_reducible apply Mini.setE_s
  | with_reducible exact Mini.ev_gsNil
  | with_reducible apply Mini.ev_gsCons
  | ((with_reducible apply Mini.ev_gTup); (focus rfl))
  | with_reducible apply Mini.ev_bnot
  | with_reducible apply Mini.ev_band
  | with_reducible apply Mini.ev_bor
  | with_reducible apply Mini.ev_vand
  | with_reducible apply Mini.ev_vor
  | with_reducible exact Mini.ev_not
  | with_reducible apply Mini.ev_isE
  | with_reducible apply Mini.ev_it
  | with_reducible exact Mini.it_tl
  | with_reducible apply Mini.it_tt
  | with_reducible apply Mini.it_fl
  | with_reducible apply Mini.it_ft
  | with_reducible apply Mini.ev_rng1
  | ((with_reducible apply Mini.ev_n62); (focus omega))
  | with_reducible apply Mini.ev_rng2
  | ((with_reducible apply Mini.ev_r2); (focus omega))
  | with_reducible apply Mini.ev_enum
  | with_reducible apply Mini.ev_list
  | with_reducible apply Mini.ev_list_t
  | with_reducible apply Mini.ev_tuple
  | with_reducible apply Mini.ev_tuple_t
  | with_reducible exact Mini.oXor_i _ _
  | with_reducible exact Mini.oAnd_i _ _
  | with_reducible exact Mini.oOr_i _ _
  | ((with_reducible apply Mini.ok_m); (focus (array_get_dec; done)))
  | ((with_reducible apply Mini.ok_z); (focus (array_get_dec; done)))
  | with_reducible exact Mini.nfm_i
  | with_reducible exact Mini.nfm_b
  | with_reducible exact Mini.nfm_s
  | with_reducible exact Mini.nfm_n
  | with_reducible exact Mini.nofms_nat
  | with_reducible exact Mini.nofms_i
  | with_reducible apply Mini.nfm_l
  | with_reducible apply Mini.nfm_t
  | with_reducible apply Mini.nfm_o
  | with_reducible apply Mini.nfm_d
  | with_reducible exact Mini.nfms_n
  | with_reducible apply Mini.nfms_c
  | with_reducible exact Mini.ifz_i
  | with_reducible exact Mini.ifz_b
  | with_reducible exact Mini.ifz_s
  | with_reducible exact Mini.ifz_n
  | with_reducible exact Mini.isfzs_nat
  | with_reducible exact Mini.isfzs_i
  | with_reducible apply Mini.ifz_l
  | with_reducible apply Mini.ifz_t
  | with_reducible apply Mini.ifz_o
  | with_reducible apply Mini.ifz_d
  | with_reducible exact Mini.ifzs_n
  | with_reducible apply Mini.ifzs_c
  | with_reducible exact Mini.okb_nil
  | with_reducible apply Mini.okb_f
  | with_reducible apply Mini.okb_t
  | with_reducible exact Mini.ev_tru_b
  | with_reducible exact Mini.ev_bool
  | with_reducible exact Mini.ev_tru_i
  | with_reducible exact Mini.ev_tru_t
  | with_reducible exact Mini.ev_tru_l
  | ((with_reducible apply Mini.ev_lstRg); (focus omega))
  | with_reducible exact Mini.ev_sort
  | with_reducible apply Mini.ev_fld
  | with_reducible apply Mini.ev_prop
  | with_reducible apply Mini.ev_meth
  | with_reducible exact Mini.ev_pFl0
  | with_reducible exact Mini.ev_pNil
  | with_reducible apply Mini.ev_pFl
  | with_reducible apply Mini.ev_pIx
  | with_reducible apply Mini.modP_nil
  | with_reducible apply Mini.modP_fl
  | with_reducible apply Mini.modP_ix
  | ((with_reducible apply Mini.ev_ixN); (focus sizeOf_list_dec))
  | ((with_reducible apply Mini.ev_ixN0); (focus sizeOf_list_dec))
  | ((with_reducible apply Mini.st_n); (focus sizeOf_list_dec))
  | ((with_reducible apply Mini.ap_n); (focus sizeOf_list_dec))
  | with_reducible apply Mini.ev_makeR
  | ((with_reducible apply Mini.ev_lend0); (focus rfl))
  | ((with_reducible apply Mini.ev_lendR); (focus rfl))
  | with_reducible exact Mini.fzs_nat
  | with_reducible exact Mini.natO_frz _
  | ((with_reducible apply Mini.ev_fldO); (focus rfl))
  | with_reducible exact Mini.putO_hit
  | with_reducible exact Mini.putN_hit
  | ((with_reducible apply Mini.putO_miss); (focus (simp only [ne_eq, Mini.ofS_iff]; decide)))
  | ((with_reducible apply Mini.putN_miss); (focus (simp only [ne_eq, Mini.ofS_iff]; decide)))
  | with_reducible exact Mini.putO_nil
  | with_reducible exact Mini.putN_nil
  | ((with_reducible apply Mini.ev_isObj); (focus rfl))
  | (with_reducible exact Mini.EqC.oEqL Mini.EqC.nat (Nat.le_of_ble_eq_true rfl) _ _ _ _)
  | (with_reducible exact Mini.EqC.oNeL Mini.EqC.nat (Nat.le_of_ble_eq_true rfl) _ _ _ _)
  | (with_reducible exact Mini.EqC.oEqL Mini.EqC.int (Nat.le_of_ble_eq_true rfl) _ _ _ _)
  | (with_reducible exact Mini.EqC.oNeL Mini.EqC.int (Nat.le_of_ble_eq_true rfl) _ _ _ _)
  | array_mem_dec)
local macro_rules | `(tactic| decreasing_trivial_pre_omega) => `(tactic| first
  | with_reducible apply Mini.wp_seq
  | with_reducible apply Mini.sq_nx
  | with_reducible apply Mini.sq_rt
  | with_reducible apply Mini.sq_er
  | with_reducible apply Mini.sq_bk
  | with_reducible apply Mini.sq_ct
  | with_reducible apply Mini.lp_rt
  | with_reducible apply Mini.ct_rt
  | with_reducible apply Mini.ct_er
  | with_reducible apply Mini.ct_bk
  | with_reducible apply Mini.ct_ct
  | with_reducible apply Mini.tq_nx
  | with_reducible apply Mini.tq_rtn
  | with_reducible apply Mini.lp_er
  | with_reducible apply Mini.lp_bk
  | with_reducible exact Mini.ends_rt
  | ((with_reducible apply Mini.ends_of); (focus (first | rfl | with_reducible assumption | (simp; done))))
  | with_reducible exact Mini.raises_er
  | ((with_reducible apply Mini.wp_asg); (focus (array_get_dec; done)); (focus (array_get_dec; done)))
  | with_reducible apply Mini.wp_skip
  | ((with_reducible apply Mini.wp_ret); (focus (array_get_dec; done)))
  | ((with_reducible apply Mini.wp_retmv); (focus rfl); (focus (array_get_dec; done)))
  | ((with_reducible apply Mini.wp_fz); (focus rfl); (focus (array_get_dec; done)); (focus (array_get_dec; done)))
  | ((with_reducible apply Mini.wp_expr); (focus (array_get_dec; done)))
  | ((with_reducible apply Mini.wp_app); (focus rfl); (focus (array_get_dec; done)); (focus sizeOf_list_dec); (focus (array_get_dec; done)))
  | ((with_reducible apply Mini.wp_setI); (focus (array_get_dec; done)); (focus rfl); (focus (array_get_dec; done)); (focus (array_get_dec; done)); (focus (array_get_dec; done)))
  | ((with_reducible apply Mini.wp_aug); (focus rfl); (focus (array_get_dec; done)); (focus (array_get_dec; done)); (focus (array_get_dec; done)))
  | ((with_reducible apply Mini.wp_for); (focus (array_get_dec; done)))
  | ((with_reducible apply Mini.wp_asgR); (focus (array_get_dec; done)); (focus (array_get_dec; done)))
  | ((with_reducible apply Mini.wp_retR); (focus (array_get_dec; done)))
  | ((with_reducible apply Mini.wp_exprR); (focus (array_get_dec; done)))
  | ((with_reducible apply Mini.wp_setF); (focus (array_get_dec; done)); (focus rfl); (focus (exact (Nat.le_of_ble_eq_true rfl))); (focus (array_get_dec; done)); (focus (array_get_dec; done)); (focus (array_get_dec; done)))
  | ((with_reducible apply Mini.wp_setP); (focus (array_get_dec; done)); (focus (array_get_dec; done)); (focus rfl); (focus (array_get_dec; done)); (focus (array_get_dec; done)); (focus (array_get_dec; done)))
  | ((with_reducible apply Mini.wp_appP); (focus (array_get_dec; done)); (focus rfl); (focus (array_get_dec; done)); (focus (array_get_dec; done)); (focus (array_get_dec; done)))
  | ((with_reducible apply Mini.wp_ifN); (focus (array_get_dec; done)))
  | with_reducible apply Mini.wp_some)
/-- it ends with this value -/
def Rt (o : O) (x : Option Mini.Out) : Prop := ∃ ρ', x = some (.rt o ρ')
theorem stp {a b : Mini.Env → Option Mini.Out} {ρ : Mini.Env} {o : O} (ρ1 : Mini.Env) (h : a ρ = some (.nx ρ1)) (h2 : Rt o (b ρ1)) : Rt o (dSeq a b ρ) := by
  unfold dSeq
  rw [h]
  exact h2
theorem stp_rt {a b : Mini.Env → Option Mini.Out} {ρ : Mini.Env} {o : O} (h : Rt o (a ρ)) : Rt o (dSeq a b ρ) := by
  obtain ⟨ρ', h⟩ := h
  exact ⟨ρ', by unfold dSeq; rw [h]⟩
theorem stp_ret {d : Mini.Env → Option O} {ρ : Mini.Env} {o : O} (h : d ρ = some o) : Rt o (dRet d ρ) := ⟨ρ, by unfold dRet; rw [h]⟩
theorem stp_def {pn : Nat → Bool} {n m : Nat} {d : Mini.Env → Option Mini.Out} {os : List O} {o : O} (h : Rt o (d (os.map some ++ List.replicate (m - n) none))) : ∃ f, dDef pn n m d os = some (o, f) := by
  obtain ⟨ρ', h⟩ := h
  exact ⟨_, by unfold dDef; rw [h]⟩
theorem if_no {t : Mini.Env → Option Bool} {a : Mini.Env → Option Mini.Out} {ρ : Mini.Env} (h : t ρ = some false) : dIf t a dSkip ρ = some (.nx ρ) := by unfold dIf; rw [h]; rfl
theorem if_yes {t : Mini.Env → Option Bool} {a b : Mini.Env → Option Mini.Out} {ρ : Mini.Env} (h : t ρ = some true) : dIf t a b ρ = a ρ := by unfold dIf; rw [h]
theorem asg_s {d : Mini.Env → Option O} {i : Nat} {ρ : Mini.Env} {o : O} (h : d ρ = some o) (hi : i < ρ.length := by simp) : dAsg d (gSet i) ρ = some (.nx (ρ.set i (some o))) := by
  unfold dAsg gSet
  rw [h]
  dsimp only
  rw [if_pos hi]
theorem lFor_nx {dg : O → Mini.Env → Option Mini.Env} {body : Mini.Env → Option Mini.Out} {o : O} {os : List O} {ρ ρ1 ρ2 : Mini.Env} (h1 : dg o ρ = some ρ1) (h2 : body ρ1 = some (.nx ρ2)) : lFor dg body (o :: os) ρ = lFor dg body os ρ2 := by
  rw [lFor, h1]
  dsimp only
  rw [h2]
theorem lFor_rt {dg : O → Mini.Env → Option Mini.Env} {body : Mini.Env → Option Mini.Out} {o r : O} {os : List O} {ρ ρ1 ρ2 : Mini.Env} (h1 : dg o ρ = some ρ1) (h2 : body ρ1 = some (.rt r ρ2)) : lFor dg body (o :: os) ρ = some (.rt r ρ2) := by
  rw [lFor, h1]
  dsimp only
  rw [h2]
theorem stp_defX {pn : Nat → Bool} {n m : Nat} {d : Mini.Env → Option Mini.Out} {os : List O} {o : O} (h : Rt o (d (os.map some ++ List.replicate (m - n) none))) : ∃ f, dDefX pn n m d os = some (.ok o f) := by
  obtain ⟨ρ', h⟩ := h
  exact ⟨_, by unfold dDefX; rw [h]⟩
theorem err_defX {pn : Nat → Bool} {n m : Nat} {d : Mini.Env → Option Mini.Out} {os : List O} {c : Nat} {ρ : Mini.Env} (h : d (os.map some ++ List.replicate (m - n) none) = some (.er c ρ)) : ∃ f, dDefX pn n m d os = some (.er c f) := ⟨_, by unfold dDefX; rw [h]⟩
theorem try_nx {isE handles : Nat → Bool} {i : Nat} {db : Mini.Env → Option Mini.Out} {ds : Nat → Addr → Mini.Env → Option Mini.Out} {ρ ρ1 : Mini.Env} (h : db ρ = some (.nx ρ1)) : dTry isE handles i db ds ρ = some (.nx ρ1) := by
  unfold dTry
  rw [h]
theorem try_er {isE handles : Nat → Bool} {i : Nat} {db : Mini.Env → Option Mini.Out} {ds : Nat → Addr → Mini.Env → Option Mini.Out} {ρ ρ1 : Mini.Env} {c : Nat} {o : O} (h : db ρ = some (.er c ρ1)) (hE : isE c = true) (hi : i < ρ1.length) (hh : handles c = true)
    (hd : ∀ a, ds c a (ρ1.set i (some (.exc a))) = some (.rt o (ρ1.set i (some (.exc a))))) : Rt o (dTry isE handles i db ds ρ) := by
  unfold dTry
  rw [h]
  dsimp only
  rw [if_pos ⟨hE, hi⟩, if_pos hh, show (fun a => ds c a (ρ1.set i (some (.exc a)))) = fun a => some (.rt o (ρ1.set i (some (.exc a)))) from funext hd, pick_rt (fun a => by rw [List.set_set, List.set_set])]
  exact ⟨_, rfl⟩
theorem seq_er {a b : Mini.Env → Option Mini.Out} {ρ ρ1 : Mini.Env} {c : Nat} (h : a ρ = some (.er c ρ1)) : dSeq a b ρ = some (.er c ρ1) := by
  unfold dSeq
  rw [h]
theorem bin_e {fn : O → O → Option O} {da db : Mini.Env → Option O} {ρ : Mini.Env} {x y : O} (h1 : da ρ = some x) (h2 : db ρ = some y) : dBin fn da db ρ = fn x y := by
  unfold dBin
  rw [h1]
  dsimp only
  rw [h2]
theorem bind_e {d : Mini.Env → Option O} {fn : O → Option O} {ρ : Mini.Env} {x : O} (h : d ρ = some x) : dBind d fn ρ = fn x := by
  unfold dBind
  rw [h]
theorem tru_e {f : O → Option Bool} {d : Mini.Env → Option O} {ρ : Mini.Env} {o : O} (h : d ρ = some o) : dTru f d ρ = f o := by
  unfold dTru
  rw [h]
theorem ab_n (i : Int) : oAbs (.int i) = some (.int (i.natAbs : Int)) := by
  show some (O.int (if i < 0 then -i else i)) = _
  split <;> congr 2 <;> omega
theorem ix_n {w : Nat} (c : Int) : ∃ i : Nat, oMod (.int c) (.int ((1 * 2 ^ w : Nat) : Int)) = some (.int (i : Int)) ∧ i < 2 ^ w := by
  have hp2 : 0 < 1 * 2 ^ w := by have := Nat.two_pow_pos w; omega
  have h1 := Int.emod_nonneg c (show ((1 * 2 ^ w : Nat) : Int) ≠ 0 by omega)
  have h2 := Int.emod_lt_of_pos c (show (0 : Int) < ((1 * 2 ^ w : Nat) : Int) by omega)
  refine ⟨(c % ((1 * 2 ^ w : Nat) : Int)).toNat, ?_, by omega⟩
  rw [oMod_i, if_pos (by omega)]
  congr 2
  omega
theorem cells_bd {ns : List Int} (hb : ∀ z ∈ ns, Builtin.Int.intBits z ≤ 1048576) (k : Nat) : (cell ns k).natAbs < 2 ^ 1048576 := cell_B hb k
theorem law_cell (ns : List Int) (k : Nat) : F__law_cell [S ns, .int k] = some (.int (cell ns k), [none, none]) := by
  by_cases h : k < ns.length
  · have h' : (k : Int) < (ns.length : Int) := by omega
    simp [F__law_cell, dDef, dSeq, dIf, dTru, oBool, dBin, dBind, look_nil, look_z, look_s, dRet, dRetMv, dSkip, dAsg, dExpr, setS, dAug, gSet, gTupO, gsCons, gsNil, dTup, dLst, dCons, dNil, copyO, isFz, isFzs, Mini.fin, oAdd_i, oAddI_i, oAdd_l, oAdd_t, oMul_l, lineOk_n, oSub_i, oMul_i, oMod_i, oDiv_i, oAnd_i, oOr_i, oXor_i, oLt_i, oLe_i, oGt_i, oGe_i, oMax_i, oMin_i, negO_i, oAbs_i, oInt_i, oInt_b, oEq_i, oNe_i, eqv_ii, idx_t, idx_l, atI_z, atI_n, atI_lit, ixN_n, ixN_lit, len_t, len_l, oTru, oNot, vAnd, vOr, bAnd, bOr, bNot, dIte, mLog2, rngs_z, rngs_s, line_le, line_lt, dCall, views, okb, noFm, noFms, frz, frzs, dIt, itO, lFor, dFor, dRng1, dRng2, rOk_def, rOk0, dApp, dSetI, dFz, dCallX, dCallN, dDefX, dAsgR, dRetR, dExprR, dTry, dIsE, pick_rt, pick_nx, oBits_i, oIsN, oNotN, isNon, oIn, dChain, flatO, eqF_i, oList, oTuple, dLc, lLc, wipeE, dYes, keyO, kFind, kPut, oDIdx, oGet2, oDIn, dTri, dDct, dPCons, dPNil, dMerge, dSetD, dForK, keyB, dLend, dEnum, enumO, oEq_s, oNe_s, eqF_s, ofS_iff, oListD, kO, gIdx, gGet, gIn, List.set_cons_zero, List.set_cons_succ, List.replicate, isi_NoneType_int, isi_bool_int, isi_int_int, isi_str_int, isi_tuple_int, isi_list_int, isi_dict_int, isi_NoneType_bool, isi_bool_bool, isi_int_bool, isi_str_bool, isi_tuple_bool, isi_list_bool, isi_dict_bool, isi_NoneType_str, isi_bool_str, isi_int_str, isi_str_str, isi_tuple_str, isi_list_str, isi_dict_str, isi_NoneType_tuple, isi_bool_tuple, isi_int_tuple, isi_str_tuple, isi_tuple_tuple, isi_list_tuple, isi_dict_tuple, isi_NoneType_list, isi_bool_list, isi_int_list, isi_str_list, isi_tuple_list, isi_list_list, isi_dict_list, isi_NoneType_dict, isi_bool_dict, isi_int_dict, isi_str_dict, isi_tuple_dict, isi_list_dict, isi_dict_dict, Bd__law_order_1, Bd_Layout__init_1, Bd__law_numbers_1, Bd__law_numbers_2, Bd__law_swapped_1, Bd_law_1, Bd_law_2, h', cell_at h]
  · have h' : ¬ (k : Int) < (ns.length : Int) := by omega
    simp [F__law_cell, dDef, dSeq, dIf, dTru, oBool, dBin, dBind, look_nil, look_z, look_s, dRet, dRetMv, dSkip, dAsg, dExpr, setS, dAug, gSet, gTupO, gsCons, gsNil, dTup, dLst, dCons, dNil, copyO, isFz, isFzs, Mini.fin, oAdd_i, oAddI_i, oAdd_l, oAdd_t, oMul_l, lineOk_n, oSub_i, oMul_i, oMod_i, oDiv_i, oAnd_i, oOr_i, oXor_i, oLt_i, oLe_i, oGt_i, oGe_i, oMax_i, oMin_i, negO_i, oAbs_i, oInt_i, oInt_b, oEq_i, oNe_i, eqv_ii, idx_t, idx_l, atI_z, atI_n, atI_lit, ixN_n, ixN_lit, len_t, len_l, oTru, oNot, vAnd, vOr, bAnd, bOr, bNot, dIte, mLog2, rngs_z, rngs_s, line_le, line_lt, dCall, views, okb, noFm, noFms, frz, frzs, dIt, itO, lFor, dFor, dRng1, dRng2, rOk_def, rOk0, dApp, dSetI, dFz, dCallX, dCallN, dDefX, dAsgR, dRetR, dExprR, dTry, dIsE, pick_rt, pick_nx, oBits_i, oIsN, oNotN, isNon, oIn, dChain, flatO, eqF_i, oList, oTuple, dLc, lLc, wipeE, dYes, keyO, kFind, kPut, oDIdx, oGet2, oDIn, dTri, dDct, dPCons, dPNil, dMerge, dSetD, dForK, keyB, dLend, dEnum, enumO, oEq_s, oNe_s, eqF_s, ofS_iff, oListD, kO, gIdx, gGet, gIn, List.set_cons_zero, List.set_cons_succ, List.replicate, isi_NoneType_int, isi_bool_int, isi_int_int, isi_str_int, isi_tuple_int, isi_list_int, isi_dict_int, isi_NoneType_bool, isi_bool_bool, isi_int_bool, isi_str_bool, isi_tuple_bool, isi_list_bool, isi_dict_bool, isi_NoneType_str, isi_bool_str, isi_int_str, isi_str_str, isi_tuple_str, isi_list_str, isi_dict_str, isi_NoneType_tuple, isi_bool_tuple, isi_int_tuple, isi_str_tuple, isi_tuple_tuple, isi_list_tuple, isi_dict_tuple, isi_NoneType_list, isi_bool_list, isi_int_list, isi_str_list, isi_tuple_list, isi_list_list, isi_dict_list, isi_NoneType_dict, isi_bool_dict, isi_int_dict, isi_str_dict, isi_tuple_dict, isi_list_dict, isi_dict_dict, Bd__law_order_1, Bd_Layout__init_1, Bd__law_numbers_1, Bd__law_numbers_2, Bd__law_swapped_1, Bd_law_1, Bd_law_2, h', cell_out h]
def Sm (ms : List Nat) : List O := ms.map fun m : Nat => O.int (m : Int)
structure Ok (T : Nat) (ms : List Nat) : Prop where
  len : ms.length ≤ T
  lt : ∀ m ∈ ms, m < 4096
theorem Ok.snoc {T : Nat} {ms : List Nat} (h : Ok T ms) (hl : ms.length < T) {z : Nat} (hz : z < 4096) : Ok T (ms ++ [z]) :=
  ⟨by simp; omega, fun m hm => by
    rcases List.mem_append.mp hm with q | q
    · exact h.lt m q
    · rw [List.mem_singleton] at q; omega⟩
theorem Sm_snoc (ms : List Nat) (m : Nat) : Sm ms ++ [.int (m : Int)] = Sm (ms ++ [m]) := by simp [Sm]
theorem s_n1 (T : Nat) (hT : T ≤ 1000) (a0 a1 a4 a7 : Option O) (ms : List Nat) (hm : Ok T ms) (v : Nat) (i : Int) :
    ∃ (ms' : List Nat) (v' : Nat), Ok T ms' ∧ Bd__law_numbers_1 [a0, a1, some (.int (T : Int)), some (.lst true (Sm ms)), a4, some (.int (v : Int)), some (.int i), a7] = some (.nx [a0, a1, some (.int (T : Int)), some (.lst true (Sm ms')), a4, some (.int (v' : Int)), some (.int i), a7]) := by
  by_cases h : 0 < (v : Int) ∧ ((Sm ms).length : Int) < (T : Int)
  · refine ⟨ms ++ [v % 4096], v / 4096, hm.snoc (by have := h.2; simp [Sm] at this; omega) (Nat.mod_lt _ (by decide)), ?_⟩
    have e : ((v % 4096 : Nat) : Int) = (v : Int) % 4096 := by omega
    have e2 : ((v / 4096 : Nat) : Int) = (v : Int) / 4096 := by omega
    rw [← Sm_snoc, e, e2]
    obtain ⟨h1, h2⟩ := h
    generalize Sm ms = L at *
    generalize (v : Int) = V at *
    have h3 := line_lt (show L.length < 16777216 by omega)
    simp [Bd__law_numbers_1, dDef, dSeq, dIf, dTru, oBool, dBin, dBind, look_nil, look_z, look_s, dRet, dRetMv, dSkip, dAsg, dExpr, setS, dAug, gSet, gTupO, gsCons, gsNil, dTup, dLst, dCons, dNil, copyO, isFz, isFzs, Mini.fin, oAdd_i, oAddI_i, oAdd_l, oAdd_t, oMul_l, lineOk_n, oSub_i, oMul_i, oMod_i, oDiv_i, oAnd_i, oOr_i, oXor_i, oLt_i, oLe_i, oGt_i, oGe_i, oMax_i, oMin_i, negO_i, oAbs_i, oInt_i, oInt_b, oEq_i, oNe_i, eqv_ii, idx_t, idx_l, atI_z, atI_n, atI_lit, ixN_n, ixN_lit, len_t, len_l, oTru, oNot, vAnd, vOr, bAnd, bOr, bNot, dIte, mLog2, rngs_z, rngs_s, line_le, line_lt, dCall, views, okb, noFm, noFms, frz, frzs, dIt, itO, lFor, dFor, dRng1, dRng2, rOk_def, rOk0, dApp, dSetI, dFz, dCallX, dCallN, dDefX, dAsgR, dRetR, dExprR, dTry, dIsE, pick_rt, pick_nx, oBits_i, oIsN, oNotN, isNon, oIn, dChain, flatO, eqF_i, oList, oTuple, dLc, lLc, wipeE, dYes, keyO, kFind, kPut, oDIdx, oGet2, oDIn, dTri, dDct, dPCons, dPNil, dMerge, dSetD, dForK, keyB, dLend, dEnum, enumO, oEq_s, oNe_s, eqF_s, ofS_iff, oListD, kO, gIdx, gGet, gIn, List.set_cons_zero, List.set_cons_succ, List.replicate, isi_NoneType_int, isi_bool_int, isi_int_int, isi_str_int, isi_tuple_int, isi_list_int, isi_dict_int, isi_NoneType_bool, isi_bool_bool, isi_int_bool, isi_str_bool, isi_tuple_bool, isi_list_bool, isi_dict_bool, isi_NoneType_str, isi_bool_str, isi_int_str, isi_str_str, isi_tuple_str, isi_list_str, isi_dict_str, isi_NoneType_tuple, isi_bool_tuple, isi_int_tuple, isi_str_tuple, isi_tuple_tuple, isi_list_tuple, isi_dict_tuple, isi_NoneType_list, isi_bool_list, isi_int_list, isi_str_list, isi_tuple_list, isi_list_list, isi_dict_list, isi_NoneType_dict, isi_bool_dict, isi_int_dict, isi_str_dict, isi_tuple_dict, isi_list_dict, isi_dict_dict, h1, h2, h3]
  · refine ⟨ms, v, hm, ?_⟩
    generalize Sm ms = L at *
    generalize (v : Int) = V at *
    by_cases h1 : 0 < V
    · have h2 : ¬ (L.length : Int) < (T : Int) := fun t => h ⟨h1, t⟩
      simp [Bd__law_numbers_1, dDef, dSeq, dIf, dTru, oBool, dBin, dBind, look_nil, look_z, look_s, dRet, dRetMv, dSkip, dAsg, dExpr, setS, dAug, gSet, gTupO, gsCons, gsNil, dTup, dLst, dCons, dNil, copyO, isFz, isFzs, Mini.fin, oAdd_i, oAddI_i, oAdd_l, oAdd_t, oMul_l, lineOk_n, oSub_i, oMul_i, oMod_i, oDiv_i, oAnd_i, oOr_i, oXor_i, oLt_i, oLe_i, oGt_i, oGe_i, oMax_i, oMin_i, negO_i, oAbs_i, oInt_i, oInt_b, oEq_i, oNe_i, eqv_ii, idx_t, idx_l, atI_z, atI_n, atI_lit, ixN_n, ixN_lit, len_t, len_l, oTru, oNot, vAnd, vOr, bAnd, bOr, bNot, dIte, mLog2, rngs_z, rngs_s, line_le, line_lt, dCall, views, okb, noFm, noFms, frz, frzs, dIt, itO, lFor, dFor, dRng1, dRng2, rOk_def, rOk0, dApp, dSetI, dFz, dCallX, dCallN, dDefX, dAsgR, dRetR, dExprR, dTry, dIsE, pick_rt, pick_nx, oBits_i, oIsN, oNotN, isNon, oIn, dChain, flatO, eqF_i, oList, oTuple, dLc, lLc, wipeE, dYes, keyO, kFind, kPut, oDIdx, oGet2, oDIn, dTri, dDct, dPCons, dPNil, dMerge, dSetD, dForK, keyB, dLend, dEnum, enumO, oEq_s, oNe_s, eqF_s, ofS_iff, oListD, kO, gIdx, gGet, gIn, List.set_cons_zero, List.set_cons_succ, List.replicate, isi_NoneType_int, isi_bool_int, isi_int_int, isi_str_int, isi_tuple_int, isi_list_int, isi_dict_int, isi_NoneType_bool, isi_bool_bool, isi_int_bool, isi_str_bool, isi_tuple_bool, isi_list_bool, isi_dict_bool, isi_NoneType_str, isi_bool_str, isi_int_str, isi_str_str, isi_tuple_str, isi_list_str, isi_dict_str, isi_NoneType_tuple, isi_bool_tuple, isi_int_tuple, isi_str_tuple, isi_tuple_tuple, isi_list_tuple, isi_dict_tuple, isi_NoneType_list, isi_bool_list, isi_int_list, isi_str_list, isi_tuple_list, isi_list_list, isi_dict_list, isi_NoneType_dict, isi_bool_dict, isi_int_dict, isi_str_dict, isi_tuple_dict, isi_list_dict, isi_dict_dict, h1, h2]
    · simp [Bd__law_numbers_1, dDef, dSeq, dIf, dTru, oBool, dBin, dBind, look_nil, look_z, look_s, dRet, dRetMv, dSkip, dAsg, dExpr, setS, dAug, gSet, gTupO, gsCons, gsNil, dTup, dLst, dCons, dNil, copyO, isFz, isFzs, Mini.fin, oAdd_i, oAddI_i, oAdd_l, oAdd_t, oMul_l, lineOk_n, oSub_i, oMul_i, oMod_i, oDiv_i, oAnd_i, oOr_i, oXor_i, oLt_i, oLe_i, oGt_i, oGe_i, oMax_i, oMin_i, negO_i, oAbs_i, oInt_i, oInt_b, oEq_i, oNe_i, eqv_ii, idx_t, idx_l, atI_z, atI_n, atI_lit, ixN_n, ixN_lit, len_t, len_l, oTru, oNot, vAnd, vOr, bAnd, bOr, bNot, dIte, mLog2, rngs_z, rngs_s, line_le, line_lt, dCall, views, okb, noFm, noFms, frz, frzs, dIt, itO, lFor, dFor, dRng1, dRng2, rOk_def, rOk0, dApp, dSetI, dFz, dCallX, dCallN, dDefX, dAsgR, dRetR, dExprR, dTry, dIsE, pick_rt, pick_nx, oBits_i, oIsN, oNotN, isNon, oIn, dChain, flatO, eqF_i, oList, oTuple, dLc, lLc, wipeE, dYes, keyO, kFind, kPut, oDIdx, oGet2, oDIn, dTri, dDct, dPCons, dPNil, dMerge, dSetD, dForK, keyB, dLend, dEnum, enumO, oEq_s, oNe_s, eqF_s, ofS_iff, oListD, kO, gIdx, gGet, gIn, List.set_cons_zero, List.set_cons_succ, List.replicate, isi_NoneType_int, isi_bool_int, isi_int_int, isi_str_int, isi_tuple_int, isi_list_int, isi_dict_int, isi_NoneType_bool, isi_bool_bool, isi_int_bool, isi_str_bool, isi_tuple_bool, isi_list_bool, isi_dict_bool, isi_NoneType_str, isi_bool_str, isi_int_str, isi_str_str, isi_tuple_str, isi_list_str, isi_dict_str, isi_NoneType_tuple, isi_bool_tuple, isi_int_tuple, isi_str_tuple, isi_tuple_tuple, isi_list_tuple, isi_dict_tuple, isi_NoneType_list, isi_bool_list, isi_int_list, isi_str_list, isi_tuple_list, isi_list_list, isi_dict_list, isi_NoneType_dict, isi_bool_dict, isi_int_dict, isi_str_dict, isi_tuple_dict, isi_list_dict, isi_dict_dict, h1]
theorem s_n2 (T : Nat) (hT : T ≤ 1000) (f0 : Nat) (ns : List Int) (k : Nat) (hk : k < ns.length) (h63 : ns.length ≤ 63) (ms : List Nat) (hm : Ok T ms) (a5 a6 a7 : Option O) :
    ∃ (ms' : List Nat) (b5 b6 b7 : Option O), Ok T ms' ∧ Bd__law_numbers_2 [some (S ns), some (.int (f0 : Int)), some (.int (T : Int)), some (.lst true (Sm ms)), some (.int (k : Int)), a5, a6, a7] = some (.nx [some (S ns), some (.int (f0 : Int)), some (.int (T : Int)), some (.lst true (Sm ms')), some (.int (k : Int)), b5, b6, b7]) := by
  have x := cell_at hk
  have ab := ab_n (cell ns k)
  generalize cell ns k = c at *
  by_cases h : (1000000000000000000 : Int) ≤ (c.natAbs : Int)
  · obtain ⟨ρ', e, ms', v', a6', hm', rfl⟩ := lFor_rng (dg := gSet 6) (body := Bd__law_numbers_1) (fun _ ρ => ∃ (ms' : List Nat) (v' : Nat) (a6' : Option O), Ok T ms' ∧ ρ = [some (S ns), some (.int (f0 : Int)), some (.int (T : Int)), some (.lst true (Sm ms')), some (.int (k : Int)), some (.int (v' : Int)), a6', a7]) 0 60
      [some (S ns), some (.int (f0 : Int)), some (.int (T : Int)), some (.lst true (Sm ms)), some (.int (k : Int)), some (.int (c.natAbs : Int)), a6, a7] ⟨ms, c.natAbs, a6, hm, rfl⟩ (by
      rintro j ρ hj ⟨ms', v', a6', hm', rfl⟩
      obtain ⟨ms2, v2, h2, e⟩ := s_n1 T hT (some (S ns)) (some (.int (f0 : Int))) (some (.int (k : Int))) a7 ms' hm' v' (0 + j)
      exact ⟨_, _, rfl, e, ms2, v2, _, h2, rfl⟩)
    refine ⟨ms', some (.int (v' : Int)), a6', a7, hm', ?_⟩
    have e2 := (dFor_rng1 (d := fun _ => some (.int 60)) (dg := gSet 6) (body := Bd__law_numbers_1) (n := 60) (ρ := [some (S ns), some (.int (f0 : Int)), some (.int (T : Int)), some (.lst true (Sm ms)), some (.int (k : Int)), some (.int (c.natAbs : Int)), a6, a7]) rfl (by decide)).trans e
    clear e hk
    unfold S at *
    generalize ns.map O.int = L at *
    generalize Sm ms = M at *
    generalize Sm ms' = M' at *
    generalize (c.natAbs : Int) = C at *
    simp [Bd__law_numbers_2, dDef, dSeq, dIf, dTru, oBool, dBin, dBind, look_nil, look_z, look_s, dRet, dRetMv, dSkip, dAsg, dExpr, setS, dAug, gSet, gTupO, gsCons, gsNil, dTup, dLst, dCons, dNil, copyO, isFz, isFzs, Mini.fin, oAdd_i, oAddI_i, oAdd_l, oAdd_t, oMul_l, lineOk_n, oSub_i, oMul_i, oMod_i, oDiv_i, oAnd_i, oOr_i, oXor_i, oLt_i, oLe_i, oGt_i, oGe_i, oMax_i, oMin_i, negO_i, oAbs_i, oInt_i, oInt_b, oEq_i, oNe_i, eqv_ii, idx_t, idx_l, atI_z, atI_n, atI_lit, ixN_n, ixN_lit, len_t, len_l, oTru, oNot, vAnd, vOr, bAnd, bOr, bNot, dIte, mLog2, rngs_z, rngs_s, line_le, line_lt, dCall, views, okb, noFm, noFms, frz, frzs, dIt, itO, lFor, dFor, dRng1, dRng2, rOk_def, rOk0, dApp, dSetI, dFz, dCallX, dCallN, dDefX, dAsgR, dRetR, dExprR, dTry, dIsE, pick_rt, pick_nx, oBits_i, oIsN, oNotN, isNon, oIn, dChain, flatO, eqF_i, oList, oTuple, dLc, lLc, wipeE, dYes, keyO, kFind, kPut, oDIdx, oGet2, oDIn, dTri, dDct, dPCons, dPNil, dMerge, dSetD, dForK, keyB, dLend, dEnum, enumO, oEq_s, oNe_s, eqF_s, ofS_iff, oListD, kO, gIdx, gGet, gIn, List.set_cons_zero, List.set_cons_succ, List.replicate, isi_NoneType_int, isi_bool_int, isi_int_int, isi_str_int, isi_tuple_int, isi_list_int, isi_dict_int, isi_NoneType_bool, isi_bool_bool, isi_int_bool, isi_str_bool, isi_tuple_bool, isi_list_bool, isi_dict_bool, isi_NoneType_str, isi_bool_str, isi_int_str, isi_str_str, isi_tuple_str, isi_list_str, isi_dict_str, isi_NoneType_tuple, isi_bool_tuple, isi_int_tuple, isi_str_tuple, isi_tuple_tuple, isi_list_tuple, isi_dict_tuple, isi_NoneType_list, isi_bool_list, isi_int_list, isi_str_list, isi_tuple_list, isi_list_list, isi_dict_list, isi_NoneType_dict, isi_bool_dict, isi_int_dict, isi_str_dict, isi_tuple_dict, isi_list_dict, isi_dict_dict, -dFor, -dRng1, -oAbs_i, x, ab, h, e2]
  · have hc : c.natAbs < 2 ^ 64 := by omega
    obtain ⟨C, hC⟩ : ∃ C : Nat, C = c.natAbs := ⟨_, rfl⟩
    rw [← hC] at ab h hc
    have hC' : C < 1000000000000000000 := by omega
    have m1 := oMul_b (i := (C : Int)) (j := 48271) (by omega) (by decide)
    have m2 := oMul_b (i := (k : Int)) (j := 69621) (by omega) (by decide)
    obtain ⟨y, hy⟩ : ∃ y : Nat, ((C : Int) * 48271 + (k : Int) * 69621 + 12345) % 2147483647 = (y : Int) := ⟨(((C : Int) * 48271 + (k : Int) * 69621 + 12345) % 2147483647).toNat, by omega⟩
    have hy2 : y < 2147483647 := by omega
    have m3 := oMul_b (i := (y : Int)) (j := 69621) (by omega) (by decide)
    obtain ⟨z, hz⟩ : ∃ z : Nat, ((y : Int) * 69621 + (y : Int) / 1009) % 1000003 % 4096 = (z : Int) := ⟨(((y : Int) * 69621 + (y : Int) / 1009) % 1000003 % 4096).toNat, by omega⟩
    clear hk
    unfold S at *
    by_cases hl : ((Sm ms).length : Int) < (T : Int)
    · refine ⟨ms ++ [z], some (.int (C : Int)), a6, some (.int (((y : Int) * 69621 + (y : Int) / 1009) % 1000003)), hm.snoc (by simp [Sm] at hl; omega) (by omega), ?_⟩
      rw [← Sm_snoc, ← hz]
      clear hz hc hC'
      generalize ns.map O.int = L at *
      generalize Sm ms = M at *
      generalize (C : Int) = C' at *
      generalize (k : Int) = K' at *
      generalize (y : Int) = Y at *
      have h3 := line_lt (show M.length < 16777216 by omega)
      simp [Bd__law_numbers_2, dDef, dSeq, dIf, dTru, oBool, dBin, dBind, look_nil, look_z, look_s, dRet, dRetMv, dSkip, dAsg, dExpr, setS, dAug, gSet, gTupO, gsCons, gsNil, dTup, dLst, dCons, dNil, copyO, isFz, isFzs, Mini.fin, oAdd_i, oAddI_i, oAdd_l, oAdd_t, oMul_l, lineOk_n, oSub_i, oMul_i, oMod_i, oDiv_i, oAnd_i, oOr_i, oXor_i, oLt_i, oLe_i, oGt_i, oGe_i, oMax_i, oMin_i, negO_i, oAbs_i, oInt_i, oInt_b, oEq_i, oNe_i, eqv_ii, idx_t, idx_l, atI_z, atI_n, atI_lit, ixN_n, ixN_lit, len_t, len_l, oTru, oNot, vAnd, vOr, bAnd, bOr, bNot, dIte, mLog2, rngs_z, rngs_s, line_le, line_lt, dCall, views, okb, noFm, noFms, frz, frzs, dIt, itO, lFor, dFor, dRng1, dRng2, rOk_def, rOk0, dApp, dSetI, dFz, dCallX, dCallN, dDefX, dAsgR, dRetR, dExprR, dTry, dIsE, pick_rt, pick_nx, oBits_i, oIsN, oNotN, isNon, oIn, dChain, flatO, eqF_i, oList, oTuple, dLc, lLc, wipeE, dYes, keyO, kFind, kPut, oDIdx, oGet2, oDIn, dTri, dDct, dPCons, dPNil, dMerge, dSetD, dForK, keyB, dLend, dEnum, enumO, oEq_s, oNe_s, eqF_s, ofS_iff, oListD, kO, gIdx, gGet, gIn, List.set_cons_zero, List.set_cons_succ, List.replicate, isi_NoneType_int, isi_bool_int, isi_int_int, isi_str_int, isi_tuple_int, isi_list_int, isi_dict_int, isi_NoneType_bool, isi_bool_bool, isi_int_bool, isi_str_bool, isi_tuple_bool, isi_list_bool, isi_dict_bool, isi_NoneType_str, isi_bool_str, isi_int_str, isi_str_str, isi_tuple_str, isi_list_str, isi_dict_str, isi_NoneType_tuple, isi_bool_tuple, isi_int_tuple, isi_str_tuple, isi_tuple_tuple, isi_list_tuple, isi_dict_tuple, isi_NoneType_list, isi_bool_list, isi_int_list, isi_str_list, isi_tuple_list, isi_list_list, isi_dict_list, isi_NoneType_dict, isi_bool_dict, isi_int_dict, isi_str_dict, isi_tuple_dict, isi_list_dict, isi_dict_dict, -dFor, -dRng1, -oAbs_i, -oMul_i, x, ab, h, hl, m1, m2, m3, hy, h3]
    · refine ⟨ms, some (.int (C : Int)), a6, a7, hm, ?_⟩
      clear hz hc hC' hy m1 m2 m3
      generalize ns.map O.int = L at *
      generalize Sm ms = M at *
      generalize (C : Int) = C' at *
      generalize (k : Int) = K' at *
      simp [Bd__law_numbers_2, dDef, dSeq, dIf, dTru, oBool, dBin, dBind, look_nil, look_z, look_s, dRet, dRetMv, dSkip, dAsg, dExpr, setS, dAug, gSet, gTupO, gsCons, gsNil, dTup, dLst, dCons, dNil, copyO, isFz, isFzs, Mini.fin, oAdd_i, oAddI_i, oAdd_l, oAdd_t, oMul_l, lineOk_n, oSub_i, oMul_i, oMod_i, oDiv_i, oAnd_i, oOr_i, oXor_i, oLt_i, oLe_i, oGt_i, oGe_i, oMax_i, oMin_i, negO_i, oAbs_i, oInt_i, oInt_b, oEq_i, oNe_i, eqv_ii, idx_t, idx_l, atI_z, atI_n, atI_lit, ixN_n, ixN_lit, len_t, len_l, oTru, oNot, vAnd, vOr, bAnd, bOr, bNot, dIte, mLog2, rngs_z, rngs_s, line_le, line_lt, dCall, views, okb, noFm, noFms, frz, frzs, dIt, itO, lFor, dFor, dRng1, dRng2, rOk_def, rOk0, dApp, dSetI, dFz, dCallX, dCallN, dDefX, dAsgR, dRetR, dExprR, dTry, dIsE, pick_rt, pick_nx, oBits_i, oIsN, oNotN, isNon, oIn, dChain, flatO, eqF_i, oList, oTuple, dLc, lLc, wipeE, dYes, keyO, kFind, kPut, oDIdx, oGet2, oDIn, dTri, dDct, dPCons, dPNil, dMerge, dSetD, dForK, keyB, dLend, dEnum, enumO, oEq_s, oNe_s, eqF_s, ofS_iff, oListD, kO, gIdx, gGet, gIn, List.set_cons_zero, List.set_cons_succ, List.replicate, isi_NoneType_int, isi_bool_int, isi_int_int, isi_str_int, isi_tuple_int, isi_list_int, isi_dict_int, isi_NoneType_bool, isi_bool_bool, isi_int_bool, isi_str_bool, isi_tuple_bool, isi_list_bool, isi_dict_bool, isi_NoneType_str, isi_bool_str, isi_int_str, isi_str_str, isi_tuple_str, isi_list_str, isi_dict_str, isi_NoneType_tuple, isi_bool_tuple, isi_int_tuple, isi_str_tuple, isi_tuple_tuple, isi_list_tuple, isi_dict_tuple, isi_NoneType_list, isi_bool_list, isi_int_list, isi_str_list, isi_tuple_list, isi_list_list, isi_dict_list, isi_NoneType_dict, isi_bool_dict, isi_int_dict, isi_str_dict, isi_tuple_dict, isi_list_dict, isi_dict_dict, -dFor, -dRng1, -oAbs_i, -oMul_i, x, ab, h, hl]
theorem s_numbers (T : Nat) (hT : T ≤ 1000) (f0 : Nat) (hf : f0 ≤ 1000) (ns : List Int) (h63 : ns.length ≤ 63) : ∃ ms : List Nat, Ok T ms ∧ F__law_numbers [S ns, .int (f0 : Int), .int (T : Int)] = some (.lst true (Sm ms), [none, none, none]) := by
  obtain ⟨ρ', e, ms, a4, a5, a6, a7, hm, rfl⟩ := lFor_rng (dg := gSet 4) (body := Bd__law_numbers_2) (fun _ ρ => ∃ (ms : List Nat) (a4 a5 a6 a7 : Option O), Ok T ms ∧ ρ = [some (S ns), some (.int (f0 : Int)), some (.int (T : Int)), some (.lst true (Sm ms)), a4, a5, a6, a7]) (f0 : Int) (((ns.length : Int) - (f0 : Int)).toNat)
    [some (S ns), some (.int (f0 : Int)), some (.int (T : Int)), some (.lst true (Sm [])), none, none, none, none] ⟨[], none, none, none, none, ⟨Nat.zero_le _, fun _ h => nomatch h⟩, rfl⟩ (by
    rintro j ρ hj ⟨ms, a4, a5, a6, a7, hm, rfl⟩
    obtain ⟨ms', b5, b6, b7, h2, e⟩ := s_n2 T hT f0 ns (f0 + j) (by omega) h63 ms hm a5 a6 a7
    refine ⟨_, _, rfl, ?_, ms', some (.int ((f0 + j : Nat) : Int)), b5, b6, b7, h2, rfl⟩
    rw [show ((f0 : Int) + (j : Int)) = ((f0 + j : Nat) : Int) by omega]
    exact e)
  refine ⟨ms, hm, ?_⟩
  have hb : (dBind (fun ρ => look ρ 0) oLen) [some (S ns), some (.int (f0 : Int)), some (.int (T : Int)), some (.lst true (Sm [])), none, none, none, none] = some (.int (ns.length : Int)) := by
    show some (O.int ((ns.map O.int).length : Int)) = _
    rw [List.length_map]
  have e2 := (dFor_rng2 (da := fun ρ => look ρ 1) (dg := gSet 4) (body := Bd__law_numbers_2) (i := (f0 : Int)) (j := (ns.length : Int)) rfl hb (by rw [rOk_def, rOk0]; simp; omega) (by rw [rOk_def, rOk0]; simp; omega)).trans e
  clear hb e
  have n1 : noFms (Sm ms) = true := nofm_map _ (fun _ => rfl) _
  unfold S at *
  generalize ns.map O.int = L at *
  generalize Sm ms = M at *
  generalize (f0 : Int) = F0 at *
  generalize (T : Int) = T0 at *
  have e0 : Sm [] = [] := rfl
  rw [e0] at e2
  simp [F__law_numbers, dDef, dSeq, dIf, dTru, oBool, dBin, dBind, look_nil, look_z, look_s, dRet, dRetMv, dSkip, dAsg, dExpr, setS, dAug, gSet, gTupO, gsCons, gsNil, dTup, dLst, dCons, dNil, copyO, isFz, isFzs, Mini.fin, oAdd_i, oAddI_i, oAdd_l, oAdd_t, oMul_l, lineOk_n, oSub_i, oMul_i, oMod_i, oDiv_i, oAnd_i, oOr_i, oXor_i, oLt_i, oLe_i, oGt_i, oGe_i, oMax_i, oMin_i, negO_i, oAbs_i, oInt_i, oInt_b, oEq_i, oNe_i, eqv_ii, idx_t, idx_l, atI_z, atI_n, atI_lit, ixN_n, ixN_lit, len_t, len_l, oTru, oNot, vAnd, vOr, bAnd, bOr, bNot, dIte, mLog2, rngs_z, rngs_s, line_le, line_lt, dCall, views, okb, noFm, noFms, frz, frzs, dIt, itO, lFor, dFor, dRng1, dRng2, rOk_def, rOk0, dApp, dSetI, dFz, dCallX, dCallN, dDefX, dAsgR, dRetR, dExprR, dTry, dIsE, pick_rt, pick_nx, oBits_i, oIsN, oNotN, isNon, oIn, dChain, flatO, eqF_i, oList, oTuple, dLc, lLc, wipeE, dYes, keyO, kFind, kPut, oDIdx, oGet2, oDIn, dTri, dDct, dPCons, dPNil, dMerge, dSetD, dForK, keyB, dLend, dEnum, enumO, oEq_s, oNe_s, eqF_s, ofS_iff, oListD, kO, gIdx, gGet, gIn, List.set_cons_zero, List.set_cons_succ, List.replicate, isi_NoneType_int, isi_bool_int, isi_int_int, isi_str_int, isi_tuple_int, isi_list_int, isi_dict_int, isi_NoneType_bool, isi_bool_bool, isi_int_bool, isi_str_bool, isi_tuple_bool, isi_list_bool, isi_dict_bool, isi_NoneType_str, isi_bool_str, isi_int_str, isi_str_str, isi_tuple_str, isi_list_str, isi_dict_str, isi_NoneType_tuple, isi_bool_tuple, isi_int_tuple, isi_str_tuple, isi_tuple_tuple, isi_list_tuple, isi_dict_tuple, isi_NoneType_list, isi_bool_list, isi_int_list, isi_str_list, isi_tuple_list, isi_list_list, isi_dict_list, isi_NoneType_dict, isi_bool_dict, isi_int_dict, isi_str_dict, isi_tuple_dict, isi_list_dict, isi_dict_dict, -dFor, -dRng2, e2, n1]
theorem er_perm {α : Type} : ∀ (l : List α) (i : Nat) (r : α), l[i]? = some r → (r :: l.eraseIdx i).Perm l
  | [], _, _, h => by simp at h
  | a :: l, 0, r, h => by cases h; exact .refl _
  | a :: l, i + 1, r, h => by
    rw [List.eraseIdx_cons_succ]
    exact (List.Perm.swap a r _).trans ((er_perm l i r (by simpa using h)).cons a)
theorem er_map {α β : Type} (f : α → β) : ∀ (l : List α) (i : Nat), (l.map f).eraseIdx i = (l.eraseIdx i).map f
  | [], _ => rfl
  | a :: l, 0 => rfl
  | a :: l, i + 1 => by rw [List.map_cons, List.eraseIdx_cons_succ, List.eraseIdx_cons_succ, List.map_cons, er_map f l i]
theorem s_order {n : Nat} (hn : n ≤ 1000) (x : Int) (hx : 0 ≤ x) : ∃ (v : O) (f : Mini.Env), F__law_order [.int x, .int (n : Int)] = some (v, f) ∧ ∃ P : List Nat, v = .lst true (P.map natO) ∧ P.Perm (List.range n) := by
  unfold F__law_order
  apply def_wpE (R := fun v => ∃ P : List Nat, v = .lst true (P.map natO) ∧ P.Perm (List.range n)) rfl
  · array_get_dec
  repeat decreasing_trivial_pre_omega
  refine wl_rng0 (fun k ρ => ∃ (x' : Int) (R P : List Nat) (a4 : Option O), 0 ≤ x' ∧ R.length + k = n ∧ (R ++ P).Perm (List.range n) ∧ ρ = [some (.int x'), some (.int (n : Int)), some (.lst true (R.map natO)), some (.lst true (P.map natO)), a4]) ?_ ?_ ?_
  · exact ⟨x, List.range n, [], none, hx, by simp, by simp, by rw [rngs_nat]; rfl⟩
  · rintro k ρ hk ⟨x', R, P, a4, hx', hR, hp, rfl⟩
    have hl : (R ++ P).length = n := by rw [hp.length_eq, List.length_range]
    rw [List.length_append] at hl
    obtain ⟨i, hi, hi2⟩ : ∃ i : Nat, x' % (R.length : Int) = (i : Int) ∧ i < R.length := ⟨(x' % (R.length : Int)).toNat, by
      have := Int.emod_nonneg x' (show (R.length : Int) ≠ 0 by omega); omega, by
      have := Int.emod_lt_of_pos x' (show (0 : Int) < (R.length : Int) by omega); have := Int.emod_nonneg x' (show (R.length : Int) ≠ 0 by omega); omega⟩
    obtain ⟨r, hr⟩ : ∃ r, R[i]? = some r := ⟨_, List.getElem?_eq_getElem hi2⟩
    refine ⟨_, by array_get_dec, ?_⟩
    unfold Bd__law_order_1
    decreasing_trivial_pre_omega
    refine wp_appPop (kk := i) rfl rfl ?_ isfzs_nat (by omega) (by simp; omega) (by decide) (ev_ge_map hr) (by array_get_dec) (by array_get_dec) ?_
    · have lm : ((R.map natO).length : Int) = (R.length : Int) := by rw [List.length_map]
      refine ev_bin (ev_bind rfl (oInt_i _)) (ev_bind rfl (len_l _ _)) ?_
      rw [lm, ev_mod (by omega), hi]
    decreasing_trivial_pre_omega
    refine wp_asg (dg := gSet 0) (o := .int (x' / (((R.eraseIdx i).length : Nat) + 1 : Int))) ?_ (by array_get_dec) ?_
    · refine ev_bin rfl (ev_bin (ev_bind rfl (len_l _ _)) rfl (oAdd_i _ _)) ?_
      have lm : (((R.map natO).eraseIdx i).length : Int) = ((R.eraseIdx i).length : Int) := by rw [List.length_eraseIdx, List.length_eraseIdx, List.length_map]
      rw [lm, ev_div (by have := List.length_eraseIdx_of_lt hi2; omega)]
    refine lp_nx ⟨x' / (((R.eraseIdx i).length : Nat) + 1 : Int), R.eraseIdx i, P ++ [r], _, Int.ediv_nonneg hx' (by omega), by have := List.length_eraseIdx_of_lt hi2; omega, ?_, by rw [er_map, List.map_append]; rfl⟩
    have q : (R.eraseIdx i ++ (P ++ [r])).Perm (R ++ P) := by
      refine List.Perm.trans ?_ ((er_perm R i r hr).append_right P)
      rw [← List.append_assoc]
      exact List.perm_append_singleton _ _
    exact q.trans hp
  · rintro ρ ⟨x', R, P, a4, hx', hR, hp, rfl⟩
    have : R = [] := List.eq_nil_of_length_eq_zero (by omega)
    subst this
    repeat decreasing_trivial_pre_omega
    exact ⟨P, rfl, hp⟩
structure LInv (n : Nat) (P H : List Nat) : Prop where
  lp : P.length = n
  lh : H.length = n
  ph : ∀ q p : Nat, P[q]? = some p → H[p]? = some q
  hp : ∀ p q : Nat, H[p]? = some q → P[q]? = some p
abbrev nsL : List Str := [PySem.Str.ofString "_places", PySem.Str.ofString "_holders"]
abbrev lay (w : Bool) (P H : List Nat) : O := .ins w 2 nsL [.lst w (P.map natO), .lst w (H.map natO)]
def sw (a b x : Nat) : Nat := if x = a then b else if x = b then a else x
theorem LInv.at {n : Nat} {P H : List Nat} (h : LInv n P H) {a : Nat} (ha : a < n) : ∃ f, f < n ∧ H[a]? = some f ∧ P[f]? = some a := by
  obtain ⟨f, hf⟩ : ∃ f, H[a]? = some f := ⟨_, List.getElem?_eq_getElem (by rw [h.lh]; exact ha)⟩
  have := h.hp a f hf
  exact ⟨f, by have := (List.getElem?_eq_some_iff.mp this).1; rw [h.lp] at this; exact this, hf, this⟩
theorem LInv.swap {n : Nat} {P H : List Nat} (h : LInv n P H) {a b f s : Nat} (hab : a ≠ b) (ha : a < n) (hb : b < n) (hf : f < n) (hs : s < n) (h1 : H[a]? = some f) (h2 : P[f]? = some a) (h3 : H[b]? = some s) (h4 : P[s]? = some b) :
    LInv n ((P.set s a).set f b) ((H.set a s).set b f) ∧ (P.set s a).set f b = P.map (sw a b) := by
  have fs : f ≠ s := fun e => by subst e; rw [h2] at h4; cases h4; exact hab rfl
  have pg : ∀ q : Nat, ((P.set s a).set f b)[q]? = if q = f then some b else if q = s then some a else P[q]? := fun q => by
    rw [List.getElem?_set, List.getElem?_set]
    by_cases e1 : f = q
    · subst e1; rw [if_pos rfl, if_pos (by rw [List.length_set, h.lp]; exact hf), if_pos rfl]
    · rw [if_neg e1, if_neg (show ¬ q = f from fun z => e1 z.symm)]
      by_cases e2 : s = q
      · subst e2; rw [if_pos rfl, if_pos (by rw [h.lp]; exact hs), if_pos rfl]
      · rw [if_neg e2, if_neg (show ¬ q = s from fun z => e2 z.symm)]
  have hg : ∀ q : Nat, ((H.set a s).set b f)[q]? = if q = b then some f else if q = a then some s else H[q]? := fun q => by
    rw [List.getElem?_set, List.getElem?_set]
    by_cases e1 : b = q
    · subst e1; rw [if_pos rfl, if_pos (by rw [List.length_set, h.lh]; exact hb), if_pos rfl]
    · rw [if_neg e1, if_neg (show ¬ q = b from fun z => e1 z.symm)]
      by_cases e2 : a = q
      · subst e2; rw [if_pos rfl, if_pos (by rw [h.lh]; exact ha), if_pos rfl]
      · rw [if_neg e2, if_neg (show ¬ q = a from fun z => e2 z.symm)]
  refine ⟨⟨by simp [h.lp], by simp [h.lh], fun q p e => ?_, fun p q e => ?_⟩, ?_⟩
  · rw [pg] at e
    rw [hg]
    by_cases e1 : q = f
    · subst e1; rw [if_pos rfl] at e; cases e; rw [if_pos rfl]
    · rw [if_neg e1] at e
      by_cases e2 : q = s
      · subst e2; rw [if_pos rfl] at e; cases e; rw [if_neg hab, if_pos rfl]
      · rw [if_neg e2] at e
        have := h.ph q p e
        have n1 : p ≠ b := fun z => by subst z; rw [h3] at this; cases this; exact e2 rfl
        have n2 : p ≠ a := fun z => by subst z; rw [h1] at this; cases this; exact e1 rfl
        rw [if_neg n1, if_neg n2]; exact this
  · rw [hg] at e
    rw [pg]
    by_cases e1 : p = b
    · subst e1; rw [if_pos rfl] at e; cases e; rw [if_pos rfl]
    · rw [if_neg e1] at e
      by_cases e2 : p = a
      · subst e2; rw [if_pos rfl] at e; cases e; rw [if_neg (fun z => fs z.symm), if_pos rfl]
      · rw [if_neg e2] at e
        have := h.hp p q e
        have n1 : q ≠ f := fun z => by subst z; rw [h2] at this; cases this; exact e2 rfl
        have n2 : q ≠ s := fun z => by subst z; rw [h4] at this; cases this; exact e1 rfl
        rw [if_neg n1, if_neg n2]; exact this
  · refine List.ext_getElem? fun q => ?_
    rw [pg, List.getElem?_map]
    by_cases e1 : q = f
    · subst e1; rw [if_pos rfl, h2]; simp [sw]
    · rw [if_neg e1]
      by_cases e2 : q = s
      · subst e2; rw [if_pos rfl, h4]; show some a = some (if b = a then b else if b = b then a else b); rw [if_neg (fun z => hab z.symm), if_pos rfl]
      · rw [if_neg e2]
        cases e : P[q]? with
        | none => rfl
        | some p =>
          have := h.ph q p e
          have n1 : p ≠ b := fun z => by subst z; rw [h3] at this; cases this; exact e2 rfl
          have n2 : p ≠ a := fun z => by subst z; rw [h1] at this; cases this; exact e1 rfl
          simp [sw, n1, n2]
theorem s_lswap {n : Nat} {P H : List Nat} (h : LInv n P H) {a b : Nat} (hab : a ≠ b) (ha : a < n) (hb : b < n) : ∃ (v : O) (f : Mini.Env), F_Layout__swap [lay true P H, .int (a : Int), .int (b : Int)] = some (v, f) ∧ v = .non ∧ ∃ P' H', look f 0 = some (lay true P' H') ∧ LInv n P' H' ∧ P' = P.map (sw a b) := by
  obtain ⟨f, hf, h1, h2⟩ := h.at ha
  obtain ⟨s, hs, h3, h4⟩ := h.at hb
  obtain ⟨k1, k2⟩ := h.swap hab ha hb hf hs h1 h2 h3 h4
  have lp := h.lp
  have lh := h.lh
  unfold F_Layout__swap
  apply def_wpF (R := fun v f => v = .non ∧ ∃ P' H', look f 0 = some (lay true P' H') ∧ LInv n P' H' ∧ P' = P.map (sw a b)) rfl
  · array_get_dec
  repeat decreasing_trivial_pre_omega
  refine ⟨rfl, (P.set s a).set f b, (H.set a s).set b f, ?_, k1, k2⟩
  show _ = some (O.ins true 2 nsL [.lst true (((P.set s a).set f b).map natO), .lst true (((H.set a s).set b f).map natO)])
  simp only [List.map_set]
  rfl
theorem s_lorder (w : Bool) (P H : List Nat) : ∃ f, F_Layout__order [lay w P H] = some (.lst true (P.map natO), f) := by
  unfold F_Layout__order
  apply def_wp rfl
  · array_get_dec
  repeat decreasing_trivial_pre_omega
theorem s_linit_er {L : List Int} (hn : L.length ≤ 1000) (b : Bool) (h : srtI L ≠ castL (List.range L.length)) : ∃ f, F_Layout__init [.ins true 2 [] [], .lst b (L.map O.int)] = some (.er 1 f) := by
  have e2 : oLstRg (.int ((L.map O.int).length : Int)) = some (.lst true ((castL (List.range L.length)).map O.int)) := by
    rw [ev_lstRg (by rw [List.length_map]; omega), rngs_nat, List.length_map, cast_int]
  unfold F_Layout__init
  apply defX_er rfl
  · array_get_dec
  repeat decreasing_trivial_pre_omega
  apply wp_ift
  · refine ev_tru (ev_bin (ev_bind rfl ev_sort) (ev_bind (ev_bind rfl (len_l _ _)) e2) (EqC.oNeL EqC.int (by decide) _ _ _ _)) ?_
    rw [decide_eq_false h]; rfl
  repeat decreasing_trivial_pre_omega
theorem s_linit {P : List Nat} {n : Nat} (hp : P.Perm (List.range n)) (hn : n ≤ 1000) (b : Bool) : ∃ (v : O) (f : Mini.Env), F_Layout__init [.ins true 2 [] [], .lst b (P.map natO)] = some (.ok v f) ∧ v = .non ∧ ∃ H, look f 0 = some (lay true P H) ∧ LInv n P H := by
  have hl : P.length = n := by rw [hp.length_eq, List.length_range]
  have nd : P.Nodup := hp.nodup_iff.mpr List.nodup_range
  have e2 : oLstRg (.int ((P.map natO).length : Int)) = some (.lst true ((castL (List.range n)).map O.int)) := by
    rw [ev_lstRg (by rw [List.length_map]; omega), rngs_nat, List.length_map, hl, cast_int]
  have e1 : oSort (.lst b (P.map natO)) = some (.lst true ((castL (List.range n)).map O.int)) := by
    rw [← cast_int, ev_sort, srt_of_perm hp]
  unfold F_Layout__init
  apply defX_wpF (R := fun v f => v = .non ∧ ∃ H, look f 0 = some (lay true P H) ∧ LInv n P H) rfl
  · array_get_dec
  repeat decreasing_trivial_pre_omega
  apply wp_iff
  · refine ev_tru (ev_bin (ev_bind rfl e1) (ev_bind (ev_bind rfl (len_l _ _)) e2) (EqC.oNeL EqC.int (by decide) _ _ _ _)) ?_
    rw [decide_eq_true rfl]; rfl
  repeat decreasing_trivial_pre_omega
  refine wl_inv (fun k ρ => ∃ (H : List Nat) (a2 a3 : Option O), H.length = n ∧ (∀ q p : Nat, q < k → P[q]? = some p → H[p]? = some q) ∧ ρ = [some (lay true P H), some (.lst false (P.map natO)), a2, a3]) _ 0 _ ?_ ?_ ?_
  · exact ⟨P, none, none, hl, fun q p h => by omega, rfl⟩
  · rintro j o ρ ho ⟨H, a2, a3, hH, hi, rfl⟩
    obtain ⟨x, hx, rfl⟩ := enum_at ho
    rw [List.getElem?_map] at hx
    obtain ⟨p, hp', rfl⟩ := Option.map_eq_some_iff.mp hx
    rw [Nat.zero_add] at hi ⊢
    have hpn : p < n := List.mem_range.mp (hp.mem_iff.mp (List.mem_of_getElem? hp'))
    refine ⟨_, by array_get_dec, ?_⟩
    unfold Bd_Layout__init_1
    repeat decreasing_trivial_pre_omega
    refine lp_nx ⟨H.set p j, _, _, by rw [List.length_set]; exact hH, fun q p' hq e => ?_, by rw [set_nat]⟩
    rw [List.getElem?_set]
    by_cases e1 : p = p'
    · subst e1
      rw [if_pos rfl, if_pos (by omega)]
      congr 1
      have i1 := List.getElem?_eq_some_iff.mp hp'
      have i2 := List.getElem?_eq_some_iff.mp e
      exact (List.getElem_inj nd).mp (i1.2.trans i2.2.symm)
    · rw [if_neg e1]
      refine hi q p' ?_ e
      rcases Nat.lt_succ_iff_lt_or_eq.mp hq with h | h
      · exact h
      · subst h; rw [hp'] at e; cases e; exact absurd rfl e1
  · rintro ρ ⟨H, a2, a3, hH, hi, rfl⟩
    rw [Nat.zero_add, enum_len, List.length_map, hl] at hi
    have hi : ∀ q p : Nat, P[q]? = some p → H[p]? = some q := fun q p e => hi q p (by rw [← hl]; exact (List.getElem?_eq_some_iff.mp e).1) e
    refine ⟨rfl, H, rfl, hl, hH, hi, fun p q e => ?_⟩
    have hpn : p < n := by rw [← hH]; exact (List.getElem?_eq_some_iff.mp e).1
    obtain ⟨q', hq'⟩ := List.mem_iff_getElem?.mp (hp.mem_iff.mpr (List.mem_range.mpr hpn))
    have := hi q' p hq'
    rw [e] at this
    cases this
    exact hq'
theorem s_swapped (w : Bool) {P : List Nat} (a b : Nat) (hl : P.length ≤ 1000) : ∃ f, F__law_swapped [.lst w (P.map natO), .int (a : Int), .int (b : Int)] = some (.lst true ((P.map (sw a b)).map natO), f) := by
  unfold F__law_swapped
  apply def_wp rfl
  · array_get_dec
  repeat decreasing_trivial_pre_omega
  refine wl_map (fun d ρ => ∃ a4, d.length ≤ P.length ∧ ρ = [some (.lst false (P.map natO)), some (.int (a : Int)), some (.int (b : Int)), some (.lst true ((d.map (sw a b)).map natO)), a4]) natO P [] _ ?_ ?_ ?_
  · exact ⟨none, by simp, rfl⟩
  · rintro d x r ρ e ⟨a4, hd, rfl⟩
    have hdl : d.length + 1 ≤ P.length := by
      have := congrArg List.length e
      simp at this
      omega
    refine ⟨_, by array_get_dec, ?_⟩
    unfold Bd__law_swapped_1
    have fin : ∀ y, sw a b x = y → Lp (Sq (Ends (O.lst true ((P.map (sw a b)).map natO))) (dRetMv 3)) (fun ρ => ∃ a4, (d ++ [x]).length ≤ P.length ∧ ρ = [some (.lst false (P.map natO)), some (.int (a : Int)), some (.int (b : Int)), some (.lst true (((d ++ [x]).map (sw a b)).map natO)), a4]) (.nx [some (.lst false (P.map natO)), some (.int (a : Int)), some (.int (b : Int)), some (.lst true ((d.map (sw a b)).map natO ++ [natO y])), some (natO x)]) := fun y hy => by
      refine lp_nx ⟨some (natO x), by simp; omega, ?_⟩
      rw [List.map_append, List.map_append, ← hy]
      rfl
    apply wp_if
    · array_get_dec
    · intro h
      have h := of_decide_eq_true h
      repeat decreasing_trivial_pre_omega
      exact fin b (by rw [show x = a by omega]; simp [sw])
    · intro h
      have h := of_decide_eq_false h
      apply wp_if
      · array_get_dec
      · intro h2
        have h2 := of_decide_eq_true h2
        repeat decreasing_trivial_pre_omega
        exact fin a (by unfold sw; rw [if_neg (by omega), if_pos (by omega)])
      · intro h2
        have h2 := of_decide_eq_false h2
        repeat decreasing_trivial_pre_omega
        exact fin x (by unfold sw; rw [if_neg (by omega), if_neg (by omega)])
  · rintro ρ ⟨a4, hd, rfl⟩
    repeat decreasing_trivial_pre_omega
theorem s_isint (i : Int) : ∃ f, F__law_is_integer [.int i] = some (.bl true, f) := by
  unfold F__law_is_integer
  apply def_wp rfl
  · array_get_dec
  repeat decreasing_trivial_pre_omega
theorem s_place (w : Bool) {P H : List Nat} {q p : Nat} (h : P[q]? = some p) : ∃ f, F_Layout__place_of [lay w P H, .int (q : Int)] = some (.int (p : Int), f) := by
  unfold F_Layout__place_of
  apply def_wp rfl
  · array_get_dec
  repeat decreasing_trivial_pre_omega
theorem s_holder (w : Bool) {P H : List Nat} {q p : Nat} (h : H[q]? = some p) : ∃ f, F_Layout__holder_of [lay w P H, .int (q : Int)] = some (.int (p : Int), f) := by
  unfold F_Layout__holder_of
  apply def_wp rfl
  · array_get_dec
  repeat decreasing_trivial_pre_omega
theorem s_law1 {n : Nat} (hn : n ≤ 1000) (h0 : 0 < n) {P H : List Nat} (h : LInv n P H) (m : Nat) (Q : Mini.Out → Prop) (J : Mini.Env → Prop) (a0 a1 a4 a5 a7 a8 a9 a11 a12 a13 a14 a15 : Option O)
    (hJ : ∀ P' H' b12 b13, LInv n P' H' → J [a0, a1, some (.int (n : Int)), some (.lst true (P'.map natO)), a4, a5, some (.int (m : Int)), a7, a8, a9, some (lay true P' H'), a11, b12, b13, a14, a15]) :
    Wp (Lp Q J) (Bd_law_1 [a0, a1, some (.int (n : Int)), some (.lst true (P.map natO)), a4, a5, some (.int (m : Int)), a7, a8, a9, some (lay true P H), a11, a12, a13, a14, a15]) := by
  obtain ⟨a, ea, ha⟩ : ∃ a : Nat, (m : Int) % (n : Int) = (a : Int) ∧ a < n := ⟨m % n, by omega, Nat.mod_lt _ h0⟩
  obtain ⟨b, eb, hb⟩ : ∃ b : Nat, (m : Int) / 8 % (n : Int) = (b : Int) ∧ b < n := ⟨m / 8 % n, by rw [show (m : Int) / 8 = ((m / 8 : Nat) : Int) by omega]; rfl, Nat.mod_lt _ h0⟩
  have hl : P.length ≤ 1000 := by rw [h.lp]; exact hn
  unfold Bd_law_1
  repeat decreasing_trivial_pre_omega
  rw [ea]
  repeat decreasing_trivial_pre_omega
  rw [eb]
  apply wp_if
  · array_get_dec
  · intro hab
    simp at hab
    obtain ⟨f, sw1⟩ := s_swapped false a b hl
    obtain ⟨v, f2, e2, rfl, P', H', lk, inv, rfl⟩ := s_lswap h (a := a) (b := b) (by omega) ha hb
    obtain ⟨f3, e3⟩ := s_lorder false (P.map (sw a b)) H'
    repeat decreasing_trivial_pre_omega
    apply wp_iff2
    · array_get_dec
    · simp
    repeat decreasing_trivial_pre_omega
    exact lp_nx (hJ _ _ _ _ inv)
  · intro hab
    repeat decreasing_trivial_pre_omega
    exact lp_nx (hJ _ _ _ _ h)
theorem s_law2 {n : Nat} {P H : List Nat} (h : LInv n P H) {q : Nat} (hq : q < n) (Q : Mini.Out → Prop) (J : Mini.Env → Prop) (a0 a1 a2 a4 a5 a6 a7 a8 a11 a12 a13 a14 a15 : Option O)
    (hJ : ∀ b14 b15, J [a0, a1, a2, some (.lst true (P.map natO)), a4, a5, a6, a7, a8, some (.int (q : Int)), some (lay true P H), a11, a12, a13, b14, b15]) :
    Wp (Lp Q J) (Bd_law_2 [a0, a1, a2, some (.lst true (P.map natO)), a4, a5, a6, a7, a8, some (.int (q : Int)), some (lay true P H), a11, a12, a13, a14, a15]) := by
  obtain ⟨p, hp⟩ : ∃ p, P[q]? = some p := ⟨_, List.getElem?_eq_getElem (by rw [h.lp]; exact hq)⟩
  have hh := h.ph q p hp
  obtain ⟨f1, e1⟩ := s_place false (H := H) hp
  obtain ⟨f2, e2⟩ := s_holder false (P := P) hh
  obtain ⟨f3, e3⟩ := s_isint (p : Int)
  obtain ⟨f4, e4⟩ := s_isint (q : Int)
  unfold Bd_law_2
  repeat decreasing_trivial_pre_omega
  apply wp_iff2
  · array_get_dec
  · simp
  repeat decreasing_trivial_pre_omega
  exact lp_nx (hJ _ _)
theorem main (ns : List Int) (hl : ns.length ≤ 63) (hb : ∀ z ∈ ns, Builtin.Int.intBits z ≤ 1048576) : ∃ fin, F_law [O.lst false (ns.map O.int)] = some (.bl true, fin) := by
  have c0 : F__law_cell [O.lst false (ns.map .int), .int 0] = _ := law_cell ns 0
  have c1 : F__law_cell [O.lst false (ns.map .int), .int 1] = _ := law_cell ns 1
  obtain ⟨n, hn, n0, n8⟩ : ∃ n : Nat, 1 + ((cell ns 0).natAbs : Int) % 8 = (n : Int) ∧ 0 < n ∧ n ≤ 8 := ⟨(1 + ((cell ns 0).natAbs : Int) % 8).toNat, by omega, by omega, by omega⟩
  obtain ⟨v, f, eo, P, rfl, hp⟩ := s_order (n := n) (by omega) ((cell ns 1).natAbs : Int) (by omega)
  obtain ⟨ms, hm, en⟩ := s_numbers 40 (by decide) 2 (by decide) ns hl
  have en : F__law_numbers [O.lst false (ns.map O.int), .int 2, .int 40] = some (.lst true (ms.map natO), [none, none, none]) := en
  have hpl : P.length = n := by rw [hp.length_eq, List.length_range]
  unfold F_law
  apply def_wp rfl
  · array_get_dec
  repeat decreasing_trivial_pre_omega
  rw [hn]
  repeat decreasing_trivial_pre_omega
  refine wp_cut (fun ρ => ∃ L : List Int, L.length = n ∧ ρ = [some (.lst false (ns.map O.int)), some (.int ((cell ns 0).natAbs : Int)), some (.int (n : Int)), some (.lst true (L.map O.int)), none, none, none, none, none, none, none, none, none, none, none, none]) ?_ ?_
  · apply wp_if
    · array_get_dec
    · intro h
      obtain ⟨k, ek, hk⟩ : ∃ k : Nat, ((cell ns 0).natAbs : Int) / 32 % (n : Int) = (k : Int) ∧ k < n := ⟨(cell ns 0).natAbs / 32 % n, by rw [show ((cell ns 0).natAbs : Int) / 32 = (((cell ns 0).natAbs / 32 : Nat) : Int) by omega]; rfl, Nat.mod_lt _ n0⟩
      apply wp_setI (j := k)
      · array_get_dec
      · rfl
      · array_get_dec
      · rw [ek]; exact ev_ixN (by rw [List.length_map, hpl]; exact hk)
      · array_get_dec
      refine ct_nx ⟨(castL P).set k (((cell ns 0).natAbs : Int) / 256 % 12 - 2), by rw [List.length_set]; unfold castL; rw [List.length_map, hpl], ?_⟩
      rw [List.map_set, cast_int]
    · intro h
      repeat decreasing_trivial_pre_omega
      refine ct_nx ⟨castL P, by unfold castL; rw [List.length_map, hpl], ?_⟩
      rw [cast_int]
  rintro ρ ⟨L, hL, rfl⟩
  have lr : oLstRg (.int (n : Int)) = some (.lst true ((castL (List.range n)).map O.int)) := by
    rw [ev_lstRg (by omega), rngs_nat, cast_int]
  repeat decreasing_trivial_pre_omega
  by_cases hv : srtI L = castL (List.range n)
  · rw [decide_eq_true hv]
    obtain ⟨P', rfl, hp'⟩ := perm_of_srt hv
    have hl' : P'.length = n := by rw [hp'.length_eq, List.length_range]
    rw [cast_int]
    obtain ⟨v, f, ei, rfl, H, lk, inv⟩ := s_linit hp' (by omega) false
    apply wp_try
    apply wp_asgR
    · array_get_dec
    · array_get_dec
    repeat decreasing_trivial_pre_omega
    apply wp_iff2
    · array_get_dec
    · simp
    repeat decreasing_trivial_pre_omega
    refine wl_map (fun _ ρ => ∃ (P H : List Nat) (a6 a12 a13 : Option O), LInv n P H ∧ ρ = [some (.lst false (ns.map O.int)), some (.int ((cell ns 0).natAbs : Int)), some (.int (n : Int)), some (.lst true (P.map natO)), some (.bl true), some (.lst true ((P'.map natO).set 0 (.int (-7)))), a6, none, none, none, some (lay true P H), none, a12, a13, none, none]) natO ms [] _ ?_ ?_ ?_
    · exact ⟨P', H, none, none, none, inv, rfl⟩
    · rintro d m r ρ e ⟨P, H, a6, a12, a13, inv, rfl⟩
      refine ⟨_, by array_get_dec, ?_⟩
      exact s_law1 (by omega) n0 inv m _ _ _ _ _ _ _ _ _ _ _ _ _ _ fun P' H' b12 b13 inv' => ⟨P', H', _, _, _, inv', rfl⟩
    · rintro ρ ⟨P, H, a6, a12, a13, inv, rfl⟩
      obtain ⟨f3, e3⟩ := s_lorder false P H
      have lpP := inv.lp
      repeat decreasing_trivial_pre_omega
      apply wp_iff2
      · array_get_dec
      · simp
      repeat decreasing_trivial_pre_omega
      refine wl_rng0 (fun _ ρ => ∃ (a9 a14 a15 : Option O), ρ = [some (.lst false (ns.map O.int)), some (.int ((cell ns 0).natAbs : Int)), some (.int (n : Int)), some (.lst true (P.map natO)), some (.bl true), some (.lst true ((P'.map natO).set 0 (.int (-7)))), a6, some (.lst true (P.map natO ++ [.int (-7)])), some (.lst true (P.map natO)), a9, some (lay true P H), none, a12, a13, a14, a15]) ?_ ?_ ?_
      · exact ⟨none, none, none, rfl⟩
      · rintro q ρ hq ⟨a9, a14, a15, rfl⟩
        refine ⟨_, by array_get_dec, ?_⟩
        exact s_law2 inv hq _ _ _ _ _ _ _ _ _ _ _ _ _ _ _ fun b14 b15 => ⟨_, _, _, rfl⟩
      · rintro ρ ⟨a9, a14, a15, rfl⟩
        repeat decreasing_trivial_pre_omega
  · rw [decide_eq_false hv]
    obtain ⟨f, ei⟩ := s_linit_er (L := L) (by omega) false (by rw [hL]; exact hv)
    apply wp_try
    apply wp_asgRe (c := 1)
    · apply ev_makeRe
      · array_get_dec
      · array_get_dec
      · exact ei
    refine tq_rt (v := .bl true) rfl (by simp) rfl (fun a => ?_) ?_
    · refine (ret_eq (o := .bl (subE 1 1 && !false)) ?_).trans rfl
      array_get_dec
    · repeat decreasing_trivial_pre_omega
end K77
open PySem PySem.W PyProof.Rows
set_option maxHeartbeats 0 in
theorem PySem.Challenge.cw_phasor_k77_layouts_holds : PySem.Challenge.rw_phasor_k77_layouts.Holds := by
  w_on; o_law; k_head; (case hw => w_witness2)
  k_fill
  refine L2.walk_ofB (l := PySem.Challenge.rw_phasor_k77_layouts) (n := 63) (k := 3) (x := "script") (CX := fun _ => L2.CX0) (sp := fun w => Mini.spLaw _) rfl (by decide) rfl ⟨rfl, by decide, by decide⟩ (fun w h Y => PySem.W.kIn_of Y) ?F (fun _ _ a ns hl hb _ hS => ⟨a, ns, rfl, hl, hb, hS, fun _ => rfl⟩) (fun _ _ _ _ _ h => h)
  case F =>
    intro w mg fa h KX G hmg
    refine' K77.all_mk KX G hmg ?xa_Layout ?a0 ?l0 ?c0 ?k0 ?a1 ?l1 ?c1 ?k1 ?a2 ?af2 ?l2 ?c2 ?k2 ?a3 ?l3 ?c3 ?k3 ?a4 ?l4 ?c4 ?k4 ?a5 ?af5 ?l5 ?c5 ?k5 ?ap6 ?a6 ?ag6 ?at6 ?l6 ?c6 ?k6 ?a7 ?af7 ?l7 ?c7 ?k7 ?a8 ?af8 ?l8 ?c8 ?k8 ?a9 ?l9 ?c9 ?k9 ?a10 ?l10 ?c10 ?k10 ?y1_Layout ?y2_Layout ?y3_Layout ?y4_Layout ?y5_Layout ?y6_Layout ?w_Layout__places ?w_Layout__holders ?z_len ?z_list ?z_range ?z_int ?z_sorted ?z_enumerate ?z_abs ?z_isinstance ?z_bool ?xa_PhasorError ?xe_PhasorError ?xk_PhasorError ?xs_PhasorError ?xt_PhasorError ?xg_PhasorError ?xh_PhasorError ?xd_PhasorError ?xc_PhasorError ?xm_PhasorError ?xz_PhasorError_PhasorError ?xz_PhasorError_SizeMismatch ?xa_SizeMismatch ?xe_SizeMismatch ?xk_SizeMismatch ?xs_SizeMismatch ?xt_SizeMismatch ?xg_SizeMismatch ?xh_SizeMismatch ?xd_SizeMismatch ?xc_SizeMismatch ?xm_SizeMismatch ?xz_SizeMismatch_PhasorError ?xz_SizeMismatch_SizeMismatch ?xo1 ?xo2 K77.main
    (case xa_Layout => k_is)
    (case xa_PhasorError => k_is)
    (case xa_SizeMismatch => k_is)
    (case a0 => k_is)
    (case l0 => k_is)
    (case c0 => k_is)
    (case k0 => k_is)
    (case a1 => k_is)
    (case l1 => k_is)
    (case c1 => k_is)
    (case k1 => k_is)
    (case a2 => k_is)
    (case af2 => k_is)
    (case l2 => k_is)
    (case c2 => k_is)
    (case k2 => k_is)
    (case a3 => k_is)
    (case l3 => k_is)
    (case c3 => k_is)
    (case k3 => k_is)
    (case a4 => k_is)
    (case l4 => k_is)
    (case c4 => k_is)
    (case k4 => k_is)
    (case a5 => k_is)
    (case af5 => k_is)
    (case l5 => k_is)
    (case c5 => k_is)
    (case k5 => k_is)
    (case ap6 => k_is)
    (case a6 => k_is)
    (case ag6 => k_is)
    (case at6 => k_is)
    (case l6 => k_is)
    (case c6 => k_is)
    (case k6 => k_is)
    (case a7 => k_is)
    (case af7 => k_is)
    (case l7 => k_is)
    (case c7 => k_is)
    (case k7 => k_is)
    (case a8 => k_is)
    (case af8 => k_is)
    (case l8 => k_is)
    (case c8 => k_is)
    (case k8 => k_is)
    (case a9 => k_is)
    (case l9 => k_is)
    (case c9 => k_is)
    (case k9 => k_is)
    (case a10 => k_is)
    (case l10 => k_is)
    (case c10 => k_is)
    (case k10 => k_is)
    (case y1_Layout => k_is)
    (case y2_Layout => k_is)
    (case y3_Layout => k_is)
    (case y4_Layout => k_is)
    (case y5_Layout => k_is)
    (case y6_Layout => k_is)
    (case w_Layout__places => k_is)
    (case w_Layout__holders => k_is)
    (case z_len => k_is)
    (case z_list => k_is)
    (case z_range => k_is)
    (case z_int => k_is)
    (case z_sorted => k_is)
    (case z_enumerate => k_is)
    (case z_abs => k_is)
    (case z_isinstance => k_is)
    (case z_bool => k_is)
    (case xe_PhasorError => k_exc)
    (case xk_PhasorError => k_is)
    (case xs_PhasorError => k_is)
    (case xt_PhasorError => k_is)
    (case xg_PhasorError => k_is)
    (case xh_PhasorError => k_is)
    (case xd_PhasorError => k_is)
    (case xc_PhasorError => k_is)
    (case xm_PhasorError => k_is)
    (case xz_PhasorError_PhasorError => k_is)
    (case xz_PhasorError_SizeMismatch => k_is)
    (case xe_SizeMismatch => k_exc)
    (case xk_SizeMismatch => k_is)
    (case xs_SizeMismatch => k_is)
    (case xt_SizeMismatch => k_is)
    (case xg_SizeMismatch => k_is)
    (case xh_SizeMismatch => k_is)
    (case xd_SizeMismatch => k_is)
    (case xc_SizeMismatch => k_is)
    (case xm_SizeMismatch => k_is)
    (case xz_SizeMismatch_PhasorError => k_is)
    (case xz_SizeMismatch_SizeMismatch => k_is)
    (case xo1 => k_is)
    (case xo2 => k_is)
