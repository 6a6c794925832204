import PyProof.Rows.All
import Wide.All
import OpenK.AllK
import Wide.FinOn
import HandS.ForMost
import HandS.ForExc
import HandS.IsInst
import HandS.EndBits
import HandS.ExcIs
import HandS.WideBits
import PyProof.Rows.BitMore
import HandS.Dict
import HandS.More
import PyProof.Rows.SeqMore
import PyProof.Rows.ListMulArg
import PyProof.Rows.StrIntSpec
import HandS.FStr
import HandS.SetFor
import HandS.TupAny
import PyProof.WalkInts
import PyProof.SeqI3
import PyProof.SumWalkG
import PyProof.Rows.TupIter
import HandS.SortKw
import HandS.Property
import HandS.Rev
import HandS.Zip
import HandS.RevRange
import HandS.Flow
import HandS.SortInts
import HandS.Conv
import HandS.NoneIn
import PyProof.CollectIter
import KE.KUnpack
import HandS.SetBool
import HandS.Strs
import HandS.Comp
import KE.DataMinKey
import KE.LtSeq
import HandS.EndOwn
import HandS.Lambda
import HandS.EndTab
import PySem.Challenge.RW_phasor_k05_ring_division
set_option Elab.async false
set_option linter.all false
set_option maxRecDepth 100000
namespace Mini
open PySem PySem.Spec PyProof.Rows L2
/-- the tables of code objects that lambdas write -/
class TabsI where
  T : List (Addr × Str)
/-- a value as data: w tells that the node is owned (it may be written), otherwise it is never written again -/
inductive O where
  | non | bl (b : Bool) | int (i : Int) | str (s : Str)
  | tup (os : List O)
  | lst (w : Bool) (os : List O)
  | dct (w : Bool) (ks : List Key) (os : List O)
  | ins (w : Bool) (c : Nat) (ns : List Str) (os : List O)
  | exc (a : Addr)
  /-- known pairs of ints, in a list; the keys of a known dict -/
  | tls (ks : List (Int × Int)) | dt (ks : List (Int × Int))
mutual
def frz : O → O
  | .tup os => .tup (frzs os)
  | .lst _ os => .lst false (frzs os)
  | .dct _ ks os => .dct false ks (frzs os)
  | .ins _ c ns os => .ins false c ns (frzs os)
  | .non => .non
  | .bl b => .bl b
  | .int i => .int i
  | .str s => .str s
  | .exc a => .exc a
  | .tls ks => .tls ks
  | .dt ks => .dt ks
def frzs : List O → List O
  | [] => []
  | o :: os => frz o :: frzs os
end
mutual
def isFz : O → Bool
  | .tup os => isFzs os
  | .lst w os => !w && isFzs os
  | .dct w _ os => !w && isFzs os
  | .ins w _ _ os => !w && isFzs os
  | .non => true
  | .bl _ => true
  | .int _ => true
  | .str _ => true
  | .exc _ => true
  | .tls _ => true
  | .dt _ => true
def isFzs : List O → Bool
  | [] => true
  | o :: os => isFz o && isFzs os
end
/-! no node that is never written again but might be the caller's -/
mutual
def noFm : O → Bool
  | .tup os => noFms os
  | .lst w os => w && noFms os
  | .dct w _ os => w && noFms os
  | .ins w _ _ os => w && noFms os
  | .non => true
  | .bl _ => true
  | .int _ => true
  | .str _ => true
  | .exc _ => true
  | .tls _ => true
  | .dt _ => true
def noFms : List O → Bool
  | [] => true
  | o :: os => noFm o && noFms os
end
abbrev Fp := Addr → Nat
def zf : Fp := fun _ => 0
def bump (a : Addr) (f : Fp) : Fp := fun b => (if b = a then 1 else 0) + f b
mutual
def Rep (K : PySem.W.Frag) (ct : Nat → Addr) (F H : Hp) : O → V → Fp → Prop
  | .non, v, f => v = .non ∧ f = zf
  | .bl b, v, f => v = .bl b ∧ f = zf
  | .int i, v, f => v = .int i ∧ f = zf
  | .str s, v, f => v = .str s ∧ f = zf
  | .exc a, v, f => v = .ref a ∧ f = zf
  | .tls ks, v, f => ∃ (a : Addr) (L : List (Addr × Int × Int)), v = .ref a ∧ ks = L.map (·.2) ∧ (∃ od, F a = some (.frz od (.lst (L.map fun p => V.ref p.1)))) ∧ (∀ p ∈ L, F p.1 = some (.tup [V.int p.2.1, V.int p.2.2])) ∧ f = zf
  | .dt ks, v, f => ∃ (a : Addr) (kvs : List (List Key × V)), v = .ref a ∧ kvs.map (·.1) = ks.map (fun p => [Sum.inl p.1, Sum.inl p.2]) ∧ F a = some (.dT kvs) ∧ f = zf
  | .tup os, v, f => ∃ a xs, v = .ref a ∧ SqT K F a xs ∧ Reps K ct F H os xs f
  | .lst false os, v, f => ∃ a xs, v = .ref a ∧ SqL K F a xs ∧ Reps K ct F H os xs zf ∧ f = zf
  | .lst true os, v, f => ∃ a xs g, v = .ref a ∧ H a = some (.lst xs) ∧ Reps K ct F H os xs g ∧ f = bump a g
  | .dct false ks os, v, f => ∃ a kvs, v = .ref a ∧ Rd F a (.dK kvs) ∧ ks = kvs.map (·.1) ∧ Reps K ct F H os (kvs.map (·.2)) zf ∧ f = zf
  | .dct true ks os, v, f => ∃ a kvs g, v = .ref a ∧ H a = some (.dK kvs) ∧ ks = kvs.map (·.1) ∧ Reps K ct F H os (kvs.map (·.2)) g ∧ f = bump a g
  | .ins false c ns os, v, f => ∃ a dx fs, v = .ref a ∧ F a = some (.ins (ct c) dx fs) ∧ ns = fs.map (·.1) ∧ Reps K ct F H os (fs.map (·.2)) zf ∧ f = zf
  | .ins true c ns os, v, f => ∃ a dx fs g, v = .ref a ∧ H a = some (.ins (ct c) dx fs) ∧ ns = fs.map (·.1) ∧ Reps K ct F H os (fs.map (·.2)) g ∧ f = bump a g
def Reps (K : PySem.W.Frag) (ct : Nat → Addr) (F H : Hp) : List O → List V → Fp → Prop
  | [], vs, f => vs = [] ∧ f = zf
  | o :: os, vs, f => ∃ v vr g h, vs = v :: vr ∧ Rep K ct F H o v g ∧ Reps K ct F H os vr h ∧ f = fun a => g a + h a
end
/-- an owned node -/
def Own (u : HO) : Prop := match u with
  | .lst _ => True
  | .dK _ => True
  | .ins _ _ _ => True
  | _ => False
section
variable {K : PySem.W.Frag} {ct : Nat → Addr} {F F' H H' : Hp}
theorem Same.rd (e : Same H H') {a : Addr} {u : HO} (h : Rd H a u) : Rd H' a u := by
  rcases h with h | ⟨o, h⟩
  · exact .inl (e _ _ h)
  · exact .inr ⟨o, e _ _ h⟩
theorem Same.seqT (e : Same H H') {a : Addr} {xs : List V} (h : SqT K H a xs) : SqT K H' a xs := by
  rcases h with (h | ⟨o, h⟩) | h
  · exact .inl (.inl (e _ _ h))
  · exact .inl (.inr ⟨o, e _ _ h⟩)
  · exact .inr h
mutual
theorem Rep.mono (hF : Same F F') : ∀ {o : O} {v : V} {f : Fp}, (∀ a, f a ≠ 0 → H' a = H a) → Rep K ct F H o v f → Rep K ct F' H' o v f
  | .non, _, _, _, h => h
  | .bl _, _, _, _, h => h
  | .int _, _, _, _, h => h
  | .str _, _, _, _, h => h
  | .exc _, _, _, _, h => h
  | .tls ks, v, f, _, h => by
    obtain ⟨a, L, e, ek, ⟨od, s⟩, hp, ef⟩ := h
    exact ⟨a, L, e, ek, ⟨od, hF _ _ s⟩, fun p hm => hF _ _ (hp p hm), ef⟩
  | .dt ks, v, f, _, h => by
    obtain ⟨a, kvs, e, ek, s, ef⟩ := h
    exact ⟨a, kvs, e, ek, hF _ _ s, ef⟩
  | .tup os, v, f, k, h => by
    obtain ⟨a, xs, e, s, r⟩ := h
    exact ⟨a, xs, e, Same.seqT hF s, Reps.mono hF k r⟩
  | .lst false os, v, f, k, h => by
    obtain ⟨a, xs, e, s, r, ef⟩ := h
    exact ⟨a, xs, e, Same.seq hF s, Reps.mono hF (fun b hb => absurd rfl hb) r, ef⟩
  | .lst true os, v, f, k, h => by
    obtain ⟨a, xs, g, e, s, r, ef⟩ := h
    refine ⟨a, xs, g, e, ?_, Reps.mono hF (fun b hb => k b ?_) r, ef⟩
    · rw [k a (by rw [ef]; simp [bump])]; exact s
    · rw [ef]; show (if b = a then 1 else 0) + g b ≠ 0; omega
  | .dct false ks os, v, f, k, h => by
    obtain ⟨a, kvs, e, s, ek, r, ef⟩ := h
    exact ⟨a, kvs, e, Same.rd hF s, ek, Reps.mono hF (fun b hb => absurd rfl hb) r, ef⟩
  | .dct true ks os, v, f, k, h => by
    obtain ⟨a, kvs, g, e, s, ek, r, ef⟩ := h
    refine ⟨a, kvs, g, e, ?_, ek, Reps.mono hF (fun b hb => k b ?_) r, ef⟩
    · rw [k a (by rw [ef]; simp [bump])]; exact s
    · rw [ef]; show (if b = a then 1 else 0) + g b ≠ 0; omega
  | .ins false c ns os, v, f, k, h => by
    obtain ⟨a, dx, fs, e, s, ek, r, ef⟩ := h
    exact ⟨a, dx, fs, e, hF _ _ s, ek, Reps.mono hF (fun b hb => absurd rfl hb) r, ef⟩
  | .ins true c ns os, v, f, k, h => by
    obtain ⟨a, dx, fs, g, e, s, ek, r, ef⟩ := h
    refine ⟨a, dx, fs, g, e, ?_, ek, Reps.mono hF (fun b hb => k b ?_) r, ef⟩
    · rw [k a (by rw [ef]; simp [bump])]; exact s
    · rw [ef]; show (if b = a then 1 else 0) + g b ≠ 0; omega
theorem Reps.mono (hF : Same F F') : ∀ {os : List O} {vs : List V} {f : Fp}, (∀ a, f a ≠ 0 → H' a = H a) → Reps K ct F H os vs f → Reps K ct F' H' os vs f
  | [], _, _, _, h => h
  | o :: os, vs, f, k, h => by
    obtain ⟨v, vr, g, l, e, r, rs, ef⟩ := h
    refine ⟨v, vr, g, l, e, Rep.mono hF (fun b hb => k b ?_) r, Reps.mono hF (fun b hb => k b ?_) rs, ef⟩
    · rw [ef]; show g b + l b ≠ 0; omega
    · rw [ef]; show g b + l b ≠ 0; omega
end
mutual
theorem Rep.mem : ∀ {o : O} {v : V} {f : Fp}, Rep K ct F H o v f → ∀ a, f a ≠ 0 → ∃ u, H a = some u ∧ Own u
  | .non, _, _, h, a, ha => absurd (by rw [h.2]; rfl) ha
  | .bl _, _, _, h, a, ha => absurd (by rw [h.2]; rfl) ha
  | .int _, _, _, h, a, ha => absurd (by rw [h.2]; rfl) ha
  | .str _, _, _, h, a, ha => absurd (by rw [h.2]; rfl) ha
  | .exc _, _, _, h, a, ha => absurd (by rw [h.2]; rfl) ha
  | .tls ks, v, f, h, a, ha => by
    obtain ⟨_, _, _, _, _, _, ef⟩ := h
    exact absurd (by rw [ef]; rfl) ha
  | .dt ks, v, f, h, a, ha => by
    obtain ⟨_, _, _, _, _, ef⟩ := h
    exact absurd (by rw [ef]; rfl) ha
  | .tup os, v, f, h, a, ha => by
    obtain ⟨a', xs, e, s, r⟩ := h
    exact Reps.mem r a ha
  | .lst false os, v, f, h, a, ha => by
    obtain ⟨a', xs, e, s, r, ef⟩ := h
    exact absurd (by rw [ef]; rfl) ha
  | .lst true os, v, f, h, a, ha => by
    obtain ⟨a', xs, g, e, s, r, ef⟩ := h
    by_cases q : a = a'
    · subst q; exact ⟨_, s, True.intro⟩
    · refine Reps.mem r a ?_
      rw [ef] at ha
      simpa [bump, q] using ha
  | .dct false ks os, v, f, h, a, ha => by
    obtain ⟨a', kvs, e, s, ek, r, ef⟩ := h
    exact absurd (by rw [ef]; rfl) ha
  | .dct true ks os, v, f, h, a, ha => by
    obtain ⟨a', kvs, g, e, s, ek, r, ef⟩ := h
    by_cases q : a = a'
    · subst q; exact ⟨_, s, True.intro⟩
    · refine Reps.mem r a ?_
      rw [ef] at ha
      simpa [bump, q] using ha
  | .ins false c ns os, v, f, h, a, ha => by
    obtain ⟨a', dx, fs, e, s, ek, r, ef⟩ := h
    exact absurd (by rw [ef]; rfl) ha
  | .ins true c ns os, v, f, h, a, ha => by
    obtain ⟨a', dx, fs, g, e, s, ek, r, ef⟩ := h
    by_cases q : a = a'
    · subst q; exact ⟨_, s, True.intro⟩
    · refine Reps.mem r a ?_
      rw [ef] at ha
      simpa [bump, q] using ha
theorem Reps.mem : ∀ {os : List O} {vs : List V} {f : Fp}, Reps K ct F H os vs f → ∀ a, f a ≠ 0 → ∃ u, H a = some u ∧ Own u
  | [], _, _, h, a, ha => absurd (by rw [h.2]; rfl) ha
  | o :: os, vs, f, h, a, ha => by
    obtain ⟨v, vr, g, l, e, r, rs, ef⟩ := h
    by_cases q : g a = 0
    · refine Reps.mem rs a ?_
      rw [ef] at ha
      have ha' : g a + l a ≠ 0 := ha
      omega
    · exact Rep.mem r a q
end
theorem add_zf {g h : Fp} (e1 : g = zf) (e2 : h = zf) : (fun a => g a + h a) = zf := by subst e1 e2; rfl
mutual
theorem Rep.fz0 : ∀ {o : O} {v : V} {f : Fp}, Rep K ct F H o v f → isFz o = true → f = zf
  | .non, _, _, h, _ => h.2
  | .bl _, _, _, h, _ => h.2
  | .int _, _, _, h, _ => h.2
  | .str _, _, _, h, _ => h.2
  | .exc _, _, _, h, _ => h.2
  | .tls _, _, _, h, _ => by obtain ⟨_, _, _, _, _, _, ef⟩ := h; exact ef
  | .dt _, _, _, h, _ => by obtain ⟨_, _, _, _, _, ef⟩ := h; exact ef
  | .tup os, v, f, h, z => by
    obtain ⟨a', xs, e, s, r⟩ := h
    exact Reps.fz0 r (by simpa [isFz] using z)
  | .lst false os, v, f, h, z => by
    obtain ⟨a', xs, e, s, r, ef⟩ := h
    exact ef
  | .lst true os, v, f, h, z => by simp [isFz] at z
  | .dct false ks os, v, f, h, z => by
    obtain ⟨a', kvs, e, s, ek, r, ef⟩ := h
    exact ef
  | .dct true ks os, v, f, h, z => by simp [isFz] at z
  | .ins false c ns os, v, f, h, z => by
    obtain ⟨a', dx, fs, e, s, ek, r, ef⟩ := h
    exact ef
  | .ins true c ns os, v, f, h, z => by simp [isFz] at z
theorem Reps.fz0 : ∀ {os : List O} {vs : List V} {f : Fp}, Reps K ct F H os vs f → isFzs os = true → f = zf
  | [], _, _, h, _ => h.2
  | o :: os, vs, f, h, z => by
    obtain ⟨v, vr, g, l, e, r, rs, ef⟩ := h
    rw [isFzs, Bool.and_eq_true] at z
    rw [ef]
    exact add_zf (Rep.fz0 r z.1) (Reps.fz0 rs z.2)
end
/-! seen as frozen: the footprint goes into the frozen part -/
mutual
theorem Rep.frz (hF : Same F F') : ∀ {o : O} {v : V} {f : Fp}, (∀ a, f a ≠ 0 → F' a = H a) → Rep K ct F H o v f → Rep K ct F' H' (frz o) v zf
  | .non, _, _, _, h => ⟨h.1, rfl⟩
  | .bl _, _, _, _, h => ⟨h.1, rfl⟩
  | .int _, _, _, _, h => ⟨h.1, rfl⟩
  | .str _, _, _, _, h => ⟨h.1, rfl⟩
  | .exc _, _, _, _, h => ⟨h.1, rfl⟩
  | .tls ks, v, f, _, h => by
    obtain ⟨a, L, e, ek, ⟨od, s⟩, hp, ef⟩ := h
    exact ⟨a, L, e, ek, ⟨od, hF _ _ s⟩, fun p hm => hF _ _ (hp p hm), rfl⟩
  | .dt ks, v, f, _, h => by
    obtain ⟨a, kvs, e, ek, s, ef⟩ := h
    exact ⟨a, kvs, e, ek, hF _ _ s, rfl⟩
  | .tup os, v, f, k, h => by
    obtain ⟨a, xs, e, s, r⟩ := h
    exact ⟨a, xs, e, Same.seqT hF s, Reps.frz hF k r⟩
  | .lst false os, v, f, k, h => by
    obtain ⟨a, xs, e, s, r, ef⟩ := h
    exact ⟨a, xs, e, Same.seq hF s, Reps.frz hF (fun b hb => absurd rfl hb) r, rfl⟩
  | .lst true os, v, f, k, h => by
    obtain ⟨a, xs, g, e, s, r, ef⟩ := h
    refine ⟨a, xs, e, ?_, Reps.frz hF (fun b hb => k b ?_) r, rfl⟩
    · refine .inl (.inl ?_)
      rw [k a (by rw [ef]; simp [bump])]; exact s
    · rw [ef]; show (if b = a then 1 else 0) + g b ≠ 0; omega
  | .dct false ks os, v, f, k, h => by
    obtain ⟨a, kvs, e, s, ek, r, ef⟩ := h
    exact ⟨a, kvs, e, Same.rd hF s, ek, Reps.frz hF (fun b hb => absurd rfl hb) r, rfl⟩
  | .dct true ks os, v, f, k, h => by
    obtain ⟨a, kvs, g, e, s, ek, r, ef⟩ := h
    refine ⟨a, kvs, e, .inl ?_, ek, Reps.frz hF (fun b hb => k b ?_) r, rfl⟩
    · rw [k a (by rw [ef]; simp [bump])]; exact s
    · rw [ef]; show (if b = a then 1 else 0) + g b ≠ 0; omega
  | .ins false c ns os, v, f, k, h => by
    obtain ⟨a, dx, fs, e, s, ek, r, ef⟩ := h
    exact ⟨a, dx, fs, e, hF _ _ s, ek, Reps.frz hF (fun b hb => absurd rfl hb) r, rfl⟩
  | .ins true c ns os, v, f, k, h => by
    obtain ⟨a, dx, fs, g, e, s, ek, r, ef⟩ := h
    refine ⟨a, dx, fs, e, ?_, ek, Reps.frz hF (fun b hb => k b ?_) r, rfl⟩
    · rw [k a (by rw [ef]; simp [bump])]; exact s
    · rw [ef]; show (if b = a then 1 else 0) + g b ≠ 0; omega
theorem Reps.frz (hF : Same F F') : ∀ {os : List O} {vs : List V} {f : Fp}, (∀ a, f a ≠ 0 → F' a = H a) → Reps K ct F H os vs f → Reps K ct F' H' (frzs os) vs zf
  | [], _, _, _, h => ⟨h.1, rfl⟩
  | o :: os, vs, f, k, h => by
    obtain ⟨v, vr, g, l, e, r, rs, ef⟩ := h
    refine ⟨v, vr, zf, zf, e, Rep.frz hF (fun b hb => k b ?_) r, Reps.frz hF (fun b hb => k b ?_) rs, rfl⟩
    · rw [ef]; show g b + l b ≠ 0; omega
    · rw [ef]; show g b + l b ≠ 0; omega
end
/-- the frozen part grows smaller by nodes that are no tuples: what has no frozen lists stays -/
def NoTup (H : Hp) (a : Addr) : Prop := ∃ u, H a = some u ∧ Own u
theorem NoTup.ne {F F' : Hp} {a : Addr} {u : HO} (h : NoTup F a ∨ F' a = F a) (e : F a = some u) (n : ¬ Own u) : F' a = some u := by
  rcases h with ⟨u', h1, h2⟩ | h
  · rw [e] at h1; cases h1; exact absurd h2 n
  · rw [h]; exact e
mutual
theorem Rep.thaw (hF : ∀ a, NoTup F a ∨ F' a = F a) : ∀ {o : O} {v : V} {f : Fp}, noFm o = true → Rep K ct F H o v f → Rep K ct F' H o v f
  | .non, _, _, _, h => h
  | .bl _, _, _, _, h => h
  | .int _, _, _, _, h => h
  | .str _, _, _, _, h => h
  | .exc _, _, _, _, h => h
  | .tls ks, v, f, _, h => by
    obtain ⟨a, L, e, ek, ⟨od, s⟩, hp, ef⟩ := h
    exact ⟨a, L, e, ek, ⟨od, NoTup.ne (hF _) s fun z => z⟩, fun p hm => NoTup.ne (hF _) (hp p hm) fun z => z, ef⟩
  | .dt ks, v, f, _, h => by
    obtain ⟨a, kvs, e, ek, s, ef⟩ := h
    exact ⟨a, kvs, e, ek, NoTup.ne (hF _) s fun z => z, ef⟩
  | .tup os, v, f, k, h => by
    obtain ⟨a, xs, e, s, r⟩ := h
    refine ⟨a, xs, e, ?_, Reps.thaw hF (by simpa [noFm] using k) r⟩
    rcases s with (s | ⟨o, s⟩) | s
    · exact .inl (.inl (NoTup.ne (hF _) s fun z => z))
    · exact .inl (.inr ⟨o, NoTup.ne (hF _) s fun z => z⟩)
    · exact .inr s
  | .lst false os, v, f, k, h => by simp [noFm] at k
  | .lst true os, v, f, k, h => by
    obtain ⟨a, xs, g, e, s, r, ef⟩ := h
    exact ⟨a, xs, g, e, s, Reps.thaw hF (by simpa [noFm] using k) r, ef⟩
  | .dct false ks os, v, f, k, h => by simp [noFm] at k
  | .dct true ks os, v, f, k, h => by
    obtain ⟨a, kvs, g, e, s, ek, r, ef⟩ := h
    exact ⟨a, kvs, g, e, s, ek, Reps.thaw hF (by simpa [noFm] using k) r, ef⟩
  | .ins false c ns os, v, f, k, h => by simp [noFm] at k
  | .ins true c ns os, v, f, k, h => by
    obtain ⟨a, dx, fs, g, e, s, ek, r, ef⟩ := h
    exact ⟨a, dx, fs, g, e, s, ek, Reps.thaw hF (by simpa [noFm] using k) r, ef⟩
theorem Reps.thaw (hF : ∀ a, NoTup F a ∨ F' a = F a) : ∀ {os : List O} {vs : List V} {f : Fp}, noFms os = true → Reps K ct F H os vs f → Reps K ct F' H os vs f
  | [], _, _, _, h => h
  | o :: os, vs, f, k, h => by
    obtain ⟨v, vr, g, l, e, r, rs, ef⟩ := h
    rw [noFms, Bool.and_eq_true] at k
    exact ⟨v, vr, g, l, e, Rep.thaw hF k.1 r, Reps.thaw hF k.2 rs, ef⟩
end
end
end Mini
namespace Mini
open PySem PySem.Spec PyProof.Rows L2
abbrev Env := List (Option O)
/-- the same, not to be unfolded by anyone -/
theorem hidX {α : Type} (a : α) : ∃ b, b = a := ⟨a, rfl⟩
noncomputable def hid {α : Type} (a : α) : α := (hidX a).choose
theorem hid_eq {α : Type} (a : α) : hid a = a := (hidX a).choose_spec
def look (ρ : Env) (i : Nat) : Option O := match ρ[i]? with
  | some (some o) => some o
  | _ => none
def SRep (K : PySem.W.Frag) (ct : Nat → Addr) (F H : Hp) : Env → L2.St → Fp → Prop
  | [], _, f => f = zf
  | none :: ρ, _ :: σ, f => SRep K ct F H ρ σ f
  | none :: _, [], _ => False
  | some o :: ρ, some v :: σ, f => ∃ g h, Rep K ct F H o v g ∧ SRep K ct F H ρ σ h ∧ f = fun a => g a + h a
  | some _ :: _, _, _ => False
/-- no table that lambdas write -/
def NTb [TabsI] (a : Addr) (u : HO) : Prop := (∀ ps, u ≠ .tbl ps) ∨ ∀ p ∈ TabsI.T, p.1 ≠ a
/-- all that is no table stays; tables stay tables -/
structure SameT [TabsI] (H H' : Hp) : Prop where
  nt : ∀ a u, H a = some u → NTb a u → H' a = some u
  tb : ∀ a ps, H a = some (.tbl ps) → ∃ ps', H' a = some (.tbl ps')
  tabs : LamX.Tabs TabsI.T H → LamX.Tabs TabsI.T H'
theorem SameT.trans [TabsI] {H H1 H2 : Hp} (a : SameT H H1) (b : SameT H1 H2) : SameT H H2 :=
  ⟨fun c u h n => b.nt c u (a.nt c u h n) n, fun c ps h => by obtain ⟨p1, h1⟩ := a.tb c ps h; exact b.tb c p1 h1, fun h => b.tabs (a.tabs h)⟩
theorem SameT.free [TabsI] {H H' : Hp} (e : SameT H H') {a : Addr} (h : H' a = none) : H a = none := by
  cases q : H a with
  | none => rfl
  | some u =>
    by_cases w : ∃ ps, u = .tbl ps
    · obtain ⟨ps, rfl⟩ := w
      obtain ⟨p1, h1⟩ := e.tb a ps q
      rw [h] at h1; cases h1
    · have := e.nt a u q (.inl fun ps z => w ⟨ps, z⟩)
      rw [h] at this; cases this
theorem Same.t [TabsI] {H H' : Hp} (e : Same H H') : SameT H H' := ⟨fun a u h _ => e a u h, fun a ps h => ⟨ps, e _ _ h⟩, fun t p hp => (t p hp).ext e⟩
theorem SameT.refl [TabsI] (H : Hp) : SameT H H := Same.t (Same.refl H)
theorem SameT.own [TabsI] {H H' : Hp} (e : SameT H H') {a : Addr} {u : HO} (h : H a = some u) (o : Own u) : H' a = some u := e.nt a u h (.inl fun ps z => by subst z; exact o)
theorem Own.nt [TabsI] {a : Addr} {u : HO} (o : Own u) : NTb a u := .inl fun ps z => by subst z; exact o
theorem SameT.go [TabsI] {H H' : Hp} (e : SameT H H') (a : Addr) (u : HO) (h : H a = some u) (nt : NTb a u := by first | (refine Or.inl ?_; intro ps z; cases z; done) | exact Own.nt (by assumption)) : H' a = some u := e.nt a u h nt
structure Wf [TabsI] (F H : Hp) (f : Fp) : Prop where
  le : Same F H
  tabs : LamX.Tabs TabsI.T H
  ntF : ∀ p ∈ TabsI.T, F p.1 = none
  one : ∀ a, f a ≤ 1
  dj : ∀ a, f a ≠ 0 → F a = none
structure Ext [TabsI] (F H F' H' : Hp) : Prop where
  hF : Same F F'
  hH : SameT H H'
  le : Same F' H'
  new : ∀ a, F' a ≠ none → F a ≠ none ∨ H a = none
def Gd (k : Bool) (f : Fp) (H F' : Hp) (g : Fp) : Prop :=
  if k = true then ∀ a, g a ≤ f a else (∀ a, g a ≤ 1) ∧ (∀ a, g a ≠ 0 → H a = none) ∧ ∀ a, g a ≠ 0 → F' a = none
theorem Ext.refl [TabsI] {F H : Hp} (le : Same F H) : Ext F H F H := ⟨Same.refl _, SameT.refl _, le, fun _ h => .inl h⟩
theorem Ext.trans [TabsI] {F H F1 H1 F2 H2 : Hp} (a : Ext F H F1 H1) (b : Ext F1 H1 F2 H2) : Ext F H F2 H2 := by
  refine ⟨a.hF.trans b.hF, a.hH.trans b.hH, b.le, fun c h => ?_⟩
  rcases b.new c h with q | q
  · exact a.new c q
  · exact .inr (a.hH.free q)
theorem Gd.zero {k : Bool} {f : Fp} {H F' : Hp} : Gd k f H F' zf := by
  unfold Gd
  split
  · exact fun a => Nat.zero_le _
  · exact ⟨fun _ => Nat.zero_le _, fun _ h => absurd rfl h, fun _ h => absurd rfl h⟩
theorem Gd.n {f : Fp} {H F' : Hp} {g : Fp} (h : Gd false f H F' g) : (∀ a, g a ≤ 1) ∧ (∀ a, g a ≠ 0 → H a = none) ∧ ∀ a, g a ≠ 0 → F' a = none := by
  unfold Gd at h
  rwa [if_neg Bool.false_ne_true] at h
theorem Gd.b {f : Fp} {H F' : Hp} {g : Fp} (h : Gd true f H F' g) : ∀ a, g a ≤ f a := by
  unfold Gd at h
  rwa [if_pos rfl] at h
theorem Gd.mkn {f : Fp} {H F' : Hp} {g : Fp} (h1 : ∀ a, g a ≤ 1) (h2 : ∀ a, g a ≠ 0 → H a = none) (h3 : ∀ a, g a ≠ 0 → F' a = none) : Gd false f H F' g := by
  unfold Gd
  rw [if_neg Bool.false_ne_true]
  exact ⟨h1, h2, h3⟩
theorem Gd.mkb {f : Fp} {H F' : Hp} {g : Fp} (h : ∀ a, g a ≤ f a) : Gd true f H F' g := by
  unfold Gd
  rw [if_pos rfl]
  exact h
/-- a smaller footprint -/
theorem Gd.sub {k : Bool} {f : Fp} {H F' : Hp} {g g' : Fp} (h : Gd k f H F' g) (l : ∀ a, g' a ≤ g a) : Gd k f H F' g' := by
  unfold Gd at h ⊢
  split
  · rw [if_pos (by assumption)] at h
    exact fun a => Nat.le_trans (l a) (h a)
  · rw [if_neg (by assumption)] at h
    refine ⟨fun a => Nat.le_trans (l a) (h.1 a), fun a q => h.2.1 a ?_, fun a q => h.2.2 a ?_⟩
    · have := l a; omega
    · have := l a; omega
section
variable {K : PySem.W.Frag} {ct : Nat → Addr} {F F' H H' : Hp} {ρ : Env} {σ : L2.St} {f g : Fp}
theorem SRep.mono (hF : Same F F') : ∀ {ρ : Env} {σ : L2.St} {f : Fp}, (∀ a, f a ≠ 0 → H' a = H a) → SRep K ct F H ρ σ f → SRep K ct F' H' ρ σ f
  | [], _, _, _, h => h
  | none :: ρ, [], _, _, h => (show False from h).elim
  | none :: ρ, _ :: σ, f, k, h => SRep.mono (ρ := ρ) (σ := σ) hF k h
  | some o :: ρ, [], _, _, h => (show False from h).elim
  | some o :: ρ, none :: σ, _, _, h => (show False from h).elim
  | some o :: ρ, some v :: σ, f, k, h => by
    obtain ⟨g, l, r, rs, ef⟩ := (show ∃ g h, Rep K ct F H o v g ∧ SRep K ct F H ρ σ h ∧ f = fun a => g a + h a from h)
    refine ⟨g, l, Rep.mono hF (fun b hb => k b ?_) r, SRep.mono hF (fun b hb => k b ?_) rs, ef⟩
    · rw [ef]; show g b + l b ≠ 0; omega
    · rw [ef]; show g b + l b ≠ 0; omega
theorem SRep.mem : ∀ {ρ : Env} {σ : L2.St} {f : Fp}, SRep K ct F H ρ σ f → ∀ a, f a ≠ 0 → ∃ u, H a = some u ∧ Own u
  | [], _, _, h, a, ha => absurd (by rw [show _ = zf from h]; rfl) ha
  | none :: ρ, [], _, h, _, _ => (show False from h).elim
  | none :: ρ, _ :: σ, f, h, a, ha => SRep.mem (ρ := ρ) (σ := σ) h a ha
  | some o :: ρ, [], _, h, _, _ => (show False from h).elim
  | some o :: ρ, none :: σ, _, h, _, _ => (show False from h).elim
  | some o :: ρ, some v :: σ, f, h, a, ha => by
    obtain ⟨g, l, r, rs, ef⟩ := (show ∃ g h, Rep K ct F H o v g ∧ SRep K ct F H ρ σ h ∧ f = fun a => g a + h a from h)
    by_cases q : g a = 0
    · refine SRep.mem rs a ?_
      rw [ef] at ha
      have ha' : g a + l a ≠ 0 := ha
      omega
    · exact Rep.mem r a q
theorem SRep.get : ∀ {ρ : Env} {σ : L2.St} {f : Fp} {i : Nat} {o : O}, SRep K ct F H ρ σ f → look ρ i = some o → ∃ v g, σ[i]? = some (some v) ∧ Rep K ct F H o v g ∧ ∀ a, g a ≤ f a
  | [], _, _, i, o, _, e => by simp [look] at e
  | none :: ρ, [], _, _, _, h, _ => (show False from h).elim
  | none :: ρ, _ :: σ, f, 0, o, h, e => by simp [look] at e
  | none :: ρ, _ :: σ, f, i + 1, o, h, e => by
    obtain ⟨v, g, e1, r, l⟩ := SRep.get (ρ := ρ) (σ := σ) (i := i) (o := o) h (by simpa [look] using e)
    exact ⟨v, g, by simpa using e1, r, l⟩
  | some o' :: ρ, [], _, _, _, h, _ => (show False from h).elim
  | some o' :: ρ, none :: σ, _, _, _, h, _ => (show False from h).elim
  | some o' :: ρ, some v :: σ, f, 0, o, h, e => by
    obtain ⟨g, l, r, rs, ef⟩ := (show ∃ g h, Rep K ct F H o' v g ∧ SRep K ct F H ρ σ h ∧ f = fun a => g a + h a from h)
    have e' : o' = o := by simpa [look] using e
    subst e'
    exact ⟨v, g, rfl, r, fun a => by rw [ef]; exact Nat.le_add_right _ _⟩
  | some o' :: ρ, some v :: σ, f, i + 1, o, h, e => by
    obtain ⟨g, l, r, rs, ef⟩ := (show ∃ g h, Rep K ct F H o' v g ∧ SRep K ct F H ρ σ h ∧ f = fun a => g a + h a from h)
    obtain ⟨v', g', e1, r', l'⟩ := SRep.get (ρ := ρ) (σ := σ) (i := i) (o := o) rs (by simpa [look] using e)
    exact ⟨v', g', by simpa using e1, r', fun a => by rw [ef]; exact Nat.le_trans (l' a) (Nat.le_add_left _ _)⟩
theorem some_of_ne {α : Type} {x : Option α} (h : x ≠ none) : ∃ y, x = some y := by
  cases x with
  | none => exact absurd rfl h
  | some y => exact ⟨y, rfl⟩
theorem none_of_nn {α : Type} {x : Option α} (h : ¬ x ≠ none) : x = none := by
  cases x with
  | none => rfl
  | some y => exact absurd (fun z => nomatch z) h
theorem Ext.at [TabsI] (e : Ext F H F' H') {a : Addr} (h : ∃ u, H a = some u ∧ Own u) : H' a = H a := by
  obtain ⟨u, h, ho⟩ := h
  rw [e.hH.own h ho, h]
theorem Rep.ext [TabsI] {o : O} {v : V} (e : Ext F H F' H') (h : Rep K ct F H o v g) : Rep K ct F' H' o v g := Rep.mono e.hF (fun a ha => e.at (h.mem a ha)) h
theorem Reps.ext [TabsI] {o : List O} {v : List V} (e : Ext F H F' H') (h : Reps K ct F H o v g) : Reps K ct F' H' o v g := Reps.mono e.hF (fun a ha => e.at (h.mem a ha)) h
theorem if_ntF [TabsI] {F H H1 : Hp} {g : Fp} (t : LamX.Tabs TabsI.T H) (n : ∀ p ∈ TabsI.T, F p.1 = none) (own : ∀ a, g a ≠ 0 → ∃ u, H a = some u ∧ Own u) : ∀ p ∈ TabsI.T, (if g p.1 ≠ 0 then H1 p.1 else F p.1) = none := fun p hp => by
  by_cases z : g p.1 ≠ 0
  · obtain ⟨u, hu, ou⟩ := own _ z
    obtain ⟨ps, h1, _⟩ := t p hp
    rw [h1] at hu; cases hu; exact False.elim ou
  · rw [if_neg z]; exact n p hp
theorem Ext.ntF [TabsI] (e : Ext F H F' H') (t : LamX.Tabs TabsI.T H) (n : ∀ p ∈ TabsI.T, F p.1 = none) : ∀ p ∈ TabsI.T, F' p.1 = none := fun p hp => none_of_nn fun q => by
  rcases e.new _ q with z | z
  · exact z (n p hp)
  · obtain ⟨ps, h1, _⟩ := t p hp
    rw [h1] at z; cases z
theorem Wf.ext [TabsI] (w : Wf F H f) (e : Ext F H F' H') (m : ∀ a, f a ≠ 0 → ∃ u, H a = some u ∧ Own u) : Wf F' H' f := by
  refine ⟨e.le, e.hH.tabs w.tabs, e.ntF w.tabs w.ntF, w.one, fun a ha => none_of_nn fun q => ?_⟩
  rcases e.new a q with z | z
  · exact z (w.dj a ha)
  · obtain ⟨u, h, _⟩ := m a ha
    rw [z] at h; cases h
end
/-- the state at an expression -/
structure Sit [TabsI] (K : PySem.W.Frag) (ct : Nat → Addr) (F H : Hp) (ρ : Env) (σ : L2.St) (f : Fp) : Prop where
  wf : Wf F H f
  rep : SRep K ct F H ρ σ f
theorem Sit.ext [TabsI] {K : PySem.W.Frag} {ct : Nat → Addr} {F F' H H' : Hp} {ρ : Env} {σ : L2.St} {f : Fp} (s : Sit K ct F H ρ σ f) (e : Ext F H F' H') : Sit K ct F' H' ρ σ f :=
  ⟨s.wf.ext e s.rep.mem, SRep.mono e.hF (fun a ha => e.at (s.rep.mem a ha)) s.rep⟩
/-- what follows an expression whose value is o -/
def Kn [TabsI] (K : PySem.W.Frag) (ct : Nat → Addr) (k : Bool) (f : Fp) (F H : Hp) (o : O) (Q : VK) : Prop :=
  ∀ v F' H' g, Ext F H F' H' → Rep K ct F' H' o v g → Gd k f H F' g → Q v H'
def tX [TabsI] (ct : Nat → Addr) (K : PySem.W.Frag) (k : Bool) (d : Env → Option O) : TE := fun σ H Q =>
  ∃ F ρ f o, Sit K ct F H ρ σ f ∧ d ρ = some o ∧ Kn K ct k f F H o Q
/-- an expression: k tells that its value is a part of a variable -/
def SX [TabsI] (ct : Nat → Addr) (X : Cx) (k : Bool) (e : Expr) (d : Env → Option O) : Prop := PE X e (tX ct X.K k d)
theorem PE.imp {X : Cx} {e : Expr} {t t' : TE} (h : PE X e t) (i : ∀ σ H Q, t' σ H Q → t σ H Q) : PE X e t' :=
  ⟨fun pins s σ H Q I hq => h.run pins s σ H Q I (i σ H Q hq)⟩
theorem PT.imp {X : Cx} {e : Expr} {t t' : TT} (h : PT X e t) (i : ∀ σ H Q, t' σ H Q → t σ H Q) : PT X e t' :=
  ⟨fun pins s σ H Q I hq => h.run pins s σ H Q I (i σ H Q hq)⟩
theorem PS.imp {X : Cx} {e : Stmt} {t t' : TS} (h : PS X e t) (i : ∀ D σ H, t' D σ H → t D σ H) : PS X e t' :=
  ⟨fun pins s σ H Q I hq => h.run pins s σ H Q I (i Q σ H hq)⟩
theorem PSs.imp {X : Cx} {e : List Stmt} {t t' : TS} (h : PSs X e t) (i : ∀ D σ H, t' D σ H → t D σ H) : PSs X e t' :=
  ⟨fun pins s σ H Q I hq => h.run pins s σ H Q I (i Q σ H hq)⟩
theorem PA.imp {X : Cx} {e : List Expr} {t t' : TA} (h : PA X e t) (i : ∀ σ H Q, t' σ H Q → t σ H Q) : PA X e t' :=
  ⟨fun ps pins s σ H Q I hq => h.run ps pins s σ H Q I (i σ H Q hq)⟩
def dBind (d : Env → Option O) (fn : O → Option O) : Env → Option O := fun ρ => match d ρ with
  | some x => fn x
  | none => none
def dBin (fn : O → O → Option O) (da db : Env → Option O) : Env → Option O := fun ρ => match da ρ with
  | some x => match db ρ with
    | some y => fn x y
    | none => none
  | none => none
theorem dBind_some {d : Env → Option O} {fn : O → Option O} {ρ : Env} {z : O} (h : dBind d fn ρ = some z) : ∃ x, d ρ = some x ∧ fn x = some z := by
  unfold dBind at h
  split at h
  · rename_i x e; exact ⟨x, e, h⟩
  · cases h
theorem dBin_some {fn : O → O → Option O} {da db : Env → Option O} {ρ : Env} {z : O} (h : dBin fn da db ρ = some z) : ∃ x y, da ρ = some x ∧ db ρ = some y ∧ fn x y = some z := by
  unfold dBin at h
  split at h
  · rename_i x e
    split at h
    · rename_i y e2; exact ⟨x, y, e, e2, h⟩
    · cases h
  · cases h
section
variable {ct : Nat → Addr} {X : Cx} {a b e : Expr} {da db d : Env → Option O} {k k1 k2 : Bool} {pos : Pos}
/-- a scalar came -/
theorem Kn.scal [TabsI] {K : PySem.W.Frag} {f : Fp} {F H : Hp} {o : O} {Q : VK} (h : Kn K ct k f F H o Q) (le : Same F H) {v : V} (r : ∀ F H, Rep K ct F H o v zf) : Q v H :=
  h v F H zf (Ext.refl le) (r F H) Gd.zero
/-- a name -/
theorem sx_var [TabsI] (i : Nat) {x : Str} (hN : X.N[i]? = some x := by rfl) (hv : Vis X.env.scope x := by first | exact Or.inl rfl | exact Or.inr (Or.inl rfl) | exact Or.inr (Or.inr rfl)) (hd : (x == ("__debug__" : Str)) = false := by decide)
    (hcd : (x == ("__classdict__" : Str)) = false := by decide) : SX ct X true (.Name x pos) (fun ρ => look ρ i) := by
  refine PE.imp (pe_var hN hv hd hcd) fun σ H Q h => ?_
  obtain ⟨F, ρ, f, o, s, e, q⟩ := h
  obtain ⟨v, g, e1, r, l⟩ := s.rep.get e
  exact ⟨v, e1, q v F H g (Ext.refl s.wf.le) r (Gd.mkb l)⟩
def copyO (o : O) : Option O := if isFz o = true then some o else none
/-- a frozen part of a variable, as a value of its own -/
theorem sx_copy [TabsI] (h : SX ct X k e d) : SX ct X false e (dBind d copyO) := by
  refine PE.imp h fun σ H Q h => ?_
  obtain ⟨F, ρ, f, o, s, e, q⟩ := h
  obtain ⟨x, e1, e2⟩ := dBind_some e
  unfold copyO at e2
  by_cases z : isFz x = true
  · rw [if_pos z] at e2
    cases e2
    refine ⟨F, ρ, f, _, s, e1, fun v F' H' g ex r gd => ?_⟩
    have ez := r.fz0 z
    subst ez
    exact q v F' H' zf ex r Gd.zero
  · rw [if_neg z] at e2; cases e2
theorem sx_const [TabsI] {v : V} {o : O} (h : PE X e (tC v)) (r : ∀ F H, Rep X.K ct F H o v zf) : SX ct X false e (fun _ => some o) := by
  refine PE.imp h fun σ H Q h => ?_
  obtain ⟨F, ρ, f, o', s, e, q⟩ := h
  cases e
  exact q.scal s.wf.le r
theorem sx_int [TabsI] {i : Int} {j} : SX ct X false (.Constant (.int i) j pos) (fun _ => some (.int i)) := sx_const pe_int fun _ _ => ⟨rfl, rfl⟩
theorem sx_bl [TabsI] {b : Bool} {j} : SX ct X false (.Constant (.bool b) j pos) (fun _ => some (.bl b)) := sx_const pe_bl fun _ _ => ⟨rfl, rfl⟩
/-- what a two-place rule gives: a new value -/
def Fn2 [TabsI] (X : Cx) (ct : Nat → Addr) (r : R2) (fn : O → O → Option O) : Prop :=
  ∀ F H x y z u v g h Q, Same F H → Rep X.K ct F H x u g → Rep X.K ct F H y v h → fn x y = some z → Kn X.K ct false zf F H z Q → r u v H Q
theorem Kn.go [TabsI] {K : PySem.W.Frag} {f f' : Fp} {F H F1 H1 : Hp} {o : O} {Q : VK} (h : Kn K ct false f F H o Q) (e : Ext F H F1 H1) : Kn K ct false f' F1 H1 o Q := fun v F' H' g e' r gd => by
  obtain ⟨g1, g2, g3⟩ := gd.n
  exact h v F' H' g (e.trans e') r (Gd.mkn g1 (fun a q => e.hH.free (g2 a q)) g3)
theorem two_go [TabsI] {r : R2} {fn : O → O → Option O} (hr : Fn2 X ct r fn) {σ : L2.St} {H : Hp} {Q : VK} (h : tX ct X.K false (dBin fn da db) σ H Q) : tOp r (tX ct X.K k1 da) (tX ct X.K k2 db) σ H Q := by
  obtain ⟨F, ρ, f, o, s, e, q⟩ := h
  obtain ⟨x, y, e1, e2, e3⟩ := dBin_some e
  refine ⟨F, ρ, f, x, s, e1, fun u F1 H1 g ex1 r1 gd1 => ?_⟩
  refine ⟨F1, ρ, f, y, s.ext ex1, e2, fun v F2 H2 h ex2 r2 gd2 => ?_⟩
  exact hr F2 H2 x y o u v g h Q ex2.le (r1.ext ex2) r2 e3 (q.go (ex1.trans ex2))
theorem sx_bin [TabsI] {op : Operator} {r : R2} {fn : O → O → Option O} (ho : OpR X (binaryOp op) r) (hr : Fn2 X ct r fn) (ha : SX ct X k1 a da) (hb : SX ct X k2 b db) : SX ct X false (.BinOp a op b pos) (dBin fn da db) :=
  PE.imp (pe_op ho ha hb) fun σ H Q h => two_go hr h
theorem sx_cmp [TabsI] {op : CmpOp} {r : R2} {fn : O → O → Option O} (ho : OpR X (compareOp op) r) (hr : Fn2 X ct r fn) (ha : SX ct X k1 a da) (hb : SX ct X k2 b db) (hm : behindInMarks op b = false) : SX ct X false (.Compare a [op] [b] pos) (dBin fn da db) :=
  PE.imp (pe_cmpR ho ha hb hm) fun σ H Q h => two_go hr h
/-! ints -/
def intsO (C : Int → Int → Bool) (g : Int → Int → O) : O → O → Option O
  | .int i, .int j => if C i j = true then some (g i j) else none
  | _, _ => none
theorem intsO_some {C : Int → Int → Bool} {g : Int → Int → O} {x y z : O} (h : intsO C g x y = some z) : ∃ i j, x = .int i ∧ y = .int j ∧ C i j = true ∧ z = g i j := by
  unfold intsO at h
  split at h
  · split at h
    · cases h; exact ⟨_, _, rfl, rfl, by assumption, rfl⟩
    · cases h
  · cases h
theorem fn2_I [TabsI] {C : Int → Int → Prop} {Cb : Int → Int → Bool} {g : Int → Int → V} {g' : Int → Int → O} (hC : ∀ i j, Cb i j = true → C i j) (hg : ∀ i j K F H, Rep K ct F H (g' i j) (g i j) zf) : Fn2 X ct (rI C g) (intsO Cb g') := by
  intro F H x y z u v g h Q le rx ry e q
  obtain ⟨i, j, rfl, rfl, c, rfl⟩ := intsO_some e
  exact ⟨i, j, rx.1, ry.1, hC i j c, q.scal le fun F H => hg i j _ F H⟩
theorem fn2_I0 [TabsI] {g : Int → Int → V} {g' : Int → Int → O} (hg : ∀ i j K F H, Rep K ct F H (g' i j) (g i j) zf) : Fn2 X ct (rI0 g) (intsO (fun _ _ => true) g') := by
  intro F H x y z u v g h Q le rx ry e q
  obtain ⟨i, j, rfl, rfl, c, rfl⟩ := intsO_some e
  exact ⟨i, j, rx.1, ry.1, q.scal le fun F H => hg i j _ F H⟩
def oAddI := intsO (fun _ _ => true) fun i j => .int (i + j)
def oSub := intsO (fun _ _ => true) fun i j => .int (i - j)
def mulOk0 (i j : Int) : Bool := decide (i.natAbs.log2 + j.natAbs.log2 < 100000000)
noncomputable def mulOk := hid mulOk0
theorem mulOk_def : mulOk = mulOk0 := hid_eq _
def oDiv := intsO (fun _ j => decide (0 < j) && decide (j.natAbs.log2 < 9000)) fun i j => .int (i / j)
def oMod := intsO (fun _ j => decide (0 < j)) fun i j => .int (i % j)
def oAnd := intsO (fun _ _ => true) fun i j => .int (Builtin.bitAnd i j)
def oOr := intsO (fun _ _ => true) fun i j => .int (Builtin.bitOr i j)
def oXor := intsO (fun _ _ => true) fun i j => .int (Builtin.bitXor i j)
def oShr := intsO (fun _ j => decide (0 ≤ j)) fun i j => .int (i / 2 ^ j.toNat)
def oLt := intsO (fun _ _ => true) fun i j => .bl (decide (i < j))
def oLe := intsO (fun _ _ => true) fun i j => .bl (decide (i ≤ j))
def oGt := intsO (fun _ _ => true) fun i j => .bl (decide (j < i))
def oGe := intsO (fun _ _ => true) fun i j => .bl (decide (j ≤ i))
theorem mulOk_ok {i j : Int} (h : mulOk i j = true) : IntMulOk i j := by
  have b : ∀ x : Int, Builtin.Int.intBits x ≤ x.natAbs.log2 + 1 := fun x => by
    unfold Builtin.Int.intBits
    split <;> omega
  have h1 := b i
  have h2 := b j
  have h3 : i.natAbs.log2 + j.natAbs.log2 < 100000000 := by rw [mulOk_def] at h; exact of_decide_eq_true h
  have e : bitsLine = 134217728 := by decide
  unfold IntMulOk
  intro z
  rw [Bool.and_eq_true] at z
  have z2 := z.2
  unfold Builtin.Int.intTooBig at z2
  have z3 := of_decide_eq_true z2
  rw [e] at z3
  omega
theorem op_mulM : OpR X (binaryOp .Mult) (rI (fun i j => mulOk i j = true) fun i j => .int (i * j)) := opI fun _ _ _ _ _ _ _ hc q => mul_int q (mulOk_ok hc)
theorem op_divM : OpR X (binaryOp .FloorDiv) (rI (fun _ j => 0 < j ∧ j.natAbs.log2 < 9000) fun i j => .int (i / j)) := opI fun i j _ _ _ _ _ hc q => by
  have h1 : (0 : Int) < j := hc.1
  exact floordiv_int (by omega) (by rw [Int.fdiv_eq_ediv_of_nonneg i (by omega)]; exact q) (.inl (PyProof.noPylong_of_log2 hc.2))
theorem sx_sub [TabsI] (ha : SX ct X k1 a da) (hb : SX ct X k2 b db) : SX ct X false (.BinOp a .Sub b pos) (dBin oSub da db) := sx_bin op_sub (fn2_I0 fun _ _ _ _ _ => ⟨rfl, rfl⟩) ha hb
theorem sx_div [TabsI] (ha : SX ct X k1 a da) (hb : SX ct X k2 b db) : SX ct X false (.BinOp a .FloorDiv b pos) (dBin oDiv da db) :=
  sx_bin op_divM (fn2_I (fun i j h => by rw [Bool.and_eq_true] at h; exact ⟨of_decide_eq_true h.1, of_decide_eq_true h.2⟩) fun _ _ _ _ _ => ⟨rfl, rfl⟩) ha hb
theorem sx_mod [TabsI] (ha : SX ct X k1 a da) (hb : SX ct X k2 b db) : SX ct X false (.BinOp a .Mod b pos) (dBin oMod da db) := sx_bin op_mod (fn2_I (fun _ _ h => of_decide_eq_true h) fun _ _ _ _ _ => ⟨rfl, rfl⟩) ha hb
/-! == of data -/
mutual
def toPy : O → PyData
  | .non => .none
  | .bl b => .bool b
  | .int i => .int i
  | .str s => .str s
  | .tup os => .tuple (toPys os)
  | .lst _ os => .list (toPys os)
  | .dct _ _ _ => .dict []
  | .ins _ _ _ _ => .dict []
  | .exc _ => .dict []
  | .tls _ => .dict []
  | .dt _ => .dict []
def toPys : List O → List PyData
  | [] => []
  | o :: os => toPy o :: toPys os
end
theorem Rep.list {K : PySem.W.Frag} {F H : Hp} {w : Bool} {os : List O} {v : V} {f : Fp} (le : Same F H) (h : Rep K ct F H (.lst w os) v f) : ∃ a xs g, v = .ref a ∧ SqL K H a xs ∧ Reps K ct F H os xs g ∧ ∀ b, g b ≤ f b := by
  cases w with
  | false =>
    obtain ⟨a, xs, e, s, r, ef⟩ := h
    exact ⟨a, xs, zf, e, Same.seq le s, r, fun _ => Nat.zero_le _⟩
  | true =>
    obtain ⟨a, xs, g, e, s, r, ef⟩ := h
    exact ⟨a, xs, g, e, SqL.of s, r, fun b => by rw [ef]; exact Nat.le_add_left _ _⟩
mutual
theorem Rep.dp {K : PySem.W.Frag} {F H : Hp} (le : Same F H) : ∀ {o : O} {v : V} {f : Fp}, (toPy o).canLay0 = true → Rep K ct F H o v f → Dp K H v (toPy o)
  | .non, _, _, _, h => by obtain ⟨e, _⟩ := h; subst e; exact .non
  | .bl b, _, _, _, h => by obtain ⟨e, _⟩ := h; subst e; exact .bl b
  | .int b, _, _, _, h => by obtain ⟨e, _⟩ := h; subst e; exact .int b
  | .str b, _, _, _, h => by obtain ⟨e, _⟩ := h; subst e; exact .str b
  | .tup os, v, f, c, h => by
    obtain ⟨a, xs, e, s, r⟩ := h
    subst e
    rw [toPy]
    rw [toPy, PyData.canLay0] at c
    exact .tup (Same.seqT le s) (Reps.dp le c r)
  | .lst w os, v, f, c, h => by
    obtain ⟨a, xs, g, e, s, r, _⟩ := Rep.list le h
    subst e
    rw [toPy]
    rw [toPy, PyData.canLay0] at c
    exact .lst s (Reps.dp le c r)
  | .dct _ _ _, _, _, c, _ => by rw [toPy, PyData.canLay0] at c; cases c
  | .ins _ _ _ _, _, _, c, _ => by rw [toPy, PyData.canLay0] at c; cases c
  | .exc _, _, _, c, _ => by rw [toPy, PyData.canLay0] at c; cases c
  | .tls _, _, _, c, _ => by rw [toPy, PyData.canLay0] at c; cases c
  | .dt _, _, _, c, _ => by rw [toPy, PyData.canLay0] at c; cases c
theorem Reps.dp {K : PySem.W.Frag} {F H : Hp} (le : Same F H) : ∀ {os : List O} {vs : List V} {f : Fp}, PyData.canLayAll0 (toPys os) = true → Reps K ct F H os vs f → DpAll K H vs (toPys os)
  | [], _, _, _, h => by obtain ⟨e, _⟩ := h; subst e; exact .nil
  | o :: os, vs, f, c, h => by
    obtain ⟨v, vr, g, l, e, r, rs, ef⟩ := h
    subst e
    rw [toPys, PyData.canLayAll0, Bool.and_eq_true] at c
    rw [toPys]
    exact .cons (Rep.dp le c.1 r) (Reps.dp le c.2 rs)
end
def oEq0 (x y : O) : Option O := if SeqAt.shaped (toPy x) && SeqAt.shaped (toPy y) then some (.bl (PyData.eqv (toPy x) (toPy y))) else none
def oNe0 (x y : O) : Option O := if SeqAt.shaped (toPy x) && SeqAt.shaped (toPy y) then some (.bl (!PyData.eqv (toPy x) (toPy y))) else none
noncomputable def oEq := hid oEq0
noncomputable def oNe := hid oNe0
theorem oEq_def : oEq = oEq0 := hid_eq _
theorem oNe_def : oNe = oNe0 := hid_eq _
theorem fn2_eq [TabsI] : Fn2 X ct (rEqD X.K) oEq := by
  intro F H x y z u v g h Q le rx ry e q
  rw [oEq_def] at e
  unfold oEq0 at e
  split at e
  · rename_i c
    rw [Bool.and_eq_true] at c
    cases e
    exact ⟨toPy x, toPy y, rx.dp le (SeqAt.canLay_of_shaped c.1), ry.dp le (SeqAt.canLay_of_shaped c.2), c.1, c.2, q.scal le fun _ _ => ⟨rfl, rfl⟩⟩
  · cases e
theorem fn2_ne [TabsI] : Fn2 X ct (rNeD X.K) oNe := by
  intro F H x y z u v g h Q le rx ry e q
  rw [oNe_def] at e
  unfold oNe0 at e
  split at e
  · rename_i c
    rw [Bool.and_eq_true] at c
    cases e
    exact ⟨toPy x, toPy y, rx.dp le (SeqAt.canLay_of_shaped c.1), ry.dp le (SeqAt.canLay_of_shaped c.2), c.1, c.2, q.scal le fun _ _ => ⟨rfl, rfl⟩⟩
  · cases e
theorem sx_eq [TabsI] (hu : X.A.units + 64 < cLine) (ha : SX ct X k1 a da) (hb : SX ct X k2 b db) : SX ct X false (.Compare a [.Eq] [b] pos) (dBin oEq da db) := sx_cmp (op_eqD hu) fn2_eq ha hb (nomark _)
theorem sx_ne [TabsI] (hu : X.A.units + 64 < cLine) (ha : SX ct X k1 a da) (hb : SX ct X k2 b db) : SX ct X false (.Compare a [.NotEq] [b] pos) (dBin oNe da db) := sx_cmp (op_neD hu) fn2_ne ha hb (nomark _)
/-! one-place operations on ints -/
def negO : O → Option O
  | .int i => some (.int (-i))
  | _ => none
theorem sx_neg [TabsI] (ha : SX ct X k a da) : SX ct X false (.UnaryOp .USub a pos) (dBind da negO) := by
  refine PE.imp (pe_un un_neg ha) fun σ H Q h => ?_
  obtain ⟨F, ρ, f, o, s, e, q⟩ := h
  obtain ⟨x, e1, e2⟩ := dBind_some e
  refine ⟨F, ρ, f, x, s, e1, fun u F1 H1 g ex1 r1 gd1 => ?_⟩
  unfold negO at e2
  split at e2
  · cases e2
    exact ⟨_, r1.1, (q.go (f' := zf) ex1).scal ex1.le fun _ _ => ⟨rfl, rfl⟩⟩
  · cases e2
/-! items -/
theorem Reps.at {K : PySem.W.Frag} {F H : Hp} : ∀ {os : List O} {vs : List V} {f : Fp} {j : Nat} {o : O}, Reps K ct F H os vs f → os[j]? = some o → ∃ v g, vs[j]? = some v ∧ Rep K ct F H o v g ∧ ∀ a, g a ≤ f a
  | [], _, _, _, _, _, e => by simp at e
  | o' :: os, vs, f, 0, o, h, e => by
    obtain ⟨v, vr, g, l, ev, r, rs, ef⟩ := h
    subst ev
    have e' : o' = o := by simpa using e
    subst e'
    exact ⟨v, g, rfl, r, fun a => by rw [ef]; exact Nat.le_add_right _ _⟩
  | o' :: os, vs, f, j + 1, o, h, e => by
    obtain ⟨v, vr, g, l, ev, r, rs, ef⟩ := h
    subst ev
    obtain ⟨v', g', e1, r1, l1⟩ := Reps.at (j := j) (o := o) rs (by simpa using e)
    exact ⟨v', g', by simpa using e1, r1, fun a => by rw [ef]; exact Nat.le_trans (l1 a) (Nat.le_add_left _ _)⟩
theorem Reps.length {K : PySem.W.Frag} {F H : Hp} : ∀ {os : List O} {vs : List V} {f : Fp}, Reps K ct F H os vs f → os.length = vs.length
  | [], vs, _, h => by rw [show vs = [] from h.1]; rfl
  | o' :: os, vs, f, h => by
    obtain ⟨v, vr, g, l, ev, r, rs, ef⟩ := h
    subst ev
    simp [Reps.length rs]
theorem Reps.atI {K : PySem.W.Frag} {F H : Hp} {os : List O} {vs : List V} {f : Fp} {i : Int} {o : O} (h : Reps K ct F H os vs f) (e : atI os i = some o) : ∃ v g, atI vs i = some v ∧ Rep K ct F H o v g ∧ ∀ a, g a ≤ f a := by
  unfold L2.atI at e ⊢
  rw [← h.length]
  cases q : ixN os.length i with
  | none => rw [q] at e; cases e
  | some j =>
    rw [q] at e
    exact h.at e
def oIdx : O → O → Option O
  | .tup os, .int i => atI os i
  | .lst _ os, .int i => atI os i
  | .str z, .int i => if z.length ≤ sizeLine then (atI z.cps.toList i).map fun c => .str ⟨#[c]⟩ else none
  | _, _ => none
theorem sx_idx [TabsI] (ha : SX ct X k a da) (hb : SX ct X k2 b db) (hs : PlainIx b := by intro _ _; rfl) : SX ct X k (.Subscript a b pos) (dBin oIdx da db) := by
  refine PE.imp (pe_ix ix_seq ha hb hs) fun σ H Q h => ?_
  obtain ⟨F, ρ, f, o, s, e, q⟩ := h
  obtain ⟨x, y, e1, e2, e3⟩ := dBin_some e
  refine ⟨F, ρ, f, x, s, e1, fun u F1 H1 g ex1 r1 gd1 => ?_⟩
  refine ⟨F1, ρ, f, y, s.ext ex1, e2, fun v F2 H2 h ex2 r2 gd2 => ?_⟩
  have r1' := r1.ext ex2
  have gd : ∀ g', (∀ a, g' a ≤ g a) → Gd k f H F2 g' := fun g' l => by
    have z := gd1.sub l
    unfold Gd at z ⊢
    split
    · rw [if_pos (by assumption)] at z; exact z
    · rw [if_neg (by assumption)] at z
      refine ⟨z.1, z.2.1, fun a n => none_of_nn fun w => ?_⟩
      rcases ex2.new a w with w | w
      · exact w (z.2.2 a n)
      · obtain ⟨_, w', _⟩ := r1.mem a (by have := l a; omega)
        rw [w] at w'; cases w'
  unfold oIdx at e3
  split at e3
  · obtain ⟨p, xs, ev, sq, rs⟩ := r1'
    obtain ⟨w, g', e4, r4, l4⟩ := rs.atI e3
    exact .inr (.inl ⟨p, xs, _, w, ev, r2.1, Same.seqT ex2.le sq, e4, q w F2 H2 g' (ex1.trans ex2) r4 (gd g' l4)⟩)
  · obtain ⟨p, xs, gx, ev, sq, rs, lx⟩ := Rep.list ex2.le r1'
    obtain ⟨w, g', e4, r4, l4⟩ := rs.atI e3
    exact .inl ⟨p, xs, _, w, ev, r2.1, sq, e4, q w F2 H2 g' (ex1.trans ex2) r4 (gd g' fun a => Nat.le_trans (l4 a) (lx a))⟩
  · split at e3
    · rename_i z i hz
      cases e4 : atI z.cps.toList i with
      | none => rw [e4] at e3; cases e3
      | some c =>
        rw [e4] at e3
        cases e3
        exact .inr (.inr ⟨z, i, c, r1'.1, r2.1, hz, e4, q _ F2 H2 zf (ex1.trans ex2) ⟨rfl, rfl⟩ Gd.zero⟩)
    · cases e3
  · cases e3
end
end Mini
namespace Mini
open PySem PySem.Spec PyProof.Rows L2
/-! argument lists -/
/-- the parts of variables (gb) and the new values (gv) -/
def ARep (K : PySem.W.Frag) (ct : Nat → Addr) (F H : Hp) : List Bool → List O → List V → Fp → Fp → Prop
  | [], [], vs, gb, gv => vs = [] ∧ gb = zf ∧ gv = zf
  | true :: ks, o :: os, vs, gb, gv => ∃ v vr g h, vs = v :: vr ∧ Rep K ct F H o v g ∧ ARep K ct F H ks os vr h gv ∧ gb = fun a => g a + h a
  | false :: ks, o :: os, vs, gb, gv => ∃ v vr g h, vs = v :: vr ∧ Rep K ct F H o v g ∧ ARep K ct F H ks os vr gb h ∧ gv = fun a => g a + h a
  | _, _, _, _, _ => False
def tA [TabsI] (ct : Nat → Addr) (K : PySem.W.Frag) (ks : List Bool) (d : Env → Option (List O)) : TA := fun σ H Q =>
  ∃ F ρ f os, Sit K ct F H ρ σ f ∧ d ρ = some os ∧ ∀ vs F' H' gb gv, Ext F H F' H' → ARep K ct F' H' ks os vs gb gv → (∀ a, gb a ≠ 0 → f a ≠ 0) → Gd false f H F' gv → Q vs H'
def SA [TabsI] (ct : Nat → Addr) (X : Cx) (ks : List Bool) (es : List Expr) (d : Env → Option (List O)) : Prop := PA X es (tA ct X.K ks d)
def dNil : Env → Option (List O) := fun _ => some []
def dCons (d : Env → Option O) (ds : Env → Option (List O)) : Env → Option (List O) := fun ρ => match d ρ with
  | some o => match ds ρ with
    | some os => some (o :: os)
    | none => none
  | none => none
theorem dCons_some {d : Env → Option O} {ds : Env → Option (List O)} {ρ : Env} {z : List O} (h : dCons d ds ρ = some z) : ∃ o os, d ρ = some o ∧ ds ρ = some os ∧ z = o :: os := by
  unfold dCons at h
  split at h
  · split at h
    · cases h; exact ⟨_, _, by assumption, by assumption, rfl⟩
    · cases h
  · cases h
section
variable {ct : Nat → Addr} {X : Cx} {e : Expr} {es : List Expr} {d : Env → Option O} {ds : Env → Option (List O)} {k : Bool} {ks : List Bool}
theorem ARep.ext [TabsI] {K : PySem.W.Frag} {F H F' H' : Hp} (e : Ext F H F' H') : ∀ {ks : List Bool} {os : List O} {vs : List V} {gb gv : Fp}, ARep K ct F H ks os vs gb gv → ARep K ct F' H' ks os vs gb gv
  | [], [], _, _, _, h => h
  | true :: ks, o :: os, _, _, _, h => by
    obtain ⟨v, vr, g, l, e1, r, rs, e2⟩ := h
    exact ⟨v, vr, g, l, e1, r.ext e, ARep.ext e rs, e2⟩
  | false :: ks, o :: os, _, _, _, h => by
    obtain ⟨v, vr, g, l, e1, r, rs, e2⟩ := h
    exact ⟨v, vr, g, l, e1, r.ext e, ARep.ext e rs, e2⟩
  | [], _ :: _, _, _, _, h => (show False from h).elim
  | true :: _, [], _, _, _, h => (show False from h).elim
  | false :: _, [], _, _, _, h => (show False from h).elim
theorem sa_nil [TabsI] : SA ct X [] [] dNil := by
  refine PA.imp pa_nil fun σ H Q h => ?_
  obtain ⟨F, ρ, f, os, s, e, q⟩ := h
  cases e
  exact q [] F H zf zf (Ext.refl s.wf.le) ⟨rfl, rfl, rfl⟩ (fun _ h => absurd rfl h) Gd.zero
theorem sa_cons [TabsI] (h1 : SX ct X k e d) (h2 : SA ct X ks es ds) (hs : starEach (e :: es) X.env = (false, eval e X.env) :: starEach es X.env := by rfl) : SA ct X (k :: ks) (e :: es) (dCons d ds) := by
  refine PA.imp (pa_cons h1 h2 hs) fun σ H Q h => ?_
  obtain ⟨F, ρ, f, os, s, e, q⟩ := h
  obtain ⟨o, os', e1, e2, rfl⟩ := dCons_some e
  refine ⟨F, ρ, f, o, s, e1, fun v F1 H1 g ex1 r1 gd1 => ?_⟩
  refine ⟨F1, ρ, f, os', s.ext ex1, e2, fun vs F2 H2 gb gv ex2 r2 hb hv => ?_⟩
  obtain ⟨n1, n2, n3⟩ := hv.n
  have r1' := r1.ext ex2
  cases k with
  | true =>
    refine q (v :: vs) F2 H2 (fun a => g a + gb a) gv (ex1.trans ex2) ⟨v, vs, g, gb, rfl, r1', r2, rfl⟩ (fun a ha => ?_) (Gd.mkn n1 (fun a q => ex1.hH.free (n2 a q)) n3)
    by_cases z : g a = 0
    · exact hb a (by omega)
    · have := gd1.b a; omega
  | false =>
    obtain ⟨m1, m2, m3⟩ := gd1.n
    have sep : ∀ a, g a ≠ 0 → gv a = 0 := fun a z => by
      obtain ⟨u, hu, _⟩ := r1.mem a z
      by_cases w : gv a = 0
      · exact w
      · have := n2 a w; rw [hu] at this; cases this
    refine q (v :: vs) F2 H2 gb (fun a => g a + gv a) (ex1.trans ex2) ⟨v, vs, g, gv, rfl, r1', r2, rfl⟩ hb (Gd.mkn (fun a => ?_) (fun a z => ?_) fun a z => ?_)
    · have := m1 a; have := n1 a; have := sep a
      show g a + gv a ≤ 1
      omega
    · by_cases w : g a = 0
      · exact ex1.hH.free (n2 a (by have z' : g a + gv a ≠ 0 := z; omega))
      · exact m2 a w
    · by_cases w : g a = 0
      · exact n3 a (by have z' : g a + gv a ≠ 0 := z; omega)
      · refine none_of_nn fun y => ?_
        rcases ex2.new a y with y | y
        · exact y (m3 a w)
        · obtain ⟨u, hu, _⟩ := r1.mem a w
          rw [hu] at y; cases y
/-- all are new values -/
theorem ARep.vals {K : PySem.W.Frag} {F H : Hp} : ∀ {ks : List Bool} {os : List O} {vs : List V} {gb gv : Fp}, ks.any id = false → ARep K ct F H ks os vs gb gv → Reps K ct F H os vs gv
  | [], [], _, _, _, _, h => ⟨h.1, h.2.2⟩
  | true :: ks, o :: os, _, _, _, z, h => by simp at z
  | false :: ks, o :: os, _, _, _, z, h => by
    obtain ⟨v, vr, g, l, e1, r, rs, e2⟩ := h
    exact ⟨v, vr, g, l, e1, r, ARep.vals (by simpa using z) rs, e2⟩
  | [], _ :: _, _, _, _, _, h => (show False from h).elim
  | true :: _, [], _, _, _, _, h => (show False from h).elim
  | false :: _, [], _, _, _, _, h => (show False from h).elim
/-! displays -/
def dTup (ds : Env → Option (List O)) : Env → Option O := fun ρ => match ds ρ with
  | some os => if os.length ≤ sizeLine then some (.tup os) else none
  | none => none
def dLst (ds : Env → Option (List O)) : Env → Option O := fun ρ => match ds ρ with
  | some os => if os.length ≤ sizeLine then some (.lst true os) else none
  | none => none
theorem sx_tup [TabsI] {x1 pos} (h : SA ct X ks es ds) (hk : ks.any id = false := by rfl) : SX ct X false (.Tuple es x1 pos) (dTup ds) := by
  refine PE.imp (pe_tup h) fun σ H Q h => ?_
  obtain ⟨F, ρ, f, o, s, e, q⟩ := h
  unfold dTup at e
  split at e
  · rename_i os e1
    split at e
    · cases e
      refine ⟨F, ρ, f, os, s, e1, fun vs F1 H1 gb gv ex ar hb hv => ?_⟩
      have r := ar.vals hk
      obtain ⟨n1, n2, n3⟩ := hv.n
      refine ⟨by rw [← r.length]; assumption, fun p np => ?_⟩
      have hFp : F1 p = none := ex.le.free np
      have neq : ∀ a, gv a ≠ 0 → a ≠ p := fun a z y => by
        subst y
        obtain ⟨u, hu, _⟩ := r.mem a z
        rw [np] at hu; cases hu
      have e2 : Ext F1 H1 (upd F1 p (.tup vs)) (upd H1 p (.tup vs)) := by
        refine ⟨fun b o hb => by rw [upd_ne (ne_of_none hb hFp)]; exact hb, (Same.t fun b o hb => by rw [upd_ne (ne_of_none hb np)]; exact hb), fun b o hb => ?_, fun a ha => ?_⟩
        · by_cases y : b = p
          · subst y; rw [upd_same] at hb ⊢; exact hb
          · rw [upd_ne y] at hb ⊢; exact ex.le b o hb
        · by_cases y : a = p
          · subst y; exact .inr np
          · rw [upd_ne y] at ha; exact .inl ha
      refine q (.ref p) _ _ gv (ex.trans e2) ⟨p, vs, rfl, .inl (.inl upd_same), r.ext e2⟩ (Gd.mkn n1 n2 fun a z => ?_)
      rw [upd_ne (neq a z)]
      exact n3 a z
    · cases e
  · cases e
theorem sx_lst [TabsI] {pos} (h : SA ct X ks es ds) (hk : ks.any id = false := by rfl) : SX ct X false (.List es pos) (dLst ds) := by
  refine PE.imp (pe_lst h) fun σ H Q h => ?_
  obtain ⟨F, ρ, f, o, s, e, q⟩ := h
  unfold dLst at e
  split at e
  · rename_i os e1
    split at e
    · cases e
      refine ⟨F, ρ, f, os, s, e1, fun vs F1 H1 gb gv ex ar hb hv => ?_⟩
      have r := ar.vals hk
      obtain ⟨n1, n2, n3⟩ := hv.n
      refine ⟨by rw [← r.length]; assumption, fun p np => ?_⟩
      have hFp : F1 p = none := ex.le.free np
      have neq : ∀ a, gv a ≠ 0 → a ≠ p := fun a z y => by
        subst y
        obtain ⟨u, hu, _⟩ := r.mem a z
        rw [np] at hu; cases hu
      have gp : gv p = 0 := Classical.byContradiction fun z => neq p z rfl
      have e2 : Ext F1 H1 F1 (upd H1 p (.lst vs)) :=
        ⟨Same.refl _, (Same.t fun b o hb => by rw [upd_ne (ne_of_none hb np)]; exact hb), fun b o hb => by rw [upd_ne (ne_of_none hb hFp)]; exact ex.le b o hb, fun a ha => .inl ha⟩
      refine q (.ref p) _ _ (bump p gv) (ex.trans e2) ⟨p, vs, gv, rfl, upd_same, r.ext e2, rfl⟩ (Gd.mkn (fun a => ?_) (fun a z => ?_) fun a z => ?_)
      · have := n1 a
        unfold bump
        by_cases y : a = p
        · subst y; rw [if_pos rfl]; omega
        · rw [if_neg y]; omega
      · by_cases y : a = p
        · subst y; exact ex.hH.free np
        · exact n2 a (by simpa [bump, y] using z)
      · by_cases y : a = p
        · subst y; exact hFp
        · exact n3 a (by simpa [bump, y] using z)
    · cases e
  · cases e
/-! calls of built-ins -/
def Fn1 [TabsI] (X : Cx) (ct : Nat → Addr) (r : List V → Hp → VK → Prop) (fn : O → Option O) : Prop :=
  ∀ F H x z u g Q, Same F H → Rep X.K ct F H x u g → fn x = some z → Kn X.K ct false zf F H z Q → r [u] H Q
variable {a b : Expr} {da db : Env → Option O} {k1 k2 : Bool} {x : Str} {p pos : Pos} {id T : String} {r : List V → Hp → VK → Prop} {fn1 : O → Option O} {fn2 : O → O → Option O}
theorem arg1_go [TabsI] {fn : O → Option O} (hr : Fn1 X ct r fn) {σ : L2.St} {H : Hp} {Q : VK} (h : tX ct X.K false (dBind da fn) σ H Q) : tCB r (tCons (tX ct X.K k1 da) tNil) σ H Q := by
  obtain ⟨F, ρ, f, o, s, e, q⟩ := h
  obtain ⟨x, e1, e2⟩ := dBind_some e
  exact ⟨F, ρ, f, x, s, e1, fun u F1 H1 g ex1 r1 gd1 => hr F1 H1 x o u g Q ex1.le r1 e2 (q.go ex1)⟩
theorem sx_b1 [TabsI] (hc : CallR X (.builtin id) r) (hr : Fn1 X ct r fn1) (hm : X.mg x = none) (hv : bootBuiltins x = some (.builtin id)) (ha : SX ct X k1 a da) (hg : Gl X x := by rfl) (hn : x ≠ "__name__" := by decide) (hdb : (x == ("__debug__" : Str)) = false := by decide)
    (he : starEach [a] X.env = [(false, eval a X.env)] := by rfl) : SX ct X false (.Call (.Name x p) [a] [] pos) (dBind da fn1) :=
  PE.imp (pe_callB hc hg hm hv (pa_cons ha pa_nil he) hn hdb he rfl) fun σ H Q h => arg1_go hr h
theorem sx_t1 [TabsI] (hc : CallR X (.type T) r) (hr : Fn1 X ct r fn1) (hm : X.mg x = none) (hv : bootBuiltins x = some (.type T)) (ha : SX ct X k1 a da) (hg : Gl X x := by rfl) (hn : x ≠ "__name__" := by decide) (hdb : (x == ("__debug__" : Str)) = false := by decide)
    (he : starEach [a] X.env = [(false, eval a X.env)] := by rfl) : SX ct X false (.Call (.Name x p) [a] [] pos) (dBind da fn1) :=
  PE.imp (pe_callTy hc hg hm hv (pa_cons ha pa_nil he) hn hdb he rfl) fun σ H Q h => arg1_go hr h
def oLen : O → Option O
  | .str z => if z.length ≤ sizeLine then some (.int z.length) else none
  | .tup os => some (.int os.length)
  | .lst _ os => some (.int os.length)
  | _ => none
theorem fn_len [TabsI] : Fn1 X ct (fun xs H Q => ∃ x n, xs = [x] ∧ LenV X.K x H n ∧ Q (.int n) H) oLen := by
  intro F H x z u g Q le r e q
  unfold oLen at e
  split at e
  · rename_i z'
    split at e
    · cases e
      obtain ⟨rfl, _⟩ := r
      exact ⟨.str z', _, rfl, ⟨by assumption, rfl⟩, q.scal le fun _ _ => ⟨rfl, rfl⟩⟩
    · cases e
  · cases e
    obtain ⟨a, xs, rfl, s, rs⟩ := r
    exact ⟨.ref a, _, rfl, .inr ⟨xs, Same.seqT le s, rfl⟩, by rw [← rs.length]; exact q.scal le fun _ _ => ⟨rfl, rfl⟩⟩
  · cases e
    obtain ⟨a, xs, g', rfl, s, rs, _⟩ := Rep.list le r
    exact ⟨.ref a, _, rfl, .inl ⟨xs, s, rfl⟩, by rw [← rs.length]; exact q.scal le fun _ _ => ⟨rfl, rfl⟩⟩
  · cases e
theorem sx_len [TabsI] (hm : X.mg "len" = none) (ha : SX ct X k1 a da) (hg : Gl X "len" := by rfl) (he : starEach [a] X.env = [(false, eval a X.env)] := by rfl) : SX ct X false (.Call (.Name "len" p) [a] [] pos) (dBind da oLen) :=
  sx_b1 call_len fn_len hm PySem.boot_len ha hg (by decide) (by decide) he
def oInt : O → Option O
  | .int i => some (.int i)
  | .bl k => some (.int (if k then 1 else 0))
  | _ => none
theorem fn_int [TabsI] : Fn1 X ct (fun xs H Q => (∃ i, xs = [.int i] ∧ Q (.int i) H) ∨ ∃ k, xs = [.bl k] ∧ Q (.int (if k then 1 else 0)) H) oInt := by
  intro F H x z u g Q le r e q
  unfold oInt at e
  split at e
  · cases e; obtain ⟨rfl, _⟩ := r; exact .inl ⟨_, rfl, q.scal le fun _ _ => ⟨rfl, rfl⟩⟩
  · cases e; obtain ⟨rfl, _⟩ := r; exact .inr ⟨_, rfl, q.scal le fun _ _ => ⟨rfl, rfl⟩⟩
  · cases e
theorem sx_int1 [TabsI] (hm : X.mg "int" = none) (ha : SX ct X k1 a da) (hg : Gl X "int" := by rfl) (he : starEach [a] X.env = [(false, eval a X.env)] := by rfl) : SX ct X false (.Call (.Name "int" p) [a] [] pos) (dBind da oInt) :=
  sx_t1 call_int1 fn_int hm (by decide +kernel) ha hg (by decide) (by decide) he
def oAbs : O → Option O
  | .int i => some (.int (if i < 0 then -i else i))
  | _ => none
theorem sx_abs [TabsI] (hm : X.mg "abs" = none) (ha : SX ct X k1 a da) (hg : Gl X "abs" := by rfl) (he : starEach [a] X.env = [(false, eval a X.env)] := by rfl) : SX ct X false (.Call (.Name "abs" p) [a] [] pos) (dBind da oAbs) := by
  refine sx_b1 call_abs ?_ hm (by decide +kernel) ha hg (by decide) (by decide) he
  intro F H x z u g Q le r e q
  unfold oAbs at e
  split at e
  · cases e; obtain ⟨rfl, _⟩ := r; exact ⟨_, rfl, q.scal le fun _ _ => ⟨rfl, rfl⟩⟩
  · cases e
def oMax := intsO (fun _ _ => true) fun i j => .int (if j > i then j else i)
def oMin := intsO (fun _ _ => true) fun i j => .int (if j < i then j else i)
/-! isinstance with a built-in class -/
def tyN : O → Option String
  | .non => some "NoneType"
  | .bl _ => some "bool"
  | .int _ => some "int"
  | .str _ => some "str"
  | .tup _ => some "tuple"
  | .lst _ _ => some "list"
  | .dct true _ _ => some "dict"
  | .dct false _ _ => none
  | .ins _ _ _ _ => none
  | .exc _ => none
  | .tls _ => none
  | .dt _ => none
def oIsi (T : String) (o : O) : Option O := match tyN o with
  | some t => (kitB t T).map .bl
  | none => none
theorem Rep.ty {K : PySem.W.Frag} {F H : Hp} {o : O} {v : V} {f : Fp} {t : String} (le : Same F H) (r : Rep K ct F H o v f) (e : tyN o = some t) : TyX K H v (.type t) := by
  cases o with
  | non => cases e; obtain ⟨rfl, _⟩ := r; exact .base .non
  | bl b => cases e; obtain ⟨rfl, _⟩ := r; exact .base (.bl _)
  | int i => cases e; obtain ⟨rfl, _⟩ := r; exact .base (.int _)
  | str s => cases e; obtain ⟨rfl, _⟩ := r; exact .base (.str _)
  | tup os =>
    cases e
    obtain ⟨a, xs, rfl, s, _⟩ := r
    rcases Same.seqT le s with (s | ⟨o, s⟩) | ⟨o, its, n, hk, hc, _⟩
    · exact .base (.tup s)
    · exact .fTuple s
    · exact .kTuple hk hc
  | lst w os =>
    cases e
    obtain ⟨a, xs, _, rfl, s, _⟩ := Rep.list le r
    rcases s with (s | ⟨o, s⟩) | ⟨o, its, n, hk, hc, _⟩
    · exact .base (.lst s)
    · exact .base (.frz s)
    · exact .kList hk hc
  | dct w ks os =>
    cases w with
    | false => cases e
    | true => cases e; obtain ⟨a, kvs, g, rfl, s, _⟩ := r; exact .base (.dK s)
  | ins w c ns os => cases e
  | exc a => cases e
  | tls _ => cases e
  | dt _ => cases e
theorem sx_isi [TabsI] (hm : X.mg "isinstance" = none) {T' : Str} {p2 : Pos} (hmT : X.mg T' = none) (hvT : bootBuiltins T' = some (.type T)) (ha : SX ct X k1 a da) (hg : Gl X "isinstance" := by rfl) (hgT : Gl X T' := by rfl) (hnT : T' ≠ "__name__" := by decide) (hdT : (T' == ("__debug__" : Str)) = false := by decide)
    (he : starEach [a, .Name T' p2] X.env = (false, eval a X.env) :: starEach [.Name T' p2] X.env := by rfl) :
    SX ct X false (.Call (.Name "isinstance" p) [a, .Name T' p2] [] pos) (dBind da (oIsi T)) := by
  refine PE.imp (pe_callB call_isi hg hm (by decide +kernel) (pa_cons ha (pa_cons (pe_bltn (v := .ty T) hgT hmT hvT rfl hnT hdT) pa_nil) he) (by decide) (by decide) he rfl) fun σ H Q h => ?_
  obtain ⟨F, ρ, f, o, s, e, q⟩ := h
  obtain ⟨x, e1, e2⟩ := dBind_some e
  refine ⟨F, ρ, f, x, s, e1, fun u F1 H1 g ex1 r1 gd1 => ?_⟩
  unfold oIsi at e2
  split at e2
  · rename_i t et
    cases ek : kitB t T with
    | none => rw [ek] at e2; cases e2
    | some b =>
      rw [ek] at e2
      cases e2
      exact ⟨u, .ty T, .type t, .type T, b, rfl, .ty T, r1.ty ex1.le et, kit_ty ek, (q.go (f' := zf) ex1).scal ex1.le fun _ _ => ⟨rfl, rfl⟩⟩
  · cases e2
end
/-! tests -/
def tT [TabsI] (ct : Nat → Addr) (K : PySem.W.Frag) (d : Env → Option Bool) : TT := fun σ H Q =>
  ∃ F ρ f b, Sit K ct F H ρ σ f ∧ d ρ = some b ∧ ∀ F' H', Ext F H F' H' → Q b H'
def ST [TabsI] (ct : Nat → Addr) (X : Cx) (e : Expr) (d : Env → Option Bool) : Prop := PT X e (tT ct X.K d)
def SW [TabsI] (ct : Nat → Addr) (X : Cx) (e : Expr) (d : Env → Option Bool) : Prop := PW X e (tT ct X.K d)
def oTru : O → Option Bool
  | .bl b => some b
  | .non => some false
  | .int i => some (i != 0)
  | .str s => if s.length ≤ sizeLine then some ((s.length : Int) != 0) else none
  | .tup os => some (!os.isEmpty)
  | .lst _ os => some (!os.isEmpty)
  | .dct true _ os => some (!os.isEmpty)
  | .dct false _ _ => none
  | .ins _ _ _ _ => none
  | .exc _ => none
  | .tls _ => none
  | .dt _ => none
def oBool : O → Option Bool
  | .bl b => some b
  | _ => none
def dTru (f : O → Option Bool) (d : Env → Option O) : Env → Option Bool := fun ρ => match d ρ with
  | some o => f o
  | none => none
def bAnd (da db : Env → Option Bool) : Env → Option Bool := fun ρ => match da ρ with
  | some true => db ρ
  | some false => some false
  | none => none
def bOr (da db : Env → Option Bool) : Env → Option Bool := fun ρ => match da ρ with
  | some true => some true
  | some false => db ρ
  | none => none
def bNot (da : Env → Option Bool) : Env → Option Bool := fun ρ => match da ρ with
  | some b => some (!b)
  | none => none
section
variable {ct : Nat → Addr} {X : Cx} {a b e : Expr} {da db d : Env → Option O} {ta tb t : Env → Option Bool} {k k1 k2 : Bool} {pos : Pos} {rest : List Expr}
theorem Reps.isEmpty {K : PySem.W.Frag} {F H : Hp} {os : List O} {vs : List V} {f : Fp} (r : Reps K ct F H os vs f) : os.isEmpty = vs.isEmpty := by
  have h := r.length
  cases os <;> cases vs <;> simp_all
theorem Rep.tru {K : PySem.W.Frag} {F H : Hp} {o : O} {v : V} {f : Fp} {b : Bool} (le : Same F H) (r : Rep K ct F H o v f) (e : oTru o = some b) : TruV K v H b := by
  cases o with
  | non => cases e; obtain ⟨rfl, _⟩ := r; rfl
  | bl b => cases e; obtain ⟨rfl, _⟩ := r; rfl
  | int i => cases e; obtain ⟨rfl, _⟩ := r; rfl
  | str s =>
    obtain ⟨rfl, _⟩ := r
    simp only [oTru] at e
    split at e
    · cases e; exact ⟨by assumption, rfl⟩
    · cases e
  | tup os =>
    cases e
    obtain ⟨a, xs, rfl, s, rs⟩ := r
    exact .inr (.inl ⟨xs, Same.seqT le s, by rw [rs.isEmpty]⟩)
  | lst w os =>
    cases e
    obtain ⟨a, xs, _, rfl, s, rs, _⟩ := Rep.list le r
    exact .inl ⟨xs, s, by rw [rs.isEmpty]⟩
  | dct w ks os =>
    cases w with
    | false => cases e
    | true =>
      cases e
      obtain ⟨a, kvs, g, rfl, s, _, rs, _⟩ := r
      exact .inr (.inr ⟨kvs, s, by rw [rs.isEmpty]; cases kvs <;> rfl⟩)
  | ins w c ns os => cases e
  | exc a => cases e
  | tls _ => cases e
  | dt _ => cases e
/-- a name, a call, a subscript .. as a test -/
theorem st_tru [TabsI] (ha : SX ct X k a da) (he : ∀ whole, isTrue a X.env whole = (do let v ← whole; standAt a.pos; holding [v] (truthy v)) := by intro _; rfl) : ST ct X a (dTru oTru da) := by
  refine PT.imp (pt_truth ha he) fun σ H Q h => ?_
  obtain ⟨F, ρ, f, b, s, e, q⟩ := h
  unfold dTru at e
  split at e
  · rename_i o e1
    exact ⟨F, ρ, f, o, s, e1, fun u F1 H1 g ex1 r1 gd1 => ⟨b, r1.tru ex1.le e, q F1 H1 ex1⟩⟩
  · cases e
theorem st_cmpG [TabsI] {op : CmpOp} {r : R2} {fn : O → O → Option O} (ho : OpR X (compareOp op) r) (hr : Fn2 X ct r fn) (ha : SX ct X k1 a da) (hb : SX ct X k2 b db) (hm : behindInMarks op b = false) : ST ct X (.Compare a [op] [b] pos) (dTru oBool (dBin fn da db)) := by
  refine PT.imp (pt_cmpR ho ha hb hm) fun σ H Q h => ?_
  obtain ⟨F, ρ, f, b, s, e, q⟩ := h
  unfold dTru at e
  split at e
  · rename_i o e1
    refine two_go (ct := ct) (X := X) hr (Q := fun x H' => ∃ k, x = V.bl k ∧ Q k H') ⟨F, ρ, f, o, s, e1, fun v F' H' g ex r gd => ?_⟩
    unfold oBool at e
    split at e
    · cases e
      exact ⟨_, r.1, q F' H' ex⟩
    · cases e
  · cases e
theorem st_lt [TabsI] (ha : SX ct X k1 a da) (hb : SX ct X k2 b db) : ST ct X (.Compare a [.Lt] [b] pos) (dTru oBool (dBin oLt da db)) := st_cmpG op_lt (fn2_I0 fun _ _ _ _ _ => ⟨rfl, rfl⟩) ha hb (nomark _)
theorem st_eq [TabsI] (hu : X.A.units + 64 < cLine) (ha : SX ct X k1 a da) (hb : SX ct X k2 b db) : ST ct X (.Compare a [.Eq] [b] pos) (dTru oBool (dBin oEq da db)) := st_cmpG (op_eqD hu) fn2_eq ha hb (nomark _)
theorem st_ne [TabsI] (hu : X.A.units + 64 < cLine) (ha : SX ct X k1 a da) (hb : SX ct X k2 b db) : ST ct X (.Compare a [.NotEq] [b] pos) (dTru oBool (dBin oNe da db)) := st_cmpG (op_neD hu) fn2_ne ha hb (nomark _)
theorem st_not [TabsI] (ha : ST ct X a ta) : ST ct X (.UnaryOp .Not a pos) (bNot ta) := by
  refine PT.imp (pt_not ha) fun σ H Q h => ?_
  obtain ⟨F, ρ, f, b, s, e, q⟩ := h
  unfold bNot at e
  split at e
  · cases e; exact ⟨F, ρ, f, _, s, by assumption, q⟩
  · cases e
theorem PW.imp {X : Cx} {e : Expr} {t t' : TT} (h : PW X e t) (i : ∀ σ H Q, t' σ H Q → t σ H Q) : PW X e t' :=
  ⟨fun wh pins s σ H Q I hq => h.run wh pins s σ H Q I (i σ H Q hq)⟩
theorem sw_and1 [TabsI] (ha : ST ct X a ta) : SW ct X (.BoolOp .And [a] pos) ta := pw_and1 ha
theorem sw_or1 [TabsI] (ha : ST ct X a ta) : SW ct X (.BoolOp .Or [a] pos) ta := pw_or1 ha
theorem sw_and [TabsI] (ha : ST ct X a ta) (hb : SW ct X (.BoolOp .And (b :: rest) pos) tb) : SW ct X (.BoolOp .And (a :: b :: rest) pos) (bAnd ta tb) := by
  refine PW.imp (pw_and ha hb) fun σ H Q h => ?_
  obtain ⟨F, ρ, f, b, s, e, q⟩ := h
  unfold bAnd at e
  split at e
  · refine ⟨F, ρ, f, true, s, by assumption, fun F1 H1 ex1 => ?_⟩
    refine iteT ?_
    exact ⟨F1, ρ, f, b, s.ext ex1, e, fun F2 H2 ex2 => q F2 H2 (ex1.trans ex2)⟩
  · cases e
    refine ⟨F, ρ, f, false, s, by assumption, fun F1 H1 ex1 => ?_⟩
    refine iteF ?_
    exact q F1 H1 ex1
  · cases e
theorem sw_or [TabsI] (ha : ST ct X a ta) (hb : SW ct X (.BoolOp .Or (b :: rest) pos) tb) : SW ct X (.BoolOp .Or (a :: b :: rest) pos) (bOr ta tb) := by
  refine PW.imp (pw_or ha hb) fun σ H Q h => ?_
  obtain ⟨F, ρ, f, b, s, e, q⟩ := h
  unfold bOr at e
  split at e
  · cases e
    refine ⟨F, ρ, f, true, s, by assumption, fun F1 H1 ex1 => ?_⟩
    refine iteT ?_
    exact q F1 H1 ex1
  · refine ⟨F, ρ, f, false, s, by assumption, fun F1 H1 ex1 => ?_⟩
    refine iteF ?_
    exact ⟨F1, ρ, f, b, s.ext ex1, e, fun F2 H2 ex2 => q F2 H2 (ex1.trans ex2)⟩
  · cases e
theorem st_bool [TabsI] (h : SW ct X e t) : ST ct X e t := PW.pt h
/-! and, or, not as values (bools) -/
def vAnd (da db : Env → Option O) : Env → Option O := fun ρ => match da ρ with
  | some (.bl true) => db ρ
  | some (.bl false) => some (.bl false)
  | _ => none
def vOr (da db : Env → Option O) : Env → Option O := fun ρ => match da ρ with
  | some (.bl true) => some (.bl true)
  | some (.bl false) => db ρ
  | _ => none
def oNot : O → Option O
  | .bl b => some (.bl (!b))
  | _ => none
theorem Kn.go0 [TabsI] {K : PySem.W.Frag} {f : Fp} {F H F1 H1 : Hp} {o : O} {Q : VK} (h : Kn K ct false f F H o Q) (e : Ext F H F1 H1) : Kn K ct false f F1 H1 o Q := h.go e
theorem sx_one [TabsI] {op} (h : SX ct X k a da) : SX ct X k (.BoolOp op [a] pos) da := pe_one h
theorem sx_and [TabsI] (ha : SX ct X k1 a da) (hb : SX ct X false (.BoolOp .And (b :: rest) pos) db) : SX ct X false (.BoolOp .And (a :: b :: rest) pos) (vAnd da db) := by
  refine PE.imp (pe_and ha hb) fun σ H Q h => ?_
  obtain ⟨F, ρ, f, o, s, e, q⟩ := h
  unfold vAnd at e
  split at e
  · refine ⟨F, ρ, f, .bl true, s, by assumption, fun v F1 H1 g ex1 r1 gd1 => ⟨true, r1.1, ?_⟩⟩
    refine iteT ?_
    exact ⟨F1, ρ, f, o, s.ext ex1, e, q.go0 ex1⟩
  · cases e
    refine ⟨F, ρ, f, .bl false, s, by assumption, fun v F1 H1 g ex1 r1 gd1 => ⟨false, r1.1, ?_⟩⟩
    refine iteF ?_
    exact (q.go0 ex1).scal ex1.le fun _ _ => ⟨rfl, rfl⟩
  · cases e
theorem sx_not [TabsI] (ha : SX ct X k a da) : SX ct X false (.UnaryOp .Not a pos) (dBind da oNot) := by
  refine PE.imp (pe_not ha) fun σ H Q h => ?_
  obtain ⟨F, ρ, f, o, s, e, q⟩ := h
  obtain ⟨x, e1, e2⟩ := dBind_some e
  refine ⟨F, ρ, f, x, s, e1, fun v F1 H1 g ex1 r1 gd1 => ?_⟩
  unfold oNot at e2
  split at e2
  · cases e2
    exact ⟨_, r1.1, (q.go0 ex1).scal ex1.le fun _ _ => ⟨rfl, rfl⟩⟩
  · cases e2
def dIte (t : Env → Option Bool) (da db : Env → Option O) : Env → Option O := fun ρ => match t ρ with
  | some true => da ρ
  | some false => db ρ
  | none => none
end
end Mini
namespace Mini
open PySem PySem.Spec PyProof.Rows L2
structure Stp [TabsI] (F H : Hp) (f : Fp) (F' H' : Hp) (f' : Fp) : Prop where
  hF : Same F F'
  wf : Wf F' H' f'
  frame : ∀ a o, H a = some o → f a = 0 → NTb a o → H' a = some o
  tb : ∀ a ps, H a = some (.tbl ps) → ∃ ps', H' a = some (.tbl ps')
  new : ∀ a, (f' a ≠ 0 ∨ F' a ≠ none) → F a ≠ none ∨ H a = none ∨ f a ≠ 0
section
variable {F H F1 H1 F2 H2 F' H' : Hp} {f f1 f2 f' g : Fp}
def NtC (u : HO) : Prop := match u with
  | .tbl _ => False
  | .ext P => ∀ c q, HO.ext P ≠ LamX.CodeO c q
  | _ => True
/-- a write to what is no table and no code leaves the tables -/
theorem tabs_upd {T : List (Addr × Str)} {a : Addr} {o' : HO} (t : LamX.Tabs T H) (h : ∃ u, H a = some u ∧ NtC u) : LamX.Tabs T (upd H a o') := by
  intro p hp
  obtain ⟨ps, h1, h2, h3⟩ := t p hp
  obtain ⟨u, hu, ou⟩ := h
  have n : ∀ b w, H b = some w → ¬ NtC w → b ≠ a := fun b w hb nw z => by subst z; rw [hu] at hb; cases hb; exact nw ou
  refine ⟨ps, by rw [upd_ne (n _ _ h1 fun z => z)]; exact h1, h2, fun pos cv hc => ?_⟩
  obtain ⟨c, e1, e2⟩ := h3 pos cv hc
  exact ⟨c, e1, by rw [upd_ne (n _ _ e2 fun z => z _ _ rfl)]; exact e2⟩
theorem tb_upd {a : Addr} {o' : HO} (h : ∃ u, H a = some u ∧ NtC u) : ∀ b ps, H b = some (.tbl ps) → ∃ ps', upd H a o' b = some (.tbl ps') := by
  intro b ps hb
  obtain ⟨u, hu, ou⟩ := h
  exact ⟨ps, by rw [upd_ne fun z => by subst z; rw [hu] at hb; cases hb; exact ou]; exact hb⟩
theorem Stp.refl [TabsI] (w : Wf F H f) : Stp F H f F H f := ⟨Same.refl _, w, fun _ _ h _ _ => h, fun a ps h => ⟨ps, h⟩, fun a h => h.elim (fun z => .inr (.inr z)) .inl⟩
theorem Stp.trans [TabsI] (a : Stp F H f F1 H1 f1) (b : Stp F1 H1 f1 F2 H2 f2) : Stp F H f F2 H2 f2 := by
  refine ⟨a.hF.trans b.hF, b.wf, fun c o h z nt => ?_, fun c ps h => by obtain ⟨p1, h1⟩ := a.tb c ps h; exact b.tb c p1 h1, fun c h => ?_⟩
  · have h1 := a.frame c o h z nt
    refine b.frame c o h1 (Classical.byContradiction fun w => ?_) nt
    rcases a.new c (.inl w) with q | q | q
    · obtain ⟨u, hu⟩ := some_of_ne q
      have := a.wf.dj c w
      rw [a.hF _ _ hu] at this; cases this
    · rw [h] at q; cases q
    · exact q z
  · rcases b.new c h with q | q | q
    · exact a.new c (.inr q)
    · refine .inr ?_
      cases e : H c with
      | none => exact .inl rfl
      | some o =>
        refine .inr fun z => ?_
        by_cases nt : ∃ ps, o = .tbl ps
        · obtain ⟨ps, rfl⟩ := nt
          obtain ⟨p1, h1⟩ := a.tb c ps e
          rw [h1] at q; cases q
        · rw [a.frame c o e z (.inl fun ps y => nt ⟨ps, y⟩)] at q; cases q
    · exact a.new c (.inl q)
theorem Wf.sub [TabsI] (w : Wf F H f) (l : ∀ a, f' a ≤ f a) : Wf F H f' := ⟨w.le, w.tabs, w.ntF, fun a => Nat.le_trans (l a) (w.one a), fun a h => w.dj a (by have := l a; omega)⟩
theorem Stp.sub [TabsI] (s : Stp F H f F' H' f') (l : ∀ a, f1 a ≤ f' a) : Stp F H f F' H' f1 :=
  ⟨s.hF, s.wf.sub l, s.frame, s.tb, fun a h => s.new a (h.elim (fun z => .inl (by have := l a; omega)) .inr)⟩
/-- a new value beside the slots -/
theorem Wf.add [TabsI] (w : Wf F H f) (gd : Gd false f1 H1 F g) (m : ∀ a, f a ≠ 0 → ∃ u, H1 a = some u ∧ Own u) : Wf F H (fun a => f a + g a) := by
  obtain ⟨n1, n2, n3⟩ := gd.n
  refine ⟨w.le, w.tabs, w.ntF, fun a => ?_, fun a h => ?_⟩
  · by_cases z : g a = 0
    · have := w.one a; show f a + g a ≤ 1; omega
    · by_cases y : f a = 0
      · have := n1 a; show f a + g a ≤ 1; omega
      · obtain ⟨u, hu, _⟩ := m a y
        rw [n2 a z] at hu; cases hu
  · by_cases z : g a = 0
    · exact w.dj a (by have h' : f a + g a ≠ 0 := h; omega)
    · exact n3 a z
theorem Ext.stp [TabsI] (e : Ext F H F' H') (w : Wf F H f) (m : ∀ a, f a ≠ 0 → ∃ u, H a = some u ∧ Own u) (gd : Gd false f1 H F' g) : Stp F H f F' H' (fun a => f a + g a) := by
  obtain ⟨n1, n2, n3⟩ := gd.n
  refine ⟨e.hF, (w.ext e m).add gd m, fun a o h _ nt => e.hH.nt a o h nt, e.hH.tb, fun a h => ?_⟩
  rcases h with h | h
  · by_cases z : g a = 0
    · exact .inr (.inr (by have h' : f a + g a ≠ 0 := h; omega))
    · exact .inr (.inl (n2 a z))
  · exact (e.new a h).elim .inl fun z => .inr (.inl z)
theorem Ext.stp0 [TabsI] (e : Ext F H F' H') (w : Wf F H f) (m : ∀ a, f a ≠ 0 → ∃ u, H a = some u ∧ Own u) : Stp F H f F' H' f :=
  (e.stp (f1 := zf) w m Gd.zero).sub fun a => Nat.le_add_right _ _
end
inductive Out where
  | nx (ρ : Env) | rt (o : O) (ρ : Env) | bk (ρ : Env) | ct (ρ : Env) | er (c : Nat) (ρ : Env)
def Pin (pn : Nat → Bool) (σ σ' : L2.St) : Prop := σ'.length = σ.length ∧ ∀ i, pn i = true → σ'[i]? = σ[i]?
theorem Pin.refl {pn : Nat → Bool} {σ : L2.St} : Pin pn σ σ := ⟨rfl, fun _ _ => rfl⟩
theorem Pin.trans {pn : Nat → Bool} {σ σ1 σ2 : L2.St} (a : Pin pn σ σ1) (b : Pin pn σ1 σ2) : Pin pn σ σ2 := ⟨b.1.trans a.1, fun i h => (b.2 i h).trans (a.2 i h)⟩
theorem Pin.set {pn : Nat → Bool} {σ : L2.St} {i : Nat} {x : Option V} (h : pn i = false) : Pin pn σ (σ.set i x) := ⟨List.length_set, fun j hj => by
  rw [List.getElem?_set_ne]
  intro e
  subst e
  rw [h] at hj
  cases hj⟩
def Kst [TabsI] (K : PySem.W.Frag) (ct : Nat → Addr) (pn : Nat → Bool) (W : WX) (F H : Hp) (f : Fp) (σ : L2.St) (out : Out) (D : Ends) : Prop := match out with
  | .nx ρ' => ∀ σ' F' H' f', Stp F H f F' H' f' → SRep K ct F' H' ρ' σ' f' → Pin pn σ σ' → D.nx σ' H'
  | .bk ρ' => ∀ σ' F' H' f', Stp F H f F' H' f' → SRep K ct F' H' ρ' σ' f' → Pin pn σ σ' → D.bk σ' H'
  | .ct ρ' => ∀ σ' F' H' f', Stp F H f F' H' f' → SRep K ct F' H' ρ' σ' f' → Pin pn σ σ' → D.ct σ' H'
  | .rt o ρ' => ∀ v σ' F' H' g f', Stp F H f F' H' (fun a => g a + f' a) → Rep K ct F' H' o v g → SRep K ct F' H' ρ' σ' f' → Pin pn σ σ' → D.rt v H'
  | .er c ρ' => ∀ σ' F' H' f', Stp F H f F' H' f' → SRep K ct F' H' ρ' σ' f' → Pin pn σ σ' → W (.ref (ct c)) none σ' H'
theorem Kst.go [TabsI] {K : PySem.W.Frag} {ct : Nat → Addr} {pn : Nat → Bool} {W : WX} {F H F1 H1 : Hp} {f f1 : Fp} {σ σ1 : L2.St} {out : Out} {D : Ends} (k : Kst K ct pn W F H f σ out D) (s : Stp F H f F1 H1 f1) (p : Pin pn σ σ1) : Kst K ct pn W F1 H1 f1 σ1 out D := by
  cases out with
  | nx ρ' => exact fun σ' F' H' f' s' r p' => k σ' F' H' f' (s.trans s') r (p.trans p')
  | bk ρ' => exact fun σ' F' H' f' s' r p' => k σ' F' H' f' (s.trans s') r (p.trans p')
  | ct ρ' => exact fun σ' F' H' f' s' r p' => k σ' F' H' f' (s.trans s') r (p.trans p')
  | rt o ρ' => exact fun v σ' F' H' g f' s' r0 r p' => k v σ' F' H' g f' (s.trans s') r0 r (p.trans p')
  | er c ρ' => exact fun σ' F' H' f' s' r p' => k σ' F' H' f' (s.trans s') r (p.trans p')
def tSt [TabsI] (ct : Nat → Addr) (K : PySem.W.Frag) (pn : Nat → Bool) (W : WX) (d : Env → Option Out) : TS := fun D σ H =>
  ∃ F ρ f out, Sit K ct F H ρ σ f ∧ d ρ = some out ∧ Kst K ct pn W F H f σ out D
def SS [TabsI] (ct : Nat → Addr) (X : Cx) (pn : Nat → Bool) (W : WX) (st : Stmt) (d : Env → Option Out) : Prop := PS X st (tSt ct X.K pn W d)
def SSs [TabsI] (ct : Nat → Addr) (X : Cx) (pn : Nat → Bool) (W : WX) (st : List Stmt) (d : Env → Option Out) : Prop := PSs X st (tSt ct X.K pn W d)
/-! one slot and the rest -/
theorem SRep.hole {K : PySem.W.Frag} {ct : Nat → Addr} {F H : Hp} : ∀ {ρ : Env} {σ : L2.St} {f : Fp} (i : Nat), i < ρ.length → SRep K ct F H ρ σ f → ∃ g h : Fp, (f = fun a => g a + h a) ∧
    (∀ o, look ρ i = some o → ∃ v, σ[i]? = some (some v) ∧ Rep K ct F H o v g) ∧
    ∀ F' H', Same F F' → (∀ a, h a ≠ 0 → H' a = H a) →
      (∀ o' v' g', Rep K ct F' H' o' v' g' → SRep K ct F' H' (ρ.set i (some o')) (σ.set i (some v')) (fun a => g' a + h a)) ∧ (∀ x, SRep K ct F' H' (ρ.set i none) (σ.set i x) h)
  | [], _, _, _, hi, _ => by simp at hi
  | none :: ρ, [], f, i, hi, h => (show False from h).elim
  | none :: ρ, s :: σ, f, 0, hi, h => by
    have h' : SRep K ct F H ρ σ f := h
    refine ⟨zf, f, by funext a; simp [zf], fun o e => by simp [look] at e, fun F' H' hF k => ⟨fun o' v' g' r => ?_, fun x => ?_⟩⟩
    · exact ⟨g', f, r, SRep.mono hF k h', rfl⟩
    · exact SRep.mono hF k h'
  | none :: ρ, s :: σ, f, i + 1, hi, h => by
    have h' : SRep K ct F H ρ σ f := h
    obtain ⟨g, l, ef, hl, hf⟩ := SRep.hole i (by simpa using hi) h'
    refine ⟨g, l, ef, fun o e => ?_, fun F' H' hF k => ?_⟩
    · obtain ⟨v, e1, r⟩ := hl o (by simpa [look] using e)
      exact ⟨v, by simpa using e1, r⟩
    · obtain ⟨p1, p2⟩ := hf F' H' hF k
      exact ⟨fun o' v' g' r => p1 o' v' g' r, fun x => p2 x⟩
  | some o :: ρ, [], _, _, _, h => (show False from h).elim
  | some o :: ρ, none :: σ, _, _, _, h => (show False from h).elim
  | some o :: ρ, some v :: σ, f, 0, hi, h => by
    obtain ⟨g, l, r, rs, ef⟩ := (show ∃ g h, Rep K ct F H o v g ∧ SRep K ct F H ρ σ h ∧ f = fun a => g a + h a from h)
    refine ⟨g, l, ef, fun o' e => ?_, fun F' H' hF k => ⟨fun o' v' g' r' => ?_, fun x => ?_⟩⟩
    · have e' : o = o' := by simpa [look] using e
      subst e'
      exact ⟨v, rfl, r⟩
    · exact ⟨g', l, r', SRep.mono hF k rs, rfl⟩
    · exact SRep.mono hF k rs
  | some o :: ρ, some v :: σ, f, i + 1, hi, h => by
    obtain ⟨g0, l0, r, rs, ef⟩ := (show ∃ g h, Rep K ct F H o v g ∧ SRep K ct F H ρ σ h ∧ f = fun a => g a + h a from h)
    obtain ⟨g, l, ef', hl, hf⟩ := SRep.hole i (by simpa using hi) rs
    refine ⟨g, fun a => g0 a + l a, ?_, fun o' e => ?_, fun F' H' hF k => ?_⟩
    · funext a
      rw [ef, ef']
      show g0 a + (g a + l a) = g a + (g0 a + l a)
      omega
    · obtain ⟨v', e1, r'⟩ := hl o' (by simpa [look] using e)
      exact ⟨v', by simpa using e1, r'⟩
    · have k0 : ∀ a, g0 a ≠ 0 → H' a = H a := fun a z => k a (by show g0 a + l a ≠ 0; omega)
      obtain ⟨p1, p2⟩ := hf F' H' hF fun a z => k a (by show g0 a + l a ≠ 0; omega)
      refine ⟨fun o' v' g' r' => ?_, fun x => ?_⟩
      · refine ⟨g0, _, Rep.mono hF k0 r, p1 o' v' g' r', ?_⟩
        funext a
        show g' a + (g0 a + l a) = g0 a + (g' a + l a)
        omega
      · exact ⟨g0, _, Rep.mono hF k0 r, p2 x, rfl⟩
theorem SRep.len {K : PySem.W.Frag} {ct : Nat → Addr} {F H : Hp} {ρ : Env} {σ : L2.St} {f : Fp} {i : Nat} {o : O} (h : SRep K ct F H ρ σ f) (e : look ρ i = some o) : i < ρ.length ∧ i < σ.length := by
  obtain ⟨v, g, e1, _⟩ := h.get e
  refine ⟨?_, (List.getElem?_eq_some_iff.mp e1).1⟩
  unfold look at e
  split at e
  · rename_i x e2
    exact (List.getElem?_eq_some_iff.mp e2).1
  · cases e
/-! targets -/
def tGt [TabsI] (ct : Nat → Addr) (K : PySem.W.Frag) (pn : Nat → Bool) (dg : O → Env → Option Env) : TG := fun v σ H Q =>
  ∃ F ρ f g o ρ', Sit K ct F H ρ σ f ∧ Rep K ct F H o v g ∧ Wf F H (fun a => f a + g a) ∧ dg o ρ = some ρ' ∧
    ∀ σ' f', SRep K ct F H ρ' σ' f' → (∀ a, f' a ≤ f a + g a) → Pin pn σ σ' → Q σ' H
def tGts [TabsI] (ct : Nat → Addr) (K : PySem.W.Frag) (pn : Nat → Bool) (dg : List O → Env → Option Env) : TGs := fun vs σ H Q =>
  ∃ F ρ f g os ρ', Sit K ct F H ρ σ f ∧ Reps K ct F H os vs g ∧ Wf F H (fun a => f a + g a) ∧ dg os ρ = some ρ' ∧
    ∀ σ' f', SRep K ct F H ρ' σ' f' → (∀ a, f' a ≤ f a + g a) → Pin pn σ σ' → Q σ' H
def SG [TabsI] (ct : Nat → Addr) (X : Cx) (pn : Nat → Bool) (tg : Expr) (dg : O → Env → Option Env) : Prop := PG X tg (tGt ct X.K pn dg)
def SGs [TabsI] (ct : Nat → Addr) (X : Cx) (pn : Nat → Bool) (ts : List Expr) (dg : List O → Env → Option Env) : Prop := PGs X ts (tGts ct X.K pn dg)
def gSet (i : Nat) : O → Env → Option Env := fun o ρ => if i < ρ.length then some (ρ.set i (some o)) else none
def gsNil : List O → Env → Option Env := fun os ρ => match os with
  | [] => some ρ
  | _ => none
def gsCons (d : O → Env → Option Env) (ds : List O → Env → Option Env) : List O → Env → Option Env := fun os ρ => match os with
  | o :: r => match d o ρ with
    | some ρ1 => ds r ρ1
    | none => none
  | [] => none
def gTupO (n : Nat) (ds : List O → Env → Option Env) : O → Env → Option Env := fun o ρ => match o with
  | .tup os => if os.length = n then ds os ρ else none
  | _ => none
theorem PG.imp {X : Cx} {e : Expr} {t t' : TG} (h : PG X e t) (i : ∀ v σ H Q, t' v σ H Q → t v σ H Q) : PG X e t' :=
  ⟨fun pins s σ H v u Q I r hq => h.run pins s σ H v u Q I r (i v σ H Q hq)⟩
theorem PGs.imp {X : Cx} {e : List Expr} {t t' : TGs} (h : PGs X e t) (i : ∀ v σ H Q, t' v σ H Q → t v σ H Q) : PGs X e t' :=
  ⟨fun pins s σ H v u Q I r hq => h.run pins s σ H v u Q I r (i v σ H Q hq)⟩
section
variable {ct : Nat → Addr} {X : Cx} {pn : Nat → Bool} {W : WX} {e : Expr} {es : List Expr} {pos : Pos} {dg : O → Env → Option Env} {dgs : List O → Env → Option Env}
theorem sg_name [TabsI] (i : Nat) {x : Str} (hN : X.N.Nodup) (hp : pn i = false := by rfl) (hi : X.N[i]? = some x := by rfl) (hx : Loc X.env.scope x := by first | exact Or.inl rfl | exact Or.inr rfl) (hf : X.fn x = true ∨ X.env.scope.names.lookup x = some .local := by first | exact .inl rfl | exact .inr rfl) :
    SG ct X pn (.Name x pos) (gSet i) := by
  refine PG.imp (pg_name hN hi hx hf) fun v σ H Q h => ?_
  obtain ⟨F, ρ, f, g, o, ρ', s, r, w, e, q⟩ := h
  unfold gSet at e
  split at e
  · cases e
    obtain ⟨g1, h1, ef, _, hf⟩ := SRep.hole i (by assumption) s.rep
    refine q _ _ ((hf F H (Same.refl _) fun _ _ => rfl).1 o v g r) (fun a => ?_) (Pin.set hp)
    rw [ef]
    show g a + h1 a ≤ g1 a + h1 a + g a
    omega
  · cases e
theorem sgs_nil [TabsI] : SGs ct X pn [] gsNil := by
  refine PGs.imp pgs_nil fun vs σ H Q h => ?_
  obtain ⟨F, ρ, f, g, os, ρ', s, r, w, e, q⟩ := h
  unfold gsNil at e
  split at e
  · cases e
    obtain ⟨e1, e2⟩ := r
    exact ⟨e1, q σ f s.rep (fun a => Nat.le_add_right _ _) Pin.refl⟩
  · cases e
theorem sgs_cons [TabsI] (h1 : SG ct X pn e dg) (h2 : SGs ct X pn es dgs) (hs : (assignEach (e :: es) X.env).map (·.2) = assign e X.env :: (assignEach es X.env).map (·.2) := by rfl) : SGs ct X pn (e :: es) (gsCons dg dgs) := by
  refine PGs.imp (pgs_cons h1 h2 hs) fun vs σ H Q h => ?_
  obtain ⟨F, ρ, f, g, os, ρ', s, r, w, e, q⟩ := h
  unfold gsCons at e
  split at e
  · rename_i o os'
    split at e
    · rename_i ρ1 e1
      obtain ⟨v, vr, g1, g2, ev, r1, r2, eg⟩ := r
      subst ev
      subst eg
      refine ⟨v, vr, rfl, F, ρ, f, g1, o, ρ1, s, r1, w.sub fun a => ?_, e1, fun σ1 f1 rs l p => ?_⟩
      · show f a + g1 a ≤ f a + (g1 a + g2 a); omega
      · refine ⟨F, ρ1, f1, g2, os', ρ', ⟨w.sub fun a => ?_, rs⟩, r2, w.sub fun a => ?_, e, fun σ2 f2 rs2 l2 p2 => ?_⟩
        · have := l a; show f1 a ≤ f a + (g1 a + g2 a); omega
        · have := l a; show f1 a + g2 a ≤ f a + (g1 a + g2 a); omega
        · refine q σ2 f2 rs2 (fun a => ?_) (p.trans p2)
          have := l a
          have := l2 a
          show f2 a ≤ f a + (g1 a + g2 a)
          omega
    · cases e
  · cases e
theorem sg_tup [TabsI] {k n : Nat} (hc : X.calm = true) (h : SGs ct X pn es dgs) (hn : (assignEach es X.env).length = n := by rfl) (hst : (assignEach es X.env).findIdx? (·.1) = none := by rfl) : SG ct X pn (.Tuple es k pos) (gTupO n dgs) := by
  refine PG.imp (pg_tup hc h hn hst) fun v σ H Q h => ?_
  obtain ⟨F, ρ, f, g, o, ρ', s, r, w, e, q⟩ := h
  unfold gTupO at e
  split at e
  · split at e
    · obtain ⟨a, xs, ev, sq, rs⟩ := r
      refine ⟨a, xs, ev, Same.seqT s.wf.le sq, ?_, F, ρ, f, g, _, ρ', s, rs, w, e, q⟩
      rw [← rs.length]
      assumption
    · cases e
  · cases e
end
/-! statements -/
def setS (ρ : Env) (i : Nat) (o : O) : Option Out := if i < ρ.length then some (.nx (ρ.set i (some o))) else none
def dAsg (d : Env → Option O) (dg : O → Env → Option Env) : Env → Option Out := fun ρ => match d ρ with
  | some o => match dg o ρ with
    | some ρ' => some (.nx ρ')
    | none => none
  | none => none
def dRet (d : Env → Option O) : Env → Option Out := fun ρ => match d ρ with
  | some o => some (.rt o ρ)
  | none => none
def dExpr (d : Env → Option O) : Env → Option Out := fun ρ => match d ρ with
  | some _ => some (.nx ρ)
  | none => none
def dRetMv (i : Nat) : Env → Option Out := fun ρ => match look ρ i with
  | some o => some (.rt o (ρ.set i none))
  | none => none
def dIf (t : Env → Option Bool) (a b : Env → Option Out) : Env → Option Out := fun ρ => match t ρ with
  | some true => a ρ
  | some false => b ρ
  | none => none
def dSkip : Env → Option Out := fun ρ => some (.nx ρ)
def dSeq (a b : Env → Option Out) : Env → Option Out := fun ρ => match a ρ with
  | some (.nx ρ') => b ρ'
  | r => r
def dAug (i : Nat) (fn : O → O → Option O) (d : Env → Option O) : Env → Option Out := fun ρ => match look ρ i with
  | some x => match d ρ with
    | some y => match fn x y with
      | some z => setS ρ i z
      | none => none
    | none => none
  | none => none
def dFz (i : Nat) : Env → Option Out := fun ρ => match look ρ i with
  | some o => some (.nx (ρ.set i (some (frz o))))
  | none => none
section
variable {ct : Nat → Addr} {X : Cx} {pn : Nat → Bool} {W : WX} {e tg c : Expr} {pos : Pos} {dg : O → Env → Option Env} {d : Env → Option O} {st : Stmt} {sts : List Stmt} {da db : Env → Option Out} {t : Env → Option Bool} {k : Bool}
theorem asg_go [TabsI] {g : TG} (hg : ∀ v σ H Q, tGt ct X.K pn dg v σ H Q → g v σ H Q) {D : Ends} {σ : L2.St} {H : Hp} (h : tSt ct X.K pn W (dAsg d dg) D σ H) : tAsg (tX ct X.K false d) g D σ H := by
  obtain ⟨F, ρ, f, out, s, e, q⟩ := h
  unfold dAsg at e
  split at e
  · rename_i o eo
    split at e
    · rename_i ρ' eg
      cases e
      refine ⟨F, ρ, f, o, s, eo, fun v F1 H1 g1 ex r gd => hg _ _ _ _ ?_⟩
      have st := ex.stp s.wf s.rep.mem gd
      refine ⟨F1, ρ, f, g1, o, ρ', s.ext ex, r, st.wf, eg, fun σ' f' rs l p => ?_⟩
      exact q σ' F1 H1 f' (st.sub l) rs p
    · cases e
  · cases e
theorem ss_asg [TabsI] (he : SX ct X false e d) (hg : SG ct X pn tg dg) (hs : swapsWithSole [tg] e pos.line X.env = pure false := by rfl) (hw : swappedStores [tg] e X.env = pure none := by rfl)
    (h1 : (assignEach [tg] X.env).map (·.2) = [assign tg X.env] := by rfl) : SS ct X pn W (.Assign [tg] e pos) (dAsg d dg) :=
  PS.imp (ps_asg he hg hs hw h1) fun D σ H h => asg_go (fun _ _ _ _ z => z) h
theorem ss_set [TabsI] (i : Nat) {x : Str} {pos' : Pos} (hN : X.N.Nodup) (he : SX ct X false e d) (hp : pn i = false := by rfl) (hi : X.N[i]? = some x := by rfl) (hx : Loc X.env.scope x := by first | exact Or.inl rfl | exact Or.inr rfl)
    (hs : swapsWith e (some (.Name x pos')) pos.line X.env = pure false := by rfl) (hf : X.fn x = true ∨ X.env.scope.names.lookup x = some .local := by first | exact .inl rfl | exact .inr rfl) : SS ct X pn W (.Assign [.Name x pos'] e pos) (dAsg d (gSet i)) := by
  refine PS.imp (ps_set hN hi hx he hs hf) fun D σ H h => asg_go (fun v σ H Q h => ?_) h
  obtain ⟨F, ρ, f, g, o, ρ', s, r, w, e, q⟩ := h
  unfold gSet at e
  split at e
  · cases e
    obtain ⟨g1, h1, ef, _, hf⟩ := SRep.hole i (by assumption) s.rep
    refine q _ _ ((hf F H (Same.refl _) fun _ _ => rfl).1 o v g r) (fun a => ?_) (Pin.set hp)
    rw [ef]
    show g a + h1 a ≤ g1 a + h1 a + g a
    omega
  · cases e
theorem ss_ret [TabsI] (he : SX ct X false e d) : SS ct X pn W (.Return (some e) pos) (dRet d) := by
  refine PS.imp (ps_ret he) fun D σ H h => ?_
  obtain ⟨F, ρ, f, out, s, e, q⟩ := h
  unfold dRet at e
  split at e
  · rename_i o eo
    cases e
    refine ⟨F, ρ, f, o, s, eo, fun v F1 H1 g1 ex r gd => ?_⟩
    exact q v σ F1 H1 g1 f ((ex.stp s.wf s.rep.mem gd).sub fun a => by show g1 a + f a ≤ f a + g1 a; omega) r (s.ext ex).rep Pin.refl
  · cases e
/-- return x, x moved out of its slot -/
theorem ss_retmv [TabsI] (i : Nat) {x : Str} {pos' : Pos} (hN : X.N[i]? = some x := by rfl) (hv : Vis X.env.scope x := by first | exact Or.inl rfl | exact Or.inr (Or.inl rfl) | exact Or.inr (Or.inr rfl)) (hd : (x == ("__debug__" : Str)) = false := by decide)
    (hcd : (x == ("__classdict__" : Str)) = false := by decide) : SS ct X pn W (.Return (some (.Name x pos')) pos) (dRetMv i) := by
  refine PS.imp (ps_ret (pe_var hN hv hd hcd)) fun D σ H h => ?_
  obtain ⟨F, ρ, f, out, s, e, q⟩ := h
  unfold dRetMv at e
  split at e
  · rename_i o eo
    cases e
    obtain ⟨l1, l2⟩ := s.rep.len eo
    obtain ⟨g, h, ef, hl, hf⟩ := SRep.hole i l1 s.rep
    obtain ⟨v, ev, r⟩ := hl o eo
    refine ⟨v, ev, ?_⟩
    have r2 := (hf F H (Same.refl _) fun _ _ => rfl).2 (some v)
    have es : σ.set i (some v) = σ := by
      apply List.ext_getElem?
      intro j
      rw [List.getElem?_set]
      split
      · rename_i hj
        subst hj
        exact ev.symm
      · rfl
    rw [es] at r2
    exact q v σ F H g h ((Stp.refl s.wf).sub fun a => by rw [ef]; exact Nat.le_refl _) r r2 Pin.refl
  · cases e
theorem ss_if [TabsI] {a b : List Stmt} (hc : ST ct X c t) (ha : SSs ct X pn W a da) (hb : SSs ct X pn W b db) : SS ct X pn W (.If c a b pos) (dIf t da db) := by
  refine PS.imp (ps_if hc ha hb) fun D σ H h => ?_
  obtain ⟨F, ρ, f, out, s, e, q⟩ := h
  unfold dIf at e
  split at e
  · refine ⟨F, ρ, f, true, s, by assumption, fun F1 H1 ex => ?_⟩
    refine iteT ?_
    exact ⟨F1, ρ, f, out, s.ext ex, e, q.go (ex.stp0 s.wf s.rep.mem) Pin.refl⟩
  · refine ⟨F, ρ, f, false, s, by assumption, fun F1 H1 ex => ?_⟩
    refine iteF ?_
    exact ⟨F1, ρ, f, out, s.ext ex, e, q.go (ex.stp0 s.wf s.rep.mem) Pin.refl⟩
  · cases e
theorem sss_nil [TabsI] : SSs ct X pn W [] dSkip := by
  refine PSs.imp pss_nil fun D σ H h => ?_
  obtain ⟨F, ρ, f, out, s, e, q⟩ := h
  cases e
  exact q σ F H f (Stp.refl s.wf) s.rep Pin.refl
theorem seq_go [TabsI] {D : Ends} {σ : L2.St} {H : Hp} (h : tSt ct X.K pn W (dSeq da db) D σ H) : tSeq (tSt ct X.K pn W da) (tSt ct X.K pn W db) D σ H := by
  obtain ⟨F, ρ, f, out, s, e, q⟩ := h
  unfold dSeq at e
  split at e
  · rename_i ρ1 e1
    refine ⟨F, ρ, f, _, s, e1, fun σ1 F1 H1 f1 st rs p => ?_⟩
    exact ⟨F1, ρ1, f1, out, ⟨st.wf, rs⟩, e, q.go st p⟩
  · rename_i hn
    refine ⟨F, ρ, f, out, s, e, ?_⟩
    cases out with
    | nx ρ' => exact absurd e (hn ρ')
    | bk ρ' => exact q
    | ct ρ' => exact q
    | rt o ρ' => exact q
    | er c ρ' => exact q
theorem sss_cons [TabsI] (h1 : SS ct X pn W st da) (h2 : SSs ct X pn W sts db) : SSs ct X pn W (st :: sts) (dSeq da db) :=
  PSs.imp (pss_cons h1 h2) fun D σ H h => seq_go h
theorem sss_one [TabsI] (h1 : SS ct X pn W st da) : SSs ct X pn W [st] da := pss_one h1
/-- ahead of a block: a slot's data are never written again -/
theorem sss_fz [TabsI] (i : Nat) (h : SSs ct X pn W sts da) : SSs ct X pn W sts (dSeq (dFz i) da) := by
  refine PSs.imp h fun D σ H h => ?_
  obtain ⟨F, ρ, f, out, s, e, q⟩ := h
  unfold dSeq dFz at e
  cases eo : look ρ i with
  | none => rw [eo] at e; cases e
  | some o =>
    rw [eo] at e
    obtain ⟨l1, l2⟩ := s.rep.len eo
    obtain ⟨g, h, ef, hl, hf⟩ := SRep.hole i l1 s.rep
    obtain ⟨v, ev, r⟩ := hl o eo
    have es : σ.set i (some v) = σ := by
      apply List.ext_getElem?
      intro j
      rw [List.getElem?_set]
      split
      · rename_i hj
        subst hj
        exact ev.symm
      · rfl
    let F1 : Hp := fun a => if g a ≠ 0 then H a else F a
    have hF1 : Same F F1 := fun a u hu => by
      show (if g a ≠ 0 then H a else F a) = some u
      by_cases z : g a ≠ 0
      · rw [if_pos z]; exact s.wf.le a u hu
      · rw [if_neg z]; exact hu
    have st : Stp F H f F1 H h := by
      refine ⟨hF1, ⟨fun a u hu => ?_, s.wf.tabs, if_ntF s.wf.tabs s.wf.ntF (fun a z => s.rep.mem a (by rw [ef]; show g a + h a ≠ 0; omega)), fun a => ?_, fun a z => ?_⟩, fun _ _ h _ _ => h, fun a ps h => ⟨ps, h⟩, fun a z => ?_⟩
      · have hu' : (if g a ≠ 0 then H a else F a) = some u := hu
        by_cases z : g a ≠ 0
        · rw [if_pos z] at hu'; exact hu'
        · rw [if_neg z] at hu'; exact s.wf.le a u hu'
      · have := s.wf.one a
        rw [ef] at this
        have t : g a + h a ≤ 1 := this
        omega
      · have := s.wf.one a
        rw [ef] at this
        have t : g a + h a ≤ 1 := this
        show (if g a ≠ 0 then H a else F a) = none
        rw [if_neg (by omega)]
        refine s.wf.dj a ?_
        rw [ef]
        show g a + h a ≠ 0
        omega
      · rcases z with z | z
        · refine .inr (.inr ?_)
          rw [ef]; show g a + h a ≠ 0; omega
        · by_cases y : g a ≠ 0
          · refine .inr (.inr ?_)
            rw [ef]; show g a + h a ≠ 0; omega
          · have z' : (if g a ≠ 0 then H a else F a) ≠ none := z
            rw [if_neg y] at z'
            exact .inl z'
    have r2 := (hf F1 H hF1 fun _ _ => rfl).1 (frz o) v zf (r.frz hF1 fun a z => if_pos z)
    rw [es] at r2
    have ez : (fun a => zf a + h a) = h := by funext a; simp [zf]
    rw [ez] at r2
    exact ⟨F1, _, h, out, ⟨st.wf, r2⟩, e, q.go st Pin.refl⟩
end
end Mini
namespace Mini
open PySem PySem.Spec PyProof.Rows L2
/-! what a loop walks: frozen items -/
def Walks [TabsI] (K : PySem.W.Frag) (ct : Nat → Addr) (J : It) (os : List O) (F : Hp) : Prop := ∀ F2 H2, Same F F2 → Same F2 H2 → ∀ i,
  (os.length ≤ i → J.stop i H2) ∧ ∀ o, os[i]? = some o → J.go i H2 ∧ ∀ x H3, J.yld i H2 x H3 → ∃ F3, Ext F2 H2 F3 H3 ∧ Rep K ct F3 H3 o x zf
def tI [TabsI] (ct : Nat → Addr) (K : PySem.W.Frag) (d : Env → Option (List O)) : TI := fun σ H R =>
  ∃ F ρ f os, Sit K ct F H ρ σ f ∧ d ρ = some os ∧ ∀ J F' H', Ext F H F' H' → Walks K ct J os F' → R J H'
def SI [TabsI] (ct : Nat → Addr) (X : Cx) (tg iter : Expr) (d : Env → Option (List O)) : Prop := PI X tg iter (tI ct X.K d)
theorem PI.imp {X : Cx} {tg e : Expr} {t t' : TI} (h : PI X tg e t) (i : ∀ σ H Q, t' σ H Q → t σ H Q) : PI X tg e t' :=
  ⟨fun pins s σ H R I hq => h.run pins s σ H R I (i σ H R hq)⟩
section
variable {ct : Nat → Addr} {X : Cx} {tg e a b : Expr} {d da db : Env → Option O} {k k1 k2 : Bool}
/-- a list or a tuple -/
theorem pi_seq {te : TE} (he : PE X e te) : PI X tg e (fun σ H R => te σ H fun x H1 => ∃ a, x = .ref a ∧ (((∃ xs, SqL X.K H1 a xs) ∧ R (Itl X.K a) H1) ∨ ((∃ xs, SqT X.K H1 a xs) ∧ R (Itt X.K a) H1))) := by
  refine ⟨fun pins s σ H R I h => ?_⟩
  refine thn (he.run pins s σ H _ I h) fun v s1 ⟨x, H1, I1, r1, q1⟩ => ?_
  obtain ⟨a, e, q⟩ := q1
  subst e
  cases r1
  rcases q with ⟨⟨xs, hq⟩, q⟩ | ⟨⟨xs, hq⟩, q⟩
  · obtain ⟨its, rv, p, hz⟩ := I1.list hq
    refine wpAny_pyIter_list p.isList ?_
    refine ⟨s1.heap.objs.size, [s1.heap.objs.size], _, _, H1, rfl, I1.kept (t' := s1.toks) fun b o e => Heap.get?_push_of_some _ e, turn_list a _, ⟨_, Heap.get?_push_size _ rfl, rfl, rfl⟩, fun b hb => ?_, q⟩
    have e : b = s1.heap.objs.size := by simpa using hb
    subst e
    exact I1.fpOk (Nat.le_refl _) (I1.hok.fresh (Nat.le_refl _))
  · obtain ⟨its, rv, p, hz⟩ := I1.tuple hq
    refine wpAny_pyIter_tuple (show s1.heap.IsTuple a its.toArray from p) ?_
    refine ⟨s1.heap.objs.size, [s1.heap.objs.size], _, _, H1, rfl, I1.kept (t' := s1.toks) fun b o e => Heap.get?_push_of_some _ e, turn_tuple a _, ⟨_, Heap.get?_push_size _ rfl, rfl, rfl⟩, fun b hb => ?_, q⟩
    have e : b = s1.heap.objs.size := by simpa using hb
    subst e
    exact I1.fpOk (Nat.le_refl _) (I1.hok.fresh (Nat.le_refl _))
/-- the items of a list or a tuple; of a variable's: they must be frozen -/
def itO (k : Bool) : O → Option (List O)
  | .lst w os => if k = true then (if w = false then some os else none) else some (frzs os)
  | .tup os => if k = true then (if isFzs os = true then some os else none) else some (frzs os)
  | _ => none
def dIt (k : Bool) (d : Env → Option O) : Env → Option (List O) := fun ρ => match d ρ with
  | some o => itO k o
  | none => none
theorem walks_l [TabsI] {K : PySem.W.Frag} {os : List O} {F : Hp} {p : Addr} {xs : List V} (sq : SqL K F p xs) (r : ∀ F2 H2, Same F F2 → Reps K ct F2 H2 os xs zf) : Walks K ct (Itl K p) os F := fun F2 H2 h1 h2 i => by
  have sq2 : SqL K H2 p xs := Same.seq h2 (Same.seq h1 sq)
  have r2 := r F2 H2 h1
  refine ⟨fun hi => ⟨xs, sq2, by rw [← r2.length]; exact hi⟩, fun o ho => ?_⟩
  obtain ⟨v, g, e1, rv, l⟩ := r2.at ho
  refine ⟨⟨xs, v, sq2, e1⟩, fun x H3 hy => ?_⟩
  obtain ⟨eH, hy⟩ := hy
  subst eH
  have ex := hy xs sq2
  rw [e1] at ex
  cases ex
  have gz : g = zf := by funext a; exact Nat.le_zero.mp (l a)
  subst gz
  exact ⟨F2, Ext.refl h2, rv⟩
theorem walks_t [TabsI] {K : PySem.W.Frag} {os : List O} {F : Hp} {p : Addr} {xs : List V} (sq : SqT K F p xs) (r : ∀ F2 H2, Same F F2 → Reps K ct F2 H2 os xs zf) : Walks K ct (Itt K p) os F := fun F2 H2 h1 h2 i => by
  have sq2 : SqT K H2 p xs := Same.seqT h2 (Same.seqT h1 sq)
  have r2 := r F2 H2 h1
  refine ⟨fun hi => ⟨xs, sq2, by rw [← r2.length]; exact hi⟩, fun o ho => ?_⟩
  obtain ⟨v, g, e1, rv, l⟩ := r2.at ho
  refine ⟨⟨xs, v, sq2, e1⟩, fun x H3 hy => ?_⟩
  obtain ⟨eH, hy⟩ := hy
  subst eH
  have ex := hy xs sq2
  rw [e1] at ex
  cases ex
  have gz : g = zf := by funext a; exact Nat.le_zero.mp (l a)
  subst gz
  exact ⟨F2, Ext.refl h2, rv⟩
/-- new values are frozen -/
theorem freeze [TabsI] {K : PySem.W.Frag} {F H F1 H1 : Hp} {g : Fp} (e : Ext F H F1 H1) (gd : Gd false zf H F1 g) (m : ∀ a, g a ≠ 0 → ∃ u, H1 a = some u ∧ Own u) :
    Same F1 (fun a => if g a ≠ 0 then H1 a else F1 a) ∧ Ext F H (fun a => if g a ≠ 0 then H1 a else F1 a) H1 := by
  obtain ⟨n1, n2, n3⟩ := gd.n
  have h1 : Same F1 (fun a => if g a ≠ 0 then H1 a else F1 a) := fun a u hu => by
    show (if g a ≠ 0 then H1 a else F1 a) = some u
    by_cases z : g a ≠ 0
    · rw [if_pos z]; exact e.le a u hu
    · rw [if_neg z]; exact hu
  refine ⟨h1, e.hF.trans h1, e.hH, fun a u hu => ?_, fun a z => ?_⟩
  · have hu' : (if g a ≠ 0 then H1 a else F1 a) = some u := hu
    by_cases z : g a ≠ 0
    · rw [if_pos z] at hu'; exact hu'
    · rw [if_neg z] at hu'; exact e.le a u hu'
  · by_cases y : g a ≠ 0
    · exact .inr (n2 a y)
    · have z' : (if g a ≠ 0 then H1 a else F1 a) ≠ none := z
      rw [if_neg y] at z'
      exact e.new a z'
theorem si_seq [TabsI] (he : SX ct X k e d) : SI ct X tg e (dIt k d) := by
  refine PI.imp (pi_seq he) fun σ H R h => ?_
  obtain ⟨F, ρ, f, os, s, e, q⟩ := h
  unfold dIt at e
  split at e
  · rename_i o eo
    refine ⟨F, ρ, f, o, s, eo, fun v F1 H1 g ex r gd => ?_⟩
    cases k with
    | false =>
      have gd' : Gd false zf H F1 g := by
        obtain ⟨n1, n2, n3⟩ := gd.n
        exact Gd.mkn n1 n2 n3
      obtain ⟨h1, h2⟩ := freeze (K := X.K) ex gd' r.mem
      cases o with
      | lst w os' =>
        have eo' : some (frzs os') = some os := e
        cases eo'
        have rf := r.frz (H' := H1) h1 fun a z => if_pos z
        obtain ⟨p, xs, ev, sq, rs, _⟩ := rf
        refine ⟨p, ev, .inl ⟨⟨xs, Same.seq h2.le sq⟩, q _ _ _ h2 (walks_l sq fun F2 H2 hh => Reps.mono hh (fun a z => absurd rfl z) rs)⟩⟩
      | tup os' =>
        have eo' : some (frzs os') = some os := e
        cases eo'
        have rf := r.frz (H' := H1) h1 fun a z => if_pos z
        obtain ⟨p, xs, ev, sq, rs⟩ := rf
        exact ⟨p, ev, .inr ⟨⟨xs, Same.seqT h2.le sq⟩, q _ _ _ h2 (walks_t sq fun F2 H2 hh => Reps.mono hh (fun a z => absurd rfl z) rs)⟩⟩
      | _ => cases e
    | true =>
      cases o with
      | lst w os' =>
        have eo' : (if w = false then some os' else none) = some os := e
        cases w with
        | true => cases eo'
        | false =>
          cases eo'
          obtain ⟨p, xs, ev, sq, rs, _⟩ := r
          refine ⟨p, ev, .inl ⟨⟨xs, Same.seq ex.le sq⟩, q _ _ _ ex (walks_l sq fun F2 H2 hh => Reps.mono hh (fun a z => absurd rfl z) rs)⟩⟩
      | tup os' =>
        have eo' : (if isFzs os' = true then some os' else none) = some os := e
        split at eo'
        · rename_i z
          cases eo'
          obtain ⟨p, xs, ev, sq, rs⟩ := r
          have gz := rs.fz0 z
          subst gz
          exact ⟨p, ev, .inr ⟨⟨xs, Same.seqT ex.le sq⟩, q _ _ _ ex (walks_t sq fun F2 H2 hh => Reps.mono hh (fun a z => absurd rfl z) rs)⟩⟩
        · cases eo'
      | _ => cases e
  · cases e
/-! range -/
def rngs (lo : Int) (n : Nat) : List O := (List.range n).map fun (i : Nat) => O.int (lo + i)
def rOk0 (j : Int) : Bool := decide (-(2 ^ 62) ≤ j) && decide (j < 2 ^ 62)
noncomputable def rOk := hid rOk0
theorem rOk_def : rOk = rOk0 := hid_eq _
noncomputable def dRng1 (d : Env → Option O) : Env → Option (List O) := fun ρ => match d ρ with
  | some (.int j) => if rOk j = true then some (rngs 0 j.toNat) else none
  | _ => none
noncomputable def dRng2 (da db : Env → Option O) : Env → Option (List O) := fun ρ => match da ρ with
  | some (.int i) => match db ρ with
    | some (.int j) => if (rOk i && rOk j) = true then some (rngs i (j - i).toNat) else none
    | _ => none
  | _ => none
theorem walks_r [TabsI] {K : PySem.W.Frag} {F : Hp} {lo : Int} {n : Nat} : Walks K ct (Itr lo n) (rngs lo n) F := fun F2 H2 h1 h2 i => by
  have hl : (rngs lo n).length = n := by simp [rngs]
  refine ⟨fun hi => by rw [hl] at hi; exact hi, fun o ho => ?_⟩
  have hi : i < n := by rw [← hl]; exact (List.getElem?_eq_some_iff.mp ho).1
  have eo : o = .int (lo + i) := by
    simp [rngs, hi] at ho
    exact ho.symm
  subst eo
  refine ⟨hi, fun x H3 hy => ?_⟩
  obtain ⟨eH, ex⟩ := hy
  subst eH
  exact ⟨F2, Ext.refl h2, ex, rfl⟩
theorem rOk_b {j : Int} (h : rOk j = true) : -(2 ^ 62) ≤ j ∧ j < 2 ^ 62 := by
  rw [rOk_def] at h
  unfold rOk0 at h
  rw [Bool.and_eq_true] at h
  exact ⟨of_decide_eq_true h.1, of_decide_eq_true h.2⟩
theorem si_rng1 [TabsI] {p pos : Pos} (hm : X.mg "range" = none) (ha : SX ct X k1 a da) (hg : Gl X "range" := by rfl) (hs : starEach [a] X.env = [(false, eval a X.env)] := by rfl) : SI ct X tg (.Call (.Name "range" p) [a] [] pos) (dRng1 da) := by
  refine PI.imp (pi_range1 hg hm (pa_cons ha pa_nil hs) hs) fun σ H R h => ?_
  obtain ⟨F, ρ, f, os, s, e, q⟩ := h
  unfold dRng1 at e
  split at e
  · split at e
    · rename_i j ej hj
      cases e
      refine ⟨F, ρ, f, _, s, ej, fun v F1 H1 g ex r gd => ?_⟩
      obtain ⟨rfl, _⟩ := r
      obtain ⟨b1, b2⟩ := rOk_b hj
      exact ⟨j, rfl, b1, b2, q _ F1 H1 ex walks_r⟩
    · cases e
  · cases e
end
/-! for -/
def lFor (dg : O → Env → Option Env) (body : Env → Option Out) : List O → Env → Option Out
  | [], ρ => some (.nx ρ)
  | o :: os, ρ => match dg o ρ with
    | some ρ1 => match body ρ1 with
      | some (.nx ρ2) => lFor dg body os ρ2
      | some (.ct ρ2) => lFor dg body os ρ2
      | some (.bk ρ2) => some (.nx ρ2)
      | some (.rt o ρ2) => some (.rt o ρ2)
      | some (.er c ρ2) => some (.er c ρ2)
      | none => none
    | none => none
def dFor (di : Env → Option (List O)) (dg : O → Env → Option Env) (body : Env → Option Out) : Env → Option Out := fun ρ => match di ρ with
  | some os => lFor dg body os ρ
  | none => none
section
variable {ct : Nat → Addr} {X : Cx} {pn : Nat → Bool} {W : WX} {tg iter : Expr} {di : Env → Option (List O)} {dg : O → Env → Option Env} {body : List Stmt} {db : Env → Option Out} {pos : Pos}
theorem ss_for [TabsI] (hp : PassesOwn (model X.prog X.w) X.A X.env X.xe) (hc : X.calm = true) (hi : SI ct X tg iter di) (hg : SG ct X pn tg dg) (hb : SSs ct X pn W body db)
    (hs : ∀ x, foldedSetIterable iter X.env x = pure x := by intro _; rfl) : SS ct X pn W (.For tg iter body [] pos) (dFor di dg db) := by
  refine PS.imp (ps_for hp hc hi hg hb hs) fun D σ H h => ?_
  obtain ⟨F, ρ, f, out, s, e, q⟩ := h
  unfold dFor at e
  split at e
  · rename_i os eo
    refine ⟨F, ρ, f, os, s, eo, fun J F1 H1 ex wk => ?_⟩
    have q1 := q.go (ex.stp0 s.wf s.rep.mem) (Pin.refl (σ := σ))
    refine ⟨fun i m σ' H' => m = os.length - i ∧ i ≤ os.length ∧ ∃ F' ρ' f', Sit X.K ct F' H' ρ' σ' f' ∧ Same F1 F' ∧ lFor dg db (os.drop i) ρ' = some out ∧ Kst X.K ct pn W F' H' f' σ' out D,
      ⟨os.length, rfl, Nat.zero_le _, F1, ρ, f, s.ext ex, Same.refl _, e, q1⟩, ?_⟩
    rintro i m σ' H' ⟨rfl, hi', F', ρ', f', s', hF', e', q'⟩
    obtain ⟨hst, hgo⟩ := wk F' H' hF' s'.wf.le i
    by_cases hlt : i < os.length
    · have ho : os[i]? = some os[i] := List.getElem?_eq_getElem hlt
      obtain ⟨go, hy⟩ := hgo _ ho
      have ed : os.drop i = os[i] :: os.drop (i + 1) := List.drop_eq_getElem_cons hlt
      rw [ed] at e'
      refine .inr ⟨go, fun σ'' H'' => ∃ F'' ρ'' f'', Sit X.K ct F'' H'' ρ'' σ'' f'' ∧ Same F1 F'' ∧ lFor dg db (os.drop (i + 1)) ρ'' = some out ∧ Kst X.K ct pn W F'' H'' f'' σ'' out D,
        fun σ'' H'' n => ⟨os.length - (i + 1), by omega, rfl, hlt, n⟩, fun x H3 y => ?_⟩
      obtain ⟨F3, ex3, r3⟩ := hy x H3 y
      have s3 := s'.ext ex3
      have q3 := q'.go (ex3.stp0 s'.wf s'.rep.mem) (Pin.refl (σ := σ'))
      unfold lFor at e'
      cases e1 : dg os[i] ρ' with
      | none => rw [e1] at e'; cases e'
      | some ρ1 =>
        rw [e1] at e'
        dsimp only at e'
        refine ⟨F3, ρ', f', zf, os[i], ρ1, s3, r3, s3.wf.sub fun a => (by show f' a + zf a ≤ f' a; simp [zf]), e1, fun σ2 f2 rs2 l2 p2 => ?_⟩
        have st2 : Stp F3 H3 f' F3 H3 f2 := (Stp.refl s3.wf).sub fun a => by have := l2 a; simpa [zf] using this
        have q2 := q3.go st2 p2
        have s2 : Sit X.K ct F3 H3 ρ1 σ2 f2 := ⟨st2.wf, rs2⟩
        have hF3 : Same F1 F3 := hF'.trans ex3.hF
        cases e2 : db ρ1 with
        | none => rw [e2] at e'; cases e'
        | some out1 =>
          rw [e2] at e'
          refine ⟨F3, ρ1, f2, out1, s2, e2, ?_⟩
          cases out1 with
          | nx ρ2 => exact fun σ4 F4 H4 f4 st rs p => ⟨F4, ρ2, f4, ⟨st.wf, rs⟩, hF3.trans st.hF, e', q2.go st p⟩
          | ct ρ2 => exact fun σ4 F4 H4 f4 st rs p => ⟨F4, ρ2, f4, ⟨st.wf, rs⟩, hF3.trans st.hF, e', q2.go st p⟩
          | bk ρ2 => cases e'; exact q2
          | rt o ρ2 => cases e'; exact q2
          | er c ρ2 => cases e'; exact q2
    · have ei : i = os.length := by omega
      subst ei
      rw [List.drop_length] at e'
      cases e'
      exact .inl ⟨hst (Nat.le_refl _), q' σ' F' H' f' (Stp.refl s'.wf) s'.rep Pin.refl⟩
  · cases e
end
/-! while, by a number of turns -/
end Mini
namespace Mini
open PySem PySem.Spec PyProof.Rows L2
/-! what a def is worth: its value, and its parameters' last states (of those that it never stores to) -/
abbrev Fn := List O → Option (O × Env)
def spF [TabsI] (ct : Nat → Addr) (K : PySem.W.Frag) (n : Nat) (Ff : Fn) : Sp := fun vs H Q _ => vs.length = n ∧ ∃ F os f r fin, Wf F H f ∧ Reps K ct F H os vs f ∧ Ff os = some (r, fin) ∧
  ∀ v F' H' g gf, Stp F H f F' H' (fun a => g a + gf a) → Rep K ct F' H' r v g → SRep K ct F' H' fin (vs.map some) gf → Q v H'
structure FD [TabsI] (P : Program) (w : World) (K : PySem.W.Frag) (mg : Str → Option Value) (base : Heap) (ct : Nat → Addr) (k : Nat) (x : Str) (n : Nat) (Ff : Fn) : Prop where
  ex : ∃ f fd ps, ps.length = n ∧ FnOk P w K mg base CX0 k f fd ps (spF ct K n Ff) ∧ mg x = some (.ref f) ∧ PySem.W.keepIn K (.ref f) = true ∧ Binds K fd ps []
theorem FD.mono [TabsI] {P : Program} {w : World} {K : PySem.W.Frag} {mg : Str → Option Value} {base : Heap} {ct : Nat → Addr} {k k' : Nat} {x : Str} {n : Nat} {Ff : Fn} (D : FD P w K mg base ct k x n Ff) (h : k ≤ k') : FD P w K mg base ct k' x n Ff := by
  obtain ⟨f, fd, ps, h1, h2, h3⟩ := D.ex
  exact ⟨f, fd, ps, h1, h2.mono h, h3⟩
def views : List Bool → List O → List O
  | k :: ks, o :: os => (if k = true then frz o else o) :: views ks os
  | _, _ => []
def okb : List Bool → List O → Bool
  | k :: ks, o :: os => (!k || isFz o) && okb ks os
  | _, _ => true
def dCall (ks : List Bool) (Ff : Fn) (ds : Env → Option (List O)) : Env → Option O := fun ρ => match ds ρ with
  | some os => match Ff (views ks os) with
    | some (r, _) => if (okb ks os || noFm r) = true then some r else none
    | none => none
  | none => none
section
variable {ct : Nat → Addr} {X : Cx} {ks : List Bool} {e : Expr} {es : List Expr} {ds : Env → Option (List O)} {Ff : Fn} {k : Nat} {x : Str} {p pos : Pos} {n : Nat}
theorem ARep.len {K : PySem.W.Frag} {F H : Hp} : ∀ {ks : List Bool} {os : List O} {vs : List V} {gb gv : Fp}, ARep K ct F H ks os vs gb gv → vs.length = ks.length
  | [], [], _, _, _, h => by rw [show _ = ([] : List V) from h.1]; rfl
  | true :: ks, o :: os, _, _, _, h => by
    obtain ⟨v, vr, g, l, e1, r, rs, e2⟩ := h
    subst e1
    simp [ARep.len rs]
  | false :: ks, o :: os, _, _, _, h => by
    obtain ⟨v, vr, g, l, e1, r, rs, e2⟩ := h
    subst e1
    simp [ARep.len rs]
  | [], _ :: _, _, _, _, h => (show False from h).elim
  | true :: _, [], _, _, _, h => (show False from h).elim
  | false :: _, [], _, _, _, h => (show False from h).elim
theorem ARep.view {K : PySem.W.Frag} {F F' H : Hp} (hF : Same F F') : ∀ {ks : List Bool} {os : List O} {vs : List V} {gb gv : Fp}, (∀ a, gb a ≠ 0 → F' a = H a) → ARep K ct F H ks os vs gb gv → Reps K ct F' H (views ks os) vs gv
  | [], [], _, _, _, _, h => ⟨h.1, h.2.2⟩
  | true :: ks, o :: os, _, _, _, hb, h => by
    obtain ⟨v, vr, g, l, e1, r, rs, e2⟩ := h
    subst e2
    refine ⟨v, vr, zf, _, e1, r.frz hF fun a z => hb a (by show g a + l a ≠ 0; omega), ARep.view hF (fun a z => hb a (by show g a + l a ≠ 0; omega)) rs, ?_⟩
    funext a; simp [zf]
  | false :: ks, o :: os, _, _, _, hb, h => by
    obtain ⟨v, vr, g, l, e1, r, rs, e2⟩ := h
    exact ⟨v, vr, g, l, e1, Rep.mono hF (fun _ _ => rfl) r, ARep.view hF hb rs, e2⟩
  | [], _ :: _, _, _, _, _, h => (show False from h).elim
  | true :: _, [], _, _, _, _, h => (show False from h).elim
  | false :: _, [], _, _, _, _, h => (show False from h).elim
theorem ARep.okb {K : PySem.W.Frag} {F H : Hp} : ∀ {ks : List Bool} {os : List O} {vs : List V} {gb gv : Fp}, okb ks os = true → ARep K ct F H ks os vs gb gv → gb = zf
  | [], [], _, _, _, _, h => h.2.1
  | true :: ks, o :: os, _, _, _, z, h => by
    obtain ⟨v, vr, g, l, e1, r, rs, e2⟩ := h
    rw [Mini.okb, Bool.and_eq_true] at z
    rw [e2]
    exact add_zf (r.fz0 (by simpa using z.1)) (ARep.okb z.2 rs)
  | false :: ks, o :: os, _, _, _, z, h => by
    obtain ⟨v, vr, g, l, e1, r, rs, e2⟩ := h
    rw [Mini.okb, Bool.and_eq_true] at z
    exact ARep.okb z.2 rs
  | [], _ :: _, _, _, _, _, h => (show False from h).elim
  | true :: _, [], _, _, _, _, h => (show False from h).elim
  | false :: _, [], _, _, _, _, h => (show False from h).elim
theorem ARep.memb {K : PySem.W.Frag} {F H : Hp} : ∀ {ks : List Bool} {os : List O} {vs : List V} {gb gv : Fp}, ARep K ct F H ks os vs gb gv → ∀ a, gb a ≠ 0 → ∃ u, H a = some u ∧ Own u
  | [], [], _, _, _, h, a, z => absurd (by rw [h.2.1]; rfl) z
  | true :: ks, o :: os, _, _, _, h, a, z => by
    obtain ⟨v, vr, g, l, e1, r, rs, e2⟩ := h
    by_cases q : g a = 0
    · refine ARep.memb rs a ?_
      rw [e2] at z
      have z' : g a + l a ≠ 0 := z
      omega
    · exact r.mem a q
  | false :: ks, o :: os, _, _, _, h, a, z => by
    obtain ⟨v, vr, g, l, e1, r, rs, e2⟩ := h
    exact ARep.memb rs a z
  | [], _ :: _, _, _, _, h, _, _ => (show False from h).elim
  | true :: _, [], _, _, _, h, _, _ => (show False from h).elim
  | false :: _, [], _, _, _, h, _, _ => (show False from h).elim
/-- what a call gives back, for a caller that goes on -/
theorem call_back [TabsI] {K : PySem.W.Frag} {F H F1 H1 : Hp} {f gb gv : Fp} {os : List O} {vs : List V} {r : O} {Q : VK} (wf : Wf F H f) (mf : ∀ a, f a ≠ 0 → ∃ u, H a = some u ∧ Own u) (ex : Ext F H F1 H1) (ar : ARep K ct F1 H1 ks os vs gb gv)
    (hb : ∀ a, gb a ≠ 0 → f a ≠ 0) (hv : Gd false f H F1 gv) (c : (Mini.okb ks os || noFm r) = true) (q : Kn K ct false f F H r Q) :
    Wf (fun a => if gb a ≠ 0 then H1 a else F1 a) H1 gv ∧ Reps K ct (fun a => if gb a ≠ 0 then H1 a else F1 a) H1 (views ks os) vs gv ∧
      ∀ v F' H' (g gf : Fp), Stp (fun a => if gb a ≠ 0 then H1 a else F1 a) H1 gv F' H' (fun a => g a + gf a) → Rep K ct F' H' r v g → Q v H' := by
  obtain ⟨n1, n2, n3⟩ := hv.n
  have hFc : Same F1 (fun a => if gb a ≠ 0 then H1 a else F1 a) := fun a u hu => by
    show (if gb a ≠ 0 then H1 a else F1 a) = some u
    by_cases z : gb a ≠ 0
    · rw [if_pos z]; exact ex.le a u hu
    · rw [if_neg z]; exact hu
  have hsep : ∀ a, gv a ≠ 0 → ¬ gb a ≠ 0 := fun a z y => by
    obtain ⟨u, hu, _⟩ := mf a (hb a y)
    rw [n2 a z] at hu; cases hu
  refine ⟨⟨fun a u hu => ?_, ex.hH.tabs wf.tabs, if_ntF (ex.hH.tabs wf.tabs) (ex.ntF wf.tabs wf.ntF) (fun a z => by obtain ⟨u, hu, ou⟩ := mf a (hb a z); exact ⟨u, ex.hH.own hu ou, ou⟩), n1, fun a z => ?_⟩, ar.view hFc fun a z => if_pos z, fun v F' H' g gf st rv => ?_⟩
  · have hu' : (if gb a ≠ 0 then H1 a else F1 a) = some u := hu
    by_cases z : gb a ≠ 0
    · rw [if_pos z] at hu'; exact hu'
    · rw [if_neg z] at hu'; exact ex.le a u hu'
  · show (if gb a ≠ 0 then H1 a else F1 a) = none
    rw [if_neg (hsep a z)]
    exact n3 a z
  · have hH : SameT H H' := ⟨fun a o ho nt => by
      refine st.frame a o (ex.hH.nt a o ho nt) (Classical.byContradiction fun z => ?_) nt
      rw [n2 a z] at ho; (cases ho), fun a ps ho => by obtain ⟨p1, h1⟩ := ex.hH.tb a ps ho; exact st.tb a p1 h1, fun _ => st.wf.tabs⟩
    have sub : Stp (fun a => if gb a ≠ 0 then H1 a else F1 a) H1 gv F' H' g := st.sub fun a => Nat.le_add_right _ _
    have new1 : ∀ a, g a ≠ 0 → H a = none := fun a z => by
      rcases sub.new a (.inl z) with y | y | y
      · obtain ⟨u, hu⟩ := some_of_ne y
        have := sub.wf.dj a z
        rw [sub.hF a u hu] at this; cases this
      · exact ex.hH.free y
      · exact n2 a y
    by_cases ob : Mini.okb ks os = true
    · have gz := ar.okb ob
      refine q v F' H' g ⟨ex.hF.trans (hFc.trans st.hF), hH, st.wf.le, fun a z => ?_⟩ rv (Gd.mkn sub.wf.one new1 sub.wf.dj)
      rcases sub.new a (.inr z) with y | y | y
      · refine ex.new a ?_
        have y' : (if gb a ≠ 0 then H1 a else F1 a) ≠ none := y
        rw [gz] at y'
        simpa [zf] using y'
      · exact .inr (ex.hH.free y)
      · exact .inr (n2 a y)
    · have nf : noFm r = true := by
        rw [Bool.or_eq_true] at c
        exact c.resolve_left ob
      have own : ∀ a, gb a ≠ 0 → ∃ u, F' a = some u ∧ Own u := fun a z => by
        obtain ⟨u, hu, ou⟩ := ar.memb a z
        exact ⟨u, st.hF a u (by show (if gb a ≠ 0 then H1 a else F1 a) = some u; rw [if_pos z]; exact hu), ou⟩
      refine q v (fun a => if gb a ≠ 0 then none else F' a) H' g ⟨fun a u hu => ?_, hH, fun a u hu => ?_, fun a z => ?_⟩ (rv.thaw (fun a => ?_) nf) (Gd.mkn sub.wf.one new1 fun a z => ?_)
      · show (if gb a ≠ 0 then none else F' a) = some u
        rw [if_neg fun z => by rw [wf.dj a (hb a z)] at hu; cases hu]
        exact st.hF a u (hFc a u (ex.hF a u hu))
      · have hu' : (if gb a ≠ 0 then none else F' a) = some u := hu
        by_cases z : gb a ≠ 0
        · rw [if_pos z] at hu'; cases hu'
        · rw [if_neg z] at hu'; exact st.wf.le a u hu'
      · have z' : (if gb a ≠ 0 then none else F' a) ≠ none := z
        by_cases w : gb a ≠ 0
        · rw [if_pos w] at z'; exact absurd rfl z'
        · rw [if_neg w] at z'
          rcases sub.new a (.inr z') with y | y | y
          · have y' : (if gb a ≠ 0 then H1 a else F1 a) ≠ none := y
            rw [if_neg w] at y'
            exact ex.new a y'
          · exact .inr (ex.hH.free y)
          · exact .inr (n2 a y)
      · by_cases w : gb a ≠ 0
        · left
          obtain ⟨u, hu, ou⟩ := own a w
          exact ⟨u, hu, ou⟩
        · right
          show (if gb a ≠ 0 then none else F' a) = F' a
          rw [if_neg w]
      · show (if gb a ≠ 0 then none else F' a) = none
        by_cases w : gb a ≠ 0
        · rw [if_pos w]
        · rw [if_neg w]; exact sub.wf.dj a z
theorem call_go [TabsI] {t : TA} (hn : ks.length = n) (ht : ∀ σ H Q, tA ct X.K ks ds σ H Q → t σ H Q) {σ : L2.St} {H : Hp} {Q : VK} (h : tX ct X.K false (dCall ks Ff ds) σ H Q) : tCall (spF ct X.K n Ff) [] E0 t σ H Q := by
  obtain ⟨F, ρ, f, o, s, e, q⟩ := h
  unfold dCall at e
  split at e
  · rename_i os eos
    split at e
    · rename_i r fin er
      split at e
      · rename_i c
        cases e
        refine ht _ _ _ ⟨F, ρ, f, os, s, eos, fun vs F1 H1 gb gv ex ar hb hv => ?_⟩
        show spF ct X.K n Ff (vs ++ []) H1 Q E0
        rw [List.append_nil]
        obtain ⟨c1, c2, c3⟩ := call_back s.wf s.rep.mem ex ar hb hv c q
        exact ⟨by rw [ar.len, hn], _, _, gv, o, fin, c1, c2, er, fun v F' H' g gf st r _ => c3 v F' H' g gf st r⟩
      · cases e
    · cases e
  · cases e
theorem sx_call [TabsI] {k0 : Bool} (D : FD X.prog X.w X.K X.mg X.base ct k x n Ff) (hr : Room k X.A) (ha : SA ct X (k0 :: ks) (e :: es) ds) (hn : (k0 :: ks).length = n := by rfl) (hg : Gl X x := by rfl) (hdb : (x == ("__debug__" : Str)) = false := by decide)
    (he : starEach (e :: es) X.env = (false, eval e X.env) :: starEach es X.env := by rfl) (hpl : (backTo pos (starEach es X.env)).any (·.1) = false := by rfl) : SX ct X false (.Call (.Name x p) (e :: es) [] pos) (dCall (k0 :: ks) Ff ds) := by
  obtain ⟨f, fd, ps, hps, hF, hm, hk, hb⟩ := D.ex
  exact PE.imp (pe_call hF hr hg hm hk hb .nil pass0 ha hdb he hpl) fun σ H Q h => call_go hn (fun _ _ _ z => z) h
end
/-! a def by its body -/
def fin (pn : Nat → Bool) : Nat → Nat → Env → Env
  | _, 0, _ => []
  | i, n + 1, o :: ρ => (if pn i = true then o else none) :: fin pn (i + 1) n ρ
  | i, n + 1, [] => none :: fin pn (i + 1) n []
def dDef (pn : Nat → Bool) (n m : Nat) (d : Env → Option Out) : Fn := fun os => match d (os.map some ++ List.replicate (m - n) none) with
  | some (.rt o ρ) => some (o, fin pn 0 n ρ)
  | some (.nx ρ) => some (.non, fin pn 0 n ρ)
  | _ => none
section
variable {ct : Nat → Addr} {K : PySem.W.Frag}
theorem SRep.start {F H : Hp} {m : Nat} : ∀ {os : List O} {vs : List V} {f : Fp}, Reps K ct F H os vs f → SRep K ct F H (os.map some ++ List.replicate m none) (vs.map some ++ List.replicate m none) f
  | [], vs, f, h => by
    obtain ⟨e1, e2⟩ := h
    subst e1 e2
    simp only [List.map_nil, List.nil_append]
    induction m with
    | zero => rfl
    | succ m ih =>
      show SRep K ct F H (none :: List.replicate m none) (none :: List.replicate m none) zf
      exact ih
  | o :: os, vs, f, h => by
    obtain ⟨v, vr, g, l, e, r, rs, ef⟩ := h
    subst e
    exact ⟨g, l, r, SRep.start rs, ef⟩
theorem SRep.fin {F H : Hp} {pn : Nat → Bool} : ∀ {vs : List V} {i : Nat} {ρ : Env} {σ : L2.St} {f : Fp}, SRep K ct F H ρ σ f → (∀ j, pn (i + j) = true → j < vs.length → σ[j]? = (vs.map some)[j]?) →
    ∃ f', SRep K ct F H (fin pn i vs.length ρ) (vs.map some) f' ∧ ∀ a, f' a ≤ f a
  | [], _, _, _, _, _, _ => ⟨zf, rfl, fun _ => Nat.zero_le _⟩
  | v :: vs, i, [], σ, f, h, k => by
    obtain ⟨f', h1, h2⟩ := SRep.fin (vs := vs) (i := i + 1) (ρ := []) (σ := σ.tail) (f := f) h fun j hj hl => by
      have := k (j + 1) (by rw [show i + (j + 1) = i + 1 + j by omega]; exact hj) (by simpa using hl)
      cases σ <;> simpa using this
    exact ⟨f', h1, h2⟩
  | v :: vs, i, none :: ρ, [], f, h, k => (show False from h).elim
  | v :: vs, i, some o :: ρ, [], f, h, k => (show False from h).elim
  | v :: vs, i, some o :: ρ, none :: σ, f, h, k => (show False from h).elim
  | v :: vs, i, none :: ρ, x :: σ, f, h, k => by
    obtain ⟨f', h1, h2⟩ := SRep.fin (vs := vs) (i := i + 1) (ρ := ρ) (σ := σ) (f := f) h fun j hj hl => by
      have := k (j + 1) (by rw [show i + (j + 1) = i + 1 + j by omega]; exact hj) (by simpa using hl)
      simpa using this
    refine ⟨f', ?_, h2⟩
    show SRep K ct F H ((if pn i = true then none else none) :: Mini.fin pn (i + 1) vs.length ρ) (some v :: vs.map some) f'
    rw [ite_self]
    exact h1
  | v :: vs, i, some o :: ρ, some u :: σ, f, h, k => by
    obtain ⟨g, l, r, rs, ef⟩ := (show ∃ g h, Rep K ct F H o u g ∧ SRep K ct F H ρ σ h ∧ f = fun a => g a + h a from h)
    obtain ⟨f', h1, h2⟩ := SRep.fin (vs := vs) (i := i + 1) (ρ := ρ) (σ := σ) (f := l) rs fun j hj hl => by
      have := k (j + 1) (by rw [show i + (j + 1) = i + 1 + j by omega]; exact hj) (by simpa using hl)
      simpa using this
    by_cases hi : pn i = true
    · have e1 := k 0 (by simpa using hi) (by simp)
      have e2 : u = v := by simpa using e1
      subst e2
      refine ⟨fun a => g a + f' a, ?_, fun a => by rw [ef]; have := h2 a; show g a + f' a ≤ g a + l a; omega⟩
      show SRep K ct F H ((if pn i = true then some o else none) :: Mini.fin pn (i + 1) vs.length ρ) (some u :: vs.map some) _
      rw [if_pos hi]
      exact ⟨g, f', r, h1, rfl⟩
    · refine ⟨f', ?_, fun a => by rw [ef]; have := h2 a; show f' a ≤ g a + l a; omega⟩
      show SRep K ct F H ((if pn i = true then some o else none) :: Mini.fin pn (i + 1) vs.length ρ) (some v :: vs.map some) _
      rw [if_neg hi]
      exact h1
theorem fd_ok [TabsI] {P : Program} {w : World} {mg : Str → Option Value} {base : Heap} {x qual : Str} {st : Stmt} {f : Addr} {fd : FuncData} {N ps : List Str} {k : Nat} {pn : Nat → Bool} {d : Env → Option Out} (F : Fun K x qual st f fd) (S : FnScope N ps (defScope st))
    (hb : ∀ (cdv : Value) (A : Around) (outer : List PySem.Env) (s : Shared) (H : Hp) (E : XK), Room k (A.deeper (envOfC qual (defScope st) s.heap.objs.size f cdv)) →
      SSs ct (cxOf CX0 P w K mg base N qual (defScope st) f cdv A outer s H E).nox pn (fun _ _ _ _ => False) (defBody st) d) : FnOk P w K mg base CX0 (k + 1) f fd ps (spF ct K ps.length (dDef pn ps.length N.length d)) := by
  refine F.ok S (fun vs H Q E h => h.1) fun cdv A outer s H vs Q E hr h => ⟨_, hb cdv A outer s H E hr, ?_⟩
  obtain ⟨hl, F0, os, f0, r, fn, wf, rs, e, q⟩ := h
  have hstart : SRep K ct F0 H (os.map some ++ List.replicate (N.length - ps.length) none) (start N vs) f0 := by
    unfold L2.start
    rw [hl]
    exact SRep.start rs
  have pin : ∀ {σ' : L2.St}, Pin pn (start N vs) σ' → ∀ j, pn (0 + j) = true → j < vs.length → σ'[j]? = (vs.map some)[j]? := fun p j hj hjl => by
    rw [Nat.zero_add] at hj
    rw [p.2 j hj]
    unfold L2.start
    rw [List.getElem?_append_left (by simpa using hjl)]
  unfold dDef at e
  split at e
  · rename_i o ρ' ed
    cases e
    refine ⟨F0, _, f0, _, ⟨wf, hstart⟩, ed, fun v σ' F' H' g f' st r rs' p => ?_⟩
    obtain ⟨gf, h1, h2⟩ := SRep.fin rs' (pin p)
    rw [hl] at h1
    exact q v F' H' g gf (st.sub fun a => by have := h2 a; show g a + gf a ≤ g a + f' a; omega) r h1
  · rename_i ρ' ed
    cases e
    refine ⟨F0, _, f0, _, ⟨wf, hstart⟩, ed, fun σ' F' H' f' st rs' p => ?_⟩
    obtain ⟨gf, h1, h2⟩ := SRep.fin rs' (pin p)
    rw [hl] at h1
    exact q .non F' H' zf gf (st.sub fun a => by have := h2 a; show zf a + gf a ≤ f' a; simpa [zf] using this) ⟨rfl, rfl⟩ h1
  · cases e
end
theorem FD.mk' [TabsI] {P : Program} {w : World} {K : PySem.W.Frag} {mg : Str → Option Value} {base : Heap} {ct : Nat → Addr} {k : Nat} {x : Str} {f : Addr} {fd : FuncData} {ps : List Str} {Ff : Fn} (h : FnOk P w K mg base CX0 k f fd ps (spF ct K ps.length Ff)) (hm : mg x = some (.ref f)) (hk : PySem.W.keepIn K (.ref f) = true)
    (hb : Binds K fd ps []) : FD P w K mg base ct k x ps.length Ff := ⟨f, fd, ps, rfl, h, hm, hk, hb⟩
end Mini
namespace Mini
open PySem PySem.Spec PyProof.Rows L2
section
variable {ct : Nat → Addr} {K : PySem.W.Frag} {F F' H H' : Hp}
theorem set_self {σ : L2.St} {i : Nat} {v : V} (h : σ[i]? = some (some v)) : σ.set i (some v) = σ := by
  apply List.ext_getElem?
  intro j
  rw [List.getElem?_set]
  split
  · rename_i hj
    subst hj
    rw [if_pos (List.getElem?_eq_some_iff.mp h).1, h]
  · rfl
theorem Reps.app : ∀ {os ps : List O} {vs ws : List V} {f g : Fp}, Reps K ct F H os vs f → Reps K ct F H ps ws g → Reps K ct F H (os ++ ps) (vs ++ ws) (fun a => f a + g a)
  | [], ps, vs, ws, f, g, h, h2 => by
    obtain ⟨e1, e2⟩ := h
    subst e1 e2
    have : (fun a => zf a + g a) = g := by funext a; simp [zf]
    rw [this]
    exact h2
  | o :: os, ps, vs, ws, f, g, h, h2 => by
    obtain ⟨v, vr, g1, l, e, r, rs, ef⟩ := h
    subst e ef
    refine ⟨v, vr ++ ws, g1, _, rfl, r, Reps.app rs h2, ?_⟩
    funext a
    show g1 a + l a + g a = g1 a + (l a + g a)
    omega
theorem Reps.one {o : O} {v : V} {f : Fp} (h : Rep K ct F H o v f) : Reps K ct F H [o] [v] f := ⟨v, [], f, zf, rfl, h, ⟨rfl, rfl⟩, by funext a; simp [zf]⟩
theorem Reps.set {o : O} {v : V} {g : Fp} (hv : Rep K ct F H o v g) : ∀ {os : List O} {vs : List V} {f : Fp} (j : Nat), Reps K ct F H os vs f → ∃ f', Reps K ct F H (os.set j o) (vs.set j v) f' ∧ ∀ a, f' a ≤ f a + g a
  | [], vs, f, j, h => by
    obtain ⟨e1, e2⟩ := h
    subst e1 e2
    exact ⟨zf, ⟨rfl, rfl⟩, fun a => Nat.zero_le _⟩
  | o' :: os, vs, f, 0, h => by
    obtain ⟨v', vr, g1, l, e, r, rs, ef⟩ := h
    subst e ef
    exact ⟨_, ⟨v, vr, g, l, rfl, hv, rs, rfl⟩, fun a => by show g a + l a ≤ g1 a + l a + g a; omega⟩
  | o' :: os, vs, f, j + 1, h => by
    obtain ⟨v', vr, g1, l, e, r, rs, ef⟩ := h
    subst e ef
    obtain ⟨f', h1, h2⟩ := Reps.set hv j rs
    exact ⟨_, ⟨v', vr.set j v, g1, f', rfl, r, h1, rfl⟩, fun a => by have := h2 a; show g1 a + f' a ≤ g1 a + l a + g a; omega⟩
/-- an owned list in a slot is written; gy: what the new items bring -/
theorem SRep.wlist [TabsI] {ρ : Env} {σ : L2.St} {f gy : Fp} {i : Nat} {os : List O} (wf : Wf F H (fun a => f a + gy a)) (h : SRep K ct F H ρ σ f) (e : look ρ i = some (.lst true os)) :
    ∃ a xs g0, σ[i]? = some (some (.ref a)) ∧ H a = some (.lst xs) ∧ Reps K ct F H os xs g0 ∧ g0 a = 0 ∧ gy a = 0 ∧ (∀ b, g0 b ≤ f b) ∧
      ∀ os' xs' g', Reps K ct F (upd H a (.lst xs')) os' xs' g' → (∀ b, g' b ≤ g0 b + gy b) →
        ∃ f', SRep K ct F (upd H a (.lst xs')) (ρ.set i (some (.lst true os'))) σ f' ∧ Stp F H (fun a => f a + gy a) F (upd H a (.lst xs')) f' := by
  obtain ⟨l1, l2⟩ := h.len e
  obtain ⟨g, l, ef, hl, hf⟩ := SRep.hole i l1 h
  obtain ⟨v, ev, r⟩ := hl _ e
  obtain ⟨a, xs, g0, e1, ha, rs, eg⟩ := r
  subst e1
  have one := wf.one a
  have t : f a + gy a ≤ 1 := one
  have fa : f a = 1 + g0 a + l a := by rw [ef, eg]; simp [bump]
  have la : l a = 0 := by omega
  have g0a : g0 a = 0 := by omega
  have gya : gy a = 0 := by omega
  refine ⟨a, xs, g0, ev, ha, rs, g0a, gya, fun b => ?_, fun os' xs' g' r' lg => ?_⟩
  · rw [ef, eg]
    show g0 b ≤ (if b = a then 1 else 0) + g0 b + l b
    omega
  · have Fa : F a = none := wf.dj a (by show f a + gy a ≠ 0; omega)
    have hr := (hf F (upd H a (.lst xs')) (Same.refl _) fun b z => by rw [upd_ne fun y => by subst y; exact z la]).1 (.lst true os') (.ref a) (bump a g') ⟨a, xs', g', rfl, upd_same, r', rfl⟩
    rw [set_self ev] at hr
    refine ⟨_, hr, Same.refl _, ⟨fun b u hu => ?_, tabs_upd wf.tabs ⟨_, by assumption, by exact True.intro⟩, wf.ntF, fun b => ?_, fun b z => ?_⟩, fun b u hu z _ => ?_, tb_upd ⟨_, by assumption, by exact True.intro⟩, fun b z => ?_⟩
    · rw [upd_ne fun y => by subst y; rw [Fa] at hu; cases hu]
      exact wf.le b u hu
    · have o1 := wf.one b
      have o2 := lg b
      have o3 : f b = (if b = a then 1 else 0) + g0 b + l b := by rw [ef, eg]; rfl
      have o4 : f b + gy b ≤ 1 := o1
      show (if b = a then 1 else 0) + g' b + l b ≤ 1
      omega
    · refine wf.dj b ?_
      have o2 := lg b
      have o3 : f b = (if b = a then 1 else 0) + g0 b + l b := by rw [ef, eg]; rfl
      have z' : (if b = a then 1 else 0) + g' b + l b ≠ 0 := z
      show f b + gy b ≠ 0
      omega
    · have z' : f b + gy b = 0 := z
      rw [upd_ne fun y => by subst y; omega]
      exact hu
    · rcases z with z | z
      · refine .inr (.inr ?_)
        have o2 := lg b
        have o3 : f b = (if b = a then 1 else 0) + g0 b + l b := by rw [ef, eg]; rfl
        have z' : (if b = a then 1 else 0) + g' b + l b ≠ 0 := z
        show f b + gy b ≠ 0
        omega
      · exact .inl z
end
def dApp (i : Nat) (d : Env → Option O) : Env → Option Out := fun ρ => match look ρ i with
  | some (.lst true os) => match d ρ with
    | some o => if os.length < sizeLine then some (.nx (ρ.set i (some (.lst true (os ++ [o]))))) else none
    | none => none
  | _ => none
def dSetI (i : Nat) (di d : Env → Option O) : Env → Option Out := fun ρ => match d ρ with
  | some o => match look ρ i with
    | some (.lst true os) => match di ρ with
      | some (.int k) => match ixN os.length k with
        | some j => some (.nx (ρ.set i (some (.lst true (os.set j o)))))
        | none => none
      | _ => none
    | _ => none
  | none => none
section
variable {ct : Nat → Addr} {X : Cx} {pn : Nat → Bool} {W : WX} {e ie : Expr} {d di : Env → Option O} {k : Bool} {pos p1 p2 p3 apos : Pos}
theorem Pin.of_eq {σ : L2.St} : Pin pn σ σ := Pin.refl
/-- x.append(e) -/
theorem ss_app [TabsI] (i : Nat) {x : Str} (he : SX ct X false e d) (hN : X.N[i]? = some x := by rfl) (hv : Vis X.env.scope x := by first | exact Or.inl rfl | exact Or.inr (Or.inl rfl) | exact Or.inr (Or.inr rfl)) (hd : (x == ("__debug__" : Str)) = false := by decide)
    (hcd : (x == ("__classdict__" : Str)) = false := by decide)
    (hstar : starEach [e] X.env = [(false, eval e X.env)] := by rfl) (hbase : attributeBase (.Name x p1) "append" X.env (eval (.Name x p1) X.env) = eval (.Name x p1) X.env := by rfl) (hline : (apos.endLine == p2.line) = true := by rfl)
    (hs : swapsWith (.Call (.Attribute (.Name x p1) "append" apos) [e] [] p2) none pos.line X.env = pure false := by rfl) :
    SS ct X pn W (.Expr (.Call (.Attribute (.Name x p1) "append" apos) [e] [] p2) pos) (dApp i d) := by
  refine PS.imp (ps_expr (pe_bm PySem.F.plainAttrs_list PySem.F.slot_list_append PySem.F.type_list_append mt_append (pe_var hN hv hd hcd) (pa_cons he pa_nil hstar) hbase (by rw [hstar]; rfl) hline hstar rfl) hs) fun D σ H h => ?_
  obtain ⟨F, ρ, f, out, s, e, q⟩ := h
  unfold dApp at e
  split at e
  · rename_i os eo
    split at e
    · rename_i o ed
      split at e
      · rename_i hlen
        cases e
        obtain ⟨v, g, ev, r, l⟩ := s.rep.get eo
        obtain ⟨a, xs, g0, e1, ha, rs, eg⟩ := r
        subst e1
        refine ⟨.ref a, ev, .inl ⟨rfl, xs, SqL.of ha⟩, F, ρ, f, o, s, ed, fun y F1 H1 gy ex ry gd => ?_⟩
        have st := ex.stp s.wf s.rep.mem gd
        obtain ⟨a', xs', g0', ev', ha', rs', z1, z2, lg, wr⟩ := SRep.wlist st.wf (s.ext ex).rep eo
        rw [ev] at ev'
        cases ev'
        have hxs : xs' = xs := by
          have := ex.hH.own ha True.intro
          rw [ha'] at this
          cases this; rfl
        subst hxs
        refine ⟨a, xs', y, rfl, rfl, ha', ?_, ?_⟩
        · rw [← rs'.length]; exact hlen
        · have ag : ∀ b, g0' b ≠ 0 → (upd H1 a (.lst (xs' ++ [y]))) b = H1 b := fun b z => upd_ne fun w => by subst w; exact z z1
          have ag2 : ∀ b, gy b ≠ 0 → (upd H1 a (.lst (xs' ++ [y]))) b = H1 b := fun b z => upd_ne fun w => by subst w; exact z z2
          obtain ⟨f', sr, st2⟩ := wr (os ++ [o]) (xs' ++ [y]) _ (Reps.app (Reps.mono (Same.refl _) ag rs') (Reps.one (Rep.mono (Same.refl _) ag2 ry))) fun b => Nat.le_refl _
          exact q σ F1 _ f' (st.trans st2) sr Pin.refl
      · cases e
    · cases e
  · cases e
/-- x[ie] = e -/
theorem ss_seti [TabsI] (i : Nat) {x : Str} (he : SX ct X false e d) (hi : SX ct X k ie di) (hN : X.N[i]? = some x := by rfl) (hv : Vis X.env.scope x := by first | exact Or.inl rfl | exact Or.inr (Or.inl rfl) | exact Or.inr (Or.inr rfl)) (hd : (x == ("__debug__" : Str)) = false := by decide)
    (hcd : (x == ("__classdict__" : Str)) = false := by decide)
    (ha : ∀ v, assign (.Subscript (.Name x p1) ie p2) X.env v = (do
      let ov ← holding [v] (eval (.Name x p1) X.env)
      let iv ← holding [v, ov] (eval ie X.env)
      standAt p2
      holding [v, ov, iv] (setItem ov iv v)
      release [v, ov, iv] []) := by intro _; rfl)
    (hs : swapsWithSole [.Subscript (.Name x p1) ie p2] e pos.line X.env = pure false := by rfl) (hw : swappedStores [.Subscript (.Name x p1) ie p2] e X.env = pure none := by rfl)
    (h1 : (assignEach [.Subscript (.Name x p1) ie p2] X.env).map (·.2) = [assign (.Subscript (.Name x p1) ie p2) X.env] := by rfl) :
    SS ct X pn W (.Assign [.Subscript (.Name x p1) ie p2] e pos) (dSetI i di d) := by
  refine PS.imp (ps_asg he (pg_sub (pe_var hN hv hd hcd) hi set_list ha) hs hw h1) fun D σ H h => ?_
  obtain ⟨F, ρ, f, out, s, e, q⟩ := h
  unfold dSetI at e
  split at e
  · rename_i o ed
    split at e
    · rename_i os eo
      split at e
      · rename_i kk ei
        split at e
        · rename_i j ej
          cases e
          refine ⟨F, ρ, f, o, s, ed, fun y F1 H1 gy ex ry gd => ?_⟩
          have s1 := s.ext ex
          have st := ex.stp s.wf s.rep.mem gd
          obtain ⟨v, g, ev, r, l⟩ := s1.rep.get eo
          refine ⟨v, ev, F1, ρ, f, .int kk, s1, ei, fun iv F2 H2 g2 ex2 ri gd2 => ?_⟩
          obtain ⟨rfl, _⟩ := ri
          have st2 := st.trans (ex2.stp0 st.wf fun b z => by
            by_cases w : f b = 0
            · exact ry.mem b (by have z' : f b + gy b ≠ 0 := z; omega)
            · exact s1.rep.mem b w)
          obtain ⟨a, xs, g0, ev', ha', rs', z1, z2, lg, wr⟩ := SRep.wlist st2.wf (s1.ext ex2).rep eo
          rw [ev] at ev'
          cases ev'
          refine ⟨a, xs, kk, j, rfl, rfl, ha', by rw [← rs'.length]; exact ej, ?_⟩
          have ag : ∀ b, g0 b ≠ 0 → (upd H2 a (.lst (xs.set j y))) b = H2 b := fun b z => upd_ne fun w => by subst w; exact z z1
          have ag2 : ∀ b, gy b ≠ 0 → (upd H2 a (.lst (xs.set j y))) b = H2 b := fun b z => upd_ne fun w => by subst w; exact z z2
          obtain ⟨g', rr, lg'⟩ := Reps.set (Rep.mono (Same.refl _) ag2 (ry.ext ex2)) j (Reps.mono (Same.refl _) ag rs')
          obtain ⟨f', sr, st3⟩ := wr _ _ g' rr lg'
          exact q σ F2 _ f' (st2.trans st3) sr Pin.refl
        · cases e
      · cases e
    · cases e
  · cases e
end
end Mini
namespace Mini
open PySem PySem.Spec PyProof.Rows L2
section
variable {ct : Nat → Addr} {K : PySem.W.Frag} {F H : Hp}
theorem Reps.ints : ∀ ns : List Int, Reps K ct F H (ns.map O.int) (ns.map V.int) zf
  | [] => ⟨rfl, rfl⟩
  | n :: ns => ⟨.int n, ns.map V.int, zf, zf, rfl, ⟨rfl, rfl⟩, Reps.ints ns, rfl⟩
def noTab (H : Hp) : Hp := fun a => match H a with
  | some (.tbl _) => none
  | x => x
theorem noTab_of {a : Addr} {u : HO} (h : H a = some u) (n : ∀ ps, u ≠ .tbl ps) : noTab H a = some u := by
  unfold noTab
  rw [h]
  cases u <;> first | rfl | exact absurd rfl (n _)
theorem noTab_le : Same (noTab H) H := fun a u h => by
  unfold noTab at h
  split at h
  · cases h
  · exact h
theorem noTab_nt [TabsI] (t : LamX.Tabs TabsI.T H) : ∀ p ∈ TabsI.T, noTab H p.1 = none := fun p hp => by
  obtain ⟨ps, h1, _⟩ := t p hp
  unfold noTab
  rw [h1]
theorem noTab_sq {a : Addr} {xs : List V} (h : SqL K H a xs) : SqL K (noTab H) a xs := by
  rcases h with (h | ⟨o, h⟩) | h
  · exact .inl (.inl (noTab_of h fun ps z => by cases z))
  · exact .inl (.inr ⟨o, noTab_of h fun ps z => by cases z⟩)
  · exact .inr h
/-- what every law promises -/
def spLaw [TabsI] (K : PySem.W.Frag) : Sp := fun vs H Q _ => ∃ (a : Addr) (ns : List Int), vs = [.ref a] ∧ ns.length ≤ 63 ∧ (∀ z ∈ ns, Builtin.Int.intBits z ≤ 1048576) ∧ SqL K H a (ns.map V.int) ∧ LamX.Tabs TabsI.T H ∧ ∀ H', Q (.bl true) H'
theorem law_imp [TabsI] {Ff : Fn} (hmain : ∀ ns : List Int, ns.length ≤ 63 → (∀ z ∈ ns, Builtin.Int.intBits z ≤ 1048576) → ∃ fin, Ff [O.lst false (ns.map O.int)] = some (.bl true, fin)) {vs : List V} {H : Hp} {Q : VK} {E : XK} (h : spLaw K vs H Q E) : spF ct K 1 Ff vs H Q E := by
  obtain ⟨a, ns, rfl, hl, hb, hS, hT, q⟩ := h
  obtain ⟨fin, e⟩ := hmain ns hl hb
  refine ⟨rfl, noTab H, [O.lst false (ns.map O.int)], zf, _, fin, ⟨noTab_le, hT, noTab_nt hT, fun _ => Nat.zero_le _, fun _ z => absurd rfl z⟩, ⟨.ref a, [], zf, zf, rfl, ⟨a, ns.map V.int, rfl, noTab_sq hS, Reps.ints ns, rfl⟩, ⟨rfl, rfl⟩, rfl⟩, e, fun v F' H' g gf _ r _ => ?_⟩
  obtain ⟨rfl, _⟩ := r
  exact q H'
end
end Mini
namespace Mini
open PySem PySem.Spec PyProof.Rows L2
/-! right-hand sides that may raise and may write a slot's data -/
inductive Rv where
  | ok (o : O) (ρ : Env) | er (c : Nat) (ρ : Env)
def KR [TabsI] (K : PySem.W.Frag) (ct : Nat → Addr) (W : WX) (F H : Hp) (f : Fp) (σ : L2.St) (r : Rv) (Q : VK) : Prop := match r with
  | .ok o ρ' => ∀ v F' H' g f', Stp F H f F' H' (fun a => g a + f' a) → Rep K ct F' H' o v g → SRep K ct F' H' ρ' σ f' → Q v H'
  | .er c ρ' => ∀ F' H' f', Stp F H f F' H' f' → SRep K ct F' H' ρ' σ f' → W (.ref (ct c)) none σ H'
def tR [TabsI] (ct : Nat → Addr) (K : PySem.W.Frag) (W : WX) (d : Env → Option Rv) : TE := fun σ H Q =>
  ∃ F ρ f r, Sit K ct F H ρ σ f ∧ d ρ = some r ∧ KR K ct W F H f σ r Q
def SR [TabsI] (ct : Nat → Addr) (X : Cx) (W : WX) (e : Expr) (d : Env → Option Rv) : Prop := PE X e (tR ct X.K W d)
inductive Res where
  | ok (o : O) (fin : Env) | er (c : Nat) (fin : Env)
abbrev FnX := List O → Option Res
def spX [TabsI] (ct : Nat → Addr) (K : PySem.W.Frag) (n : Nat) (Ff : FnX) : Sp := fun vs H Q E => vs.length = n ∧ ∃ F os f r, Wf F H f ∧ Reps K ct F H os vs f ∧ Ff os = some r ∧
  match r with
  | .ok o fin => ∀ v F' H' g gf, Stp F H f F' H' (fun a => g a + gf a) → Rep K ct F' H' o v g → SRep K ct F' H' fin (vs.map some) gf → Q v H'
  | .er c fin => ∀ F' H' gf, Stp F H f F' H' gf → SRep K ct F' H' fin (vs.map some) gf → E (.ref (ct c)) none H'
structure FDX [TabsI] (P : Program) (w : World) (K : PySem.W.Frag) (mg : Str → Option Value) (base : Heap) (ct : Nat → Addr) (k : Nat) (x : Str) (n : Nat) (Ff : FnX) : Prop where
  ex : ∃ f fd ps, ps.length = n ∧ FnOk P w K mg base (L2.CX P w) k f fd ps (spX ct K n Ff) ∧ mg x = some (.ref f) ∧ PySem.W.keepIn K (.ref f) = true ∧ Binds K fd ps []
theorem FDX.mk' [TabsI] {P : Program} {w : World} {K : PySem.W.Frag} {mg : Str → Option Value} {base : Heap} {ct : Nat → Addr} {k : Nat} {x : Str} {f : Addr} {fd : FuncData} {ps : List Str} {Ff : FnX} (h : FnOk P w K mg base (L2.CX P w) k f fd ps (spX ct K ps.length Ff)) (hm : mg x = some (.ref f)) (hk : PySem.W.keepIn K (.ref f) = true)
    (hb : Binds K fd ps []) : FDX P w K mg base ct k x ps.length Ff := ⟨f, fd, ps, rfl, h, hm, hk, hb⟩
/-- a call, its arguments new values or borrowed -/
def dCallX (ks : List Bool) (Ff : FnX) (ds : Env → Option (List O)) : Env → Option Rv := fun ρ => match ds ρ with
  | some os => match Ff (views ks os) with
    | some (.ok r _) => if (okb ks os || noFm r) = true then some (.ok r ρ) else none
    | some (.er c _) => some (.er c ρ)
    | none => none
  | none => none
/-- a call that surely does not raise -/
def dCallN (ks : List Bool) (Ff : FnX) (ds : Env → Option (List O)) : Env → Option O := fun ρ => match ds ρ with
  | some os => match Ff (views ks os) with
    | some (.ok r _) => if (okb ks os || noFm r) = true then some r else none
    | _ => none
  | none => none
section
variable {ct : Nat → Addr} {X : Cx} {W : WX} {ks : List Bool} {e : Expr} {es : List Expr} {d : Env → Option O} {dr : Env → Option Rv} {ds : Env → Option (List O)} {Ff : FnX} {k : Nat} {x : Str} {p pos : Pos} {n : Nat}
theorem Kn.of_KR [TabsI] {K : PySem.W.Frag} {F H : Hp} {ρ : Env} {σ : L2.St} {f : Fp} {o : O} {Q : VK} (s : Sit K ct F H ρ σ f) (q : KR K ct W F H f σ (.ok o ρ) Q) : Kn K ct false f F H o Q := fun v F1 H1 g ex r gd =>
  q v F1 H1 g f ((ex.stp s.wf s.rep.mem gd).sub fun a => by show g a + f a ≤ f a + g a; omega) r (s.ext ex).rep
theorem sr_call [TabsI] {k0 : Bool} (D : FDX X.prog X.w X.K X.mg X.base ct k x n Ff) (hr : Room k X.A) (tk : Takes X W) (ha : SA ct X (k0 :: ks) (e :: es) ds) (hn : (k0 :: ks).length = n := by rfl) (hg : Gl X x := by rfl) (hdb : (x == ("__debug__" : Str)) = false := by decide)
    (he : starEach (e :: es) X.env = (false, eval e X.env) :: starEach es X.env := by rfl) (hpl : (backTo pos (starEach es X.env)).any (·.1) = false := by rfl) : SR ct X W (.Call (.Name x p) (e :: es) [] pos) (dCallX (k0 :: ks) Ff ds) := by
  obtain ⟨f, fd, ps, hps, hF, hm, hk, hb⟩ := D.ex
  refine PE.imp (pe_callS hF hr hg hm hk hb (fun σ => passAt tk σ) ha hdb he hpl) fun σ H Q h => ?_
  obtain ⟨F, ρ, f, r, s, e, q⟩ := h
  unfold dCallX at e
  split at e
  · rename_i os eos
    split at e
    · rename_i o fin er
      split at e
      · rename_i c
        cases e
        refine ⟨F, ρ, f, os, s, eos, fun vs F1 H1 gb gv ex ar hb hv => ?_⟩
        obtain ⟨c1, c2, c3⟩ := call_back s.wf s.rep.mem ex ar hb hv c (Kn.of_KR s q)
        refine ⟨by rw [ar.len, hn], _, _, gv, _, c1, c2, er, fun v F' H' g gf st r _ => c3 v F' H' g gf st r⟩
      · cases e
    · rename_i c fin er
      cases e
      refine ⟨F, ρ, f, os, s, eos, fun vs F1 H1 gb gv ex ar hb hv => ?_⟩
      obtain ⟨c1, c2, c3⟩ := call_back (r := .non) (Q := fun _ _ => True) s.wf s.rep.mem ex ar hb hv (by simp [noFm]) (fun _ _ _ _ _ _ _ => True.intro)
      refine ⟨by rw [ar.len, hn], _, _, gv, _, c1, c2, er, fun F' H' gf st _ => ?_⟩
      obtain ⟨n1, n2, n3⟩ := hv.n
      -- the caller's own part
      have hFc : Same F1 (fun a => if gb a ≠ 0 then H1 a else F1 a) := fun a u hu => by
        show (if gb a ≠ 0 then H1 a else F1 a) = some u
        by_cases z : gb a ≠ 0
        · rw [if_pos z]; exact ex.le a u hu
        · rw [if_neg z]; exact hu
      have hH : SameT H H' := ⟨fun a o ho nt => by
        refine st.frame a o (ex.hH.nt a o ho nt) (Classical.byContradiction fun z => ?_) nt
        rw [n2 a z] at ho; (cases ho), fun a ps ho => by obtain ⟨p1, h1⟩ := ex.hH.tb a ps ho; exact st.tb a p1 h1, fun _ => st.wf.tabs⟩
      have e2 : Ext F H (fun a => if gb a ≠ 0 then none else F' a) H' := by
        refine ⟨fun a u hu => ?_, hH, fun a u hu => ?_, fun a z => ?_⟩
        · show (if gb a ≠ 0 then none else F' a) = some u
          rw [if_neg fun z => by rw [s.wf.dj a (hb a z)] at hu; cases hu]
          exact st.hF a u (hFc a u (ex.hF a u hu))
        · have hu' : (if gb a ≠ 0 then none else F' a) = some u := hu
          by_cases z : gb a ≠ 0
          · rw [if_pos z] at hu'; cases hu'
          · rw [if_neg z] at hu'; exact st.wf.le a u hu'
        · have z' : (if gb a ≠ 0 then none else F' a) ≠ none := z
          by_cases w : gb a ≠ 0
          · rw [if_pos w] at z'; exact absurd rfl z'
          · rw [if_neg w] at z'
            rcases st.new a (.inr z') with y | y | y
            · have y' : (if gb a ≠ 0 then H1 a else F1 a) ≠ none := y
              rw [if_neg w] at y'
              exact ex.new a y'
            · exact .inr (ex.hH.free y)
            · exact .inr (n2 a y)
      exact q _ H' f (e2.stp0 s.wf s.rep.mem) (s.ext e2).rep
    · cases e
  · cases e
end
/-! statements over them -/
def dAsgR (d : Env → Option Rv) (dg : O → Env → Option Env) : Env → Option Out := fun ρ => match d ρ with
  | some (.ok o ρ1) => match dg o ρ1 with
    | some ρ' => some (.nx ρ')
    | none => none
  | some (.er c ρ1) => some (.er c ρ1)
  | none => none
def dRetR (d : Env → Option Rv) : Env → Option Out := fun ρ => match d ρ with
  | some (.ok o ρ1) => some (.rt o ρ1)
  | some (.er c ρ1) => some (.er c ρ1)
  | none => none
def dExprR (d : Env → Option Rv) : Env → Option Out := fun ρ => match d ρ with
  | some (.ok _ ρ1) => some (.nx ρ1)
  | some (.er c ρ1) => some (.er c ρ1)
  | none => none
section
variable {ct : Nat → Addr} {X : Cx} {pn : Nat → Bool} {W : WX} {e tg : Expr} {pos : Pos} {dg : O → Env → Option Env} {d : Env → Option Rv}
theorem asgR_go [TabsI] {g : TG} (hg : ∀ v σ H Q, tGt ct X.K pn dg v σ H Q → g v σ H Q) {D : Ends} {σ : L2.St} {H : Hp} (h : tSt ct X.K pn W (dAsgR d dg) D σ H) : tAsg (tR ct X.K W d) g D σ H := by
  obtain ⟨F, ρ, f, out, s, e, q⟩ := h
  unfold dAsgR at e
  split at e
  · rename_i o ρ1 eo
    split at e
    · rename_i ρ' eg
      cases e
      refine ⟨F, ρ, f, _, s, eo, fun v F1 H1 g1 f1 st r rs => hg _ _ _ _ ?_⟩
      have st' : Stp F H f F1 H1 (fun a => f1 a + g1 a) := st.sub fun a => by show f1 a + g1 a ≤ g1 a + f1 a; omega
      refine ⟨F1, ρ1, f1, g1, o, ρ', ⟨st'.wf.sub fun a => Nat.le_add_right _ _, rs⟩, r, st'.wf, eg, fun σ' f' rs' l p => ?_⟩
      exact q σ' F1 H1 f' (st'.sub l) rs' p
    · cases e
  · rename_i c ρ1 eo
    cases e
    exact ⟨F, ρ, f, _, s, eo, fun F1 H1 f1 st rs => q σ F1 H1 f1 st rs Pin.refl⟩
  · cases e
theorem ss_setR [TabsI] (i : Nat) {x : Str} {pos' : Pos} (hN : X.N.Nodup) (he : SR ct X W e d) (hp : pn i = false := by rfl) (hi : X.N[i]? = some x := by rfl) (hx : Loc X.env.scope x := by first | exact Or.inl rfl | exact Or.inr rfl)
    (hs : swapsWith e (some (.Name x pos')) pos.line X.env = pure false := by rfl) (hf : X.fn x = true ∨ X.env.scope.names.lookup x = some .local := by first | exact .inl rfl | exact .inr rfl) : SS ct X pn W (.Assign [.Name x pos'] e pos) (dAsgR d (gSet i)) := by
  refine PS.imp (ps_set hN hi hx he hs hf) fun D σ H h => asgR_go (fun v σ H Q h => ?_) h
  obtain ⟨F, ρ, f, g, o, ρ', s, r, w, e, q⟩ := h
  unfold gSet at e
  split at e
  · cases e
    obtain ⟨g1, h1, ef, _, hf⟩ := SRep.hole i (by assumption) s.rep
    refine q _ _ ((hf F H (Same.refl _) fun _ _ => rfl).1 o v g r) (fun a => ?_) (Pin.set hp)
    rw [ef]
    show g a + h1 a ≤ g1 a + h1 a + g a
    omega
  · cases e
/-! raise -/
structure EC (K : PySem.W.Frag) (mg : Str → Option Value) (ct : Nat → Addr) (c : Nat) (x : Str) : Prop where
  g : mg x = some (.ref (ct c))
  ex : PySem.W.excIn K (ct c) [.type "ValueError", .type "Exception", .type "BaseException", .type "object"] "ValueError.__new__" = true
  kp : PySem.W.keepIn K (.ref (ct c)) = true
  sub : PySem.W.subIn K (.ref (ct c)) (.type "BaseException") = some true
  ty : PySem.W.typeIn K (.ref (ct c)) = some (.type "type")
theorem ss_raise [TabsI] (c : Nat) {x m : Str} {j : Nat} {p p2 p3 : Pos} (hc : X.calm = true) (tk : Takes X W) (E : EC X.K X.mg ct c x) (hg : Gl X x := by rfl) (hdb : (x == ("__debug__" : Str)) = false := by decide) :
    SS ct X pn W (.Raise (some (.Call (.Name x p) [.Constant (.str m) j p2] [] p3)) none pos) (fun ρ => some (.er c ρ)) := by
  refine PS.imp (ps_raise hc tk (pmk_own PySem.F.excBase_ValueError E.ex E.g E.kp (raises_own E.sub E.ty) hg hdb)) fun D σ H h => ?_
  obtain ⟨F, ρ, f, out, s, e, q⟩ := h
  cases e
  exact q σ F H f (Stp.refl s.wf) s.rep Pin.refl
end
/-! a def that may raise, by its body -/
def dDefX (pn : Nat → Bool) (n m : Nat) (d : Env → Option Out) : FnX := fun os => match d (os.map some ++ List.replicate (m - n) none) with
  | some (.rt o ρ) => some (.ok o (fin pn 0 n ρ))
  | some (.nx ρ) => some (.ok .non (fin pn 0 n ρ))
  | some (.er c ρ) => some (.er c (fin pn 0 n ρ))
  | _ => none
theorem fdx_ok [TabsI] {ct : Nat → Addr} {K : PySem.W.Frag} {P : Program} {w : World} {mg : Str → Option Value} {base : Heap} {x qual : Str} {st : Stmt} {f : Addr} {fd : FuncData} {N ps : List Str} {k : Nat} {pn : Nat → Bool} {d : Env → Option Out} (F : Fun K x qual st f fd) (S : FnScope N ps (defScope st))
    (hb : ∀ (cdv : Value) (A : Around) (outer : List PySem.Env) (s : Shared) (H : Hp) (E : XK), Room k (A.deeper (envOfC qual (defScope st) s.heap.objs.size f cdv)) →
      SSs ct (cxOf (L2.CX P w) P w K mg base N qual (defScope st) f cdv A outer s H E) pn (fun cls d _ H' => E cls d H') (defBody st) d) : FnOk P w K mg base (L2.CX P w) (k + 1) f fd ps (spX ct K ps.length (dDefX pn ps.length N.length d)) := by
  refine F.okX S (fun vs H Q E h => h.1) fun cdv A outer s H vs Q E hr h => ⟨_, hb cdv A outer s H E hr, ?_⟩
  obtain ⟨hl, F0, os, f0, r, wf, rs, e, q⟩ := h
  have hstart : SRep K ct F0 H (os.map some ++ List.replicate (N.length - ps.length) none) (L2.start N vs) f0 := by
    unfold L2.start
    rw [hl]
    exact SRep.start rs
  have pin : ∀ {σ' : L2.St}, Pin pn (L2.start N vs) σ' → ∀ j, pn (0 + j) = true → j < vs.length → σ'[j]? = (vs.map some)[j]? := fun p j hj hjl => by
    rw [Nat.zero_add] at hj
    rw [p.2 j hj]
    unfold L2.start
    rw [List.getElem?_append_left (by simpa using hjl)]
  unfold dDefX at e
  split at e
  · rename_i o ρ' ed
    cases e
    refine ⟨F0, _, f0, _, ⟨wf, hstart⟩, ed, fun v σ' F' H' g f' st r rs' p => ?_⟩
    obtain ⟨gf, h1, h2⟩ := SRep.fin rs' (pin p)
    rw [hl] at h1
    exact q v F' H' g gf (st.sub fun a => by have := h2 a; show g a + gf a ≤ g a + f' a; omega) r h1
  · rename_i ρ' ed
    cases e
    refine ⟨F0, _, f0, _, ⟨wf, hstart⟩, ed, fun σ' F' H' f' st rs' p => ?_⟩
    obtain ⟨gf, h1, h2⟩ := SRep.fin rs' (pin p)
    rw [hl] at h1
    exact q .non F' H' zf gf (st.sub fun a => by have := h2 a; show zf a + gf a ≤ f' a; simpa [zf] using this) ⟨rfl, rfl⟩ h1
  · rename_i c ρ' ed
    cases e
    refine ⟨F0, _, f0, _, ⟨wf, hstart⟩, ed, fun σ' F' H' f' st rs' p => ?_⟩
    obtain ⟨gf, h1, h2⟩ := SRep.fin rs' (pin p)
    rw [hl] at h1
    exact q F' H' gf (st.sub h2) h1
  · cases e
end Mini
namespace Mini
open PySem PySem.Spec PyProof.Rows L2
theorem SRep.clear {K : PySem.W.Frag} {ct : Nat → Addr} {F H : Hp} : ∀ {ρ : Env} {σ : L2.St} {f : Fp} (i : Nat) (x : Option V), SRep K ct F H ρ σ f → ∃ h : Fp, SRep K ct F H (ρ.set i none) (σ.set i x) h ∧ ∀ a, h a ≤ f a
  | [], σ, f, i, x, h => ⟨f, by simpa [SRep] using h, fun _ => Nat.le_refl _⟩
  | none :: ρ, [], _, _, _, h => (show False from h).elim
  | none :: ρ, s :: σ, f, 0, x, h => ⟨f, h, fun _ => Nat.le_refl _⟩
  | none :: ρ, s :: σ, f, i + 1, x, h => by
    obtain ⟨l, h1, h2⟩ := SRep.clear (ρ := ρ) (σ := σ) i x h
    exact ⟨l, h1, h2⟩
  | some o :: ρ, [], _, _, _, h => (show False from h).elim
  | some o :: ρ, none :: σ, _, _, _, h => (show False from h).elim
  | some o :: ρ, some v :: σ, f, 0, x, h => by
    obtain ⟨g, l, r, rs, ef⟩ := (show ∃ g h, Rep K ct F H o v g ∧ SRep K ct F H ρ σ h ∧ f = fun a => g a + h a from h)
    exact ⟨l, rs, fun a => by rw [ef]; exact Nat.le_add_left _ _⟩
  | some o :: ρ, some v :: σ, f, i + 1, x, h => by
    obtain ⟨g, l, r, rs, ef⟩ := (show ∃ g h, Rep K ct F H o v g ∧ SRep K ct F H ρ σ h ∧ f = fun a => g a + h a from h)
    obtain ⟨l', h1, h2⟩ := SRep.clear (ρ := ρ) (σ := σ) i x rs
    exact ⟨fun a => g a + l' a, ⟨g, l', r, h1, rfl⟩, fun a => by rw [ef]; have := h2 a; show g a + l' a ≤ g a + l a; omega⟩
def clr (i : Nat) : Out → Option Out
  | .nx ρ => some (.nx (ρ.set i none))
  | .rt o ρ => some (.rt o (ρ.set i none))
  | .bk ρ => some (.bk (ρ.set i none))
  | .ct ρ => some (.ct (ρ.set i none))
  | .er _ _ => none
def clrO (i : Nat) (d : Option Out) : Option Out := match d with
  | some o => clr i o
  | none => none
open Classical in
noncomputable def pick (i : Nat) (g : Addr → Option Out) : Option Out := if h : ∃ out, ∀ a, clrO i (g a) = some out then some h.choose else none
theorem pick_of {i : Nat} {g : Addr → Option Out} {out : Out} (h : ∀ a, clrO i (g a) = some out) : pick i g = some out := by
  have hx : ∃ out, ∀ a, clrO i (g a) = some out := ⟨out, h⟩
  unfold pick
  rw [dif_pos hx]
  have e1 := hx.choose_spec 0
  rw [h 0] at e1
  exact e1.symm
theorem pick_to {i : Nat} {g : Addr → Option Out} {out : Out} (h : pick i g = some out) : ∀ a, clrO i (g a) = some out := by
  unfold pick at h
  split at h
  · rename_i hx
    cases h
    exact hx.choose_spec
  · cases h
/-- try .. except .. as the name of slot i -/
noncomputable def dTry (isE handles : Nat → Bool) (i : Nat) (db : Env → Option Out) (ds : Nat → Addr → Env → Option Out) : Env → Option Out := fun ρ => match db ρ with
  | some (.er c ρ1) => if isE c = true ∧ i < ρ1.length then (if handles c = true then pick i (fun a => ds c a (ρ1.set i (some (.exc a)))) else some (.er c ρ1)) else none
  | r => r
section
variable {ct : Nat → Addr} {X : Cx} {pn : Nat → Bool} {W : WX} {n x : Str} {C : Addr} {i : Nat} {body suite : List Stmt} {b0 : Stmt} {np pos pos' : Pos} {db : Env → Option Out} {ds : Nat → Addr → Env → Option Out} {isE handles : Nat → Bool}
theorem ss_try [TabsI] (i : Nat) (hs : X.stack = X.env :: X.outer) (hf : X.env.frame = some X.env.locals) (hN : X.N.Nodup) (tk : Takes X W) (hm : X.mg x = some (.ref C)) (hx : ∀ c, isE c = true → PySem.W.exmOne X.K (.ref (ct c)) (.ref C) = some (handles c))
    (hb : ∀ (W' : WX) (pn' : List (Addr × Obj)) (xe : Value → Shared → Prop), Takes (X.tr pn' xe) W' → PassesOwn (model X.prog X.w) X.A X.env xe → SSs ct (X.tr pn' xe) pn W' body db)
    (hsu : ∀ (a : Addr) (oe : Obj) (c : Nat) (pn' : List (Addr × Obj)), isE c = true → Zc (.ref (ct c)) none oe → (∃ vs, oe.data = .fields vs) → SSs ct (X.suite a ((a, oe) :: pn')) pn (fun _ _ _ _ => False) (b0 :: suite) (ds c a))
    (hp : pn i = false := by rfl) (hi : X.N[i]? = some n := by rfl) (hln : X.env.kindOf n = some .local := by rfl) (hg : Gl X x := by rfl) (hdb : (x == ("__debug__" : Str)) = false := by decide) :
    SS ct X pn W (.Try body [.ExceptHandler (some (.Name x np)) (some n) (b0 :: suite) pos'] [] [] pos) (dTry isE handles i db ds) := by
  refine PS.imp (ps_try_as (i := i) (c := .ref C) (tb := fun W' => tSt ct X.K pn W' db) (ts := fun a cls d => fun D σ H => ∃ c, isE c = true ∧ cls = .ref (ct c) ∧ d = none ∧ tSt ct X.K pn (fun _ _ _ _ => False) (ds c a) D σ H)
    hs hf hN hi hln ⟨hg, hdb, .inl hm⟩ tk hb fun a oe cls d pn' hz hv => ⟨fun pins s σ H D I h => ?_⟩) fun D σ H h => ?_
  · obtain ⟨c, hc, rfl, rfl, h⟩ := h
    exact (hsu a oe c pn' hc hz hv).run pins s σ H D I h
  · obtain ⟨F, ρ, f, out, s, e, q⟩ := h
    unfold dTry at e
    split at e
    · rename_i c ρ1 eb
      split at e
      · rename_i hc
        refine ⟨F, ρ, f, _, s, eb, fun σ' F' H' f' st rs p => ?_⟩
        refine ⟨handles c, hx c hc.1, fun hh a ha => ?_, fun hh => ?_⟩
        · rw [if_pos hh] at e
          have ea := pick_to e a
          unfold clrO at ea
          split at ea
          · rename_i oa eoa
            obtain ⟨g1, h1, ef, _, hf'⟩ := SRep.hole i hc.2 rs
            have rs2 := (hf' F' H' (Same.refl _) fun _ _ => rfl).1 (.exc a) (.ref a) zf ⟨rfl, rfl⟩
            have st2 : Stp F H f F' H' (fun b => zf b + h1 b) := st.sub fun b => by rw [ef]; show zf b + h1 b ≤ g1 b + h1 b; simp [zf]
            have p2 : Pin pn σ (σ'.set i (some (.ref a))) := p.trans (Pin.set hp)
            refine ⟨c, hc.1, rfl, rfl, F', _, _, oa, ⟨st2.wf, rs2⟩, eoa, ?_⟩
            have q2 := q.go st2 p2
            cases oa with
            | nx ρ2 =>
              cases ea
              intro σ3 F3 H3 f3 st3 rs3 p3
              obtain ⟨l, c1, c2⟩ := SRep.clear i none rs3
              exact q2 _ F3 H3 l (st3.sub c2) c1 (p3.trans (Pin.set hp))
            | rt o ρ2 =>
              cases ea
              intro v σ3 F3 H3 g3 f3 st3 r3 rs3 p3
              obtain ⟨l, c1, c2⟩ := SRep.clear i none rs3
              exact q2 v _ F3 H3 g3 l (st3.sub fun b => by have := c2 b; show g3 b + l b ≤ g3 b + f3 b; omega) r3 c1 (p3.trans (Pin.set hp))
            | bk ρ2 =>
              cases ea
              intro σ3 F3 H3 f3 st3 rs3 p3
              obtain ⟨l, c1, c2⟩ := SRep.clear i none rs3
              exact q2 _ F3 H3 l (st3.sub c2) c1 (p3.trans (Pin.set hp))
            | ct ρ2 =>
              cases ea
              intro σ3 F3 H3 f3 st3 rs3 p3
              obtain ⟨l, c1, c2⟩ := SRep.clear i none rs3
              exact q2 _ F3 H3 l (st3.sub c2) c1 (p3.trans (Pin.set hp))
            | er c2 ρ2 => cases ea
          · cases ea
        · rw [if_neg (by rw [hh]; exact Bool.false_ne_true)] at e
          cases e
          exact q σ' F' H' f' st rs p
      · cases e
    · rename_i hn
      refine ⟨F, ρ, f, out, s, e, ?_⟩
      cases out with
      | nx ρ' => exact q
      | rt o ρ' => exact q
      | bk ρ' => exact q
      | ct ρ' => exact q
      | er c ρ' => exact absurd e (hn c ρ')
/-- isinstance(e, N) within the suite, e the caught exception -/
def dIsE (i : Nat) (a : Addr) (b : Bool) : Env → Option O := fun ρ => match look ρ i with
  | some (.exc a') => if a' = a then some (.bl b) else none
  | _ => none
theorem sx_isE [TabsI] {a : Addr} {oe : Obj} {pn' : List (Addr × Obj)} {c m : Nat} {y N : Str} {p p1 p2 : Pos} {b : Bool} (i : Nat) (hm : X.mg "isinstance" = none) (hmN : X.mg N = some (.ref (ct m))) (C : ExcC X.K (ct c)) (hz : Zc (.ref (ct c)) none oe) (hf : ∃ vs, oe.data = .fields vs) (hk : PySem.W.kitOne X.K (.ref (ct c)) (.ref (ct m)) = some b)
    (hN : X.N[i]? = some y := by rfl) (hv : Vis X.env.scope y := by first | exact Or.inl rfl | exact Or.inr (Or.inl rfl) | exact Or.inr (Or.inr rfl)) (hd : (y == ("__debug__" : Str)) = false := by decide) (hcd : (y == ("__classdict__" : Str)) = false := by decide)
    (hg : Gl X "isinstance" := by rfl) (hgN : Gl X N := by rfl) (hdN : (N == ("__debug__" : Str)) = false := by decide)
    (he : starEach [.Name y p1, .Name N p2] X.env = (false, eval (.Name y p1) X.env) :: starEach [.Name N p2] X.env := by rfl) :
    SX ct (X.suite a ((a, oe) :: pn')) false (.Call (.Name "isinstance" p) [.Name y p1, .Name N p2] [] pos) (dIsE i a b) := by
  refine PE.imp (pe_callB (X := X.suite a ((a, oe) :: pn')) (call_isE C hz hf) hg hm (by decide +kernel) (pa_cons (pe_var hN hv hd hcd) (pa_cons (pe_glob (v := .ref (ct m)) hgN hmN rfl hdN) pa_nil) he) (by decide) (by decide) he rfl) fun σ H Q h => ?_
  obtain ⟨F, ρ, f, o, s, e, q⟩ := h
  unfold dIsE at e
  split at e
  · rename_i a' ea
    split at e
    · rename_i hh
      cases e
      subst hh
      obtain ⟨v, g, ev, r, _⟩ := s.rep.get ea
      obtain ⟨rfl, _⟩ := r
      exact ⟨_, ev, .ref (ct m), .ref (ct m), b, rfl, fun u hu => hu, hk, q.scal s.wf.le fun _ _ => ⟨rfl, rfl⟩⟩
    · cases e
  · cases e
end
theorem kitR_of {K : PySem.W.Frag} {x y : Addr} {b : Bool} (h : PySem.W.subIn K (.ref x) (.ref y) = some b) (hs : PySem.W.subIn K (.ref x) (.ref x) = some true) (hd : PySem.W.hasDictIn K y = true) (ht : PySem.W.typeIn K (.ref y) = some (.type "type")) : PySem.W.kitOne K (.ref x) (.ref y) = some b := by
  unfold PySem.W.kitOne
  split
  · rename_i e
    have e' : Value.ref x = Value.ref y := eq_of_beq e
    injection e' with e'
    subst e'
    rw [hs] at h
    exact h
  · unfold PySem.W.kitCls
    obtain ⟨cd, hc, _⟩ := PySem.W.any_some hd
    show (if ((PySem.W.clsIn K y).isSome && PySem.W.typeIn K (.ref y) == some (.type "type")) = true then PySem.W.subIn K (.ref x) (.ref y) else none) = some b
    rw [hc, ht]
    simpa using h
end Mini
namespace Mini
open PySem PySem.Spec PyProof.Rows L2
section
variable {ct : Nat → Addr} {X : Cx} {a b c e : Expr} {da db dc d : Env → Option O} {k k1 k2 k3 : Bool} {pos : Pos}
def shlOk0 (i j : Int) : Bool := decide (0 ≤ j) && decide ((Builtin.Int.intBits i : Int) + j ≤ 2 ^ 27)
noncomputable def shlOk := hid shlOk0
theorem shlOk_def : shlOk = shlOk0 := hid_eq _
noncomputable def oShl := intsO shlOk fun i j => .int (i * 2 ^ j.toNat)
def oBits : O → Option O
  | .int i => some (.int (Builtin.Int.intBits i : Nat))
  | _ => none
/-! names of the module -/
/-! is None -/
def isNon : O → Bool
  | .non => true
  | _ => false
def oIsN (x y : O) : Option O := match y with
  | .non => some (.bl (isNon x))
  | _ => none
def oNotN (x y : O) : Option O := match y with
  | .non => some (.bl (!isNon x))
  | _ => none
/-! a op b op' c -/
def dChain (fn fn' : O → O → Option O) (da db dc : Env → Option O) : Env → Option O := fun ρ => match da ρ with
  | some x => match db ρ with
    | some y => match fn x y with
      | some (.bl true) => match dc ρ with
        | some z => fn' y z
        | none => none
      | some (.bl false) => some (.bl false)
      | _ => none
    | none => none
  | none => none
/-! x in a list or tuple of plain items -/
def flatO : O → Bool
  | .non => true
  | .bl _ => true
  | .int _ => true
  | .str _ => true
  | _ => false
def eqF : O → O → Bool
  | .non, .non => true
  | .bl a, .bl b => a == b
  | .bl a, .int b => (if a then 1 else 0) == b
  | .int a, .bl b => a == (if b then 1 else 0)
  | .int a, .int b => a == b
  | .str a, .str b => a == b
  | _, _ => false
def oIn (neg : Bool) (x y : O) : Option O := match y with
  | .tup ys => if (flatO x && ys.all flatO) = true then some (.bl (if neg then !(ys.any fun y => eqF y x) else ys.any fun y => eqF y x)) else none
  | .lst _ ys => if (flatO x && ys.all flatO) = true then some (.bl (if neg then !(ys.any fun y => eqF y x) else ys.any fun y => eqF y x)) else none
  | _ => none
/-! new lists and tuples of frozen items -/
theorem Kn.newl [TabsI] {K : PySem.W.Frag} {F H : Hp} {os : List O} {vs : List V} {Q : VK} {p : Addr} {f : Fp} (q : Kn K ct false f F H (.lst true os) Q) (le : Same F H) (r : Reps K ct F H os vs zf) (np : H p = none) : Q (.ref p) (upd H p (.lst vs)) := by
  have hFp : F p = none := le.free np
  have e2 : Ext F H F (upd H p (.lst vs)) :=
    ⟨Same.refl _, (Same.t fun b o hb => by rw [upd_ne (ne_of_none hb np)]; exact hb), fun b o hb => by rw [upd_ne (ne_of_none hb hFp)]; exact le b o hb, fun a ha => .inl ha⟩
  refine q (.ref p) _ _ (bump p zf) e2 ⟨p, vs, zf, rfl, upd_same, r.ext e2, rfl⟩ (Gd.mkn (fun a => ?_) (fun a z => ?_) fun a z => ?_)
  · by_cases y : a = p
    · simp [bump, y, zf]
    · simp [bump, y, zf]
  · by_cases y : a = p
    · subst y; exact np
    · exact absurd (by simp [bump, y, zf]) z
  · by_cases y : a = p
    · subst y; exact hFp
    · exact absurd (by simp [bump, y, zf]) z
theorem Kn.newt [TabsI] {K : PySem.W.Frag} {F H : Hp} {os : List O} {vs : List V} {Q : VK} {p : Addr} {f : Fp} (q : Kn K ct false f F H (.tup os) Q) (le : Same F H) (r : Reps K ct F H os vs zf) (np : H p = none) : Q (.ref p) (upd H p (.tup vs)) := by
  have hFp : F p = none := le.free np
  have e2 : Ext F H (upd F p (.tup vs)) (upd H p (.tup vs)) := by
    refine ⟨fun b o hb => by rw [upd_ne (ne_of_none hb hFp)]; exact hb, (Same.t fun b o hb => by rw [upd_ne (ne_of_none hb np)]; exact hb), fun b o hb => ?_, fun a ha => ?_⟩
    · by_cases y : b = p
      · subst y; rw [upd_same] at hb ⊢; exact hb
      · rw [upd_ne y] at hb ⊢; exact le b o hb
    · by_cases y : a = p
      · subst y; exact .inr np
      · rw [upd_ne y] at ha; exact .inl ha
  exact q (.ref p) _ _ zf e2 ⟨p, vs, rfl, .inl (.inl upd_same), r.ext e2⟩ Gd.zero
def oList : O → Option O
  | .lst _ os => if isFzs os = true then some (.lst true os) else none
  | .tup os => if isFzs os = true then some (.lst true os) else none
  | _ => none
def oTuple : O → Option O
  | .lst _ os => if isFzs os = true then some (.tup os) else none
  | .tup os => if isFzs os = true then some (.tup os) else none
  | _ => none
end
end Mini
namespace Mini
open PySem PySem.Spec PyProof.Rows L2
/-! + and * of ints, texts, lists, tuples -/
theorem OpR.or {X : Cx} {f : Value → Value → Sem Value} {r r' : R2} (h : OpR X f r) (h' : OpR X f r') : OpR X f (fun x y H Q => r x y H Q ∨ r' x y H Q) := by
  intro pins s σ H x y v u Q I rx ry q
  rcases q with q | q
  · exact h pins s σ H x y v u Q I rx ry q
  · exact h' pins s σ H x y v u Q I rx ry q
def rCatL (K : PySem.W.Frag) : R2 := fun x y H Q => ∃ a b xs ys, x = .ref a ∧ y = .ref b ∧ SqL K H a xs ∧ SqL K H b ys ∧ xs.length + ys.length ≤ sizeLine ∧ ∀ p, H p = none → Q (.ref p) (upd H p (.lst (xs ++ ys)))
def rRepL (K : PySem.W.Frag) : R2 := fun x y H Q => ∃ a k xs, x = .ref a ∧ y = .int k ∧ SqL K H a xs ∧ -(2 ^ 63) ≤ k ∧ k < 2 ^ 63 ∧ xs.length * k.toNat ≤ sizeLine ∧ ∀ p, H p = none → Q (.ref p) (upd H p (.lst (List.replicate k.toNat xs).flatten))
section
variable {X : Cx}
theorem op_catL : OpR X (binaryOp .Add) (rCatL X.K) := by
  intro pins s σ H x y v u Q I rx ry h
  obtain ⟨a, b, xs, ys, rfl, rfl, ha, hb, hz, q⟩ := h
  cases rx
  cases ry
  obtain ⟨its, r1, ⟨⟨cls, dd, data, sl⟩, n, ho, hc, hdn, hd⟩, _⟩ := I.list ha
  obtain ⟨its2, r2, ⟨⟨cls2, dd2, data2, sl2⟩, n2, ho2, hc2, hdn2, hd2⟩, _⟩ := I.list hb
  simp only at hc hd hc2 hd2
  subst hc hd hc2 hd2
  have e : its.toArray ++ its2.toArray = (its ++ its2).toArray := by simp
  have el := r1.length
  have el2 := r2.length
  refine concat_meets ⟨_, ho, rfl⟩ ⟨_, ho2, rfl⟩ noFill_list_add seq_list_add PySem.F.slot_list_add PySem.F.entry_list_add (PySem.F.args_list_add_2 _ _) (list_addW a b its.toArray its2.toArray n n2 dd dd2 sl sl2 (by rw [List.size_toArray, List.size_toArray]; omega)) ⟨ho, ho2, ?_⟩
  rw [e]
  exact ⟨.ref _, _, I.lnew (t' := s.toks) (r1.append r2) (by rw [List.length_append]; exact hz), rfl, q _ I.fresh⟩
theorem op_repL : OpR X (binaryOp .Mult) (rRepL X.K) := by
  intro pins s σ H x y v u Q I rx ry h
  obtain ⟨a, k, xs, rfl, rfl, ha, h1, h2, hz, q⟩ := h
  cases rx
  obtain ⟨t, rfl⟩ := ry
  obtain ⟨its, r1, ⟨⟨cls, dd, data, sl⟩, n, ho, hc, hdn, hd⟩, _⟩ := I.list ha
  simp only at hc hd
  subst hc hd
  have el := r1.length
  have hsl := sizeLine_eq
  have hz' : its.toArray.size * k.toNat ≤ sizeLine := by rw [List.size_toArray, ← el]; exact hz
  refine wpAny_binaryOp_repeat_ref (T := "list") (U := "int") (by decide) ⟨_, ho, rfl⟩ (fun s' => typeIs_int s' k t) noFill_list_mul F.fills_int_mul F.slot_int_rmul repeat_list F.slot_int_index.lookup
    (call_meets F.slot_int_rmul (typeIs_int s k t) F.entry_int_rmul (F.args_int_rmul_2 _ _) (lm_int_rmul_list_any k t a its.toArray n dd sl)
      ⟨ho, rfl, ⟨_, ho, rfl⟩, call_meets F.slot_list_mul ⟨_, ho, rfl⟩ F.entry_list_mul (F.args_list_mul_2 _ _)
        (lm_list_mul_any a its.toArray n dd sl k t (by rw [fitsIndex_both h1 h2]; exact Bool.false_ne_true) (by omega) (by simp only [Builtin.List.listTooLong, decide_eq_true_eq]; omega))
        ⟨ho, ?_⟩⟩)
  rw [listMul_foldl_if]
  exact ⟨.ref _, _, I.lnew (t' := s.toks) (r1.rep k.toNat) (by rw [PyProof.Rows.lm_len_rep_flat, Nat.mul_comm]; exact hz), rfl, q _ I.fresh⟩
end
theorem Reps.append {K : PySem.W.Frag} {ct : Nat → Addr} {F H : Hp} : ∀ {os : List O} {vs : List V} {os' : List O} {vs' : List V}, Reps K ct F H os vs zf → Reps K ct F H os' vs' zf → Reps K ct F H (os ++ os') (vs ++ vs') zf
  | [], vs, os', vs', h, h' => by rw [show vs = [] from h.1]; exact h'
  | o :: os, vs, os', vs', h, h' => by
    obtain ⟨v, vr, g, l, ev, r, rs, ef⟩ := h
    have eg : g = zf := funext fun a => by have : 0 = g a + l a := congrFun ef a; show g a = 0; omega
    have el : l = zf := funext fun a => by have : 0 = g a + l a := congrFun ef a; show l a = 0; omega
    subst ev eg el
    exact ⟨v, vr ++ vs', zf, zf, rfl, r, Reps.append rs h', rfl⟩
theorem Reps.rep {K : PySem.W.Frag} {ct : Nat → Addr} {F H : Hp} {os : List O} {vs : List V} (h : Reps K ct F H os vs zf) : ∀ k : Nat, Reps K ct F H (List.replicate k os).flatten (List.replicate k vs).flatten zf
  | 0 => ⟨rfl, rfl⟩
  | k + 1 => by
    rw [List.replicate_succ, List.replicate_succ, List.flatten_cons, List.flatten_cons]
    exact Reps.append h (Reps.rep h k)
noncomputable def lineOk : Nat → Bool := hid fun n => decide (n ≤ sizeLine)
theorem lineOk_iff {n : Nat} : lineOk n = true ↔ n ≤ sizeLine := by
  unfold lineOk
  rw [hid_eq]
  exact decide_eq_true_iff
theorem lineOk_n {n : Nat} (h : n ≤ 16777216) : lineOk n = true := by rw [lineOk_iff, sizeLine_eq]; exact h
noncomputable def oAdd : O → O → Option O
  | .int i, .int j => some (.int (i + j))
  | .str a, .str b => if lineOk (a.length + b.length) = true then some (.str (a ++ b)) else none
  | .lst _ xs, .lst _ ys => if (isFzs xs && isFzs ys && lineOk (xs.length + ys.length)) = true then some (.lst true (xs ++ ys)) else none
  | .tup xs, .tup ys => if (isFzs xs && isFzs ys && lineOk (xs.length + ys.length)) = true then some (.tup (xs ++ ys)) else none
  | _, _ => none
noncomputable def oMul : O → O → Option O
  | .int i, .int j => if mulOk i j = true then some (.int (i * j)) else none
  | .lst _ xs, .int k => if (isFzs xs && rOk k && lineOk (xs.length * k.toNat)) = true then some (.lst true (List.replicate k.toNat xs).flatten) else none
  | _, _ => none
section
variable {ct : Nat → Addr} {X : Cx} {a b : Expr} {da db : Env → Option O} {k1 k2 : Bool} {pos : Pos}
theorem fn2_add [TabsI] : Fn2 X ct (fun x y H Q => (rI0 (fun i j => .int (i + j)) x y H Q ∨ (∃ i j, x = .str i ∧ y = .str j ∧ i.length + j.length ≤ sizeLine ∧ Q (.str (i ++ j)) H)) ∨ (rCatL X.K x y H Q ∨ rCatA X.K x y H Q)) oAdd := by
  intro F H x y z u v g h Q le rx ry e q
  unfold oAdd at e
  split at e
  · cases e
    exact .inl (.inl ⟨_, _, rx.1, ry.1, q.scal le fun _ _ => ⟨rfl, rfl⟩⟩)
  · split at e
    · rename_i c
      cases e
      exact .inl (.inr ⟨_, _, rx.1, ry.1, lineOk_iff.mp c, q.scal le fun _ _ => ⟨rfl, rfl⟩⟩)
    · cases e
  · split at e
    · rename_i c
      rw [Bool.and_eq_true, Bool.and_eq_true] at c
      cases e
      obtain ⟨p, xs, gx, rfl, s1, r1, _⟩ := Rep.list le rx
      obtain ⟨p', ys, gy, rfl, s2, r2, _⟩ := Rep.list le ry
      have e1 := r1.fz0 c.1.1
      have e2 := r2.fz0 c.1.2
      subst e1 e2
      exact .inr (.inl ⟨p, p', xs, ys, rfl, rfl, s1, s2, by rw [← r1.length, ← r2.length]; exact lineOk_iff.mp c.2, fun l nl => q.newl le (r1.append r2) nl⟩)
    · cases e
  · split at e
    · rename_i c
      rw [Bool.and_eq_true, Bool.and_eq_true] at c
      cases e
      obtain ⟨p, xs, rfl, s1, r1⟩ := rx
      obtain ⟨p', ys, rfl, s2, r2⟩ := ry
      have e1 := r1.fz0 c.1.1
      have e2 := r2.fz0 c.1.2
      subst e1 e2
      refine .inr (.inr ⟨p, p', xs, ys, rfl, rfl, Same.seqT le s1, Same.seqT le s2, by rw [← r1.length, ← r2.length]; exact lineOk_iff.mp c.2, fun z => ?_, fun _ z => ?_, fun _ _ l nl => q.newt le (r1.append r2) nl⟩)
      · subst z
        have l0 := r1.length
        simp at l0
        subst l0
        rw [List.nil_append] at q
        exact q _ F H zf (Ext.refl le) ⟨p', ys, rfl, s2, r2⟩ Gd.zero
      · subst z
        have l0 := r2.length
        simp at l0
        subst l0
        rw [List.append_nil] at q
        exact q _ F H zf (Ext.refl le) ⟨p, xs, rfl, s1, r1⟩ Gd.zero
    · cases e
  · cases e
theorem sx_add [TabsI] (ha : SX ct X k1 a da) (hb : SX ct X k2 b db) : SX ct X false (.BinOp a .Add b pos) (dBin oAdd da db) := sx_bin ((op_add.or op_add_str).or (op_catL.or op_catA)) fn2_add ha hb
theorem fn2_mul [TabsI] : Fn2 X ct (fun x y H Q => rI (fun i j => mulOk i j = true) (fun i j => .int (i * j)) x y H Q ∨ rRepL X.K x y H Q) oMul := by
  intro F H x y z u v g h Q le rx ry e q
  unfold oMul at e
  split at e
  · split at e
    · rename_i c
      cases e
      exact .inl ⟨_, _, rx.1, ry.1, c, q.scal le fun _ _ => ⟨rfl, rfl⟩⟩
    · cases e
  · split at e
    · rename_i c
      rw [Bool.and_eq_true, Bool.and_eq_true] at c
      cases e
      obtain ⟨p, xs, gx, rfl, s1, r1, _⟩ := Rep.list le rx
      have e1 := r1.fz0 c.1.1
      subst e1
      have b := rOk_b c.1.2
      exact .inr ⟨p, _, xs, rfl, ry.1, s1, by omega, by omega, by rw [← r1.length]; exact lineOk_iff.mp c.2, fun l nl => q.newl le (r1.rep _) nl⟩
    · cases e
  · cases e
theorem sx_mul [TabsI] (ha : SX ct X k1 a da) (hb : SX ct X k2 b db) : SX ct X false (.BinOp a .Mult b pos) (dBin oMul da db) := sx_bin (op_mulM.or op_repL) fn2_mul ha hb
theorem oAdd_l (w w' : Bool) (xs ys : List O) : oAdd (.lst w xs) (.lst w' ys) = if (isFzs xs && isFzs ys && lineOk (xs.length + ys.length)) = true then some (.lst true (xs ++ ys)) else none := rfl
theorem oAdd_t (xs ys : List O) : oAdd (.tup xs) (.tup ys) = if (isFzs xs && isFzs ys && lineOk (xs.length + ys.length)) = true then some (.tup (xs ++ ys)) else none := rfl
theorem oMul_l (w : Bool) (xs : List O) (k : Int) : oMul (.lst w xs) (.int k) = if (isFzs xs && rOk k && lineOk (xs.length * k.toNat)) = true then some (.lst true (List.replicate k.toNat xs).flatten) else none := rfl
end
end Mini
namespace Mini
open PySem PySem.Spec PyProof.Rows L2
def wipeE (ρ : Env) : List Nat → Env
  | [] => ρ
  | v :: vs => (wipeE ρ vs).set v none
def lLc (dg : O → Env → Option Env) (dc : Env → Option Bool) (de : Env → Option O) (ρ : Env) : List O → Option (List O)
  | [] => some []
  | o :: os => match dg o ρ with
    | some ρ1 => match dc ρ1 with
      | some true => match de ρ1 with
        | some r => match lLc dg dc de ρ os with
          | some rs => some (r :: rs)
          | none => none
        | none => none
      | some false => lLc dg dc de ρ os
      | none => none
    | none => none
def dLc (di : Env → Option (List O)) (dg : O → Env → Option Env) (dc : Env → Option Bool) (de : Env → Option O) (vs : List Nat) : Env → Option O := fun ρ => match di ρ with
  | some os => if os.length ≤ sizeLine then (match lLc dg dc de (wipeE ρ vs) os with
    | some rs => some (.lst true rs)
    | none => none) else none
  | none => none
def dYes : Env → Option Bool := fun _ => some true
section
variable {ct : Nat → Addr} {X : Cx} {tg iter elt : Expr} {ifs : List Expr} {di : Env → Option (List O)} {dg : O → Env → Option Env} {dc : Env → Option Bool} {de : Env → Option O} {scope : Scope} {own : List (Str × Nat)} {pos spos : Pos}
theorem PTs.imp {X : Cx} {e : List Expr} {t t' : TT} (h : PTs X e t) (i : ∀ σ H Q, t' σ H Q → t σ H Q) : PTs X e t' :=
  ⟨fun pins s σ H Q I hq => h.run pins s σ H Q I (i σ H Q hq)⟩
end
end Mini
namespace Mini
open PySem PySem.Spec PyProof.Rows L2
theorem oAdd_i (i j : Int) : oAdd (.int i) (.int j) = some (.int (i + j)) := rfl
theorem oAddI_i (i j : Int) : oAddI (.int i) (.int j) = some (.int (i + j)) := rfl
theorem oSub_i (i j : Int) : oSub (.int i) (.int j) = some (.int (i - j)) := rfl
theorem oMul_i (i j : Int) : oMul (.int i) (.int j) = if mulOk i j = true then some (.int (i * j)) else none := rfl
theorem oMod_i (i j : Int) : oMod (.int i) (.int j) = if 0 < j then some (.int (i % j)) else none := by
  simp [oMod, intsO]
theorem oDiv_i (i j : Int) : oDiv (.int i) (.int j) = if 0 < j ∧ j.natAbs.log2 < 9000 then some (.int (i / j)) else none := by
  simp [oDiv, intsO]
theorem oAnd_i (i j : Int) : oAnd (.int i) (.int j) = some (.int (Builtin.bitAnd i j)) := rfl
theorem oOr_i (i j : Int) : oOr (.int i) (.int j) = some (.int (Builtin.bitOr i j)) := rfl
theorem oXor_i (i j : Int) : oXor (.int i) (.int j) = some (.int (Builtin.bitXor i j)) := rfl
theorem oLt_i (i j : Int) : oLt (.int i) (.int j) = some (.bl (decide (i < j))) := rfl
theorem oLe_i (i j : Int) : oLe (.int i) (.int j) = some (.bl (decide (i ≤ j))) := rfl
theorem oGt_i (i j : Int) : oGt (.int i) (.int j) = some (.bl (decide (j < i))) := rfl
theorem oGe_i (i j : Int) : oGe (.int i) (.int j) = some (.bl (decide (j ≤ i))) := rfl
theorem oMax_i (i j : Int) : oMax (.int i) (.int j) = some (.int (max i j)) := by
  simp [oMax, intsO]
  split <;> omega
theorem oMin_i (i j : Int) : oMin (.int i) (.int j) = some (.int (min i j)) := by
  simp [oMin, intsO]
  split <;> omega
theorem negO_i (i : Int) : negO (.int i) = some (.int (-i)) := rfl
theorem oAbs_i (i : Int) : oAbs (.int i) = some (.int ((i.natAbs : Nat) : Int)) := by
  simp [oAbs]
  split <;> omega
theorem oInt_i (i : Int) : oInt (.int i) = some (.int i) := rfl
theorem oInt_b (b : Bool) : oInt (.bl b) = some (.int (if b then 1 else 0)) := rfl
theorem oEq_i (i j : Int) : oEq (.int i) (.int j) = some (.bl (decide (i = j))) := by
  simp [oEq_def, oEq0, toPy, SeqAt.shaped, PyData.canLay0, PyData.depth, PyData.eqv]
  rfl
theorem oNe_i (i j : Int) : oNe (.int i) (.int j) = some (.bl (decide (i ≠ j))) := by
  simp [oNe_def, oNe0, toPy, SeqAt.shaped, PyData.canLay0, PyData.depth, PyData.eqv]
  rfl
theorem eqv_ii (i j : Int) : PyData.eqv (.int i) (.int j) = decide (i = j) := rfl
theorem kit_NoneType_int : kitB "NoneType" "int" = some false := by decide +kernel
theorem kit_bool_int : kitB "bool" "int" = some true := by decide +kernel
theorem kit_int_int : kitB "int" "int" = some true := by decide +kernel
theorem kit_str_int : kitB "str" "int" = some false := by decide +kernel
theorem kit_tuple_int : kitB "tuple" "int" = some false := by decide +kernel
theorem kit_list_int : kitB "list" "int" = some false := by decide +kernel
theorem kit_dict_int : kitB "dict" "int" = some false := by decide +kernel
theorem kit_NoneType_bool : kitB "NoneType" "bool" = some false := by decide +kernel
theorem kit_bool_bool : kitB "bool" "bool" = some true := by decide +kernel
theorem kit_int_bool : kitB "int" "bool" = some false := by decide +kernel
theorem kit_str_bool : kitB "str" "bool" = some false := by decide +kernel
theorem kit_tuple_bool : kitB "tuple" "bool" = some false := by decide +kernel
theorem kit_list_bool : kitB "list" "bool" = some false := by decide +kernel
theorem kit_dict_bool : kitB "dict" "bool" = some false := by decide +kernel
theorem kit_NoneType_str : kitB "NoneType" "str" = some false := by decide +kernel
theorem kit_bool_str : kitB "bool" "str" = some false := by decide +kernel
theorem kit_int_str : kitB "int" "str" = some false := by decide +kernel
theorem kit_str_str : kitB "str" "str" = some true := by decide +kernel
theorem kit_tuple_str : kitB "tuple" "str" = some false := by decide +kernel
theorem kit_list_str : kitB "list" "str" = some false := by decide +kernel
theorem kit_dict_str : kitB "dict" "str" = some false := by decide +kernel
theorem kit_NoneType_tuple : kitB "NoneType" "tuple" = some false := by decide +kernel
theorem kit_bool_tuple : kitB "bool" "tuple" = some false := by decide +kernel
theorem kit_int_tuple : kitB "int" "tuple" = some false := by decide +kernel
theorem kit_str_tuple : kitB "str" "tuple" = some false := by decide +kernel
theorem kit_tuple_tuple : kitB "tuple" "tuple" = some true := by decide +kernel
theorem kit_list_tuple : kitB "list" "tuple" = some false := by decide +kernel
theorem kit_dict_tuple : kitB "dict" "tuple" = some false := by decide +kernel
theorem kit_NoneType_list : kitB "NoneType" "list" = some false := by decide +kernel
theorem kit_bool_list : kitB "bool" "list" = some false := by decide +kernel
theorem kit_int_list : kitB "int" "list" = some false := by decide +kernel
theorem kit_str_list : kitB "str" "list" = some false := by decide +kernel
theorem kit_tuple_list : kitB "tuple" "list" = some false := by decide +kernel
theorem kit_list_list : kitB "list" "list" = some true := by decide +kernel
theorem kit_dict_list : kitB "dict" "list" = some false := by decide +kernel
theorem kit_NoneType_dict : kitB "NoneType" "dict" = some false := by decide +kernel
theorem kit_bool_dict : kitB "bool" "dict" = some false := by decide +kernel
theorem kit_int_dict : kitB "int" "dict" = some false := by decide +kernel
theorem kit_str_dict : kitB "str" "dict" = some false := by decide +kernel
theorem kit_tuple_dict : kitB "tuple" "dict" = some false := by decide +kernel
theorem kit_list_dict : kitB "list" "dict" = some false := by decide +kernel
theorem kit_dict_dict : kitB "dict" "dict" = some true := by decide +kernel
theorem isi_NoneType_int : oIsi "int" .non = some (.bl false) := by show (kitB "NoneType" "int").map O.bl = _; rw [kit_NoneType_int]; rfl
theorem isi_bool_int (b : Bool) : oIsi "int" (.bl b) = some (.bl true) := by show (kitB "bool" "int").map O.bl = _; rw [kit_bool_int]; rfl
theorem isi_int_int (i : Int) : oIsi "int" (.int i) = some (.bl true) := by show (kitB "int" "int").map O.bl = _; rw [kit_int_int]; rfl
theorem isi_str_int (s : Str) : oIsi "int" (.str s) = some (.bl false) := by show (kitB "str" "int").map O.bl = _; rw [kit_str_int]; rfl
theorem isi_tuple_int (os : List O) : oIsi "int" (.tup os) = some (.bl false) := by show (kitB "tuple" "int").map O.bl = _; rw [kit_tuple_int]; rfl
theorem isi_list_int (w : Bool) (os : List O) : oIsi "int" (.lst w os) = some (.bl false) := by show (kitB "list" "int").map O.bl = _; rw [kit_list_int]; rfl
theorem isi_dict_int (ks : List Key) (os : List O) : oIsi "int" (.dct true ks os) = some (.bl false) := by show (kitB "dict" "int").map O.bl = _; rw [kit_dict_int]; rfl
theorem isi_NoneType_bool : oIsi "bool" .non = some (.bl false) := by show (kitB "NoneType" "bool").map O.bl = _; rw [kit_NoneType_bool]; rfl
theorem isi_bool_bool (b : Bool) : oIsi "bool" (.bl b) = some (.bl true) := by show (kitB "bool" "bool").map O.bl = _; rw [kit_bool_bool]; rfl
theorem isi_int_bool (i : Int) : oIsi "bool" (.int i) = some (.bl false) := by show (kitB "int" "bool").map O.bl = _; rw [kit_int_bool]; rfl
theorem isi_str_bool (s : Str) : oIsi "bool" (.str s) = some (.bl false) := by show (kitB "str" "bool").map O.bl = _; rw [kit_str_bool]; rfl
theorem isi_tuple_bool (os : List O) : oIsi "bool" (.tup os) = some (.bl false) := by show (kitB "tuple" "bool").map O.bl = _; rw [kit_tuple_bool]; rfl
theorem isi_list_bool (w : Bool) (os : List O) : oIsi "bool" (.lst w os) = some (.bl false) := by show (kitB "list" "bool").map O.bl = _; rw [kit_list_bool]; rfl
theorem isi_dict_bool (ks : List Key) (os : List O) : oIsi "bool" (.dct true ks os) = some (.bl false) := by show (kitB "dict" "bool").map O.bl = _; rw [kit_dict_bool]; rfl
theorem isi_NoneType_str : oIsi "str" .non = some (.bl false) := by show (kitB "NoneType" "str").map O.bl = _; rw [kit_NoneType_str]; rfl
theorem isi_bool_str (b : Bool) : oIsi "str" (.bl b) = some (.bl false) := by show (kitB "bool" "str").map O.bl = _; rw [kit_bool_str]; rfl
theorem isi_int_str (i : Int) : oIsi "str" (.int i) = some (.bl false) := by show (kitB "int" "str").map O.bl = _; rw [kit_int_str]; rfl
theorem isi_str_str (s : Str) : oIsi "str" (.str s) = some (.bl true) := by show (kitB "str" "str").map O.bl = _; rw [kit_str_str]; rfl
theorem isi_tuple_str (os : List O) : oIsi "str" (.tup os) = some (.bl false) := by show (kitB "tuple" "str").map O.bl = _; rw [kit_tuple_str]; rfl
theorem isi_list_str (w : Bool) (os : List O) : oIsi "str" (.lst w os) = some (.bl false) := by show (kitB "list" "str").map O.bl = _; rw [kit_list_str]; rfl
theorem isi_dict_str (ks : List Key) (os : List O) : oIsi "str" (.dct true ks os) = some (.bl false) := by show (kitB "dict" "str").map O.bl = _; rw [kit_dict_str]; rfl
theorem isi_NoneType_tuple : oIsi "tuple" .non = some (.bl false) := by show (kitB "NoneType" "tuple").map O.bl = _; rw [kit_NoneType_tuple]; rfl
theorem isi_bool_tuple (b : Bool) : oIsi "tuple" (.bl b) = some (.bl false) := by show (kitB "bool" "tuple").map O.bl = _; rw [kit_bool_tuple]; rfl
theorem isi_int_tuple (i : Int) : oIsi "tuple" (.int i) = some (.bl false) := by show (kitB "int" "tuple").map O.bl = _; rw [kit_int_tuple]; rfl
theorem isi_str_tuple (s : Str) : oIsi "tuple" (.str s) = some (.bl false) := by show (kitB "str" "tuple").map O.bl = _; rw [kit_str_tuple]; rfl
theorem isi_tuple_tuple (os : List O) : oIsi "tuple" (.tup os) = some (.bl true) := by show (kitB "tuple" "tuple").map O.bl = _; rw [kit_tuple_tuple]; rfl
theorem isi_list_tuple (w : Bool) (os : List O) : oIsi "tuple" (.lst w os) = some (.bl false) := by show (kitB "list" "tuple").map O.bl = _; rw [kit_list_tuple]; rfl
theorem isi_dict_tuple (ks : List Key) (os : List O) : oIsi "tuple" (.dct true ks os) = some (.bl false) := by show (kitB "dict" "tuple").map O.bl = _; rw [kit_dict_tuple]; rfl
theorem isi_NoneType_list : oIsi "list" .non = some (.bl false) := by show (kitB "NoneType" "list").map O.bl = _; rw [kit_NoneType_list]; rfl
theorem isi_bool_list (b : Bool) : oIsi "list" (.bl b) = some (.bl false) := by show (kitB "bool" "list").map O.bl = _; rw [kit_bool_list]; rfl
theorem isi_int_list (i : Int) : oIsi "list" (.int i) = some (.bl false) := by show (kitB "int" "list").map O.bl = _; rw [kit_int_list]; rfl
theorem isi_str_list (s : Str) : oIsi "list" (.str s) = some (.bl false) := by show (kitB "str" "list").map O.bl = _; rw [kit_str_list]; rfl
theorem isi_tuple_list (os : List O) : oIsi "list" (.tup os) = some (.bl false) := by show (kitB "tuple" "list").map O.bl = _; rw [kit_tuple_list]; rfl
theorem isi_list_list (w : Bool) (os : List O) : oIsi "list" (.lst w os) = some (.bl true) := by show (kitB "list" "list").map O.bl = _; rw [kit_list_list]; rfl
theorem isi_dict_list (ks : List Key) (os : List O) : oIsi "list" (.dct true ks os) = some (.bl false) := by show (kitB "dict" "list").map O.bl = _; rw [kit_dict_list]; rfl
theorem isi_NoneType_dict : oIsi "dict" .non = some (.bl false) := by show (kitB "NoneType" "dict").map O.bl = _; rw [kit_NoneType_dict]; rfl
theorem isi_bool_dict (b : Bool) : oIsi "dict" (.bl b) = some (.bl false) := by show (kitB "bool" "dict").map O.bl = _; rw [kit_bool_dict]; rfl
theorem isi_int_dict (i : Int) : oIsi "dict" (.int i) = some (.bl false) := by show (kitB "int" "dict").map O.bl = _; rw [kit_int_dict]; rfl
theorem isi_str_dict (s : Str) : oIsi "dict" (.str s) = some (.bl false) := by show (kitB "str" "dict").map O.bl = _; rw [kit_str_dict]; rfl
theorem isi_tuple_dict (os : List O) : oIsi "dict" (.tup os) = some (.bl false) := by show (kitB "tuple" "dict").map O.bl = _; rw [kit_tuple_dict]; rfl
theorem isi_list_dict (w : Bool) (os : List O) : oIsi "dict" (.lst w os) = some (.bl false) := by show (kitB "list" "dict").map O.bl = _; rw [kit_list_dict]; rfl
theorem isi_dict_dict (ks : List Key) (os : List O) : oIsi "dict" (.dct true ks os) = some (.bl true) := by show (kitB "dict" "dict").map O.bl = _; rw [kit_dict_dict]; rfl
theorem look_nil (i : Nat) : look [] i = none := by simp [look]
theorem look_z (o : Option O) (ρ : Env) : look (o :: ρ) 0 = o := by cases o <;> rfl
theorem look_s (o : Option O) (ρ : Env) (i : Nat) : look (o :: ρ) (i + 1) = look ρ i := by simp [look]
theorem rngs_z (lo : Int) : rngs lo 0 = [] := rfl
theorem rngs_s (lo : Int) (n : Nat) : rngs lo (n + 1) = .int lo :: rngs (lo + 1) n := by
  simp only [rngs, List.range_succ_eq_map, List.map_cons, List.map_map, List.cons.injEq]
  refine ⟨by simp, List.map_congr_left fun i _ => ?_⟩
  simp only [Function.comp, O.int.injEq]
  push_cast
  omega
theorem line_le {n : Nat} (h : n ≤ 16777216) : (n ≤ sizeLine) = True := by simp [sizeLine_eq, h]
theorem line_lt {n : Nat} (h : n < 16777216) : (n < sizeLine) = True := by simp [sizeLine_eq, h]
theorem mLog2 {n : Nat} (h : n < 18446744073709551616) : (n.log2 < 9000) = True := by
  refine eq_true (Nat.lt_of_le_of_lt ?_ (show 63 < 9000 by decide))
  by_cases z : n = 0
  · subst z; decide
  · exact Nat.le_of_lt_succ ((Nat.log2_lt z).mpr (by simpa using h))
theorem pick_rt {i : Nat} {o : O} {f : Addr → Env} (h : ∀ a, (f a).set i none = (f 0).set i none) : pick i (fun a => some (.rt o (f a))) = some (.rt o ((f 0).set i none)) :=
  pick_of fun a => by
    show some (Out.rt o ((f a).set i none)) = _
    rw [h a]
theorem pick_nx {i : Nat} {f : Addr → Env} (h : ∀ a, (f a).set i none = (f 0).set i none) : pick i (fun a => some (.nx (f a))) = some (.nx ((f 0).set i none)) :=
  pick_of fun a => by
    show some (Out.nx ((f a).set i none)) = _
    rw [h a]
theorem oShl_B {i : Int} {n j : Nat} (h : i.natAbs < 2 ^ n) (hn : n + j ≤ 134217728) : oShl (.int i) (.int (j : Int)) = some (.int (i * 2 ^ j)) := by
  have c := shl_ok h hn
  have c' : shlOk i (j : Int) = true := by
    rw [shlOk_def]
    unfold shlOk0
    rw [decide_eq_true c.1, decide_eq_true c.2]; rfl
  simp [oShl, intsO, c']
theorem oBits_i (i : Int) : oBits (.int i) = some (.int (Builtin.Int.intBits i : Nat)) := rfl
theorem idx_t (os : List O) (i : Int) : oIdx (.tup os) (.int i) = atI os i := rfl
theorem idx_l (w : Bool) (os : List O) (i : Int) : oIdx (.lst w os) (.int i) = atI os i := rfl
theorem atI_n {α : Type} (xs : List α) (n : Nat) : atI xs (n : Int) = xs[n]? := by
  by_cases h : n < xs.length
  · rw [List.getElem?_eq_getElem h]
    exact atI_nat (List.getElem?_eq_getElem h)
  · rw [List.getElem?_eq_none (by omega)]
    unfold atI ixN
    rw [if_pos (by omega), if_neg (by omega)]
    rfl
theorem atI_lit {α : Type} (xs : List α) (n : Nat) : atI xs (no_index (OfNat.ofNat n) : Int) = xs[n]? := atI_n xs n
theorem ixN_n (m n : Nat) : ixN m (n : Int) = if n < m then some n else none := by
  unfold ixN
  rw [if_pos (by omega)]
  by_cases h : n < m
  · rw [if_pos h, if_pos (by omega)]; simp
  · rw [if_neg h, if_neg (by omega)]
theorem ixN_lit (m n : Nat) : ixN m (no_index (OfNat.ofNat n) : Int) = if n < m then some n else none := ixN_n m n
theorem atI_z {α : Type} (x : α) (xs : List α) : atI (x :: xs) 0 = some x := atI_nat (j := 0) rfl
theorem len_t (os : List O) : oLen (.tup os) = some (.int os.length) := rfl
theorem len_l (w : Bool) (os : List O) : oLen (.lst w os) = some (.int os.length) := rfl
end Mini
namespace Mini
open PySem PySem.Spec PyProof.Rows L2
/-! sizes of ints -/
def B (n : Nat) (x : Int) : Prop := x.natAbs < 2 ^ n
theorem B.lg {n : Nat} {x : Int} (h : B n x) : x.natAbs.log2 ≤ n := by
  by_cases z : x.natAbs = 0
  · rw [z]; exact Nat.zero_le _
  · exact Nat.le_of_lt ((Nat.log2_lt z).mpr h)
theorem B.mono {m n : Nat} {x : Int} (h : B m x) (l : m ≤ n) : B n x := Nat.lt_of_lt_of_le h (Nat.pow_le_pow_right (by decide) l)
theorem B.mul {m n : Nat} {x y : Int} (h : B m x) (k : B n y) : B (m + n) (x * y) := by
  unfold B at *
  rw [Int.natAbs_mul, Nat.pow_add]
  exact Nat.mul_lt_mul'' h k
theorem B.add {m n : Nat} {x y : Int} (h : B m x) (k : B n y) : B (max m n + 1) (x + y) := by
  have h' := B.mono h (Nat.le_max_left m n)
  have k' := B.mono k (Nat.le_max_right m n)
  unfold B at *
  rw [Nat.pow_succ]
  generalize 2 ^ (max m n) = p at *
  omega
theorem B.sub {m n : Nat} {x y : Int} (h : B m x) (k : B n y) : B (max m n + 1) (x - y) := by
  have h' := B.mono h (Nat.le_max_left m n)
  have k' := B.mono k (Nat.le_max_right m n)
  unfold B at *
  rw [Nat.pow_succ]
  generalize 2 ^ (max m n) = p at *
  omega
theorem B.neg {n : Nat} {x : Int} (h : B n x) : B n (-x) := by
  unfold B at *
  rw [Int.natAbs_neg]; exact h
theorem B.ok {m n : Nat} {x y : Int} (h : B m x) (k : B n y) (l : m + n < 100000000 := by decide) : mulOk x y = true := by
  rw [mulOk_def]
  unfold mulOk0
  have h1 := h.lg
  have h2 := k.lg
  exact decide_eq_true (by omega)
theorem B.small {x : Int} (h : -8 < x) (k : x < 8) : B 3 x := by
  unfold B
  show x.natAbs < 8
  omega
theorem B.of_bits {n : Nat} {x : Int} (h : Builtin.Int.intBits x ≤ n) : B n x := by
  unfold Builtin.Int.intBits at h
  unfold B
  split at h
  · rename_i e
    have : x = 0 := by simpa using e
    subst this
    exact Nat.pow_pos (by decide)
  · by_cases z : x.natAbs = 0
    · rw [z]; exact Nat.pow_pos (by decide)
    · exact (Nat.log2_lt z).mp (by omega)
/-! the script -/
abbrev S (ns : List Int) : O := .lst false (ns.map .int)
theorem frzs_ints : ∀ ns : List Int, frzs (ns.map O.int) = ns.map O.int
  | [] => rfl
  | n :: ns => by simp [frzs, frz, frzs_ints ns]
theorem isFzs_ints : ∀ ns : List Int, isFzs (ns.map O.int) = true
  | [] => rfl
  | n :: ns => by simp [isFzs, isFz, isFzs_ints ns]
def cell (ns : List Int) (k : Nat) : Int := ns.getD k 0
theorem cell_at {ns : List Int} {k : Nat} (h : k < ns.length) : L2.atI (ns.map O.int) (k : Int) = some (.int (cell ns k)) := by
  refine L2.atI_nat ?_
  simp [cell, h, List.getD]
theorem cell_out {ns : List Int} {k : Nat} (h : ¬ k < ns.length) : cell ns k = 0 := by
  unfold cell
  rw [List.getD_eq_getElem?_getD, List.getElem?_eq_none (by omega)]
  rfl
def rpart (n d : Int) : Int := if d % 3 = 0 then n else if d % 3 = 1 then -n % 7 else n % 5 - 2
theorem rpart_B {n d : Int} {b : Nat} (h : B b n) (l : 3 ≤ b) : B b (rpart n d) := by
  unfold rpart
  split
  · exact h
  · split
    · exact (B.small (by omega) (by omega)).mono l
    · exact (B.small (by omega) (by omega)).mono l
theorem cell_B {ns : List Int} {b : Nat} (hb : ∀ z ∈ ns, Builtin.Int.intBits z ≤ b) (k : Nat) : B b (cell ns k) := by
  unfold cell
  rw [List.getD_eq_getElem?_getD]
  cases e : ns[k]? with
  | none => exact B.of_bits (show 0 ≤ b from Nat.zero_le _)
  | some z => exact B.of_bits (hb z (List.mem_of_getElem? e))
/-! ring numbers -/
abbrev encR (a b c d : Int) : O := .tup [.int a, .int b, .int c, .int d]
def dg (ns : List Int) (k : Nat) : Int := ((cell ns (k + 4)).natAbs : Nat)
end Mini
namespace Mini
open PySem PySem.Spec PyProof.Rows L2
/-! bits of ints of any sign, by halves -/
theorem nand_split (m n : Nat) : m &&& n = 2 * (m / 2 &&& n / 2) + (m % 2) * (n % 2) := by
  have h1 : (m &&& n) / 2 = m / 2 &&& n / 2 := Nat.and_div_two
  have h2 : (m &&& n) % 2 = (m % 2) * (n % 2) := by
    have e : (m &&& n) % 2 = (m % 2) &&& (n % 2) := by
      have := @Nat.and_mod_two_pow m n 1
      simpa using this
    rw [e]
    rcases Nat.mod_two_eq_zero_or_one m with a | a <;> rcases Nat.mod_two_eq_zero_or_one n with b | b <;> rw [a, b] <;> rfl
  omega
theorem nor_split (m n : Nat) : m ||| n = 2 * (m / 2 ||| n / 2) + (m % 2 + n % 2 - (m % 2) * (n % 2)) := by
  have h1 : (m ||| n) / 2 = m / 2 ||| n / 2 := Nat.or_div_two
  have h2 : (m ||| n) % 2 = m % 2 + n % 2 - (m % 2) * (n % 2) := by
    have e : (m ||| n) % 2 = (m % 2) ||| (n % 2) := by
      have := @Nat.or_mod_two_pow m n 1
      simpa using this
    rw [e]
    rcases Nat.mod_two_eq_zero_or_one m with a | a <;> rcases Nat.mod_two_eq_zero_or_one n with b | b <;> rw [a, b] <;> rfl
  omega
theorem par01 (x : Int) : x % 2 = 0 ∨ x % 2 = 1 := by omega
theorem npar01 (x : Nat) : x % 2 = 0 ∨ x % 2 = 1 := by omega
theorem band_split (x y : Int) : Builtin.bitAnd x y = 2 * Builtin.bitAnd (x / 2) (y / 2) + (x % 2) * (y % 2) := by
  by_cases hx : 0 ≤ x
  · have hx2 : 0 ≤ x / 2 := by omega
    by_cases hy : 0 ≤ y
    · have hy2 : 0 ≤ y / 2 := by omega
      rw [bitAnd_pp hx hy, bitAnd_pp hx2 hy2, nand_split, show (x / 2).toNat = x.toNat / 2 by omega, show (y / 2).toNat = y.toNat / 2 by omega]
      rcases npar01 x.toNat with a | a <;> rcases npar01 y.toNat with b | b <;> rcases par01 x with c | c <;> rcases par01 y with d | d <;> rw [a, b, c, d] <;> omega
    · have hy2 : ¬ 0 ≤ y / 2 := by omega
      rw [bitAnd_pn hx hy, bitAnd_pn hx2 hy2, nand_split, show (x / 2).toNat = x.toNat / 2 by omega, show (Builtin.bitNot (y / 2)).toNat = (Builtin.bitNot y).toNat / 2 by unfold Builtin.bitNot; omega]
      rcases npar01 x.toNat with a | a <;> rcases npar01 (Builtin.bitNot y).toNat with b | b <;> rcases par01 x with c | c <;> rcases par01 y with d | d <;> rw [a, b, c, d] <;> unfold Builtin.bitNot at b <;> omega
  · have hx2 : ¬ 0 ≤ x / 2 := by omega
    by_cases hy : 0 ≤ y
    · have hy2 : 0 ≤ y / 2 := by omega
      rw [bitAnd_np hx hy, bitAnd_np hx2 hy2, nand_split, show (y / 2).toNat = y.toNat / 2 by omega, show (Builtin.bitNot (x / 2)).toNat = (Builtin.bitNot x).toNat / 2 by unfold Builtin.bitNot; omega]
      rcases npar01 y.toNat with a | a <;> rcases npar01 (Builtin.bitNot x).toNat with b | b <;> rcases par01 x with c | c <;> rcases par01 y with d | d <;> rw [a, b, c, d] <;> unfold Builtin.bitNot at b <;> omega
    · have hy2 : ¬ 0 ≤ y / 2 := by omega
      rw [bitAnd_nn hx hy, bitAnd_nn hx2 hy2, nor_split, show (Builtin.bitNot (y / 2)).toNat = (Builtin.bitNot y).toNat / 2 by unfold Builtin.bitNot; omega, show (Builtin.bitNot (x / 2)).toNat = (Builtin.bitNot x).toNat / 2 by unfold Builtin.bitNot; omega]
      generalize hp : (Builtin.bitNot x).toNat = p
      generalize hq : (Builtin.bitNot y).toNat = q
      unfold Builtin.bitNot at hp hq ⊢
      rcases npar01 p with a | a <;> rcases npar01 q with b | b <;> rcases par01 x with c | c <;> rcases par01 y with d | d <;> rw [a, b, c, d] <;> omega
theorem bxor_split (x y : Int) : Builtin.bitXor x y = 2 * Builtin.bitXor (x / 2) (y / 2) + (x % 2 + y % 2 - 2 * ((x % 2) * (y % 2))) := by
  unfold Builtin.bitXor
  rw [bitOr_and, bitOr_and, band_split]
  omega
def dv (k : Nat) (x : Int) : Prop := x % 2 ^ k = 0
theorem dv_mul {k : Nat} {x : Int} (h : dv k x) : x = 2 ^ k * (x / 2 ^ k) := by
  unfold dv at h
  have := Int.mul_ediv_add_emod x (2 ^ k)
  omega
theorem dv_of_mul (k : Nat) (x : Int) : dv k (2 ^ k * x) := by
  unfold dv
  exact Int.mul_emod_right _ _
/-! ring numbers and root -/
structure R where
  a : Int
  b : Int
  c : Int
  d : Int
theorem R.ext4 {x y : R} (h1 : x.a = y.a) (h2 : x.b = y.b) (h3 : x.c = y.c) (h4 : x.d = y.d) : x = y := by
  cases x; cases y; simp at h1 h2 h3 h4; subst h1 h2 h3 h4; rfl
abbrev R.enc (x : R) : O := encR x.a x.b x.c x.d
def R.zero : R := ⟨0, 0, 0, 0⟩
def R.tr (x : R) : R := ⟨x.b - x.d, x.a + x.c, x.b + x.d, x.c - x.a⟩
def R.ev (x : R) : Prop := (x.a + x.c) % 2 = 0 ∧ (x.b + x.d) % 2 = 0
instance (x : R) : Decidable x.ev := by unfold R.ev; infer_instance
def trn : Nat → R → R
  | 0, x => x
  | n + 1, x => trn n x.tr
theorem trn_add : ∀ (m n : Nat) (x : R), trn (m + n) x = trn n (trn m x)
  | 0, n, x => by rw [Nat.zero_add]; rfl
  | m + 1, n, x => by rw [show m + 1 + n = (m + n) + 1 by omega]; exact trn_add m n x.tr
theorem trn_tr (n : Nat) (x : R) : trn n x.tr = (trn n x).tr := by
  have h := trn_add n 1 x
  rw [Nat.add_comm] at h
  have h2 := trn_add 1 n x
  exact h2.symm.trans h
theorem trn_zero : ∀ n : Nat, trn n R.zero = R.zero
  | 0 => rfl
  | n + 1 => trn_zero n
/-- y over root to the power of k is the lowest form of x over root to the power of e -/
structure Low (x : R) (e : Nat) (y : R) (k : Nat) : Prop where
  le : k ≤ e
  val : x = trn (e - k) y
  low : k = 0 ∨ ¬ y.ev
theorem Low.tr {x y : R} {e k : Nat} (h : Low x e y k) : Low x.tr (e + 1) y k := by
  refine ⟨Nat.le_succ_of_le h.le, ?_, h.low⟩
  rw [h.val, ← trn_tr, show e + 1 - k = (e - k) + 1 by have := h.le; omega]
  rfl
end Mini
namespace Mini
open PySem PySem.Spec PyProof.Rows L2
end Mini
namespace Mini
open PySem PySem.Spec PyProof.Rows L2
theorem oShr_n (i : Int) (j : Nat) : oShr (.int i) (.int (j : Int)) = some (.int (i / 2 ^ j)) := by
  simp [oShr, intsO]
theorem rOk_n {n : Nat} (h : n < 4611686018427387904) : rOk (n : Int) = true := by
  rw [rOk_def]
  unfold rOk0
  rw [decide_eq_true (by omega), decide_eq_true (by omega)]; rfl
theorem rOk_i {i : Int} (h : -4611686018427387904 ≤ i) (h' : i < 4611686018427387904) : rOk i = true := by
  rw [rOk_def]
  unfold rOk0
  rw [decide_eq_true (by omega), decide_eq_true (by omega)]; rfl
/-- sizes of ring numbers -/
def R.bd (n : Nat) (x : R) : Prop := B n x.a ∧ B n x.b ∧ B n x.c ∧ B n x.d
theorem R.bd.mono {m n : Nat} {x : R} (h : x.bd m) (l : m ≤ n) : x.bd n := ⟨h.1.mono l, h.2.1.mono l, h.2.2.1.mono l, h.2.2.2.mono l⟩
theorem R.bd.tr {n : Nat} {x : R} (h : x.bd n) : x.tr.bd (n + 1) := by
  obtain ⟨h1, h2, h3, h4⟩ := h
  exact ⟨(h2.sub h4).mono (by omega), (h1.add h3).mono (by omega), (h2.add h4).mono (by omega), (h3.sub h1).mono (by omega)⟩
instance : DecidableEq R := fun x y => decidable_of_iff (x.a = y.a ∧ x.b = y.b ∧ x.c = y.c ∧ x.d = y.d) ⟨fun h => R.ext4 h.1 h.2.1 h.2.2.1 h.2.2.2, fun h => by subst h; exact ⟨rfl, rfl, rfl, rfl⟩⟩
def R.dv (n : Nat) (x : R) : Prop := Mini.dv n x.a ∧ Mini.dv n x.b ∧ Mini.dv n x.c ∧ Mini.dv n x.d
theorem dv_le {m n : Nat} {x : Int} (h : Mini.dv n x) (l : m ≤ n) : Mini.dv m x := by
  obtain ⟨k, rfl⟩ : ∃ k, n = m + k := ⟨n - m, by omega⟩
  have e := dv_mul h
  rw [e, Int.pow_add, Int.mul_assoc]
  exact dv_of_mul _ _
theorem R.dv.le {m n : Nat} {x : R} (h : x.dv n) (l : m ≤ n) : x.dv m := ⟨dv_le h.1 l, dv_le h.2.1 l, dv_le h.2.2.1 l, dv_le h.2.2.2 l⟩
theorem Low.zero (e : Nat) : Low R.zero e R.zero 0 := ⟨Nat.zero_le _, (trn_zero _).symm, .inl rfl⟩
end Mini
namespace Mini
open PySem PySem.Spec PyProof.Rows L2
def R.add (x y : R) : R := ⟨x.a + y.a, x.b + y.b, x.c + y.c, x.d + y.d⟩
def R.neg (x : R) : R := ⟨-x.a, -x.b, -x.c, -x.d⟩
def R.cj (x : R) : R := ⟨x.a, -x.d, -x.c, -x.b⟩
def R.w (x : R) : R := ⟨-x.d, x.a, x.b, x.c⟩
def R.mul (x y : R) : R := ⟨x.a * y.a - (x.b * y.d + x.c * y.c + x.d * y.b), x.a * y.b + x.b * y.a - (x.c * y.d + x.d * y.c), x.a * y.c + x.b * y.b + x.c * y.a - x.d * y.d, x.a * y.d + x.b * y.c + x.c * y.b + x.d * y.a⟩
theorem R.tr_neg (x : R) : x.neg.tr = x.tr.neg := R.ext4 (by simp [R.tr, R.neg]; omega) (by simp [R.tr, R.neg]; omega) (by simp [R.tr, R.neg]; omega) (by simp [R.tr, R.neg]; omega)
theorem trn_comm {f : R → R} (h : ∀ x, (f x).tr = f x.tr) : ∀ (n : Nat) (x : R), trn n (f x) = f (trn n x)
  | 0, _ => rfl
  | n + 1, x => by
    show trn n (f x).tr = f (trn n x.tr)
    rw [h, trn_comm h n]
theorem R.ev_neg (x : R) : x.neg.ev ↔ x.ev := by unfold R.ev R.neg; dsimp only; omega
theorem Low.map {f : R → R} (h : ∀ x, (f x).tr = f x.tr) (he : ∀ x, (f x).ev ↔ x.ev) {x y : R} {e k : Nat} (l : Low x e y k) : Low (f x) e (f y) k :=
  ⟨l.le, by rw [l.val, trn_comm h], l.low.imp id fun q r => q ((he y).mp r)⟩
theorem R.bd_tr {n : Nat} {x : R} (h : x.tr.bd n) : x.bd n := by
  unfold R.bd B R.tr at *
  dsimp only at *
  generalize 2 ^ n = p at *
  omega
theorem R.bd_trn : ∀ {k n : Nat} {x : R}, (trn k x).bd n → x.bd n
  | 0, _, _, h => h
  | k + 1, n, x, h => R.bd_tr (R.bd_trn (k := k) h)
theorem Low.bd {n : Nat} {x y : R} {e k : Nat} (l : Low x e y k) (h : x.bd n) : y.bd n := by
  rw [l.val] at h
  exact R.bd_trn h
theorem R.bd.cj {n : Nat} {x : R} (h : x.bd n) : x.cj.bd n := ⟨h.1, h.2.2.2.neg, h.2.2.1.neg, h.2.1.neg⟩
theorem R.bd.neg {n : Nat} {x : R} (h : x.bd n) : x.neg.bd n := ⟨h.1.neg, h.2.1.neg, h.2.2.1.neg, h.2.2.2.neg⟩
end Mini
namespace Mini
open PySem PySem.Spec PyProof.Rows L2
/-! dicts with keys int or str -/
def keyO : O → Option L2.Key
  | .int i => some (.inl i)
  | .str s => some (.inr s)
  | _ => none
def kFind : List L2.Key → List O → L2.Key → Option O
  | k :: ks, o :: os, x => if k = x then some o else kFind ks os x
  | _, _, _ => none
theorem Rep.dict {K : PySem.W.Frag} {ct : Nat → Addr} {F H : Hp} {w : Bool} {ks : List L2.Key} {os : List O} {v : V} {f : Fp} (le : Same F H) (h : Rep K ct F H (.dct w ks os) v f) :
    ∃ a kvs g, v = .ref a ∧ Rd H a (.dK kvs) ∧ ks = kvs.map (·.1) ∧ Reps K ct F H os (kvs.map (·.2)) g ∧ ∀ b, g b ≤ f b := by
  cases w with
  | false =>
    obtain ⟨a, kvs, e, s, ek, r, ef⟩ := h
    exact ⟨a, kvs, zf, e, Same.rd le s, ek, r, fun _ => Nat.zero_le _⟩
  | true =>
    obtain ⟨a, kvs, g, e, s, ek, r, ef⟩ := h
    exact ⟨a, kvs, g, e, .inl s, ek, r, fun b => by rw [ef]; exact Nat.le_add_left _ _⟩
def dTri (fn : O → O → O → Option O) (da db dc : Env → Option O) : Env → Option O := fun ρ => match da ρ with
  | some x => match db ρ with
    | some y => match dc ρ with
      | some z => fn x y z
      | none => none
    | none => none
  | none => none
/-- d[k] -/
def oDIdx (d y : O) : Option O := match d, keyO y with
  | .dct _ ks os, some k => kFind ks os k
  | _, _ => none
/-- d.get(k, z), with a frozen z -/
def oGet2 (d y z : O) : Option O := match d, keyO y with
  | .dct _ ks os, some k => match kFind ks os k with
    | some o => some o
    | none => if isFz z = true then some z else none
  | _, _ => none
def oDIn (neg : Bool) (y d : O) : Option O := match d, keyO y with
  | .dct _ ks os, some k => some (.bl (if neg then !(kFind ks os k).isSome else (kFind ks os k).isSome))
  | _, _ => none
def kPut : List L2.Key → List O → L2.Key → O → Option (List L2.Key × List O)
  | [], [], x, o => some ([x], [o])
  | k :: ks, o' :: os, x, o => if k = x then (if (ks.any fun y => decide (y = x)) = true then none else some (k :: ks, o :: os)) else match kPut ks os x o with
    | some (ks', os') => some (k :: ks', o' :: os')
    | none => none
  | _, _, _, _ => none
/-- x[key] = e on an owned dict -/
def dSetD (i : Nat) (di d : Env → Option O) : Env → Option Out := fun ρ => match d ρ with
  | some o => match look ρ i with
    | some (.dct true ks os) => match di ρ with
      | some y => match keyO y with
        | some k => match kPut ks os k o with
          | some (ks', os') => if ks.length < sizeLine then some (.nx (ρ.set i (some (.dct true ks' os')))) else none
          | none => none
        | none => none
      | none => none
    | _ => none
  | none => none
end Mini
namespace Mini
open PySem PySem.Spec PyProof.Rows L2
/-! dict displays with frozen values -/
def PRep (K : PySem.W.Frag) (ct : Nat → Addr) (F H : Hp) : List (L2.Key × O) → List (V × V) → Prop
  | [], vs => vs = []
  | p :: ps, vs => ∃ v vr, vs = (kV p.1, v) :: vr ∧ Rep K ct F H p.2 v zf ∧ PRep K ct F H ps vr
theorem PRep.ext [TabsI] {K : PySem.W.Frag} {ct : Nat → Addr} {F H F' H' : Hp} (e : Ext F H F' H') : ∀ {ps : List (L2.Key × O)} {vs : List (V × V)}, PRep K ct F H ps vs → PRep K ct F' H' ps vs
  | [], _, h => h
  | p :: ps, vs, h => by
    obtain ⟨v, vr, e1, r, rs⟩ := h
    exact ⟨v, vr, e1, r.ext e, PRep.ext e rs⟩
def dMerge : List L2.Key → List O → List (L2.Key × O) → Option O
  | ks, os, [] => some (.dct true ks os)
  | ks, os, p :: ps => match kPut ks os p.1 p.2 with
    | some (ks', os') => dMerge ks' os' ps
    | none => none
def dPNil : Env → Option (List (L2.Key × O)) := fun _ => some []
def dPCons (dk dv : Env → Option O) (ds : Env → Option (List (L2.Key × O))) : Env → Option (List (L2.Key × O)) := fun ρ => match dk ρ with
  | some a => match dv ρ with
    | some o => match ds ρ with
      | some ps => match keyO a with
        | some k => if isFz o = true then some ((k, o) :: ps) else none
        | none => none
      | none => none
    | none => none
  | none => none
def dDct (ds : Env → Option (List (L2.Key × O))) : Env → Option O := fun ρ => match ds ρ with
  | some ps => if ps.length ≤ 15 then dMerge [] [] ps else none
  | none => none
end Mini
namespace Mini
open PySem PySem.Spec PyProof.Rows L2
/-! a dict locked and unlocked -/
structure Sw (F F' : Hp) : Prop where
  tup : ∀ (K : PySem.W.Frag) p xs, SqT K F p xs → SqT K F' p xs
  lst : ∀ (K : PySem.W.Frag) p xs, SqL K F p xs → SqL K F' p xs
  dk : ∀ p kvs, Rd F p (.dK kvs) → Rd F' p (.dK kvs)
  ins : ∀ p C dx fs, F p = some (.ins C dx fs) → F' p = some (.ins C dx fs)
  raw : ∀ p w, F p = some w → (∀ kvs, w ≠ .dK kvs) → (∀ o kvs, w ≠ .frz o (.dK kvs)) → F' p = some w
def DkL (u : HO) (kvs : List (L2.Key × V)) : Prop := u = .dK kvs ∨ ∃ o, u = .frz o (.dK kvs)
theorem Sw.of {F : Hp} {a : Addr} {u u' : HO} {kvs : List (L2.Key × V)} (h : F a = some u) (d : DkL u kvs) (d' : DkL u' kvs) : Sw F (upd F a u') := by
  have ne : ∀ {p : Addr} {w : HO}, F p = some w → (∀ kvs, w ≠ .dK kvs) → (∀ o kvs, w ≠ .frz o (.dK kvs)) → upd F a u' p = some w := fun {p w} hp n1 n2 => by
    by_cases q : p = a
    · subst q
      rw [h] at hp
      cases hp
      rcases d with d | ⟨o, d⟩
      · exact absurd d (n1 _)
      · exact absurd d (n2 _ _)
    · rw [upd_ne q]; exact hp
  refine ⟨fun K p xs hs => ?_, fun K p xs hs => ?_, fun p kvs' hs => ?_, fun p C dx fs hs => ne hs (fun _ w => by cases w) (fun _ _ w => by cases w), fun p w hp n1 n2 => ne hp n1 n2⟩
  · rcases hs with (hs | ⟨o, hs⟩) | hs
    · exact .inl (.inl (ne hs (fun _ w => by cases w) fun _ _ w => by cases w))
    · exact .inl (.inr ⟨o, ne hs (fun _ w => by cases w) fun _ _ w => by cases w⟩)
    · exact .inr hs
  · rcases hs with (hs | ⟨o, hs⟩) | hs
    · exact .inl (.inl (ne hs (fun _ w => by cases w) fun _ _ w => by cases w))
    · exact .inl (.inr ⟨o, ne hs (fun _ w => by cases w) fun _ _ w => by cases w⟩)
    · exact .inr hs
  · by_cases q : p = a
    · subst q
      have ek : kvs' = kvs := by
        rcases hs with hs | ⟨o, hs⟩ <;> rw [h] at hs <;> cases hs <;> rcases d with d | ⟨o', d⟩ <;> cases d <;> rfl
      subst ek
      rcases d' with d' | ⟨o, d'⟩
      · subst d'; exact .inl upd_same
      · subst d'; exact .inr ⟨o, upd_same⟩
    · rcases hs with hs | ⟨o, hs⟩
      · exact .inl (by rw [upd_ne q]; exact hs)
      · exact .inr ⟨o, by rw [upd_ne q]; exact hs⟩
def keyB : L2.Key → O
  | .inl i => .int i
  | .inr s => .str s
end Mini
namespace Mini
open PySem PySem.Spec PyProof.Rows L2
section
variable {ct : Nat → Addr} {X : Cx} {pn : Nat → Bool} {W : WX} {tg iter : Expr} {dg : O → Env → Option Env} {body : List Stmt} {db : Env → Option Out} {pos p : Pos} {x : Str}
/-- a walk over the keys of a frozen dict in slot i; the dict is locked meanwhile -/
def dForK (i : Nat) (dg : O → Env → Option Env) (body : Env → Option Out) : Env → Option Out := fun ρ => match look ρ i with
  | some (.dct false ks _) => match lFor dg body (ks.map keyB) ρ with
    | some (.er _ _) => none
    | r => r
  | _ => none
end
end Mini
namespace Mini
open PySem PySem.Spec PyProof.Rows L2
/-! a call whose first argument is a variable that the callee may change -/
def dLend (i : Nat) (ks : List Bool) (Ff : Fn) (ds : Env → Option (List O)) : Env → Option Out := fun ρ => match look ρ i with
  | some oi => match ds ρ with
    | some os => match Ff (oi :: views ks os) with
      | some (_, fin) => match look fin 0 with
        | some o' => if okb ks os = true then some (.nx (ρ.set i (some o'))) else none
        | none => none
      | none => none
    | none => none
  | none => none
end Mini
namespace Mini
open PySem PySem.Spec PyProof.Rows L2
/-! enumerate -/
def enumO (os : List O) : List O := os.mapIdx fun i o => .tup [.int i, o]
def dEnum (d : Env → Option O) : Env → Option (List O) := fun ρ => match d ρ with
  | some (.lst false os) => some (enumO os)
  | _ => none
end Mini
namespace Mini
open PySem PySem.Spec PyProof.Rows L2
/-! dicts of the module, keys texts: they are read by their name only -/
def gIdx (ks : List L2.Key) (os : List O) : O → Option O
  | .str z => kFind ks os (.inr z)
  | _ => none
def gGet (ks : List L2.Key) (os : List O) : O → O → Option O
  | .str z, d => match kFind ks os (.inr z) with
    | some o => some o
    | none => if isFz d = true then some d else none
  | _, _ => none
def gIn (neg : Bool) (ks : List L2.Key) (os : List O) : O → Option O
  | .str z => some (.bl (if neg then !(kFind ks os (.inr z)).isSome else (kFind ks os (.inr z)).isSome))
  | _ => none
end Mini
namespace Mini
open PySem PySem.Spec PyProof.Rows L2
/-! list(d): its keys -/
def kO : L2.Key → O
  | .inl i => .int i
  | .inr s => .str s
def oListD : O → Option O
  | .dct _ ks _ => some (.lst true (ks.map kO))
  | _ => none
end Mini
namespace Mini
open PySem PySem.Spec PyProof.Rows L2
open Builtin Float
end Mini
namespace Mini
open PySem PySem.Spec PyProof.Rows L2
open Builtin Builtin.Str
end Mini
namespace Mini
open PySem PySem.Spec PyProof.Rows L2
open Builtin Builtin.Str
/-! f'{e:b}', s.count(t), s.join(xs) -/
end Mini
namespace Mini
open PySem PySem.Spec PyProof.Rows L2
/-! len(set(t)) of a tuple of ints -/
def intsL : List O → Option (List Int)
  | [] => some []
  | .int i :: os => (intsL os).map (i :: ·)
  | _ :: _ => none
theorem intsL_map : ∀ l : List Int, intsL (l.map O.int) = some l
  | [] => rfl
  | a :: r => by
    show (intsL (r.map O.int)).map (a :: ·) = _
    rw [intsL_map r]; rfl
end Mini
namespace Mini
open PySem PySem.Spec PyProof.Rows L2
/-! x in a tuple of data of any depth -/
end Mini
namespace Mini
open PySem PySem.Spec PyProof.Rows L2
/-! min, max, sum of a list or a tuple of ints -/
end Mini
namespace Mini
open PySem PySem.Spec PyProof.Rows L2
open Sem (wp)
/-! max(xs, default=z) -/
end Mini
namespace Mini
open PySem PySem.Spec PyProof.Rows L2
/-! x[i] op= e on an owned list, x.insert(i, e) -/
end Mini
namespace Mini
open PySem PySem.Spec PyProof.Rows L2
/-! an expression that raises -/
def tE [TabsI] (ct : Nat → Addr) (K : PySem.W.Frag) (W : WX) (d : Env → Option Nat) : TE := fun σ H _ =>
  ∃ F ρ f c, Sit K ct F H ρ σ f ∧ d ρ = some c ∧ KR K ct W F H f σ (.er c ρ) (fun _ _ => True)
def SE [TabsI] (ct : Nat → Addr) (X : Cx) (W : WX) (e : Expr) (d : Env → Option Nat) : Prop := PE X e (tE ct X.K W d)
end Mini
namespace Mini
open PySem PySem.Spec PyProof.Rows L2
/-! range(i, j, -1) -/
/-! an expression that looks at a slot as frozen -/
/-! x[i].append(e): a list in an owned list -/
end Mini
namespace Mini
open PySem PySem.Spec PyProof.Rows L2
end Mini
namespace Mini
open PySem PySem.Spec PyProof.Rows L2
end Mini
namespace Mini
open PySem PySem.Spec PyProof.Rows L2
/-! reversed(range(n)), del xs[i] -/
end Mini
namespace Mini
open PySem PySem.Spec PyProof.Rows L2
/-! zip of two lists or of two tuples -/
end Mini
namespace Mini
open PySem PySem.Spec PyProof.Rows L2
end Mini
namespace Mini
open PySem PySem.Spec PyProof.Rows L2
/-! instances of own classes: fields -/
def fldO (f : Str) : List Str → List O → Option O
  | n :: ns, o :: os => if f = n then some o else fldO f ns os
  | _, _ => none
def putN (f : Str) : List Str → List Str
  | [] => [f]
  | n :: ns => if n = f then n :: ns else n :: putN f ns
def putO (f : Str) (o : O) : List Str → List O → List O
  | n :: ns, x :: os => if n = f then o :: os else x :: putO f o ns os
  | _, _ => [o]
def dFld (c : Nat) (f : Str) (d : Env → Option O) : Env → Option O := fun ρ => match d ρ with
  | some (.ins _ c' ns os) => if c' = c then fldO f ns os else none
  | _ => none
def dSetF (i c : Nat) (f : Str) (d : Env → Option O) : Env → Option Out := fun ρ => match d ρ with
  | some o => match look ρ i with
    | some (.ins true c' ns os) => if c' = c ∧ ns.length < 1000 then some (.nx (ρ.set i (some (.ins true c (putN f ns) (putO f o ns os))))) else none
    | _ => none
  | none => none
/-! methods and properties -/
def noFld (m : Str) : List Str → Bool
  | [] => true
  | n :: ns => !(m == n) && noFld m ns
def isObj (c : Nat) (m : Str) : O → Bool
  | .ins _ c' ns _ => decide (c' = c) && noFld m ns
  | _ => false
/-- o.m(..): a call with o ahead -/
def dMeth (c : Nat) (m : Str) (ks : List Bool) (Ff : Fn) (d : Env → Option O) (ds : Env → Option (List O)) : Env → Option O := fun ρ => match d ρ with
  | some o => if isObj c m o = true then dCall ks Ff (dCons d ds) ρ else none
  | none => none
def dProp (c : Nat) (k : Bool) (Ff : Fn) (d : Env → Option O) : Env → Option O := fun ρ => match d ρ with
  | some (.ins w c' ns os) => if c' = c then dCall [k] Ff (dCons d dNil) ρ else none
  | _ => none
end Mini
namespace Mini
open PySem PySem.Spec PyProof.Rows L2
/-! making instances; methods that may raise -/
end Mini
namespace Mini
open PySem PySem.Spec PyProof.Rows L2 RT
/-! reversed(xs), xs.extend(ys) -/
def dExt (i : Nat) (d : Env → Option O) : Env → Option Out := fun ρ => match look ρ i with
  | some (.lst true os) => match d ρ with
    | some (.lst true qs) => if os.length + qs.length ≤ sizeLine then some (.nx (ρ.set i (some (.lst true (os ++ qs))))) else none
    | _ => none
  | _ => none
end Mini
namespace Mini
open PySem PySem.Spec PyProof.Rows L2
/-! x.m(..) as a statement: the object may be changed, the method may raise -/
end Mini
namespace Mini
open PySem PySem.Spec PyProof.Rows L2
/-! a def with defaults, all its arguments given -/
structure FunD (K : PySem.W.Frag) (x qual : Str) (st : Stmt) (f : Addr) (fd : FuncData) : Prop where
  ex : ∃ (oc : Value) (od : Option Addr) (dV kV doc pm : Value) (an : Option Addr) (cdv ct : Value) (osl : Array (Option Value)),
    fd = PySem.W.fnOf x qual (defArgs st) (defBody st) (defScope st) dV kV doc pm an cdv ct ∧ K.lookup f = some ⟨oc, od, .func fd, osl⟩ ∧ PySem.W.codeIn K cdv qual = true
theorem FunD.binds {K : PySem.W.Frag} {x qual : Str} {st : Stmt} {f : Addr} {fd : FuncData} {ps : List Str} (F : FunD K x qual st f fd)
    (h : ∀ (dV kV doc pm : Value) (an : Option Addr) (cdv ct : Value) (us : List Value), us.length = ps.length → bindArgs (PySem.W.fnOf x qual (defArgs st) (defBody st) (defScope st) dV kV doc pm an cdv ct) ⟨us, []⟩ = pure (ps.zip us)) : Binds K fd ps [] := by
  obtain ⟨oc, od, dV, kV, doc, pm, an, cdv, ct, osl, rfl, lk, hcd⟩ := F.ex
  exact .all (h dV kV doc pm an cdv ct)
end Mini
namespace Mini
open PySem PySem.Spec PyProof.Rows L2
/-! making instances by an __init__ that never raises -/
end Mini
namespace Mini
open PySem PySem.Spec PyProof.Rows L2
/-! places within a slot's value: fields and items, all owned -/
inductive PSt where
  | ix (k : Nat) | fl (c : Nat) (n : Str)
def modP (fn : O → Option O) : O → List PSt → Option O
  | o, [] => fn o
  | .lst true os, .ix k :: P => match os[k]? with
    | some o => (match modP fn o P with
      | some o' => some (.lst true (os.set k o'))
      | none => none)
    | none => none
  | .ins true c ns os, .fl c' n :: P => if c = c' then (match fldO n ns os with
    | some o => (match modP fn o P with
      | some o' => some (.ins true c ns (putO n o' ns os))
      | none => none)
    | none => none) else none
  | _, _ :: _ => none
def wk (ct : Nat → Addr) (H : Hp) : V → List PSt → V → Prop
  | v, [], w => v = w
  | v, .ix k :: P, w => ∃ a xs u, v = .ref a ∧ H a = some (.lst xs) ∧ xs[k]? = some u ∧ wk ct H u P w
  | v, .fl c n :: P, w => ∃ a dx fs u, v = .ref a ∧ H a = some (.ins (ct c) dx fs) ∧ fs.lookup n = some u ∧ wk ct H u P w
section
variable {ct : Nat → Addr} {K : PySem.W.Frag} {F H H' : Hp}
theorem wk.mono (le : ∀ a u, H a = some u → (∀ ps, u ≠ .tbl ps) → H' a = some u) : ∀ {P : List PSt} {v w : V}, wk ct H v P w → wk ct H' v P w
  | [], _, _, h => h
  | .ix k :: P, _, _, h => by
    obtain ⟨a, xs, u, e1, e2, e3, h⟩ := h
    exact ⟨a, xs, u, e1, le _ _ e2 (fun ps z => by cases z), e3, wk.mono le h⟩
  | .fl c n :: P, _, _, h => by
    obtain ⟨a, dx, xs, u, e1, e2, e3, h⟩ := h
    exact ⟨a, dx, xs, u, e1, le _ _ e2 (fun ps z => by cases z), e3, wk.mono le h⟩
def pNil : Env → Option (List PSt) := fun _ => some []
def pFl (dp : Env → Option (List PSt)) (c : Nat) (n : Str) : Env → Option (List PSt) := fun ρ => match dp ρ with
  | some P => some (P ++ [.fl c n])
  | none => none
def pIx (dp : Env → Option (List PSt)) (di : Env → Option O) : Env → Option (List PSt) := fun ρ => match dp ρ with
  | some P => match di ρ with
    | some (.int k) => if 0 ≤ k then some (P ++ [.ix k.toNat]) else none
    | _ => none
  | none => none
end
section
variable {ct : Nat → Addr} {X : Cx} {pn : Nat → Bool} {W : WX} {e ie : Expr} {d di : Env → Option O} {dp : Env → Option (List PSt)} {k : Bool} {pos p1 p2 p3 apos : Pos} {i : Nat}
/-- a statement that changes what stands at a place -/
def dModP (i : Nat) (dp : Env → Option (List PSt)) (fn : O → Option O) : Env → Option Out := fun ρ => match look ρ i with
  | some o => match dp ρ with
    | some P => match modP fn o P with
      | some o' => some (.nx (ρ.set i (some o')))
      | none => none
    | none => none
  | none => none
def apO (y : O) : O → Option O
  | .lst true os => if os.length < sizeLine then some (.lst true (os ++ [y])) else none
  | _ => none
/-- place.append(e) -/
def dAppP (i : Nat) (dp : Env → Option (List PSt)) (d : Env → Option O) : Env → Option Out := fun ρ => match d ρ with
  | some y => dModP i dp (apO y) ρ
  | none => none
def stO' (kk : Int) (y : O) : O → Option O
  | .lst true os => match ixN os.length kk with
    | some j => some (.lst true (os.set j y))
    | none => none
  | _ => none
/-- place[ie] = e -/
def dSetP (i : Nat) (dp : Env → Option (List PSt)) (di d : Env → Option O) : Env → Option Out := fun ρ => match d ρ with
  | some y => match di ρ with
    | some (.int kk) => dModP i dp (stO' kk y) ρ
    | _ => none
  | none => none
end
end Mini
namespace Mini
open PySem PySem.Spec PyProof.Rows L2
/-! x = e where e raises -/
/-! sorted(xs) of ints -/
def insI (i : Int) : List Int → List Int
  | [] => [i]
  | j :: r => if i ≤ j then i :: j :: r else j :: insI i r
def srtI : List Int → List Int
  | [] => []
  | i :: r => insI i (srtI r)
def oSort : O → Option O
  | .lst _ os => match intsL os with
    | some ns => some (.lst true ((srtI ns).map .int))
    | none => none
  | _ => none
section
variable {ct : Nat → Addr} {X : Cx} {a b c : Expr} {da db dc : Env → Option O} {k k1 k2 k3 : Bool} {p p2 q pos : Pos}
/-! list(range(n)) -/
noncomputable def oLstRg : O → Option O
  | .int j => if rOk j = true ∧ j ≤ 16777216 then some (.lst true (rngs 0 j.toNat)) else none
  | _ => none
end
/-! xs.append(ys.pop(e)) -/
end Mini
namespace Mini
open PySem PySem.Spec PyProof.Rows L2
/-! x.m(..) that changes x, as an expression -/
noncomputable def dLendR (i c : Nat) (m : Str) (ks : List Bool) (Ff : FnX) (ds : Env → Option (List O)) : Env → Option Rv := fun ρ => match look ρ i with
  | some oi => if isObj c m oi = true then (match ds ρ with
    | some os => if okb ks os = true then (match Ff (oi :: views ks os) with
      | some (.ok r fin) => match look fin 0 with
        | some o' => some (.ok r (ρ.set i (some o')))
        | none => none
      | some (.er e fin) => match look fin 0 with
        | some o' => some (.er e (ρ.set i (some o')))
        | none => none
      | none => none) else none
    | none => none) else none
  | none => none
/-- the same of a method that never raises -/
noncomputable def dLend0 (i c : Nat) (m : Str) (ks : List Bool) (Ff : Fn) (ds : Env → Option (List O)) : Env → Option Rv := fun ρ => match look ρ i with
  | some oi => if isObj c m oi = true then (match ds ρ with
    | some os => if okb ks os = true then (match Ff (oi :: views ks os) with
      | some (r, fin) => match look fin 0 with
        | some o' => some (.ok r (ρ.set i (some o')))
        | none => none
      | none => none) else none
    | none => none) else none
  | none => none
section
variable {ct : Nat → Addr} {X : Cx} {pn : Nat → Bool} {W : WX} {ks : List Bool} {e : Expr} {es : List Expr} {ds : Env → Option (List O)} {Ff : FnX} {F0 : Fn} {kk : Nat} {y : Str} {p1 apos pos pos2 : Pos} {n : Nat}
/-! if x.m(..) is not None or C -/
def dIfN (dr : Env → Option Rv) (t : Env → Option Bool) (a b : Env → Option Out) : Env → Option Out := fun ρ => match dr ρ with
  | some (.ok .non ρ') => dIf t a b ρ'
  | _ => none
variable {cl C : Expr} {dr : Env → Option Rv} {t : Env → Option Bool} {da db : Env → Option Out} {a b : List Stmt} {rest : List Expr} {d2 : Env → Option O} {k2 : Bool} {ne : Expr} {cpos bpos : Pos}
end
/-! C(..) that may raise -/
noncomputable def dMakeR (c : Nat) (ks : List Bool) (Ff : FnX) (ds : Env → Option (List O)) : Env → Option Rv := fun ρ => match ds ρ with
  | some os => match Ff (.ins true c [] [] :: views ks os) with
    | some (.ok .non fin) => match look fin 0 with
      | some o' => if (okb ks os || noFm o') = true then some (.ok o' ρ) else none
      | none => none
    | some (.er e _) => some (.er e ρ)
    | _ => none
  | none => none
end Mini
namespace Mini
open PySem PySem.Spec PyProof.Rows L2
/-! stores into dicts and fields at a place -/
def afO (c : Nat) (f : Str) (fn : O → O → Option O) (y : O) : O → Option O
  | .ins true c' ns os => if c' = c ∧ ns.length < 1000 then (match fldO f ns os with
    | some x => (match fn x y with
      | some z => some (.ins true c' (putN f ns) (putO f z ns os))
      | none => none)
    | none => none) else none
  | _ => none
/-- place.f op= e -/
def dAugF (i : Nat) (dp : Env → Option (List PSt)) (c : Nat) (f : Str) (fn : O → O → Option O) (d : Env → Option O) : Env → Option Out := fun ρ => match d ρ with
  | some y => dModP i dp (afO c f fn y) ρ
  | none => none
def aiO (kk : Int) (fn : O → O → Option O) (y : O) : O → Option O
  | .lst true os => if 0 ≤ kk then (match os[kk.toNat]? with
    | some x => (match fn x y with
      | some z => some (.lst true (os.set kk.toNat z))
      | none => none)
    | none => none) else none
  | _ => none
/-- place[ie] op= e -/
def dAugP (i : Nat) (dp : Env → Option (List PSt)) (fn : O → O → Option O) (di d : Env → Option O) : Env → Option Out := fun ρ => match d ρ with
  | some y => match di ρ with
    | some (.int kk) => dModP i dp (aiO kk fn y) ρ
    | _ => none
  | none => none
/-! sorted(d) of a dict whose keys are ints -/
end Mini
namespace Mini
open PySem PySem.Spec PyProof.Rows L2
/-! f(x, ..) of a def that changes x, as an expression -/
/-! if R op e or C, where R may change a variable -/
end Mini
namespace Mini
open PySem PySem.Spec PyProof.Rows L2
/-! x, *xs = a list -/
/-- x, *xs = a list of frozen items -/
def dStar (d : Env → Option O) (i j : Nat) : Env → Option Out := fun ρ => match d ρ with
  | some (.lst _ (x :: xs)) => if isFzs (x :: xs) = true ∧ i < ρ.length ∧ j < ρ.length then some (.nx ((ρ.set i (some x)).set j (some (.lst true xs)))) else none
  | _ => none
end Mini
namespace Mini
open PySem PySem.Spec PyProof.Rows L2
end Mini
namespace Mini
open PySem PySem.Spec PyProof.Rows L2
/-! ring numbers: sums and powers of w -/
theorem R.add_comm (x y : R) : x.add y = y.add x := R.ext4 (Int.add_comm _ _) (Int.add_comm _ _) (Int.add_comm _ _) (Int.add_comm _ _)
theorem R.zero_add (x : R) : R.zero.add x = x := R.ext4 (Int.zero_add _) (Int.zero_add _) (Int.zero_add _) (Int.zero_add _)
/-! amplitudes: a list of pairs -/
abbrev Amp := List (Nat × R)
def val : Amp → Nat → R
  | [], _ => R.zero
  | (i, x) :: l, j => if i = j then x else val l j
def setA : Amp → Nat → R → Amp
  | [], i, x => [(i, x)]
  | (j, y) :: l, i, x => if j = i then (j, x) :: l else (j, y) :: setA l i x
def keysA (l : Amp) : List Nat := l.map (·.1)
structure AmpOk (N : Nat) (l : Amp) : Prop where
  nd : (keysA l).Nodup
  lt : ∀ i ∈ keysA l, i < N
theorem keys_setA : ∀ (l : Amp) (i : Nat) (x : R), keysA (setA l i x) = if i ∈ keysA l then keysA l else keysA l ++ [i]
  | [], i, x => rfl
  | (k, y) :: l, i, x => by
    unfold setA
    by_cases h : k = i
    · subst h; rw [if_pos rfl, if_pos (by simp [keysA])]; rfl
    · rw [if_neg h]
      show k :: keysA (setA l i x) = _
      rw [keys_setA l i x]
      by_cases m : i ∈ keysA l
      · rw [if_pos m, if_pos (by show i ∈ k :: keysA l; exact List.mem_cons_of_mem _ m)]; rfl
      · rw [if_neg m, if_neg (by show ¬ i ∈ k :: keysA l; rw [List.mem_cons]; exact fun q => q.elim (fun e => h e.symm) m)]; rfl
theorem AmpOk.set {N : Nat} {l : Amp} {i : Nat} (h : AmpOk N l) (hi : i < N) (x : R) : AmpOk N (setA l i x) := by
  refine ⟨?_, fun j => ?_⟩
  · rw [keys_setA]
    split
    · exact h.nd
    · rename_i m
      refine List.nodup_append.mpr ⟨h.nd, (by simp), fun a ha b hb e => ?_⟩
      rw [List.mem_singleton] at hb
      subst hb e
      exact m ha
  · rw [keys_setA]
    split
    · exact h.lt j
    · intro m
      rcases List.mem_append.mp m with q | q
      · exact h.lt j q
      · rw [List.mem_singleton] at q; omega
theorem nodup_lt_len : ∀ (N : Nat) (l : List Nat), l.Nodup → (∀ i ∈ l, i < N) → l.length ≤ N
  | 0, [], _, _ => Nat.le_refl _
  | 0, a :: l, _, h => absurd (h a (List.mem_cons_self ..)) (Nat.not_lt_zero _)
  | N + 1, l, nd, h => by
    have h1 := nodup_lt_len N (l.erase N) (nd.erase _) (fun i hi => by
      have m := (List.Nodup.mem_erase_iff nd).mp hi
      have := h i m.2
      have := m.1
      omega)
    have h2 := List.length_erase (a := N) (l := l)
    split at h2 <;> omega
theorem AmpOk.len {N : Nat} {l : Amp} (h : AmpOk N l) : l.length ≤ N := by
  have := nodup_lt_len N _ h.nd h.lt
  simpa [keysA] using this
theorem AmpOk.nil (N : Nat) : AmpOk N [] := ⟨List.nodup_nil, fun _ h => nomatch h⟩
/-! as data -/
def ek (l : Amp) : List L2.Key := l.map fun p => .inl (p.1 : Int)
def ev (l : Amp) : List O := l.map fun p => p.2.enc
/-! sums over a list of pairs -/
end Mini
namespace Mini
open PySem PySem.Spec PyProof.Rows L2
/-! bits of naturals -/
def bt (i q : Nat) : Nat := i / 2 ^ q % 2
theorem bt_test (i q : Nat) : bt i q = (i.testBit q).toNat := by
  unfold bt
  rw [Nat.testBit_eq_decide_div_mod_eq]
  have h : i / 2 ^ q % 2 < 2 := Nat.mod_lt _ (by decide)
  generalize i / 2 ^ q % 2 = z at h ⊢
  match z, h with
  | 0, _ => rfl
  | 1, _ => rfl
theorem bt_xor (i j q : Nat) : bt (i ^^^ j) q = (bt i q + bt j q) % 2 := by
  rw [bt_test, bt_test, bt_test, Nat.testBit_xor]
  cases i.testBit q <;> cases j.testBit q <;> rfl
/-! low part and its neighbour -/
theorem nxor_split (m n : Nat) : m ^^^ n = 2 * (m / 2 ^^^ n / 2) + (m % 2 + n % 2) % 2 := by
  have h1 : (m ^^^ n) / 2 = m / 2 ^^^ n / 2 := Nat.xor_div_two
  have h2 : (m ^^^ n) % 2 = (m % 2 + n % 2) % 2 := by
    have := bt_xor m n 0
    simpa [bt] using this
  omega
/-! ints that are naturals -/
theorem natAnd (i j : Nat) : Builtin.bitAnd (i : Int) (j : Int) = ((i &&& j : Nat) : Int) := by
  rw [bitAnd_pp (by omega) (by omega)]; simp
theorem natOr (i j : Nat) : Builtin.bitOr (i : Int) (j : Int) = ((i ||| j : Nat) : Int) := by
  have e : ((i ||| j : Nat) : Int) + ((i &&& j : Nat) : Int) = (i : Int) + (j : Int) := by
    have : ∀ (n i j : Nat), i ≤ n → (i ||| j) + (i &&& j) = i + j := fun n => by
      induction n with
      | zero => intro i j h; have : i = 0 := by omega
                subst this; simp
      | succ n ih =>
        intro i j h
        by_cases z : i = 0
        · subst z; simp
        · have a := ih (i / 2) (j / 2) (by omega)
          rw [nor_split, nand_split]
          rcases Nat.mod_two_eq_zero_or_one i with p | p <;> rcases Nat.mod_two_eq_zero_or_one j with q | q <;> rw [p, q] <;> omega
    have := this i i j (Nat.le_refl _)
    omega
  have := bitOr_and (i : Int) (j : Int)
  rw [natAnd] at this
  omega
theorem natXor (i j : Nat) : Builtin.bitXor (i : Int) (j : Int) = ((i ^^^ j : Nat) : Int) := by
  have : ∀ (n i j : Nat), i ≤ n → j ≤ n → Builtin.bitXor (i : Int) (j : Int) = ((i ^^^ j : Nat) : Int) := fun n => by
    induction n with
    | zero => intro i j h h'; have : i = 0 := by omega
              have : j = 0 := by omega
              subst_vars; rfl
    | succ n ih =>
      intro i j h h'
      have e := nxor_split i j
      rw [bxor_split, show (i : Int) / 2 = ((i / 2 : Nat) : Int) by omega, show (j : Int) / 2 = ((j / 2 : Nat) : Int) by omega, ih (i / 2) (j / 2) (by omega) (by omega)]
      rcases Nat.mod_two_eq_zero_or_one i with p | p <;> rcases Nat.mod_two_eq_zero_or_one j with q | q <;> rw [p, q] at e <;> rw [show (i : Int) % 2 = ((i % 2 : Nat) : Int) by omega, show (j : Int) % 2 = ((j % 2 : Nat) : Int) by omega, p, q] <;> omega
  exact this (max i j) i j (by omega) (by omega)
theorem natShr (i q : Nat) : (i : Int) / 2 ^ q = ((i / 2 ^ q : Nat) : Int) := by
  rw [Int.natCast_ediv, Int.natCast_pow]; rfl
theorem nat_and1 (i : Nat) : i &&& 1 = i % 2 := Nat.and_one_is_mod i
theorem oShl_n {b q : Nat} (hb : b < 2) (hq : q ≤ 100000) : oShl (.int (b : Int)) (.int (q : Int)) = some (.int ((b * 2 ^ q : Nat) : Int)) := by
  have h : (b : Int).natAbs < 2 ^ 1 := by simpa using hb
  rw [oShl_B h (by omega)]
  simp
theorem oShl_1 {q : Nat} (hq : q ≤ 100000) : oShl (.int 1) (.int (q : Int)) = some (.int ((1 * 2 ^ q : Nat) : Int)) := oShl_n (b := 1) (by decide) hq
/-! texts -/
theorem ofS_iff (a b : String) : (PySem.Str.ofString a = PySem.Str.ofString b) ↔ a = b := by
  constructor
  · intro h
    rw [PySem.Str.ofString_eq_toList, PySem.Str.ofString_eq_toList] at h
    have h1 : (a.toList.map Char.toNat) = (b.toList.map Char.toNat) := by
      have := congrArg (fun s => s.cps.toList) h
      simpa using this
    have inj : ∀ (l m : List Char), l.map Char.toNat = m.map Char.toNat → l = m := by
      intro l
      induction l with
      | nil => intro m h; cases m with
        | nil => rfl
        | cons _ _ => simp at h
      | cons c l ih => intro m h; cases m with
        | nil => simp at h
        | cons d m =>
          simp only [List.map_cons, List.cons.injEq] at h
          rw [ih m h.2, show c = d from Char.toNat_inj.mp h.1]
    exact String.toList_inj.mp (inj _ _ h1)
  · rintro rfl; rfl
theorem beq_dec (a b : Str) : (a == b) = decide (a = b) := by
  by_cases h : a = b
  · subst h; simp
  · rw [decide_eq_false h]; exact beq_eq_false_iff_ne.mpr h
theorem strOk_of (s : String) : PyData.strOk (PySem.Str.ofString s) = true := by
  rw [PySem.Str.ofString_eq_toList]
  unfold PyData.strOk
  simp only [List.all_toArray, List.all_map]
  rw [List.all_eq_true]
  intro c _
  have h := c.valid
  simp only [Function.comp, decide_eq_true_eq]
  rcases h with h | h
  · have : c.toNat < 55296 := h
    omega
  · have := h.2
    exact this
theorem dec_ofS (a b : String) : decide (PySem.Str.ofString a = PySem.Str.ofString b) = decide (a = b) := by
  by_cases h : a = b
  · subst h; simp
  · rw [decide_eq_false h, decide_eq_false (fun e => h ((ofS_iff a b).mp e))]
theorem oEq_s (a b : String) : oEq (.str (PySem.Str.ofString a)) (.str (PySem.Str.ofString b)) = some (.bl (decide (a = b))) := by
  simp [oEq_def, oEq0, toPy, SeqAt.shaped, PyData.canLay0, PyData.depth, PyData.eqv, beq_dec, strOk_of, ofS_iff]
theorem oNe_s (a b : String) : oNe (.str (PySem.Str.ofString a)) (.str (PySem.Str.ofString b)) = some (.bl (!decide (a = b))) := by
  simp [oNe_def, oNe0, toPy, SeqAt.shaped, PyData.canLay0, PyData.depth, PyData.eqv, beq_dec, strOk_of, ofS_iff]
theorem eqF_s (a b : String) : eqF (.str (PySem.Str.ofString a)) (.str (PySem.Str.ofString b)) = decide (a = b) := (beq_dec _ _).trans (dec_ofS a b)
theorem eqF_i (a b : Int) : eqF (.int a) (.int b) = decide (a = b) := by
  show (a == b) = _
  by_cases h : a = b
  · subst h; simp
  · rw [decide_eq_false h]; exact beq_eq_false_iff_ne.mpr h
theorem mulOk_s {i j : Int} (h : i.natAbs < 2 ^ 64) (k : j.natAbs < 2 ^ 64) : mulOk i j = true := by
  have b : ∀ {i : Nat}, i < 2 ^ 64 → i.log2 < 64 := fun {i} h => by
    by_cases z : i = 0
    · subst z; decide
    · exact (Nat.log2_lt z).mpr h
  have h1 := b h
  have h2 := b k
  rw [mulOk_def]
  exact decide_eq_true (by omega)
theorem oMul_b {i j : Int} (h : i.natAbs < 2 ^ 64) (k : j.natAbs < 2 ^ 64) : oMul (.int i) (.int j) = some (.int (i * j)) := by
  show (if mulOk i j = true then some (O.int (i * j)) else none) = _
  rw [if_pos (mulOk_s h k)]
end Mini
namespace Mini
open PySem PySem.Spec PyProof.Rows L2
/-! gates -/
inductive K1 where | H | X | Y | Z | S | SDG | T | TDG
  deriving DecidableEq
inductive K2 where | CX | CZ | SWAP
  deriving DecidableEq
inductive Gate where
  | one (k : K1) (q : Nat)
  | two (k : K2) (a b : Nat)
  | w
  deriving DecidableEq
def K1.nm : K1 → Str
  | .H => PySem.Str.ofString "H" | .X => PySem.Str.ofString "X" | .Y => PySem.Str.ofString "Y" | .Z => PySem.Str.ofString "Z" | .S => PySem.Str.ofString "S" | .SDG => PySem.Str.ofString "SDG" | .T => PySem.Str.ofString "T" | .TDG => PySem.Str.ofString "TDG"
def K2.nm : K2 → Str
  | .CX => PySem.Str.ofString "CX" | .CZ => PySem.Str.ofString "CZ" | .SWAP => PySem.Str.ofString "SWAP"
def Gate.enc : Gate → O
  | .one k q => .tup [.str k.nm, .tup [.int (q : Int)]]
  | .two k a b => .tup [.str k.nm, .tup [.int (a : Int), .int (b : Int)]]
  | .w => .tup [.str (PySem.Str.ofString "W"), .tup []]
def Gate.isH : Gate → Bool
  | .one .H _ => true
  | _ => false
def hs : List Gate → Nat
  | [] => 0
  | g :: gs => (if g.isH then 1 else 0) + hs gs
end Mini
namespace Mini
open PySem PySem.Spec PyProof.Rows L2
end Mini
namespace Mini
open PySem PySem.Spec PyProof.Rows L2
end Mini
namespace Mini
open PySem PySem.Spec PyProof.Rows L2
end Mini
namespace Mini
open PySem PySem.Spec PyProof.Rows L2
/-- how many bits -/
def nbt (m : Nat) : Nat := if m = 0 then 0 else m.log2 + 1
/-! Pauli operators -/
structure Pau where
  ph : Nat
  x : Nat
  z : Nat
def Pau.enc (p : Pau) : O := .tup [.int (p.ph : Int), .int (p.x : Int), .int (p.z : Int)]
structure Pau.ok (w : Nat) (p : Pau) : Prop where
  ph : p.ph < 4
  x : p.x < 2 ^ w
  z : p.z < 2 ^ w
end Mini
namespace Mini
open PySem PySem.Spec PyProof.Rows L2
end Mini
namespace Mini
open PySem PySem.Spec PyProof.Rows L2
end Mini
namespace Mini
open PySem PySem.Spec PyProof.Rows L2
/-! products and commutators of Pauli operators -/
theorem nbt_bits (n : Nat) : Builtin.Int.intBits (n : Int) = nbt n := by
  unfold Builtin.Int.intBits nbt
  by_cases h : n = 0
  · subst h; rfl
  · rw [if_neg (by simpa using h), if_neg h, Int.natAbs_natCast]
end Mini
namespace Mini
open PySem PySem.Spec PyProof.Rows L2
end Mini
namespace Mini
open PySem PySem.Spec PyProof.Rows L2
/-! texts -/
end Mini
namespace Mini
open PySem PySem.Spec PyProof.Rows L2
/-! states of lowest forms -/
theorem fz_map {α : Type} (g : α → O) (h : ∀ a, isFz (g a) = true) : ∀ l : List α, isFzs (l.map g) = true
  | [] => rfl
  | a :: l => by rw [List.map_cons, isFzs, h a, fz_map g h l]; rfl
theorem frz_map {α : Type} (g : α → O) (h : ∀ a, frz (g a) = g a) : ∀ l : List α, frzs (l.map g) = l.map g
  | [] => rfl
  | a :: l => by rw [List.map_cons, frzs, h a, frz_map g h l]
theorem nofm_map {α : Type} (g : α → O) (h : ∀ a, noFm (g a) = true) : ∀ l : List α, noFms (l.map g) = true
  | [] => rfl
  | a :: l => by rw [List.map_cons, noFms, h a, nofm_map g h l]; rfl
/-! masks -/
/-! lowest forms over one exponent -/
theorem Low.neg {X y : R} {E k : Nat} (l : Low X E y k) : Low X.neg E y.neg k := l.map R.tr_neg R.ev_neg
end Mini
namespace Mini
open PySem PySem.Spec PyProof.Rows L2
/-- the partner with bit q clear -/
def lo (q j : Nat) : Nat := j ^^^ bt j q * 2 ^ q
end Mini
namespace Mini
open PySem PySem.Spec PyProof.Rows L2
/-! what an outcome must be -/
def Wp (Q : Out → Prop) (x : Option Out) : Prop := ∃ out, x = some out ∧ Q out
def Sq (Q : Out → Prop) (b : Env → Option Out) : Out → Prop
  | .nx ρ => Wp Q (b ρ)
  | .rt o ρ => Q (.rt o ρ)
  | .bk ρ => Q (.bk ρ)
  | .ct ρ => Q (.ct ρ)
  | .er c ρ => Q (.er c ρ)
/-- within a loop: J is what holds ahead of the next turn -/
def Lp (Q : Out → Prop) (J : Env → Prop) : Out → Prop
  | .nx ρ => J ρ
  | .ct ρ => J ρ
  | .bk ρ => Q (.nx ρ)
  | .rt o ρ => Q (.rt o ρ)
  | .er c ρ => Q (.er c ρ)
/-- it ends with this value -/
def Ends (v : O) : Out → Prop
  | .rt o _ => o = v
  | .nx _ => v = .non
  | _ => False
def setE (i : Nat) (o : Option O) (ρ ρ' : Env) : Prop := i < ρ.length ∧ ρ.set i o = ρ'
section
variable {Q : Out → Prop} {J : Env → Prop} {a b c : Env → Option Out} {d d' da db dc : Env → Option O} {t ta tb : Env → Option Bool} {dg : O → Env → Option Env} {ds : Env → Option (List O)} {di : Env → Option (List O)} {body : Env → Option Out} {ρ ρ' ρ1 ρ2 : Env} {i j k n m : Nat} {o o' x y z : O} {os os' : List O} {fn : O → O → Option O} {f1 : O → Option O}
theorem Wp.mono {Q Q' : Out → Prop} {x : Option Out} (h : Wp Q x) (hq : ∀ o, Q o → Q' o) : Wp Q' x := by
  obtain ⟨o, e, q⟩ := h
  exact ⟨o, e, hq _ q⟩
/-- what holds behind a statement, before the next -/
def Ct (Q : Out → Prop) (J : Env → Prop) : Out → Prop
  | .nx ρ => J ρ
  | .ct ρ => Q (.ct ρ)
  | .bk ρ => Q (.bk ρ)
  | .rt o ρ => Q (.rt o ρ)
  | .er c ρ => Q (.er c ρ)
theorem wp_cut {x : Option Out} (J : Env → Prop) (h1 : Wp (Ct Q J) x) (h2 : ∀ ρ, J ρ → Q (.nx ρ)) : Wp Q x := by
  obtain ⟨out, e, q⟩ := h1
  refine ⟨out, e, ?_⟩
  cases out with
  | nx ρ => exact h2 _ q
  | ct ρ => exact q
  | rt o ρ => exact q
  | er c ρ => exact q
  | bk ρ => exact q
theorem ct_nx (h : J ρ) : Ct Q J (.nx ρ) := h
theorem ct_ct (h : Q (.ct ρ)) : Ct Q J (.ct ρ) := h
theorem ct_bk (h : Q (.bk ρ)) : Ct Q J (.bk ρ) := h
theorem ct_rt (h : Q (.rt o ρ)) : Ct Q J (.rt o ρ) := h
theorem ct_er {c : Nat} (h : Q (.er c ρ)) : Ct Q J (.er c ρ) := h
theorem setE_z {o1 : Option O} {o2 : Option O} {r : Env} : setE 0 o2 (o1 :: r) (o2 :: r) := ⟨Nat.succ_pos _, rfl⟩
theorem setE_s {o1 : Option O} {o2 : Option O} {r r' : Env} (h : setE i o2 r r') : setE (i + 1) o2 (o1 :: r) (o1 :: r') := ⟨Nat.succ_lt_succ h.1, by rw [List.set_cons_succ, h.2]⟩
theorem wp_seq (h : Wp (Sq Q b) (a ρ)) : Wp Q (dSeq a b ρ) := by
  obtain ⟨out, e, q⟩ := h
  unfold Wp dSeq
  rw [e]
  cases out with
  | nx ρ => exact q
  | rt o ρ => exact ⟨_, rfl, q⟩
  | bk ρ => exact ⟨_, rfl, q⟩
  | ct ρ => exact ⟨_, rfl, q⟩
  | er c ρ => exact ⟨_, rfl, q⟩
theorem sq_nx (h : Wp Q (b ρ)) : Sq Q b (.nx ρ) := h
theorem sq_rt (h : Q (.rt o ρ)) : Sq Q b (.rt o ρ) := h
theorem sq_bk (h : Q (.bk ρ)) : Sq Q b (.bk ρ) := h
theorem sq_ct (h : Q (.ct ρ)) : Sq Q b (.ct ρ) := h
theorem sq_er {c : Nat} (h : Q (.er c ρ)) : Sq Q b (.er c ρ) := h
theorem lp_nx (h : J ρ) : Lp Q J (.nx ρ) := h
theorem lp_bk (h : Q (.nx ρ)) : Lp Q J (.bk ρ) := h
theorem lp_rt (h : Q (.rt o ρ)) : Lp Q J (.rt o ρ) := h
theorem lp_er {c : Nat} (h : Q (.er c ρ)) : Lp Q J (.er c ρ) := h
theorem ends_rt {v : O} : Ends v (.rt v ρ) := rfl
theorem ends_of {v : O} (h : o = v) : Ends v (.rt o ρ) := h
theorem wp_asg (e : d ρ = some o) (s : dg o ρ = some ρ') (q : Q (.nx ρ')) : Wp Q (dAsg d dg ρ) := ⟨_, by unfold dAsg; rw [e]; dsimp only; rw [s], q⟩
theorem wp_skip (q : Q (.nx ρ)) : Wp Q (dSkip ρ) := ⟨_, rfl, q⟩
theorem wp_ret (e : d ρ = some o) (q : Q (.rt o ρ)) : Wp Q (dRet d ρ) := ⟨_, by unfold dRet; rw [e], q⟩
theorem wp_retmv (e : look ρ i = some o) (s : setE i none ρ ρ') (q : Q (.rt o ρ')) : Wp Q (dRetMv i ρ) := ⟨.rt o ρ', by unfold dRetMv; rw [e]; dsimp only; rw [s.2], q⟩
theorem wp_some {out : Out} (q : Q out) : Wp Q (some out) := ⟨_, rfl, q⟩
theorem wp_expr (e : d ρ = some o) (q : Q (.nx ρ)) : Wp Q (dExpr d ρ) := ⟨_, by unfold dExpr; rw [e], q⟩
theorem wp_fz (e : look ρ i = some o) (z : frz o = o') (s : setE i (some o') ρ ρ') (q : Q (.nx ρ')) : Wp Q (dFz i ρ) := ⟨_, by unfold dFz; rw [e]; dsimp only; rw [z, s.2], q⟩
theorem wp_if {v : Bool} (e : t ρ = some v) (h1 : v = true → Wp Q (a ρ)) (h2 : v = false → Wp Q (b ρ)) : Wp Q (dIf t a b ρ) := by
  unfold dIf
  rw [e]
  cases v with
  | true => exact h1 rfl
  | false => exact h2 rfl
theorem wp_ift (e : t ρ = some true) (h : Wp Q (a ρ)) : Wp Q (dIf t a b ρ) := by unfold dIf; rw [e]; exact h
theorem wp_iff (e : t ρ = some false) (h : Wp Q (b ρ)) : Wp Q (dIf t a b ρ) := by unfold dIf; rw [e]; exact h
theorem wp_ift2 {v : Bool} (e : t ρ = some v) (hv : v = true) (h : Wp Q (a ρ)) : Wp Q (dIf t a b ρ) := wp_ift (hv ▸ e) h
theorem wp_iff2 {v : Bool} (e : t ρ = some v) (hv : v = false) (h : Wp Q (b ρ)) : Wp Q (dIf t a b ρ) := wp_iff (hv ▸ e) h
theorem wp_app (e : look ρ i = some (.lst true os)) (h : d ρ = some o) (l : os.length < 16777216) (s : setE i (some (.lst true (os ++ [o]))) ρ ρ') (q : Q (.nx ρ')) : Wp Q (dApp i d ρ) :=
  ⟨_, by unfold dApp; rw [e]; dsimp only; rw [h]; dsimp only; rw [if_pos (by rw [sizeLine_eq]; exact l), s.2], q⟩
theorem wp_setI {kk : Int} (h : d ρ = some o) (e : look ρ i = some (.lst true os)) (h2 : da ρ = some (.int kk)) (l : ixN os.length kk = some j) (s : setE i (some (.lst true (os.set j o))) ρ ρ') (q : Q (.nx ρ')) : Wp Q (dSetI i da d ρ) :=
  ⟨_, by unfold dSetI; rw [h]; dsimp only; rw [e]; dsimp only; rw [h2]; dsimp only; rw [l]; dsimp only; rw [s.2], q⟩
theorem wp_aug (e : look ρ i = some x) (h : d ρ = some y) (h2 : fn x y = some z) (s : setE i (some z) ρ ρ') (q : Q (.nx ρ')) : Wp Q (dAug i fn d ρ) := by
  refine ⟨.nx ρ', ?_, q⟩
  unfold dAug
  rw [e]; dsimp only; rw [h]; dsimp only; rw [h2]; dsimp only
  unfold setS
  rw [if_pos s.1, s.2]
theorem wp_for (h : di ρ = some os) (q : Wp Q (lFor dg body os ρ)) : Wp Q (dFor di dg body ρ) := by unfold dFor; rw [h]; exact q
/-- over a list of data -/
theorem wl_map {α : Type} (I : List α → Env → Prop) (el : α → O) : ∀ (xs done : List α) (ρ : Env), I done ρ → (∀ d x r ρ, done ++ xs = d ++ x :: r → I d ρ → ∃ ρ1, dg (el x) ρ = some ρ1 ∧ Wp (Lp Q (I (d ++ [x]))) (body ρ1)) → (∀ ρ, I (done ++ xs) ρ → Q (.nx ρ)) → Wp Q (lFor dg body (xs.map el) ρ)
  | [], done, ρ, h0, _, hq => ⟨_, rfl, hq ρ (by rw [List.append_nil]; exact h0)⟩
  | x :: xs, done, ρ, h0, hs, hq => by
    obtain ⟨ρ1, e1, out, e2, q⟩ := hs done x xs ρ rfl h0
    have go : ∀ ρ2, I (done ++ [x]) ρ2 → Wp Q (lFor dg body (xs.map el) ρ2) := fun ρ2 h2 => wl_map I el xs (done ++ [x]) ρ2 h2 (fun d x' r ρ e hi => hs d x' r ρ (by rw [← e, List.append_assoc]; rfl) hi) (fun ρ hi => hq ρ (by rw [List.append_assoc] at hi; exact hi))
    unfold Wp
    rw [List.map_cons, lFor, e1]
    dsimp only
    rw [e2]
    cases out with
    | nx ρ => exact go _ q
    | ct ρ => exact go _ q
    | rt o ρ => exact ⟨_, rfl, q⟩
    | bk ρ => exact ⟨_, rfl, q⟩
    | er c ρ => exact ⟨_, rfl, q⟩
/-! a def -/
def envE (os : List O) (k : Nat) (ρ : Env) : Prop := os.map some ++ List.replicate k none = ρ
theorem env_c (h : envE os k ρ) : envE (o :: os) k (some o :: ρ) := by
  unfold envE at h ⊢
  rw [List.map_cons, List.cons_append, h]
theorem env_s (h : envE [] k ρ) : envE [] (k + 1) (none :: ρ) := by
  unfold envE at h ⊢
  rw [← h, List.map_nil, List.nil_append, List.nil_append, List.replicate_succ]
theorem env_z : envE [] 0 [] := rfl
theorem envE.to (hk : k + n = m) (he : envE os k ρ) : os.map some ++ List.replicate (m - n) none = ρ := by
  rw [show m - n = k by omega]; exact he
theorem def_wp {pn : Nat → Bool} {v : O} (hk : k + n = m) (he : envE os k ρ) (h : Wp (Ends v) (a ρ)) : ∃ f, dDef pn n m a os = some (v, f) := by
  obtain ⟨out, e, q⟩ := h
  unfold dDef
  rw [he.to hk, e]
  cases out with
  | rt o ρ => cases q; exact ⟨_, rfl⟩
  | nx ρ => cases q; exact ⟨_, rfl⟩
  | bk ρ => exact q.elim
  | ct ρ => exact q.elim
  | er c ρ => exact q.elim
/-- a def that may raise: it ends with v -/
theorem defX_wp {pn : Nat → Bool} {v : O} (hk : k + n = m) (he : envE os k ρ) (h : Wp (Ends v) (a ρ)) : ∃ f, dDefX pn n m a os = some (.ok v f) := by
  obtain ⟨out, e, q⟩ := h
  unfold dDefX
  rw [he.to hk, e]
  cases out with
  | rt o ρ => cases q; exact ⟨_, rfl⟩
  | nx ρ => cases q; exact ⟨_, rfl⟩
  | bk ρ => exact q.elim
  | ct ρ => exact q.elim
  | er c ρ => exact q.elim
def Raises (k : Nat) : Out → Prop
  | .er c _ => c = k
  | _ => False
theorem defX_er {pn : Nat → Bool} {c : Nat} (hk : k + n = m) (he : envE os k ρ) (h : Wp (Raises c) (a ρ)) : ∃ f, dDefX pn n m a os = some (.er c f) := by
  obtain ⟨out, e, q⟩ := h
  unfold dDefX
  rw [he.to hk, e]
  cases out with
  | er c ρ => cases q; exact ⟨_, rfl⟩
  | nx ρ => exact q.elim
  | bk ρ => exact q.elim
  | ct ρ => exact q.elim
  | rt o ρ => exact q.elim
theorem raises_er {c : Nat} : Raises c (.er c ρ) := rfl
/-! calls that may raise -/
theorem wp_asgR {dr : Env → Option Rv} (e : dr ρ = some (.ok o ρ1)) (s : dg o ρ1 = some ρ') (q : Q (.nx ρ')) : Wp Q (dAsgR dr dg ρ) := ⟨_, by unfold dAsgR; rw [e]; dsimp only; rw [s], q⟩
theorem wp_asgRe {dr : Env → Option Rv} {c : Nat} (e : dr ρ = some (.er c ρ1)) (q : Q (.er c ρ1)) : Wp Q (dAsgR dr dg ρ) := ⟨_, by unfold dAsgR; rw [e], q⟩
theorem wp_retR {dr : Env → Option Rv} (e : dr ρ = some (.ok o ρ1)) (q : Q (.rt o ρ1)) : Wp Q (dRetR dr ρ) := ⟨_, by unfold dRetR; rw [e], q⟩
theorem wp_exprR {dr : Env → Option Rv} (e : dr ρ = some (.ok o ρ1)) (q : Q (.nx ρ1)) : Wp Q (dExprR dr ρ) := ⟨_, by unfold dExprR; rw [e], q⟩
/-- what a try's suite must do -/
def Tq (Q : Out → Prop) (isE handles : Nat → Bool) (i : Nat) (dz : Nat → Addr → Env → Option Out) : Out → Prop
  | .er c ρ1 => isE c = true ∧ i < ρ1.length ∧ (handles c = true → (∃ v, (∀ a, Wp (Ends v) (dz c a (ρ1.set i (some (.exc a)))) ∧ ∀ out, dz c a (ρ1.set i (some (.exc a))) = some out → ∃ ρ2, out = .rt v ρ2 ∧ ρ2.set i none = ρ1.set i none) ∧ Q (.rt v (ρ1.set i none)))) ∧ (handles c = false → Q (.er c ρ1))
  | out => Q out
theorem wp_try {isE handles : Nat → Bool} {dz : Nat → Addr → Env → Option Out} (h : Wp (Tq Q isE handles i dz) (b ρ)) : Wp Q (dTry isE handles i b dz ρ) := by
  obtain ⟨out, e, q⟩ := h
  unfold dTry
  rw [e]
  cases out with
  | nx ρ => exact ⟨_, rfl, q⟩
  | rt o ρ => exact ⟨_, rfl, q⟩
  | bk ρ => exact ⟨_, rfl, q⟩
  | ct ρ => exact ⟨_, rfl, q⟩
  | er c ρ1 =>
    obtain ⟨q1, q2, q3, q4⟩ := q
    dsimp only
    rw [if_pos ⟨q1, q2⟩]
    cases hc : handles c with
    | false => rw [if_neg Bool.false_ne_true]; exact ⟨_, rfl, q4 hc⟩
    | true =>
      rw [if_pos rfl]
      obtain ⟨v, hv, qv⟩ := q3 hc
      have : pick i (fun a => dz c a (ρ1.set i (some (.exc a)))) = some (.rt v (ρ1.set i none)) := by
        refine pick_of fun a => ?_
        obtain ⟨⟨out, e, _⟩, k⟩ := hv a
        obtain ⟨ρ2, rfl, e2⟩ := k out e
        rw [e]
        show some (Out.rt v (ρ2.set i none)) = _
        rw [e2]
      exact ⟨_, this, qv⟩
/-- the suite gives back a value and changes nothing -/
theorem tq_rt {isE handles : Nat → Bool} {dz : Nat → Addr → Env → Option Out} {c : Nat} {v : O} (h1 : isE c = true) (h2 : i < ρ1.length) (h3 : handles c = true) (h4 : ∀ a, dz c a (ρ1.set i (some (.exc a))) = some (.rt v (ρ1.set i (some (.exc a))))) (q : Q (.rt v (ρ1.set i none))) : Tq Q isE handles i dz (.er c ρ1) :=
  ⟨h1, h2, fun _ => ⟨v, fun a => ⟨⟨_, h4 a, rfl⟩, fun out e => by rw [h4 a] at e; cases e; exact ⟨_, rfl, by rw [List.set_set]⟩⟩, q⟩, fun z => by rw [h3] at z; cases z⟩
theorem tq_nx {isE handles : Nat → Bool} {dz : Nat → Addr → Env → Option Out} (q : Q (.nx ρ)) : Tq Q isE handles i dz (.nx ρ) := q
theorem tq_rtn {isE handles : Nat → Bool} {dz : Nat → Addr → Env → Option Out} (q : Q (.rt o ρ)) : Tq Q isE handles i dz (.rt o ρ) := q
theorem ret_eq (h : d ρ = some o) : dRet d ρ = some (.rt o ρ) := by unfold dRet; rw [h]
theorem ev_isE {a : Addr} {v : Bool} (h : look ρ i = some (.exc a)) : dIsE i a v ρ = some (.bl v) := by unfold dIsE; rw [h]; dsimp only; rw [if_pos rfl]
/-! expressions -/
theorem ev_some {α : Type} {x : α} : some x = some x := rfl
theorem ev_look (h : look ρ i = some o) : look ρ i = some o := h
theorem ev_bin (h1 : da ρ = some x) (h2 : db ρ = some y) (h3 : fn x y = some z) : dBin fn da db ρ = some z := by unfold dBin; rw [h1]; dsimp only; rw [h2]; exact h3
theorem ev_bind (h1 : d ρ = some x) (h3 : f1 x = some z) : dBind d f1 ρ = some z := by unfold dBind; rw [h1]; exact h3
theorem ev_tru {f : O → Option Bool} {v : Bool} (h : d ρ = some o) (h2 : f o = some v) : dTru f d ρ = some v := by unfold dTru; rw [h]; exact h2
theorem ev_nil : dNil ρ = some [] := rfl
theorem ev_cons (h : d ρ = some o) (h2 : ds ρ = some os) : dCons d ds ρ = some (o :: os) := by unfold dCons; rw [h]; dsimp only; rw [h2]
theorem ev_tup (h : ds ρ = some os) (l : os.length ≤ 16777216) : dTup ds ρ = some (.tup os) := by unfold dTup; rw [h]; dsimp only; rw [if_pos (by rw [sizeLine_eq]; exact l)]
theorem ev_lst (h : ds ρ = some os) (l : os.length ≤ 16777216) : dLst ds ρ = some (.lst true os) := by unfold dLst; rw [h]; dsimp only; rw [if_pos (by rw [sizeLine_eq]; exact l)]
theorem ev_call {ks : List Bool} {Ff : Fn} {vs : List O} {r : O} {f : Env} (h : ds ρ = some os) (hv : views ks os = vs) (e : Ff vs = some (r, f)) (ok : (okb ks os || noFm r) = true) : dCall ks Ff ds ρ = some r := by
  unfold dCall
  rw [h]
  dsimp only
  rw [hv, e]
  dsimp only
  rw [if_pos ok]
theorem ev_callN {ks : List Bool} {Ff : FnX} {vs : List O} {r : O} {f : Env} (h : ds ρ = some os) (hv : views ks os = vs) (e : Ff vs = some (.ok r f)) (ok : (okb ks os || noFm r) = true) : dCallN ks Ff ds ρ = some r := by
  unfold dCallN
  rw [h]
  dsimp only
  rw [hv, e]
  dsimp only
  rw [if_pos ok]
theorem ev_callX {ks : List Bool} {Ff : FnX} {vs : List O} {r : O} {f : Env} (h : ds ρ = some os) (hv : views ks os = vs) (e : Ff vs = some (.ok r f)) (ok : (okb ks os || noFm r) = true) : dCallX ks Ff ds ρ = some (.ok r ρ) := by
  unfold dCallX
  rw [h]
  dsimp only
  rw [hv, e]
  dsimp only
  rw [if_pos ok]
theorem ev_callXe {ks : List Bool} {Ff : FnX} {vs : List O} {c : Nat} {f : Env} (h : ds ρ = some os) (hv : views ks os = vs) (e : Ff vs = some (.er c f)) : dCallX ks Ff ds ρ = some (.er c ρ) := by
  unfold dCallX
  rw [h]
  dsimp only
  rw [hv, e]
theorem vw_nil : views [] [] = [] := rfl
theorem vw_t {ks : List Bool} {vs : List O} (h : frz o = o') (h2 : views ks os = vs) : views (true :: ks) (o :: os) = o' :: vs := by rw [views, if_pos rfl, h, h2]
theorem vw_f {ks : List Bool} {vs : List O} (h2 : views ks os = vs) : views (false :: ks) (o :: os) = o :: vs := by rw [views, if_neg Bool.false_ne_true, h2]
theorem fz_i {i : Int} : frz (.int i) = .int i := rfl
theorem fz_b {b : Bool} : frz (.bl b) = .bl b := rfl
theorem fz_s {s : Str} : frz (.str s) = .str s := rfl
theorem fz_n : frz .non = .non := rfl
theorem fz_t (h : frzs os = os') : frz (.tup os) = .tup os' := by rw [frz, h]
theorem fz_l {w : Bool} (h : frzs os = os') : frz (.lst w os) = .lst false os' := by rw [frz, h]
theorem fz_d {w : Bool} {ks : List L2.Key} (h : frzs os = os') : frz (.dct w ks os) = .dct false ks os' := by rw [frz, h]
theorem fz_o {w : Bool} {c : Nat} {ks : List Str} (h : frzs os = os') : frz (.ins w c ks os) = .ins false c ks os' := by rw [frz, h]
theorem fzs_n : frzs [] = [] := rfl
theorem fzs_c (h : frz o = o') (h2 : frzs os = os') : frzs (o :: os) = o' :: os' := by rw [frzs, h, h2]
theorem fzs_i {ns : List Int} : frzs (ns.map O.int) = ns.map O.int := frz_map _ (fun _ => rfl) _
@[simp] theorem isfzs_i {ns : List Int} : isFzs (ns.map O.int) = true := fz_map _ (fun _ => rfl) _
@[simp] theorem nofms_i {ns : List Int} : noFms (ns.map O.int) = true := nofm_map _ (fun _ => rfl) _
theorem ev_copy (h : isFz o = true) : copyO o = some o := by unfold copyO; rw [if_pos h]
theorem ev_gSet {o1 : O} (h : setE i (some o1) ρ ρ') : gSet i o1 ρ = some ρ' := by unfold gSet; rw [if_pos h.1, h.2]
theorem ev_gsNil : gsNil [] ρ = some ρ := rfl
theorem ev_gsCons {g : O → Env → Option Env} {gs : List O → Env → Option Env} (h : g o ρ = some ρ1) (h2 : gs os ρ1 = some ρ2) : gsCons g gs (o :: os) ρ = some ρ2 := by unfold gsCons; dsimp only; rw [h]; exact h2
theorem ev_gTup {gs : List O → Env → Option Env} (l : os.length = n) (h : gs os ρ = some ρ') : gTupO n gs (.tup os) ρ = some ρ' := by unfold gTupO; dsimp only; rw [if_pos l]; exact h
theorem ev_mod {i j : Int} (h : 0 < j) : oMod (.int i) (.int j) = some (.int (i % j)) := by rw [oMod_i, if_pos h]
theorem ev_div {i j : Int} (h : 0 < j ∧ j < 18446744073709551616) : oDiv (.int i) (.int j) = some (.int (i / j)) := by
  rw [oDiv_i, if_pos]
  refine ⟨h.1, of_eq_true (mLog2 ?_)⟩
  have := h.1; have := h.2
  omega
theorem ev_mul {i j : Int} (h : i.natAbs < 2 ^ 64 ∧ j.natAbs < 2 ^ 64) : oMul (.int i) (.int j) = some (.int (i * j)) := oMul_b h.1 h.2
theorem ev_idx_t {i : Int} (h : L2.atI os i = some o) : oIdx (.tup os) (.int i) = some o := h
theorem ev_idx_l {w : Bool} {i : Int} (h : L2.atI os i = some o) : oIdx (.lst w os) (.int i) = some o := h
theorem ev_at_z : L2.atI (o :: os) 0 = some o := atI_z o os
theorem ev_at_l {n : Nat} (h : os[n]? = some o) : L2.atI os (no_index (OfNat.ofNat n) : Int) = some o := by rw [atI_lit]; exact h
theorem ev_at_n {n : Nat} (h : os[n]? = some o) : L2.atI os (n : Int) = some o := by rw [atI_n]; exact h
theorem ev_ge_map {α : Type} {g : α → O} {l : List α} {a : α} (h : l[n]? = some a) : (l.map g)[n]? = some (g a) := by rw [List.getElem?_map, h]; rfl
theorem ev_bnot {v : Bool} (h : t ρ = some v) : bNot t ρ = some (!v) := by unfold bNot; rw [h]
theorem ev_band {v w : Bool} (h : ta ρ = some v) (h2 : tb ρ = some w) : bAnd ta tb ρ = some (v && w) := by unfold bAnd; rw [h]; cases v with
  | false => exact rfl
  | true => exact h2
theorem ev_band_f (h : ta ρ = some false) : bAnd ta tb ρ = some false := by unfold bAnd; rw [h]
theorem ev_bor {v w : Bool} (h : ta ρ = some v) (h2 : tb ρ = some w) : bOr ta tb ρ = some (v || w) := by unfold bOr; rw [h]; cases v with
  | false => exact h2
  | true => exact rfl
theorem ev_vand {v w : Bool} (h : da ρ = some (.bl v)) (h2 : db ρ = some (.bl w)) : vAnd da db ρ = some (.bl (v && w)) := by unfold vAnd; rw [h]; cases v with
  | false => exact rfl
  | true => exact h2
theorem ev_vor {v w : Bool} (h : da ρ = some (.bl v)) (h2 : db ρ = some (.bl w)) : vOr da db ρ = some (.bl (v || w)) := by unfold vOr; rw [h]; cases v with
  | false => exact h2
  | true => exact rfl
theorem ev_not {v : Bool} : oNot (.bl v) = some (.bl (!v)) := rfl
theorem ev_it {k : Bool} (h : d ρ = some o) (h2 : itO k o = some os) : dIt k d ρ = some os := by unfold dIt; rw [h]; exact h2
theorem it_tl : itO true (.lst false os) = some os := rfl
theorem it_tt (h : isFzs os = true) : itO true (.tup os) = some os := by simp [itO, h]
theorem it_fl {w : Bool} (h : frzs os = os') : itO false (.lst w os) = some os' := by simp [itO, h]
theorem it_ft (h : frzs os = os') : itO false (.tup os) = some os' := by simp [itO, h]
theorem ev_rng1 {n : Nat} (h : d ρ = some (.int (n : Int))) (l : n < 4611686018427387904) : dRng1 d ρ = some (rngs 0 n) := by
  unfold dRng1
  rw [h]
  dsimp only
  rw [if_pos (rOk_n l), Int.toNat_natCast]
theorem ev_rng2 {i j : Int} (h : da ρ = some (.int i)) (h2 : db ρ = some (.int j)) (l : (-4611686018427387904 ≤ i ∧ i < 4611686018427387904) ∧ -4611686018427387904 ≤ j ∧ j < 4611686018427387904) : dRng2 da db ρ = some (rngs i (j - i).toNat) := by
  unfold dRng2
  rw [h]
  dsimp only
  rw [h2]
  dsimp only
  rw [rOk_i l.1.1 l.1.2, rOk_i l.2.1 l.2.2]
  rfl
theorem ev_enum (h : d ρ = some (.lst false os)) : dEnum d ρ = some (enumO os) := by unfold dEnum; rw [h]
theorem ev_list {w : Bool} (h : isFzs os = true) : oList (.lst w os) = some (.lst true os) := by simp [oList, oTuple, h]
theorem ev_list_t (h : isFzs os = true) : oList (.tup os) = some (.lst true os) := by simp [oList, oTuple, h]
theorem ev_tuple {w : Bool} (h : isFzs os = true) : oTuple (.lst w os) = some (.tup os) := by simp [oList, oTuple, h]
theorem ev_tuple_t (h : isFzs os = true) : oTuple (.tup os) = some (.tup os) := by simp [oList, oTuple, h]
theorem ev_len16 (h : os.length ≤ 16777216) : os.length ≤ 16777216 := h
theorem ev_n62 (h : n < 4611686018427387904) : n < 4611686018427387904 := h
theorem ev_r2 {i j : Int} (l : (-4611686018427387904 ≤ i ∧ i < 4611686018427387904) ∧ -4611686018427387904 ≤ j ∧ j < 4611686018427387904) : (-4611686018427387904 ≤ i ∧ i < 4611686018427387904) ∧ -4611686018427387904 ≤ j ∧ j < 4611686018427387904 := l
theorem ev_tru_b {v : Bool} : oTru (.bl v) = some v := rfl
theorem ev_bool {v : Bool} : oBool (.bl v) = some v := rfl
theorem ev_tru_i {i : Int} : oTru (.int i) = some (i != 0) := rfl
theorem ev_tru_t : oTru (.tup os) = some (!os.isEmpty) := rfl
theorem ev_tru_l {w : Bool} : oTru (.lst w os) = some (!os.isEmpty) := rfl
end
end Mini
namespace Mini
open PySem PySem.Spec PyProof.Rows L2
/-! data that is compared -/
structure EqC {α : Type} [DecidableEq α] (g : α → O) (D : Nat) : Prop where
  ok : ∀ a, PyData.canLay0 (toPy (g a)) = true
  dp : ∀ a, PyData.depth (toPy (g a)) ≤ D
  eq : ∀ a b, PyData.eqv (toPy (g a)) (toPy (g b)) = decide (a = b)
theorem EqC.all {α : Type} [DecidableEq α] {g : α → O} {D : Nat} (h : EqC g D) : ∀ l : List α, PyData.canLayAll0 (toPys (l.map g)) = true ∧ PyData.depthAll (toPys (l.map g)) ≤ D ∧ ∀ l' : List α, PyData.eqvAll (toPys (l.map g)) (toPys (l'.map g)) = decide (l = l')
  | [] => ⟨rfl, Nat.zero_le _, fun l' => by cases l' <;> simp [toPys, PyData.eqvAll]⟩
  | a :: l => by
    obtain ⟨i1, i2, i3⟩ := h.all l
    refine ⟨?_, ?_, fun l' => ?_⟩
    · show (PyData.canLay0 _ && PyData.canLayAll0 _) = true
      rw [h.ok, i1]; rfl
    · show max (PyData.depth _) (PyData.depthAll _) ≤ D
      exact Nat.max_le.mpr ⟨h.dp a, i2⟩
    · cases l' with
      | nil => simp [toPys, PyData.eqvAll]
      | cons b l' =>
        show (PyData.eqv _ _ && PyData.eqvAll _ _) = _
        rw [h.eq, i3]
        by_cases e1 : a = b
        · by_cases e2 : l = l' <;> simp [e1, e2]
        · simp [e1]
theorem EqC.int : EqC O.int 0 := ⟨fun _ => rfl, fun _ => Nat.le_refl _, fun a b => rfl⟩
abbrev natO (k : Nat) : O := .int (k : Int)
theorem EqC.nat : EqC natO 0 := ⟨fun _ => rfl, fun _ => Nat.le_refl _, fun a b => by
  show decide ((a : Int) = (b : Int)) = decide (a = b)
  by_cases h : a = b
  · simp [h]
  · have : ¬ (a : Int) = (b : Int) := by omega
    simp [h, this]⟩
theorem EqC.tup {α : Type} [DecidableEq α] {g : α → O} {D : Nat} (h : EqC g D) : EqC (fun l : List α => O.tup (l.map g)) (D + 1) := ⟨fun l => (h.all l).1, fun l => Nat.succ_le_succ (h.all l).2.1, fun a b => (h.all a).2.2 b⟩
theorem EqC.lst {α : Type} [DecidableEq α] {g : α → O} {D : Nat} (w : Bool) (h : EqC g D) : EqC (fun l : List α => O.lst w (l.map g)) (D + 1) := ⟨fun l => (h.all l).1, fun l => Nat.succ_le_succ (h.all l).2.1, fun a b => (h.all a).2.2 b⟩
theorem shp {d : PyData} (h1 : d.canLay0 = true) (h2 : d.depth ≤ 64) : SeqAt.shaped d = true := by
  show (d.canLay0 && decide (d.depth ≤ 64)) = true
  rw [h1, decide_eq_true h2]; rfl
theorem EqC.oEq {α : Type} [DecidableEq α] {g : α → O} {D : Nat} (h : EqC g D) (hD : D ≤ 64) (a b : α) : Mini.oEq (g a) (g b) = some (.bl (decide (a = b))) := by
  rw [oEq_def]
  unfold oEq0
  rw [shp (h.ok a) (Nat.le_trans (h.dp a) hD), shp (h.ok b) (Nat.le_trans (h.dp b) hD), h.eq]; rfl
theorem EqC.oEqL {α : Type} [DecidableEq α] {g : α → O} {D : Nat} (h : EqC g D) (hD : D ≤ 63) (w w' : Bool) (a b : List α) : Mini.oEq (.lst w (a.map g)) (.lst w' (b.map g)) = some (.bl (decide (a = b))) := by
  obtain ⟨h1, h2, h3⟩ := h.all a
  obtain ⟨k1, k2, k3⟩ := h.all b
  rw [oEq_def]
  unfold oEq0
  rw [shp (d := toPy (.lst w (a.map g))) h1 (show PyData.depthAll _ + 1 ≤ 64 by omega), shp (d := toPy (.lst w' (b.map g))) k1 (show PyData.depthAll _ + 1 ≤ 64 by omega)]
  show some (O.bl (PyData.eqvAll _ _)) = _
  rw [h3]
theorem EqC.oNeL {α : Type} [DecidableEq α] {g : α → O} {D : Nat} (h : EqC g D) (hD : D ≤ 63) (w w' : Bool) (a b : List α) : Mini.oNe (.lst w (a.map g)) (.lst w' (b.map g)) = some (.bl (!decide (a = b))) := by
  obtain ⟨h1, h2, h3⟩ := h.all a
  obtain ⟨k1, k2, k3⟩ := h.all b
  rw [oNe_def]
  unfold oNe0
  rw [shp (d := toPy (.lst w (a.map g))) h1 (show PyData.depthAll _ + 1 ≤ 64 by omega), shp (d := toPy (.lst w' (b.map g))) k1 (show PyData.depthAll _ + 1 ≤ 64 by omega)]
  show some (O.bl (!PyData.eqvAll _ _)) = _
  rw [h3]
section
variable {Q : Out → Prop} {J : Env → Prop} {a b c : Env → Option Out} {d d' da db dc di : Env → Option O} {t ta tb : Env → Option Bool} {ds : Env → Option (List O)} {dp : Env → Option (List PSt)} {ρ ρ' ρ1 ρ2 : Env} {i j k n m : Nat} {o o' x y z : O} {os os' ps : List O} {P : List PSt}
theorem wp_modP {fn : O → Option O} (e : look ρ i = some o) (h : dp ρ = some P) (hm : modP fn o P = some o') (s : setE i (some o') ρ ρ') (q : Q (.nx ρ')) : Wp Q (dModP i dp fn ρ) := by
  refine ⟨.nx ρ', ?_, q⟩
  unfold dModP
  rw [e]; dsimp only; rw [h]; dsimp only; rw [hm]; dsimp only; rw [s.2]
theorem wp_setP {kk : Int} (h1 : d ρ = some y) (h2 : di ρ = some (.int kk)) (e : look ρ i = some o) (h : dp ρ = some P) (hm : modP (stO' kk y) o P = some o') (s : setE i (some o') ρ ρ') (q : Q (.nx ρ')) : Wp Q (dSetP i dp di d ρ) := by
  unfold dSetP
  rw [h1]; dsimp only; rw [h2]; exact wp_modP e h hm s q
theorem wp_appP (h1 : d ρ = some y) (e : look ρ i = some o) (h : dp ρ = some P) (hm : modP (apO y) o P = some o') (s : setE i (some o') ρ ρ') (q : Q (.nx ρ')) : Wp Q (dAppP i dp d ρ) := by
  unfold dAppP
  rw [h1]; exact wp_modP e h hm s q
theorem ev_pNil : pNil ρ = some [] := rfl
theorem ev_pFl {c : Nat} {f : Str} (h : dp ρ = some P) : pFl dp c f ρ = some (P ++ [.fl c f]) := by unfold pFl; rw [h]
theorem ev_pFl0 {c : Nat} {f : Str} : pFl pNil c f ρ = some [.fl c f] := rfl
theorem ev_pIx {k : Nat} (h : dp ρ = some P) (h2 : d ρ = some (.int (k : Int))) : pIx dp d ρ = some (P ++ [.ix k]) := by
  unfold pIx; rw [h]; dsimp only; rw [h2]; dsimp only
  rw [if_pos (by omega), Int.toNat_natCast]
theorem modP_nil {fn : O → Option O} (h : fn o = some o') : modP fn o [] = some o' := h
theorem modP_fl {fn : O → Option O} {c : Nat} {f : Str} {ns : List Str} (h1 : fldO f ns os = some o) (h2 : modP fn o P = some o') (h3 : putO f o' ns os = os') : modP fn (.ins true c ns os) (.fl c f :: P) = some (.ins true c ns os') := by
  show (if c = c then _ else none) = _
  rw [if_pos rfl, h1]; dsimp only; rw [h2]; dsimp only; rw [h3]
theorem modP_ix {fn : O → Option O} {k : Nat} (h1 : os[k]? = some o) (h2 : modP fn o P = some o') : modP fn (.lst true os) (.ix k :: P) = some (.lst true (os.set k o')) := by
  show (match os[k]? with | some o => _ | none => none) = _
  rw [h1]; dsimp only; rw [h2]
theorem st_n {k : Nat} (h : k < os.length) : stO' (k : Int) y (.lst true os) = some (.lst true (os.set k y)) := by
  show (match ixN os.length (k : Int) with | some j => _ | none => none) = _
  rw [ixN_n, if_pos h]
theorem ap_n (h : os.length < 16777216) : apO y (.lst true os) = some (.lst true (os ++ [y])) := by
  show (if os.length < sizeLine then _ else none) = _
  rw [if_pos (by rw [sizeLine_eq]; exact h)]
theorem wp_setF {c : Nat} {f : Str} {ns ns' : List Str} (h : d ρ = some o) (e : look ρ i = some (.ins true c ns os)) (l : ns.length < 1000) (h1 : putN f ns = ns') (h2 : putO f o ns os = os') (s : setE i (some (.ins true c ns' os')) ρ ρ') (q : Q (.nx ρ')) : Wp Q (dSetF i c f d ρ) := by
  refine ⟨.nx ρ', ?_, q⟩
  unfold dSetF
  rw [h]; dsimp only; rw [e]; dsimp only; rw [if_pos ⟨rfl, l⟩, h1, h2, s.2]
theorem ev_fld {c : Nat} {w : Bool} {f : Str} {ns : List Str} (h : d ρ = some (.ins w c ns os)) (h2 : fldO f ns os = some o) : dFld c f d ρ = some o := by
  unfold dFld
  rw [h]; dsimp only; rw [if_pos rfl]; exact h2
theorem ev_prop {c : Nat} {k w : Bool} {ns : List Str} {Ff : Fn} (h : d ρ = some (.ins w c ns os)) (h2 : dCall [k] Ff (dCons d dNil) ρ = some o) : dProp c k Ff d ρ = some o := by
  unfold dProp
  rw [h]; dsimp only; rw [if_pos rfl]; exact h2
theorem ev_meth {c : Nat} {m : Str} {ks : List Bool} {Ff : Fn} (h : d ρ = some x) (ho : isObj c m x = true) (h2 : dCall ks Ff (dCons d ds) ρ = some o) : dMeth c m ks Ff d ds ρ = some o := by
  unfold dMeth
  rw [h]; dsimp only; rw [if_pos ho]; exact h2
theorem ev_lend0 {c : Nat} {m : Str} {ks : List Bool} {Ff : Fn} {vs : List O} {r : O} {fin : Env} (e : look ρ i = some x) (ho : isObj c m x = true) (h : ds ρ = some os) (hk : okb ks os = true) (hv : views ks os = vs) (hf : Ff (x :: vs) = some (r, fin)) (hl : look fin 0 = some o') (s : setE i (some o') ρ ρ') : dLend0 i c m ks Ff ds ρ = some (.ok r ρ') := by
  unfold dLend0
  rw [e]; dsimp only; rw [if_pos ho, h]; dsimp only; rw [if_pos hk, hv, hf]; dsimp only; rw [hl]; dsimp only; rw [s.2]
theorem ev_lendR {c : Nat} {m : Str} {ks : List Bool} {Ff : FnX} {vs : List O} {r : O} {fin : Env} (e : look ρ i = some x) (ho : isObj c m x = true) (h : ds ρ = some os) (hk : okb ks os = true) (hv : views ks os = vs) (hf : Ff (x :: vs) = some (.ok r fin)) (hl : look fin 0 = some o') (s : setE i (some o') ρ ρ') : dLendR i c m ks Ff ds ρ = some (.ok r ρ') := by
  unfold dLendR
  rw [e]; dsimp only; rw [if_pos ho, h]; dsimp only; rw [if_pos hk, hv, hf]; dsimp only; rw [hl]; dsimp only; rw [s.2]
theorem ev_makeR {c : Nat} {ks : List Bool} {Ff : FnX} {vs : List O} {fin : Env} (h : ds ρ = some os) (hv : views ks os = vs) (hf : Ff (.ins true c [] [] :: vs) = some (.ok .non fin)) (hl : look fin 0 = some o') (ok : (okb ks os || noFm o') = true) : dMakeR c ks Ff ds ρ = some (.ok o' ρ) := by
  unfold dMakeR
  rw [h]; dsimp only; rw [hv, hf]; dsimp only; rw [hl]; dsimp only; rw [if_pos ok]
theorem wp_ifN {dr : Env → Option Rv} (h : dr ρ = some (.ok .non ρ1)) (q : Wp Q (dIf t a b ρ1)) : Wp Q (dIfN dr t a b ρ) := by
  unfold dIfN
  rw [h]; exact q
theorem ev_sort {w : Bool} {ns : List Int} : oSort (.lst w (ns.map O.int)) = some (.lst true ((srtI ns).map O.int)) := by
  show (match intsL (ns.map O.int) with | some ns => _ | none => none) = _
  rw [intsL_map]
theorem ev_lstRg {n : Nat} (h : n ≤ 16777216) : oLstRg (.int (n : Int)) = some (.lst true (rngs 0 n)) := by
  show (if rOk (n : Int) = true ∧ (n : Int) ≤ 16777216 then _ else none) = _
  rw [if_pos ⟨rOk_n (by omega), by omega⟩, Int.toNat_natCast]
theorem ev_fldO {f : Str} {ns : List Str} (h : fldO f ns os = some o) : fldO f ns os = some o := h
theorem putO_hit {f : Str} {ns : List Str} : putO f o (f :: ns) (x :: os) = o :: os := by rw [putO, if_pos rfl]
theorem putO_miss {f g : Str} {ns : List Str} (h : g ≠ f) (h2 : putO f o ns os = os') : putO f o (g :: ns) (x :: os) = x :: os' := by rw [putO, if_neg h, h2]
theorem putO_nil {f : Str} : putO f o [] [] = [o] := rfl
theorem putN_hit {f : Str} {ns : List Str} : putN f (f :: ns) = f :: ns := by rw [putN, if_pos rfl]
theorem putN_miss {f g : Str} {ns ns' : List Str} (h : g ≠ f) (h2 : putN f ns = ns') : putN f (g :: ns) = g :: ns' := by rw [putN, if_neg h, h2]
theorem putN_nil {f : Str} : putN f [] = [f] := rfl
theorem ev_isObj {c : Nat} {m : Str} (h : isObj c m o = true) : isObj c m o = true := h
theorem natO_frz (k : Nat) : frz (natO k) = natO k := rfl
theorem fzs_nat {l : List Nat} : frzs (l.map natO) = l.map natO := frz_map _ (fun _ => rfl) _
@[simp] theorem isfzs_nat {l : List Nat} : isFzs (l.map natO) = true := fz_map _ (fun _ => rfl) _
@[simp] theorem nofms_nat {l : List Nat} : noFms (l.map natO) = true := nofm_map _ (fun _ => rfl) _
theorem ok_m {ks : List Bool} {r : O} (h : noFm r = true) : (okb ks os || noFm r) = true := by rw [h, Bool.or_true]
theorem ok_z {ks : List Bool} {r : O} (h : okb ks os = true) : (okb ks os || noFm r) = true := by rw [h, Bool.true_or]
theorem okb_nil : okb [] [] = true := rfl
theorem okb_f {ks : List Bool} (h : okb ks os = true) : okb (false :: ks) (o :: os) = true := by rw [okb, h]; rfl
theorem okb_t {ks : List Bool} (h : isFz o = true) (h2 : okb ks os = true) : okb (true :: ks) (o :: os) = true := by rw [okb, h, h2]; rfl
theorem nfm_i {i : Int} : noFm (.int i) = true := rfl
theorem nfm_b {b : Bool} : noFm (.bl b) = true := rfl
theorem nfm_s {b : Str} : noFm (.str b) = true := rfl
theorem nfm_n : noFm .non = true := rfl
theorem nfm_l (h : noFms os = true) : noFm (.lst true os) = true := by rw [noFm, h]; rfl
theorem nfm_t (h : noFms os = true) : noFm (.tup os) = true := by rw [noFm, h]
theorem nfm_o {c : Nat} {ns : List Str} (h : noFms os = true) : noFm (.ins true c ns os) = true := by rw [noFm, h]; rfl
theorem nfm_d {ks : List L2.Key} (h : noFms os = true) : noFm (.dct true ks os) = true := by rw [noFm, h]; rfl
theorem nfms_n : noFms [] = true := rfl
theorem nfms_c (h : noFm o = true) (h2 : noFms os = true) : noFms (o :: os) = true := by rw [noFms, h, h2]; rfl
theorem ifz_i {i : Int} : isFz (.int i) = true := rfl
theorem ifz_b {b : Bool} : isFz (.bl b) = true := rfl
theorem ifz_s {b : Str} : isFz (.str b) = true := rfl
theorem ifz_n : isFz .non = true := rfl
theorem ifz_l (h : isFzs os = true) : isFz (.lst false os) = true := by rw [isFz, h]; rfl
theorem ifz_t (h : isFzs os = true) : isFz (.tup os) = true := by rw [isFz, h]
theorem ifz_o {c : Nat} {ns : List Str} (h : isFzs os = true) : isFz (.ins false c ns os) = true := by rw [isFz, h]; rfl
theorem ifz_d {ks : List L2.Key} (h : isFzs os = true) : isFz (.dct false ks os) = true := by rw [isFz, h]; rfl
theorem ifzs_n : isFzs [] = true := rfl
theorem ifzs_c (h : isFz o = true) (h2 : isFzs os = true) : isFzs (o :: os) = true := by rw [isFzs, h, h2]; rfl
theorem ev_xorN {a b : Nat} : oXor (.int (a : Int)) (.int (b : Int)) = some (.int ((a ^^^ b : Nat) : Int)) := by rw [oXor_i, natXor]
theorem ev_andN {a b : Nat} : oAnd (.int (a : Int)) (.int (b : Int)) = some (.int ((a &&& b : Nat) : Int)) := by rw [oAnd_i, natAnd]
theorem ev_andN1 {a : Nat} : oAnd (.int (a : Int)) (.int 1) = some (.int ((a % 2 : Nat) : Int)) := by
  rw [oAnd_i, show (1 : Int) = ((1 : Nat) : Int) from rfl, natAnd, nat_and1]
theorem ev_orN {a b : Nat} : oOr (.int (a : Int)) (.int (b : Int)) = some (.int ((a ||| b : Nat) : Int)) := by rw [oOr_i, natOr]
theorem ev_shrN {a q : Nat} : oShr (.int (a : Int)) (.int (q : Int)) = some (.int ((a / 2 ^ q : Nat) : Int)) := by rw [oShr_n, natShr]
theorem ev_shl1 {q : Nat} (h : q ≤ 100000) : oShl (.int 1) (.int (q : Int)) = some (.int ((1 * 2 ^ q : Nat) : Int)) := oShl_1 h
theorem ev_shlN {b q : Nat} (h : b < 2 ∧ q ≤ 100000) : oShl (.int (b : Int)) (.int (q : Int)) = some (.int ((b * 2 ^ q : Nat) : Int)) := oShl_n h.1 h.2
theorem ev_bitsN {n : Nat} : oBits (.int (n : Int)) = some (.int (nbt n : Nat)) := by rw [oBits_i, nbt_bits]
theorem wp_augF {c : Nat} {f : Str} {fn : O → O → Option O} (h1 : d ρ = some y) (e : look ρ i = some o) (h : dp ρ = some P) (hm : modP (afO c f fn y) o P = some o') (s : setE i (some o') ρ ρ') (q : Q (.nx ρ')) : Wp Q (dAugF i dp c f fn d ρ) := by
  unfold dAugF
  rw [h1]; exact wp_modP e h hm s q
theorem wp_augP {fn : O → O → Option O} {kk : Int} (h1 : d ρ = some y) (h2 : di ρ = some (.int kk)) (e : look ρ i = some o) (h : dp ρ = some P) (hm : modP (aiO kk fn y) o P = some o') (s : setE i (some o') ρ ρ') (q : Q (.nx ρ')) : Wp Q (dAugP i dp fn di d ρ) := by
  unfold dAugP
  rw [h1]; dsimp only; rw [h2]; exact wp_modP e h hm s q
theorem ai_n {k : Nat} {fn : O → O → Option O} (h : os[k]? = some x) (h2 : fn x y = some z) : aiO (k : Int) fn y (.lst true os) = some (.lst true (os.set k z)) := by
  show (if 0 ≤ (k : Int) then (match os[(k : Int).toNat]? with | some x => (match fn x y with | some z => some (O.lst true (os.set (k : Int).toNat z)) | none => none) | none => none) else none) = _
  rw [if_pos (by omega), Int.toNat_natCast, h]; dsimp only; rw [h2]
theorem af_o {c : Nat} {f : Str} {fn : O → O → Option O} {ns ns' : List Str} (l : ns.length < 1000) (h : fldO f ns os = some x) (h2 : fn x y = some z) (h3 : putN f ns = ns') (h4 : putO f z ns os = os') : afO c f fn y (.ins true c ns os) = some (.ins true c ns' os') := by
  show (if c = c ∧ ns.length < 1000 then (match fldO f ns os with | some x => (match fn x y with | some z => some (O.ins true c (putN f ns) (putO f z ns os)) | none => none) | none => none) else none) = _
  rw [if_pos ⟨rfl, l⟩, h]; dsimp only; rw [h2]; dsimp only; rw [h3, h4]
theorem ev_ixN {m k : Nat} (h : k < m) : ixN m (k : Int) = some k := by rw [ixN_n, if_pos h]
theorem ev_ixN0 {m : Nat} (h : 0 < m) : ixN m 0 = some 0 := ev_ixN (k := 0) h
end
end Mini
namespace Mini
open PySem PySem.Spec PyProof.Rows L2
/-! more rules by weakest preconditions -/
section
variable {Q : Out → Prop} {ρ ρ' ρ'' : Env} {i j : Nat} {d : Env → Option O} {os qs : List O} {o o' x : O}
theorem wp_ext (e : look ρ i = some (.lst true os)) (h : d ρ = some (.lst true qs)) (l : os.length + qs.length ≤ 16777216) (s : setE i (some (.lst true (os ++ qs))) ρ ρ') (q : Q (.nx ρ')) : Wp Q (dExt i d ρ) :=
  ⟨_, by unfold dExt; rw [e]; dsimp only; rw [h]; dsimp only; rw [if_pos (by rw [sizeLine_eq]; exact l), s.2], q⟩
theorem wp_star {w : Bool} (h : d ρ = some (.lst w (x :: os))) (z : isFzs (x :: os) = true) (s1 : setE i (some x) ρ ρ') (s2 : setE j (some (.lst true os)) ρ' ρ'') (q : Q (.nx ρ'')) : Wp Q (dStar d i j ρ) := by
  have l2 : j < ρ.length := by
    have := s2.1
    rw [← s1.2, List.length_set] at this
    exact this
  exact ⟨_, by unfold dStar; rw [h]; dsimp only; rw [if_pos ⟨z, s1.1, l2⟩], by rw [s1.2, s2.2]; exact q⟩
theorem wp_lend {ks : List Bool} {Ff : Fn} {ds : Env → Option (List O)} {vs : List O} {oi r : O} {fin : Env} (e : look ρ i = some oi) (h : ds ρ = some os) (hv : views ks os = vs) (c : Ff (oi :: vs) = some (r, fin)) (hf : look fin 0 = some o') (ok : okb ks os = true)
    (s : setE i (some o') ρ ρ') (q : Q (.nx ρ')) : Wp Q (dLend i ks Ff ds ρ) :=
  ⟨_, by unfold dLend; rw [e]; dsimp only; rw [h]; dsimp only; rw [hv, c]; dsimp only; rw [hf]; dsimp only; rw [if_pos ok, s.2], q⟩
end
end Mini
namespace Mini
open PySem PySem.Spec PyProof.Rows L2
/-! sets by comprehension: two clauses -/
/-! sorted({..}), ints -/
end Mini
namespace Mini
open PySem PySem.Spec PyProof.Rows L2
open Sem (wp)
/-! min(xs, key=f), xs a list of ints, f a def -/
end Mini
namespace Mini
open PySem PySem.Spec PyProof.Rows L2
/-! a lambda is made: all but the tables of T stays -/
end Mini
namespace Mini
open PySem PySem.Spec PyProof.Rows L2
/-! a lambda with one parameter is entered -/
end Mini
namespace Mini
open PySem PySem.Spec PyProof.Rows L2
/-! min(xs, key=lambda y: e), xs a list of ints, e an int -/
end Mini
namespace Mini
open PySem PySem.Spec PyProof.Rows L2
end Mini
namespace Mini
open PySem PySem.Spec PyProof.Rows L2
/-! min(xs, key=lambda y: e), e a pair of ints -/
end Mini
namespace Mini
open PySem PySem.Spec PyProof.Rows L2
end Mini
namespace Mini
open PySem PySem.Spec PyProof.Rows L2
end Mini
namespace Mini
open PySem PySem.Spec PyProof.Rows L2
/-! a def in which lambdas stand: its code object is known -/
structure FunC (K : PySem.W.Frag) (x qual : Str) (st : Stmt) (f : Addr) (fd : FuncData) (c : Addr) : Prop where
  ex : ∃ (oc : Value) (od : Option Addr) (kV doc pm : Value) (an : Option Addr) (ct : Value) (osl : Array (Option Value)),
    fd = PySem.W.fnOf x qual (defArgs st) (defBody st) (defScope st) .none kV doc pm an (.ref c) ct ∧ K.lookup f = some ⟨oc, od, .func fd, osl⟩ ∧ PySem.W.codeIn K (.ref c) qual = true
  kp : PySem.W.keepIn K (.ref f) = true
section
variable {P : Program} {w : World} {K : PySem.W.Frag} {mg : Str → Option Value} {base : Heap} {ct : Nat → Addr}
theorem FunC.ok {x qual : Str} {st : Stmt} {f c : Addr} {fd : FuncData} {N ps : List Str} {k : Nat} {sp : Sp} (F : FunC K x qual st f fd c) (S : FnScope N ps (defScope st)) (len : ∀ vs H Q E, sp vs H Q E → vs.length = ps.length)
    (hbody : ∀ (A : Around) (outer : List PySem.Env) (s : Shared) (H : Hp) (vs : List V) (Q : VK) (E : XK), Room k (A.deeper (envOfC qual (defScope st) s.heap.objs.size f (.ref c))) → sp vs H Q E →
      ∃ t, PSs (cxOf CX0 P w K mg base N qual (defScope st) f (.ref c) A outer s H E).nox (defBody st) t ∧ t { nx := fun _ H' => Q .non H', rt := Q } (start N vs) H) : FnOk P w K mg base CX0 (k + 1) f fd ps sp := by
  obtain ⟨oc, od, kV, doc, pm, an, ct, osl, rfl, lk, hcd⟩ := F.ex
  refine fn_of lk hcd S len fun A outer s H vs Q E hr hsp => ?_
  obtain ⟨t, h, q⟩ := hbody A outer s H vs Q E hr hsp
  exact ⟨t, h.nox, q⟩
end
end Mini
namespace Mini
open PySem PySem.Spec PyProof.Rows L2
/-! a // b, b of any size: no one looks on -/
def oDivP := intsO (fun _ j => decide (j ≠ 0)) fun i j => .int (i.fdiv j)
section
variable {ct : Nat → Addr} {X : Cx} {a b : Expr} {da db : Env → Option O} {k1 k2 : Bool} {pos : Pos}
theorem op_divP (hN : X.base.NoSeer) (hT : X.prog.given.tree = none) (hr : Room 32 X.A) (hst : X.stack = X.env :: X.outer) (hg : X.env.scope.isGenerator = false) (hc : X.env.scope.isCoroutine = false) : OpR X (binaryOp .FloorDiv) (rI (fun _ j => j ≠ 0) fun i j => .int (i.fdiv j)) := by
  intro pins s σ H x y v u Q I rx ry h
  obtain ⟨i, j, rfl, rfl, hj, q⟩ := h
  obtain ⟨t, rfl⟩ := rx
  obtain ⟨t', rfl⟩ := ry
  have hd : X.A.depth + Builtin.pylongFrames < recursionLimit := by
    have := hr.dp
    show X.A.depth + 100 < recursionLimit
    omega
  have se : SeerAt (model X.prog X.w) X.A s.heap := SeerAt.of (hN.keeps I.bk) hT (by rw [I.ok.frames, hst]) hg hc I.ok.blt I.ok.glob
  exact floordiv_int hj ⟨.int (i.fdiv j), H, I.tok _, ⟨_, rfl⟩, q⟩ (.inr (PylongRoom.of I.nolimit hd se))
theorem sx_divP [TabsI] (hN : X.base.NoSeer) (hT : X.prog.given.tree = none) (hr : Room 32 X.A) (ha : SX ct X k1 a da) (hb : SX ct X k2 b db) (hst : X.stack = X.env :: X.outer := by rfl) (hg : X.env.scope.isGenerator = false := by rfl) (hc : X.env.scope.isCoroutine = false := by rfl) :
    SX ct X false (.BinOp a .FloorDiv b pos) (dBin oDivP da db) :=
  sx_bin (op_divP hN hT hr hst hg hc) (fn2_I (fun i j h => of_decide_eq_true h) fun _ _ _ _ _ => ⟨rfl, rfl⟩) ha hb
end
theorem law_callN {P : Program} {w : World} {K : PySem.W.Frag} {mg mb : Str → Option Value} {CX : CXT} {k : Nat} {fa a : Addr} {cs : List (Addr × Addr)} {fd : FuncData} {x : Str} {sp : Sp} {s₁ : Shared} {vs : List Value} {ns : List Int}
    (KX : K.In s₁.heap) (hns : s₁.heap.Ns mainGlobals mg) (hb : s₁.heap.Ns builtinsNs mb) (hbb : ∀ x : Str, x ≠ "__name__" → mb x = bootBuiltins x) (hlim : s₁.heap.NoLimit) (hg : s₁.gens = #[])
    (hSe : s₁.heap.NoSeer) (hT : ∀ p ∈ cs, s₁.heap.get? p.2 = some { cls := .none, data := .fields #[] }) (nT : ∀ p ∈ cs, K.lookup p.2 = none) (C : ∀ p ∈ cs, PySem.W.CodeHd s₁.heap p.1 p.2)
    (hbm : ∃ (bm : Addr) (ob : Obj), mg "__builtins__" = some (.ref bm) ∧ bm ≠ builtinsNs ∧ s₁.heap.get? bm = some ob ∧ ob.cls = .type "module" ∧ ob.dict = some builtinsNs ∧ ob.data = .plain)
    (ha : s₁.heap.get? a = some { cls := .type "list", data := .seq vs.toArray }) (hi : IntsAre vs ns) (hl : ns.length ≤ sizeLine) (hr : Room k callerA)
    (F : ∀ base : Heap, K.In base → base.Ns mainGlobals mg → (∀ p ∈ cs, LamX.TabB base mg p.1 p.2) → base.NoSeer → FnOk P w K mg base CX k fa fd [x] sp) (hbind : ∀ (s : Shared) (u : Value), BindsTo s fd ⟨[u], []⟩ [(x, u)])
    (hsp : ∀ H : Hp, (∀ p ∈ cs, H p.2 = some (.tbl #[])) → SqL K H a (ns.map V.int) → sp [.ref a] H (fun v _ => v = .bl true) fun _ _ _ => False)
    (hCX : ∀ H e s', CX [] H s₁ (fun _ _ _ => False) e s' → False) :
    codeAny (model P w) callerA (.call (.ref fa) ⟨[.ref a], []⟩) (fun r s' => r = .ok (.ret (.bool true)) ∧ OldK s₁.heap s'.heap ∧ s'.os = s₁.os ∧ AllBare s'.gens) s₁ := by
  have rv := vals_ints hi
  have lenV := hi.length
  have isT : ∀ b : Addr, b ∈ cs.map (·.2) → s₁.heap.get? b = some { cls := .none, data := .fields #[] } := fun b hb => by
    obtain ⟨p, hp, e⟩ := List.mem_map.mp hb
    rw [← e]
    exact hT p hp
  have aT : a ∉ cs.map (·.2) := fun z => by
    have q := isT a z
    rw [ha] at q
    have z' : Data.seq vs.toArray _ = Data.fields #[] := congrArg Obj.data (Option.some.inj q)
    cases z'
  have memT : ∀ p ∈ cs, p.2 ∈ cs.map (·.2) := fun p hp => List.mem_map.mpr ⟨p, hp, rfl⟩
  -- from an abstract heap in which nothing but the script and the tables may be tracked
  have core : ∀ H : Hp, (∀ p ∈ cs, H p.2 = some (.tbl #[])) → (∀ b, H b = none ∨ b ∈ cs.map (·.2) ∨ ∃ o xs, H b = some (.frz o (.lst xs))) → SqL K H a (ns.map V.int) → HOk P w H s₁.heap → (∀ b, H b ≠ none → b = a ∨ b ∈ cs.map (·.2)) → (H a ≠ none → K.lookup a = none) →
      codeAny (model P w) callerA (.call (.ref fa) ⟨[.ref a], []⟩) (fun r s' => r = .ok (.ret (.bool true)) ∧ OldK s₁.heap s'.heap ∧ s'.os = s₁.os ∧ AllBare s'.gens) s₁ := by
    intro H hH hO hS hok hA hK
    have base_of : ∀ {b : Addr} {o : Obj}, s₁.heap.get? b = some o → H b = none → (hidT s₁.heap H).get? b = some o := fun e n => hidT_get e n
    have noD : ∀ {b : Addr} {o : Obj}, s₁.heap.get? b = some o → (∀ vs n, o.data ≠ .seq vs n) → o.data ≠ .fields #[] → H b = none := fun {b o} e h1 h2 => by
      cases q : H b with
      | none => rfl
      | some u =>
        rcases hA b (by rw [q]; simp) with e' | e'
        · rw [e', ha] at e
          cases e
          exact (h1 _ _ rfl).elim
        · rw [isT b e'] at e
          cases e
          exact (h2 rfl).elim
    have noA : ∀ {b : Addr} {o : Obj} {es : Array DictEntry} {ep : Nat}, s₁.heap.get? b = some o → o.data = .dict es ep → H b = none := fun {b o es ep} e d => by
      refine noD e (fun vs n z => ?_) fun z => ?_
      · rw [d] at z
        cases z
      · rw [d] at z
        cases z
    have nsK : ∀ {b : Addr} {m : Str → Option Value}, s₁.heap.Ns b m → (hidT s₁.heap H).Ns b m := fun {b m} ⟨o, es, ep, e, d, r⟩ => ⟨o, es, ep, base_of e (noA e d), d, r⟩
    have hKb : K.In (hidT s₁.heap H) := fun b o e => base_of (KX b o e) (by
      cases q : H b with
      | none => rfl
      | some u =>
        rcases hA b (by rw [q]; simp) with e' | e'
        · rw [e'] at e q
          rw [hK (by rw [q]; simp)] at e
          cases e
        · obtain ⟨p, hp, ep⟩ := List.mem_map.mp e'
          rw [← ep, nT p hp] at e
          cases e)
    have hM : L2.Mod K mg (hidT s₁.heap H) := ⟨hKb, nsK hns, ⟨mb, nsK hb, hbb⟩, let ⟨mc, h1, h2⟩ := hlim; ⟨mc, nsK h1, h2⟩⟩
    have TB : ∀ p ∈ cs, LamX.TabB (hidT s₁.heap H) mg p.1 p.2 := fun p hp => by
      have hTp := hT p hp
      refine ⟨?_, ?_, fun z => ?_⟩
      · obtain ⟨o, us, file, tf, flags, tg, inF, text, tt, e1, r1, r2, r3, r4, r5, r6, r7, r8, hne⟩ := C p hp
        refine ⟨o, us, file, tf, flags, tg, inF, text, tt, base_of e1 (noD e1 (fun vs n z => ?_) fun z => ?_), r1, r2, r3, r4, r5, r6, r7, r8, hne⟩
        · rw [r2] at z
          cases z
        · rw [r2] at z
          cases z
          simp at r3
      · obtain ⟨bm, ob, b1, b2, b3, b4, b5, b6⟩ := hbm
        have nG : bm ≠ mainGlobals := fun q => by
          obtain ⟨o, es, ep, e, hd, _⟩ := hns
          rw [q, e] at b3
          cases b3
          rw [hd] at b6
          cases b6
        have nP : bm ≠ p.2 := fun q => by
          rw [q, hTp] at b3
          cases b3
          cases b6
        refine ⟨bm, ob, b1, b2, nG, nP, base_of b3 (noD b3 (fun vs n z => ?_) fun z => ?_), b4, b5, b6⟩
        · rw [b6] at z
          cases z
        · rw [b6] at z
          cases z
      · obtain ⟨o, es, ep, e, hd, _⟩ := hns
        rw [z, hTp] at e
        cases e
        cases hd
    have SE : (hidT s₁.heap H).NoSeer := by
      obtain ⟨mc, n1, n2⟩ := hSe.statics
      obtain ⟨mm, n3, n4⟩ := hSe.mods
      obtain ⟨bm, ob, b1, b2, b3, b4, b5, b6⟩ := hbm
      refine ⟨⟨mc, nsK n1, n2⟩, ⟨mm, nsK n3, n4⟩, ⟨mb, nsK hb, hbb⟩, ⟨mg, bm, ob, nsK hns, b1, base_of b3 (noD b3 (fun vs n z => ?_) fun z => ?_), b4, b5⟩⟩
      · rw [b6] at z
        cases z
      · rw [b6] at z
        cases z
    have e0 : Env0 P w K mg (hidT s₁.heap H) callerA [] s₁ H := ⟨rfl, hM, fun b o e => of_hidT e, Nat.le_of_eq (hidT_size _ _), trivial, fun b hb => absurd (show b ∈ ([] : List Addr) from hb) (by simp), hok, .of_eq hg⟩
    refine codeAny_mono ((F _ hKb (nsK hns) TB SE).run callerA [] s₁ H ⟨[.ref a], []⟩ [.ref a] [.ref a] _ _ hr e0 (hbind s₁ (.ref a)) (.cons rfl .nil) (hsp H hH hS)) fun r s' h => ?_
    cases r with
    | error e => exact (hCX H e s' h).elim
    | ok fl =>
      cases fl with
      | next => exact False.elim h
      | brk => exact False.elim h
      | cont => exact False.elim h
      | ret u =>
        obtain ⟨v, H', os, bare, un, hok', r', q⟩ := h
        have q' : v = .bl true := q
        subst q'
        obtain rfl : u = Value.bool true := r'
        have key : ∀ b o, b ∉ cs.map (·.2) → s₁.heap.get? b = some o → s'.heap.get? b = some o := fun b o nb e => by
          cases q : H b with
          | none => exact un.keep b o e q (by intro z; exact absurd (show b ∈ ([] : List Addr) from z) (by simp)) (by simp)
          | some u =>
            rcases hO b with z | z | ⟨ob, xs, z⟩
            · rw [q] at z; cases z
            · exact absurd z nb
            · have z2 := un.frzs b ob _ z
              obtain ⟨e1, _⟩ := hok b _ z
              obtain ⟨e2, _⟩ := hok' b _ z2
              rw [e] at e1; cases e1
              exact e2
        have grown : ∀ p ∈ cs, ∃ more : Array Value, s'.heap.get? p.2 = some { cls := .none, data := .fields more } := fun p hp => by
          obtain ⟨more, z⟩ := un.tbls p.2 #[] (hH p hp)
          exact ⟨_, hok' p.2 _ z⟩
        refine ⟨rfl, ⟨fun b o e => ?_, fun b o e => ?_⟩, os, bare⟩
        · by_cases hb : b ∈ cs.map (·.2)
          · obtain ⟨p, hp, ep⟩ := List.mem_map.mp hb
            obtain ⟨more, hm⟩ := grown p hp
            rw [← ep] at e ⊢
            rw [hT p hp] at e
            cases e
            exact .inr (.inl ⟨((C p hp).tab (hT p hp)).isCodeTable, rfl, #[], more, rfl, by rw [Array.empty_append]; exact hm⟩)
          · exact .inl (key b o hb e)
        · by_cases hb : b ∈ cs.map (·.2)
          · obtain ⟨p, hp, ep⟩ := List.mem_map.mp hb
            obtain ⟨more, hm⟩ := grown p hp
            rw [← ep]
            exact ⟨_, hm⟩
          · exact ⟨o, key b o hb e⟩
  cases hk : K.lookup a with
  | some o =>
    have e := KX a o hk
    rw [ha] at e
    cases e
    refine core (fun b => if b ∈ cs.map (·.2) then some (.tbl #[]) else none) (fun p hp => if_pos (memT p hp)) (fun b => ?_) (.inr ⟨_, vs.toArray, _, hk, rfl, rfl, rfl, by rw [List.size_toArray, lenV]; exact hl, by simpa using rv⟩) (fun b u z => ?_) (fun b z => ?_) fun z => absurd (show (if a ∈ cs.map (·.2) then some (HO.tbl #[]) else none) = none from if_neg aT) z
    · by_cases hb : b ∈ cs.map (·.2)
      · exact .inr (.inl hb)
      · exact .inl (if_neg hb)
    · by_cases hb : b ∈ cs.map (·.2)
      · have z' := (if_pos hb).symm.trans z
        cases z'
        exact isT b hb
      · have z' := (if_neg hb).symm.trans z
        cases z'
    · by_cases hb : b ∈ cs.map (·.2)
      · exact .inr hb
      · exact absurd (if_neg hb) z
  | none =>
    refine core (fun b => if b = a then some (.frz { cls := .type "list", data := .seq vs.toArray } (.lst (ns.map V.int))) else if b ∈ cs.map (·.2) then some (.tbl #[]) else none) (fun p hp => (if_neg (show ¬ p.2 = a from fun z => aT (by rw [← z]; exact memT p hp))).trans (if_pos (memT p hp))) (fun b => ?_)
      (.inl (.inr ⟨{ cls := .type "list", data := .seq vs.toArray }, if_pos rfl⟩)) (fun b u z => ?_) (fun b z => ?_) fun _ => hk
    · by_cases hb : b = a
      · exact .inr (.inr ⟨_, _, if_pos hb⟩)
      · by_cases hb2 : b ∈ cs.map (·.2)
        · exact .inr (.inl hb2)
        · exact .inl ((if_neg hb).trans (if_neg hb2))
    · by_cases hb : b = a
      · have z' := (if_pos hb).symm.trans z
        cases z'
        rw [hb]
        exact ⟨ha, by rw [List.length_map]; exact hl, vs, _, rv, ha⟩
      · have z1 := (if_neg hb).symm.trans z
        by_cases hb2 : b ∈ cs.map (·.2)
        · have z' := (if_pos hb2).symm.trans z1
          cases z'
          exact isT b hb2
        · have z' := (if_neg hb2).symm.trans z1
          cases z'
    · by_cases hb : b = a
      · exact .inl hb
      · by_cases hb2 : b ∈ cs.map (·.2)
        · exact .inr hb2
        · exact absurd ((if_neg hb).trans (if_neg hb2)) z
/-- the law's end with it -/
theorem walk_ofN {l : PySem.W.OpenLaw} {n k : Nat} {q : Program} {loose : List Str} {XP : (Str → Option Value) → Heap → Prop} {YP : World → Heap → Prop} {d : DefRec} {K : Params → PySem.W.Frag} {CX : World → CXT} {sp : World → Sp} {x : Str}
    (hn : l.most = some n) (hn2 : n ≤ sizeLine) (hdf : d.params.defaults = []) (hr : Room k callerA) (hi : importsNone q = true) (hY : ∀ (w : World) (h : Heap), YP w h → (K w.params).In h)
    (F : ∀ (w : World) (mg : Str → Option Value) (fa : Addr) (h : Heap), (K w.params).In h → h.Ns mainGlobals mg → mg d.name = some (.ref fa) →
      ∃ fd : FuncData, (∀ (s : Shared) (u : Value), BindsTo s fd ⟨[u], []⟩ [(x, u)]) ∧ ∀ base : Heap, (K w.params).In base → base.Ns mainGlobals mg → base.NoSeer → FnOk l.prog w (K w.params) mg base (CX w) k fa fd [x] (sp w))
    (hsp : ∀ (w : World) (H : Hp) (a : Addr) (ns : List Int), ns.length ≤ n → (∀ z ∈ ns, Builtin.Int.intBits z ≤ 1048576) → SqL (K w.params) H a (ns.map V.int) → sp w [.ref a] H (fun v _ => v = .bl true) fun _ _ _ => False)
    (hCX : ∀ (w : World) (H : Hp) (s : Shared) (e : Value) (s' : Shared), CX w [] H s (fun _ _ _ => False) e s' → False) :
    PySem.W.WalkO q loose XP YP l.row.toRowW d [] (fun f vs => PySem.call f vs) := by
  refine Att.attach_callB hn hdf fun w s₀ s₁ mg mb fa o pm cd doc a vs ns G Y ho hd hcd hmg hobj hints hlen hbits hg => ?_
  have KX := hY w _ Y
  obtain ⟨fd, hb, hF⟩ := F w mg fa _ KX G.T.g hmg
  exact law_callN (cs := []) KX G.T.g G.T.b G.T.builtins G.T.nolimit hg (G.T.seer hi) (fun p hp => by cases hp) (fun p hp => by cases hp) (fun p hp => by cases hp) G.T.bmain hobj hints (Nat.le_trans hlen hn2) hr (fun base h1 h2 _ h4 => hF base h1 h2 h4) hb (fun H hH hS => hsp w H a ns hlen hbits hS) fun H e s' => hCX w H s₁ e s'
end Mini
namespace K05
open PySem PySem.Spec PyProof.Rows L2 Mini
def topS (i : Nat) : Stmt := PySem.Challenge.pw_phasor_k05_ring_division.main.body.getD i (.Pass ⟨0, 0, 0, 0⟩)
def isE (c : Nat) : Bool := decide (c < 2)
def subE (c m : Nat) : Bool := ([[true, false], [true, true]].getD c []).getD m false
section
variable {P : Program} {w : World} {K : PySem.W.Frag} {mg : Str → Option Value} {base : Heap} {ct : Nat → Addr}
abbrev s__law_cell : Stmt := topS 12
theorem sc__law_cell : FnScope ["script", "k"] ["script", "k"] (defScope s__law_cell) := ⟨rfl, rfl, rfl, by decide +kernel, rfl, by decide +kernel, by decide +kernel⟩
noncomputable def F__law_cell : Fn := dDef (fun _ => false) 2 2 (dSeq (dIf (dTru oBool (dBin oLt (fun ρ => look ρ 1) (dBind (fun ρ => look ρ 0) oLen)))
  (dRet (dBind (dBin oIdx (fun ρ => look ρ 0) (fun ρ => look ρ 1)) copyO))
  dSkip)
  (dRet (fun _ => some (.int 0))))
set_option maxHeartbeats 4000000 in
theorem ok__law_cell [TabsI] {f : Addr} {fd : FuncData} (F : Fun K "_law_cell" "_law_cell" s__law_cell f fd) (m_len : mg "len" = none) : FnOk P w K mg base CX0 1 f fd ["script", "k"] (spF ct K 2 F__law_cell) :=
  fd_ok F sc__law_cell fun cdv A outer s H E hr => by
    have nd := sc__law_cell.nd
    have hu := hr.units
    exact (sss_cons (ss_if (st_lt (sx_var 1) (sx_len m_len (sx_var 0)))
  (sss_one (ss_ret (sx_copy (sx_idx (sx_var 0) (sx_var 1)))))
  sss_nil)
  (sss_one (ss_ret sx_int)))
abbrev s__law_part : Stmt := topS 13
theorem sc__law_part : FnScope ["number", "digit"] ["number", "digit"] (defScope s__law_part) := ⟨rfl, rfl, rfl, by decide +kernel, rfl, by decide +kernel, by decide +kernel⟩
noncomputable def F__law_part : Fn := dDef (fun _ => false) 2 2 (dSeq (dIf (dTru oBool (dBin oEq (dBin oMod (dBind (fun ρ => look ρ 1) oInt) (fun _ => some (.int 3))) (fun _ => some (.int 0))))
  (dRetMv 0)
  dSkip)
  (dSeq (dIf (dTru oBool (dBin oEq (dBin oMod (dBind (fun ρ => look ρ 1) oInt) (fun _ => some (.int 3))) (fun _ => some (.int 1))))
  (dRet (dBin oMod (dBind (dBind (fun ρ => look ρ 0) oInt) negO) (fun _ => some (.int 7))))
  dSkip)
  (dRet (dBin oSub (dBin oMod (dBind (fun ρ => look ρ 0) oInt) (fun _ => some (.int 5))) (fun _ => some (.int 2))))))
set_option maxHeartbeats 4000000 in
theorem ok__law_part [TabsI] {f : Addr} {fd : FuncData} (F : Fun K "_law_part" "_law_part" s__law_part f fd) (m_int : mg "int" = none) : FnOk P w K mg base CX0 1 f fd ["number", "digit"] (spF ct K 2 F__law_part) :=
  fd_ok F sc__law_part fun cdv A outer s H E hr => by
    have nd := sc__law_part.nd
    have hu := hr.units
    exact (sss_cons (ss_if (st_eq hu (sx_mod (sx_int1 m_int (sx_var 1)) sx_int) sx_int)
  (sss_one (ss_retmv 0))
  sss_nil)
  (sss_cons (ss_if (st_eq hu (sx_mod (sx_int1 m_int (sx_var 1)) sx_int) sx_int)
  (sss_one (ss_ret (sx_mod (sx_neg (sx_int1 m_int (sx_var 0))) sx_int)))
  sss_nil)
  (sss_one (ss_ret (sx_sub (sx_mod (sx_int1 m_int (sx_var 0)) sx_int) sx_int)))))
abbrev s__law_ring : Stmt := topS 14
theorem sc__law_ring : FnScope ["script", "first", "digit", "parts", "k"] ["script", "first"] (defScope s__law_ring) := ⟨rfl, rfl, rfl, by decide +kernel, rfl, by decide +kernel, by decide +kernel⟩
noncomputable def Bd__law_ring_1 : Mini.Env → Option Mini.Out := (dSeq (dFz 2) (dSeq (dApp 3 (dCall [false, true] F__law_part (dCons (dCall [true, false] F__law_cell (dCons (fun ρ => look ρ 0) (dCons (dBin oAdd (fun ρ => look ρ 1) (fun ρ => look ρ 4)) dNil))) (dCons (fun ρ => look ρ 2) dNil))))
  (dAsg (dBin oDiv (fun ρ => look ρ 2) (fun _ => some (.int 3))) (gSet 2))))
noncomputable def F__law_ring : Fn := dDef (fun _ => false) 2 5 (dSeq (dAsg (dBind (dCall [true, false] F__law_cell (dCons (fun ρ => look ρ 0) (dCons (dBin oAdd (fun ρ => look ρ 1) (fun _ => some (.int 4))) dNil))) oAbs) (gSet 2))
  (dSeq (dAsg (dLst dNil) (gSet 3))
  (dSeq (dFor (dRng1 (fun _ => some (.int 4))) (gSet 4)
  Bd__law_ring_1)
  (dRet (dTup (dCons (dBind (dBin oIdx (fun ρ => look ρ 3) (fun _ => some (.int 0))) copyO) (dCons (dBind (dBin oIdx (fun ρ => look ρ 3) (fun _ => some (.int 1))) copyO) (dCons (dBind (dBin oIdx (fun ρ => look ρ 3) (fun _ => some (.int 2))) copyO) (dCons (dBind (dBin oIdx (fun ρ => look ρ 3) (fun _ => some (.int 3))) copyO) dNil)))))))))
set_option maxHeartbeats 4000000 in
theorem ok__law_ring [TabsI] {f : Addr} {fd : FuncData} (F : Fun K "_law_ring" "_law_ring" s__law_ring f fd) (D__law_cell : FD P w K mg base ct 1 "_law_cell" 2 F__law_cell) (D__law_part : FD P w K mg base ct 1 "_law_part" 2 F__law_part) (m_abs : mg "abs" = none) (m_range : mg "range" = none) : FnOk P w K mg base CX0 2 f fd ["script", "first"] (spF ct K 2 F__law_ring) :=
  fd_ok F sc__law_ring fun cdv A outer s H E hr => by
    have nd := sc__law_ring.nd
    have hu := hr.units
    exact (sss_cons (ss_set 2 nd (sx_abs m_abs (sx_call D__law_cell (hr.mono (by decide)) (sa_cons (sx_var 0) (sa_cons (sx_add (sx_var 1) sx_int) sa_nil)))))
  (sss_cons (ss_set 3 nd (sx_lst sa_nil))
  (sss_cons (ss_for PassesOwn.never rfl (si_rng1 m_range sx_int) (sg_name 4 nd)
  (sss_fz 2 (sss_cons (ss_app 3 (sx_call D__law_part (hr.mono (by decide)) (sa_cons (sx_call D__law_cell (hr.mono (by decide)) (sa_cons (sx_var 0) (sa_cons (sx_add (sx_var 1) (sx_var 4)) sa_nil))) (sa_cons (sx_var 2) sa_nil))))
  (sss_one (ss_set 2 nd (sx_div (sx_var 2) sx_int))))))
  (sss_one (ss_ret (sx_tup (sa_cons (sx_copy (sx_idx (sx_var 3) sx_int)) (sa_cons (sx_copy (sx_idx (sx_var 3) sx_int)) (sa_cons (sx_copy (sx_idx (sx_var 3) sx_int)) (sa_cons (sx_copy (sx_idx (sx_var 3) sx_int)) sa_nil))))))))))
abbrev s__law_mul : Stmt := topS 15
theorem sc__law_mul : FnScope ["x", "y", "parts", "i", "j"] ["x", "y"] (defScope s__law_mul) := ⟨rfl, rfl, rfl, by decide +kernel, rfl, by decide +kernel, by decide +kernel⟩
noncomputable def Bd__law_mul_1 : Mini.Env → Option Mini.Out := (dSetI 2 (dBin oAdd (fun ρ => look ρ 3) (fun ρ => look ρ 4)) (dBin oAdd (dBin oIdx (fun ρ => look ρ 2) (dBin oAdd (fun ρ => look ρ 3) (fun ρ => look ρ 4))) (dBin oMul (dBin oIdx (fun ρ => look ρ 0) (fun ρ => look ρ 3)) (dBin oIdx (fun ρ => look ρ 1) (fun ρ => look ρ 4)))))
noncomputable def Bd__law_mul_2 : Mini.Env → Option Mini.Out := (dFor (dRng1 (fun _ => some (.int 4))) (gSet 4)
  Bd__law_mul_1)
noncomputable def F__law_mul : Fn := dDef (fun _ => false) 2 5 (dSeq (dAsg (dLst (dCons (fun _ => some (.int 0)) (dCons (fun _ => some (.int 0)) (dCons (fun _ => some (.int 0)) (dCons (fun _ => some (.int 0)) (dCons (fun _ => some (.int 0)) (dCons (fun _ => some (.int 0)) (dCons (fun _ => some (.int 0)) dNil)))))))) (gSet 2))
  (dSeq (dFor (dRng1 (fun _ => some (.int 4))) (gSet 3)
  Bd__law_mul_2)
  (dRet (dTup (dCons (dBin oSub (dBin oIdx (fun ρ => look ρ 2) (fun _ => some (.int 0))) (dBin oIdx (fun ρ => look ρ 2) (fun _ => some (.int 4)))) (dCons (dBin oSub (dBin oIdx (fun ρ => look ρ 2) (fun _ => some (.int 1))) (dBin oIdx (fun ρ => look ρ 2) (fun _ => some (.int 5)))) (dCons (dBin oSub (dBin oIdx (fun ρ => look ρ 2) (fun _ => some (.int 2))) (dBin oIdx (fun ρ => look ρ 2) (fun _ => some (.int 6)))) (dCons (dBind (dBin oIdx (fun ρ => look ρ 2) (fun _ => some (.int 3))) copyO) dNil))))))))
set_option maxHeartbeats 4000000 in
theorem ok__law_mul [TabsI] {f : Addr} {fd : FuncData} (F : Fun K "_law_mul" "_law_mul" s__law_mul f fd) (m_range : mg "range" = none) : FnOk P w K mg base CX0 1 f fd ["x", "y"] (spF ct K 2 F__law_mul) :=
  fd_ok F sc__law_mul fun cdv A outer s H E hr => by
    have nd := sc__law_mul.nd
    have hu := hr.units
    exact (sss_cons (ss_set 2 nd (sx_lst (sa_cons sx_int (sa_cons sx_int (sa_cons sx_int (sa_cons sx_int (sa_cons sx_int (sa_cons sx_int (sa_cons sx_int sa_nil)))))))))
  (sss_cons (ss_for PassesOwn.never rfl (si_rng1 m_range sx_int) (sg_name 3 nd)
  (sss_one (ss_for PassesOwn.never rfl (si_rng1 m_range sx_int) (sg_name 4 nd)
  (sss_one (ss_seti 2 (sx_add (sx_idx (sx_var 2) (sx_add (sx_var 3) (sx_var 4))) (sx_mul (sx_idx (sx_var 0) (sx_var 3)) (sx_idx (sx_var 1) (sx_var 4)))) (sx_add (sx_var 3) (sx_var 4)))))))
  (sss_one (ss_ret (sx_tup (sa_cons (sx_sub (sx_idx (sx_var 2) sx_int) (sx_idx (sx_var 2) sx_int)) (sa_cons (sx_sub (sx_idx (sx_var 2) sx_int) (sx_idx (sx_var 2) sx_int)) (sa_cons (sx_sub (sx_idx (sx_var 2) sx_int) (sx_idx (sx_var 2) sx_int)) (sa_cons (sx_copy (sx_idx (sx_var 2) sx_int)) sa_nil)))))))))
abbrev s_ring_abs_square : Stmt := topS 6
theorem sc_ring_abs_square : FnScope ["x", "a", "b", "c", "d"] ["x"] (defScope s_ring_abs_square) := ⟨rfl, rfl, rfl, by decide +kernel, rfl, by decide +kernel, by decide +kernel⟩
noncomputable def F_ring_abs_square : Fn := dDef (fun _ => false) 1 5 (dSeq (dFz 0) (dSeq (dAsg (dBind (fun ρ => look ρ 0) copyO) (gTupO 4 (gsCons (gSet 1) (gsCons (gSet 2) (gsCons (gSet 3) (gsCons (gSet 4) gsNil))))))
  (dRet (dTup (dCons (dBin oAdd (dBin oAdd (dBin oAdd (dBin oMul (fun ρ => look ρ 1) (fun ρ => look ρ 1)) (dBin oMul (fun ρ => look ρ 2) (fun ρ => look ρ 2))) (dBin oMul (fun ρ => look ρ 3) (fun ρ => look ρ 3))) (dBin oMul (fun ρ => look ρ 4) (fun ρ => look ρ 4))) (dCons (dBin oSub (dBin oAdd (dBin oAdd (dBin oMul (fun ρ => look ρ 1) (fun ρ => look ρ 2)) (dBin oMul (fun ρ => look ρ 2) (fun ρ => look ρ 3))) (dBin oMul (fun ρ => look ρ 3) (fun ρ => look ρ 4))) (dBin oMul (fun ρ => look ρ 4) (fun ρ => look ρ 1))) dNil))))))
set_option maxHeartbeats 4000000 in
theorem ok_ring_abs_square [TabsI] {f : Addr} {fd : FuncData} (F : Fun K "ring_abs_square" "ring_abs_square" s_ring_abs_square f fd) : FnOk P w K mg base CX0 1 f fd ["x"] (spF ct K 1 F_ring_abs_square) :=
  fd_ok F sc_ring_abs_square fun cdv A outer s H E hr => by
    have nd := sc_ring_abs_square.nd
    have hu := hr.units
    exact (sss_fz 0 (sss_cons (ss_asg (sx_copy (sx_var 0)) (sg_tup rfl (sgs_cons (sg_name 1 nd) (sgs_cons (sg_name 2 nd) (sgs_cons (sg_name 3 nd) (sgs_cons (sg_name 4 nd) sgs_nil))))))
  (sss_one (ss_ret (sx_tup (sa_cons (sx_add (sx_add (sx_add (sx_mul (sx_var 1) (sx_var 1)) (sx_mul (sx_var 2) (sx_var 2))) (sx_mul (sx_var 3) (sx_var 3))) (sx_mul (sx_var 4) (sx_var 4))) (sa_cons (sx_sub (sx_add (sx_add (sx_mul (sx_var 1) (sx_var 2)) (sx_mul (sx_var 2) (sx_var 3))) (sx_mul (sx_var 3) (sx_var 4))) (sx_mul (sx_var 4) (sx_var 1))) sa_nil)))))))
abbrev s_ring_norm : Stmt := topS 7
theorem sc_ring_norm : FnScope ["x", "u", "v"] ["x"] (defScope s_ring_norm) := ⟨rfl, rfl, rfl, by decide +kernel, rfl, by decide +kernel, by decide +kernel⟩
noncomputable def F_ring_norm : Fn := dDef (fun _ => false) 1 3 (dSeq (dAsg (dCall [true] F_ring_abs_square (dCons (fun ρ => look ρ 0) dNil)) (gTupO 2 (gsCons (gSet 1) (gsCons (gSet 2) gsNil))))
  (dRet (dBin oSub (dBin oMul (fun ρ => look ρ 1) (fun ρ => look ρ 1)) (dBin oMul (dBin oMul (fun _ => some (.int 2)) (fun ρ => look ρ 2)) (fun ρ => look ρ 2)))))
set_option maxHeartbeats 4000000 in
theorem ok_ring_norm [TabsI] {f : Addr} {fd : FuncData} (F : Fun K "ring_norm" "ring_norm" s_ring_norm f fd) (D_ring_abs_square : FD P w K mg base ct 1 "ring_abs_square" 1 F_ring_abs_square) : FnOk P w K mg base CX0 2 f fd ["x"] (spF ct K 1 F_ring_norm) :=
  fd_ok F sc_ring_norm fun cdv A outer s H E hr => by
    have nd := sc_ring_norm.nd
    have hu := hr.units
    exact (sss_cons (ss_asg (sx_call D_ring_abs_square (hr.mono (by decide)) (sa_cons (sx_var 0) sa_nil)) (sg_tup rfl (sgs_cons (sg_name 1 nd) (sgs_cons (sg_name 2 nd) sgs_nil))))
  (sss_one (ss_ret (sx_sub (sx_mul (sx_var 1) (sx_var 1)) (sx_mul (sx_mul sx_int (sx_var 2)) (sx_var 2))))))
abbrev s_ring_mul : Stmt := topS 4
theorem sc_ring_mul : FnScope ["x", "y", "a", "b", "c", "d", "e", "f", "g", "h"] ["x", "y"] (defScope s_ring_mul) := ⟨rfl, rfl, rfl, by decide +kernel, rfl, by decide +kernel, by decide +kernel⟩
noncomputable def F_ring_mul : Fn := dDef (fun _ => false) 2 10 (dSeq (dFz 0) (dSeq (dAsg (dBind (fun ρ => look ρ 0) copyO) (gTupO 4 (gsCons (gSet 2) (gsCons (gSet 3) (gsCons (gSet 4) (gsCons (gSet 5) gsNil))))))
  (dSeq (dFz 1) (dSeq (dAsg (dBind (fun ρ => look ρ 1) copyO) (gTupO 4 (gsCons (gSet 6) (gsCons (gSet 7) (gsCons (gSet 8) (gsCons (gSet 9) gsNil))))))
  (dRet (dTup (dCons (dBin oSub (dBin oSub (dBin oSub (dBin oMul (fun ρ => look ρ 2) (fun ρ => look ρ 6)) (dBin oMul (fun ρ => look ρ 3) (fun ρ => look ρ 9))) (dBin oMul (fun ρ => look ρ 4) (fun ρ => look ρ 8))) (dBin oMul (fun ρ => look ρ 5) (fun ρ => look ρ 7))) (dCons (dBin oSub (dBin oSub (dBin oAdd (dBin oMul (fun ρ => look ρ 2) (fun ρ => look ρ 7)) (dBin oMul (fun ρ => look ρ 3) (fun ρ => look ρ 6))) (dBin oMul (fun ρ => look ρ 4) (fun ρ => look ρ 9))) (dBin oMul (fun ρ => look ρ 5) (fun ρ => look ρ 8))) (dCons (dBin oSub (dBin oAdd (dBin oAdd (dBin oMul (fun ρ => look ρ 2) (fun ρ => look ρ 8)) (dBin oMul (fun ρ => look ρ 3) (fun ρ => look ρ 7))) (dBin oMul (fun ρ => look ρ 4) (fun ρ => look ρ 6))) (dBin oMul (fun ρ => look ρ 5) (fun ρ => look ρ 9))) (dCons (dBin oAdd (dBin oAdd (dBin oAdd (dBin oMul (fun ρ => look ρ 2) (fun ρ => look ρ 9)) (dBin oMul (fun ρ => look ρ 3) (fun ρ => look ρ 8))) (dBin oMul (fun ρ => look ρ 4) (fun ρ => look ρ 7))) (dBin oMul (fun ρ => look ρ 5) (fun ρ => look ρ 6))) dNil))))))))))
set_option maxHeartbeats 4000000 in
theorem ok_ring_mul [TabsI] {f : Addr} {fd : FuncData} (F : Fun K "ring_mul" "ring_mul" s_ring_mul f fd) : FnOk P w K mg base CX0 1 f fd ["x", "y"] (spF ct K 2 F_ring_mul) :=
  fd_ok F sc_ring_mul fun cdv A outer s H E hr => by
    have nd := sc_ring_mul.nd
    have hu := hr.units
    exact (sss_fz 0 (sss_cons (ss_asg (sx_copy (sx_var 0)) (sg_tup rfl (sgs_cons (sg_name 2 nd) (sgs_cons (sg_name 3 nd) (sgs_cons (sg_name 4 nd) (sgs_cons (sg_name 5 nd) sgs_nil))))))
  (sss_fz 1 (sss_cons (ss_asg (sx_copy (sx_var 1)) (sg_tup rfl (sgs_cons (sg_name 6 nd) (sgs_cons (sg_name 7 nd) (sgs_cons (sg_name 8 nd) (sgs_cons (sg_name 9 nd) sgs_nil))))))
  (sss_one (ss_ret (sx_tup (sa_cons (sx_sub (sx_sub (sx_sub (sx_mul (sx_var 2) (sx_var 6)) (sx_mul (sx_var 3) (sx_var 9))) (sx_mul (sx_var 4) (sx_var 8))) (sx_mul (sx_var 5) (sx_var 7))) (sa_cons (sx_sub (sx_sub (sx_add (sx_mul (sx_var 2) (sx_var 7)) (sx_mul (sx_var 3) (sx_var 6))) (sx_mul (sx_var 4) (sx_var 9))) (sx_mul (sx_var 5) (sx_var 8))) (sa_cons (sx_sub (sx_add (sx_add (sx_mul (sx_var 2) (sx_var 8)) (sx_mul (sx_var 3) (sx_var 7))) (sx_mul (sx_var 4) (sx_var 6))) (sx_mul (sx_var 5) (sx_var 9))) (sa_cons (sx_add (sx_add (sx_add (sx_mul (sx_var 2) (sx_var 9)) (sx_mul (sx_var 3) (sx_var 8))) (sx_mul (sx_var 4) (sx_var 7))) (sx_mul (sx_var 5) (sx_var 6))) sa_nil)))))))))))
abbrev s_ring_conjugate : Stmt := topS 5
theorem sc_ring_conjugate : FnScope ["x"] ["x"] (defScope s_ring_conjugate) := ⟨rfl, rfl, rfl, by decide +kernel, rfl, by decide +kernel, by decide +kernel⟩
noncomputable def F_ring_conjugate : Fn := dDef (fun _ => false) 1 1 (dRet (dTup (dCons (dBind (dBin oIdx (fun ρ => look ρ 0) (fun _ => some (.int 0))) copyO) (dCons (dBind (dBin oIdx (fun ρ => look ρ 0) (fun _ => some (.int 3))) negO) (dCons (dBind (dBin oIdx (fun ρ => look ρ 0) (fun _ => some (.int 2))) negO) (dCons (dBind (dBin oIdx (fun ρ => look ρ 0) (fun _ => some (.int 1))) negO) dNil))))))
set_option maxHeartbeats 4000000 in
theorem ok_ring_conjugate [TabsI] {f : Addr} {fd : FuncData} (F : Fun K "ring_conjugate" "ring_conjugate" s_ring_conjugate f fd) : FnOk P w K mg base CX0 1 f fd ["x"] (spF ct K 1 F_ring_conjugate) :=
  fd_ok F sc_ring_conjugate fun cdv A outer s H E hr => by
    have nd := sc_ring_conjugate.nd
    have hu := hr.units
    exact (sss_one (ss_ret (sx_tup (sa_cons (sx_copy (sx_idx (sx_var 0) sx_int)) (sa_cons (sx_neg (sx_idx (sx_var 0) sx_int)) (sa_cons (sx_neg (sx_idx (sx_var 0) sx_int)) (sa_cons (sx_neg (sx_idx (sx_var 0) sx_int)) sa_nil)))))))
abbrev s__root_conjugate : Stmt := topS 9
theorem sc__root_conjugate : FnScope ["pair", "u", "v"] ["pair"] (defScope s__root_conjugate) := ⟨rfl, rfl, rfl, by decide +kernel, rfl, by decide +kernel, by decide +kernel⟩
noncomputable def F__root_conjugate : Fn := dDef (fun _ => false) 1 3 (dSeq (dFz 0) (dSeq (dAsg (dBind (fun ρ => look ρ 0) copyO) (gTupO 2 (gsCons (gSet 1) (gsCons (gSet 2) gsNil))))
  (dRet (dTup (dCons (dBind (fun ρ => look ρ 1) copyO) (dCons (dBind (fun ρ => look ρ 2) negO) (dCons (fun _ => some (.int 0)) (dCons (dBind (fun ρ => look ρ 2) copyO) dNil))))))))
set_option maxHeartbeats 4000000 in
theorem ok__root_conjugate [TabsI] {f : Addr} {fd : FuncData} (F : Fun K "_root_conjugate" "_root_conjugate" s__root_conjugate f fd) : FnOk P w K mg base CX0 1 f fd ["pair"] (spF ct K 1 F__root_conjugate) :=
  fd_ok F sc__root_conjugate fun cdv A outer s H E hr => by
    have nd := sc__root_conjugate.nd
    have hu := hr.units
    exact (sss_fz 0 (sss_cons (ss_asg (sx_copy (sx_var 0)) (sg_tup rfl (sgs_cons (sg_name 1 nd) (sgs_cons (sg_name 2 nd) sgs_nil))))
  (sss_one (ss_ret (sx_tup (sa_cons (sx_copy (sx_var 1)) (sa_cons (sx_neg (sx_var 2)) (sa_cons sx_int (sa_cons (sx_copy (sx_var 2)) sa_nil)))))))))
abbrev s_ring_divide : Stmt := topS 8
theorem sc_ring_divide : FnScope ["x", "y", "norm", "factor", "product", "part", "a", "b", "c", "d"] ["x", "y"] (defScope s_ring_divide) := ⟨rfl, rfl, rfl, by decide +kernel, rfl, by decide +kernel, by decide +kernel⟩
noncomputable def Bd_ring_divide_1 : Mini.Env → Option Mini.Out := (dIf (dTru oBool (dBin oNe (dBin oMod (fun ρ => look ρ 5) (fun ρ => look ρ 2)) (fun _ => some (.int 0))))
  (fun ρ => some (.er 1 ρ))
  dSkip)
noncomputable def F_ring_divide : FnX := dDefX (fun _ => false) 2 10 (dSeq (dAsg (dCall [true] F_ring_norm (dCons (fun ρ => look ρ 1) dNil)) (gSet 2))
  (dSeq (dIf (dTru oBool (dBin oEq (fun ρ => look ρ 2) (fun _ => some (.int 0))))
  (fun ρ => some (.er 1 ρ))
  dSkip)
  (dSeq (dAsg (dCall [false, false] F_ring_mul (dCons (dCall [true] F_ring_conjugate (dCons (fun ρ => look ρ 1) dNil)) (dCons (dCall [false] F__root_conjugate (dCons (dCall [true] F_ring_abs_square (dCons (fun ρ => look ρ 1) dNil)) dNil)) dNil))) (gSet 3))
  (dSeq (dFz 3) (dSeq (dAsg (dCall [true, true] F_ring_mul (dCons (fun ρ => look ρ 0) (dCons (fun ρ => look ρ 3) dNil))) (gSet 4))
  (dSeq (dFz 4) (dSeq (dFor (dIt true (fun ρ => look ρ 4)) (gSet 5)
  Bd_ring_divide_1)
  (dSeq (dFz 4) (dSeq (dAsg (dBind (fun ρ => look ρ 4) copyO) (gTupO 4 (gsCons (gSet 6) (gsCons (gSet 7) (gsCons (gSet 8) (gsCons (gSet 9) gsNil))))))
  (dRet (dTup (dCons (dBin oDivP (fun ρ => look ρ 6) (fun ρ => look ρ 2)) (dCons (dBin oDivP (fun ρ => look ρ 7) (fun ρ => look ρ 2)) (dCons (dBin oDivP (fun ρ => look ρ 8) (fun ρ => look ρ 2)) (dCons (dBin oDivP (fun ρ => look ρ 9) (fun ρ => look ρ 2)) dNil)))))))))))))))
set_option maxHeartbeats 4000000 in
theorem ok_ring_divide [TabsI] {f : Addr} {fd : FuncData} (F : Fun K "ring_divide" "ring_divide" s_ring_divide f fd) (D_ring_norm : FD P w K mg base ct 2 "ring_norm" 1 F_ring_norm) (D_ring_mul : FD P w K mg base ct 1 "ring_mul" 2 F_ring_mul) (D_ring_conjugate : FD P w K mg base ct 1 "ring_conjugate" 1 F_ring_conjugate) (D__root_conjugate : FD P w K mg base ct 1 "_root_conjugate" 1 F__root_conjugate) (D_ring_abs_square : FD P w K mg base ct 1 "ring_abs_square" 1 F_ring_abs_square) (E_PhasorError : EC K mg ct 0 "PhasorError") (xn_PhasorError : mg "PhasorError" = some (.ref (ct 0))) (E_NotDivisible : EC K mg ct 1 "NotDivisible") (xn_NotDivisible : mg "NotDivisible" = some (.ref (ct 1))) (T_exm : ∀ c m, isE c = true → isE m = true → PySem.W.exmOne K (.ref (ct c)) (.ref (ct m)) = some (subE c m)) (T_C : ∀ c, isE c = true → ExcC K (ct c)) (T_kit : ∀ c m, isE c = true → isE m = true → PySem.W.kitOne K (.ref (ct c)) (.ref (ct m)) = some (subE c m)) (hNS : base.NoSeer) (hGT : P.given.tree = none) : FnOk P w K mg base (L2.CX P w) 33 f fd ["x", "y"] (spX ct K 2 F_ring_divide) :=
  fdx_ok F sc_ring_divide fun cdv A outer s H E hr => by
    have nd := sc_ring_divide.nd
    have hu := hr.units
    exact (sss_cons (ss_set 2 nd (sx_call D_ring_norm (hr.mono (by decide)) (sa_cons (sx_var 1) sa_nil)))
  (sss_cons (ss_if (st_eq hu (sx_var 2) sx_int)
  (sss_one (ss_raise 1 rfl (takes_of rfl rfl rfl rfl) E_NotDivisible))
  sss_nil)
  (sss_cons (ss_set 3 nd (sx_call D_ring_mul (hr.mono (by decide)) (sa_cons (sx_call D_ring_conjugate (hr.mono (by decide)) (sa_cons (sx_var 1) sa_nil)) (sa_cons (sx_call D__root_conjugate (hr.mono (by decide)) (sa_cons (sx_call D_ring_abs_square (hr.mono (by decide)) (sa_cons (sx_var 1) sa_nil)) sa_nil)) sa_nil))))
  (sss_fz 3 (sss_cons (ss_set 4 nd (sx_call D_ring_mul (hr.mono (by decide)) (sa_cons (sx_var 0) (sa_cons (sx_var 3) sa_nil))))
  (sss_fz 4 (sss_cons (ss_for (passes_of rfl) rfl (si_seq (sx_var 4)) (sg_name 5 nd)
  (sss_one (ss_if (st_ne hu (sx_mod (sx_var 5) (sx_var 2)) sx_int)
  (sss_one (ss_raise 1 rfl (takes_of rfl rfl rfl rfl) E_NotDivisible))
  sss_nil)))
  (sss_fz 4 (sss_cons (ss_asg (sx_copy (sx_var 4)) (sg_tup rfl (sgs_cons (sg_name 6 nd) (sgs_cons (sg_name 7 nd) (sgs_cons (sg_name 8 nd) (sgs_cons (sg_name 9 nd) sgs_nil))))))
  (sss_one (ss_ret (sx_tup (sa_cons (sx_divP hNS hGT (hr.mono (show 32 ≤ _ by decide)) (sx_var 6) (sx_var 2)) (sa_cons (sx_divP hNS hGT (hr.mono (show 32 ≤ _ by decide)) (sx_var 7) (sx_var 2)) (sa_cons (sx_divP hNS hGT (hr.mono (show 32 ≤ _ by decide)) (sx_var 8) (sx_var 2)) (sa_cons (sx_divP hNS hGT (hr.mono (show 32 ≤ _ by decide)) (sx_var 9) (sx_var 2)) sa_nil))))))))))))))))
abbrev s__law_is_integer : Stmt := topS 11
theorem sc__law_is_integer : FnScope ["actual"] ["actual"] (defScope s__law_is_integer) := ⟨rfl, rfl, rfl, by decide +kernel, rfl, by decide +kernel, by decide +kernel⟩
noncomputable def F__law_is_integer : Fn := dDef (fun _ => false) 1 1 (dRet (vAnd (dBind (fun ρ => look ρ 0) (oIsi "int")) (dBind (dBind (fun ρ => look ρ 0) (oIsi "bool")) oNot)))
set_option maxHeartbeats 4000000 in
theorem ok__law_is_integer [TabsI] {f : Addr} {fd : FuncData} (F : Fun K "_law_is_integer" "_law_is_integer" s__law_is_integer f fd) (m_isinstance : mg "isinstance" = none) (m_bool : mg "bool" = none) (m_int : mg "int" = none) : FnOk P w K mg base CX0 1 f fd ["actual"] (spF ct K 1 F__law_is_integer) :=
  fd_ok F sc__law_is_integer fun cdv A outer s H E hr => by
    have nd := sc__law_is_integer.nd
    have hu := hr.units
    exact (sss_one (ss_ret (sx_and (sx_isi (T := "int") m_isinstance m_int (by decide +kernel) (sx_var 0)) (sx_one (sx_not (sx_isi (T := "bool") m_isinstance m_bool (by decide +kernel) (sx_var 0)))))))
abbrev s__law_is_ring : Stmt := topS 16
theorem sc__law_is_ring : FnScope ["actual", "part"] ["actual"] (defScope s__law_is_ring) := ⟨rfl, rfl, rfl, by decide +kernel, rfl, by decide +kernel, by decide +kernel⟩
noncomputable def Bd__law_is_ring_1 : Mini.Env → Option Mini.Out := (dIf (bNot (dTru oTru (dCall [true] F__law_is_integer (dCons (fun ρ => look ρ 1) dNil))))
  (dRet (fun _ => some (.bl false)))
  dSkip)
noncomputable def F__law_is_ring : Fn := dDef (fun _ => false) 1 2 (dSeq (dIf (bOr (bNot (dTru oTru (dBind (fun ρ => look ρ 0) (oIsi "tuple")))) (dTru oBool (dBin oNe (dBind (fun ρ => look ρ 0) oLen) (fun _ => some (.int 4)))))
  (dRet (fun _ => some (.bl false)))
  dSkip)
  (dSeq (dFz 0) (dSeq (dFor (dIt true (fun ρ => look ρ 0)) (gSet 1)
  Bd__law_is_ring_1)
  (dRet (fun _ => some (.bl true))))))
set_option maxHeartbeats 4000000 in
theorem ok__law_is_ring [TabsI] {f : Addr} {fd : FuncData} (F : Fun K "_law_is_ring" "_law_is_ring" s__law_is_ring f fd) (D__law_is_integer : FD P w K mg base ct 1 "_law_is_integer" 1 F__law_is_integer) (m_len : mg "len" = none) (m_isinstance : mg "isinstance" = none) (m_tuple : mg "tuple" = none) : FnOk P w K mg base CX0 2 f fd ["actual"] (spF ct K 1 F__law_is_ring) :=
  fd_ok F sc__law_is_ring fun cdv A outer s H E hr => by
    have nd := sc__law_is_ring.nd
    have hu := hr.units
    exact (sss_cons (ss_if (st_bool (sw_or (st_not (st_tru (sx_isi (T := "tuple") m_isinstance m_tuple (by decide +kernel) (sx_var 0)))) (sw_or1 (st_ne hu (sx_len m_len (sx_var 0)) sx_int))))
  (sss_one (ss_ret sx_bl))
  sss_nil)
  (sss_fz 0 (sss_cons (ss_for PassesOwn.never rfl (si_seq (sx_var 0)) (sg_name 1 nd)
  (sss_one (ss_if (st_not (st_tru (sx_call D__law_is_integer (hr.mono (by decide)) (sa_cons (sx_var 1) sa_nil))))
  (sss_one (ss_ret sx_bl))
  sss_nil)))
  (sss_one (ss_ret sx_bl)))))
abbrev s_law : Stmt := topS 17
theorem sc_law : FnScope ["script", "y", "x", "mirrored", "square", "raised", "norm", "whole", "part", "quotient", "e"] ["script"] (defScope s_law) := ⟨rfl, rfl, rfl, by decide +kernel, rfl, by decide +kernel, by decide +kernel⟩
noncomputable def Bd_law_1 : Mini.Env → Option Mini.Out := (dIf (bAnd (dTru oBool (dBin oNe (fun ρ => look ρ 6) (fun _ => some (.int 0)))) (dTru oBool (dBin oNe (dBin oSub (fun ρ => look ρ 8) (dBin oMul (fun ρ => look ρ 6) (dBin oDivP (fun ρ => look ρ 8) (fun ρ => look ρ 6)))) (fun _ => some (.int 0)))))
  (dAsg (fun _ => some (.bl false)) (gSet 7))
  dSkip)
noncomputable def F_law : Fn := dDef (fun _ => false) 1 11 (dSeq (dAsg (dCall [true, false] F__law_ring (dCons (fun ρ => look ρ 0) (dCons (fun _ => some (.int 0)) dNil))) (gSet 1))
  (dSeq (dIf (dTru oBool (dBin oEq (dBin oMod (dCall [true, false] F__law_cell (dCons (fun ρ => look ρ 0) (dCons (fun _ => some (.int 10)) dNil))) (fun _ => some (.int 7))) (fun _ => some (.int 3))))
  (dAsg (dTup (dCons (fun _ => some (.int 0)) (dCons (fun _ => some (.int 0)) (dCons (fun _ => some (.int 0)) (dCons (fun _ => some (.int 0)) dNil))))) (gSet 1))
  dSkip)
  (dSeq (dFz 1) (dSeq (dAsg (dCall [true, false] F__law_mul (dCons (fun ρ => look ρ 1) (dCons (dCall [true, false] F__law_ring (dCons (fun ρ => look ρ 0) (dCons (fun _ => some (.int 5)) dNil))) dNil))) (gSet 2))
  (dSeq (dIf (dTru oBool (dBin oEq (dBin oMod (dCall [true, false] F__law_cell (dCons (fun ρ => look ρ 0) (dCons (fun _ => some (.int 10)) dNil))) (fun _ => some (.int 2))) (fun _ => some (.int 1))))
  (dAsg (dTup (dCons (dBin oAdd (dBin oIdx (fun ρ => look ρ 2) (fun _ => some (.int 0))) (dBin oMod (dBind (dBin oDiv (dCall [true, false] F__law_cell (dCons (fun ρ => look ρ 0) (dCons (fun _ => some (.int 10)) dNil))) (fun _ => some (.int 2))) oInt) (fun _ => some (.int 5)))) (dCons (dBin oAdd (dBin oIdx (fun ρ => look ρ 2) (fun _ => some (.int 1))) (dBin oMod (dBind (dBin oDiv (dCall [true, false] F__law_cell (dCons (fun ρ => look ρ 0) (dCons (fun _ => some (.int 10)) dNil))) (fun _ => some (.int 10))) oInt) (fun _ => some (.int 3)))) (dCons (dBind (dBin oIdx (fun ρ => look ρ 2) (fun _ => some (.int 2))) copyO) (dCons (dBind (dBin oIdx (fun ρ => look ρ 2) (fun _ => some (.int 3))) copyO) dNil))))) (gSet 2))
  dSkip)
  (dSeq (dAsg (dTup (dCons (dBind (dBin oIdx (fun ρ => look ρ 1) (fun _ => some (.int 0))) copyO) (dCons (dBind (dBin oIdx (fun ρ => look ρ 1) (fun _ => some (.int 3))) negO) (dCons (dBind (dBin oIdx (fun ρ => look ρ 1) (fun _ => some (.int 2))) negO) (dCons (dBind (dBin oIdx (fun ρ => look ρ 1) (fun _ => some (.int 1))) negO) dNil))))) (gSet 3))
  (dSeq (dFz 1) (dSeq (dAsg (dCall [true, true] F__law_mul (dCons (fun ρ => look ρ 1) (dCons (fun ρ => look ρ 3) dNil))) (gSet 4))
  (dSeq (dFz 2) (dSeq (dAsg (dCall [false, false] F__law_mul (dCons (dCall [true, true] F__law_mul (dCons (fun ρ => look ρ 2) (dCons (fun ρ => look ρ 3) dNil))) (dCons (dTup (dCons (dBind (dBin oIdx (fun ρ => look ρ 4) (fun _ => some (.int 0))) copyO) (dCons (dBind (dBin oIdx (fun ρ => look ρ 4) (fun _ => some (.int 1))) negO) (dCons (fun _ => some (.int 0)) (dCons (dBind (dBin oIdx (fun ρ => look ρ 4) (fun _ => some (.int 1))) copyO) dNil))))) dNil))) (gSet 5))
  (dSeq (dAsg (dBin oSub (dBin oMul (dBin oIdx (fun ρ => look ρ 4) (fun _ => some (.int 0))) (dBin oIdx (fun ρ => look ρ 4) (fun _ => some (.int 0)))) (dBin oMul (dBin oMul (fun _ => some (.int 2)) (dBin oIdx (fun ρ => look ρ 4) (fun _ => some (.int 1)))) (dBin oIdx (fun ρ => look ρ 4) (fun _ => some (.int 1))))) (gSet 6))
  (dSeq (dAsg (dBin oNe (fun ρ => look ρ 6) (fun _ => some (.int 0))) (gSet 7))
  (dSeq (dFz 5) (dSeq (dFor (dIt true (fun ρ => look ρ 5)) (gSet 8)
  Bd_law_1)
  (dSeq (dTry isE (fun c => subE c 0) 10
  (dSeq (dFz 2) (dSeq (dFz 1) (dAsgR (dCallX [true, true] F_ring_divide (dCons (fun ρ => look ρ 2) (dCons (fun ρ => look ρ 1) dNil))) (gSet 9))))
  (fun c a => (dRet (vAnd (dIsE 10 a (subE c 1)) (dBind (fun ρ => look ρ 7) oNot)))))
  (dSeq (dFz 9) (dSeq (dFz 1) (dRet (vAnd (fun ρ => look ρ 7) (vAnd (dCall [true] F__law_is_ring (dCons (fun ρ => look ρ 9) dNil)) (dBin oEq (dCall [true, true] F__law_mul (dCons (fun ρ => look ρ 9) (dCons (fun ρ => look ρ 1) dNil))) (fun ρ => look ρ 2))))))))))))))))))))))
set_option maxHeartbeats 4000000 in
theorem ok_law [TabsI] {f : Addr} {fd : FuncData} (F : Fun K "law" "law" s_law f fd) (D__law_ring : FD P w K mg base ct 2 "_law_ring" 2 F__law_ring) (D__law_cell : FD P w K mg base ct 1 "_law_cell" 2 F__law_cell) (D__law_mul : FD P w K mg base ct 1 "_law_mul" 2 F__law_mul) (D_ring_divide : FDX P w K mg base ct 33 "ring_divide" 2 F_ring_divide) (D__law_is_ring : FD P w K mg base ct 2 "_law_is_ring" 1 F__law_is_ring) (m_int : mg "int" = none) (m_isinstance : mg "isinstance" = none) (E_PhasorError : EC K mg ct 0 "PhasorError") (xn_PhasorError : mg "PhasorError" = some (.ref (ct 0))) (E_NotDivisible : EC K mg ct 1 "NotDivisible") (xn_NotDivisible : mg "NotDivisible" = some (.ref (ct 1))) (T_exm : ∀ c m, isE c = true → isE m = true → PySem.W.exmOne K (.ref (ct c)) (.ref (ct m)) = some (subE c m)) (T_C : ∀ c, isE c = true → ExcC K (ct c)) (T_kit : ∀ c m, isE c = true → isE m = true → PySem.W.kitOne K (.ref (ct c)) (.ref (ct m)) = some (subE c m)) (hNS : base.NoSeer) (hGT : P.given.tree = none) : FnOk P w K mg base CX0 34 f fd ["script"] (spF ct K 1 F_law) :=
  fd_ok F sc_law fun cdv A outer s H E hr => by
    have nd := sc_law.nd
    have hu := hr.units
    exact (sss_cons (ss_set 1 nd (sx_call D__law_ring (hr.mono (by decide)) (sa_cons (sx_var 0) (sa_cons sx_int sa_nil))))
  (sss_cons (ss_if (st_eq hu (sx_mod (sx_call D__law_cell (hr.mono (by decide)) (sa_cons (sx_var 0) (sa_cons sx_int sa_nil))) sx_int) sx_int)
  (sss_one (ss_set 1 nd (sx_tup (sa_cons sx_int (sa_cons sx_int (sa_cons sx_int (sa_cons sx_int sa_nil)))))))
  sss_nil)
  (sss_fz 1 (sss_cons (ss_set 2 nd (sx_call D__law_mul (hr.mono (by decide)) (sa_cons (sx_var 1) (sa_cons (sx_call D__law_ring (hr.mono (by decide)) (sa_cons (sx_var 0) (sa_cons sx_int sa_nil))) sa_nil))))
  (sss_cons (ss_if (st_eq hu (sx_mod (sx_call D__law_cell (hr.mono (by decide)) (sa_cons (sx_var 0) (sa_cons sx_int sa_nil))) sx_int) sx_int)
  (sss_one (ss_set 2 nd (sx_tup (sa_cons (sx_add (sx_idx (sx_var 2) sx_int) (sx_mod (sx_int1 m_int (sx_div (sx_call D__law_cell (hr.mono (by decide)) (sa_cons (sx_var 0) (sa_cons sx_int sa_nil))) sx_int)) sx_int)) (sa_cons (sx_add (sx_idx (sx_var 2) sx_int) (sx_mod (sx_int1 m_int (sx_div (sx_call D__law_cell (hr.mono (by decide)) (sa_cons (sx_var 0) (sa_cons sx_int sa_nil))) sx_int)) sx_int)) (sa_cons (sx_copy (sx_idx (sx_var 2) sx_int)) (sa_cons (sx_copy (sx_idx (sx_var 2) sx_int)) sa_nil)))))))
  sss_nil)
  (sss_cons (ss_set 3 nd (sx_tup (sa_cons (sx_copy (sx_idx (sx_var 1) sx_int)) (sa_cons (sx_neg (sx_idx (sx_var 1) sx_int)) (sa_cons (sx_neg (sx_idx (sx_var 1) sx_int)) (sa_cons (sx_neg (sx_idx (sx_var 1) sx_int)) sa_nil))))))
  (sss_fz 1 (sss_cons (ss_set 4 nd (sx_call D__law_mul (hr.mono (by decide)) (sa_cons (sx_var 1) (sa_cons (sx_var 3) sa_nil))))
  (sss_fz 2 (sss_cons (ss_set 5 nd (sx_call D__law_mul (hr.mono (by decide)) (sa_cons (sx_call D__law_mul (hr.mono (by decide)) (sa_cons (sx_var 2) (sa_cons (sx_var 3) sa_nil))) (sa_cons (sx_tup (sa_cons (sx_copy (sx_idx (sx_var 4) sx_int)) (sa_cons (sx_neg (sx_idx (sx_var 4) sx_int)) (sa_cons sx_int (sa_cons (sx_copy (sx_idx (sx_var 4) sx_int)) sa_nil))))) sa_nil))))
  (sss_cons (ss_set 6 nd (sx_sub (sx_mul (sx_idx (sx_var 4) sx_int) (sx_idx (sx_var 4) sx_int)) (sx_mul (sx_mul sx_int (sx_idx (sx_var 4) sx_int)) (sx_idx (sx_var 4) sx_int))))
  (sss_cons (ss_set 7 nd (sx_ne hu (sx_var 6) sx_int))
  (sss_fz 5 (sss_cons (ss_for PassesOwn.never rfl (si_seq (sx_var 5)) (sg_name 8 nd)
  (sss_one (ss_if (st_bool (sw_and (st_ne hu (sx_var 6) sx_int) (sw_and1 (st_ne hu (sx_sub (sx_var 8) (sx_mul (sx_var 6) (sx_divP hNS hGT (hr.mono (show 32 ≤ _ by decide)) (sx_var 8) (sx_var 6)))) sx_int))))
  (sss_one (ss_set 7 nd sx_bl))
  sss_nil)))
  (sss_cons (ss_try 10 rfl rfl nd takes0 xn_PhasorError (fun c hc => T_exm c 0 hc (by decide))
  (fun W pn xe tk po => (sss_fz 2 (sss_fz 1 (sss_one (ss_setR 9 nd (sr_call D_ring_divide (hr.mono (by decide)) tk (sa_cons (sx_var 2) (sa_cons (sx_var 1) sa_nil))))))))
  (fun a oe c pn hc hz hf => (sss_one (ss_ret (sx_and (sx_isE (c := c) (m := 1) 10 m_isinstance (xn_NotDivisible) (T_C c hc) hz hf (T_kit c 1 hc (by decide))) (sx_one (sx_not (sx_var 7))))))))
  (sss_fz 9 (sss_fz 1 (sss_one (ss_ret (sx_and (sx_var 7) (sx_and (sx_call D__law_is_ring (hr.mono (by decide)) (sa_cons (sx_var 9) sa_nil)) (sx_one (sx_eq hu (sx_call D__law_mul (hr.mono (by decide)) (sa_cons (sx_var 9) (sa_cons (sx_var 1) sa_nil))) (sx_var 2))))))))))))))))))))))))
end
set_option maxHeartbeats 40000000 in
theorem all_mk {l : PySem.W.OpenLaw} {w : World} {K : PySem.W.Frag} {h : Heap} {mg : Str → Option Value} {fa : Addr} (X : K.In h) (G : h.Ns mainGlobals mg) (hfa : mg "law" = some (.ref fa))
    {f0 : Addr} {od0 an0 : Option Addr} {sl0 : Array (Option Value)} {oc0 kV0 dc0 pm0 cd0 ct0 : Value}
    (a0 : PySem.W.nsIn K mainGlobals "_law_cell" = some (some (.ref f0))) (l0 : K.lookup f0 = some ⟨oc0, od0, .func (PySem.W.fnOf "_law_cell" "_law_cell" (defArgs s__law_cell) (defBody s__law_cell) (defScope s__law_cell) .none kV0 dc0 pm0 an0 cd0 ct0), sl0⟩) (c0 : PySem.W.codeIn K cd0 "_law_cell" = true) (k0 : PySem.W.keepIn K (.ref f0) = true)
    {f1 : Addr} {od1 an1 : Option Addr} {sl1 : Array (Option Value)} {oc1 kV1 dc1 pm1 cd1 ct1 : Value}
    (a1 : PySem.W.nsIn K mainGlobals "_law_part" = some (some (.ref f1))) (l1 : K.lookup f1 = some ⟨oc1, od1, .func (PySem.W.fnOf "_law_part" "_law_part" (defArgs s__law_part) (defBody s__law_part) (defScope s__law_part) .none kV1 dc1 pm1 an1 cd1 ct1), sl1⟩) (c1 : PySem.W.codeIn K cd1 "_law_part" = true) (k1 : PySem.W.keepIn K (.ref f1) = true)
    {f2 : Addr} {od2 an2 : Option Addr} {sl2 : Array (Option Value)} {oc2 kV2 dc2 pm2 cd2 ct2 : Value}
    (a2 : PySem.W.nsIn K mainGlobals "_law_ring" = some (some (.ref f2))) (l2 : K.lookup f2 = some ⟨oc2, od2, .func (PySem.W.fnOf "_law_ring" "_law_ring" (defArgs s__law_ring) (defBody s__law_ring) (defScope s__law_ring) .none kV2 dc2 pm2 an2 cd2 ct2), sl2⟩) (c2 : PySem.W.codeIn K cd2 "_law_ring" = true) (k2 : PySem.W.keepIn K (.ref f2) = true)
    {f3 : Addr} {od3 an3 : Option Addr} {sl3 : Array (Option Value)} {oc3 kV3 dc3 pm3 cd3 ct3 : Value}
    (a3 : PySem.W.nsIn K mainGlobals "_law_mul" = some (some (.ref f3))) (l3 : K.lookup f3 = some ⟨oc3, od3, .func (PySem.W.fnOf "_law_mul" "_law_mul" (defArgs s__law_mul) (defBody s__law_mul) (defScope s__law_mul) .none kV3 dc3 pm3 an3 cd3 ct3), sl3⟩) (c3 : PySem.W.codeIn K cd3 "_law_mul" = true) (k3 : PySem.W.keepIn K (.ref f3) = true)
    {f4 : Addr} {od4 an4 : Option Addr} {sl4 : Array (Option Value)} {oc4 kV4 dc4 pm4 cd4 ct4 : Value}
    (a4 : PySem.W.nsIn K mainGlobals "ring_abs_square" = some (some (.ref f4))) (l4 : K.lookup f4 = some ⟨oc4, od4, .func (PySem.W.fnOf "ring_abs_square" "ring_abs_square" (defArgs s_ring_abs_square) (defBody s_ring_abs_square) (defScope s_ring_abs_square) .none kV4 dc4 pm4 an4 cd4 ct4), sl4⟩) (c4 : PySem.W.codeIn K cd4 "ring_abs_square" = true) (k4 : PySem.W.keepIn K (.ref f4) = true)
    {f5 : Addr} {od5 an5 : Option Addr} {sl5 : Array (Option Value)} {oc5 kV5 dc5 pm5 cd5 ct5 : Value}
    (a5 : PySem.W.nsIn K mainGlobals "ring_norm" = some (some (.ref f5))) (l5 : K.lookup f5 = some ⟨oc5, od5, .func (PySem.W.fnOf "ring_norm" "ring_norm" (defArgs s_ring_norm) (defBody s_ring_norm) (defScope s_ring_norm) .none kV5 dc5 pm5 an5 cd5 ct5), sl5⟩) (c5 : PySem.W.codeIn K cd5 "ring_norm" = true) (k5 : PySem.W.keepIn K (.ref f5) = true)
    {f6 : Addr} {od6 an6 : Option Addr} {sl6 : Array (Option Value)} {oc6 kV6 dc6 pm6 cd6 ct6 : Value}
    (a6 : PySem.W.nsIn K mainGlobals "ring_mul" = some (some (.ref f6))) (l6 : K.lookup f6 = some ⟨oc6, od6, .func (PySem.W.fnOf "ring_mul" "ring_mul" (defArgs s_ring_mul) (defBody s_ring_mul) (defScope s_ring_mul) .none kV6 dc6 pm6 an6 cd6 ct6), sl6⟩) (c6 : PySem.W.codeIn K cd6 "ring_mul" = true) (k6 : PySem.W.keepIn K (.ref f6) = true)
    {f7 : Addr} {od7 an7 : Option Addr} {sl7 : Array (Option Value)} {oc7 kV7 dc7 pm7 cd7 ct7 : Value}
    (a7 : PySem.W.nsIn K mainGlobals "ring_conjugate" = some (some (.ref f7))) (l7 : K.lookup f7 = some ⟨oc7, od7, .func (PySem.W.fnOf "ring_conjugate" "ring_conjugate" (defArgs s_ring_conjugate) (defBody s_ring_conjugate) (defScope s_ring_conjugate) .none kV7 dc7 pm7 an7 cd7 ct7), sl7⟩) (c7 : PySem.W.codeIn K cd7 "ring_conjugate" = true) (k7 : PySem.W.keepIn K (.ref f7) = true)
    {f8 : Addr} {od8 an8 : Option Addr} {sl8 : Array (Option Value)} {oc8 kV8 dc8 pm8 cd8 ct8 : Value}
    (a8 : PySem.W.nsIn K mainGlobals "_root_conjugate" = some (some (.ref f8))) (l8 : K.lookup f8 = some ⟨oc8, od8, .func (PySem.W.fnOf "_root_conjugate" "_root_conjugate" (defArgs s__root_conjugate) (defBody s__root_conjugate) (defScope s__root_conjugate) .none kV8 dc8 pm8 an8 cd8 ct8), sl8⟩) (c8 : PySem.W.codeIn K cd8 "_root_conjugate" = true) (k8 : PySem.W.keepIn K (.ref f8) = true)
    {f9 : Addr} {od9 an9 : Option Addr} {sl9 : Array (Option Value)} {oc9 kV9 dc9 pm9 cd9 ct9 : Value}
    (a9 : PySem.W.nsIn K mainGlobals "ring_divide" = some (some (.ref f9))) (l9 : K.lookup f9 = some ⟨oc9, od9, .func (PySem.W.fnOf "ring_divide" "ring_divide" (defArgs s_ring_divide) (defBody s_ring_divide) (defScope s_ring_divide) .none kV9 dc9 pm9 an9 cd9 ct9), sl9⟩) (c9 : PySem.W.codeIn K cd9 "ring_divide" = true) (k9 : PySem.W.keepIn K (.ref f9) = true)
    {f10 : Addr} {od10 an10 : Option Addr} {sl10 : Array (Option Value)} {oc10 kV10 dc10 pm10 cd10 ct10 : Value}
    (a10 : PySem.W.nsIn K mainGlobals "_law_is_integer" = some (some (.ref f10))) (l10 : K.lookup f10 = some ⟨oc10, od10, .func (PySem.W.fnOf "_law_is_integer" "_law_is_integer" (defArgs s__law_is_integer) (defBody s__law_is_integer) (defScope s__law_is_integer) .none kV10 dc10 pm10 an10 cd10 ct10), sl10⟩) (c10 : PySem.W.codeIn K cd10 "_law_is_integer" = true) (k10 : PySem.W.keepIn K (.ref f10) = true)
    {f11 : Addr} {od11 an11 : Option Addr} {sl11 : Array (Option Value)} {oc11 kV11 dc11 pm11 cd11 ct11 : Value}
    (a11 : PySem.W.nsIn K mainGlobals "_law_is_ring" = some (some (.ref f11))) (l11 : K.lookup f11 = some ⟨oc11, od11, .func (PySem.W.fnOf "_law_is_ring" "_law_is_ring" (defArgs s__law_is_ring) (defBody s__law_is_ring) (defScope s__law_is_ring) .none kV11 dc11 pm11 an11 cd11 ct11), sl11⟩) (c11 : PySem.W.codeIn K cd11 "_law_is_ring" = true) (k11 : PySem.W.keepIn K (.ref f11) = true)
    {f12 : Addr} {od12 an12 : Option Addr} {sl12 : Array (Option Value)} {oc12 kV12 dc12 pm12 cd12 ct12 : Value}
    (a12 : PySem.W.nsIn K mainGlobals "law" = some (some (.ref f12))) (l12 : K.lookup f12 = some ⟨oc12, od12, .func (PySem.W.fnOf "law" "law" (defArgs s_law) (defBody s_law) (defScope s_law) .none kV12 dc12 pm12 an12 cd12 ct12), sl12⟩) (c12 : PySem.W.codeIn K cd12 "law" = true) (k12 : PySem.W.keepIn K (.ref f12) = true)
    (z_len : PySem.W.nsIn K mainGlobals "len" = some none)
    (z_int : PySem.W.nsIn K mainGlobals "int" = some none)
    (z_abs : PySem.W.nsIn K mainGlobals "abs" = some none)
    (z_range : PySem.W.nsIn K mainGlobals "range" = some none)
    (z_isinstance : PySem.W.nsIn K mainGlobals "isinstance" = some none)
    (z_bool : PySem.W.nsIn K mainGlobals "bool" = some none)
    (z_tuple : PySem.W.nsIn K mainGlobals "tuple" = some none)
    {x_PhasorError : Addr} {x_NotDivisible : Addr}
    (xa_PhasorError : PySem.W.nsIn K mainGlobals "PhasorError" = some (some (.ref x_PhasorError)))
    (xe_PhasorError : PySem.W.excIn K x_PhasorError [.type "ValueError", .type "Exception", .type "BaseException", .type "object"] "ValueError.__new__" = true)
    (xk_PhasorError : PySem.W.keepIn K (.ref x_PhasorError) = true)
    (xs_PhasorError : PySem.W.subIn K (.ref x_PhasorError) (.type "BaseException") = some true)
    (xt_PhasorError : PySem.W.typeIn K (.ref x_PhasorError) = some (.type "type"))
    (xg_PhasorError : PySem.W.findIn K (.ref x_PhasorError) "__getattribute__" = some (some (.builtin "BaseException.__getattribute__")))
    (xh_PhasorError : PySem.W.findIn K (.ref x_PhasorError) "__getattr__" = some none)
    (xd_PhasorError : PySem.W.hasDictIn K x_PhasorError = true)
    (xc_PhasorError : PySem.W.findIn K (.ref x_PhasorError) "__class__" = some (some (.builtin "object.__class__")))
    (xm_PhasorError : PySem.W.mroIn K x_PhasorError (.type "object") = some true)
    (xz_PhasorError_PhasorError : PySem.W.subIn K (.ref x_PhasorError) (.ref x_PhasorError) = some true)
    (xz_PhasorError_NotDivisible : PySem.W.subIn K (.ref x_PhasorError) (.ref x_NotDivisible) = some false)
    (xa_NotDivisible : PySem.W.nsIn K mainGlobals "NotDivisible" = some (some (.ref x_NotDivisible)))
    (xe_NotDivisible : PySem.W.excIn K x_NotDivisible [.type "ValueError", .type "Exception", .type "BaseException", .type "object"] "ValueError.__new__" = true)
    (xk_NotDivisible : PySem.W.keepIn K (.ref x_NotDivisible) = true)
    (xs_NotDivisible : PySem.W.subIn K (.ref x_NotDivisible) (.type "BaseException") = some true)
    (xt_NotDivisible : PySem.W.typeIn K (.ref x_NotDivisible) = some (.type "type"))
    (xg_NotDivisible : PySem.W.findIn K (.ref x_NotDivisible) "__getattribute__" = some (some (.builtin "BaseException.__getattribute__")))
    (xh_NotDivisible : PySem.W.findIn K (.ref x_NotDivisible) "__getattr__" = some none)
    (xd_NotDivisible : PySem.W.hasDictIn K x_NotDivisible = true)
    (xc_NotDivisible : PySem.W.findIn K (.ref x_NotDivisible) "__class__" = some (some (.builtin "object.__class__")))
    (xm_NotDivisible : PySem.W.mroIn K x_NotDivisible (.type "object") = some true)
    (xz_NotDivisible_PhasorError : PySem.W.subIn K (.ref x_NotDivisible) (.ref x_PhasorError) = some true)
    (xz_NotDivisible_NotDivisible : PySem.W.subIn K (.ref x_NotDivisible) (.ref x_NotDivisible) = some true)
    (xo1 : PySem.W.specialIn K (.builtin "object.__class__") "__get__" = some (some (.builtin "getset_descriptor.__get__")))
    (xo2 : PySem.W.takesIn K (.builtin "object.__class__") = some true)
    (hGT : l.prog.given.tree = none)
    (hmain : ∀ ns : List Int, ns.length ≤ 63 → (∀ z ∈ ns, Builtin.Int.intBits z ≤ 1048576) → ∃ fin, F_law [O.lst false (ns.map O.int)] = some (.bl true, fin))
    : ∃ fd : FuncData, (∀ (s : Shared) (v : Value), BindsTo s fd ⟨[v], []⟩ [("script", v)]) ∧ ∀ base : Heap, K.In base → base.Ns mainGlobals mg → base.NoSeer → FnOk l.prog w K mg base CX0 34 fa fd ["script"] (@spLaw ⟨[]⟩ K) := by
  letI : TabsI := ⟨[]⟩
  have e := hfa.symm.trans (PySem.W.mg_of X G a12)
  cases e
  have U__law_cell := fun_mk (st := s__law_cell) l0 c0 k0
  have U__law_part := fun_mk (st := s__law_part) l1 c1 k1
  have U__law_ring := fun_mk (st := s__law_ring) l2 c2 k2
  have U__law_mul := fun_mk (st := s__law_mul) l3 c3 k3
  have U_ring_abs_square := fun_mk (st := s_ring_abs_square) l4 c4 k4
  have U_ring_norm := fun_mk (st := s_ring_norm) l5 c5 k5
  have U_ring_mul := fun_mk (st := s_ring_mul) l6 c6 k6
  have U_ring_conjugate := fun_mk (st := s_ring_conjugate) l7 c7 k7
  have U__root_conjugate := fun_mk (st := s__root_conjugate) l8 c8 k8
  have U_ring_divide := fun_mk (st := s_ring_divide) l9 c9 k9
  have U__law_is_integer := fun_mk (st := s__law_is_integer) l10 c10 k10
  have U__law_is_ring := fun_mk (st := s__law_is_ring) l11 c11 k11
  have U_law := fun_mk (st := s_law) l12 c12 k12
  have m_len := PySem.W.mg_none_of X G z_len
  have m_int := PySem.W.mg_none_of X G z_int
  have m_abs := PySem.W.mg_none_of X G z_abs
  have m_range := PySem.W.mg_none_of X G z_range
  have m_isinstance := PySem.W.mg_none_of X G z_isinstance
  have m_bool := PySem.W.mg_none_of X G z_bool
  have m_tuple := PySem.W.mg_none_of X G z_tuple
  have xn_PhasorError : mg "PhasorError" = some (.ref ((fun n => [x_PhasorError, x_NotDivisible].getD n 0) 0)) := PySem.W.mg_of X G xa_PhasorError
  have E_PhasorError : EC K mg (fun n => [x_PhasorError, x_NotDivisible].getD n 0) 0 "PhasorError" := ⟨xn_PhasorError, xe_PhasorError, xk_PhasorError, xs_PhasorError, xt_PhasorError⟩
  have xn_NotDivisible : mg "NotDivisible" = some (.ref ((fun n => [x_PhasorError, x_NotDivisible].getD n 0) 1)) := PySem.W.mg_of X G xa_NotDivisible
  have E_NotDivisible : EC K mg (fun n => [x_PhasorError, x_NotDivisible].getD n 0) 1 "NotDivisible" := ⟨xn_NotDivisible, xe_NotDivisible, xk_NotDivisible, xs_NotDivisible, xt_NotDivisible⟩
  have T_exm : ∀ c m, isE c = true → isE m = true → PySem.W.exmOne K (.ref ((fun n => [x_PhasorError, x_NotDivisible].getD n 0) c)) (.ref ((fun n => [x_PhasorError, x_NotDivisible].getD n 0) m)) = some (subE c m) := fun c m hc hm => match c, m, hc, hm with
    | 0, 0, _, _ => PySem.W.exm_ref xs_PhasorError xd_PhasorError xt_PhasorError xz_PhasorError_PhasorError
    | 0, 1, _, _ => PySem.W.exm_ref xs_NotDivisible xd_NotDivisible xt_NotDivisible xz_PhasorError_NotDivisible
    | 1, 0, _, _ => PySem.W.exm_ref xs_PhasorError xd_PhasorError xt_PhasorError xz_NotDivisible_PhasorError
    | 1, 1, _, _ => PySem.W.exm_ref xs_NotDivisible xd_NotDivisible xt_NotDivisible xz_NotDivisible_NotDivisible
    | c + 2, _, h, _ => absurd h (by unfold isE; simp)
    | 0, c + 2, _, h => absurd h (by unfold isE; simp)
    | 1, c + 2, _, h => absurd h (by unfold isE; simp)
  have T_kit : ∀ c m, isE c = true → isE m = true → PySem.W.kitOne K (.ref ((fun n => [x_PhasorError, x_NotDivisible].getD n 0) c)) (.ref ((fun n => [x_PhasorError, x_NotDivisible].getD n 0) m)) = some (subE c m) := fun c m hc hm => match c, m, hc, hm with
    | 0, 0, _, _ => kitR_of xz_PhasorError_PhasorError xz_PhasorError_PhasorError xd_PhasorError xt_PhasorError
    | 0, 1, _, _ => kitR_of xz_PhasorError_NotDivisible xz_PhasorError_PhasorError xd_NotDivisible xt_NotDivisible
    | 1, 0, _, _ => kitR_of xz_NotDivisible_PhasorError xz_NotDivisible_NotDivisible xd_PhasorError xt_PhasorError
    | 1, 1, _, _ => kitR_of xz_NotDivisible_NotDivisible xz_NotDivisible_NotDivisible xd_NotDivisible xt_NotDivisible
    | c + 2, _, h, _ => absurd h (by unfold isE; simp)
    | 0, c + 2, _, h => absurd h (by unfold isE; simp)
    | 1, c + 2, _, h => absurd h (by unfold isE; simp)
  have T_C : ∀ c, isE c = true → ExcC K ((fun n => [x_PhasorError, x_NotDivisible].getD n 0) c) := fun c hc => match c, hc with
    | 0, _ => ⟨xg_PhasorError, xh_PhasorError, xs_PhasorError, xd_PhasorError, xc_PhasorError, xo1, xo2, xm_PhasorError⟩
    | 1, _ => ⟨xg_NotDivisible, xh_NotDivisible, xs_NotDivisible, xd_NotDivisible, xc_NotDivisible, xo1, xo2, xm_NotDivisible⟩
    | c + 2, h => absurd h (by unfold isE; simp)
  refine ⟨PySem.W.fnOf "law" "law" (defArgs s_law) (defBody s_law) (defScope s_law) .none kV12 dc12 pm12 an12 cd12 ct12, fun s v => .of_eq rfl, fun base _ _ HNS => ?_⟩
  have O__law_cell := ok__law_cell (P := l.prog) (w := w) (mg := mg) (base := base) (ct := (fun n => [x_PhasorError, x_NotDivisible].getD n 0)) U__law_cell m_len
  have D__law_cell : FD l.prog w K mg base (fun n => [x_PhasorError, x_NotDivisible].getD n 0) 1 "_law_cell" 2 F__law_cell := FD.mk' O__law_cell (PySem.W.mg_of X G a0) U__law_cell.kp (U__law_cell.binds (ps := ["script", "k"]) fun _ _ _ _ _ _ us hl => match us, hl with | [_, _], _ => rfl)
  have O__law_part := ok__law_part (P := l.prog) (w := w) (mg := mg) (base := base) (ct := (fun n => [x_PhasorError, x_NotDivisible].getD n 0)) U__law_part m_int
  have D__law_part : FD l.prog w K mg base (fun n => [x_PhasorError, x_NotDivisible].getD n 0) 1 "_law_part" 2 F__law_part := FD.mk' O__law_part (PySem.W.mg_of X G a1) U__law_part.kp (U__law_part.binds (ps := ["number", "digit"]) fun _ _ _ _ _ _ us hl => match us, hl with | [_, _], _ => rfl)
  have O__law_ring := ok__law_ring (P := l.prog) (w := w) (mg := mg) (base := base) (ct := (fun n => [x_PhasorError, x_NotDivisible].getD n 0)) U__law_ring D__law_cell D__law_part m_abs m_range
  have D__law_ring : FD l.prog w K mg base (fun n => [x_PhasorError, x_NotDivisible].getD n 0) 2 "_law_ring" 2 F__law_ring := FD.mk' O__law_ring (PySem.W.mg_of X G a2) U__law_ring.kp (U__law_ring.binds (ps := ["script", "first"]) fun _ _ _ _ _ _ us hl => match us, hl with | [_, _], _ => rfl)
  have O__law_mul := ok__law_mul (P := l.prog) (w := w) (mg := mg) (base := base) (ct := (fun n => [x_PhasorError, x_NotDivisible].getD n 0)) U__law_mul m_range
  have D__law_mul : FD l.prog w K mg base (fun n => [x_PhasorError, x_NotDivisible].getD n 0) 1 "_law_mul" 2 F__law_mul := FD.mk' O__law_mul (PySem.W.mg_of X G a3) U__law_mul.kp (U__law_mul.binds (ps := ["x", "y"]) fun _ _ _ _ _ _ us hl => match us, hl with | [_, _], _ => rfl)
  have O_ring_abs_square := ok_ring_abs_square (P := l.prog) (w := w) (mg := mg) (base := base) (ct := (fun n => [x_PhasorError, x_NotDivisible].getD n 0)) U_ring_abs_square
  have D_ring_abs_square : FD l.prog w K mg base (fun n => [x_PhasorError, x_NotDivisible].getD n 0) 1 "ring_abs_square" 1 F_ring_abs_square := FD.mk' O_ring_abs_square (PySem.W.mg_of X G a4) U_ring_abs_square.kp (U_ring_abs_square.binds (ps := ["x"]) fun _ _ _ _ _ _ us hl => match us, hl with | [_], _ => rfl)
  have O_ring_norm := ok_ring_norm (P := l.prog) (w := w) (mg := mg) (base := base) (ct := (fun n => [x_PhasorError, x_NotDivisible].getD n 0)) U_ring_norm D_ring_abs_square
  have D_ring_norm : FD l.prog w K mg base (fun n => [x_PhasorError, x_NotDivisible].getD n 0) 2 "ring_norm" 1 F_ring_norm := FD.mk' O_ring_norm (PySem.W.mg_of X G a5) U_ring_norm.kp (U_ring_norm.binds (ps := ["x"]) fun _ _ _ _ _ _ us hl => match us, hl with | [_], _ => rfl)
  have O_ring_mul := ok_ring_mul (P := l.prog) (w := w) (mg := mg) (base := base) (ct := (fun n => [x_PhasorError, x_NotDivisible].getD n 0)) U_ring_mul
  have D_ring_mul : FD l.prog w K mg base (fun n => [x_PhasorError, x_NotDivisible].getD n 0) 1 "ring_mul" 2 F_ring_mul := FD.mk' O_ring_mul (PySem.W.mg_of X G a6) U_ring_mul.kp (U_ring_mul.binds (ps := ["x", "y"]) fun _ _ _ _ _ _ us hl => match us, hl with | [_, _], _ => rfl)
  have O_ring_conjugate := ok_ring_conjugate (P := l.prog) (w := w) (mg := mg) (base := base) (ct := (fun n => [x_PhasorError, x_NotDivisible].getD n 0)) U_ring_conjugate
  have D_ring_conjugate : FD l.prog w K mg base (fun n => [x_PhasorError, x_NotDivisible].getD n 0) 1 "ring_conjugate" 1 F_ring_conjugate := FD.mk' O_ring_conjugate (PySem.W.mg_of X G a7) U_ring_conjugate.kp (U_ring_conjugate.binds (ps := ["x"]) fun _ _ _ _ _ _ us hl => match us, hl with | [_], _ => rfl)
  have O__root_conjugate := ok__root_conjugate (P := l.prog) (w := w) (mg := mg) (base := base) (ct := (fun n => [x_PhasorError, x_NotDivisible].getD n 0)) U__root_conjugate
  have D__root_conjugate : FD l.prog w K mg base (fun n => [x_PhasorError, x_NotDivisible].getD n 0) 1 "_root_conjugate" 1 F__root_conjugate := FD.mk' O__root_conjugate (PySem.W.mg_of X G a8) U__root_conjugate.kp (U__root_conjugate.binds (ps := ["pair"]) fun _ _ _ _ _ _ us hl => match us, hl with | [_], _ => rfl)
  have O_ring_divide := ok_ring_divide (P := l.prog) (w := w) (mg := mg) (base := base) (ct := (fun n => [x_PhasorError, x_NotDivisible].getD n 0)) U_ring_divide D_ring_norm D_ring_mul D_ring_conjugate D__root_conjugate D_ring_abs_square E_PhasorError xn_PhasorError E_NotDivisible xn_NotDivisible T_exm T_C T_kit HNS hGT
  have D_ring_divide : FDX l.prog w K mg base (fun n => [x_PhasorError, x_NotDivisible].getD n 0) 33 "ring_divide" 2 F_ring_divide := FDX.mk' O_ring_divide (PySem.W.mg_of X G a9) U_ring_divide.kp (U_ring_divide.binds (ps := ["x", "y"]) fun _ _ _ _ _ _ us hl => match us, hl with | [_, _], _ => rfl)
  have O__law_is_integer := ok__law_is_integer (P := l.prog) (w := w) (mg := mg) (base := base) (ct := (fun n => [x_PhasorError, x_NotDivisible].getD n 0)) U__law_is_integer m_isinstance m_bool m_int
  have D__law_is_integer : FD l.prog w K mg base (fun n => [x_PhasorError, x_NotDivisible].getD n 0) 1 "_law_is_integer" 1 F__law_is_integer := FD.mk' O__law_is_integer (PySem.W.mg_of X G a10) U__law_is_integer.kp (U__law_is_integer.binds (ps := ["actual"]) fun _ _ _ _ _ _ us hl => match us, hl with | [_], _ => rfl)
  have O__law_is_ring := ok__law_is_ring (P := l.prog) (w := w) (mg := mg) (base := base) (ct := (fun n => [x_PhasorError, x_NotDivisible].getD n 0)) U__law_is_ring D__law_is_integer m_len m_isinstance m_tuple
  have D__law_is_ring : FD l.prog w K mg base (fun n => [x_PhasorError, x_NotDivisible].getD n 0) 2 "_law_is_ring" 1 F__law_is_ring := FD.mk' O__law_is_ring (PySem.W.mg_of X G a11) U__law_is_ring.kp (U__law_is_ring.binds (ps := ["actual"]) fun _ _ _ _ _ _ us hl => match us, hl with | [_], _ => rfl)
  have O_law := ok_law (P := l.prog) (w := w) (mg := mg) (base := base) (ct := (fun n => [x_PhasorError, x_NotDivisible].getD n 0)) U_law D__law_ring D__law_cell D__law_mul D_ring_divide D__law_is_ring m_int m_isinstance E_PhasorError xn_PhasorError E_NotDivisible xn_NotDivisible T_exm T_C T_kit HNS hGT
  exact O_law.imp fun vs H Q E h => law_imp hmain h
end K05
set_option maxHeartbeats 4000000
namespace K05
open Mini PySem PySem.Spec PyProof.Rows
abbrev S (ns : List Int) : O := .lst false (ns.map .int)
/-- it ends with this value -/
def Rt (o : O) (x : Option Mini.Out) : Prop := ∃ ρ', x = some (.rt o ρ')
theorem stp {a b : Mini.Env → Option Mini.Out} {ρ : Mini.Env} {o : O} (ρ1 : Mini.Env) (h : a ρ = some (.nx ρ1)) (h2 : Rt o (b ρ1)) : Rt o (dSeq a b ρ) := by
  unfold dSeq
  rw [h]
  exact h2
theorem ok_fm {ks : List Bool} {os : List O} {r : O} (h : noFm r = true) : (okb ks os || noFm r) = true := by rw [h, Bool.or_true]
theorem law_cell (ns : List Int) (k : Nat) : F__law_cell [S ns, .int k] = some (.int (cell ns k), [none, none]) := by
  by_cases h : k < ns.length
  · have h' : (k : Int) < (ns.length : Int) := by omega
    simp [F__law_cell, dDef, dSeq, dIf, dTru, oBool, dBin, dBind, look_nil, look_z, look_s, dRet, dRetMv, dSkip, dAsg, dExpr, setS, dAug, gSet, gTupO, gsCons, gsNil, dTup, dLst, dCons, dNil, copyO, isFz, isFzs, Mini.fin, oAdd_i, oAddI_i, oAdd_l, oAdd_t, oMul_l, lineOk_n, oSub_i, oMul_i, oMod_i, oDiv_i, oAnd_i, oOr_i, oXor_i, oLt_i, oLe_i, oGt_i, oGe_i, oMax_i, oMin_i, negO_i, oAbs_i, oInt_i, oInt_b, oEq_i, oNe_i, eqv_ii, idx_t, idx_l, atI_z, atI_n, atI_lit, ixN_n, ixN_lit, len_t, len_l, oTru, oNot, vAnd, vOr, bAnd, bOr, bNot, dIte, mLog2, rngs_z, rngs_s, line_le, line_lt, dCall, views, okb, noFm, noFms, frz, frzs, dIt, itO, lFor, dFor, dRng1, dRng2, rOk_def, rOk0, dApp, dSetI, dFz, dCallX, dCallN, dDefX, dAsgR, dRetR, dExprR, dTry, dIsE, pick_rt, pick_nx, oBits_i, oIsN, oNotN, isNon, oIn, dChain, flatO, eqF_i, oList, oTuple, dLc, lLc, wipeE, dYes, keyO, kFind, kPut, oDIdx, oGet2, oDIn, dTri, dDct, dPCons, dPNil, dMerge, dSetD, dForK, keyB, dLend, dEnum, enumO, oEq_s, oNe_s, eqF_s, ofS_iff, oListD, kO, gIdx, gGet, gIn, List.set_cons_zero, List.set_cons_succ, List.replicate, isi_NoneType_int, isi_bool_int, isi_int_int, isi_str_int, isi_tuple_int, isi_list_int, isi_dict_int, isi_NoneType_bool, isi_bool_bool, isi_int_bool, isi_str_bool, isi_tuple_bool, isi_list_bool, isi_dict_bool, isi_NoneType_str, isi_bool_str, isi_int_str, isi_str_str, isi_tuple_str, isi_list_str, isi_dict_str, isi_NoneType_tuple, isi_bool_tuple, isi_int_tuple, isi_str_tuple, isi_tuple_tuple, isi_list_tuple, isi_dict_tuple, isi_NoneType_list, isi_bool_list, isi_int_list, isi_str_list, isi_tuple_list, isi_list_list, isi_dict_list, isi_NoneType_dict, isi_bool_dict, isi_int_dict, isi_str_dict, isi_tuple_dict, isi_list_dict, isi_dict_dict, Bd__law_ring_1, Bd__law_mul_1, Bd__law_mul_2, Bd_ring_divide_1, Bd__law_is_ring_1, Bd_law_1, h', cell_at h]
  · have h' : ¬ (k : Int) < (ns.length : Int) := by omega
    simp [F__law_cell, dDef, dSeq, dIf, dTru, oBool, dBin, dBind, look_nil, look_z, look_s, dRet, dRetMv, dSkip, dAsg, dExpr, setS, dAug, gSet, gTupO, gsCons, gsNil, dTup, dLst, dCons, dNil, copyO, isFz, isFzs, Mini.fin, oAdd_i, oAddI_i, oAdd_l, oAdd_t, oMul_l, lineOk_n, oSub_i, oMul_i, oMod_i, oDiv_i, oAnd_i, oOr_i, oXor_i, oLt_i, oLe_i, oGt_i, oGe_i, oMax_i, oMin_i, negO_i, oAbs_i, oInt_i, oInt_b, oEq_i, oNe_i, eqv_ii, idx_t, idx_l, atI_z, atI_n, atI_lit, ixN_n, ixN_lit, len_t, len_l, oTru, oNot, vAnd, vOr, bAnd, bOr, bNot, dIte, mLog2, rngs_z, rngs_s, line_le, line_lt, dCall, views, okb, noFm, noFms, frz, frzs, dIt, itO, lFor, dFor, dRng1, dRng2, rOk_def, rOk0, dApp, dSetI, dFz, dCallX, dCallN, dDefX, dAsgR, dRetR, dExprR, dTry, dIsE, pick_rt, pick_nx, oBits_i, oIsN, oNotN, isNon, oIn, dChain, flatO, eqF_i, oList, oTuple, dLc, lLc, wipeE, dYes, keyO, kFind, kPut, oDIdx, oGet2, oDIn, dTri, dDct, dPCons, dPNil, dMerge, dSetD, dForK, keyB, dLend, dEnum, enumO, oEq_s, oNe_s, eqF_s, ofS_iff, oListD, kO, gIdx, gGet, gIn, List.set_cons_zero, List.set_cons_succ, List.replicate, isi_NoneType_int, isi_bool_int, isi_int_int, isi_str_int, isi_tuple_int, isi_list_int, isi_dict_int, isi_NoneType_bool, isi_bool_bool, isi_int_bool, isi_str_bool, isi_tuple_bool, isi_list_bool, isi_dict_bool, isi_NoneType_str, isi_bool_str, isi_int_str, isi_str_str, isi_tuple_str, isi_list_str, isi_dict_str, isi_NoneType_tuple, isi_bool_tuple, isi_int_tuple, isi_str_tuple, isi_tuple_tuple, isi_list_tuple, isi_dict_tuple, isi_NoneType_list, isi_bool_list, isi_int_list, isi_str_list, isi_tuple_list, isi_list_list, isi_dict_list, isi_NoneType_dict, isi_bool_dict, isi_int_dict, isi_str_dict, isi_tuple_dict, isi_list_dict, isi_dict_dict, Bd__law_ring_1, Bd__law_mul_1, Bd__law_mul_2, Bd_ring_divide_1, Bd__law_is_ring_1, Bd_law_1, h', cell_out h]
theorem law_part (n d : Int) : F__law_part [.int n, .int d] = some (.int (rpart n d), [none, none]) := by
  unfold rpart
  by_cases h : d % 3 = 0
  · simp [F__law_part, dDef, dSeq, dIf, dTru, oBool, dBin, dBind, look_nil, look_z, look_s, dRet, dRetMv, dSkip, dAsg, dExpr, setS, dAug, gSet, gTupO, gsCons, gsNil, dTup, dLst, dCons, dNil, copyO, isFz, isFzs, Mini.fin, oAdd_i, oAddI_i, oAdd_l, oAdd_t, oMul_l, lineOk_n, oSub_i, oMul_i, oMod_i, oDiv_i, oAnd_i, oOr_i, oXor_i, oLt_i, oLe_i, oGt_i, oGe_i, oMax_i, oMin_i, negO_i, oAbs_i, oInt_i, oInt_b, oEq_i, oNe_i, eqv_ii, idx_t, idx_l, atI_z, atI_n, atI_lit, ixN_n, ixN_lit, len_t, len_l, oTru, oNot, vAnd, vOr, bAnd, bOr, bNot, dIte, mLog2, rngs_z, rngs_s, line_le, line_lt, dCall, views, okb, noFm, noFms, frz, frzs, dIt, itO, lFor, dFor, dRng1, dRng2, rOk_def, rOk0, dApp, dSetI, dFz, dCallX, dCallN, dDefX, dAsgR, dRetR, dExprR, dTry, dIsE, pick_rt, pick_nx, oBits_i, oIsN, oNotN, isNon, oIn, dChain, flatO, eqF_i, oList, oTuple, dLc, lLc, wipeE, dYes, keyO, kFind, kPut, oDIdx, oGet2, oDIn, dTri, dDct, dPCons, dPNil, dMerge, dSetD, dForK, keyB, dLend, dEnum, enumO, oEq_s, oNe_s, eqF_s, ofS_iff, oListD, kO, gIdx, gGet, gIn, List.set_cons_zero, List.set_cons_succ, List.replicate, isi_NoneType_int, isi_bool_int, isi_int_int, isi_str_int, isi_tuple_int, isi_list_int, isi_dict_int, isi_NoneType_bool, isi_bool_bool, isi_int_bool, isi_str_bool, isi_tuple_bool, isi_list_bool, isi_dict_bool, isi_NoneType_str, isi_bool_str, isi_int_str, isi_str_str, isi_tuple_str, isi_list_str, isi_dict_str, isi_NoneType_tuple, isi_bool_tuple, isi_int_tuple, isi_str_tuple, isi_tuple_tuple, isi_list_tuple, isi_dict_tuple, isi_NoneType_list, isi_bool_list, isi_int_list, isi_str_list, isi_tuple_list, isi_list_list, isi_dict_list, isi_NoneType_dict, isi_bool_dict, isi_int_dict, isi_str_dict, isi_tuple_dict, isi_list_dict, isi_dict_dict, Bd__law_ring_1, Bd__law_mul_1, Bd__law_mul_2, Bd_ring_divide_1, Bd__law_is_ring_1, Bd_law_1, h]
  · by_cases h2 : d % 3 = 1
    · simp [F__law_part, dDef, dSeq, dIf, dTru, oBool, dBin, dBind, look_nil, look_z, look_s, dRet, dRetMv, dSkip, dAsg, dExpr, setS, dAug, gSet, gTupO, gsCons, gsNil, dTup, dLst, dCons, dNil, copyO, isFz, isFzs, Mini.fin, oAdd_i, oAddI_i, oAdd_l, oAdd_t, oMul_l, lineOk_n, oSub_i, oMul_i, oMod_i, oDiv_i, oAnd_i, oOr_i, oXor_i, oLt_i, oLe_i, oGt_i, oGe_i, oMax_i, oMin_i, negO_i, oAbs_i, oInt_i, oInt_b, oEq_i, oNe_i, eqv_ii, idx_t, idx_l, atI_z, atI_n, atI_lit, ixN_n, ixN_lit, len_t, len_l, oTru, oNot, vAnd, vOr, bAnd, bOr, bNot, dIte, mLog2, rngs_z, rngs_s, line_le, line_lt, dCall, views, okb, noFm, noFms, frz, frzs, dIt, itO, lFor, dFor, dRng1, dRng2, rOk_def, rOk0, dApp, dSetI, dFz, dCallX, dCallN, dDefX, dAsgR, dRetR, dExprR, dTry, dIsE, pick_rt, pick_nx, oBits_i, oIsN, oNotN, isNon, oIn, dChain, flatO, eqF_i, oList, oTuple, dLc, lLc, wipeE, dYes, keyO, kFind, kPut, oDIdx, oGet2, oDIn, dTri, dDct, dPCons, dPNil, dMerge, dSetD, dForK, keyB, dLend, dEnum, enumO, oEq_s, oNe_s, eqF_s, ofS_iff, oListD, kO, gIdx, gGet, gIn, List.set_cons_zero, List.set_cons_succ, List.replicate, isi_NoneType_int, isi_bool_int, isi_int_int, isi_str_int, isi_tuple_int, isi_list_int, isi_dict_int, isi_NoneType_bool, isi_bool_bool, isi_int_bool, isi_str_bool, isi_tuple_bool, isi_list_bool, isi_dict_bool, isi_NoneType_str, isi_bool_str, isi_int_str, isi_str_str, isi_tuple_str, isi_list_str, isi_dict_str, isi_NoneType_tuple, isi_bool_tuple, isi_int_tuple, isi_str_tuple, isi_tuple_tuple, isi_list_tuple, isi_dict_tuple, isi_NoneType_list, isi_bool_list, isi_int_list, isi_str_list, isi_tuple_list, isi_list_list, isi_dict_list, isi_NoneType_dict, isi_bool_dict, isi_int_dict, isi_str_dict, isi_tuple_dict, isi_list_dict, isi_dict_dict, Bd__law_ring_1, Bd__law_mul_1, Bd__law_mul_2, Bd_ring_divide_1, Bd__law_is_ring_1, Bd_law_1, h, h2]
    · simp [F__law_part, dDef, dSeq, dIf, dTru, oBool, dBin, dBind, look_nil, look_z, look_s, dRet, dRetMv, dSkip, dAsg, dExpr, setS, dAug, gSet, gTupO, gsCons, gsNil, dTup, dLst, dCons, dNil, copyO, isFz, isFzs, Mini.fin, oAdd_i, oAddI_i, oAdd_l, oAdd_t, oMul_l, lineOk_n, oSub_i, oMul_i, oMod_i, oDiv_i, oAnd_i, oOr_i, oXor_i, oLt_i, oLe_i, oGt_i, oGe_i, oMax_i, oMin_i, negO_i, oAbs_i, oInt_i, oInt_b, oEq_i, oNe_i, eqv_ii, idx_t, idx_l, atI_z, atI_n, atI_lit, ixN_n, ixN_lit, len_t, len_l, oTru, oNot, vAnd, vOr, bAnd, bOr, bNot, dIte, mLog2, rngs_z, rngs_s, line_le, line_lt, dCall, views, okb, noFm, noFms, frz, frzs, dIt, itO, lFor, dFor, dRng1, dRng2, rOk_def, rOk0, dApp, dSetI, dFz, dCallX, dCallN, dDefX, dAsgR, dRetR, dExprR, dTry, dIsE, pick_rt, pick_nx, oBits_i, oIsN, oNotN, isNon, oIn, dChain, flatO, eqF_i, oList, oTuple, dLc, lLc, wipeE, dYes, keyO, kFind, kPut, oDIdx, oGet2, oDIn, dTri, dDct, dPCons, dPNil, dMerge, dSetD, dForK, keyB, dLend, dEnum, enumO, oEq_s, oNe_s, eqF_s, ofS_iff, oListD, kO, gIdx, gGet, gIn, List.set_cons_zero, List.set_cons_succ, List.replicate, isi_NoneType_int, isi_bool_int, isi_int_int, isi_str_int, isi_tuple_int, isi_list_int, isi_dict_int, isi_NoneType_bool, isi_bool_bool, isi_int_bool, isi_str_bool, isi_tuple_bool, isi_list_bool, isi_dict_bool, isi_NoneType_str, isi_bool_str, isi_int_str, isi_str_str, isi_tuple_str, isi_list_str, isi_dict_str, isi_NoneType_tuple, isi_bool_tuple, isi_int_tuple, isi_str_tuple, isi_tuple_tuple, isi_list_tuple, isi_dict_tuple, isi_NoneType_list, isi_bool_list, isi_int_list, isi_str_list, isi_tuple_list, isi_list_list, isi_dict_list, isi_NoneType_dict, isi_bool_dict, isi_int_dict, isi_str_dict, isi_tuple_dict, isi_list_dict, isi_dict_dict, Bd__law_ring_1, Bd__law_mul_1, Bd__law_mul_2, Bd_ring_divide_1, Bd__law_is_ring_1, Bd_law_1, h, h2]
theorem law_ring (ns : List Int) (k : Nat) : F__law_ring [S ns, .int k] =
    some (encR (rpart (cell ns k) (dg ns k)) (rpart (cell ns (k + 1)) (dg ns k / 3)) (rpart (cell ns (k + 2)) (dg ns k / 3 / 3)) (rpart (cell ns (k + 3)) (dg ns k / 3 / 3 / 3)), [none, none]) := by
  have c0 : F__law_cell [O.lst false (ns.map .int), .int ((k : Int) + 4)] = _ := law_cell ns (k + 4)
  have c1 : F__law_cell [O.lst false (ns.map .int), .int (k : Int)] = _ := law_cell ns k
  have c2 : F__law_cell [O.lst false (ns.map .int), .int ((k : Int) + 1)] = _ := law_cell ns (k + 1)
  have c3 : F__law_cell [O.lst false (ns.map .int), .int ((k : Int) + 2)] = _ := law_cell ns (k + 2)
  have c4 : F__law_cell [O.lst false (ns.map .int), .int ((k : Int) + 3)] = _ := law_cell ns (k + 3)
  simp [F__law_ring, dDef, dSeq, dIf, dTru, oBool, dBin, dBind, look_nil, look_z, look_s, dRet, dRetMv, dSkip, dAsg, dExpr, setS, dAug, gSet, gTupO, gsCons, gsNil, dTup, dLst, dCons, dNil, copyO, isFz, isFzs, Mini.fin, oAdd_i, oAddI_i, oAdd_l, oAdd_t, oMul_l, lineOk_n, oSub_i, oMul_i, oMod_i, oDiv_i, oAnd_i, oOr_i, oXor_i, oLt_i, oLe_i, oGt_i, oGe_i, oMax_i, oMin_i, negO_i, oAbs_i, oInt_i, oInt_b, oEq_i, oNe_i, eqv_ii, idx_t, idx_l, atI_z, atI_n, atI_lit, ixN_n, ixN_lit, len_t, len_l, oTru, oNot, vAnd, vOr, bAnd, bOr, bNot, dIte, mLog2, rngs_z, rngs_s, line_le, line_lt, dCall, views, okb, noFm, noFms, frz, frzs, dIt, itO, lFor, dFor, dRng1, dRng2, rOk_def, rOk0, dApp, dSetI, dFz, dCallX, dCallN, dDefX, dAsgR, dRetR, dExprR, dTry, dIsE, pick_rt, pick_nx, oBits_i, oIsN, oNotN, isNon, oIn, dChain, flatO, eqF_i, oList, oTuple, dLc, lLc, wipeE, dYes, keyO, kFind, kPut, oDIdx, oGet2, oDIn, dTri, dDct, dPCons, dPNil, dMerge, dSetD, dForK, keyB, dLend, dEnum, enumO, oEq_s, oNe_s, eqF_s, ofS_iff, oListD, kO, gIdx, gGet, gIn, List.set_cons_zero, List.set_cons_succ, List.replicate, isi_NoneType_int, isi_bool_int, isi_int_int, isi_str_int, isi_tuple_int, isi_list_int, isi_dict_int, isi_NoneType_bool, isi_bool_bool, isi_int_bool, isi_str_bool, isi_tuple_bool, isi_list_bool, isi_dict_bool, isi_NoneType_str, isi_bool_str, isi_int_str, isi_str_str, isi_tuple_str, isi_list_str, isi_dict_str, isi_NoneType_tuple, isi_bool_tuple, isi_int_tuple, isi_str_tuple, isi_tuple_tuple, isi_list_tuple, isi_dict_tuple, isi_NoneType_list, isi_bool_list, isi_int_list, isi_str_list, isi_tuple_list, isi_list_list, isi_dict_list, isi_NoneType_dict, isi_bool_dict, isi_int_dict, isi_str_dict, isi_tuple_dict, isi_list_dict, isi_dict_dict, Bd__law_ring_1, Bd__law_mul_1, Bd__law_mul_2, Bd_ring_divide_1, Bd__law_is_ring_1, Bd_law_1, frzs_ints, isFzs_ints, c0, c1, c2, c3, c4, law_part, dg]
theorem law_ring' (ns : List Int) (k : Nat) (hb : ∀ z ∈ ns, Builtin.Int.intBits z ≤ 1048576) : ∃ a b c d, F__law_ring [O.lst false (ns.map .int), .int k] = some (encR a b c d, [none, none]) ∧ B 1048576 a ∧ B 1048576 b ∧ B 1048576 c ∧ B 1048576 d :=
  ⟨_, _, _, _, law_ring ns k, rpart_B (cell_B hb _) (by decide), rpart_B (cell_B hb _) (by decide), rpart_B (cell_B hb _) (by decide), rpart_B (cell_B hb _) (by decide)⟩
theorem law_mul (a b c d e f g h : Int) (H : ∀ x ∈ [a,b,c,d], ∀ y ∈ [e,f,g,h], mulOk x y = true) : F__law_mul [encR a b c d, encR e f g h] =
   some (encR (a * e - (b * h + c * g + d * f)) (a * f + b * e - (c * h + d * g)) (a * g + b * f + c * e - d * h) (a * h + b * g + c * f + d * e), [none, none]) := by
  simp only [List.forall_mem_cons, List.forall_mem_nil, and_true, List.not_mem_nil, false_implies, implies_true] at H
  simp [F__law_mul, dDef, dSeq, dIf, dTru, oBool, dBin, dBind, look_nil, look_z, look_s, dRet, dRetMv, dSkip, dAsg, dExpr, setS, dAug, gSet, gTupO, gsCons, gsNil, dTup, dLst, dCons, dNil, copyO, isFz, isFzs, Mini.fin, oAdd_i, oAddI_i, oAdd_l, oAdd_t, oMul_l, lineOk_n, oSub_i, oMul_i, oMod_i, oDiv_i, oAnd_i, oOr_i, oXor_i, oLt_i, oLe_i, oGt_i, oGe_i, oMax_i, oMin_i, negO_i, oAbs_i, oInt_i, oInt_b, oEq_i, oNe_i, eqv_ii, idx_t, idx_l, atI_z, atI_n, atI_lit, ixN_n, ixN_lit, len_t, len_l, oTru, oNot, vAnd, vOr, bAnd, bOr, bNot, dIte, mLog2, rngs_z, rngs_s, line_le, line_lt, dCall, views, okb, noFm, noFms, frz, frzs, dIt, itO, lFor, dFor, dRng1, dRng2, rOk_def, rOk0, dApp, dSetI, dFz, dCallX, dCallN, dDefX, dAsgR, dRetR, dExprR, dTry, dIsE, pick_rt, pick_nx, oBits_i, oIsN, oNotN, isNon, oIn, dChain, flatO, eqF_i, oList, oTuple, dLc, lLc, wipeE, dYes, keyO, kFind, kPut, oDIdx, oGet2, oDIn, dTri, dDct, dPCons, dPNil, dMerge, dSetD, dForK, keyB, dLend, dEnum, enumO, oEq_s, oNe_s, eqF_s, ofS_iff, oListD, kO, gIdx, gGet, gIn, List.set_cons_zero, List.set_cons_succ, List.replicate, isi_NoneType_int, isi_bool_int, isi_int_int, isi_str_int, isi_tuple_int, isi_list_int, isi_dict_int, isi_NoneType_bool, isi_bool_bool, isi_int_bool, isi_str_bool, isi_tuple_bool, isi_list_bool, isi_dict_bool, isi_NoneType_str, isi_bool_str, isi_int_str, isi_str_str, isi_tuple_str, isi_list_str, isi_dict_str, isi_NoneType_tuple, isi_bool_tuple, isi_int_tuple, isi_str_tuple, isi_tuple_tuple, isi_list_tuple, isi_dict_tuple, isi_NoneType_list, isi_bool_list, isi_int_list, isi_str_list, isi_tuple_list, isi_list_list, isi_dict_list, isi_NoneType_dict, isi_bool_dict, isi_int_dict, isi_str_dict, isi_tuple_dict, isi_list_dict, isi_dict_dict, Bd__law_ring_1, Bd__law_mul_1, Bd__law_mul_2, Bd_ring_divide_1, Bd__law_is_ring_1, Bd_law_1, H]
theorem r_mul0 (a b c d e f g h : Int) (H : ∀ x ∈ [a,b,c,d], ∀ y ∈ [e,f,g,h], mulOk x y = true) : F_ring_mul [encR a b c d, encR e f g h] =
   some (encR (a * e - b * h - c * g - d * f) (a * f + b * e - c * h - d * g) (a * g + b * f + c * e - d * h) (a * h + b * g + c * f + d * e), [none, none]) := by
  simp only [List.forall_mem_cons, List.forall_mem_nil, and_true, List.not_mem_nil, false_implies, implies_true] at H
  simp [F_ring_mul, dDef, dSeq, dIf, dTru, oBool, dBin, dBind, look_nil, look_z, look_s, dRet, dRetMv, dSkip, dAsg, dExpr, setS, dAug, gSet, gTupO, gsCons, gsNil, dTup, dLst, dCons, dNil, copyO, isFz, isFzs, Mini.fin, oAdd_i, oAddI_i, oAdd_l, oAdd_t, oMul_l, lineOk_n, oSub_i, oMul_i, oMod_i, oDiv_i, oAnd_i, oOr_i, oXor_i, oLt_i, oLe_i, oGt_i, oGe_i, oMax_i, oMin_i, negO_i, oAbs_i, oInt_i, oInt_b, oEq_i, oNe_i, eqv_ii, idx_t, idx_l, atI_z, atI_n, atI_lit, ixN_n, ixN_lit, len_t, len_l, oTru, oNot, vAnd, vOr, bAnd, bOr, bNot, dIte, mLog2, rngs_z, rngs_s, line_le, line_lt, dCall, views, okb, noFm, noFms, frz, frzs, dIt, itO, lFor, dFor, dRng1, dRng2, rOk_def, rOk0, dApp, dSetI, dFz, dCallX, dCallN, dDefX, dAsgR, dRetR, dExprR, dTry, dIsE, pick_rt, pick_nx, oBits_i, oIsN, oNotN, isNon, oIn, dChain, flatO, eqF_i, oList, oTuple, dLc, lLc, wipeE, dYes, keyO, kFind, kPut, oDIdx, oGet2, oDIn, dTri, dDct, dPCons, dPNil, dMerge, dSetD, dForK, keyB, dLend, dEnum, enumO, oEq_s, oNe_s, eqF_s, ofS_iff, oListD, kO, gIdx, gGet, gIn, List.set_cons_zero, List.set_cons_succ, List.replicate, isi_NoneType_int, isi_bool_int, isi_int_int, isi_str_int, isi_tuple_int, isi_list_int, isi_dict_int, isi_NoneType_bool, isi_bool_bool, isi_int_bool, isi_str_bool, isi_tuple_bool, isi_list_bool, isi_dict_bool, isi_NoneType_str, isi_bool_str, isi_int_str, isi_str_str, isi_tuple_str, isi_list_str, isi_dict_str, isi_NoneType_tuple, isi_bool_tuple, isi_int_tuple, isi_str_tuple, isi_tuple_tuple, isi_list_tuple, isi_dict_tuple, isi_NoneType_list, isi_bool_list, isi_int_list, isi_str_list, isi_tuple_list, isi_list_list, isi_dict_list, isi_NoneType_dict, isi_bool_dict, isi_int_dict, isi_str_dict, isi_tuple_dict, isi_list_dict, isi_dict_dict, Bd__law_ring_1, Bd__law_mul_1, Bd__law_mul_2, Bd_ring_divide_1, Bd__law_is_ring_1, Bd_law_1, H]
theorem muls {x y : R} {m : Nat} (hx : x.bd m) (hy : y.bd m) (hm : m ≤ 40000000) : ∀ u ∈ [x.a, x.b, x.c, x.d], ∀ v ∈ [y.a, y.b, y.c, y.d], mulOk u v = true := by
  obtain ⟨h1, h2, h3, h4⟩ := hx
  obtain ⟨g1, g2, g3, g4⟩ := hy
  have l : m + m < 100000000 := by omega
  simp [h1.ok g1 l, h1.ok g2 l, h1.ok g3 l, h1.ok g4 l, h2.ok g1 l, h2.ok g2 l, h2.ok g3 l, h2.ok g4 l, h3.ok g1 l, h3.ok g2 l, h3.ok g3 l, h3.ok g4 l, h4.ok g1 l, h4.ok g2 l, h4.ok g3 l, h4.ok g4 l]
theorem r_mul {x y : R} {m : Nat} (hx : x.bd m) (hy : y.bd m) (hm : m ≤ 40000000) : F_ring_mul [x.enc, y.enc] = some ((x.mul y).enc, [none, none]) := by
  rw [r_mul0 _ _ _ _ _ _ _ _ (muls hx hy hm)]
  simp only [R.mul, R.enc, Option.some.injEq, Prod.mk.injEq, List.cons.injEq, O.int.injEq, and_true, O.tup.injEq]
  omega
theorem l_mul {x y : R} {m : Nat} (hx : x.bd m) (hy : y.bd m) (hm : m ≤ 40000000) : F__law_mul [x.enc, y.enc] = some ((x.mul y).enc, [none, none]) :=
  law_mul _ _ _ _ _ _ _ _ (muls hx hy hm)
def qu (a b c d : Int) : Int := a * a + b * b + c * c + d * d
def qv (a b c d : Int) : Int := a * b + b * c + c * d - d * a
def nrm (a b c d : Int) : Int := qu a b c d * qu a b c d - 2 * qv a b c d * qv a b c d
theorem qu_B {n : Nat} {a b c d : Int} (ha : B n a) (hb : B n b) (hc : B n c) (hd : B n d) : B (2 * n + 3) (qu a b c d) :=
  ((((ha.mul ha).add (hb.mul hb)).add (hc.mul hc)).add (hd.mul hd)).mono (by omega)
theorem qv_B {n : Nat} {a b c d : Int} (ha : B n a) (hb : B n b) (hc : B n c) (hd : B n d) : B (2 * n + 3) (qv a b c d) :=
  ((((ha.mul hb).add (hb.mul hc)).add (hc.mul hd)).sub (hd.mul ha)).mono (by omega)
theorem nrm_B {n : Nat} {a b c d : Int} (ha : B n a) (hb : B n b) (hc : B n c) (hd : B n d) : B (4 * n + 10) (nrm a b c d) := by
  have u := qu_B ha hb hc hd
  have v := qv_B ha hb hc hd
  exact ((u.mul u).sub (((B.small (x := 2) (by decide) (by decide)).mul v).mul v)).mono (by omega)
theorem rl_abs {n : Nat} {a b c d : Int} (hn : n ≤ 10000000) (ha : B n a) (hb : B n b) (hc : B n c) (hd : B n d) : F_ring_abs_square [encR a b c d] = some (.tup [.int (qu a b c d), .int (qv a b c d)], [none]) := by
  have l : n + n < 100000000 := by omega
  simp [F_ring_abs_square, dDef, dSeq, dIf, dTru, oBool, dBin, dBind, look_nil, look_z, look_s, dRet, dRetMv, dSkip, dAsg, dExpr, setS, dAug, gSet, gTupO, gsCons, gsNil, dTup, dLst, dCons, dNil, copyO, isFz, isFzs, Mini.fin, oAdd_i, oAddI_i, oAdd_l, oAdd_t, oMul_l, lineOk_n, oSub_i, oMul_i, oMod_i, oDiv_i, oAnd_i, oOr_i, oXor_i, oLt_i, oLe_i, oGt_i, oGe_i, oMax_i, oMin_i, negO_i, oAbs_i, oInt_i, oInt_b, oEq_i, oNe_i, eqv_ii, idx_t, idx_l, atI_z, atI_n, atI_lit, ixN_n, ixN_lit, len_t, len_l, oTru, oNot, vAnd, vOr, bAnd, bOr, bNot, dIte, mLog2, rngs_z, rngs_s, line_le, line_lt, dCall, views, okb, noFm, noFms, frz, frzs, dIt, itO, lFor, dFor, dRng1, dRng2, rOk_def, rOk0, dApp, dSetI, dFz, dCallX, dCallN, dDefX, dAsgR, dRetR, dExprR, dTry, dIsE, pick_rt, pick_nx, oBits_i, oIsN, oNotN, isNon, oIn, dChain, flatO, eqF_i, oList, oTuple, dLc, lLc, wipeE, dYes, keyO, kFind, kPut, oDIdx, oGet2, oDIn, dTri, dDct, dPCons, dPNil, dMerge, dSetD, dForK, keyB, dLend, dEnum, enumO, oEq_s, oNe_s, eqF_s, ofS_iff, oListD, kO, gIdx, gGet, gIn, List.set_cons_zero, List.set_cons_succ, List.replicate, isi_NoneType_int, isi_bool_int, isi_int_int, isi_str_int, isi_tuple_int, isi_list_int, isi_dict_int, isi_NoneType_bool, isi_bool_bool, isi_int_bool, isi_str_bool, isi_tuple_bool, isi_list_bool, isi_dict_bool, isi_NoneType_str, isi_bool_str, isi_int_str, isi_str_str, isi_tuple_str, isi_list_str, isi_dict_str, isi_NoneType_tuple, isi_bool_tuple, isi_int_tuple, isi_str_tuple, isi_tuple_tuple, isi_list_tuple, isi_dict_tuple, isi_NoneType_list, isi_bool_list, isi_int_list, isi_str_list, isi_tuple_list, isi_list_list, isi_dict_list, isi_NoneType_dict, isi_bool_dict, isi_int_dict, isi_str_dict, isi_tuple_dict, isi_list_dict, isi_dict_dict, Bd__law_ring_1, Bd__law_mul_1, Bd__law_mul_2, Bd_ring_divide_1, Bd__law_is_ring_1, Bd_law_1, ha.ok ha l, hb.ok hb l, hc.ok hc l, hd.ok hd l, ha.ok hb l, hb.ok hc l, hc.ok hd l, hd.ok ha l, qu, qv]
theorem rl_norm {n : Nat} {a b c d : Int} (hn : n ≤ 10000000) (ha : B n a) (hb : B n b) (hc : B n c) (hd : B n d) : F_ring_norm [encR a b c d] = some (.int (nrm a b c d), [none]) := by
  have u := qu_B ha hb hc hd
  have v := qv_B ha hb hc hd
  have t : B 3 2 := B.small (by decide) (by decide)
  have o1 := u.ok u (by omega)
  have o2 := t.ok v (by omega)
  have o3 := (t.mul v).ok v (by omega)
  simp [F_ring_norm, dDef, dSeq, dIf, dTru, oBool, dBin, dBind, look_nil, look_z, look_s, dRet, dRetMv, dSkip, dAsg, dExpr, setS, dAug, gSet, gTupO, gsCons, gsNil, dTup, dLst, dCons, dNil, copyO, isFz, isFzs, Mini.fin, oAdd_i, oAddI_i, oAdd_l, oAdd_t, oMul_l, lineOk_n, oSub_i, oMul_i, oMod_i, oDiv_i, oAnd_i, oOr_i, oXor_i, oLt_i, oLe_i, oGt_i, oGe_i, oMax_i, oMin_i, negO_i, oAbs_i, oInt_i, oInt_b, oEq_i, oNe_i, eqv_ii, idx_t, idx_l, atI_z, atI_n, atI_lit, ixN_n, ixN_lit, len_t, len_l, oTru, oNot, vAnd, vOr, bAnd, bOr, bNot, dIte, mLog2, rngs_z, rngs_s, line_le, line_lt, dCall, views, okb, noFm, noFms, frz, frzs, dIt, itO, lFor, dFor, dRng1, dRng2, rOk_def, rOk0, dApp, dSetI, dFz, dCallX, dCallN, dDefX, dAsgR, dRetR, dExprR, dTry, dIsE, pick_rt, pick_nx, oBits_i, oIsN, oNotN, isNon, oIn, dChain, flatO, eqF_i, oList, oTuple, dLc, lLc, wipeE, dYes, keyO, kFind, kPut, oDIdx, oGet2, oDIn, dTri, dDct, dPCons, dPNil, dMerge, dSetD, dForK, keyB, dLend, dEnum, enumO, oEq_s, oNe_s, eqF_s, ofS_iff, oListD, kO, gIdx, gGet, gIn, List.set_cons_zero, List.set_cons_succ, List.replicate, isi_NoneType_int, isi_bool_int, isi_int_int, isi_str_int, isi_tuple_int, isi_list_int, isi_dict_int, isi_NoneType_bool, isi_bool_bool, isi_int_bool, isi_str_bool, isi_tuple_bool, isi_list_bool, isi_dict_bool, isi_NoneType_str, isi_bool_str, isi_int_str, isi_str_str, isi_tuple_str, isi_list_str, isi_dict_str, isi_NoneType_tuple, isi_bool_tuple, isi_int_tuple, isi_str_tuple, isi_tuple_tuple, isi_list_tuple, isi_dict_tuple, isi_NoneType_list, isi_bool_list, isi_int_list, isi_str_list, isi_tuple_list, isi_list_list, isi_dict_list, isi_NoneType_dict, isi_bool_dict, isi_int_dict, isi_str_dict, isi_tuple_dict, isi_list_dict, isi_dict_dict, Bd__law_ring_1, Bd__law_mul_1, Bd__law_mul_2, Bd_ring_divide_1, Bd__law_is_ring_1, Bd_law_1, rl_abs hn ha hb hc hd, o1, o2, o3, nrm]
theorem nrm_sq (a b c d : Int) : nrm a b c d = (a*a-c*c+2*b*d)*(a*a-c*c+2*b*d) + (2*a*c-b*b+d*d)*(2*a*c-b*b+d*d) := by
  unfold nrm qu qv
  grind
theorem sq_nn (x : Int) : 0 ≤ x * x := by
  rcases Int.le_total 0 x with h | h
  · exact Int.mul_nonneg h h
  · exact Int.mul_nonneg_of_nonpos_of_nonpos h h
theorem nrm_nn (a b c d : Int) : 0 ≤ nrm a b c d := by
  rw [nrm_sq]
  exact Int.add_nonneg (sq_nn _) (sq_nn _)
theorem rl_conj (a b c d : Int) : F_ring_conjugate [encR a b c d] = some (encR a (-d) (-c) (-b), [none]) := rfl
theorem rl_rc (u v : Int) : F__root_conjugate [.tup [.int u, .int v]] = some (encR u (-v) 0 v, [none]) := rfl
theorem mul_as (x y z : R) : (x.mul y).mul z = x.mul (y.mul z) := R.ext4 (by simp only [R.mul]; grind) (by simp only [R.mul]; grind) (by simp only [R.mul]; grind) (by simp only [R.mul]; grind)
theorem mul_cm (x y : R) : x.mul y = y.mul x := R.ext4 (by simp only [R.mul]; grind) (by simp only [R.mul]; grind) (by simp only [R.mul]; grind) (by simp only [R.mul]; grind)
/-- the number, its absolute square and the second factor of its norm -/
def uR (y : R) : Int := qu y.a y.b y.c y.d
def vR (y : R) : Int := qv y.a y.b y.c y.d
def nR (y : R) : Int := nrm y.a y.b y.c y.d
def sR (y : R) : R := ⟨uR y, -vR y, 0, vR y⟩
theorem y_cj (y : R) : y.mul y.cj = ⟨uR y, vR y, 0, -vR y⟩ := R.ext4 (by simp only [R.mul, R.cj, uR, qu]; grind) (by simp only [R.mul, R.cj, vR, qv]; grind) (by simp only [R.mul, R.cj]; grind) (by simp only [R.mul, R.cj, vR, qv]; grind)
theorem y_nrm (y : R) : (y.mul y.cj).mul (sR y) = ⟨nR y, 0, 0, 0⟩ := by
  rw [y_cj]
  have e : nR y = uR y * uR y - 2 * vR y * vR y := rfl
  rw [e]
  unfold sR
  generalize uR y = U
  generalize vR y = V
  exact R.ext4 (by simp only [R.mul]; grind) (by simp only [R.mul]; grind) (by simp only [R.mul]; grind) (by simp only [R.mul]; grind)
/-- the product that is divided -/
def pR (x y : R) : R := x.mul (y.cj.mul (sR y))
theorem p_y (x y : R) : (pR x y).mul y = x.mul ⟨nR y, 0, 0, 0⟩ := by
  unfold pR
  rw [mul_as, mul_cm _ y, ← mul_as y, y_nrm]
def whole (x y : R) : Prop := nR y ≠ 0 ∧ (pR x y).a % nR y = 0 ∧ (pR x y).b % nR y = 0 ∧ (pR x y).c % nR y = 0 ∧ (pR x y).d % nR y = 0
instance (x y : R) : Decidable (whole x y) := by unfold whole; infer_instance
def qR (x y : R) : R := ⟨(pR x y).a / nR y, (pR x y).b / nR y, (pR x y).c / nR y, (pR x y).d / nR y⟩
theorem q_y {x y : R} (h : whole x y) : (qR x y).mul y = x := by
  obtain ⟨h0, h1, h2, h3, h4⟩ := h
  have p := p_y x y
  have d1 := Int.mul_ediv_cancel' (Int.dvd_of_emod_eq_zero h1)
  have d2 := Int.mul_ediv_cancel' (Int.dvd_of_emod_eq_zero h2)
  have d3 := Int.mul_ediv_cancel' (Int.dvd_of_emod_eq_zero h3)
  have d4 := Int.mul_ediv_cancel' (Int.dvd_of_emod_eq_zero h4)
  unfold qR
  generalize pR x y = P at *
  generalize nR y = n at *
  generalize P.a / n = q1 at *
  generalize P.b / n = q2 at *
  generalize P.c / n = q3 at *
  generalize P.d / n = q4 at *
  have e1 := congrArg R.a p; have e2 := congrArg R.b p; have e3 := congrArg R.c p; have e4 := congrArg R.d p
  simp only [R.mul] at e1 e2 e3 e4
  rw [← d1, ← d2, ← d3, ← d4] at e1 e2 e3 e4
  have key : ∀ z w : Int, n * z = n * w → z = w := fun z w h => Int.eq_of_mul_eq_mul_left h0 h
  exact R.ext4 (key _ _ (by simp only [R.mul]; grind)) (key _ _ (by simp only [R.mul]; grind)) (key _ _ (by simp only [R.mul]; grind)) (key _ _ (by simp only [R.mul]; grind))
section
local macro_rules | `(tactic| array_mem_dec) => `(tactic| fail)
local macro_rules | `(tactic| sizeOf_list_dec) => `(tactic| first | rfl | with_reducible assumption | array_mem_dec | omega | (simp only [List.length_map, List.length_set, List.length_append, List.length_range, List.length_cons, List.length_nil]; omega) | (simp [okb, isFz, isFzs, noFm, noFms, -List.map_map]; done))
local macro_rules | `(tactic| array_get_dec) => `(tactic| repeat' first
  | with_reducible exact Mini.ev_some
  | with_reducible assumption
  | ((with_reducible apply Mini.ev_look); rfl)
  | with_reducible apply Mini.ev_bin
  | with_reducible apply Mini.ev_bind
  | with_reducible apply Mini.ev_tru
  | with_reducible exact Mini.ev_nil
  | with_reducible apply Mini.env_c
  | with_reducible exact Mini.env_z
  | with_reducible apply Mini.env_s
  | with_reducible apply Mini.ev_cons
  | with_reducible apply Mini.ev_tup
  | with_reducible apply Mini.ev_lst
  | ((with_reducible apply Mini.ev_len16); (focus (exact (Nat.le_of_ble_eq_true rfl))))
  | with_reducible apply Mini.ev_call
  | with_reducible apply Mini.ev_callN
  | with_reducible apply Mini.ev_callX
  | with_reducible exact Mini.vw_nil
  | with_reducible apply Mini.vw_t
  | with_reducible apply Mini.vw_f
  | with_reducible exact Mini.fz_i
  | with_reducible exact Mini.fz_b
  | with_reducible exact Mini.fz_s
  | with_reducible exact Mini.fz_n
  | with_reducible apply Mini.fz_t
  | with_reducible apply Mini.fz_l
  | with_reducible apply Mini.fz_d
  | with_reducible apply Mini.fz_o
  | with_reducible exact Mini.fzs_n
  | with_reducible apply Mini.fzs_c
  | with_reducible exact Mini.fzs_i
  | with_reducible exact Mini.oAdd_i _ _
  | with_reducible exact Mini.oAddI_i _ _
  | with_reducible exact Mini.oSub_i _ _
  | ((with_reducible apply Mini.ev_mul); omega)
  | ((with_reducible apply Mini.ev_mod); omega)
  | ((with_reducible apply Mini.ev_div); omega)
  | with_reducible exact Mini.negO_i _
  | with_reducible exact Mini.oAbs_i _
  | with_reducible exact Mini.oInt_i _
  | with_reducible exact Mini.oInt_b _
  | with_reducible exact Mini.oLt_i _ _
  | with_reducible exact Mini.oLe_i _ _
  | with_reducible exact Mini.oGt_i _ _
  | with_reducible exact Mini.oGe_i _ _
  | with_reducible exact Mini.oEq_i _ _
  | with_reducible exact Mini.oNe_i _ _
  | with_reducible exact Mini.oMax_i _ _
  | with_reducible exact Mini.oMin_i _ _
  | with_reducible exact Mini.oEq_s _ _
  | with_reducible exact Mini.oNe_s _ _
  | with_reducible exact Mini.len_t _
  | with_reducible exact Mini.len_l _ _
  | with_reducible exact Mini.isi_int_int _
  | with_reducible exact Mini.isi_int_bool _
  | with_reducible exact Mini.isi_bool_bool _
  | with_reducible exact Mini.isi_tuple_tuple _
  | with_reducible exact Mini.isi_list_list _ _
  | with_reducible exact Mini.isi_str_str _
  | with_reducible apply Mini.ev_idx_t
  | with_reducible apply Mini.ev_idx_l
  | with_reducible exact Mini.ev_at_z
  | ((with_reducible apply Mini.ev_at_l); (focus (first | rfl | with_reducible assumption | array_mem_dec)))
  | with_reducible apply Mini.ev_at_n
  | with_reducible apply Mini.ev_ge_map
  | with_reducible apply Mini.ev_copy
  | with_reducible apply Mini.ev_gSet
  | with_reducible exact Mini.setE_z
  | with_reducible apply Mini.setE_s
  | with_reducible exact Mini.ev_gsNil
  | with_reducible apply Mini.ev_gsCons
  | ((with_reducible apply Mini.ev_gTup); (focus rfl))
  | with_reducible apply Mini.ev_bnot
  | with_reducible apply Mini.ev_band
  | with_reducible apply Mini.ev_bor
  | with_reducible apply Mini.ev_vand
  | with_reducible apply Mini.ev_vor
  | with_reducible exact Mini.ev_not
  | with_reducible apply Mini.ev_isE
  | with_reducible apply Mini.ev_it
  | with_reducible exact Mini.it_tl
  | with_reducible apply Mini.it_tt
  | with_reducible apply Mini.it_fl
  | with_reducible apply Mini.it_ft
  | with_reducible apply Mini.ev_rng1
  | ((with_reducible apply Mini.ev_n62); (focus omega))
  | with_reducible apply Mini.ev_rng2
  | ((with_reducible apply Mini.ev_r2); (focus omega))
  | with_reducible apply Mini.ev_enum
  | with_reducible apply Mini.ev_list
  | with_reducible apply Mini.ev_list_t
  | with_reducible apply Mini.ev_tuple
  | with_reducible apply Mini.ev_tuple_t
  | with_reducible exact Mini.ev_xorN
  | with_reducible exact Mini.ev_andN1
  | with_reducible exact Mini.ev_andN
  | with_reducible exact Mini.ev_orN
  | with_reducible exact Mini.ev_shrN
  | ((with_reducible apply Mini.ev_shl1); (focus omega))
  | ((with_reducible apply Mini.ev_shlN); (focus omega))
  | with_reducible exact Mini.ev_bitsN
  | with_reducible apply Mini.ai_n
  | ((with_reducible apply Mini.af_o); (focus (exact (Nat.le_of_ble_eq_true rfl))))
  | with_reducible exact Mini.oXor_i _ _
  | with_reducible exact Mini.oAnd_i _ _
  | with_reducible exact Mini.oOr_i _ _
  | ((with_reducible apply Mini.ok_m); (focus (array_get_dec; done)))
  | ((with_reducible apply Mini.ok_z); (focus (array_get_dec; done)))
  | with_reducible exact Mini.nfm_i
  | with_reducible exact Mini.nfm_b
  | with_reducible exact Mini.nfm_s
  | with_reducible exact Mini.nfm_n
  | with_reducible exact Mini.nofms_nat
  | with_reducible exact Mini.nofms_i
  | with_reducible apply Mini.nfm_l
  | with_reducible apply Mini.nfm_t
  | with_reducible apply Mini.nfm_o
  | with_reducible apply Mini.nfm_d
  | with_reducible exact Mini.nfms_n
  | with_reducible apply Mini.nfms_c
  | with_reducible exact Mini.ifz_i
  | with_reducible exact Mini.ifz_b
  | with_reducible exact Mini.ifz_s
  | with_reducible exact Mini.ifz_n
  | with_reducible exact Mini.isfzs_nat
  | with_reducible exact Mini.isfzs_i
  | with_reducible apply Mini.ifz_l
  | with_reducible apply Mini.ifz_t
  | with_reducible apply Mini.ifz_o
  | with_reducible apply Mini.ifz_d
  | with_reducible exact Mini.ifzs_n
  | with_reducible apply Mini.ifzs_c
  | with_reducible exact Mini.okb_nil
  | with_reducible apply Mini.okb_f
  | with_reducible apply Mini.okb_t
  | with_reducible exact Mini.ev_tru_b
  | with_reducible exact Mini.ev_bool
  | with_reducible exact Mini.ev_tru_i
  | with_reducible exact Mini.ev_tru_t
  | with_reducible exact Mini.ev_tru_l
  | ((with_reducible apply Mini.ev_lstRg); (focus omega))
  | with_reducible exact Mini.ev_sort
  | with_reducible apply Mini.ev_fld
  | with_reducible apply Mini.ev_prop
  | with_reducible apply Mini.ev_meth
  | with_reducible exact Mini.ev_pFl0
  | with_reducible exact Mini.ev_pNil
  | with_reducible apply Mini.ev_pFl
  | with_reducible apply Mini.ev_pIx
  | with_reducible apply Mini.modP_nil
  | with_reducible apply Mini.modP_fl
  | with_reducible apply Mini.modP_ix
  | ((with_reducible apply Mini.ev_ixN); (focus sizeOf_list_dec))
  | ((with_reducible apply Mini.ev_ixN0); (focus sizeOf_list_dec))
  | ((with_reducible apply Mini.st_n); (focus sizeOf_list_dec))
  | ((with_reducible apply Mini.ap_n); (focus sizeOf_list_dec))
  | with_reducible apply Mini.ev_makeR
  | ((with_reducible apply Mini.ev_lend0); (focus rfl))
  | ((with_reducible apply Mini.ev_lendR); (focus rfl))
  | with_reducible exact Mini.fzs_nat
  | with_reducible exact Mini.natO_frz _
  | ((with_reducible apply Mini.ev_fldO); (focus rfl))
  | with_reducible exact Mini.putO_hit
  | with_reducible exact Mini.putN_hit
  | ((with_reducible apply Mini.putO_miss); (focus (simp only [ne_eq, Mini.ofS_iff]; decide)))
  | ((with_reducible apply Mini.putN_miss); (focus (simp only [ne_eq, Mini.ofS_iff]; decide)))
  | with_reducible exact Mini.putO_nil
  | with_reducible exact Mini.putN_nil
  | ((with_reducible apply Mini.ev_isObj); (focus rfl))
  | (with_reducible exact Mini.EqC.oEqL Mini.EqC.nat (Nat.le_of_ble_eq_true rfl) _ _ _ _)
  | (with_reducible exact Mini.EqC.oNeL Mini.EqC.nat (Nat.le_of_ble_eq_true rfl) _ _ _ _)
  | (with_reducible exact Mini.EqC.oEqL Mini.EqC.int (Nat.le_of_ble_eq_true rfl) _ _ _ _)
  | (with_reducible exact Mini.EqC.oNeL Mini.EqC.int (Nat.le_of_ble_eq_true rfl) _ _ _ _)
  | array_mem_dec)
local macro_rules | `(tactic| decreasing_trivial_pre_omega) => `(tactic| first
  | with_reducible apply Mini.wp_seq
  | with_reducible apply Mini.sq_nx
  | with_reducible apply Mini.sq_rt
  | with_reducible apply Mini.sq_er
  | with_reducible apply Mini.sq_bk
  | with_reducible apply Mini.sq_ct
  | with_reducible apply Mini.lp_rt
  | with_reducible apply Mini.ct_rt
  | with_reducible apply Mini.ct_er
  | with_reducible apply Mini.ct_bk
  | with_reducible apply Mini.ct_ct
  | with_reducible apply Mini.tq_nx
  | with_reducible apply Mini.tq_rtn
  | with_reducible apply Mini.lp_er
  | with_reducible apply Mini.lp_bk
  | with_reducible exact Mini.ends_rt
  | ((with_reducible apply Mini.ends_of); (focus (first | rfl | with_reducible assumption | (simp; done))))
  | with_reducible exact Mini.raises_er
  | ((with_reducible apply Mini.wp_asg); (focus (array_get_dec; done)); (focus (array_get_dec; done)))
  | with_reducible apply Mini.wp_skip
  | ((with_reducible apply Mini.wp_ret); (focus (array_get_dec; done)))
  | ((with_reducible apply Mini.wp_retmv); (focus rfl); (focus (array_get_dec; done)))
  | ((with_reducible apply Mini.wp_fz); (focus rfl); (focus (array_get_dec; done)); (focus (array_get_dec; done)))
  | ((with_reducible apply Mini.wp_expr); (focus (array_get_dec; done)))
  | ((with_reducible apply Mini.wp_app); (focus rfl); (focus (array_get_dec; done)); (focus sizeOf_list_dec); (focus (array_get_dec; done)))
  | ((with_reducible apply Mini.wp_setI); (focus (array_get_dec; done)); (focus rfl); (focus (array_get_dec; done)); (focus (array_get_dec; done)); (focus (array_get_dec; done)))
  | ((with_reducible apply Mini.wp_aug); (focus rfl); (focus (array_get_dec; done)); (focus (array_get_dec; done)); (focus (array_get_dec; done)))
  | ((with_reducible apply Mini.wp_for); (focus (array_get_dec; done)))
  | ((with_reducible apply Mini.wp_asgR); (focus (array_get_dec; done)); (focus (array_get_dec; done)))
  | ((with_reducible apply Mini.wp_retR); (focus (array_get_dec; done)))
  | ((with_reducible apply Mini.wp_exprR); (focus (array_get_dec; done)))
  | ((with_reducible apply Mini.wp_setF); (focus (array_get_dec; done)); (focus rfl); (focus (exact (Nat.le_of_ble_eq_true rfl))); (focus (array_get_dec; done)); (focus (array_get_dec; done)); (focus (array_get_dec; done)))
  | ((with_reducible apply Mini.wp_setP); (focus (array_get_dec; done)); (focus (array_get_dec; done)); (focus rfl); (focus (array_get_dec; done)); (focus (array_get_dec; done)); (focus (array_get_dec; done)))
  | ((with_reducible apply Mini.wp_appP); (focus (array_get_dec; done)); (focus rfl); (focus (array_get_dec; done)); (focus (array_get_dec; done)); (focus (array_get_dec; done)))
  | ((with_reducible apply Mini.wp_augF); (focus (array_get_dec; done)); (focus rfl); (focus (array_get_dec; done)); (focus (array_get_dec; done)); (focus (array_get_dec; done)))
  | ((with_reducible apply Mini.wp_augP); (focus (array_get_dec; done)); (focus (array_get_dec; done)); (focus rfl); (focus (array_get_dec; done)); (focus (array_get_dec; done)); (focus (array_get_dec; done)))
  | ((with_reducible apply Mini.wp_ift2); (focus (array_get_dec; done)); (focus (first | rfl | with_reducible assumption)))
  | ((with_reducible apply Mini.wp_iff2); (focus (array_get_dec; done)); (focus (first | rfl | with_reducible assumption)))
  | ((with_reducible apply Mini.wp_ifN); (focus (array_get_dec; done)))
  | with_reducible apply Mini.wp_some)
local macro_rules | `(tactic| decreasing_trivial_pre_omega) => `(tactic| first
  | ((with_reducible apply Mini.wp_star); (focus (array_get_dec; done)); (focus (array_get_dec; done)); (focus (array_get_dec; done)); (focus (array_get_dec; done)))
  | ((with_reducible apply Mini.wp_lend); (focus (array_get_dec; done)); (focus (array_get_dec; done)); (focus (array_get_dec; done)); (focus (array_get_dec; done)); (focus rfl); (focus (array_get_dec; done)); (focus (array_get_dec; done)))
  | ((with_reducible apply Mini.wp_ext); (focus rfl); (focus (array_get_dec; done)); (focus sizeOf_list_dec); (focus (array_get_dec; done))))
theorem R.bd.mul {m n : Nat} {x y : R} (h : x.bd m) (k : y.bd n) : (x.mul y).bd (m + n + 3) := by
  obtain ⟨h1, h2, h3, h4⟩ := h
  obtain ⟨k1, k2, k3, k4⟩ := k
  refine ⟨?_, ?_, ?_, ?_⟩
  · exact ((h1.mul k1).sub ((((h2.mul k4).add (h3.mul k3))).add (h4.mul k2))).mono (by omega)
  · exact (((h1.mul k2).add (h2.mul k1)).sub ((h3.mul k4).add (h4.mul k3))).mono (by omega)
  · exact ((((h1.mul k3).add (h2.mul k2)).add (h3.mul k1)).sub (h4.mul k4)).mono (by omega)
  · exact ((((h1.mul k4).add (h2.mul k3)).add (h3.mul k2)).add (h4.mul k1)).mono (by omega)
theorem natAbs_fdiv_le {p n : Int} (h : 0 < n) : (p.fdiv n).natAbs ≤ p.natAbs := by
  rw [Int.fdiv_eq_ediv_of_nonneg p (by omega)]
  exact Int.natAbs_ediv_le_natAbs p n
theorem oMod_p {i j : Int} (h : 0 < j) : oMod (.int i) (.int j) = some (.int (i % j)) := by rw [oMod_i, if_pos h]
theorem oDivP_p {i j : Int} (h : 0 < j) : oDivP (.int i) (.int j) = some (.int (i / j)) := by
  have e : oDivP (.int i) (.int j) = (if decide (j ≠ 0) = true then some (O.int (i.fdiv j)) else none) := rfl
  rw [e, if_pos (by rw [decide_eq_true_eq]; omega), Int.fdiv_eq_ediv_of_nonneg i (by omega)]
/-- the facts of a division -/
structure Fac (x y : R) : Prop where
  n : ∃ f, F_ring_norm [y.enc] = some (.int (nR y), f)
  c : ∃ f, F_ring_conjugate [y.enc] = some (y.cj.enc, f)
  a : ∃ f, F_ring_abs_square [y.enc] = some (.tup [.int (uR y), .int (vR y)], f)
  r : ∃ f, F__root_conjugate [.tup [.int (uR y), .int (vR y)]] = some ((sR y).enc, f)
  m : ∃ f, F_ring_mul [y.cj.enc, (sR y).enc] = some ((y.cj.mul (sR y)).enc, f)
  p : ∃ f, F_ring_mul [x.enc, (y.cj.mul (sR y)).enc] = some ((pR x y).enc, f)
theorem sR_bd {y : R} {m : Nat} (hy : y.bd m) : (sR y).bd (2 * m + 3) := by
  obtain ⟨h1, h2, h3, h4⟩ := hy
  have u := qu_B h1 h2 h3 h4
  have v := qv_B h1 h2 h3 h4
  exact ⟨u, v.neg, (B.small (x := 0) (by decide) (by decide)).mono (by omega), v⟩
theorem cj_bd {y : R} {m : Nat} (hy : y.bd m) : y.cj.bd m := ⟨hy.1, hy.2.2.2.neg, hy.2.2.1.neg, hy.2.1.neg⟩
theorem fac {x y : R} {m : Nat} (hm : m ≤ 5000000) (hx : x.bd m) (hy : y.bd m) : Fac x y := by
  have hs := sR_bd hy
  have hc := cj_bd hy
  have hp : (y.cj.mul (sR y)).bd (3 * m + 6) := R.bd.mono (R.bd.mul hc hs) (by omega)
  refine ⟨⟨_, rl_norm (by omega) hy.1 hy.2.1 hy.2.2.1 hy.2.2.2⟩, ⟨_, rl_conj _ _ _ _⟩, ⟨_, rl_abs (by omega) hy.1 hy.2.1 hy.2.2.1 hy.2.2.2⟩, ⟨_, rl_rc _ _⟩, ⟨_, r_mul (m := 2 * m + 3) (R.bd.mono hc (by omega)) hs (by omega)⟩, ⟨_, r_mul (m := 3 * m + 6) (R.bd.mono hx (by omega)) hp (by omega)⟩⟩
def parts (x : R) : List Int := [x.a, x.b, x.c, x.d]
theorem whole_iff (x y : R) : whole x y ↔ nR y ≠ 0 ∧ ∀ p ∈ parts (pR x y), p % nR y = 0 := by
  unfold whole parts
  simp only [List.forall_mem_cons, List.not_mem_nil, false_implies, implies_true, and_true]
theorem s_div {x y : R} {m : Nat} (hm : m ≤ 5000000) (hx : x.bd m) (hy : y.bd m) :
    (whole x y → ∃ f, F_ring_divide [x.enc, y.enc] = some (.ok (qR x y).enc f)) ∧ (¬ whole x y → ∃ f, F_ring_divide [x.enc, y.enc] = some (.er 1 f)) := by
  obtain ⟨⟨f1, e1⟩, ⟨f2, e2⟩, ⟨f3, e3⟩, ⟨f4, e4⟩, ⟨f5, e5⟩, ⟨f6, e6⟩⟩ := fac hm hx hy
  have nn : 0 ≤ nR y := nrm_nn _ _ _ _
  have wi := whole_iff x y
  have hq : qR x y = ⟨(pR x y).a / nR y, (pR x y).b / nR y, (pR x y).c / nR y, (pR x y).d / nR y⟩ := rfl
  have en : ∀ z : R, frz z.enc = z.enc := fun _ => rfl
  have ef : ∀ z : R, isFz z.enc = true := fun _ => rfl
  have em : ∀ z : R, noFm z.enc = true := fun _ => rfl
  have ep : (pR x y).enc = .tup ((parts (pR x y)).map O.int) := rfl
  have q0 : oEq (.int (nR y)) (.int 0) = some (.bl (decide (nR y = 0))) := oEq_i _ _
  generalize hP : pR x y = P at *
  generalize hF : y.cj.mul (sR y) = F at *
  have fx := en x
  have fy := en y
  have fF := en F
  have mF := em F
  have fP := en P
  have zP := ef P
  have mP := em P
  have mC := em y.cj
  have fC := en y.cj
  have mS := em (sR y)
  generalize nR y = n at *
  generalize hX : x.enc = X at *
  generalize hY : y.enc = Y at *
  generalize hFe : F.enc = FE at *
  generalize y.cj.enc = CE at *
  generalize (sR y).enc = SE at *
  generalize uR y = U at *
  generalize vR y = V at *
  have c1 : dCall [true] F_ring_norm (dCons (fun ρ => look ρ 1) dNil) [some X, some Y, none, none, none, none, none, none, none, none] = some (.int n) := ev_call (vs := [Y]) (ev_cons rfl ev_nil) (by show [frz Y] = _; rw [fy]) e1 (ok_fm rfl)
  have c2 : dCall [true] F_ring_conjugate (dCons (fun ρ => look ρ 1) dNil) [some X, some Y, some (.int n), none, none, none, none, none, none, none] = some CE := ev_call (vs := [Y]) (ev_cons rfl ev_nil) (by show [frz Y] = _; rw [fy]) e2 (by rw [mC, Bool.or_true])
  have c3 : dCall [true] F_ring_abs_square (dCons (fun ρ => look ρ 1) dNil) [some X, some Y, some (.int n), none, none, none, none, none, none, none] = some (.tup [.int U, .int V]) := ev_call (vs := [Y]) (ev_cons rfl ev_nil) (by show [frz Y] = _; rw [fy]) e3 (ok_fm rfl)
  have c4 := ev_call (ks := [false]) (Ff := F__root_conjugate) (ev_cons c3 ev_nil) rfl e4 (by rw [mS, Bool.or_true])
  have c5 := ev_call (ks := [false, false]) (Ff := F_ring_mul) (ev_cons c2 (ev_cons c4 ev_nil)) rfl e5 (by rw [mF, Bool.or_true])
  have c6 : dCall [true, true] F_ring_mul (dCons (fun ρ => look ρ 0) (dCons (fun ρ => look ρ 3) dNil)) [some X, some Y, some (.int n), some FE, none, none, none, none, none, none] = some P.enc := ev_call (vs := [X, FE]) (ev_cons rfl (ev_cons rfl ev_nil)) (by show [frz X, frz FE] = _; rw [fx, fF]) e6 (by rw [mP, Bool.or_true])
  have body : ∀ (p : Int) (a : List (Option O)), a.length = 4 → 0 < n → dTru oBool (dBin oNe (dBin oMod (fun ρ => look ρ 5) (fun ρ => look ρ 2)) (fun _ => some (.int 0))) ([some X, some Y, some (.int n), some FE, some P.enc, some (.int p)] ++ a) = some (!decide (p % n = 0)) := fun p a ha hn => by
    refine ev_tru (ev_bin (ev_bin rfl rfl (oMod_p hn)) rfl (oNe_i _ _)) ?_
    show some (decide (p % n ≠ 0)) = _
    by_cases h : p % n = 0
    · rw [decide_eq_true h, decide_eq_false (by simpa using h)]; rfl
    · rw [decide_eq_false h, decide_eq_true h]; rfl
  have it : dIt true (fun ρ => look ρ 4) [some X, some Y, some (.int n), some FE, some P.enc, none, none, none, none, none] = some ((parts P).map O.int) := ev_it rfl (it_tt rfl)
  constructor
  · intro hw
    obtain ⟨h0, hall⟩ := wi.mp hw
    have hn : 0 < n := by omega
    unfold F_ring_divide
    apply defX_wp rfl
    · array_get_dec
    apply wp_seq
    refine wp_asg (ρ' := [some X, some Y, some (.int n), none, none, none, none, none, none, none]) c1 rfl (sq_nx ?_)
    apply wp_seq
    refine wp_iff2 (v := decide (n = 0)) (ev_tru (ev_bin rfl rfl q0) rfl) (decide_eq_false h0) (wp_skip (sq_nx ?_))
    apply wp_seq
    refine wp_asg (ρ' := [some X, some Y, some (.int n), some FE, none, none, none, none, none, none]) c5 rfl (sq_nx ?_)
    apply wp_seq
    refine wp_fz (ρ' := [some X, some Y, some (.int n), some FE, none, none, none, none, none, none]) rfl fF (setE_s (setE_s (setE_s setE_z))) (sq_nx ?_)
    apply wp_seq
    refine wp_asg (ρ' := [some X, some Y, some (.int n), some FE, some P.enc, none, none, none, none, none]) c6 rfl (sq_nx ?_)
    apply wp_seq
    refine wp_fz (ρ' := [some X, some Y, some (.int n), some FE, some P.enc, none, none, none, none, none]) rfl fP (setE_s (setE_s (setE_s (setE_s setE_z)))) (sq_nx ?_)
    apply wp_seq
    refine wp_for it ?_
    refine wl_map (fun _ ρ => ∃ a5, ρ = [some X, some Y, some (.int n), some FE, some P.enc, a5, none, none, none, none]) O.int (parts P) [] _ ?_ ?_ ?_
    · exact ⟨_, rfl⟩
    · rintro d p r ρ hd ⟨a5, rfl⟩
      refine ⟨[some X, some Y, some (.int n), some FE, some P.enc, some (.int p), none, none, none, none], rfl, ?_⟩
      have hp := hall p (by rw [List.nil_append] at hd; rw [hd]; simp)
      unfold Bd_ring_divide_1
      refine wp_iff2 (v := !decide (p % n = 0)) (body p [none, none, none, none] rfl hn) (by rw [decide_eq_true hp]; rfl) (wp_skip (lp_nx ⟨_, rfl⟩))
    · rintro ρ ⟨a5, rfl⟩
      refine sq_nx ?_
      apply wp_seq
      refine wp_fz (ρ' := [some X, some Y, some (.int n), some FE, some P.enc, a5, none, none, none, none]) rfl fP (setE_s (setE_s (setE_s (setE_s setE_z)))) (sq_nx ?_)
      apply wp_seq
      refine wp_asg (o := P.enc) (ρ' := [some X, some Y, some (.int n), some FE, some P.enc, a5, some (.int P.a), some (.int P.b), some (.int P.c), some (.int P.d)]) rfl rfl (sq_nx ?_)
      have tp : ∀ (d1 d2 d3 d4 : Mini.Env → Option O) (ρ : Mini.Env) (o1 o2 o3 o4 : O), d1 ρ = some o1 → d2 ρ = some o2 → d3 ρ = some o3 → d4 ρ = some o4 → dTup (dCons d1 (dCons d2 (dCons d3 (dCons d4 dNil)))) ρ = some (.tup [o1, o2, o3, o4]) := fun d1 d2 d3 d4 ρ o1 o2 o3 o4 h1 h2 h3 h4 => ev_tup (ev_cons h1 (ev_cons h2 (ev_cons h3 (ev_cons h4 ev_nil)))) (Nat.le_of_ble_eq_true rfl)
      refine wp_ret (tp _ _ _ _ _ _ _ _ _ (ev_bin rfl rfl (oDivP_p hn)) (ev_bin rfl rfl (oDivP_p hn)) (ev_bin rfl rfl (oDivP_p hn)) (ev_bin rfl rfl (oDivP_p hn))) ?_
      rw [hq]
      exact ends_rt
  · intro hw
    unfold F_ring_divide
    apply defX_er rfl
    · array_get_dec
    apply wp_seq
    refine wp_asg (ρ' := [some X, some Y, some (.int n), none, none, none, none, none, none, none]) c1 rfl (sq_nx ?_)
    apply wp_seq
    by_cases h0 : n = 0
    · refine wp_ift2 (v := decide (n = 0)) (ev_tru (ev_bin rfl rfl q0) rfl) (decide_eq_true h0) ?_
      exact wp_some (sq_er raises_er)
    have hn : 0 < n := by omega
    refine wp_iff2 (v := decide (n = 0)) (ev_tru (ev_bin rfl rfl q0) rfl) (decide_eq_false h0) (wp_skip (sq_nx ?_))
    apply wp_seq
    refine wp_asg (ρ' := [some X, some Y, some (.int n), some FE, none, none, none, none, none, none]) c5 rfl (sq_nx ?_)
    apply wp_seq
    refine wp_fz (ρ' := [some X, some Y, some (.int n), some FE, none, none, none, none, none, none]) rfl fF (setE_s (setE_s (setE_s setE_z))) (sq_nx ?_)
    apply wp_seq
    refine wp_asg (ρ' := [some X, some Y, some (.int n), some FE, some P.enc, none, none, none, none, none]) c6 rfl (sq_nx ?_)
    apply wp_seq
    refine wp_fz (ρ' := [some X, some Y, some (.int n), some FE, some P.enc, none, none, none, none, none]) rfl fP (setE_s (setE_s (setE_s (setE_s setE_z)))) (sq_nx ?_)
    apply wp_seq
    refine wp_for it ?_
    refine wl_map (fun d ρ => (∀ p ∈ d, p % n = 0) ∧ ∃ a5, ρ = [some X, some Y, some (.int n), some FE, some P.enc, a5, none, none, none, none]) O.int (parts P) [] _ ?_ ?_ ?_
    · exact ⟨(fun p hp => by cases hp), _, rfl⟩
    · rintro d p r ρ hd ⟨hdz, a5, rfl⟩
      refine ⟨[some X, some Y, some (.int n), some FE, some P.enc, some (.int p), none, none, none, none], rfl, ?_⟩
      unfold Bd_ring_divide_1
      by_cases hp : p % n = 0
      · refine wp_iff2 (v := !decide (p % n = 0)) (body p [none, none, none, none] rfl hn) (by rw [decide_eq_true hp]; rfl) (wp_skip (lp_nx ⟨fun q hq => ?_, _, rfl⟩))
        rcases List.mem_append.mp hq with h | h
        · exact hdz q h
        · rw [List.mem_singleton.mp h]; exact hp
      · refine wp_ift2 (v := !decide (p % n = 0)) (body p [none, none, none, none] rfl hn) (by rw [decide_eq_false hp]; rfl) ?_
        exact wp_some (lp_er (sq_er raises_er))
    · rintro ρ ⟨hall, a5, rfl⟩
      exact absurd (wi.mpr ⟨h0, hall⟩) hw
end
section
local macro_rules | `(tactic| array_mem_dec) => `(tactic| fail)
local macro_rules | `(tactic| sizeOf_list_dec) => `(tactic| first | rfl | with_reducible assumption | array_mem_dec | omega | (simp only [List.length_map, List.length_set, List.length_append, List.length_range, List.length_cons, List.length_nil]; omega) | (simp [okb, isFz, isFzs, noFm, noFms, -List.map_map]; done))
local macro_rules | `(tactic| array_get_dec) => `(tactic| repeat' first
  | with_reducible exact Mini.ev_some
  | with_reducible assumption
  | ((with_reducible apply Mini.ev_look); rfl)
  | with_reducible apply Mini.ev_bin
  | with_reducible apply Mini.ev_bind
  | with_reducible apply Mini.ev_tru
  | with_reducible exact Mini.ev_nil
  | with_reducible apply Mini.env_c
  | with_reducible exact Mini.env_z
  | with_reducible apply Mini.env_s
  | with_reducible apply Mini.ev_cons
  | with_reducible apply Mini.ev_tup
  | with_reducible apply Mini.ev_lst
  | ((with_reducible apply Mini.ev_len16); (focus (exact (Nat.le_of_ble_eq_true rfl))))
  | with_reducible apply Mini.ev_call
  | with_reducible apply Mini.ev_callN
  | with_reducible apply Mini.ev_callX
  | with_reducible exact Mini.vw_nil
  | with_reducible apply Mini.vw_t
  | with_reducible apply Mini.vw_f
  | with_reducible exact Mini.fz_i
  | with_reducible exact Mini.fz_b
  | with_reducible exact Mini.fz_s
  | with_reducible exact Mini.fz_n
  | with_reducible apply Mini.fz_t
  | with_reducible apply Mini.fz_l
  | with_reducible apply Mini.fz_d
  | with_reducible apply Mini.fz_o
  | with_reducible exact Mini.fzs_n
  | with_reducible apply Mini.fzs_c
  | with_reducible exact Mini.fzs_i
  | with_reducible exact Mini.oAdd_i _ _
  | with_reducible exact Mini.oAddI_i _ _
  | with_reducible exact Mini.oSub_i _ _
  | ((with_reducible apply Mini.ev_mul); omega)
  | ((with_reducible apply Mini.ev_mod); omega)
  | ((with_reducible apply Mini.ev_div); omega)
  | with_reducible exact Mini.negO_i _
  | with_reducible exact Mini.oAbs_i _
  | with_reducible exact Mini.oInt_i _
  | with_reducible exact Mini.oInt_b _
  | with_reducible exact Mini.oLt_i _ _
  | with_reducible exact Mini.oLe_i _ _
  | with_reducible exact Mini.oGt_i _ _
  | with_reducible exact Mini.oGe_i _ _
  | with_reducible exact Mini.oEq_i _ _
  | with_reducible exact Mini.oNe_i _ _
  | with_reducible exact Mini.oMax_i _ _
  | with_reducible exact Mini.oMin_i _ _
  | with_reducible exact Mini.oEq_s _ _
  | with_reducible exact Mini.oNe_s _ _
  | with_reducible exact Mini.len_t _
  | with_reducible exact Mini.len_l _ _
  | with_reducible exact Mini.isi_int_int _
  | with_reducible exact Mini.isi_int_bool _
  | with_reducible exact Mini.isi_bool_bool _
  | with_reducible exact Mini.isi_tuple_tuple _
  | with_reducible exact Mini.isi_list_list _ _
  | with_reducible exact Mini.isi_str_str _
  | with_reducible apply Mini.ev_idx_t
  | with_reducible apply Mini.ev_idx_l
  | with_reducible exact Mini.ev_at_z
  | ((with_reducible apply Mini.ev_at_l); (focus (first | rfl | with_reducible assumption | array_mem_dec)))
  | with_reducible apply Mini.ev_at_n
  | with_reducible apply Mini.ev_ge_map
  | with_reducible apply Mini.ev_copy
  | with_reducible apply Mini.ev_gSet
  | with_reducible exact Mini.setE_z
  | with_reducible apply Mini.setE_s
  | with_reducible exact Mini.ev_gsNil
  | with_reducible apply Mini.ev_gsCons
  | ((with_reducible apply Mini.ev_gTup); (focus rfl))
  | with_reducible apply Mini.ev_bnot
  | with_reducible apply Mini.ev_band
  | with_reducible apply Mini.ev_bor
  | with_reducible apply Mini.ev_vand
  | with_reducible apply Mini.ev_vor
  | with_reducible exact Mini.ev_not
  | with_reducible apply Mini.ev_isE
  | with_reducible apply Mini.ev_it
  | with_reducible exact Mini.it_tl
  | with_reducible apply Mini.it_tt
  | with_reducible apply Mini.it_fl
  | with_reducible apply Mini.it_ft
  | with_reducible apply Mini.ev_rng1
  | ((with_reducible apply Mini.ev_n62); (focus omega))
  | with_reducible apply Mini.ev_rng2
  | ((with_reducible apply Mini.ev_r2); (focus omega))
  | with_reducible apply Mini.ev_enum
  | with_reducible apply Mini.ev_list
  | with_reducible apply Mini.ev_list_t
  | with_reducible apply Mini.ev_tuple
  | with_reducible apply Mini.ev_tuple_t
  | with_reducible exact Mini.ev_xorN
  | with_reducible exact Mini.ev_andN1
  | with_reducible exact Mini.ev_andN
  | with_reducible exact Mini.ev_orN
  | with_reducible exact Mini.ev_shrN
  | ((with_reducible apply Mini.ev_shl1); (focus omega))
  | ((with_reducible apply Mini.ev_shlN); (focus omega))
  | with_reducible exact Mini.ev_bitsN
  | with_reducible apply Mini.ai_n
  | ((with_reducible apply Mini.af_o); (focus (exact (Nat.le_of_ble_eq_true rfl))))
  | with_reducible exact Mini.oXor_i _ _
  | with_reducible exact Mini.oAnd_i _ _
  | with_reducible exact Mini.oOr_i _ _
  | ((with_reducible apply Mini.ok_m); (focus (array_get_dec; done)))
  | ((with_reducible apply Mini.ok_z); (focus (array_get_dec; done)))
  | with_reducible exact Mini.nfm_i
  | with_reducible exact Mini.nfm_b
  | with_reducible exact Mini.nfm_s
  | with_reducible exact Mini.nfm_n
  | with_reducible exact Mini.nofms_nat
  | with_reducible exact Mini.nofms_i
  | with_reducible apply Mini.nfm_l
  | with_reducible apply Mini.nfm_t
  | with_reducible apply Mini.nfm_o
  | with_reducible apply Mini.nfm_d
  | with_reducible exact Mini.nfms_n
  | with_reducible apply Mini.nfms_c
  | with_reducible exact Mini.ifz_i
  | with_reducible exact Mini.ifz_b
  | with_reducible exact Mini.ifz_s
  | with_reducible exact Mini.ifz_n
  | with_reducible exact Mini.isfzs_nat
  | with_reducible exact Mini.isfzs_i
  | with_reducible apply Mini.ifz_l
  | with_reducible apply Mini.ifz_t
  | with_reducible apply Mini.ifz_o
  | with_reducible apply Mini.ifz_d
  | with_reducible exact Mini.ifzs_n
  | with_reducible apply Mini.ifzs_c
  | with_reducible exact Mini.okb_nil
  | with_reducible apply Mini.okb_f
  | with_reducible apply Mini.okb_t
  | with_reducible exact Mini.ev_tru_b
  | with_reducible exact Mini.ev_bool
  | with_reducible exact Mini.ev_tru_i
  | with_reducible exact Mini.ev_tru_t
  | with_reducible exact Mini.ev_tru_l
  | ((with_reducible apply Mini.ev_lstRg); (focus omega))
  | with_reducible exact Mini.ev_sort
  | with_reducible apply Mini.ev_fld
  | with_reducible apply Mini.ev_prop
  | with_reducible apply Mini.ev_meth
  | with_reducible exact Mini.ev_pFl0
  | with_reducible exact Mini.ev_pNil
  | with_reducible apply Mini.ev_pFl
  | with_reducible apply Mini.ev_pIx
  | with_reducible apply Mini.modP_nil
  | with_reducible apply Mini.modP_fl
  | with_reducible apply Mini.modP_ix
  | ((with_reducible apply Mini.ev_ixN); (focus sizeOf_list_dec))
  | ((with_reducible apply Mini.ev_ixN0); (focus sizeOf_list_dec))
  | ((with_reducible apply Mini.st_n); (focus sizeOf_list_dec))
  | ((with_reducible apply Mini.ap_n); (focus sizeOf_list_dec))
  | with_reducible apply Mini.ev_makeR
  | ((with_reducible apply Mini.ev_lend0); (focus rfl))
  | ((with_reducible apply Mini.ev_lendR); (focus rfl))
  | with_reducible exact Mini.fzs_nat
  | with_reducible exact Mini.natO_frz _
  | ((with_reducible apply Mini.ev_fldO); (focus rfl))
  | with_reducible exact Mini.putO_hit
  | with_reducible exact Mini.putN_hit
  | ((with_reducible apply Mini.putO_miss); (focus (simp only [ne_eq, Mini.ofS_iff]; decide)))
  | ((with_reducible apply Mini.putN_miss); (focus (simp only [ne_eq, Mini.ofS_iff]; decide)))
  | with_reducible exact Mini.putO_nil
  | with_reducible exact Mini.putN_nil
  | ((with_reducible apply Mini.ev_isObj); (focus rfl))
  | (with_reducible exact Mini.EqC.oEqL Mini.EqC.nat (Nat.le_of_ble_eq_true rfl) _ _ _ _)
  | (with_reducible exact Mini.EqC.oNeL Mini.EqC.nat (Nat.le_of_ble_eq_true rfl) _ _ _ _)
  | (with_reducible exact Mini.EqC.oEqL Mini.EqC.int (Nat.le_of_ble_eq_true rfl) _ _ _ _)
  | (with_reducible exact Mini.EqC.oNeL Mini.EqC.int (Nat.le_of_ble_eq_true rfl) _ _ _ _)
  | array_mem_dec)
local macro_rules | `(tactic| decreasing_trivial_pre_omega) => `(tactic| first
  | with_reducible apply Mini.wp_seq
  | with_reducible apply Mini.sq_nx
  | with_reducible apply Mini.sq_rt
  | with_reducible apply Mini.sq_er
  | with_reducible apply Mini.sq_bk
  | with_reducible apply Mini.sq_ct
  | with_reducible apply Mini.lp_rt
  | with_reducible apply Mini.ct_rt
  | with_reducible apply Mini.ct_er
  | with_reducible apply Mini.ct_bk
  | with_reducible apply Mini.ct_ct
  | with_reducible apply Mini.tq_nx
  | with_reducible apply Mini.tq_rtn
  | with_reducible apply Mini.lp_er
  | with_reducible apply Mini.lp_bk
  | with_reducible exact Mini.ends_rt
  | ((with_reducible apply Mini.ends_of); (focus (first | rfl | with_reducible assumption | (simp; done))))
  | with_reducible exact Mini.raises_er
  | ((with_reducible apply Mini.wp_asg); (focus (array_get_dec; done)); (focus (array_get_dec; done)))
  | with_reducible apply Mini.wp_skip
  | ((with_reducible apply Mini.wp_ret); (focus (array_get_dec; done)))
  | ((with_reducible apply Mini.wp_retmv); (focus rfl); (focus (array_get_dec; done)))
  | ((with_reducible apply Mini.wp_fz); (focus rfl); (focus (array_get_dec; done)); (focus (array_get_dec; done)))
  | ((with_reducible apply Mini.wp_expr); (focus (array_get_dec; done)))
  | ((with_reducible apply Mini.wp_app); (focus rfl); (focus (array_get_dec; done)); (focus sizeOf_list_dec); (focus (array_get_dec; done)))
  | ((with_reducible apply Mini.wp_setI); (focus (array_get_dec; done)); (focus rfl); (focus (array_get_dec; done)); (focus (array_get_dec; done)); (focus (array_get_dec; done)))
  | ((with_reducible apply Mini.wp_aug); (focus rfl); (focus (array_get_dec; done)); (focus (array_get_dec; done)); (focus (array_get_dec; done)))
  | ((with_reducible apply Mini.wp_for); (focus (array_get_dec; done)))
  | ((with_reducible apply Mini.wp_asgR); (focus (array_get_dec; done)); (focus (array_get_dec; done)))
  | ((with_reducible apply Mini.wp_retR); (focus (array_get_dec; done)))
  | ((with_reducible apply Mini.wp_exprR); (focus (array_get_dec; done)))
  | ((with_reducible apply Mini.wp_setF); (focus (array_get_dec; done)); (focus rfl); (focus (exact (Nat.le_of_ble_eq_true rfl))); (focus (array_get_dec; done)); (focus (array_get_dec; done)); (focus (array_get_dec; done)))
  | ((with_reducible apply Mini.wp_setP); (focus (array_get_dec; done)); (focus (array_get_dec; done)); (focus rfl); (focus (array_get_dec; done)); (focus (array_get_dec; done)); (focus (array_get_dec; done)))
  | ((with_reducible apply Mini.wp_appP); (focus (array_get_dec; done)); (focus rfl); (focus (array_get_dec; done)); (focus (array_get_dec; done)); (focus (array_get_dec; done)))
  | ((with_reducible apply Mini.wp_augF); (focus (array_get_dec; done)); (focus rfl); (focus (array_get_dec; done)); (focus (array_get_dec; done)); (focus (array_get_dec; done)))
  | ((with_reducible apply Mini.wp_augP); (focus (array_get_dec; done)); (focus (array_get_dec; done)); (focus rfl); (focus (array_get_dec; done)); (focus (array_get_dec; done)); (focus (array_get_dec; done)))
  | ((with_reducible apply Mini.wp_ift2); (focus (array_get_dec; done)); (focus (first | rfl | with_reducible assumption)))
  | ((with_reducible apply Mini.wp_iff2); (focus (array_get_dec; done)); (focus (first | rfl | with_reducible assumption)))
  | ((with_reducible apply Mini.wp_ifN); (focus (array_get_dec; done)))
  | with_reducible apply Mini.wp_some)
local macro_rules | `(tactic| decreasing_trivial_pre_omega) => `(tactic| first
  | ((with_reducible apply Mini.wp_star); (focus (array_get_dec; done)); (focus (array_get_dec; done)); (focus (array_get_dec; done)); (focus (array_get_dec; done)))
  | ((with_reducible apply Mini.wp_lend); (focus (array_get_dec; done)); (focus (array_get_dec; done)); (focus (array_get_dec; done)); (focus (array_get_dec; done)); (focus rfl); (focus (array_get_dec; done)); (focus (array_get_dec; done)))
  | ((with_reducible apply Mini.wp_ext); (focus rfl); (focus (array_get_dec; done)); (focus sizeOf_list_dec); (focus (array_get_dec; done))))
theorem s_isint (i : Int) : F__law_is_integer [.int i] = some (.bl true, [none]) := by
  simp [F__law_is_integer, dDef, dSeq, dIf, dTru, oBool, dBin, dBind, look_nil, look_z, look_s, dRet, dRetMv, dSkip, dAsg, dExpr, setS, dAug, gSet, gTupO, gsCons, gsNil, dTup, dLst, dCons, dNil, copyO, isFz, isFzs, Mini.fin, oAdd_i, oAddI_i, oAdd_l, oAdd_t, oMul_l, lineOk_n, oSub_i, oMul_i, oMod_i, oDiv_i, oAnd_i, oOr_i, oXor_i, oLt_i, oLe_i, oGt_i, oGe_i, oMax_i, oMin_i, negO_i, oAbs_i, oInt_i, oInt_b, oEq_i, oNe_i, eqv_ii, idx_t, idx_l, atI_z, atI_n, atI_lit, ixN_n, ixN_lit, len_t, len_l, oTru, oNot, vAnd, vOr, bAnd, bOr, bNot, dIte, mLog2, rngs_z, rngs_s, line_le, line_lt, dCall, views, okb, noFm, noFms, frz, frzs, dIt, itO, lFor, dFor, dRng1, dRng2, rOk_def, rOk0, dApp, dSetI, dFz, dCallX, dCallN, dDefX, dAsgR, dRetR, dExprR, dTry, dIsE, pick_rt, pick_nx, oBits_i, oIsN, oNotN, isNon, oIn, dChain, flatO, eqF_i, oList, oTuple, dLc, lLc, wipeE, dYes, keyO, kFind, kPut, oDIdx, oGet2, oDIn, dTri, dDct, dPCons, dPNil, dMerge, dSetD, dForK, keyB, dLend, dEnum, enumO, oEq_s, oNe_s, eqF_s, ofS_iff, oListD, kO, gIdx, gGet, gIn, List.set_cons_zero, List.set_cons_succ, List.replicate, isi_NoneType_int, isi_bool_int, isi_int_int, isi_str_int, isi_tuple_int, isi_list_int, isi_dict_int, isi_NoneType_bool, isi_bool_bool, isi_int_bool, isi_str_bool, isi_tuple_bool, isi_list_bool, isi_dict_bool, isi_NoneType_str, isi_bool_str, isi_int_str, isi_str_str, isi_tuple_str, isi_list_str, isi_dict_str, isi_NoneType_tuple, isi_bool_tuple, isi_int_tuple, isi_str_tuple, isi_tuple_tuple, isi_list_tuple, isi_dict_tuple, isi_NoneType_list, isi_bool_list, isi_int_list, isi_str_list, isi_tuple_list, isi_list_list, isi_dict_list, isi_NoneType_dict, isi_bool_dict, isi_int_dict, isi_str_dict, isi_tuple_dict, isi_list_dict, isi_dict_dict, Bd__law_ring_1, Bd__law_mul_1, Bd__law_mul_2, Bd_ring_divide_1, Bd__law_is_ring_1, Bd_law_1]
theorem l_is_ring (a b c d : Int) : F__law_is_ring [encR a b c d] = some (.bl true, [none]) := by
  have i := s_isint
  simp [F__law_is_ring, dDef, dSeq, dIf, dTru, oBool, dBin, dBind, look_nil, look_z, look_s, dRet, dRetMv, dSkip, dAsg, dExpr, setS, dAug, gSet, gTupO, gsCons, gsNil, dTup, dLst, dCons, dNil, copyO, isFz, isFzs, Mini.fin, oAdd_i, oAddI_i, oAdd_l, oAdd_t, oMul_l, lineOk_n, oSub_i, oMul_i, oMod_i, oDiv_i, oAnd_i, oOr_i, oXor_i, oLt_i, oLe_i, oGt_i, oGe_i, oMax_i, oMin_i, negO_i, oAbs_i, oInt_i, oInt_b, oEq_i, oNe_i, eqv_ii, idx_t, idx_l, atI_z, atI_n, atI_lit, ixN_n, ixN_lit, len_t, len_l, oTru, oNot, vAnd, vOr, bAnd, bOr, bNot, dIte, mLog2, rngs_z, rngs_s, line_le, line_lt, dCall, views, okb, noFm, noFms, frz, frzs, dIt, itO, lFor, dFor, dRng1, dRng2, rOk_def, rOk0, dApp, dSetI, dFz, dCallX, dCallN, dDefX, dAsgR, dRetR, dExprR, dTry, dIsE, pick_rt, pick_nx, oBits_i, oIsN, oNotN, isNon, oIn, dChain, flatO, eqF_i, oList, oTuple, dLc, lLc, wipeE, dYes, keyO, kFind, kPut, oDIdx, oGet2, oDIn, dTri, dDct, dPCons, dPNil, dMerge, dSetD, dForK, keyB, dLend, dEnum, enumO, oEq_s, oNe_s, eqF_s, ofS_iff, oListD, kO, gIdx, gGet, gIn, List.set_cons_zero, List.set_cons_succ, List.replicate, isi_NoneType_int, isi_bool_int, isi_int_int, isi_str_int, isi_tuple_int, isi_list_int, isi_dict_int, isi_NoneType_bool, isi_bool_bool, isi_int_bool, isi_str_bool, isi_tuple_bool, isi_list_bool, isi_dict_bool, isi_NoneType_str, isi_bool_str, isi_int_str, isi_str_str, isi_tuple_str, isi_list_str, isi_dict_str, isi_NoneType_tuple, isi_bool_tuple, isi_int_tuple, isi_str_tuple, isi_tuple_tuple, isi_list_tuple, isi_dict_tuple, isi_NoneType_list, isi_bool_list, isi_int_list, isi_str_list, isi_tuple_list, isi_list_list, isi_dict_list, isi_NoneType_dict, isi_bool_dict, isi_int_dict, isi_str_dict, isi_tuple_dict, isi_list_dict, isi_dict_dict, Bd__law_ring_1, Bd__law_mul_1, Bd__law_mul_2, Bd_ring_divide_1, Bd__law_is_ring_1, Bd_law_1, encR, i]
theorem idx_R (z : R) : oIdx z.enc (.int 0) = some (.int z.a) ∧ oIdx z.enc (.int 1) = some (.int z.b) ∧ oIdx z.enc (.int 2) = some (.int z.c) ∧ oIdx z.enc (.int 3) = some (.int z.d) := ⟨rfl, rfl, rfl, rfl⟩
theorem eq_RR (x y : R) : oEq x.enc y.enc = some (.bl (decide (x = y))) := by
  refine ((Mini.EqC.tup Mini.EqC.int).oEq (by decide) [x.a, x.b, x.c, x.d] [y.a, y.b, y.c, y.d]).trans ?_
  congr 2
  refine decide_eq_decide.mpr ⟨fun e => ?_, fun e => by rw [e]⟩
  injection e with e1 e; injection e with e2 e; injection e with e3 e; injection e with e4 e
  exact R.ext4 e1 e2 e3 e4
theorem main (ns : List Int) (hl : ns.length ≤ 63) (hb : ∀ z ∈ ns, Builtin.Int.intBits z ≤ 1048576) : ∃ fin, F_law [O.lst false (ns.map O.int)] = some (.bl true, fin) := by
  obtain ⟨a, b, c, d, r0, ba, bb, bc, bd⟩ := law_ring' ns 0 hb
  obtain ⟨e, f, g, h, r5, be, bf, bg, bh⟩ := law_ring' ns 5 hb
  have r0 : F__law_ring [S ns, .int 0] = some ((⟨a, b, c, d⟩ : R).enc, [none, none]) := r0
  have r5 : F__law_ring [S ns, .int 5] = some ((⟨e, f, g, h⟩ : R).enc, [none, none]) := r5
  have c10 : F__law_cell [S ns, .int 10] = some (.int (cell ns 10), [none, none]) := law_cell ns 10
  have by0 : (⟨a, b, c, d⟩ : R).bd 1048576 := ⟨ba, bb, bc, bd⟩
  have bt5 : (⟨e, f, g, h⟩ : R).bd 1048576 := ⟨be, bf, bg, bh⟩
  generalize (⟨a, b, c, d⟩ : R) = y0 at *
  generalize (⟨e, f, g, h⟩ : R) = t at *
  generalize cell ns 10 = C at *
  have en : ∀ z : R, frz z.enc = z.enc := fun _ => rfl
  have em : ∀ z : R, noFm z.enc = true := fun _ => rfl
  have ef : ∀ z : R, isFz z.enc = true := fun _ => rfl
  have fs : frz (S ns) = S ns := by show O.lst false (frzs (ns.map O.int)) = _; rw [frzs_ints]
  have mC : ∀ j : Int, 0 < j → oMod (.int C) (.int j) = some (.int (C % j)) := fun j hj => oMod_p hj
  have lc : ∀ (d : Mini.Env → Option O) (ρ : Mini.Env), look ρ 0 = some (S ns) → dCall [true, false] F__law_cell (dCons (fun ρ => look ρ 0) (dCons (fun _ => some (.int 10)) dNil)) ρ = some (.int C) := fun _ ρ hρ =>
    ev_call (vs := [S ns, .int 10]) (ev_cons hρ (ev_cons rfl ev_nil)) (by show [frz (S ns), _] = _; rw [fs]; rfl) c10 (ok_fm rfl)
  have tp : ∀ (d1 d2 d3 d4 : Mini.Env → Option O) (ρ : Mini.Env) (o1 o2 o3 o4 : O), d1 ρ = some o1 → d2 ρ = some o2 → d3 ρ = some o3 → d4 ρ = some o4 → dTup (dCons d1 (dCons d2 (dCons d3 (dCons d4 dNil)))) ρ = some (.tup [o1, o2, o3, o4]) := fun d1 d2 d3 d4 ρ o1 o2 o3 o4 h1 h2 h3 h4 => ev_tup (ev_cons h1 (ev_cons h2 (ev_cons h3 (ev_cons h4 ev_nil)))) (Nat.le_of_ble_eq_true rfl)
  unfold F_law
  apply def_wp rfl
  · array_get_dec
  apply wp_seq
  refine wp_asg (o := y0.enc) (ρ' := [some (S ns), some y0.enc, none, none, none, none, none, none, none, none, none]) (ev_call (vs := [S ns, .int 0]) (ev_cons rfl (ev_cons rfl ev_nil)) (by show [frz (S ns), _] = _; rw [fs]; rfl) r0 (ok_fm (em _))) rfl (sq_nx ?_)
  apply wp_seq
  refine wp_cut (fun ρ => ∃ y : R, y.bd 1048576 ∧ ρ = [some (S ns), some y.enc, none, none, none, none, none, none, none, none, none]) ?_ ?_
  · refine wp_if (v := decide (C % 7 = 3)) (ev_tru (ev_bin (ev_bin (lc (fun _ => none) _ rfl) rfl (mC 7 (by decide))) rfl (oEq_i _ _)) rfl) (fun _ => ?_) fun _ => ?_
    · refine wp_asg (o := R.zero.enc) (ρ' := [some (S ns), some R.zero.enc, none, none, none, none, none, none, none, none, none]) (tp _ _ _ _ _ _ _ _ _ rfl rfl rfl rfl) rfl (ct_nx ⟨R.zero, ?_, rfl⟩)
      have z : B 1048576 0 := (B.small (x := 0) (by decide) (by decide)).mono (by decide)
      exact ⟨z, z, z, z⟩
    · exact wp_skip (ct_nx ⟨y0, by0, rfl⟩)
  rintro ρ ⟨y, hy, rfl⟩
  refine sq_nx ?_
  apply wp_seq
  refine wp_fz (ρ' := [some (S ns), some y.enc, none, none, none, none, none, none, none, none, none]) rfl (en y) (setE_s setE_z) (sq_nx ?_)
  apply wp_seq
  have m0 := l_mul hy bt5 (by decide)
  have bx0 : (y.mul t).bd 2097155 := R.bd.mono (R.bd.mul hy bt5) (by decide)
  generalize y.mul t = x0 at *
  refine wp_asg (o := x0.enc) (ρ' := [some (S ns), some y.enc, some x0.enc, none, none, none, none, none, none, none, none]) (ev_call (vs := [y.enc, t.enc]) (ev_cons rfl (ev_cons (ev_call (vs := [S ns, .int 5]) (ev_cons rfl (ev_cons rfl ev_nil)) (by show [frz (S ns), _] = _; rw [fs]; rfl) r5 (ok_fm (em _))) ev_nil)) rfl m0 (ok_fm (em _))) rfl (sq_nx ?_)
  apply wp_seq
  refine wp_cut (fun ρ => ∃ x : R, x.bd 2097156 ∧ ρ = [some (S ns), some y.enc, some x.enc, none, none, none, none, none, none, none, none]) ?_ ?_
  · refine wp_if (v := decide (C % 2 = 1)) (ev_tru (ev_bin (ev_bin (lc (fun _ => none) _ rfl) rfl (mC 2 (by decide))) rfl (oEq_i _ _)) rfl) (fun _ => ?_) fun _ => ?_
    · have d2 : oDiv (.int C) (.int 2) = some (.int (C / 2)) := ev_div (by decide)
      have d10 : oDiv (.int C) (.int 10) = some (.int (C / 10)) := ev_div (by decide)
      obtain ⟨i0, i1, i2, i3⟩ := idx_R x0
      refine wp_asg (o := (⟨x0.a + C / 2 % 5, x0.b + C / 10 % 3, x0.c, x0.d⟩ : R).enc) (ρ' := [some (S ns), some y.enc, some (⟨x0.a + C / 2 % 5, x0.b + C / 10 % 3, x0.c, x0.d⟩ : R).enc, none, none, none, none, none, none, none, none]) (tp _ _ _ _ _ _ _ _ _ (ev_bin (ev_bin rfl rfl i0) (ev_bin (ev_bind (ev_bin (lc (fun _ => none) _ rfl) rfl d2) (oInt_i _)) rfl (oMod_p (by decide))) (oAdd_i _ _)) (ev_bin (ev_bin rfl rfl i1) (ev_bin (ev_bind (ev_bin (lc (fun _ => none) _ rfl) rfl d10) (oInt_i _)) rfl (oMod_p (by decide))) (oAdd_i _ _)) (ev_bind (ev_bin rfl rfl i2) rfl) (ev_bind (ev_bin rfl rfl i3) rfl)) rfl (ct_nx ⟨_, ?_, rfl⟩)
      exact ⟨(bx0.1.add (B.small (x := C / 2 % 5) (by omega) (by omega))).mono (by decide), (bx0.2.1.add (B.small (x := C / 10 % 3) (by omega) (by omega))).mono (by decide), bx0.2.2.1.mono (by decide), bx0.2.2.2.mono (by decide)⟩
    · exact wp_skip (ct_nx ⟨x0, R.bd.mono bx0 (by decide), rfl⟩)
  rintro ρ ⟨x, hx, rfl⟩
  refine sq_nx ?_
  have hy2 : y.bd 2097156 := R.bd.mono hy (by decide)
  obtain ⟨hdy, hdn⟩ := s_div (by decide) hx hy2
  have bc : y.cj.bd 2097156 := cj_bd hy2
  have bsR := sR_bd hy
  have m1 := l_mul hy2 bc (by decide)
  have m2 := l_mul hx bc (by decide)
  have m3 := l_mul (R.bd.mono (R.bd.mul hx bc) (show _ ≤ 4194400 by decide)) (R.bd.mono bsR (show _ ≤ 4194400 by decide)) (by decide)
  have bP : (pR x y).bd 6500000 := by
    have : (x.mul (y.cj.mul (sR y))).bd 6500000 := R.bd.mono (R.bd.mul hx (R.bd.mul (cj_bd hy) bsR)) (by decide)
    exact this
  have asP : (x.mul y.cj).mul (sR y) = pR x y := mul_as _ _ _
  rw [asP] at m3
  rw [y_cj] at m1
  have U := qu_B hy.1 hy.2.1 hy.2.2.1 hy.2.2.2
  have V := qv_B hy.1 hy.2.1 hy.2.2.1 hy.2.2.2
  have bN : B (4 * 1048576 + 10) (nR y) := nrm_B hy.1 hy.2.1 hy.2.2.1 hy.2.2.2
  have U : B (2 * 1048576 + 3) (uR y) := U
  have V : B (2 * 1048576 + 3) (vR y) := V
  have t2 : B 3 2 := B.small (by decide) (by decide)
  have o1 : oMul (.int (uR y)) (.int (uR y)) = some (.int (uR y * uR y)) := by rw [oMul_i, if_pos (U.ok U (by decide))]
  have o2 : oMul (.int 2) (.int (vR y)) = some (.int (2 * vR y)) := by rw [oMul_i, if_pos (t2.ok V (by decide))]
  have o3 : oMul (.int (2 * vR y)) (.int (vR y)) = some (.int (2 * vR y * vR y)) := by rw [oMul_i, if_pos ((t2.mul V).ok V (by decide))]
  have o4 : oSub (.int (uR y * uR y)) (.int (2 * vR y * vR y)) = some (.int (nR y)) := oSub_i _ _
  have nn : 0 ≤ nR y := nrm_nn _ _ _ _
  have wi := whole_iff x y
  have hsR : (⟨uR y, -vR y, 0, vR y⟩ : R) = sR y := rfl
  have hcj : (⟨y.a, -y.d, -y.c, -y.b⟩ : R) = y.cj := rfl
  obtain ⟨j0, j1, j2, j3⟩ := idx_R y
  obtain ⟨k0, k1, k2, k3⟩ := idx_R (⟨uR y, vR y, 0, -vR y⟩ : R)
  dsimp only at k0 k1 k2 k3
  have fq := en (⟨uR y, vR y, 0, -vR y⟩ : R)
  generalize hSQ : (⟨uR y, vR y, 0, -vR y⟩ : R).enc = SQ at *
  have a1 : dTup (dCons (dBind (dBin oIdx (fun ρ => look ρ 1) (fun _ => some (.int 0))) copyO) (dCons (dBind (dBin oIdx (fun ρ => look ρ 1) (fun _ => some (.int 3))) negO) (dCons (dBind (dBin oIdx (fun ρ => look ρ 1) (fun _ => some (.int 2))) negO) (dCons (dBind (dBin oIdx (fun ρ => look ρ 1) (fun _ => some (.int 1))) negO) dNil)))) [some (S ns), some y.enc, some x.enc, none, none, none, none, none, none, none, none] = some y.cj.enc := by
    rw [← hcj]
    exact tp _ _ _ _ _ _ _ _ _ (ev_bind (ev_bin rfl rfl j0) rfl) (ev_bind (ev_bin rfl rfl j3) (negO_i _)) (ev_bind (ev_bin rfl rfl j2) (negO_i _)) (ev_bind (ev_bin rfl rfl j1) (negO_i _))
  apply wp_seq
  refine wp_asg (ρ' := [some (S ns), some y.enc, some x.enc, some y.cj.enc, none, none, none, none, none, none, none]) a1 rfl (sq_nx ?_)
  apply wp_seq
  refine wp_fz (ρ' := [some (S ns), some y.enc, some x.enc, some y.cj.enc, none, none, none, none, none, none, none]) rfl (en y) (setE_s setE_z) (sq_nx ?_)
  apply wp_seq
  refine wp_asg (o := SQ) (ρ' := [some (S ns), some y.enc, some x.enc, some y.cj.enc, some SQ, none, none, none, none, none, none]) (ev_call (vs := [y.enc, y.cj.enc]) (ev_cons rfl (ev_cons rfl ev_nil)) rfl m1 (ok_fm (by rw [← hSQ]; rfl))) rfl (sq_nx ?_)
  apply wp_seq
  refine wp_fz (ρ' := [some (S ns), some y.enc, some x.enc, some y.cj.enc, some SQ, none, none, none, none, none, none]) rfl (en x) (setE_s (setE_s setE_z)) (sq_nx ?_)
  apply wp_seq
  have b1 : dCall [true, true] F__law_mul (dCons (fun ρ => look ρ 2) (dCons (fun ρ => look ρ 3) dNil)) [some (S ns), some y.enc, some x.enc, some y.cj.enc, some SQ, none, none, none, none, none, none] = some (x.mul y.cj).enc := ev_call (vs := [x.enc, y.cj.enc]) (ev_cons rfl (ev_cons rfl ev_nil)) rfl m2 (ok_fm (em _))
  have b2 : dTup (dCons (dBind (dBin oIdx (fun ρ => look ρ 4) (fun _ => some (.int 0))) copyO) (dCons (dBind (dBin oIdx (fun ρ => look ρ 4) (fun _ => some (.int 1))) negO) (dCons (fun _ => some (.int 0)) (dCons (dBind (dBin oIdx (fun ρ => look ρ 4) (fun _ => some (.int 1))) copyO) dNil)))) [some (S ns), some y.enc, some x.enc, some y.cj.enc, some SQ, none, none, none, none, none, none] = some (sR y).enc := by
    rw [← hsR]
    exact tp _ _ _ _ _ _ _ _ _ (ev_bind (ev_bin rfl rfl k0) rfl) (ev_bind (ev_bin rfl rfl k1) (negO_i _)) rfl (ev_bind (ev_bin rfl rfl k1) rfl)
  refine wp_asg (o := (pR x y).enc) (ρ' := [some (S ns), some y.enc, some x.enc, some y.cj.enc, some SQ, some (pR x y).enc, none, none, none, none, none]) (ev_call (vs := [(x.mul y.cj).enc, (sR y).enc]) (ev_cons b1 (ev_cons b2 ev_nil)) rfl m3 (ok_fm (em _))) rfl (sq_nx ?_)
  apply wp_seq
  refine wp_asg (o := .int (nR y)) (ρ' := [some (S ns), some y.enc, some x.enc, some y.cj.enc, some SQ, some (pR x y).enc, some (.int (nR y)), none, none, none, none]) (ev_bin (ev_bin (ev_bin rfl rfl k0) (ev_bin rfl rfl k0) o1) (ev_bin (ev_bin rfl (ev_bin rfl rfl k1) o2) (ev_bin rfl rfl k1) o3) o4) rfl (sq_nx ?_)
  apply wp_seq
  have ne : oNe (.int (nR y)) (.int 0) = some (.bl (!decide (nR y = 0))) := by
    rw [oNe_i]; congr 2
    by_cases z : nR y = 0
    · rw [decide_eq_true z, decide_eq_false (by simpa using z)]; rfl
    · rw [decide_eq_false z, decide_eq_true z]; rfl
  refine wp_asg (o := .bl (!decide (nR y = 0))) (ρ' := [some (S ns), some y.enc, some x.enc, some y.cj.enc, some SQ, some (pR x y).enc, some (.int (nR y)), some (.bl (!decide (nR y = 0))), none, none, none]) (ev_bin rfl rfl ne) rfl (sq_nx ?_)
  apply wp_seq
  refine wp_fz (ρ' := [some (S ns), some y.enc, some x.enc, some y.cj.enc, some SQ, some (pR x y).enc, some (.int (nR y)), some (.bl (!decide (nR y = 0))), none, none, none]) rfl (en _) (setE_s (setE_s (setE_s (setE_s (setE_s setE_z))))) (sq_nx ?_)
  apply wp_seq
  refine wp_for (os := (parts (pR x y)).map O.int) (ev_it rfl (it_tt rfl)) ?_
  have bp : ∀ p ∈ parts (pR x y), B 6500000 p := by
    obtain ⟨p1, p2, p3, p4⟩ := bP
    unfold parts
    simp only [List.forall_mem_cons, List.not_mem_nil, false_implies, implies_true, and_true]
    exact ⟨p1, p2, p3, p4⟩
  refine wl_map (fun dn ρ => ∃ a8, ρ = [some (S ns), some y.enc, some x.enc, some y.cj.enc, some SQ, some (pR x y).enc, some (.int (nR y)), some (.bl (decide (nR y ≠ 0 ∧ ∀ p ∈ dn, p % nR y = 0))), a8, none, none]) O.int (parts (pR x y)) [] _ ?_ ?_ ?_
  · refine ⟨none, ?_⟩
    have : (!decide (nR y = 0)) = decide (nR y ≠ 0 ∧ ∀ p ∈ ([] : List Int), p % nR y = 0) := by
      by_cases z : nR y = 0
      · rw [decide_eq_true z, decide_eq_false (fun q => q.1 z)]; rfl
      · rw [decide_eq_false z, decide_eq_true ⟨z, fun p hp => by cases hp⟩]; rfl
    rw [this]
  · rintro dn p r ρ hd ⟨a8, rfl⟩
    refine ⟨[some (S ns), some y.enc, some x.enc, some y.cj.enc, some SQ, some (pR x y).enc, some (.int (nR y)), some (.bl (decide (nR y ≠ 0 ∧ ∀ p ∈ dn, p % nR y = 0))), some (.int p), none, none], rfl, ?_⟩
    have hpm : p ∈ parts (pR x y) := by rw [List.nil_append] at hd; rw [hd]; simp
    have bpp := bp p hpm
    unfold Bd_law_1
    have t1 : dTru oBool (dBin oNe (fun ρ => look ρ 6) (fun _ => some (.int 0))) [some (S ns), some y.enc, some x.enc, some y.cj.enc, some SQ, some (pR x y).enc, some (.int (nR y)), some (.bl (decide (nR y ≠ 0 ∧ ∀ p ∈ dn, p % nR y = 0))), some (.int p), none, none] = some (!decide (nR y = 0)) := ev_tru (ev_bin rfl rfl ne) rfl
    by_cases z : nR y = 0
    · rw [decide_eq_true z] at t1
      refine wp_iff (ev_band_f t1) (wp_skip (lp_nx ⟨some (.int p), ?_⟩))
      rw [decide_eq_false (fun q => q.1 z), decide_eq_false (fun q => q.1 z)]
    · have hn : 0 < nR y := by omega
      rw [decide_eq_false z] at t1
      have bq : B 6500000 (p / nR y) := by
        have q := natAbs_fdiv_le (p := p) hn
        rw [Int.fdiv_eq_ediv_of_nonneg p (by omega)] at q
        exact Nat.lt_of_le_of_lt q bpp
      have o5 : oMul (.int (nR y)) (.int (p / nR y)) = some (.int (nR y * (p / nR y))) := by rw [oMul_i, if_pos (bN.ok bq (by decide))]
      have o6 : oNe (.int (p - nR y * (p / nR y))) (.int 0) = some (.bl (!decide (p % nR y = 0))) := by
        rw [oNe_i]; congr 2
        have e := Int.emod_def p (nR y)
        by_cases w : p % nR y = 0
        · rw [decide_eq_true w, decide_eq_false (by omega)]; rfl
        · rw [decide_eq_false w, decide_eq_true (by omega)]; rfl
      have t2 : dTru oBool (dBin oNe (dBin oSub (fun ρ => look ρ 8) (dBin oMul (fun ρ => look ρ 6) (dBin oDivP (fun ρ => look ρ 8) (fun ρ => look ρ 6)))) (fun _ => some (.int 0))) [some (S ns), some y.enc, some x.enc, some y.cj.enc, some SQ, some (pR x y).enc, some (.int (nR y)), some (.bl (decide (nR y ≠ 0 ∧ ∀ p ∈ dn, p % nR y = 0))), some (.int p), none, none] = some (!decide (p % nR y = 0)) :=
        ev_tru (ev_bin (ev_bin rfl (ev_bin rfl (ev_bin rfl rfl (oDivP_p hn)) o5) (oSub_i _ _)) rfl o6) rfl
      have tb := ev_band t1 t2
      by_cases w : p % nR y = 0
      · rw [decide_eq_true w] at tb
        refine wp_iff tb (wp_skip (lp_nx ⟨some (.int p), ?_⟩))
        have : decide (nR y ≠ 0 ∧ ∀ q ∈ dn ++ [p], q % nR y = 0) = decide (nR y ≠ 0 ∧ ∀ q ∈ dn, q % nR y = 0) := decide_eq_decide.mpr ⟨fun q => ⟨q.1, fun u hu => q.2 u (List.mem_append_left _ hu)⟩, fun q => ⟨q.1, fun u hu => by
          rcases List.mem_append.mp hu with h | h
          · exact q.2 u h
          · rw [List.mem_singleton.mp h]; exact w⟩⟩
        rw [this]
      · rw [decide_eq_false w] at tb
        refine wp_ift tb ?_
        refine wp_asg (o := .bl false) (ρ' := [some (S ns), some y.enc, some x.enc, some y.cj.enc, some SQ, some (pR x y).enc, some (.int (nR y)), some (.bl false), some (.int p), none, none]) rfl rfl (lp_nx ⟨some (.int p), ?_⟩)
        rw [decide_eq_false (fun q => w (q.2 p (List.mem_append_right _ (List.mem_singleton.mpr rfl))))]
  · rintro ρ ⟨a8, rfl⟩
    refine sq_nx ?_
    rw [List.nil_append]
    have dw : decide (nR y ≠ 0 ∧ ∀ p ∈ parts (pR x y), p % nR y = 0) = decide (whole x y) := decide_eq_decide.mpr wi.symm
    rw [dw]
    apply wp_seq
    apply wp_try
    apply wp_seq
    refine wp_fz (ρ' := [some (S ns), some y.enc, some x.enc, some y.cj.enc, some SQ, some (pR x y).enc, some (.int (nR y)), some (.bl (decide (whole x y))), a8, none, none]) rfl (en x) (setE_s (setE_s setE_z)) (sq_nx ?_)
    apply wp_seq
    refine wp_fz (ρ' := [some (S ns), some y.enc, some x.enc, some y.cj.enc, some SQ, some (pR x y).enc, some (.int (nR y)), some (.bl (decide (whole x y))), a8, none, none]) rfl (en y) (setE_s setE_z) (sq_nx ?_)
    by_cases hw : whole x y
    · obtain ⟨fd, ed⟩ := hdy hw
      refine wp_asgR (ρ' := [some (S ns), some y.enc, some x.enc, some y.cj.enc, some SQ, some (pR x y).enc, some (.int (nR y)), some (.bl (decide (whole x y))), a8, some (qR x y).enc, none]) (ev_callX (vs := [x.enc, y.enc]) (ev_cons rfl (ev_cons rfl ev_nil)) rfl ed (ok_fm (em _))) rfl (tq_nx (sq_nx ?_))
      rw [decide_eq_true hw]
      have qy := q_y hw
      have bq : (qR x y).bd 6500000 := by
        have hn : 0 < nR y := by have := hw.1; omega
        have q : ∀ p, B 6500000 p → B 6500000 (p / nR y) := fun p hp => by
          have q := natAbs_fdiv_le (p := p) hn
          rw [Int.fdiv_eq_ediv_of_nonneg p (by omega)] at q
          exact Nat.lt_of_le_of_lt q hp
        exact ⟨q _ bP.1, q _ bP.2.1, q _ bP.2.2.1, q _ bP.2.2.2⟩
      have m4 := l_mul bq (R.bd.mono hy (show _ ≤ 6500000 by decide)) (by decide)
      rw [qy] at m4
      have ir : ∃ f, F__law_is_ring [(qR x y).enc] = some (.bl true, f) := ⟨[none], l_is_ring _ _ _ _⟩
      obtain ⟨fi, ei⟩ := ir
      have ee : oEq x.enc x.enc = some (.bl true) := by rw [eq_RR, decide_eq_true rfl]
      generalize hQ : (qR x y).enc = Q at *
      have fQ : frz Q = Q := by rw [← hQ]; rfl
      apply wp_seq
      refine wp_fz (ρ' := [some (S ns), some y.enc, some x.enc, some y.cj.enc, some SQ, some (pR x y).enc, some (.int (nR y)), some (.bl true), a8, some Q, none]) rfl fQ (setE_s (setE_s (setE_s (setE_s (setE_s (setE_s (setE_s (setE_s (setE_s setE_z))))))))) (sq_nx ?_)
      apply wp_seq
      refine wp_fz (ρ' := [some (S ns), some y.enc, some x.enc, some y.cj.enc, some SQ, some (pR x y).enc, some (.int (nR y)), some (.bl true), a8, some Q, none]) rfl (en y) (setE_s setE_z) (sq_nx ?_)
      refine wp_ret (ev_vand (v := true) (w := true && true) rfl (ev_vand (v := true) (w := true) (ev_call (vs := [Q]) (ev_cons rfl ev_nil) (by show [frz Q] = _; rw [fQ]) ei (ok_fm rfl)) (ev_bin (ev_call (vs := [Q, y.enc]) (ev_cons rfl (ev_cons rfl ev_nil)) (by show [frz Q, _] = _; rw [fQ]; rfl) m4 (ok_fm (em _))) rfl ee))) ends_rt
    · obtain ⟨fd, ed⟩ := hdn hw
      refine wp_asgRe (ev_callXe (vs := [x.enc, y.enc]) (ev_cons rfl (ev_cons rfl ev_nil)) rfl ed) ?_
      rw [decide_eq_false hw]
      refine tq_rt (v := .bl true) rfl (by simp) rfl (fun a => ?_) (sq_rt rfl)
      exact ret_eq (ev_vand (v := subE 1 1) (w := !false) (ev_isE rfl) (ev_bind rfl ev_not))
end
end K05
open PySem PySem.W PyProof.Rows
set_option maxHeartbeats 0 in
theorem PySem.Challenge.cw_phasor_k05_ring_division_holds : PySem.Challenge.rw_phasor_k05_ring_division.Holds := by
  w_on; o_law; k_head; (case hw => w_witness2)
  k_fill
  refine Mini.walk_ofN (l := PySem.Challenge.rw_phasor_k05_ring_division) (n := 63) (k := 34) (x := "script") (CX := fun _ => L2.CX0) (sp := fun w => @Mini.spLaw ⟨[]⟩ _) rfl (by decide) rfl ⟨rfl, by decide, by decide⟩ (by first | rfl | decide +kernel) (fun w h Y => PySem.W.kIn_of Y) ?F (fun _ _ a ns hl hb hS => ⟨a, ns, rfl, hl, hb, hS, (fun p hp => by cases hp), fun _ => rfl⟩) (fun _ _ _ _ _ h => h)
  case F =>
    intro w mg fa h KX G hmg
    refine' K05.all_mk KX G hmg ?a0 ?l0 ?c0 ?k0 ?a1 ?l1 ?c1 ?k1 ?a2 ?l2 ?c2 ?k2 ?a3 ?l3 ?c3 ?k3 ?a4 ?l4 ?c4 ?k4 ?a5 ?l5 ?c5 ?k5 ?a6 ?l6 ?c6 ?k6 ?a7 ?l7 ?c7 ?k7 ?a8 ?l8 ?c8 ?k8 ?a9 ?l9 ?c9 ?k9 ?a10 ?l10 ?c10 ?k10 ?a11 ?l11 ?c11 ?k11 ?a12 ?l12 ?c12 ?k12 ?z_len ?z_int ?z_abs ?z_range ?z_isinstance ?z_bool ?z_tuple ?xa_PhasorError ?xe_PhasorError ?xk_PhasorError ?xs_PhasorError ?xt_PhasorError ?xg_PhasorError ?xh_PhasorError ?xd_PhasorError ?xc_PhasorError ?xm_PhasorError ?xz_PhasorError_PhasorError ?xz_PhasorError_NotDivisible ?xa_NotDivisible ?xe_NotDivisible ?xk_NotDivisible ?xs_NotDivisible ?xt_NotDivisible ?xg_NotDivisible ?xh_NotDivisible ?xd_NotDivisible ?xc_NotDivisible ?xm_NotDivisible ?xz_NotDivisible_PhasorError ?xz_NotDivisible_NotDivisible ?xo1 ?xo2 rfl K05.main
    (case xa_PhasorError => k_is)
    (case xa_NotDivisible => k_is)
    (case a0 => k_is)
    (case l0 => k_is)
    (case c0 => k_is)
    (case k0 => k_is)
    (case a1 => k_is)
    (case l1 => k_is)
    (case c1 => k_is)
    (case k1 => k_is)
    (case a2 => k_is)
    (case l2 => k_is)
    (case c2 => k_is)
    (case k2 => k_is)
    (case a3 => k_is)
    (case l3 => k_is)
    (case c3 => k_is)
    (case k3 => k_is)
    (case a4 => k_is)
    (case l4 => k_is)
    (case c4 => k_is)
    (case k4 => k_is)
    (case a5 => k_is)
    (case l5 => k_is)
    (case c5 => k_is)
    (case k5 => k_is)
    (case a6 => k_is)
    (case l6 => k_is)
    (case c6 => k_is)
    (case k6 => k_is)
    (case a7 => k_is)
    (case l7 => k_is)
    (case c7 => k_is)
    (case k7 => k_is)
    (case a8 => k_is)
    (case l8 => k_is)
    (case c8 => k_is)
    (case k8 => k_is)
    (case a9 => k_is)
    (case l9 => k_is)
    (case c9 => k_is)
    (case k9 => k_is)
    (case a10 => k_is)
    (case l10 => k_is)
    (case c10 => k_is)
    (case k10 => k_is)
    (case a11 => k_is)
    (case l11 => k_is)
    (case c11 => k_is)
    (case k11 => k_is)
    (case a12 => k_is)
    (case l12 => k_is)
    (case c12 => k_is)
    (case k12 => k_is)
    (case z_len => k_is)
    (case z_int => k_is)
    (case z_abs => k_is)
    (case z_range => k_is)
    (case z_isinstance => k_is)
    (case z_bool => k_is)
    (case z_tuple => k_is)
    (case xe_PhasorError => k_exc)
    (case xk_PhasorError => k_is)
    (case xs_PhasorError => k_is)
    (case xt_PhasorError => k_is)
    (case xg_PhasorError => k_is)
    (case xh_PhasorError => k_is)
    (case xd_PhasorError => k_is)
    (case xc_PhasorError => k_is)
    (case xm_PhasorError => k_is)
    (case xz_PhasorError_PhasorError => k_is)
    (case xz_PhasorError_NotDivisible => k_is)
    (case xe_NotDivisible => k_exc)
    (case xk_NotDivisible => k_is)
    (case xs_NotDivisible => k_is)
    (case xt_NotDivisible => k_is)
    (case xg_NotDivisible => k_is)
    (case xh_NotDivisible => k_is)
    (case xd_NotDivisible => k_is)
    (case xc_NotDivisible => k_is)
    (case xm_NotDivisible => k_is)
    (case xz_NotDivisible_PhasorError => k_is)
    (case xz_NotDivisible_NotDivisible => k_is)
    (case xo1 => k_is)
    (case xo2 => k_is)
