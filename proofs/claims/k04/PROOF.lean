import PyProof.Rows.All
import Wide.All
import OpenK.AllK
import Wide.FinOn
import HandS.ForMost
import HandS.IsInst
import HandS.Wide
import HandS.Star
import HandS.Defaults
import HandS.TupMul
import HandS.TupAny
import HandS.Zip
import PyProof.ListMulRoad
import PyProof.FactsAll.tuple_2
import HandS.TryOnly
import KE.DataEq
import HandS.Rev
import KE.KMinKey
import HandS.SortKw
import PySem.Challenge.RW_strewfar_k04_blocks_reversed
set_option Elab.async false
set_option linter.all false
set_option maxRecDepth 100000
set_option maxHeartbeats 2000000
set_option autoImplicit false
/-! Data layer: readings over data and a store, on top of the hand layer. -/
namespace DL
open PySem PySem.Spec PyProof.Rows L2

/-- data -/
inductive D where
  | non | bl (b : Bool) | int (i : Int) | str (x : Str) | tup (xs : List D) | lst (xs : List D) | rd (xs : List D) | ref (a : Addr) | ty (n : String)

def Ex (H H' : Hp) : Prop := ∀ a o, H a = some o → H' a = some o
theorem Ex.refl (H : Hp) : Ex H H := fun _ _ h => h
theorem Ex.trans {H H1 H2 : Hp} (a : Ex H H1) (b : Ex H1 H2) : Ex H H2 := fun x o h => b x o (a x o h)
theorem Ex.new {H : Hp} {p : Addr} {o : HO} (h : H p = none) : Ex H (upd H p o) := fun a u e => by
  rw [upd_ne (ne_of_none e h)]; exact e
theorem Ex.seqL {K : PySem.W.Frag} {H H' : Hp} {a : Addr} {xs : List V} (e : Ex H H') (h : SqL K H a xs) : SqL K H' a xs := by
  rcases h with (h | ⟨o, h⟩) | h
  · exact .inl (.inl (e _ _ h))
  · exact .inl (.inr ⟨o, e _ _ h⟩)
  · exact .inr h
theorem Ex.seqT {K : PySem.W.Frag} {H H' : Hp} {a : Addr} {xs : List V} (e : Ex H H') (h : SqT K H a xs) : SqT K H' a xs := by
  rcases h with (h | ⟨o, h⟩) | h
  · exact .inl (.inl (e _ _ h))
  · exact .inl (.inr ⟨o, e _ _ h⟩)
  · exact .inr h

mutual
inductive Rep (K : PySem.W.Frag) (F : Hp) : V → D → Prop
  | non : Rep K F .non .non
  | bl (b : Bool) : Rep K F (.bl b) (.bl b)
  | int (i : Int) : Rep K F (.int i) (.int i)
  | str (x : Str) : Rep K F (.str x) (.str x)
  | ty (n : String) : Rep K F (.ty n) (.ty n)
  | ref (a : Addr) : Rep K F (.ref a) (.ref a)
  | tup {a : Addr} {vs : List V} {ds : List D} : SqT K F a vs → Reps K F vs ds → Rep K F (.ref a) (.tup ds)
  | lst {a : Addr} {vs : List V} {ds : List D} : F a = some (.lst vs) → Reps K F vs ds → Rep K F (.ref a) (.lst ds)
  | rd {a : Addr} {vs : List V} {ds : List D} : SqL K F a vs → Reps K F vs ds → Rep K F (.ref a) (.rd ds)
inductive Reps (K : PySem.W.Frag) (F : Hp) : List V → List D → Prop
  | nil : Reps K F [] []
  | cons {v : V} {vs : List V} {d : D} {ds : List D} : Rep K F v d → Reps K F vs ds → Reps K F (v :: vs) (d :: ds)
end

section
variable {K : PySem.W.Frag} {F F' : Hp}
mutual
theorem Rep.mono (e : Ex F F') : ∀ (d : D) (v : V), Rep K F v d → Rep K F' v d
  | .non, _, h => by cases h; exact .non
  | .bl b, _, h => by cases h; exact .bl b
  | .int i, _, h => by cases h; exact .int i
  | .str x, _, h => by cases h; exact .str x
  | .ty n, _, h => by cases h; exact .ty n
  | .ref a, _, h => by cases h; exact .ref a
  | .tup ds, _, h => by
    cases h with
    | tup a b => exact .tup (e.seqT a) (Reps.mono e ds _ b)
  | .lst ds, _, h => by
    cases h with
    | lst a b => exact .lst (e _ _ a) (Reps.mono e ds _ b)
  | .rd ds, _, h => by
    cases h with
    | rd a b => exact .rd (e.seqL a) (Reps.mono e ds _ b)
theorem Reps.mono (e : Ex F F') : ∀ (ds : List D) (vs : List V), Reps K F vs ds → Reps K F' vs ds
  | [], _, h => by cases h; exact .nil
  | d :: ds, _, h => by
    cases h with
    | cons a b => exact .cons (Rep.mono e d _ a) (Reps.mono e ds _ b)
end
theorem Rep.up {v : V} {d : D} (h : Rep K F v d) (e : Ex F F') : Rep K F' v d := Rep.mono e d v h
theorem Reps.up {vs : List V} {ds : List D} (h : Reps K F vs ds) (e : Ex F F') : Reps K F' vs ds := Reps.mono e ds vs h
theorem Reps.len : ∀ {vs : List V} {ds : List D}, Reps K F vs ds → vs.length = ds.length
  | _, _, .nil => rfl
  | _, _, .cons _ t => by rw [List.length_cons, List.length_cons, Reps.len t]
theorem Reps.get : ∀ {vs : List V} {ds : List D} {i : Nat} {d : D}, Reps K F vs ds → ds[i]? = some d → ∃ v, vs[i]? = some v ∧ Rep K F v d
  | _, _, _, _, .nil, e => by simp at e
  | _, _, 0, _, .cons r _, e => by simp at e; subst e; exact ⟨_, rfl, r⟩
  | _, _, i + 1, d, .cons _ t, e => by
    obtain ⟨v, h1, h2⟩ := Reps.get (i := i) (d := d) t (by simpa using e)
    exact ⟨v, by simpa using h1, h2⟩
theorem Reps.app : ∀ {vs ws : List V} {ds es : List D}, Reps K F vs ds → Reps K F ws es → Reps K F (vs ++ ws) (ds ++ es)
  | _, _, _, _, .nil, s => s
  | _, _, _, _, .cons r t, s => .cons r (Reps.app t s)
theorem Reps.take : ∀ {vs : List V} {ds : List D} (n : Nat), Reps K F vs ds → Reps K F (vs.take n) (ds.take n)
  | _, _, 0, _ => by simp; exact .nil
  | _, _, _ + 1, .nil => .nil
  | _, _, n + 1, .cons r t => .cons r (Reps.take n t)
theorem Reps.drop : ∀ {vs : List V} {ds : List D} (n : Nat), Reps K F vs ds → Reps K F (vs.drop n) (ds.drop n)
  | _, _, 0, r => r
  | _, _, _ + 1, .nil => .nil
  | _, _, n + 1, .cons _ t => Reps.drop n t
theorem Reps.set {v : V} {d : D} (r : Rep K F v d) : ∀ {vs : List V} {ds : List D} (i : Nat), Reps K F vs ds → Reps K F (vs.set i v) (ds.set i d)
  | _, _, _, .nil => .nil
  | _, _, 0, .cons _ t => .cons r t
  | _, _, i + 1, .cons q t => .cons q (Reps.set r i t)
end

/-- what a mutable object holds -/
inductive MO where
  | lst (ds : List D) | dic (kvs : List (Key × D)) | dicT (kvs : List (List Key × D)) | ins (C dx : Addr) (fs : List (Str × D)) | raw (o : HO)
abbrev MS := Addr → Option MO
def updM (M : MS) (a : Addr) (m : MO) : MS := fun b => if b = a then some m else M b
def delM (M : MS) (a : Addr) : MS := fun b => if b = a then none else M b
theorem updM_same {M : MS} {a : Addr} {m : MO} : updM M a m a = some m := by unfold updM; rw [if_pos rfl]
theorem updM_ne {M : MS} {a b : Addr} {m : MO} (h : b ≠ a) : updM M a m b = M b := by unfold updM; rw [if_neg h]
theorem updM_updM {M : MS} {a : Addr} {m n : MO} : updM (updM M a m) a n = updM M a n := by
  funext b; unfold updM; split <;> rfl
theorem delM_updM {M : MS} {a : Addr} {m : MO} (h : M a = none) : delM (updM M a m) a = M := by
  funext b; unfold delM updM
  by_cases e : b = a
  · rw [if_pos e, e, h]
  · rw [if_neg e, if_neg e]
theorem updM_comm {M : MS} {a b : Addr} {m n : MO} (h : a ≠ b) : updM (updM M a m) b n = updM (updM M b n) a m := by
  funext c; unfold updM
  by_cases e : c = a
  · subst e; rw [if_neg h, if_pos rfl, if_pos rfl]
  · by_cases f : c = b
    · subst f; rw [if_pos rfl, if_neg e, if_pos rfl]
    · rw [if_neg f, if_neg e, if_neg e, if_neg f]
theorem mne_of_none {M : MS} {a b : Addr} {m : MO} (h : M a = some m) (h' : M b = none) : a ≠ b := by
  intro e; subst e; rw [h] at h'; cases h'

inductive RepKV {κ : Type} (K : PySem.W.Frag) (F : Hp) : List (κ × V) → List (κ × D) → Prop
  | nil : RepKV K F [] []
  | cons {k : κ} {v : V} {d : D} {xs : List (κ × V)} {ys : List (κ × D)} : Rep K F v d → RepKV K F xs ys → RepKV K F ((k, v) :: xs) ((k, d) :: ys)
theorem RepKV.up {κ : Type} {K : PySem.W.Frag} {F F' : Hp} (e : Ex F F') : ∀ {xs : List (κ × V)} {ys : List (κ × D)}, RepKV K F xs ys → RepKV K F' xs ys
  | _, _, .nil => .nil
  | _, _, .cons r t => .cons (r.up e) (RepKV.up e t)
theorem RepKV.len {κ : Type} {K : PySem.W.Frag} {F : Hp} : ∀ {xs : List (κ × V)} {ys : List (κ × D)}, RepKV K F xs ys → xs.length = ys.length
  | _, _, .nil => rfl
  | _, _, .cons _ t => by rw [List.length_cons, List.length_cons, RepKV.len t]

inductive RepM (K : PySem.W.Frag) (F : Hp) : HO → MO → Prop
  | lst {vs : List V} {ds : List D} : Reps K F vs ds → RepM K F (.lst vs) (.lst ds)
  | dic {xs : List (Key × V)} {ys : List (Key × D)} : RepKV K F xs ys → RepM K F (.dK xs) (.dic ys)
  | dicT {xs : List (List Key × V)} {ys : List (List Key × D)} : RepKV K F xs ys → RepM K F (.dT xs) (.dicT ys)
  | ins {C dx : Addr} {xs : List (Str × V)} {ys : List (Str × D)} : RepKV K F xs ys → RepM K F (.ins C dx xs) (.ins C dx ys)
  | raw (o : HO) : RepM K F o (.raw o)
theorem RepM.up {K : PySem.W.Frag} {F F' : Hp} {o : HO} {m : MO} (e : Ex F F') (h : RepM K F o m) : RepM K F' o m := by
  cases h with
  | lst r => exact .lst (r.up e)
  | dic r => exact .dic (r.up e)
  | dicT r => exact .dicT (r.up e)
  | ins r => exact .ins (r.up e)
  | raw o => exact .raw o

/-- the heap holds the frozen part and the store -/
structure Holds (K : PySem.W.Frag) (F : Hp) (M : MS) (H : Hp) : Prop where
  fr : Ex F H
  mu : ∀ a m, M a = some m → F a = none ∧ ∃ o, H a = some o ∧ RepM K F o m

section
variable {K : PySem.W.Frag} {F F' H : Hp} {M : MS} {p : Addr} {o : HO} {m m' : MO}
theorem Holds.freeM (h : Holds K F M H) (n : H p = none) : M p = none := by
  cases e : M p with
  | none => rfl
  | some m =>
    obtain ⟨_, o, q, _⟩ := h.mu p m e
    rw [n] at q; cases q
theorem Holds.freeF (h : Holds K F M H) (n : H p = none) : F p = none := by
  cases e : F p with
  | none => rfl
  | some o => have q := h.fr _ _ e; rw [n] at q; cases q
/-- a new frozen object -/
theorem Holds.newF (h : Holds K F M H) (n : H p = none) : Ex F (upd F p o) ∧ Holds K (upd F p o) M (upd H p o) := by
  have ef : Ex F (upd F p o) := Ex.new (h.freeF n)
  refine ⟨ef, ⟨fun a u e => ?_, fun a m e => ?_⟩⟩
  · by_cases q : a = p
    · subst q; rw [upd_same] at e ⊢; exact e
    · rw [upd_ne q] at e ⊢; exact h.fr _ _ e
  · obtain ⟨h1, u, h2, h3⟩ := h.mu a m e
    have q : a ≠ p := ne_of_none h2 n
    exact ⟨by rw [upd_ne q]; exact h1, u, by rw [upd_ne q]; exact h2, h3.up ef⟩
/-- a new mutable object -/
theorem Holds.newM (h : Holds K F M H) (n : H p = none) (r : RepM K F o m) : Holds K F (updM M p m) (upd H p o) := by
  refine ⟨fun a u e => ?_, fun a m2 e => ?_⟩
  · have q : a ≠ p := ne_of_none (h.fr _ _ e) n
    rw [upd_ne q]; exact h.fr _ _ e
  · by_cases q : a = p
    · subst q
      rw [updM_same] at e; cases e
      exact ⟨h.freeF n, o, upd_same, r⟩
    · rw [updM_ne q] at e
      obtain ⟨h1, u, h2, h3⟩ := h.mu a m2 e
      exact ⟨h1, u, by rw [upd_ne q]; exact h2, h3⟩
/-- a store -/
theorem Holds.setM (h : Holds K F M H) (e : M p = some m) (r : RepM K F o m') : Holds K F (updM M p m') (upd H p o) := by
  obtain ⟨hp, _⟩ := h.mu p m e
  refine ⟨fun a u e => ?_, fun a m2 e2 => ?_⟩
  · have q : a ≠ p := ne_of_none e hp
    rw [upd_ne q]; exact h.fr _ _ e
  · by_cases q : a = p
    · subst q
      rw [updM_same] at e2; cases e2
      exact ⟨hp, o, upd_same, r⟩
    · rw [updM_ne q] at e2
      obtain ⟨h1, u, h2, h3⟩ := h.mu a m2 e2
      exact ⟨h1, u, by rw [upd_ne q]; exact h2, h3⟩
/-- a mutable list is frozen -/
theorem Holds.freeze {ds : List D} (h : Holds K F M H) (e : M p = some (.lst ds)) : ∃ F', Ex F F' ∧ Holds K F' (delM M p) H ∧ Rep K F' (.ref p) (.lst ds) := by
  obtain ⟨hp, o, ho, r⟩ := h.mu p _ e
  cases r with
  | @lst vs _ r =>
    have ef : Ex F (upd F p (.lst vs)) := Ex.new hp
    refine ⟨upd F p (.lst vs), ef, ⟨fun a u q => ?_, fun a m2 e2 => ?_⟩, .lst upd_same (r.up ef)⟩
    · by_cases z : a = p
      · subst z; rw [upd_same] at q; cases q; exact ho
      · rw [upd_ne z] at q; exact h.fr _ _ q
    · have z : a ≠ p := by
        intro z; subst z
        unfold delM at e2; rw [if_pos rfl] at e2; cases e2
      have e3 : M a = some m2 := by
        unfold delM at e2; rw [if_neg z] at e2; exact e2
      obtain ⟨h1, u, h2, h3⟩ := h.mu a m2 e3
      exact ⟨by rw [upd_ne z]; exact h1, u, h2, h3.up ef⟩
/-- forget part of the store -/
theorem Holds.less {M' : MS} (h : Holds K F M H) (l : ∀ a m, M' a = some m → M a = some m) : Holds K F M' H := ⟨h.fr, fun a m e => h.mu a m (l a m e)⟩
end

/-! ### slots -/
abbrev StD := List (Option D)
structure RepSt (K : PySem.W.Frag) (F : Hp) (σ : L2.St) (τ : StD) : Prop where
  len : σ.length = τ.length
  at_ : ∀ (i : Nat) (d : D), τ[i]? = some (some d) → ∃ v, σ[i]? = some (some v) ∧ Rep K F v d
section
variable {K : PySem.W.Frag} {F F' : Hp} {σ : L2.St} {τ : StD}
theorem RepSt.up (h : RepSt K F σ τ) (e : Ex F F') : RepSt K F' σ τ := ⟨h.len, fun i d q => let ⟨v, a, b⟩ := h.at_ i d q; ⟨v, a, b.up e⟩⟩
theorem RepSt.set (h : RepSt K F σ τ) {v : V} {d : D} (r : Rep K F v d) (i : Nat) : RepSt K F (σ.set i (some v)) (τ.set i (some d)) := by
  refine ⟨by simp [h.len], fun j e q => ?_⟩
  by_cases z : i = j
  · subst z
    by_cases hl : i < τ.length
    · rw [List.getElem?_set_self hl] at q
      have q' : d = e := by simpa using q
      subst q'
      exact ⟨v, List.getElem?_set_self (by rw [h.len]; exact hl), r⟩
    · rw [List.getElem?_eq_none_iff.mpr (by rw [List.length_set]; omega)] at q; cases q
  · rw [List.getElem?_set_ne z] at q
    obtain ⟨w, h1, h2⟩ := h.at_ j e q
    exact ⟨w, by rw [List.getElem?_set_ne z]; exact h1, h2⟩
end
/-- the slots at a def's entry -/
def startD (n : Nat) (ds : List D) : StD := ds.map some ++ List.replicate (n - ds.length) none
theorem repSt_start {K : PySem.W.Frag} {F : Hp} {N : List Str} {vs : List V} {ds : List D} (r : Reps K F vs ds) : RepSt K F (start N vs) (startD N.length ds) := by
  have hl := r.len
  refine ⟨by simp [L2.start, startD, hl], fun i d q => ?_⟩
  unfold startD at q
  unfold L2.start
  by_cases hi : i < ds.length
  · rw [List.getElem?_append_left (by simpa using hi), List.getElem?_map] at q
    cases e : ds[i]? with
    | none => rw [e] at q; cases q
    | some d' =>
      rw [e] at q
      have q' : d' = d := by simpa using q
      subst q'
      obtain ⟨v, h1, h2⟩ := r.get e
      refine ⟨v, ?_, h2⟩
      rw [List.getElem?_append_left (by simp; omega), List.getElem?_map, h1]; rfl
  · rw [List.getElem?_append_right (by simp; omega), List.getElem?_replicate] at q
    split at q <;> simp at q

/-! ### the judgements over data -/
abbrev KD := D → MS → Prop
/-- an exception's class and fields -/
abbrev DX := Value → List (Str × D) → MS → Prop
abbrev KT := Bool → MS → Prop
abbrev KA := List D → MS → Prop
abbrev DE := DX → StD → MS → KD → Prop
abbrev DT := DX → StD → MS → KT → Prop
abbrev DA := DX → StD → MS → KA → Prop
abbrev DX.le (E E' : DX) : Prop := ∀ c fs M, E c fs M → E' c fs M
abbrev KD.le (k k' : KD) : Prop := ∀ d M, k d M → k' d M
abbrev KT.le (k k' : KT) : Prop := ∀ d M, k d M → k' d M
abbrev KA.le (k k' : KA) : Prop := ∀ d M, k d M → k' d M
def MonoE (c : DE) : Prop := ∀ (E E' : DX) σ M (k k' : KD), E.le E' → KD.le k k' → c E σ M k → c E' σ M k'
def MonoT (c : DT) : Prop := ∀ (E E' : DX) σ M (k k' : KT), E.le E' → KT.le k k' → c E σ M k → c E' σ M k'
def MonoA (c : DA) : Prop := ∀ (E E' : DX) σ M (k k' : KA), E.le E' → KA.le k k' → c E σ M k → c E' σ M k'
theorem MonoE.go {c : DE} (m : MonoE c) {E E' : DX} {σ M} {k k' : KD} (h : E.le E') (h2 : KD.le k k') (q : c E σ M k) : c E' σ M k' := m _ _ _ _ _ _ h h2 q
theorem MonoT.go {c : DT} (m : MonoT c) {E E' : DX} {σ M} {k k' : KT} (h : E.le E') (h2 : KT.le k k') (q : c E σ M k) : c E' σ M k' := m _ _ _ _ _ _ h h2 q
theorem MonoA.go {c : DA} (m : MonoA c) {E E' : DX} {σ M} {k k' : KA} (h : E.le E') (h2 : KA.le k k') (q : c E σ M k) : c E' σ M k' := m _ _ _ _ _ _ h h2 q
theorem DX.rfl {E : DX} : E.le E := fun _ _ _ h => h

/-- what follows, over the heap -/
abbrev KL (K : PySem.W.Frag) (F : Hp) (Q : VK) : KD := fun d M' => ∀ v H' F', Ex F F' → Holds K F' M' H' → Rep K F' v d → Q v H'
abbrev KTL (K : PySem.W.Frag) (F : Hp) (Q : Bool → Hp → Prop) : KT := fun b M' => ∀ H' F', Ex F F' → Holds K F' M' H' → Q b H'
abbrev KAL (K : PySem.W.Frag) (F : Hp) (Q : List V → Hp → Prop) : KA := fun ds M' => ∀ vs H' F', Ex F F' → Holds K F' M' H' → Reps K F' vs ds → Q vs H'
abbrev KXL (K : PySem.W.Frag) (F : Hp) (E : XK) : DX := fun c fs M' => ∀ a H' F', Ex F F' → Holds K F' M' H' → (∃ fvs, F' a = some (.xd fvs) ∧ RepKV K F' fvs fs) → E c (some a) H'
section
variable {K : PySem.W.Frag} {F F' : Hp}
theorem KL.up {Q : VK} (e : Ex F F') : KD.le (KL K F Q) (KL K F' Q) := fun _ _ q v H' F2 e2 => q v H' F2 (e.trans e2)
theorem KTL.up {Q : Bool → Hp → Prop} (e : Ex F F') : KT.le (KTL K F Q) (KTL K F' Q) := fun _ _ q H' F2 e2 => q H' F2 (e.trans e2)
theorem KAL.up {Q : List V → Hp → Prop} (e : Ex F F') : KA.le (KAL K F Q) (KAL K F' Q) := fun _ _ q v H' F2 e2 => q v H' F2 (e.trans e2)
theorem KXL.up {E : XK} (e : Ex F F') : DX.le (KXL K F E) (KXL K F' E) := fun _ _ _ q v H' F2 e2 => q v H' F2 (e.trans e2)
end
abbrev WXL := Value → Option Addr → L2.St → Hp → Prop
abbrev atW (W : WXL) (σ : L2.St) : XK := fun c d H => W c d σ H
def TD (K : PySem.W.Frag) (W : WXL) (c : DE) : TE := fun σ H Q => ∃ τ M F, RepSt K F σ τ ∧ Holds K F M H ∧ c (KXL K F (atW W σ)) τ M (KL K F Q)
def TTD (K : PySem.W.Frag) (W : WXL) (c : DT) : TT := fun σ H Q => ∃ τ M F, RepSt K F σ τ ∧ Holds K F M H ∧ c (KXL K F (atW W σ)) τ M (KTL K F Q)
def TAD (K : PySem.W.Frag) (W : WXL) (c : DA) : TA := fun σ H Q => ∃ τ M F, RepSt K F σ τ ∧ Holds K F M H ∧ c (KXL K F (atW W σ)) τ M (KAL K F Q)

structure PEd (X : Cx) (W : WXL) (e : Expr) (c : DE) : Prop where
  run : PE X e (TD X.K W c)
  mono : MonoE c
structure PTd (X : Cx) (W : WXL) (e : Expr) (c : DT) : Prop where
  run : PT X e (TTD X.K W c)
  mono : MonoT c
structure PWd (X : Cx) (W : WXL) (e : Expr) (c : DT) : Prop where
  run : PW X e (TTD X.K W c)
  mono : MonoT c
structure PAd (X : Cx) (W : WXL) (es : List Expr) (c : DA) : Prop where
  run : PA X es (TAD X.K W c)
  mono : MonoA c

theorem PE.weak {X : Cx} {e : Expr} {t t' : TE} (p : PE X e t) (w : ∀ σ H Q, t' σ H Q → t σ H Q) : PE X e t' := ⟨fun pins s σ H Q I h => p.run pins s σ H Q I (w σ H Q h)⟩
theorem PT.weak {X : Cx} {e : Expr} {t t' : TT} (p : PT X e t) (w : ∀ σ H Q, t' σ H Q → t σ H Q) : PT X e t' := ⟨fun pins s σ H Q I h => p.run pins s σ H Q I (w σ H Q h)⟩
theorem PW.weak {X : Cx} {e : Expr} {t t' : TT} (p : PW X e t) (w : ∀ σ H Q, t' σ H Q → t σ H Q) : PW X e t' := ⟨fun wh pins s σ H Q I h => p.run wh pins s σ H Q I (w σ H Q h)⟩
theorem PA.weak {X : Cx} {e : List Expr} {t t' : TA} (p : PA X e t) (w : ∀ σ H Q, t' σ H Q → t σ H Q) : PA X e t' := ⟨fun pos pins s σ H Q I h => p.run pos pins s σ H Q I (w σ H Q h)⟩
theorem PS.weak {X : Cx} {e : Stmt} {t t' : TS} (p : PS X e t) (w : ∀ D σ H, t' D σ H → t D σ H) : PS X e t' := ⟨fun pins s σ H D I h => p.run pins s σ H D I (w D σ H h)⟩
theorem PSs.weak {X : Cx} {e : List Stmt} {t t' : TS} (p : PSs X e t) (w : ∀ D σ H, t' D σ H → t D σ H) : PSs X e t' := ⟨fun pins s σ H D I h => p.run pins s σ H D I (w D σ H h)⟩
end DL

set_option maxHeartbeats 2000000
namespace DL
open PySem PySem.Spec PyProof.Rows L2

section
variable {X : Cx} {W : WXL} {a b c e : Expr} {es : List Expr} {pos p : Pos} {ca cb cc : DE} {ct cu : DT} {cas : DA}

/-! ### names, constants -/
def cVar (i : Nat) : DE := fun _ σ M k => match σ[i]? with
  | some (some d) => k d M
  | _ => False
def cC (d : D) : DE := fun _ _ M k => k d M
theorem mono_var {i : Nat} : MonoE (cVar i) := by
  intro E E' σ M k k' _ hk h
  unfold cVar at h ⊢
  split at h
  · rename_i d e; exact hk _ _ h
  · exact h.elim
theorem pd_var {i : Nat} {x : Str} (h : PE X (.Name x p) (tVar i)) : PEd X W (.Name x p) (cVar i) := by
  refine ⟨PE.weak h ?_, mono_var⟩
  rintro σ H Q ⟨τ, M, F, rs, hh, hc⟩
  unfold cVar at hc
  split at hc
  · rename_i d e
    obtain ⟨v, hv, r⟩ := rs.at_ i d e
    exact ⟨v, hv, hc v H F (Ex.refl F) hh r⟩
  · exact hc.elim
theorem pd_c {v : V} {d : D} (h : PE X e (tC v)) (r : ∀ F, Rep X.K F v d) : PEd X W e (cC d) := by
  refine ⟨PE.weak h ?_, fun _ _ _ _ _ _ _ hk h => hk _ _ h⟩
  rintro σ H Q ⟨τ, M, F, rs, hh, hc⟩
  exact hc v H F (Ex.refl F) hh (r F)
theorem pd_int {i j} : PEd X W (.Constant (.int i) j pos) (cC (.int i)) := pd_c pe_int fun _ => .int i
theorem pd_bl {b j} : PEd X W (.Constant (.bool b) j pos) (cC (.bl b)) := pd_c pe_bl fun _ => .bl b
theorem pd_non {j} : PEd X W (.Constant .none j pos) (cC .non) := pd_c pe_non fun _ => .non
theorem pd_str {x j} : PEd X W (.Constant (.str x) j pos) (cC (.str x)) := pd_c pe_str fun _ => .str x

/-! ### binary operators -/
abbrev RD2 := D → D → MS → KD → Prop
def MonoR2 (ρ : RD2) : Prop := ∀ dx dy M (k k' : KD), KD.le k k' → ρ dx dy M k → ρ dx dy M k'
theorem MonoR2.go {ρ : RD2} (m : MonoR2 ρ) {dx dy M} {k k' : KD} (h : KD.le k k') (q : ρ dx dy M k) : ρ dx dy M k' := m _ _ _ _ _ h q
def MonoR1 (ρ : D → MS → KD → Prop) : Prop := ∀ dx M (k k' : KD), KD.le k k' → ρ dx M k → ρ dx M k'
theorem MonoR1.go {ρ : D → MS → KD → Prop} (m : MonoR1 ρ) {dx M} {k k' : KD} (h : KD.le k k') (q : ρ dx M k) : ρ dx M k' := m _ _ _ _ h q
def MonoRC (ρ : List D → MS → KD → Prop) : Prop := ∀ ds M (k k' : KD), KD.le k k' → ρ ds M k → ρ ds M k'
theorem MonoRC.go {ρ : List D → MS → KD → Prop} (m : MonoRC ρ) {ds M} {k k' : KD} (h : KD.le k k') (q : ρ ds M k) : ρ ds M k' := m _ _ _ _ h q
structure OpD (X : Cx) (f : Value → Value → Sem Value) (ρ : RD2) : Prop where
  run : ∃ r, OpR X f r ∧ ∀ x y dx dy H F M Q, Holds X.K F M H → Rep X.K F x dx → Rep X.K F y dy → ρ dx dy M (KL X.K F Q) → r x y H Q
  mono : MonoR2 ρ
def cBin (ρ : RD2) (ca cb : DE) : DE := fun E σ M k => ca E σ M (fun x M1 => cb E σ M1 (fun y M2 => ρ x y M2 k))
theorem mono_bin {ρ : RD2} (hm : MonoR2 ρ) (ma : MonoE ca) (mb : MonoE cb) : MonoE (cBin ρ ca cb) :=
  fun _ _ _ _ _ _ hE hk h => ma.go hE (fun _ _ q => mb.go hE (fun _ _ q2 => hm.go hk q2) q) h
theorem td_bin {ρ : RD2} {r : R2} {K : PySem.W.Frag} (hr : ∀ x y dx dy H F M Q, Holds K F M H → Rep K F x dx → Rep K F y dy → ρ dx dy M (KL K F Q) → r x y H Q)
    (hm : MonoR2 ρ) (ma : MonoE ca) (mb : MonoE cb) {σ : L2.St} {H : Hp} {Q : VK} (h : TD K W (cBin ρ ca cb) σ H Q) : tOp r (TD K W ca) (TD K W cb) σ H Q := by
  obtain ⟨τ, M, F, rs, hh, hc⟩ := h
  refine ⟨τ, M, F, rs, hh, ma.go DX.rfl (fun dx M1 q => ?_) hc⟩
  intro v H1 F1 e1 h1 r1
  refine ⟨τ, M1, F1, rs.up e1, h1, mb.go (KXL.up e1) (fun dy M2 q2 => ?_) q⟩
  intro w H2 F2 e2 h2 r2
  exact hr v w dx dy H2 F2 M2 Q h2 (r1.up e2) r2 (hm.go (KL.up (e1.trans e2)) q2)
theorem pd_bin {op : Operator} {ρ : RD2} (ho : OpD X (binaryOp op) ρ) (ha : PEd X W a ca) (hb : PEd X W b cb) : PEd X W (.BinOp a op b pos) (cBin ρ ca cb) := by
  obtain ⟨r, hr, hq⟩ := ho.run
  exact ⟨PE.weak (pe_op hr ha.run hb.run) fun σ H Q h => td_bin hq ho.mono ha.mono hb.mono h, mono_bin ho.mono ha.mono hb.mono⟩
theorem pd_cmp {op : CmpOp} {ρ : RD2} (ho : OpD X (compareOp op) ρ) (ha : PEd X W a ca) (hb : PEd X W b cb) (hm : behindInMarks op b = false) : PEd X W (.Compare a [op] [b] pos) (cBin ρ ca cb) := by
  obtain ⟨r, hr, hq⟩ := ho.run
  exact ⟨PE.weak (pe_cmpR hr ha.run hb.run hm) fun σ H Q h => td_bin hq ho.mono ha.mono hb.mono h, mono_bin ho.mono ha.mono hb.mono⟩
/-- the value is a truth value -/
def asB (k : KT) : KD := fun d M => match d with
  | .bl b => k b M
  | _ => False
theorem asB_le {k k' : KT} (h : KT.le k k') : KD.le (asB k) (asB k') := fun d M q => by
  cases d <;> first | exact h _ _ q | exact q
theorem asB_of {K : PySem.W.Frag} {F : Hp} {Q : Bool → Hp → Prop} : KD.le (asB (KTL K F Q)) (KL K F fun x H' => ∃ k, x = V.bl k ∧ Q k H') := fun d M q v H' F' e h r => by
  cases d <;> first | exact q.elim | (cases r; exact ⟨_, rfl, q H' F' e h⟩)
def cTest (c : DE) : DT := fun E σ M k => c E σ M (asB k)
theorem mono_test (m : MonoE ca) : MonoT (cTest ca) := fun _ _ _ _ _ _ hE hk h => m.go hE (asB_le hk) h
theorem ptd_cmp {op : CmpOp} {ρ : RD2} (ho : OpD X (compareOp op) ρ) (ha : PEd X W a ca) (hb : PEd X W b cb) (hm : behindInMarks op b = false) : PTd X W (.Compare a [op] [b] pos) (cTest (cBin ρ ca cb)) := by
  obtain ⟨r, hr, hq⟩ := ho.run
  refine ⟨PT.weak (pt_cmpR hr ha.run hb.run hm) fun σ H Q h => ?_, mono_test (mono_bin ho.mono ha.mono hb.mono)⟩
  obtain ⟨τ, M, F, rs, hh, hc⟩ := h
  exact td_bin hq ho.mono ha.mono hb.mono ⟨τ, M, F, rs, hh, (mono_bin ho.mono ha.mono hb.mono).go DX.rfl asB_of hc⟩
/-- a test that is a truth value -/
theorem ptd_val (ha : PEd X W e ca) (he : ∀ whole, isTrue e X.env whole = (do let v ← whole; standAt e.pos; holding [v] (truthy v)) := by intro _; rfl) : PTd X W e (cTest ca) := by
  refine ⟨PT.weak (pt_val ha.run he) fun σ H Q h => ?_, mono_test ha.mono⟩
  obtain ⟨τ, M, F, rs, hh, hc⟩ := h
  exact ⟨τ, M, F, rs, hh, ha.mono.go DX.rfl asB_of hc⟩

/-! ### and, or, not, if -/
def cAnd (t u : DT) : DT := fun E σ M k => t E σ M (fun b M1 => if b = true then u E σ M1 k else k false M1)
def cOr (t u : DT) : DT := fun E σ M k => t E σ M (fun b M1 => if b = true then k true M1 else u E σ M1 k)
def cNot (t : DT) : DT := fun E σ M k => t E σ M (fun b M1 => k (!b) M1)
theorem ite_le {A B A' B' : Prop} {c : Prop} [Decidable c] (h1 : A → A') (h2 : B → B') (h : if c then A else B) : if c then A' else B' := by
  by_cases z : c
  · rw [if_pos z] at h ⊢; exact h1 h
  · rw [if_neg z] at h ⊢; exact h2 h
theorem mono_and (ma : MonoT ct) (mb : MonoT cu) : MonoT (cAnd ct cu) := fun _ _ _ _ _ _ hE hk h => ma.go hE (fun _ _ q => ite_le (fun z => mb.go hE hk z) (hk _ _) q) h
theorem mono_or (ma : MonoT ct) (mb : MonoT cu) : MonoT (cOr ct cu) := fun _ _ _ _ _ _ hE hk h => ma.go hE (fun _ _ q => ite_le (hk _ _) (fun z => mb.go hE hk z) q) h
theorem mono_not (ma : MonoT ct) : MonoT (cNot ct) := fun _ _ _ _ _ _ hE hk h => ma.go hE (fun _ _ q => hk _ _ q) h
theorem pwd_and1 (ha : PTd X W a ct) : PWd X W (.BoolOp .And [a] pos) ct := ⟨pw_and1 ha.run, ha.mono⟩
theorem pwd_or1 (ha : PTd X W a ct) : PWd X W (.BoolOp .Or [a] pos) ct := ⟨pw_or1 ha.run, ha.mono⟩
theorem pwd_and {rest : List Expr} (ha : PTd X W a ct) (hb : PWd X W (.BoolOp .And (b :: rest) pos) cu) : PWd X W (.BoolOp .And (a :: b :: rest) pos) (cAnd ct cu) := by
  refine ⟨PW.weak (pw_and ha.run hb.run) ?_, mono_and ha.mono hb.mono⟩
  rintro σ H Q ⟨τ, M, F, rs, hh, hc⟩
  refine ⟨τ, M, F, rs, hh, ha.mono.go DX.rfl (fun d M1 q => ?_) hc⟩
  intro H1 F1 e1 h1
  exact ite_le (fun z => ⟨τ, M1, F1, rs.up e1, h1, hb.mono.go (KXL.up e1) (KTL.up e1) z⟩) (fun z => z H1 F1 e1 h1) q
theorem pwd_or {rest : List Expr} (ha : PTd X W a ct) (hb : PWd X W (.BoolOp .Or (b :: rest) pos) cu) : PWd X W (.BoolOp .Or (a :: b :: rest) pos) (cOr ct cu) := by
  refine ⟨PW.weak (pw_or ha.run hb.run) ?_, mono_or ha.mono hb.mono⟩
  rintro σ H Q ⟨τ, M, F, rs, hh, hc⟩
  refine ⟨τ, M, F, rs, hh, ha.mono.go DX.rfl (fun d M1 q => ?_) hc⟩
  intro H1 F1 e1 h1
  exact ite_le (fun z => z H1 F1 e1 h1) (fun z => ⟨τ, M1, F1, rs.up e1, h1, hb.mono.go (KXL.up e1) (KTL.up e1) z⟩) q
theorem PWd.pt (h : PWd X W e ct) : PTd X W e ct := ⟨h.run.pt, h.mono⟩
theorem ptd_not (ha : PTd X W a ct) : PTd X W (.UnaryOp .Not a pos) (cNot ct) := by
  refine ⟨PT.weak (pt_not ha.run) ?_, mono_not ha.mono⟩
  rintro σ H Q ⟨τ, M, F, rs, hh, hc⟩
  exact ⟨τ, M, F, rs, hh, ha.mono.go DX.rfl (fun d M1 q H1 F1 e1 h1 => q H1 F1 e1 h1) hc⟩
/-- as values -/
def cAndV (ca cb : DE) : DE := fun E σ M k => ca E σ M (asB fun b M1 => if b = true then cb E σ M1 k else k (.bl false) M1)
def cOrV (ca cb : DE) : DE := fun E σ M k => ca E σ M (asB fun b M1 => if b = true then k (.bl true) M1 else cb E σ M1 k)
def cNotV (ca : DE) : DE := fun E σ M k => ca E σ M (asB fun b M1 => k (.bl (!b)) M1)
theorem mono_andV (ma : MonoE ca) (mb : MonoE cb) : MonoE (cAndV ca cb) := fun _ _ _ _ _ _ hE hk h => ma.go hE (asB_le fun _ _ q => ite_le (fun z => mb.go hE hk z) (hk _ _) q) h
theorem mono_orV (ma : MonoE ca) (mb : MonoE cb) : MonoE (cOrV ca cb) := fun _ _ _ _ _ _ hE hk h => ma.go hE (asB_le fun _ _ q => ite_le (hk _ _) (fun z => mb.go hE hk z) q) h
theorem mono_notV (ma : MonoE ca) : MonoE (cNotV ca) := fun _ _ _ _ _ _ hE hk h => ma.go hE (asB_le fun _ _ q => hk _ _ q) h
theorem asB_lift {K : PySem.W.Frag} {F : Hp} {k : KT} {P : Bool → Hp → Prop} (h : ∀ b M H' F', Ex F F' → Holds K F' M H' → k b M → P b H') : KD.le (asB k) (KL K F fun x H' => ∃ c, x = V.bl c ∧ P c H') := fun d M q v H' F' e hh r => by
  cases d <;> first | exact q.elim | (cases r; exact ⟨_, rfl, h _ M H' F' e hh q⟩)
theorem pd_one {op} (h : PEd X W a ca) : PEd X W (.BoolOp op [a] pos) ca := ⟨pe_one h.run, h.mono⟩
theorem pd_and {rest : List Expr} (ha : PEd X W a ca) (hb : PEd X W (.BoolOp .And (b :: rest) pos) cb) : PEd X W (.BoolOp .And (a :: b :: rest) pos) (cAndV ca cb) := by
  refine ⟨PE.weak (pe_and ha.run hb.run) ?_, mono_andV ha.mono hb.mono⟩
  rintro σ H Q ⟨τ, M, F, rs, hh, hc⟩
  refine ⟨τ, M, F, rs, hh, ha.mono.go DX.rfl (asB_lift fun d M1 H1 F1 e1 h1 q => ?_) hc⟩
  exact ite_le (fun z => ⟨τ, M1, F1, rs.up e1, h1, hb.mono.go (KXL.up e1) (KL.up e1) z⟩) (fun z => z _ H1 F1 e1 h1 (.bl _)) q
theorem pd_or {rest : List Expr} (ha : PEd X W a ca) (hb : PEd X W (.BoolOp .Or (b :: rest) pos) cb) : PEd X W (.BoolOp .Or (a :: b :: rest) pos) (cOrV ca cb) := by
  refine ⟨PE.weak (pe_or ha.run hb.run) ?_, mono_orV ha.mono hb.mono⟩
  rintro σ H Q ⟨τ, M, F, rs, hh, hc⟩
  refine ⟨τ, M, F, rs, hh, ha.mono.go DX.rfl (asB_lift fun d M1 H1 F1 e1 h1 q => ?_) hc⟩
  exact ite_le (fun z => z _ H1 F1 e1 h1 (.bl _)) (fun z => ⟨τ, M1, F1, rs.up e1, h1, hb.mono.go (KXL.up e1) (KL.up e1) z⟩) q
theorem pd_not (ha : PEd X W a ca) : PEd X W (.UnaryOp .Not a pos) (cNotV ca) := by
  refine ⟨PE.weak (pe_not ha.run) ?_, mono_notV ha.mono⟩
  rintro σ H Q ⟨τ, M, F, rs, hh, hc⟩
  exact ⟨τ, M, F, rs, hh, ha.mono.go DX.rfl (asB_lift fun d M1 H1 F1 e1 h1 q => q _ H1 F1 e1 h1 (.bl _)) hc⟩
def cIfE (t : DT) (ca cb : DE) : DE := fun E σ M k => t E σ M (fun b M1 => if b = true then ca E σ M1 k else cb E σ M1 k)
theorem pd_ifExp (hc : PTd X W c ct) (ha : PEd X W a ca) (hb : PEd X W b cb) : PEd X W (.IfExp c a b pos) (cIfE ct ca cb) := by
  refine ⟨PE.weak (pe_ifExp hc.run ha.run hb.run) ?_, fun _ _ _ _ _ _ hE hk h => hc.mono.go hE (fun _ _ q => ite_le (fun z => ha.mono.go hE hk z) (fun z => hb.mono.go hE hk z) q) h⟩
  rintro σ H Q ⟨τ, M, F, rs, hh, h⟩
  refine ⟨τ, M, F, rs, hh, hc.mono.go DX.rfl (fun d M1 q => ?_) h⟩
  intro H1 F1 e1 h1
  exact ite_le (fun z => ⟨τ, M1, F1, rs.up e1, h1, ha.mono.go (KXL.up e1) (KL.up e1) z⟩) (fun z => ⟨τ, M1, F1, rs.up e1, h1, hb.mono.go (KXL.up e1) (KL.up e1) z⟩) q

/-! ### arguments, displays -/
def cNil : DA := fun _ _ M k => k [] M
def cCons (ca : DE) (cr : DA) : DA := fun E σ M k => ca E σ M (fun x M1 => cr E σ M1 (fun xs M2 => k (x :: xs) M2))
theorem pad_nil : PAd X W [] cNil := ⟨PA.weak pa_nil (fun σ H Q ⟨τ, M, F, rs, hh, hc⟩ => hc [] H F (Ex.refl F) hh .nil), fun _ _ _ _ _ _ _ hk h => hk _ _ h⟩
theorem pad_cons (ha : PEd X W e ca) (hr : PAd X W es cas) (hs : starEach (e :: es) X.env = (false, eval e X.env) :: starEach es X.env := by rfl) : PAd X W (e :: es) (cCons ca cas) := by
  refine ⟨PA.weak (pa_cons ha.run hr.run hs) ?_, fun _ _ _ _ _ _ hE hk h => ha.mono.go hE (fun _ _ q => hr.mono.go hE (fun _ _ q2 => hk _ _ q2) q) h⟩
  rintro σ H Q ⟨τ, M, F, rs, hh, hc⟩
  refine ⟨τ, M, F, rs, hh, ha.mono.go DX.rfl (fun dx M1 q => ?_) hc⟩
  intro v H1 F1 e1 h1 r1
  refine ⟨τ, M1, F1, rs.up e1, h1, hr.mono.go (KXL.up e1) (fun ds M2 q2 => ?_) q⟩
  intro vs H2 F2 e2 h2 r2
  exact q2 (v :: vs) H2 F2 (e1.trans e2) h2 (.cons (r1.up e2) r2)
def cTup (cas : DA) : DE := fun E σ M k => cas E σ M (fun ds M1 => ds.length ≤ sizeLine ∧ k (.tup ds) M1)
def cLst (cas : DA) : DE := fun E σ M k => cas E σ M (fun ds M1 => ds.length ≤ sizeLine ∧ (k (.lst ds) M1 ∨ ∀ p, M1 p = none → k (.ref p) (updM M1 p (.lst ds))))
theorem pd_tup {x1} (h : PAd X W es cas) : PEd X W (.Tuple es x1 pos) (cTup cas) := by
  refine ⟨PE.weak (pe_tup h.run) ?_, fun _ _ _ _ _ _ hE hk q => h.mono.go hE (fun _ _ z => ⟨z.1, hk _ _ z.2⟩) q⟩
  rintro σ H Q ⟨τ, M, F, rs, hh, hc⟩
  refine ⟨τ, M, F, rs, hh, h.mono.go DX.rfl (fun ds M1 q => ?_) hc⟩
  intro vs H1 F1 e1 h1 r1
  refine ⟨by rw [r1.len]; exact q.1, fun p np => ?_⟩
  obtain ⟨e2, h2⟩ := h1.newF (o := .tup vs) np
  exact q.2 _ _ _ (e1.trans e2) h2 (.tup (SqT.of upd_same) (r1.up e2))
/-- a new list: data that stays, or an object of the store -/
theorem new_list {K : PySem.W.Frag} {F : Hp} {M : MS} {H : Hp} {Q : VK} {vs : List V} {ds : List D} (hh : Holds K F M H) (r : Reps K F vs ds) (h : KL K F Q (.lst ds) M ∨ ∀ p, M p = none → KL K F Q (.ref p) (updM M p (.lst ds)))
    {p : Addr} (np : H p = none) : Q (.ref p) (upd H p (.lst vs)) := by
  rcases h with h | h
  · obtain ⟨e2, h2⟩ := hh.newF (o := .lst vs) np
    exact h _ _ _ e2 h2 (.lst upd_same (r.up e2))
  · exact h p (hh.freeM np) _ _ _ (Ex.refl F) (hh.newM np (.lst r)) (.ref p)
theorem kl_or {K : PySem.W.Frag} {F F' : Hp} {Q : VK} {M : MS} {ds : List D} (e : Ex F F') (h : KL K F Q (.lst ds) M ∨ ∀ p, M p = none → KL K F Q (.ref p) (updM M p (.lst ds))) :
    KL K F' Q (.lst ds) M ∨ ∀ p, M p = none → KL K F' Q (.ref p) (updM M p (.lst ds)) := h.imp (KL.up e _ _) (fun q p np => KL.up e _ _ (q p np))
theorem or_le {k k' : KD} (hk : KD.le k k') {M : MS} {ds : List D} (h : k (.lst ds) M ∨ ∀ p, M p = none → k (.ref p) (updM M p (.lst ds))) : k' (.lst ds) M ∨ ∀ p, M p = none → k' (.ref p) (updM M p (.lst ds)) :=
  h.imp (hk _ _) (fun q p np => hk _ _ (q p np))
theorem pd_lst (h : PAd X W es cas) : PEd X W (.List es pos) (cLst cas) := by
  refine ⟨PE.weak (pe_lst h.run) ?_, fun _ _ _ _ _ _ hE hk q => h.mono.go hE (fun _ _ z => ⟨z.1, or_le hk z.2⟩) q⟩
  rintro σ H Q ⟨τ, M, F, rs, hh, hc⟩
  refine ⟨τ, M, F, rs, hh, h.mono.go DX.rfl (fun ds M1 q => ?_) hc⟩
  intro vs H1 F1 e1 h1 r1
  exact ⟨by rw [r1.len]; exact q.1, fun p np => new_list h1 r1 (kl_or e1 q.2) np⟩

/-! ### one-place operators -/
structure UnD (X : Cx) (f : Value → Sem Value) (ρ : D → MS → KD → Prop) : Prop where
  run : ∃ r, UnR X f r ∧ ∀ x dx H F M Q, Holds X.K F M H → Rep X.K F x dx → ρ dx M (KL X.K F Q) → r x H Q
  mono : MonoR1 ρ
def cUn (ρ : D → MS → KD → Prop) (ca : DE) : DE := fun E σ M k => ca E σ M (fun x M1 => ρ x M1 k)
theorem pd_un {op : UnaryOp} {ρ : D → MS → KD → Prop} (ho : UnD X (unaryOp op) ρ) (ha : PEd X W a ca) : PEd X W (.UnaryOp op a pos) (cUn ρ ca) := by
  obtain ⟨r, hr, hq⟩ := ho.run
  refine ⟨PE.weak (pe_un hr ha.run) ?_, fun _ _ _ _ _ _ hE hk h => ha.mono.go hE (fun _ _ q => ho.mono.go hk q) h⟩
  rintro σ H Q ⟨τ, M, F, rs, hh, hc⟩
  refine ⟨τ, M, F, rs, hh, ha.mono.go DX.rfl (fun dx M1 q => ?_) hc⟩
  intro v H1 F1 e1 h1 r1
  exact hq v dx H1 F1 M1 Q h1 r1 (ho.mono.go (KL.up e1) q)

/-! ### built-ins called by their names -/
abbrev RCD := List D → MS → KD → Prop
structure CallD (X : Cx) (f : Value) (ρ : RCD) : Prop where
  run : ∃ r, CallR X f r ∧ ∀ vs ds H F M Q, Holds X.K F M H → Reps X.K F vs ds → ρ ds M (KL X.K F Q) → r vs H Q
  mono : MonoRC ρ
def cCB (ρ : RCD) (cas : DA) : DE := fun E σ M k => cas E σ M (fun ds M1 => ρ ds M1 k)
theorem mono_cb {ρ : RCD} (hm : MonoRC ρ) (ma : MonoA cas) : MonoE (cCB ρ cas) := fun _ _ _ _ _ _ hE hk h => ma.go hE (fun _ _ q => hm.go hk q) h
theorem td_cb {K : PySem.W.Frag} {ρ : RCD} {r : List V → Hp → VK → Prop} (hq : ∀ vs ds H F M Q, Holds K F M H → Reps K F vs ds → ρ ds M (KL K F Q) → r vs H Q)
    (hm : MonoRC ρ) (ma : MonoA cas) {σ : L2.St} {H : Hp} {Q : VK} (h : TD K W (cCB ρ cas) σ H Q) : tCB r (TAD K W cas) σ H Q := by
  obtain ⟨τ, M, F, rs, hh, hc⟩ := h
  refine ⟨τ, M, F, rs, hh, ma.go DX.rfl (fun ds M1 q => ?_) hc⟩
  intro vs H1 F1 e1 h1 r1
  exact hq vs ds H1 F1 M1 Q h1 r1 (hm.go (KL.up e1) q)
theorem pd_callB {id : String} {x : Str} {ρ : RCD} (hc : CallD X (.builtin id) ρ) (hg : Gl X x) (hm : X.mg x = none) (hv : bootBuiltins x = some (.builtin id)) (ha : PAd X W (e :: es) cas) (hn : x ≠ "__name__" := by decide) (hdb : (x == ("__debug__" : Str)) = false := by decide)
    (he : starEach (e :: es) X.env = (false, eval e X.env) :: starEach es X.env := by rfl) (hpl : (backTo pos (starEach es X.env)).any (·.1) = false := by rfl) : PEd X W (.Call (.Name x p) (e :: es) [] pos) (cCB ρ cas) := by
  obtain ⟨r, hr, hq⟩ := hc.run
  exact ⟨PE.weak (pe_callB hr hg hm hv ha.run hn hdb he hpl) fun σ H Q h => td_cb hq hc.mono ha.mono h, mono_cb hc.mono ha.mono⟩
theorem pd_callTy {T : String} {x : Str} {ρ : RCD} (hc : CallD X (.type T) ρ) (hg : Gl X x) (hm : X.mg x = none) (hv : bootBuiltins x = some (.type T)) (ha : PAd X W (e :: es) cas) (hn : x ≠ "__name__" := by decide) (hdb : (x == ("__debug__" : Str)) = false := by decide)
    (he : starEach (e :: es) X.env = (false, eval e X.env) :: starEach es X.env := by rfl) (hpl : (backTo pos (starEach es X.env)).any (·.1) = false := by rfl) : PEd X W (.Call (.Name x p) (e :: es) [] pos) (cCB ρ cas) := by
  obtain ⟨r, hr, hq⟩ := hc.run
  exact ⟨PE.weak (pe_callTy hr hg hm hv ha.run hn hdb he hpl) fun σ H Q h => td_cb hq hc.mono ha.mono h, mono_cb hc.mono ha.mono⟩

/-! ### promises over data -/
abbrev SpD := List D → MS → KD → DX → Prop
def MonoS (sp : SpD) : Prop := ∀ ds M (k k' : KD) (E E' : DX), KD.le k k' → E.le E' → sp ds M k E → sp ds M k' E'
theorem MonoS.go {sp : SpD} (m : MonoS sp) {ds M} {k k' : KD} {E E' : DX} (h : KD.le k k') (h2 : E.le E') (q : sp ds M k E) : sp ds M k' E' := m _ _ _ _ _ _ h h2 q
def SPD (K : PySem.W.Frag) (sp : SpD) : Sp := fun vs H Q E => ∃ ds M F, Reps K F vs ds ∧ Holds K F M H ∧ sp ds M (KL K F Q) (KXL K F E)
def cCall (sp : SpD) (cas : DA) : DE := fun E σ M k => cas E σ M (fun ds M1 => sp ds M1 k E)
theorem mono_call {sp : SpD} (hm : MonoS sp) (ma : MonoA cas) : MonoE (cCall sp cas) := fun _ _ _ _ _ _ hE hk h => ma.go hE (fun _ _ q => hm.go hk hE q) h
/-- a def that lets no exception out -/
def NoX (sp : SpD) : SpD := fun ds M k _ => sp ds M k (fun _ _ _ => False)
theorem td_call {K : PySem.W.Frag} {sp : SpD} (hm : MonoS sp) (ma : MonoA cas) {σ : L2.St} {H : Hp} {Q : VK} (h : TD K W (cCall (NoX sp) cas) σ H Q) : tCall (SPD K sp) [] E0 (TAD K W cas) σ H Q := by
  obtain ⟨τ, M, F, rs, hh, hc⟩ := h
  refine ⟨τ, M, F, rs, hh, ma.go DX.rfl (fun ds M1 q => ?_) hc⟩
  intro vs H1 F1 e1 h1 r1
  rw [List.append_nil]
  exact ⟨ds, M1, F1, r1, h1, hm.go (KL.up e1) (fun _ _ _ z => z.elim) q⟩
theorem monoNoX {sp : SpD} (hm : MonoS sp) : MonoS (NoX sp) := fun _ _ _ _ _ _ hk _ h => hm.go hk DX.rfl h
theorem pd_call {k : Nat} {f : Addr} {fd : FuncData} {ps : List Str} {sp : SpD} {x : Str} (G : FnOk X.prog X.w X.K X.mg X.base CX0 k f fd ps (SPD X.K sp)) (hms : MonoS sp) (hr : Room k X.A) (hg : Gl X x) (hm : X.mg x = some (.ref f)) (hk : PySem.W.keepIn X.K (.ref f) = true) (hb : Binds X.K fd ps [])
    (ha : PAd X W (e :: es) cas) (hdb : (x == ("__debug__" : Str)) = false := by decide) (he : starEach (e :: es) X.env = (false, eval e X.env) :: starEach es X.env := by rfl) (hpl : (backTo pos (starEach es X.env)).any (·.1) = false := by rfl) :
    PEd X W (.Call (.Name x p) (e :: es) [] pos) (cCall (NoX sp) cas) :=
  ⟨PE.weak (pe_call G hr hg hm hk hb .nil pass0 ha.run hdb he hpl) fun σ H Q h => td_call hms ha.mono h, mono_call (monoNoX hms) ha.mono⟩
end
end DL

set_option maxHeartbeats 2000000
namespace DL
open PySem PySem.Spec PyProof.Rows L2

/-! ### statements -/
structure EndsD where
  nx : StD → MS → Prop
  rt : KD
  bk : StD → MS → Prop := fun _ _ => False
  ct : StD → MS → Prop := fun _ _ => False
  ex : Value → List (Str × D) → StD → MS → Prop := fun _ _ _ _ => False
abbrev EndsD.at (E : EndsD) (τ : StD) : DX := fun c fs M => E.ex c fs τ M
abbrev CS := EndsD → StD → MS → Prop
structure EndsD.le (E E' : EndsD) : Prop where
  nx : ∀ τ M, E.nx τ M → E'.nx τ M
  rt : KD.le E.rt E'.rt
  bk : ∀ τ M, E.bk τ M → E'.bk τ M
  ct : ∀ τ M, E.ct τ M → E'.ct τ M
  ex : ∀ c fs τ M, E.ex c fs τ M → E'.ex c fs τ M
def MonoC (c : CS) : Prop := ∀ (E E' : EndsD) τ M, E.le E' → c E τ M → c E' τ M
theorem MonoC.go {c : CS} (m : MonoC c) {E E' : EndsD} {τ M} (h : E.le E') (q : c E τ M) : c E' τ M := m _ _ _ _ h q
theorem EndsD.le.rfl {E : EndsD} : E.le E := ⟨fun _ _ h => h, fun _ _ h => h, fun _ _ h => h, fun _ _ h => h, fun _ _ _ _ h => h⟩
theorem EndsD.le.at {E E' : EndsD} (h : E.le E') (τ : StD) : DX.le (E.at τ) (E'.at τ) := fun c fs M q => h.ex c fs τ M q
abbrev NL (K : PySem.W.Frag) (F0 : Hp) (n : L2.St → Hp → Prop) : StD → MS → Prop := fun τ M' => ∀ σ' H' F', Ex F0 F' → RepSt K F' σ' τ → Holds K F' M' H' → n σ' H'
def EL (K : PySem.W.Frag) (W : WXL) (F0 : Hp) (D : Ends) : EndsD where
  nx := NL K F0 D.nx
  rt := KL K F0 D.rt
  bk := NL K F0 D.bk
  ct := NL K F0 D.ct
  ex := fun c fs τ M => ∀ σ a H' F', Ex F0 F' → RepSt K F' σ τ → Holds K F' M H' → (∃ fvs, F' a = some (.xd fvs) ∧ RepKV K F' fvs fs) → W c (some a) σ H'
def TSD (K : PySem.W.Frag) (W : WXL) (F0 : Hp) (c : CS) : TS := fun D σ H => ∃ τ M F, Ex F0 F ∧ RepSt K F σ τ ∧ Holds K F M H ∧ c (EL K W F0 D) τ M
structure PSd (X : Cx) (W : WXL) (st : Stmt) (c : CS) : Prop where
  run : ∀ F0, PS X st (TSD X.K W F0 c)
  mono : MonoC c
structure PSsd (X : Cx) (W : WXL) (st : List Stmt) (c : CS) : Prop where
  run : ∀ F0, PSs X st (TSD X.K W F0 c)
  mono : MonoC c

section
variable {K : PySem.W.Frag} {W : WXL} {F0 F : Hp} {D : Ends} {σ : L2.St} {τ : StD} {M : MS} {H : Hp}
theorem el_at (e : Ex F0 F) (rs : RepSt K F σ τ) : DX.le ((EL K W F0 D).at τ) (KXL K F (atW W σ)) := fun c fs M q a H' F' e' h x => q σ a H' F' (e.trans e') (rs.up e') h x
theorem el_rt (e : Ex F0 F) : KD.le (EL K W F0 D).rt (KL K F D.rt) := KL.up e
theorem el_nx (e : Ex F0 F) (rs : RepSt K F σ τ) {M' : MS} (q : (EL K W F0 D).nx τ M') {H' F' : Hp} (e' : Ex F F') (h : Holds K F' M' H') : D.nx σ H' := q σ H' F' (e.trans e') (rs.up e') h
/-- the ends of a body whose «next» is another reading -/
theorem el_with {c : CS} {nx : L2.St → Hp → Prop} {E : EndsD} (hnx : ∀ τ M σ' H' F', Ex F0 F' → RepSt K F' σ' τ → Holds K F' M H' → E.nx τ M → nx σ' H') (hrt : E.rt = (EL K W F0 D).rt) (hbk : E.bk = (EL K W F0 D).bk) (hct : E.ct = (EL K W F0 D).ct) (hex : E.ex = (EL K W F0 D).ex) :
    E.le (EL K W F0 { D with nx := nx }) :=
  ⟨fun τ M q σ' H' F' e rs h => hnx τ M σ' H' F' e rs h q, fun d M q => by rw [hrt] at q; exact q, fun τ M q => by rw [hbk] at q; exact q, fun τ M q => by rw [hct] at q; exact q, fun c fs τ M q => by rw [hex] at q; exact q⟩
end

section
variable {X : Cx} {W : WXL} {a b e : Expr} {es : List Expr} {pos p : Pos} {ca cb cc : DE} {ct cu : DT} {cas : DA} {st : Stmt} {rest : List Stmt} {c1 c2 : CS}

def cNext : CS := fun E τ M => E.nx τ M
def cSeq (c1 c2 : CS) : CS := fun E τ M => c1 { E with nx := c2 E } τ M
def cBreak : CS := fun E τ M => E.bk τ M
def cCont : CS := fun E τ M => E.ct τ M
theorem mono_next : MonoC cNext := fun _ _ _ _ h q => h.nx _ _ q
theorem mono_seq (m1 : MonoC c1) (m2 : MonoC c2) : MonoC (cSeq c1 c2) := fun E E' τ M h q => m1.go (E := { E with nx := c2 E }) (E' := { E' with nx := c2 E' }) ⟨fun _ _ z => m2.go h z, h.rt, h.bk, h.ct, h.ex⟩ q
theorem td_next {K : PySem.W.Frag} {F0 : Hp} {D : Ends} {σ : L2.St} {H : Hp} (h : TSD K W F0 cNext D σ H) : D.nx σ H := by
  obtain ⟨τ, M, F, e, rs, hh, q⟩ := h
  exact q σ H F e rs hh
theorem pssd_nil : PSsd X W [] cNext := ⟨fun F0 => PSs.weak pss_nil fun D σ H h => td_next h, mono_next⟩
theorem pssd_cons (h1 : PSd X W st c1) (h2 : PSsd X W rest c2) : PSsd X W (st :: rest) (cSeq c1 c2) := by
  refine ⟨fun F0 => PSs.weak (pss_cons (h1.run F0) (h2.run F0)) ?_, mono_seq h1.mono h2.mono⟩
  rintro D σ H ⟨τ, M, F, e, rs, hh, q⟩
  refine ⟨τ, M, F, e, rs, hh, h1.mono.go (E := { EL X.K W F0 D with nx := c2 (EL X.K W F0 D) }) (el_with (c := c1) (fun τ' M' σ' H' F' e' rs' h' q' => ?_) rfl rfl rfl rfl) q⟩
  exact ⟨τ', M', F', e', rs', h', q'⟩
theorem pssd_one (h1 : PSd X W st c1) : PSsd X W [st] c1 := ⟨fun F0 => PSs.weak (pss_one (h1.run F0)) fun _ _ _ h => h, h1.mono⟩
theorem psd_pass : PSd X W (.Pass pos) cNext := ⟨fun F0 => PS.weak ps_pass fun D σ H h => td_next h, mono_next⟩
theorem psd_break : PSd X W (.Break pos) cBreak := ⟨fun F0 => PS.weak ps_break fun D σ H ⟨τ, M, F, e, rs, hh, q⟩ => q σ H F e rs hh, fun _ _ _ _ h q => h.bk _ _ q⟩
theorem psd_continue : PSd X W (.Continue pos) cCont := ⟨fun F0 => PS.weak ps_continue fun D σ H ⟨τ, M, F, e, rs, hh, q⟩ => q σ H F e rs hh, fun _ _ _ _ h q => h.ct _ _ q⟩
def cDrop (ce : DE) : CS := fun E τ M => ce (E.at τ) τ M (fun _ M1 => E.nx τ M1)
theorem psd_expr (he : PEd X W e ca) (hs : swapsWith e none pos.line X.env = pure false := by rfl) : PSd X W (.Expr e pos) (cDrop ca) := by
  refine ⟨fun F0 => PS.weak (ps_expr he.run hs) ?_, fun E E' τ M h q => he.mono.go (h.at τ) (fun _ _ z => h.nx _ _ z) q⟩
  rintro D σ H ⟨τ, M, F, e, rs, hh, q⟩
  exact ⟨τ, M, F, rs, hh, he.mono.go (el_at e rs) (fun d M1 z v H' F' e' h' r' => el_nx e rs z e' h') q⟩
def cRet (ce : DE) : CS := fun E τ M => ce (E.at τ) τ M E.rt
theorem psd_ret (he : PEd X W e ca) : PSd X W (.Return (some e) pos) (cRet ca) := by
  refine ⟨fun F0 => PS.weak (ps_ret he.run) ?_, fun E E' τ M h q => he.mono.go (h.at τ) h.rt q⟩
  rintro D σ H ⟨τ, M, F, e, rs, hh, q⟩
  exact ⟨τ, M, F, rs, hh, he.mono.go (el_at e rs) (el_rt e) q⟩
def cRetN : CS := fun E _ M => E.rt .non M
theorem psd_retN : PSd X W (.Return none pos) cRetN := by
  refine ⟨fun F0 => PS.weak ps_retN ?_, fun E E' τ M h q => h.rt _ _ q⟩
  rintro D σ H ⟨τ, M, F, e, rs, hh, q⟩
  exact q .non H F e hh .non
def cIf (t : DT) (c1 c2 : CS) : CS := fun E τ M => t (E.at τ) τ M (fun b M1 => if b = true then c1 E τ M1 else c2 E τ M1)
theorem mono_if (mt : MonoT ct) (m1 : MonoC c1) (m2 : MonoC c2) : MonoC (cIf ct c1 c2) := fun E E' τ M h q => mt.go (h.at τ) (fun _ _ z => ite_le (fun y => m1.go h y) (fun y => m2.go h y) z) q
theorem psd_if {body orelse : List Stmt} {c : Expr} (hc : PTd X W c ct) (h1 : PSsd X W body c1) (h2 : PSsd X W orelse c2) : PSd X W (.If c body orelse pos) (cIf ct c1 c2) := by
  refine ⟨fun F0 => PS.weak (ps_if hc.run (h1.run F0) (h2.run F0)) ?_, mono_if hc.mono h1.mono h2.mono⟩
  rintro D σ H ⟨τ, M, F, e, rs, hh, q⟩
  refine ⟨τ, M, F, rs, hh, hc.mono.go (el_at e rs) (fun b M1 z H' F' e' h' => ?_) q⟩
  exact ite_le (fun y => ⟨τ, M1, F', e.trans e', rs.up e', h', y⟩) (fun y => ⟨τ, M1, F', e.trans e', rs.up e', h', y⟩) z
theorem psd_never : PSd X W st (fun _ _ _ => False) := ⟨fun F0 => PS.weak (ps_never (X := X)) fun D σ H ⟨_, _, _, _, _, _, q⟩ => q.elim, fun _ _ _ _ _ q => q.elim⟩

/-! ### targets -/
abbrev GD := D → StD → MS → (StD → MS → Prop) → Prop
abbrev GDs := List D → StD → MS → (StD → MS → Prop) → Prop
def MonoG (g : GD) : Prop := ∀ d τ M (k k' : StD → MS → Prop), (∀ τ M, k τ M → k' τ M) → g d τ M k → g d τ M k'
def MonoGs (g : GDs) : Prop := ∀ d τ M (k k' : StD → MS → Prop), (∀ τ M, k τ M → k' τ M) → g d τ M k → g d τ M k'
theorem MonoG.go {g : GD} (m : MonoG g) {d τ M} {k k' : StD → MS → Prop} (h : ∀ τ M, k τ M → k' τ M) (q : g d τ M k) : g d τ M k' := m _ _ _ _ _ h q
theorem MonoGs.go {g : GDs} (m : MonoGs g) {d τ M} {k k' : StD → MS → Prop} (h : ∀ τ M, k τ M → k' τ M) (q : g d τ M k) : g d τ M k' := m _ _ _ _ _ h q
def TGD (K : PySem.W.Frag) (g : GD) : TG := fun v σ H Q => ∃ d τ M F, Rep K F v d ∧ RepSt K F σ τ ∧ Holds K F M H ∧ g d τ M (NL K F Q)
def TGsD (K : PySem.W.Frag) (g : GDs) : TGs := fun vs σ H Q => ∃ ds τ M F, Reps K F vs ds ∧ RepSt K F σ τ ∧ Holds K F M H ∧ g ds τ M (NL K F Q)
structure PGd (X : Cx) (tg : Expr) (g : GD) : Prop where
  run : PG X tg (TGD X.K g)
  mono : MonoG g
structure PGsd (X : Cx) (tgs : List Expr) (g : GDs) : Prop where
  run : PGs X tgs (TGsD X.K g)
  mono : MonoGs g
theorem PG.weak {X : Cx} {e : Expr} {t t' : TG} (p : PG X e t) (w : ∀ v σ H Q, t' v σ H Q → t v σ H Q) : PG X e t' := ⟨fun pins s σ H v u Q I r h => p.run pins s σ H v u Q I r (w v σ H Q h)⟩
theorem PGs.weak {X : Cx} {e : List Expr} {t t' : TGs} (p : PGs X e t) (w : ∀ v σ H Q, t' v σ H Q → t v σ H Q) : PGs X e t' := ⟨fun pins s σ H v u Q I r h => p.run pins s σ H v u Q I r (w v σ H Q h)⟩
theorem NL.up {K : PySem.W.Frag} {F F' : Hp} {n : L2.St → Hp → Prop} (e : Ex F F') : ∀ τ M, NL K F n τ M → NL K F' n τ M := fun τ M q σ' H' F2 e2 => q σ' H' F2 (e.trans e2)
def gN (i : Nat) : GD := fun d τ M k => k (τ.set i (some d)) M
theorem pgd_name {i : Nat} {x : Str} (hN : X.N.Nodup) (hi : X.N[i]? = some x) (hx : Loc X.env.scope x) (hf : X.fn x = true ∨ X.env.scope.names.lookup x = some .local := by first | exact .inl rfl | exact .inr rfl | assumption) : PGd X (.Name x pos) (gN i) := by
  refine ⟨PG.weak (pg_name hN hi hx hf) ?_, fun _ _ _ _ _ h q => h _ _ q⟩
  rintro v σ H Q ⟨d, τ, M, F, r, rs, hh, q⟩
  exact q _ H F (Ex.refl F) (rs.set r i) hh
def gNil' : GDs := fun ds τ M k => ds = [] ∧ k τ M
def gCons' (g : GD) (gs : GDs) : GDs := fun ds τ M k => match ds with
  | d :: r => g d τ M (fun τ' M' => gs r τ' M' k)
  | [] => False
theorem pgsd_nil : PGsd X [] gNil' := by
  refine ⟨PGs.weak pgs_nil ?_, fun _ _ _ _ _ h q => ⟨q.1, h _ _ q.2⟩⟩
  rintro vs σ H Q ⟨ds, τ, M, F, r, rs, hh, e, q⟩
  subst e; cases r
  exact ⟨rfl, q _ H F (Ex.refl F) rs hh⟩
theorem pgsd_cons {g : GD} {gs : GDs} (h1 : PGd X e g) (h2 : PGsd X es gs) (hs : (assignEach (e :: es) X.env).map (·.2) = assign e X.env :: (assignEach es X.env).map (·.2) := by rfl) : PGsd X (e :: es) (gCons' g gs) := by
  refine ⟨PGs.weak (pgs_cons h1.run h2.run hs) ?_, fun ds τ M k k' h q => ?_⟩
  · rintro vs σ H Q ⟨ds, τ, M, F, r, rs, hh, q⟩
    cases r with
    | nil => exact q.elim
    | @cons v vr d dr r1 r2 =>
      refine ⟨v, vr, rfl, d, τ, M, F, r1, rs, hh, h1.mono.go (fun τ' M' z => ?_) q⟩
      intro σ' H' F' e' rs' hh'
      exact ⟨dr, τ', M', F', r2.up e', rs', hh', h2.mono.go (NL.up e') z⟩
  · cases ds with
    | nil => exact q.elim
    | cons d r => exact h1.mono.go (fun _ _ z => h2.mono.go h z) q
/-- a tuple's items, a list's items -/
def gSeq (n : Nat) (gs : GDs) : GD := fun d τ M k => match d with
  | .tup ds => ds.length = n ∧ gs ds τ M k
  | _ => False
def gSeqL (n : Nat) (gs : GDs) : GD := fun d τ M k => match d with
  | .lst ds => ds.length = n ∧ gs ds τ M k
  | _ => False
theorem pgd_tup {k : Nat} {n : Nat} {gs : GDs} (hc : X.calm = true) (h : PGsd X es gs) (hn : (assignEach es X.env).length = n := by rfl) (hst : (assignEach es X.env).findIdx? (·.1) = none := by rfl) : PGd X (.Tuple es k pos) (gSeq n gs) := by
  refine ⟨PG.weak (pg_tup hc h.run hn hst) ?_, fun d τ M k k' hk q => ?_⟩
  · rintro v σ H Q ⟨d, τ, M, F, r, rs, hh, q⟩
    cases r <;> first | exact q.elim | skip
    rename_i a vs ds hq r
    exact ⟨a, vs, rfl, by
      have ef := hh.fr
      exact ef.seqT hq, by rw [r.len]; exact q.1, ds, τ, M, F, r, rs, hh, q.2⟩
  · cases d <;> first | exact q.elim | exact ⟨q.1, h.mono.go hk q.2⟩
def cAsg (ce : DE) (g : GD) : CS := fun E τ M => ce (E.at τ) τ M (fun d M1 => g d τ M1 E.nx)
theorem mono_asg {g : GD} (m : MonoE ca) (mg : MonoG g) : MonoC (cAsg ca g) := fun E E' τ M h q => m.go (h.at τ) (fun _ _ z => mg.go h.nx z) q
theorem td_asg {K : PySem.W.Frag} {g : GD} (m : MonoE ca) (mg : MonoG g) {F0 : Hp} {D : Ends} {σ : L2.St} {H : Hp} (h : TSD K W F0 (cAsg ca g) D σ H) : tAsg (TD K W ca) (TGD K g) D σ H := by
  obtain ⟨τ, M, F, e, rs, hh, q⟩ := h
  refine ⟨τ, M, F, rs, hh, m.go (el_at e rs) (fun d M1 z v H' F' e' h' r' => ?_) q⟩
  exact ⟨d, τ, M1, F', r', rs.up e', h', mg.go (fun τ' M' y => NL.up (e.trans e') τ' M' y) z⟩
theorem psd_asg {tg : Expr} {g : GD} (he : PEd X W e ca) (hg : PGd X tg g) (hs : swapsWithSole [tg] e pos.line X.env = pure false := by rfl) (hw : swappedStores [tg] e X.env = pure none := by rfl)
    (h1 : (assignEach [tg] X.env).map (·.2) = [assign tg X.env] := by rfl) : PSd X W (.Assign [tg] e pos) (cAsg ca g) :=
  ⟨fun F0 => PS.weak (ps_asg he.run hg.run hs hw h1) fun D σ H h => td_asg he.mono hg.mono h, mono_asg he.mono hg.mono⟩
theorem psd_set {i : Nat} {x : Str} {pos' : Pos} (hN : X.N.Nodup) (hi : X.N[i]? = some x) (hx : Loc X.env.scope x) (he : PEd X W e ca) (hs : swapsWith e (some (.Name x pos')) pos.line X.env = pure false := by rfl) (hf : X.fn x = true ∨ X.env.scope.names.lookup x = some .local := by first | exact .inl rfl | exact .inr rfl | assumption) :
    PSd X W (.Assign [.Name x pos'] e pos) (cAsg ca (gN i)) := by
  refine ⟨fun F0 => PS.weak (ps_set hN hi hx he.run hs hf) ?_, mono_asg he.mono fun _ _ _ _ _ h q => h _ _ q⟩
  rintro D σ H ⟨τ, M, F, e, rs, hh, q⟩
  refine ⟨τ, M, F, rs, hh, he.mono.go (el_at e rs) (fun d M1 z v H' F' e' h' r' => ?_) q⟩
  exact z _ H' F' (e.trans e') ((rs.up e').set r' i) h'
/-- a, b = x, y -/
def cPar (i j : Nat) (cas : DA) : CS := fun E τ M => cas (E.at τ) τ M (fun ds M1 => match ds with
  | [d, d'] => E.nx ((τ.set i (some d)).set j (some d')) M1
  | _ => False)
theorem psd_par {i j : Nat} {x y : Str} {px py pt : Pos} {kt k2 pt2} (hc : X.calm = true) (hN : X.N.Nodup) (hi : X.N[i]? = some x) (hj : X.N[j]? = some y) (hij : i ≠ j)
    (hx : X.env.scope.names.lookup x = some .local) (hy : X.env.scope.names.lookup y = some .local) (ha : PAd X W [a, b] cas)
    (hw : swappedStores [.Tuple [.Name x px, .Name y py] kt pt] (.Tuple [a, b] k2 pt2) X.env = pure (some [x, y]))
    (hs : swapsWithSole [.Tuple [.Name x px, .Name y py] kt pt] (.Tuple [a, b] k2 pt2) pos.line X.env = pure false := by rfl) :
    PSd X W (.Assign [.Tuple [.Name x px, .Name y py] kt pt] (.Tuple [a, b] k2 pt2) pos) (cPar i j cas) := by
  refine ⟨fun F0 => PS.weak (ps_par hc hN hi hj hij hx hy ha.run hw hs) ?_, fun E E' τ M h q => ha.mono.go (h.at τ) (fun ds M1 z => ?_) q⟩
  · rintro D σ H ⟨τ, M, F, e, rs, hh, q⟩
    refine ⟨τ, M, F, rs, hh, ha.mono.go (el_at e rs) (fun ds M1 z vs H' F' e' h' r' => ?_) q⟩
    cases r' with
    | nil => exact z.elim
    | cons r1 r' =>
      cases r' with
      | nil => exact z.elim
      | cons r2 r' =>
        cases r' with
        | nil => exact ⟨_, _, rfl, z _ H' F' (e.trans e') (((rs.up e').set r1 i).set r2 j) h'⟩
        | cons _ _ => exact z.elim
  · match ds, z with
    | [d, d'], z => exact h.nx _ _ z
/-- name op= e -/
structure IpD (X : Cx) (op : Operator) (ρ : RD2) : Prop where
  run : ∃ r, PIp X op r ∧ ∀ x y dx dy H F M Q, Holds X.K F M H → Rep X.K F x dx → Rep X.K F y dy → ρ dx dy M (KL X.K F Q) → r x y H Q
  mono : MonoR2 ρ
def cAug (i : Nat) (ce : DE) (ρ : RD2) : CS := fun E τ M => match τ[i]? with
  | some (some x) => ce (E.at τ) τ M (fun y M1 => ρ x y M1 (fun z M2 => E.nx (τ.set i (some z)) M2))
  | _ => False
theorem psd_aug {i : Nat} {x : Str} {op : Operator} {ρ : RD2} {pos' : Pos} (hN : X.N.Nodup) (hi : X.N[i]? = some x) (hx : Loc X.env.scope x) (he : PEd X W e ca) (ho : IpD X op ρ) (hf : X.fn x = true ∨ X.env.scope.names.lookup x = some .local := by first | exact .inl rfl | exact .inr rfl | assumption) :
    PSd X W (.AugAssign (.Name x pos') op e pos) (cAug i ca ρ) := by
  obtain ⟨r, hr, hq⟩ := ho.run
  refine ⟨fun F0 => PS.weak (ps_aug hN hi hx he.run hr hf) ?_, fun E E' τ M h q => ?_⟩
  · rintro D σ H ⟨τ, M, F, e, rs, hh, q⟩
    unfold cAug at q
    split at q
    · rename_i d ed
      obtain ⟨v, hv, rv⟩ := rs.at_ i d ed
      refine ⟨v, hv, τ, M, F, rs, hh, he.mono.go (el_at e rs) (fun y M1 z w H' F' e' h' r' => ?_) q⟩
      refine hq v w d y H' F' M1 _ h' (rv.up e') r' (ho.mono.go (fun u M2 y2 z2 H2 F2 e2 h2 r2 => ?_) z)
      exact y2 _ H2 F2 (e.trans (e'.trans e2)) ((rs.up (e'.trans e2)).set r2 i) h2
    · exact q.elim
  · unfold cAug at q ⊢
    split at q
    · rename_i d ed
      try rw [ed]
      exact he.mono.go (h.at τ) (fun y M1 z => ho.mono.go (fun u M2 y2 => h.nx _ _ y2) z) q
    · exact q.elim

/-! ### what a loop walks -/
structure ItD (K : PySem.W.Frag) (J : It) (F : Hp) (ds : List D) : Prop where
  go : ∀ (i : Nat) d F' M H, Ex F F' → Holds K F' M H → ds[i]? = some d → J.go i H
  yl : ∀ (i : Nat) d F' M H x H', Ex F F' → Holds K F' M H → ds[i]? = some d → J.yld i H x H' → ∃ F'', Ex F' F'' ∧ Holds K F'' M H' ∧ Rep K F'' x d
  st : ∀ (i : Nat) F' M H, Ex F F' → Holds K F' M H → ds.length ≤ i → J.stop i H
theorem ItD.up {K : PySem.W.Frag} {J : It} {F F' : Hp} {ds : List D} (h : ItD K J F ds) (e : Ex F F') : ItD K J F' ds :=
  ⟨fun i d F2 M H e2 => h.go i d F2 M H (e.trans e2), fun i d F2 M H x H' e2 => h.yl i d F2 M H x H' (e.trans e2), fun i F2 M H e2 => h.st i F2 M H (e.trans e2)⟩
def TID (K : PySem.W.Frag) (W : WXL) (c : DA) : TI := fun σ H R => ∃ τ M F, RepSt K F σ τ ∧ Holds K F M H ∧ c (KXL K F (atW W σ)) τ M (fun ds M' => ∀ J H' F', Ex F F' → Holds K F' M' H' → ItD K J F' ds → R J H')
structure PId (X : Cx) (W : WXL) (tg iter : Expr) (c : DA) : Prop where
  run : PI X tg iter (TID X.K W c)
  mono : MonoA c
theorem PI.weak {X : Cx} {tg e : Expr} {t t' : TI} (p : PI X tg e t) (w : ∀ σ H R, t' σ H R → t σ H R) : PI X tg e t' := ⟨fun pins s σ H R I h => p.run pins s σ H R I (w σ H R h)⟩

theorem itd_list {K : PySem.W.Frag} {F : Hp} {p : Addr} {vs : List V} {ds : List D} (hq : SqL K F p vs) (r : Reps K F vs ds) : ItD K (Itl K p) F ds where
  go := fun i d F' M H e h hd => by
    obtain ⟨v, hv, _⟩ := r.get hd
    exact ⟨vs, v, h.fr.seqL (e.seqL hq), hv⟩
  yl := fun i d F' M H x H' e h hd y => by
    obtain ⟨e1, y⟩ := y
    subst e1
    obtain ⟨v, hv, rv⟩ := r.get hd
    have q := y vs (h.fr.seqL (e.seqL hq))
    rw [hv] at q; cases q
    exact ⟨F', Ex.refl F', h, rv.up e⟩
  st := fun i F' M H e h hi => ⟨vs, h.fr.seqL (e.seqL hq), by rw [r.len]; exact hi⟩
theorem itd_tup {K : PySem.W.Frag} {F : Hp} {p : Addr} {vs : List V} {ds : List D} (hq : SqT K F p vs) (r : Reps K F vs ds) : ItD K (Itt K p) F ds where
  go := fun i d F' M H e h hd => by
    obtain ⟨v, hv, _⟩ := r.get hd
    exact ⟨vs, v, h.fr.seqT (e.seqT hq), hv⟩
  yl := fun i d F' M H x H' e h hd y => by
    obtain ⟨e1, y⟩ := y
    subst e1
    obtain ⟨v, hv, rv⟩ := r.get hd
    have q := y vs (h.fr.seqT (e.seqT hq))
    rw [hv] at q; cases q
    exact ⟨F', Ex.refl F', h, rv.up e⟩
  st := fun i F' M H e h hi => ⟨vs, h.fr.seqT (e.seqT hq), by rw [r.len]; exact hi⟩
/-- any sequence: a list or a tuple -/
def iSeq (K : PySem.W.Frag) (tl : TE) : TI := fun σ H R => tl σ H fun x H1 => ∃ a, x = .ref a ∧ ((∃ xs, SqL K H1 a xs ∧ R (Itl K a) H1) ∨ (∃ xs, SqT K H1 a xs ∧ R (Itt K a) H1))
theorem pi_seq {tg l : Expr} {tl : TE} (hl : PE X l tl) : PI X tg l (iSeq X.K tl) := by
  refine ⟨fun pins s σ H R I h => ?_⟩
  refine thn (hl.run pins s σ H _ I h) fun v s1 ⟨x, H1, I1, r1, q1⟩ => ?_
  obtain ⟨a, e, q⟩ := q1
  subst e
  cases r1
  rcases q with ⟨xs, hq, q⟩ | ⟨xs, hq, q⟩
  · obtain ⟨its, rv, p, hz⟩ := I1.list hq
    refine wpAny_pyIter_list p.isList ?_
    refine ⟨s1.heap.objs.size, [s1.heap.objs.size], _, _, H1, rfl, I1.kept (t' := s1.toks) fun b o e => Heap.get?_push_of_some _ e, turn_list a _, ⟨_, Heap.get?_push_size _ rfl, rfl, rfl⟩, fun b hb => ?_, q⟩
    have e : b = s1.heap.objs.size := by simpa using hb
    subst e
    exact I1.fpOk (Nat.le_refl _) (I1.hok.fresh (Nat.le_refl _))
  · obtain ⟨its, rv, p, hz⟩ := I1.tuple hq
    refine wpAny_pyIter_tuple (show s1.heap.IsTuple a its.toArray from p) ?_
    refine ⟨s1.heap.objs.size, [s1.heap.objs.size], _, _, H1, rfl, I1.kept (t' := s1.toks) fun b o e => Heap.get?_push_of_some _ e, turn_tuple a _, ⟨_, Heap.get?_push_size _ rfl, rfl, rfl⟩, fun b hb => ?_, q⟩
    have e : b = s1.heap.objs.size := by simpa using hb
    subst e
    exact I1.fpOk (Nat.le_refl _) (I1.hok.fresh (Nat.le_refl _))
def asSeq (k : KA) : KD := fun d M => match d with
  | .lst ds => k ds M
  | .rd ds => k ds M
  | .tup ds => k ds M
  | _ => False
theorem asSeq_le {k k' : KA} (h : KA.le k k') : KD.le (asSeq k) (asSeq k') := fun d M q => by
  cases d <;> first | exact h _ _ q | exact q
def ciSeq (ce : DE) : DA := fun E τ M k => ce E τ M (asSeq k)
theorem pid_seq {tg l : Expr} (hl : PEd X W l ca) : PId X W tg l (ciSeq ca) := by
  refine ⟨PI.weak (pi_seq hl.run) ?_, fun _ _ _ _ _ _ hE hk h => hl.mono.go hE (asSeq_le hk) h⟩
  rintro σ H R ⟨τ, M, F, rs, hh, q⟩
  refine ⟨τ, M, F, rs, hh, hl.mono.go DX.rfl (fun d M1 z v H' F' e' h' r' => ?_) q⟩
  cases r' <;> first | exact z.elim | skip
  · rename_i p vs ds hq r
    exact ⟨p, rfl, .inr ⟨vs, h'.fr.seqT hq, z _ H' F' e' h' (itd_tup hq r)⟩⟩
  · rename_i p vs ds hq r
    exact ⟨p, rfl, .inl ⟨vs, SqL.of (h'.fr _ _ hq), z _ H' F' e' h' (itd_list (SqL.of hq) r)⟩⟩
  · rename_i p vs ds hq r
    exact ⟨p, rfl, .inl ⟨vs, h'.fr.seqL hq, z _ H' F' e' h' (itd_list hq r)⟩⟩
end
end DL

set_option maxHeartbeats 2000000
namespace DL
open PySem PySem.Spec PyProof.Rows L2

section
variable {X : Cx} {W : WXL} {a b e : Expr} {es : List Expr} {pos p : Pos} {ca cb cc : DE} {ct cu : DT} {cas ci : DA} {st : Stmt} {rest : List Stmt} {c1 c2 : CS} {g : GD}

/-! ### for -/
def loopD (g : GD) (cb : CS) (E : EndsD) : List D → StD → MS → Prop
  | [], τ, M => E.nx τ M
  | d :: r, τ, M => g d τ M (fun τ' M' => cb { E with nx := loopD g cb E r, ct := loopD g cb E r, bk := E.nx } τ' M')
def cFor (ci : DA) (g : GD) (cb : CS) : CS := fun E τ M => ci (E.at τ) τ M (fun ds M1 => loopD g cb E ds τ M1)
theorem mono_loop {cb : CS} (mg : MonoG g) (mb : MonoC cb) {E E' : EndsD} (h : E.le E') : ∀ (ds : List D) (τ : StD) (M : MS), loopD g cb E ds τ M → loopD g cb E' ds τ M
  | [], _, _, q => h.nx _ _ q
  | d :: r, τ, M, q => mg.go (fun _ _ z => mb.go (E := { E with nx := loopD g cb E r, ct := loopD g cb E r, bk := E.nx }) ⟨fun _ _ y => mono_loop mg mb h r _ _ y, h.rt, h.nx, fun _ _ y => mono_loop mg mb h r _ _ y, h.ex⟩ z) q
theorem mono_for {cb : CS} (mi : MonoA ci) (mg : MonoG g) (mb : MonoC cb) : MonoC (cFor ci g cb) := fun E E' τ M h q => mi.go (h.at τ) (fun ds M1 z => mono_loop mg mb h ds τ M1 z) q
theorem PSs.some {X : Cx} {st : List Stmt} {ι : Type} {t : ι → TS} (h : ∀ i, PSs X st (t i)) : PSs X st (fun D σ H => ∃ i, t i D σ H) := ⟨fun pins s σ H D I ⟨i, q⟩ => (h i).run pins s σ H D I q⟩
theorem psd_for {tg iter : Expr} {body : List Stmt} {cb : CS} (hp : PassesOwn (model X.prog X.w) X.A X.env X.xe) (hc : X.calm = true) (hi : PId X W tg iter ci) (hg : PGd X tg g) (hb : PSsd X W body cb)
    (hs : ∀ x, foldedSetIterable iter X.env x = pure x := by intro _; rfl) : PSd X W (.For tg iter body [] pos) (cFor ci g cb) := by
  refine ⟨fun F0 => PS.weak (ps_for hp hc hi.run hg.run (PSs.some hb.run) hs) ?_, mono_for hi.mono hg.mono hb.mono⟩
  rintro D σ H ⟨τ, M, F, e, rs, hh, q⟩
  refine ⟨τ, M, F, rs, hh, hi.mono.go (el_at e rs) (fun ds M1 z J H1 F1 e1 h1 it => ?_) q⟩
  refine ⟨fun i m σ' H' => m = ds.length - i ∧ i ≤ ds.length ∧ ∃ τ' M' F', Ex F1 F' ∧ RepSt X.K F' σ' τ' ∧ Holds X.K F' M' H' ∧ loopD g cb (EL X.K W F0 D) (ds.drop i) τ' M', ⟨ds.length, by simp, Nat.zero_le _, τ, M1, F1, Ex.refl F1, rs.up e1, h1, z⟩, ?_⟩
  rintro i m σ2 H2 ⟨rfl, hi2, τ2, M2, F2, e2, rs2, h2, q2⟩
  by_cases hlt : i < ds.length
  · have hd : ds[i]? = some ds[i] := List.getElem?_eq_getElem hlt
    rw [List.drop_eq_getElem_cons hlt] at q2
    refine .inr ⟨it.go i _ F2 M2 H2 e2 h2 hd, fun σ' H' => i + 1 ≤ ds.length ∧ ∃ τ' M' F', Ex F1 F' ∧ RepSt X.K F' σ' τ' ∧ Holds X.K F' M' H' ∧ loopD g cb (EL X.K W F0 D) (ds.drop (i + 1)) τ' M', ?_, ?_⟩
    · rintro σ' H' ⟨hl, w⟩
      exact ⟨ds.length - (i + 1), by omega, rfl, hl, w⟩
    · intro x H3 y
      obtain ⟨F3, e3, h3, rx⟩ := it.yl i _ F2 M2 H2 x H3 e2 h2 hd y
      refine ⟨_, τ2, M2, F3, rx, rs2.up e3, h3, hg.mono.go (fun τ4 M4 w => ?_) q2⟩
      intro σ5 H5 F5 e5 rs5 h5
      have e05 : Ex F0 F5 := (e.trans e1).trans (e2.trans (e3.trans e5))
      have e15 : Ex F1 F5 := e2.trans (e3.trans e5)
      refine ⟨F5, τ4, M4, F5, Ex.refl F5, rs5, h5, hb.mono.go (E := { EL X.K W F0 D with nx := loopD g cb (EL X.K W F0 D) (ds.drop (i + 1)), ct := loopD g cb (EL X.K W F0 D) (ds.drop (i + 1)), bk := (EL X.K W F0 D).nx }) ?_ w⟩
      refine ⟨fun τ M y σ' H' F' e' rs' h' => ⟨hlt, τ, M, F', e15.trans e', rs', h', y⟩, KL.up e05, fun τ M y σ' H' F' e' rs' h' => y σ' H' F' (e05.trans e') rs' h', fun τ M y σ' H' F' e' rs' h' => ⟨hlt, τ, M, F', e15.trans e', rs', h', y⟩, fun c fs τ M y σ a H' F' e' rs' h' x => y σ a H' F' (e05.trans e') rs' h' x⟩
  · have ei : i = ds.length := by omega
    subst ei
    rw [List.drop_length] at q2
    exact .inl ⟨it.st _ F2 M2 H2 e2 h2 (Nat.le_refl _), q2 _ H2 F2 ((e.trans e1).trans e2) rs2 h2⟩

/-! ### while -/
def cWhile (ct : DT) (cb : CS) : CS := fun E τ M => ∃ Wd : Nat → StD → MS → Prop, (∃ m, Wd m τ M) ∧ ∀ m τ M, Wd m τ M →
  ct (E.at τ) τ M (fun b M1 => if b = true then cb { E with nx := fun τ' M' => ∃ m', m' < m ∧ Wd m' τ' M', ct := fun τ' M' => ∃ m', m' < m ∧ Wd m' τ' M', bk := E.nx } τ M1 else E.nx τ M1)
theorem psd_while {c : Expr} {body : List Stmt} {cb : CS} (hp : PassesOwn (model X.prog X.w) X.A X.env X.xe) (hc : PTd X W c ct) (hb : PSsd X W body cb) : PSd X W (.While c body [] pos) (cWhile ct cb) := by
  refine ⟨fun F0 => PS.weak (ps_while hp hc.run (hb.run F0)) ?_, ?_⟩
  · rintro D σ H ⟨τ, M, F, e, rs, hh, Wd, ⟨m0, w0⟩, q⟩
    refine ⟨fun m σ' H' => ∃ τ' M' F', Ex F0 F' ∧ RepSt X.K F' σ' τ' ∧ Holds X.K F' M' H' ∧ Wd m τ' M', ⟨m0, τ, M, F, e, rs, hh, w0⟩, ?_⟩
    rintro m σ1 H1 ⟨τ1, M1, F1, e1, rs1, h1, w1⟩
    refine ⟨τ1, M1, F1, rs1, h1, hc.mono.go (el_at e1 rs1) (fun b M2 z H2 F2 e2 h2 => ?_) (q m τ1 M1 w1)⟩
    refine ite_le (fun y => ?_) (fun y => y _ H2 F2 (e1.trans e2) (rs1.up e2) h2) z
    refine ⟨fun σ' H' => ∃ m', m' < m ∧ ∃ τ' M' F', Ex F0 F' ∧ RepSt X.K F' σ' τ' ∧ Holds X.K F' M' H' ∧ Wd m' τ' M', fun _ _ n => n, ?_⟩
    refine ⟨τ1, M2, F2, e1.trans e2, rs1.up e2, h2, hb.mono.go (E := { EL X.K W F0 D with nx := fun τ' M' => ∃ m', m' < m ∧ Wd m' τ' M', ct := fun τ' M' => ∃ m', m' < m ∧ Wd m' τ' M', bk := (EL X.K W F0 D).nx }) ?_ y⟩
    exact ⟨fun τ M ⟨m', hm, w⟩ σ' H' F' e' rs' h' => ⟨m', hm, τ, M, F', e', rs', h', w⟩, fun _ _ z => z, fun _ _ z => z, fun τ M ⟨m', hm, w⟩ σ' H' F' e' rs' h' => ⟨m', hm, τ, M, F', e', rs', h', w⟩, fun _ _ _ _ z => z⟩
  · rintro E E' τ M h ⟨Wd, hw, q⟩
    refine ⟨Wd, hw, fun m τ M w => hc.mono.go (h.at τ) (fun b M1 z => ite_le (fun y => ?_) (h.nx _ _) z) (q m τ M w)⟩
    exact hb.mono.go (E := { E with nx := fun τ' M' => ∃ m', m' < m ∧ Wd m' τ' M', ct := fun τ' M' => ∃ m', m' < m ∧ Wd m' τ' M', bk := E.nx }) ⟨fun _ _ y => y, h.rt, h.nx, fun _ _ y => y, h.ex⟩ y

/-! ### comprehensions -/
def wipeD (τ : StD) : List Nat → StD
  | [] => τ
  | v :: vs => (wipeD τ vs).set v none
theorem RepSt.unset {K : PySem.W.Frag} {F : Hp} {σ : L2.St} {τ : StD} (h : RepSt K F σ τ) (i : Nat) : RepSt K F (σ.set i none) (τ.set i none) := by
  refine ⟨by simp [h.len], fun j e q => ?_⟩
  by_cases z : i = j
  · subst z
    by_cases hl : i < τ.length
    · rw [List.getElem?_set_self hl] at q; cases q
    · rw [List.getElem?_eq_none_iff.mpr (by rw [List.length_set]; omega)] at q; cases q
  · rw [List.getElem?_set_ne z] at q
    obtain ⟨w, h1, h2⟩ := h.at_ j e q
    exact ⟨w, by rw [List.getElem?_set_ne z]; exact h1, h2⟩
theorem RepSt.wipe {K : PySem.W.Frag} {F : Hp} {σ : L2.St} {τ : StD} (h : RepSt K F σ τ) : ∀ vs : List Nat, RepSt K F (L2.wipe σ vs) (wipeD τ vs)
  | [] => h
  | v :: vs => by unfold L2.wipe wipeD; exact (RepSt.wipe h vs).unset v
theorem wipe_set {σ : L2.St} {i : Nat} {o : Option V} : ∀ {vs : List Nat}, i ∈ vs → L2.wipe (σ.set i o) vs = L2.wipe σ vs
  | v :: vs, h => by
    unfold L2.wipe
    by_cases z : i ∈ vs
    · rw [wipe_set z]
    · have ev : v = i := by
        rcases List.mem_cons.mp h with r | r
        · exact r.symm
        · exact absurd r z
      subst ev
      have c : ∀ ws : List Nat, v ∉ ws → L2.wipe (σ.set v o) ws = (L2.wipe σ ws).set v o := fun ws => by
        induction ws with
        | nil => intro _; rfl
        | cons w ws ih =>
          intro hn
          have h1 : w ≠ v := fun q => hn (by rw [q]; exact List.mem_cons_self)
          have h2 : v ∉ ws := fun m => hn (List.mem_cons_of_mem _ m)
          unfold L2.wipe
          rw [ih h2, List.set_comm _ _ h1]
      rw [c vs z, List.set_set]
/-- a target stores into the slots vs alone -/
def TgOk (K : PySem.W.Frag) (tg : TG) (g : GD) (vs : List Nat) : Prop := ∀ v σ H Q, TGD K g v σ H Q → tg v σ H (fun σ2 H2 => L2.wipe σ2 vs = L2.wipe σ vs ∧ Q σ2 H2)
theorem tg_name {K : PySem.W.Frag} {i : Nat} {vs : List Nat} (h : i ∈ vs) : TgOk K (gName i) (gN i) vs := by
  rintro v σ H Q ⟨d, τ, M, F, r, rs, hh, q⟩
  exact ⟨wipe_set h, q _ H F (Ex.refl F) (rs.set r i) hh⟩
theorem tg_two {K : PySem.W.Frag} {i j : Nat} {vs : List Nat} (h : i ∈ vs) (h' : j ∈ vs) : TgOk K (gTup K 2 (L2.gCons (gName i) (L2.gCons (gName j) L2.gNil))) (gSeq 2 (gCons' (gN i) (gCons' (gN j) gNil'))) vs := by
  rintro v σ H Q ⟨d, τ, M, F, r, rs, hh, q⟩
  cases r <;> first | exact q.elim | skip
  rename_i a us ds hq r
  obtain ⟨hl, q⟩ := q
  refine ⟨a, us, rfl, hh.fr.seqT hq, by rw [r.len]; exact hl, ?_⟩
  cases r with
  | nil => exact q.elim
  | cons r1 r =>
    cases r with
    | nil => exact q.elim
    | cons r2 r =>
      cases r with
      | nil => exact ⟨_, _, rfl, _, _, rfl, rfl, by rw [wipe_set h', wipe_set h], q.2 _ H F (Ex.refl F) ((rs.set r1 i).set r2 j) hh⟩
      | cons _ _ => exact nomatch q.1
structure PTsd (X : Cx) (W : WXL) (ifs : List Expr) (t : DT) : Prop where
  run : PTs X ifs (TTD X.K W t)
  mono : MonoT t
def cYes : DT := fun _ _ M k => k true M
theorem PTs.weak {X : Cx} {e : List Expr} {t t' : TT} (p : PTs X e t) (w : ∀ σ H Q, t' σ H Q → t σ H Q) : PTs X e t' := ⟨fun pins s σ H Q I h => p.run pins s σ H Q I (w σ H Q h)⟩
theorem ptsd_nil : PTsd X W [] cYes := ⟨PTs.weak pts_nil fun σ H Q ⟨τ, M, F, rs, hh, q⟩ => q H F (Ex.refl F) hh, fun _ _ _ _ _ _ _ hk h => hk _ _ h⟩
theorem ptsd_one {c : Expr} (h : PTd X W c ct) : PTsd X W [c] ct := ⟨pts_one h.run, h.mono⟩
/-- the loop: what is left, what is made; the list grows at p -/
def lcD (g : GD) (t : DT) (ce : DE) (vs : List Nat) (p : Addr) (E : DX) (τ : StD) (k : KD) : List D → List D → MS → Prop
  | [], acc, M => M p = some (.lst acc) ∧ (k (.lst acc) (delM M p) ∨ k (.ref p) M)
  | d :: r, acc, M => g d (wipeD τ vs) M (fun τ2 M2 => t E τ2 M2 (fun b M3 => if b = true then ce E τ2 M3 (fun y M4 => M4 p = some (.lst acc) ∧ acc.length < sizeLine ∧ lcD g t ce vs p E τ k r (acc ++ [y]) (updM M4 p (.lst (acc ++ [y])))) else (M3 p = some (.lst acc) ∧ lcD g t ce vs p E τ k r acc M3)))
def cLc (ci : DA) (g : GD) (t : DT) (ce : DE) (vs : List Nat) : DE := fun E τ M k => ci E τ M (fun ds M1 => ∀ p, M1 p = none → lcD g t ce vs p (fun _ _ _ => False) τ k ds [] (updM M1 p (.lst [])))
theorem mono_lc {t : DT} {ce : DE} {vs : List Nat} {p : Addr} {E : DX} {τ : StD} {k k' : KD} (mg : MonoG g) (mt : MonoT t) (me : MonoE ce) (hk : KD.le k k') : ∀ (ds acc : List D) (M : MS), lcD g t ce vs p E τ k ds acc M → lcD g t ce vs p E τ k' ds acc M
  | [], _, _, q => ⟨q.1, q.2.imp (hk _ _) (hk _ _)⟩
  | d :: r, acc, M, q => mg.go (fun _ _ z => mt.go DX.rfl (fun b M3 y => ite_le (fun w => me.go DX.rfl (fun _ _ u => ⟨u.1, u.2.1, mono_lc mg mt me hk r _ _ u.2.2⟩) w) (fun w => ⟨w.1, mono_lc mg mt me hk r _ _ w.2⟩) y) z) q
theorem td_lc {K : PySem.W.Frag} {tgh : TG} {ce : DE} {vs : List Nat} (mi : MonoA ci) (mg : MonoG g) (mt : MonoT ct) (me : MonoE ce) (ht : TgOk K tgh g vs) {σ : L2.St} {H : Hp} {Q : VK}
    (h : TD K W (cLc ci g ct ce vs) σ H Q) : tLc (TID K W ci) tgh (TTD K (fun _ _ _ _ => False) ct) (TD K (fun _ _ _ _ => False) ce) vs σ H Q := by
  obtain ⟨τ, M, F, rs, hh, q⟩ := h
  refine ⟨τ, M, F, rs, hh, mi.go DX.rfl (fun ds M1 z J H1 F1 e1 h1 it => ?_) q⟩
  intro Dl nD
  have z := z Dl (h1.freeM nD)
  have r1 : RepSt K F1 σ τ := rs.up e1
  refine ⟨fun i m H' => m = ds.length - i ∧ i ≤ ds.length ∧ ∃ acc M' F', Ex F1 F' ∧ Holds K F' M' H' ∧ lcD g ct ce vs Dl (fun _ _ _ => False) τ (KL K F Q) (ds.drop i) acc M' ∧ M' Dl = some (.lst acc), ⟨ds.length, by simp, Nat.zero_le _, [], _, F1, Ex.refl F1, h1.newM nD (.lst .nil), z, updM_same⟩, ?_⟩
  rintro i m H2 ⟨rfl, hi2, acc, M2, F2, e2, h2, q2, hm2⟩
  by_cases hlt : i < ds.length
  · have hd : ds[i]? = some ds[i] := List.getElem?_eq_getElem hlt
    rw [List.drop_eq_getElem_cons hlt] at q2
    refine .inr ⟨it.go i _ F2 M2 H2 e2 h2 hd, fun H' => i + 1 ≤ ds.length ∧ ∃ acc M' F', Ex F1 F' ∧ Holds K F' M' H' ∧ lcD g ct ce vs Dl (fun _ _ _ => False) τ (KL K F Q) (ds.drop (i + 1)) acc M' ∧ M' Dl = some (.lst acc), ?_, ?_⟩
    · rintro H' ⟨hl, w⟩
      exact ⟨ds.length - (i + 1), by omega, rfl, hl, w⟩
    · intro x H3 y
      obtain ⟨F3, e3, h3, rx⟩ := it.yl i _ F2 M2 H2 x H3 e2 h2 hd y
      have e13 : Ex F1 F3 := e2.trans e3
      have rs3 := ((r1.up e13).wipe vs)
      have key := ht x (L2.wipe σ vs) H3 (fun σ2 H4 => TTD K (fun _ _ _ _ => False) ct σ2 H4 fun b H5 => if b = true then TD K (fun _ _ _ _ => False) ce σ2 H5 fun y H6 => ∃ acc, H6 Dl = some (.lst acc) ∧ acc.length < sizeLine ∧ (i + 1 ≤ ds.length ∧ ∃ acc' M' F', Ex F1 F' ∧ Holds K F' M' (upd H6 Dl (.lst (acc ++ [y]))) ∧ lcD g ct ce vs Dl (fun _ _ _ => False) τ (KL K F Q) (ds.drop (i + 1)) acc' M' ∧ M' Dl = some (.lst acc')) else (i + 1 ≤ ds.length ∧ ∃ acc' M' F', Ex F1 F' ∧ Holds K F' M' H5 ∧ lcD g ct ce vs Dl (fun _ _ _ => False) τ (KL K F Q) (ds.drop (i + 1)) acc' M' ∧ M' Dl = some (.lst acc')))
      have idem : ∀ (ws : List Nat) (s : L2.St), (∀ i ∈ ws, i ∈ vs) → L2.wipe (L2.wipe s vs) ws = L2.wipe s vs := by
        intro ws s hws
        have c1 : ∀ (us : List Nat) (i : Nat), i ∈ us → (L2.wipe s us).set i none = L2.wipe s us := by
          intro us
          induction us with
          | nil => intro i hi; cases hi
          | cons u us ih =>
            intro i hi
            unfold L2.wipe
            by_cases hiu : u = i
            · subst hiu; rw [List.set_set]
            · rcases List.mem_cons.mp hi with q | q
              · exact absurd q.symm hiu
              · rw [List.set_comm _ _ hiu, ih i q]
        induction ws with
        | nil => rfl
        | cons w ws ih =>
          show (L2.wipe (L2.wipe s vs) ws).set w none = L2.wipe s vs
          rw [ih (fun i hi => hws i (List.mem_cons_of_mem _ hi)), c1 vs w (hws w List.mem_cons_self)]
      rw [idem vs σ (fun _ h => h)] at key
      refine key ⟨_, wipeD τ vs, M2, F3, rx, rs3, h3, mg.go (fun τ4 M4 w => ?_) q2⟩
      intro σ5 H5 F5 e5 rs5 h5
      refine ⟨τ4, M4, F5, rs5, h5, mt.go (fun _ _ _ u => u.elim) (fun b M6 u H6 F6 e6 h6 => ?_) w⟩
      refine ite_le (fun v => ?_) (fun v => ?_) u
      · refine ⟨τ4, M6, F6, rs5.up e6, h6, me.go (fun _ _ _ u => u.elim) (fun d M7 u7 y7 H7 F7 e7 h7 r7 => ?_) v⟩
        obtain ⟨hm7, hz7, q7⟩ := u7
        obtain ⟨_, o7, ho7, rm7⟩ := h7.mu Dl _ hm7
        cases rm7 with
        | @lst us _ ru =>
          exact ⟨us, ho7, by rw [ru.len]; exact hz7, hlt, _, _, F7, e13.trans (e5.trans (e6.trans e7)), h7.setM hm7 (.lst (ru.app (.cons r7 .nil))), q7, updM_same⟩
      · exact ⟨hlt, acc, M6, F6, e13.trans (e5.trans e6), h6, v.2, v.1⟩
  · have ei : i = ds.length := by omega
    subst ei
    rw [List.drop_length] at q2
    obtain ⟨hm, q2⟩ := q2
    refine .inl ⟨it.st _ F2 M2 H2 e2 h2 (Nat.le_refl _), ?_⟩
    rcases q2 with q2 | q2
    · obtain ⟨F3, e3, h3, r3⟩ := h2.freeze hm
      exact q2 _ H2 F3 ((e1.trans e2).trans e3) h3 r3
    · exact q2 _ H2 F2 (e1.trans e2) h2 (.ref Dl)

abbrev W0 : WXL := fun _ _ _ _ => False
theorem mono_lcE {ce : DE} {vs : List Nat} (mi : MonoA ci) (mg : MonoG g) (mt : MonoT ct) (me : MonoE ce) : MonoE (cLc ci g ct ce vs) :=
  fun _ _ _ _ _ _ hE hk h => mi.go hE (fun ds M1 z p np => mono_lc mg mt me hk ds _ _ (z p np)) h
theorem pd_lc {elt tg iter : Expr} {ifs : List Expr} {scope : Scope} {own : List (Str × Nat)} {tgh : TG} {ce : DE} (hc : X.calm = true) (hN : X.N.Nodup) (hi : PId X W tg iter ci) (ok : BlkOk X.N X.env.scope scope own) (mg : MonoG g) (htg : TgOk X.K tgh g (own.map (·.2)))
    (hg : ∀ (s : Shared) (H : Hp) (C : Addr) (cl : List (Str × Addr)) (fp : List Addr), PG (X.blk s H scope (compEnvC scope cl C X.env) fp) tg tgh) (ht : ∀ (s : Shared) (H : Hp) (C : Addr) (cl : List (Str × Addr)) (fp : List Addr), PTsd (X.blk s H scope (compEnvC scope cl C X.env) fp) W0 ifs ct)
    (he : ∀ (s : Shared) (H : Hp) (C : Addr) (cl : List (Str × Addr)) (fp : List Addr), PEd (X.blk s H scope (compEnvC scope cl C X.env) fp) W0 elt ce) (hs : ∀ x, foldedSetIterable iter X.env x = pure x := by intro _; rfl) :
    PEd X W (.ListComp elt [⟨tg, iter, ifs, 0⟩] scope pos) (cLc ci g ct ce (own.map (·.2))) :=
  ⟨PE.weak (pe_lc hc hN hi.run ok hg (fun s H C cl fp => (ht s H C cl fp).run) (fun s H C cl fp => (he s H C cl fp).run) hs) fun σ H Q h => td_lc hi.mono mg (ht {} (fun _ => none) 0 [] []).mono (he {} (fun _ => none) 0 [] []).mono htg h, mono_lcE hi.mono mg (ht {} (fun _ => none) 0 [] []).mono (he {} (fun _ => none) 0 [] []).mono⟩
theorem psd_setLc {i : Nat} {y : Str} {py spos : Pos} {elt tg iter : Expr} {ifs : List Expr} {scope : Scope} {own : List (Str × Nat)} {tgh : TG} {ce : DE} (hc : X.calm = true) (hN : X.N.Nodup) (hy : X.N[i]? = some y) (hyl : X.env.scope.names.lookup y = some .local)
    (hsw : swapsWith (.ListComp elt [⟨tg, iter, ifs, 0⟩] scope pos) (some (.Name y py)) spos.line X.env = pure true) (hi : PId X W tg iter ci) (ok : BlkOk X.N X.env.scope scope own) (mg : MonoG g) (htg : TgOk X.K tgh g (own.map (·.2)))
    (hg : ∀ (s : Shared) (H : Hp) (C : Addr) (cl : List (Str × Addr)) (fp : List Addr), PG (X.blk s H scope (compEnvC scope cl C X.env) fp) tg tgh) (ht : ∀ (s : Shared) (H : Hp) (C : Addr) (cl : List (Str × Addr)) (fp : List Addr), PTsd (X.blk s H scope (compEnvC scope cl C X.env) fp) W0 ifs ct)
    (he : ∀ (s : Shared) (H : Hp) (C : Addr) (cl : List (Str × Addr)) (fp : List Addr), PEd (X.blk s H scope (compEnvC scope cl C X.env) fp) W0 elt ce) (hs : ∀ x, foldedSetIterable iter X.env x = pure x := by intro _; rfl) :
    PSd X W (.Assign [.Name y py] (.ListComp elt [⟨tg, iter, ifs, 0⟩] scope pos) spos) (cAsg (cLc ci g ct ce (own.map (·.2))) (gN i)) := by
  have mt := (ht {} (fun _ => none) 0 [] []).mono
  have me := (he {} (fun _ => none) 0 [] []).mono
  refine ⟨fun F0 => PS.weak (ps_setLc (wi := TID X.K W ci) (tt := TTD X.K W0 ct) (te := TD X.K W0 ce) hc hN hy hyl hsw hi.run ok hg (fun s H C cl fp => (ht s H C cl fp).run) (fun s H C cl fp => (he s H C cl fp).run) hs) ?_, mono_asg (mono_lcE hi.mono mg mt me) fun _ _ _ _ _ h q => h _ _ q⟩
  rintro D σ H ⟨τ, M, F, e, rs, hh, q⟩
  have q2 : TD X.K W (cLc ci g ct ce (own.map (·.2))) σ H (fun x H1 => gName i x σ H1 D.nx) := by
    refine ⟨τ, M, F, rs, hh, (mono_lcE hi.mono mg mt me).go (el_at e rs) (fun d M1 z v H' F' e' h' r' => ?_) q⟩
    exact z _ H' F' (e.trans e') ((rs.up e').set r' i) h'
  exact td_lc hi.mono mg mt me htg q2

/-! ### a def -/
theorem kx_false {K : PySem.W.Frag} {F : Hp} {c : Value} {fs : List (Str × D)} {M : MS} {σ : L2.St} (h : False) : KXL K F (atW W0 σ) c fs M := h.elim
section
variable {P : Program} {w : World} {K : PySem.W.Frag} {mg : Str → Option Value} {base : Heap}
theorem Fun.okD {x qual : Str} {st : Stmt} {f : Addr} {fd : FuncData} {N ps : List Str} {k : Nat} {sp : SpD} {c : CS} (F : L2.Fun K x qual st f fd) (S : FnScope N ps (defScope st)) (len : ∀ ds M k E, sp ds M k E → ds.length = ps.length)
    (der : ∀ (cdv : Value) (A : Around) (outer : List Env) (s : Shared) (H : Hp) (E : XK), Room k (A.deeper (envOfC qual (defScope st) s.heap.objs.size f cdv)) → PSsd (cxOf CX0 P w K mg base N qual (defScope st) f cdv A outer s H E).nox W0 (defBody st) c)
    (main : ∀ ds M k, sp ds M k (fun _ _ _ => False) → c { nx := fun _ M' => k .non M', rt := k } (startD N.length ds) M) (hm : MonoS sp) : FnOk P w K mg base CX0 (k + 1) f fd ps (SPD K (NoX sp)) := by
  refine F.ok S (fun vs H Q E h => ?_) (fun cdv A outer s H vs Q E hr h => ?_)
  · obtain ⟨ds, M, G, r, hh, q⟩ := h
    rw [r.len]; exact len _ _ _ _ q
  · obtain ⟨ds, M, G, r, hh, q⟩ := h
    have d := der cdv A outer s H E hr
    refine ⟨_, d.run G, startD N.length ds, M, G, Ex.refl G, repSt_start r, hh, d.mono.go (E := { nx := fun _ M' => KL K G Q .non M', rt := KL K G Q }) ?_ (main ds M _ q)⟩
    exact ⟨fun τ M' z σ' H' F' e' rs' h' => z .non H' F' e' h' .non, fun _ _ z => z, fun _ _ z => z.elim, fun _ _ z => z.elim, fun _ _ _ _ z => z.elim⟩
end
end
end DL
namespace DL
theorem mono_gN {i : Nat} : MonoG (gN i) := fun _ _ _ _ _ h q => h _ _ q
theorem mono_g2 {i j : Nat} : MonoG (gSeq 2 (gCons' (gN i) (gCons' (gN j) gNil'))) := fun d τ M k k' h q => by
  cases d <;> first | exact q.elim | skip
  rename_i ds
  refine ⟨q.1, ?_⟩
  match ds, q with
  | [x, y], q => exact ⟨rfl, h _ _ q.2.2⟩
  | [], q => exact nomatch q.1
  | [_], q => exact nomatch q.1
  | _ :: _ :: _ :: _, q => exact nomatch q.1
end DL

set_option maxHeartbeats 4000000
namespace DL
open PySem PySem.Spec PyProof.Rows L2

/-! ### a tuple once -/
theorem tuple_mul1 (l : Addr) (items : Array Value) (n : Nat) (dd : Option Addr) (sl : Array (Option Value)) (u : Tok) :
    Meets (Builtin.«tuple.__mul__» ⟨[.ref l, .int 1 u], []⟩) (fun _ R s => s.heap.get? l = some { cls := .type "tuple", dict := dd, data := .seq items n, slots := sl } ∧ R (.ok (.ret (Value.ref l))) s) :=
  .of_wp fun prog w A R s h => by
    obtain ⟨hp, g, d, tk, os⟩ := s
    obtain ⟨hl, h⟩ := h
    have f1 := AutoSeq1.idx_int
    have c0 : (decide ((1 : Int) < -(2 ^ 63)) || decide ((1 : Int) ≥ 2 ^ 63)) = false := by decide
    have c1 : (items.isEmpty || (1 : Int) == 1) = true := by simp
    wp_walk using wpAny_loadPart' hl
    repeat (first
      | (refine wpAny_ite_false (decide_eq_false (by rw [c0]; exact Bool.false_ne_true)) ?_; wp_walk using wpAny_loadPart' hl)
      | (refine wpAny_ite_true (decide_eq_true c1) ?_; wp_walk using wpAny_loadPart' hl))
    exact ⟨_, rfl, h⟩
def rRep1 (K : PySem.W.Frag) : R2 := fun x y H Q => ∃ l xs, x = .ref l ∧ y = .int 1 ∧ SqT K H l xs ∧ Q (.ref l) H
theorem op_rep1 {X : Cx} : OpR X (binaryOp .Mult) (rRep1 X.K) := by
  intro pins s σ H x y v u Q I rx ry h
  obtain ⟨l, xs, rfl, rfl, hT, q⟩ := h
  cases rx
  obtain ⟨t, rfl⟩ := ry
  obtain ⟨its, r, ⟨⟨cls, dd, data, sl⟩, ho, hc, n, hd⟩, hs⟩ := I.tuple hT
  simp only at hc hd
  subst hc hd
  exact wpAny_binaryOp_repeat_ref (T := "tuple") (U := "int") (by decide) ⟨_, ho, rfl⟩ (fun s' => typeIs_int s' 1 t) noFill_tuple_mul F.fills_int_mul F.slot_int_rmul repeat_tuple F.slot_int_index.lookup
    (call_meets F.slot_int_rmul (typeIs_int s 1 t) F.entry_int_rmul (F.args_int_rmul_2 _ _) (int_rmul_tuple 1 t l its.toArray n dd sl)
      ⟨ho, rfl, ⟨_, ho, rfl⟩, call_meets F.slot_tuple_mul ⟨_, ho, rfl⟩ F.entry_tuple_mul (F.args_tuple_mul_2 _ _) (tuple_mul1 l its.toArray n dd sl t) ⟨ho, .ref l, H, I, rfl, q⟩⟩)

/-! ### a tuple no time -/
theorem tuple_mul0 (l : Addr) (items : Array Value) (n : Nat) (dd : Option Addr) (sl : Array (Option Value)) (u : Tok) (ne : items.isEmpty = false) :
    Meets (Builtin.«tuple.__mul__» ⟨[.ref l, .int 0 u], []⟩) (fun _ R s => s.heap.get? l = some { cls := .type "tuple", dict := dd, data := .seq items n, slots := sl } ∧
      R (.ok (.ret (Value.ref s.heap.objs.size))) { s with heap := s.heap.push { cls := Value.type "tuple", data := Data.seq #[] }, toks := s.toks }) :=
  .of_wp fun prog w A R s h => by
    obtain ⟨hp, g, d, tk, os⟩ := s
    obtain ⟨hl, h⟩ := h
    have f1 := AutoSeq1.idx_int
    have c0 : (decide ((0 : Int) < -(2 ^ 63)) || decide ((0 : Int) ≥ 2 ^ 63)) = false := by decide
    have c1 : (items.isEmpty || (0 : Int) == 1) = false := by rw [ne]; rfl
    have c2 : (decide ((0 : Int) ≤ 0) || items.isEmpty) = true := by simp
    wp_walk using wpAny_loadPart' hl
    repeat (first
      | (refine wpAny_ite_false (decide_eq_false (by rw [c0]; exact Bool.false_ne_true)) ?_; wp_walk using wpAny_loadPart' hl)
      | (refine wpAny_ite_false (decide_eq_false (by rw [c1]; exact Bool.false_ne_true)) ?_; wp_walk using wpAny_loadPart' hl)
      | (refine wpAny_ite_true (decide_eq_true c2) ?_; wp_walk using wpAny_loadPart' hl))
    exact ⟨_, rfl, h⟩
def rRep0 (K : PySem.W.Frag) : R2 := fun x y H Q => ∃ l xs, x = .ref l ∧ y = .int 0 ∧ SqT K H l xs ∧ xs ≠ [] ∧ ∀ p, H p = none → Q (.ref p) (upd H p (.tup []))
theorem op_rep0 {X : Cx} : OpR X (binaryOp .Mult) (rRep0 X.K) := by
  intro pins s σ H x y v u Q I rx ry h
  obtain ⟨l, xs, rfl, rfl, hT, hne, q⟩ := h
  cases rx
  obtain ⟨t, rfl⟩ := ry
  obtain ⟨its, r, ⟨⟨cls, dd, data, sl⟩, ho, hc, n, hd⟩, hs⟩ := I.tuple hT
  simp only at hc hd
  subst hc hd
  have hi : its.toArray.isEmpty = false := by
    cases its with
    | nil => cases r; exact absurd rfl hne
    | cons a b => rfl
  refine wpAny_binaryOp_repeat_ref (T := "tuple") (U := "int") (by decide) ⟨_, ho, rfl⟩ (fun s' => typeIs_int s' 0 t) noFill_tuple_mul F.fills_int_mul F.slot_int_rmul repeat_tuple F.slot_int_index.lookup
    (call_meets F.slot_int_rmul (typeIs_int s 0 t) F.entry_int_rmul (F.args_int_rmul_2 _ _) (int_rmul_tuple 0 t l its.toArray n dd sl)
      ⟨ho, rfl, ⟨_, ho, rfl⟩, call_meets F.slot_tuple_mul ⟨_, ho, rfl⟩ F.entry_tuple_mul (F.args_tuple_mul_2 _ _) (tuple_mul0 l its.toArray n dd sl t hi) ⟨ho, ?_⟩⟩)
  exact ⟨.ref s.heap.objs.size, _, I.laid (t' := s.toks) (o := .tup []) (fun b ob q => Heap.get?_push_of_some _ q) (Nat.le_refl _) ⟨Nat.zero_le _, _, .nil, IsTup.new _ _⟩, rfl, q _ (I.hok.fresh (Nat.le_refl _))⟩
section
variable {X : Cx}
/-! ### operators -/
theorem opd_I {f : Value → Value → Sem Value} {C : Int → Int → Prop} {g : Int → Int → V} {ρ : RD2} (ho : OpR X f (rI C g)) (m : MonoR2 ρ)
    (h : ∀ x y dx dy H F M Q, Holds X.K F M H → Rep X.K F x dx → Rep X.K F y dy → ρ dx dy M (KL X.K F Q) → rI C g x y H Q) : OpD X f ρ := ⟨⟨_, ho, h⟩, m⟩
/-- two ints -/
def ρI (C : Int → Int → Prop) (g : Int → Int → D) : RD2 := fun dx dy M k => match dx, dy with
  | .int i, .int j => C i j ∧ k (g i j) M
  | _, _ => False
def ρI0 (g : Int → Int → D) : RD2 := fun dx dy M k => match dx, dy with
  | .int i, .int j => k (g i j) M
  | _, _ => False
theorem mono_I {C : Int → Int → Prop} {g : Int → Int → D} : MonoR2 (ρI C g) := fun dx dy M k k' h q => by
  unfold ρI at q ⊢
  split at q <;> first | exact ⟨q.1, h _ _ q.2⟩ | exact q.elim
theorem mono_I0 {g : Int → Int → D} : MonoR2 (ρI0 g) := fun dx dy M k k' h q => by
  unfold ρI0 at q ⊢
  split at q <;> first | exact h _ _ q | exact q.elim
theorem run_I {C : Int → Int → Prop} {gv : Int → Int → V} {g : Int → Int → D} {K : PySem.W.Frag} (r : ∀ i j F, Rep K F (gv i j) (g i j)) {x y dx dy H F M Q} (hh : Holds K F M H) (rx : Rep K F x dx) (ry : Rep K F y dy) (q : ρI C g dx dy M (KL K F Q)) : rI C gv x y H Q := by
  unfold ρI at q
  split at q
  · cases rx; cases ry
    exact ⟨_, _, rfl, rfl, q.1, q.2 _ H F (Ex.refl F) hh (r _ _ F)⟩
  · exact q.elim
theorem run_I0 {gv : Int → Int → V} {g : Int → Int → D} {K : PySem.W.Frag} (r : ∀ i j F, Rep K F (gv i j) (g i j)) {x y dx dy H F M Q} (hh : Holds K F M H) (rx : Rep K F x dx) (ry : Rep K F y dy) (q : ρI0 g dx dy M (KL K F Q)) : rI0 gv x y H Q := by
  unfold ρI0 at q
  split at q
  · cases rx; cases ry
    exact ⟨_, _, rfl, rfl, q _ H F (Ex.refl F) hh (r _ _ F)⟩
  · exact q.elim
/-- either rule -/
theorem opd_or {f : Value → Value → Sem Value} {ρ ρ' : RD2} (h : OpD X f ρ) (h' : OpD X f ρ') : OpD X f (fun dx dy M k => ρ dx dy M k ∨ ρ' dx dy M k) := by
  obtain ⟨r, h1, h2⟩ := h.run
  obtain ⟨r', h1', h2'⟩ := h'.run
  exact ⟨⟨_, h1.or h1', fun x y dx dy H F M Q hh rx ry q => q.imp (h2 x y dx dy H F M Q hh rx ry) (h2' x y dx dy H F M Q hh rx ry)⟩, fun _ _ _ _ _ hk q => q.imp (h.mono.go hk) (h'.mono.go hk)⟩
theorem opd_imp {f : Value → Value → Sem Value} {ρ ρ' : RD2} (h : OpD X f ρ) (w : ∀ dx dy M k, ρ' dx dy M k → ρ dx dy M k) (m : MonoR2 ρ') : OpD X f ρ' := by
  obtain ⟨r, h1, h2⟩ := h.run
  exact ⟨⟨r, h1, fun x y dx dy H F M Q hh rx ry q => h2 x y dx dy H F M Q hh rx ry (w _ _ _ _ q)⟩, m⟩
abbrev ρSub : RD2 := ρI0 fun i j => .int (i - j)
abbrev ρLt : RD2 := ρI0 fun i j => .bl (decide (i < j))
abbrev ρLe : RD2 := ρI0 fun i j => .bl (decide (i ≤ j))
abbrev ρGt : RD2 := ρI0 fun i j => .bl (decide (j < i))
abbrev ρGe : RD2 := ρI0 fun i j => .bl (decide (j ≤ i))
abbrev ρFdiv : RD2 := ρI CDivW fun i j => .int (i / j)
abbrev ρMod : RD2 := ρI (fun _ j => 0 < j) fun i j => .int (i % j)
abbrev ρPow : RD2 := ρI CPow fun i j => .int (i ^ j.toNat)
def ρNeg : D → MS → KD → Prop := fun d M k => match d with | .int i => k (.int (-i)) M | _ => False
theorem od_sub : OpD X (binaryOp .Sub) ρSub := ⟨⟨_, op_sub, fun x y dx dy H F M Q hh rx ry q => run_I0 (fun i j F => .int _) hh rx ry q⟩, mono_I0⟩
theorem od_addI : OpD X (binaryOp .Add) (ρI0 fun i j => .int (i + j)) := ⟨⟨_, op_add, fun x y dx dy H F M Q hh rx ry q => run_I0 (fun i j F => .int _) hh rx ry q⟩, mono_I0⟩
theorem od_lt : OpD X (compareOp .Lt) ρLt := ⟨⟨_, op_lt, fun x y dx dy H F M Q hh rx ry q => run_I0 (fun i j F => .bl _) hh rx ry q⟩, mono_I0⟩
theorem od_le : OpD X (compareOp .LtE) ρLe := ⟨⟨_, op_le, fun x y dx dy H F M Q hh rx ry q => run_I0 (fun i j F => .bl _) hh rx ry q⟩, mono_I0⟩
theorem od_gt : OpD X (compareOp .Gt) ρGt := ⟨⟨_, op_gt, fun x y dx dy H F M Q hh rx ry q => run_I0 (fun i j F => .bl _) hh rx ry q⟩, mono_I0⟩
theorem od_ge : OpD X (compareOp .GtE) ρGe := ⟨⟨_, op_ge, fun x y dx dy H F M Q hh rx ry q => run_I0 (fun i j F => .bl _) hh rx ry q⟩, mono_I0⟩
theorem od_mulN : OpD X (binaryOp .Mult) (ρI CMul fun i j => .int (i * j)) := ⟨⟨_, op_mul, fun x y dx dy H F M Q hh rx ry q => run_I (fun i j F => .int _) hh rx ry q⟩, mono_I⟩
theorem od_mulW : OpD X (binaryOp .Mult) (ρI CMulW fun i j => .int (i * j)) := ⟨⟨_, op_mulW, fun x y dx dy H F M Q hh rx ry q => run_I (fun i j F => .int _) hh rx ry q⟩, mono_I⟩
theorem od_fdiv : OpD X (binaryOp .FloorDiv) ρFdiv := ⟨⟨_, op_fdivW, fun x y dx dy H F M Q hh rx ry q => run_I (fun i j F => .int _) hh rx ry q⟩, mono_I⟩
theorem od_mod : OpD X (binaryOp .Mod) ρMod := ⟨⟨_, op_mod, fun x y dx dy H F M Q hh rx ry q => run_I (fun i j F => .int _) hh rx ry q⟩, mono_I⟩
theorem od_pow : OpD X (binaryOp .Pow) ρPow := ⟨⟨_, op_pow, fun x y dx dy H F M Q hh rx ry q => run_I (fun i j F => .int _) hh rx ry q⟩, mono_I⟩
/-- a * b: ints; a tuple as often as a small number says -/
def ρMul : RD2 := fun dx dy M k => match dx, dy with
  | .int i, .int j => (CMul i j ∨ CMulW i j) ∧ k (.int (i * j)) M
  | .tup xs, .int j => xs ≠ [] ∧ 0 ≤ j ∧ j ≤ 1000 ∧ xs.length ≤ 1000 ∧ k (.tup (List.replicate j.toNat xs).flatten) M
  | .lst xs, .int j => 0 ≤ j ∧ j ≤ 1000 ∧ xs.length ≤ 1000 ∧ (k (.lst (List.replicate j.toNat xs).flatten) M ∨ ∀ p, M p = none → k (.ref p) (updM M p (.lst (List.replicate j.toNat xs).flatten)))
  | _, _ => False
theorem Reps.rep {K : PySem.W.Frag} {F : Hp} {vs : List V} {ds : List D} (r : Reps K F vs ds) : ∀ n : Nat, Reps K F (List.replicate n vs).flatten (List.replicate n ds).flatten
  | 0 => .nil
  | n + 1 => by
    rw [List.replicate_succ, List.replicate_succ, List.flatten_cons, List.flatten_cons]
    exact r.app (Reps.rep r n)
theorem od_mul : OpD X (binaryOp .Mult) ρMul := by
  refine ⟨⟨_, ((op_mul.or op_mulW).or (op_repT.or op_rep1)).or (op_rep0.or op_rep), fun x y dx dy H F M Q hh rx ry q => ?_⟩, fun dx dy M k k' h q => ?_⟩
  · unfold ρMul at q
    split at q
    · cases rx; cases ry
      refine .inl (.inl (q.1.imp (fun c => ?_) (fun c => ?_)))
      · exact ⟨_, _, rfl, rfl, c, q.2 _ H F (Ex.refl F) hh (.int _)⟩
      · exact ⟨_, _, rfl, rfl, c, q.2 _ H F (Ex.refl F) hh (.int _)⟩
    · rename_i ds j
      obtain ⟨h1, h2, h3, h4, q⟩ := q
      cases ry
      cases rx with
      | @tup a vs _ hq r =>
        have hT := hh.fr.seqT hq
        have hne : vs ≠ [] := fun z => h1 (by
          have l := r.len
          rw [z] at l
          exact List.eq_nil_of_length_eq_zero l.symm)
        by_cases e0 : j = 0
        · subst e0
          refine .inr (.inl ⟨a, vs, rfl, rfl, hT, hne, fun p np => ?_⟩)
          obtain ⟨e2, h5⟩ := hh.newF (o := .tup []) np
          exact q _ _ _ e2 h5 (.tup (SqT.of upd_same) .nil)
        refine .inl (.inr ?_)
        by_cases e : j = 1
        · subst e
          refine .inr ⟨a, vs, rfl, rfl, hT, q _ H F (Ex.refl F) hh ?_⟩
          have e1 : (List.replicate (1 : Int).toNat ds).flatten = ds := by simp
          rw [e1]
          exact .tup hq r
        · refine .inl ⟨a, j, vs, rfl, rfl, hT, hne, by omega, h3, by rw [r.len]; exact h4, fun p np => ?_⟩
          obtain ⟨e2, h5⟩ := hh.newF (o := .tup (List.replicate j.toNat vs).flatten) np
          exact q _ _ _ e2 h5 (.tup (SqT.of upd_same) ((r.up e2).rep _))
    · rename_i ds j
      obtain ⟨h1, h2, h3, q⟩ := q
      cases ry
      cases rx with
      | @lst a vs _ hq r =>
        have hz : vs.length * j.toNat ≤ sizeLine := by
          rw [r.len, sizeLine_eq]
          have a1 : ds.length * j.toNat ≤ 1000 * 1000 := Nat.mul_le_mul h3 (by omega)
          omega
        exact .inr (.inr ⟨a, j, vs, rfl, rfl, hh.fr _ _ hq, by omega, by omega, hz, fun p np => new_list hh (r.rep _) q np⟩)
    · exact q.elim
  · unfold ρMul at q ⊢
    split at q
    · exact ⟨q.1, h _ _ q.2⟩
    · exact ⟨q.1, q.2.1, q.2.2.1, q.2.2.2.1, h _ _ q.2.2.2.2⟩
    · exact ⟨q.1, q.2.1, q.2.2.1, or_le h q.2.2.2⟩
    · exact q.elim
/-- a + b: ints, texts, lists, tuples -/
def ρAdd : RD2 := fun dx dy M k => match dx, dy with
  | .int i, .int j => k (.int (i + j)) M
  | .str x, .str y => x.length + y.length ≤ sizeLine ∧ k (.str (x ++ y)) M
  | .lst xs, .lst ys => xs.length + ys.length ≤ sizeLine ∧ (k (.lst (xs ++ ys)) M ∨ ∀ p, M p = none → k (.ref p) (updM M p (.lst (xs ++ ys))))
  | .tup xs, .tup ys => xs.length + ys.length ≤ sizeLine ∧ k (.tup (xs ++ ys)) M
  | _, _ => False
theorem od_add : OpD X (binaryOp .Add) ρAdd := by
  refine ⟨⟨_, (op_add.or op_add_str).or (op_cat.or op_catA), fun x y dx dy H F M Q hh rx ry q => ?_⟩, fun dx dy M k k' h q => ?_⟩
  · unfold ρAdd at q
    split at q
    · cases rx; cases ry
      exact .inl (.inl ⟨_, _, rfl, rfl, q _ H F (Ex.refl F) hh (.int _)⟩)
    · cases rx; cases ry
      exact .inl (.inr ⟨_, _, rfl, rfl, q.1, q.2 _ H F (Ex.refl F) hh (.str _)⟩)
    · cases rx with
      | lst ha ra =>
        cases ry with
        | lst hb rb =>
          exact .inr (.inl ⟨_, _, _, _, rfl, rfl, hh.fr _ _ ha, hh.fr _ _ hb, by rw [ra.len, rb.len]; exact q.1, fun p np => new_list hh (ra.app rb) q.2 np⟩)
    · cases rx with
      | @tup a vs ds ha ra =>
        cases ry with
        | @tup b ws es hb rb =>
          refine .inr (.inr ⟨_, _, _, _, rfl, rfl, hh.fr.seqT ha, hh.fr.seqT hb, by rw [ra.len, rb.len]; exact q.1, fun z => ?_, fun _ z => ?_, fun _ _ p np => ?_⟩)
          · have l := ra.len
            rw [z] at l
            have e := List.eq_nil_of_length_eq_zero l.symm
            subst e
            exact q.2 _ H F (Ex.refl F) hh (.tup hb rb)
          · have l := rb.len
            rw [z] at l
            have e := List.eq_nil_of_length_eq_zero l.symm
            subst e
            exact q.2 _ H F (Ex.refl F) hh (by rw [List.append_nil]; exact .tup ha ra)
          · obtain ⟨e2, h5⟩ := hh.newF (o := .tup (vs ++ ws)) np
            exact q.2 _ _ _ e2 h5 (.tup (SqT.of upd_same) ((ra.app rb).up e2))
    · exact q.elim
  · unfold ρAdd at q ⊢
    split at q
    · exact h _ _ q
    · exact ⟨q.1, h _ _ q.2⟩
    · exact ⟨q.1, or_le h q.2⟩
    · exact ⟨q.1, h _ _ q.2⟩
    · exact q.elim
/-- scalars compared -/
def toV : D → Option V
  | .non => some .non | .bl b => some (.bl b) | .int i => some (.int i) | .str x => some (.str x)
  | _ => none
theorem rep_toV {K : PySem.W.Frag} {F : Hp} {v : V} {d : D} (r : Rep K F v d) {x : V} (e : toV d = some x) : v = x := by
  cases r <;> first | (cases e; rfl) | cases e
def eqS : D → D → Bool
  | .non, .non => true
  | .bl a, .bl b => a == b
  | .int a, .int b => a == b
  | .str a, .str b => a == b
  | _, _ => false
/-- what == is asked of: scalars of kinds that == tells apart as data does -/
def okS : D → D → Bool
  | .non, .non => true | .non, .int _ => true | .int _, .non => true | .non, .bl _ => true | .bl _, .non => true | .non, .str _ => true | .str _, .non => true
  | .int _, .int _ => true | .bl _, .bl _ => true | .str _, .str _ => true
  | .int _, .str _ => true | .str _, .int _ => true | .bl _, .str _ => true | .str _, .bl _ => true
  | _, _ => false
theorem okS_of {K : PySem.W.Frag} {F : Hp} {x y : V} {dx dy : D} (rx : Rep K F x dx) (ry : Rep K F y dy) (h : okS dx dy = true) : scal x y = true ∧ decide (x = y) = eqS dx dy := by
  cases rx <;> cases ry <;> first
    | (exact ⟨rfl, by simp [eqS, Bool.beq_eq_decide_eq]⟩)
    | (exact ⟨rfl, rfl⟩)
    | (exact absurd h (by simp [okS]))
def ρEq : RD2 := fun dx dy M k => okS dx dy = true ∧ k (.bl (eqS dx dy)) M
def ρNe : RD2 := fun dx dy M k => okS dx dy = true ∧ k (.bl (!eqS dx dy)) M
theorem od_eq : OpD X (compareOp .Eq) ρEq := by
  refine ⟨⟨_, op_eq, fun x y dx dy H F M Q hh rx ry q => ?_⟩, fun dx dy M k k' h q => ⟨q.1, h _ _ q.2⟩⟩
  obtain ⟨h1, h2⟩ := okS_of rx ry q.1
  exact ⟨h1, by rw [h2]; exact q.2 _ H F (Ex.refl F) hh (.bl _)⟩
theorem od_ne : OpD X (compareOp .NotEq) ρNe := by
  refine ⟨⟨_, op_ne, fun x y dx dy H F M Q hh rx ry q => ?_⟩, fun dx dy M k k' h q => ⟨q.1, h _ _ q.2⟩⟩
  obtain ⟨h1, h2⟩ := okS_of rx ry q.1
  exact ⟨h1, by rw [h2]; exact q.2 _ H F (Ex.refl F) hh (.bl _)⟩
def isNon : D → Bool
  | .non => true
  | _ => false
theorem isNon_of {K : PySem.W.Frag} {F : Hp} {x : V} {d : D} (r : Rep K F x d) : decide (x = V.non) = isNon d := by
  cases r <;> first | rfl | exact decide_eq_false (fun z => nomatch z)
def ρIsN : RD2 := fun dx dy M k => match dy with
  | .non => k (.bl (isNon dx)) M
  | _ => False
def ρNotN : RD2 := fun dx dy M k => match dy with
  | .non => k (.bl (!isNon dx)) M
  | _ => False
theorem od_isN : OpD X (compareOp .Is) ρIsN := by
  refine ⟨⟨_, op_isN, fun x y dx dy H F M Q hh rx ry q => ?_⟩, fun dx dy M k k' h q => ?_⟩
  · unfold ρIsN at q
    split at q
    · cases ry
      exact ⟨rfl, by rw [isNon_of rx]; exact q _ H F (Ex.refl F) hh (.bl _)⟩
    · exact q.elim
  · unfold ρIsN at q ⊢
    split at q <;> first | exact h _ _ q | exact q.elim
theorem od_notN : OpD X (compareOp .IsNot) ρNotN := by
  refine ⟨⟨_, op_notN, fun x y dx dy H F M Q hh rx ry q => ?_⟩, fun dx dy M k k' h q => ?_⟩
  · unfold ρNotN at q
    split at q
    · cases ry
      exact ⟨rfl, by rw [isNon_of rx]; exact q _ H F (Ex.refl F) hh (.bl _)⟩
    · exact q.elim
  · unfold ρNotN at q ⊢
    split at q <;> first | exact h _ _ q | exact q.elim
theorem ud_neg : UnD X (unaryOp .USub) ρNeg := by
  refine ⟨⟨_, un_neg, fun x dx H F M Q hh rx q => ?_⟩, fun dx M k k' h q => ?_⟩
  · unfold ρNeg at q
    split at q
    · cases rx
      exact ⟨_, rfl, q _ H F (Ex.refl F) hh (.int _)⟩
    · exact q.elim
  · unfold ρNeg at q ⊢
    split at q <;> first | exact h _ _ q | exact q.elim
/-! ### subscripts -/
structure IxD (X : Cx) (ρ : RD2) : Prop where
  run : ∃ r, IxR X r ∧ ∀ x y dx dy H F M Q, Holds X.K F M H → Rep X.K F x dx → Rep X.K F y dy → ρ dx dy M (KL X.K F Q) → r x y H Q
  mono : MonoR2 ρ
theorem pd_ix {W : WXL} {a b : Expr} {ca cb : DE} {pos : Pos} {ρ : RD2} (ho : IxD X ρ) (ha : PEd X W a ca) (hb : PEd X W b cb) (hs : PlainIx b) : PEd X W (.Subscript a b pos) (cBin ρ ca cb) := by
  obtain ⟨r, hr, hq⟩ := ho.run
  exact ⟨PE.weak (pe_ix hr ha.run hb.run hs) fun σ H Q h => td_bin hq ho.mono ha.mono hb.mono h, mono_bin ho.mono ha.mono hb.mono⟩
theorem Reps.atI {K : PySem.W.Frag} {F : Hp} {vs : List V} {ds : List D} (r : Reps K F vs ds) {i : Int} {d : D} (h : L2.atI ds i = some d) : ∃ v, L2.atI vs i = some v ∧ Rep K F v d := by
  unfold L2.atI at h ⊢
  rw [r.len]
  cases e : ixN ds.length i with
  | none => rw [e] at h; cases h
  | some j =>
    rw [e] at h
    obtain ⟨v, h1, h2⟩ := r.get (i := j) (d := d) h
    exact ⟨v, h1, h2⟩
/-- the item at a place -/
def atK (o : Option D) (M : MS) (k : KD) : Prop := match o with
  | some d => k d M
  | none => False
theorem atK_some {o : Option D} {M : MS} {k : KD} (h : atK o M k) : ∃ d, o = some d ∧ k d M := by
  cases o with
  | none => exact h.elim
  | some d => exact ⟨d, rfl, h⟩
theorem atK_le {o : Option D} {M : MS} {k k' : KD} (hk : KD.le k k') (h : atK o M k) : atK o M k' := by
  cases o with
  | none => exact h.elim
  | some d => exact hk _ _ h
/-- a list, a tuple, a text, a list of the store at a place -/
def ρIx : RD2 := fun dx dy M k => match dx, dy with
  | .lst xs, .int i => atK (L2.atI xs i) M k
  | .tup xs, .int i => atK (L2.atI xs i) M k
  | .rd xs, .int i => atK (L2.atI xs i) M k
  | .ref p, .int i => match M p with
    | some (.lst xs) => atK (L2.atI xs i) M k
    | _ => False
  | .str z, .int i => z.length ≤ sizeLine ∧ atK ((L2.atI z.cps.toList i).map fun c => D.str ⟨#[c]⟩) M k
  | _, _ => False
theorem xd_seq : IxD X ρIx := by
  refine ⟨⟨_, ix_seq, fun x y dx dy H F M Q hh rx ry q => ?_⟩, fun dx dy M k k' h q => ?_⟩
  · unfold ρIx at q
    split at q
    · obtain ⟨d, h1, q⟩ := atK_some q
      cases ry
      cases rx with
      | lst hq r =>
        obtain ⟨v, hv, rv⟩ := r.atI h1
        exact .inl ⟨_, _, _, v, rfl, rfl, SqL.of (hh.fr _ _ hq), hv, q _ H F (Ex.refl F) hh rv⟩
    · obtain ⟨d, h1, q⟩ := atK_some q
      cases ry
      cases rx with
      | tup hq r =>
        obtain ⟨v, hv, rv⟩ := r.atI h1
        exact .inr (.inl ⟨_, _, _, v, rfl, rfl, hh.fr.seqT hq, hv, q _ H F (Ex.refl F) hh rv⟩)
    · obtain ⟨d, h1, q⟩ := atK_some q
      cases ry
      cases rx with
      | rd hq r =>
        obtain ⟨v, hv, rv⟩ := r.atI h1
        exact .inl ⟨_, _, _, v, rfl, rfl, hh.fr.seqL hq, hv, q _ H F (Ex.refl F) hh rv⟩
    · split at q
      · rename_i xs hm
        obtain ⟨d, h1, q⟩ := atK_some q
        cases ry
        cases rx
        obtain ⟨_, o, ho, rm⟩ := hh.mu _ _ hm
        cases rm with
        | lst r =>
          obtain ⟨v, hv, rv⟩ := r.atI h1
          exact .inl ⟨_, _, _, v, rfl, rfl, SqL.of ho, hv, q _ H F (Ex.refl F) hh rv⟩
      · exact q.elim
    · rename_i z i
      obtain ⟨h1, q⟩ := q
      obtain ⟨d, h2, q⟩ := atK_some q
      cases e : L2.atI z.cps.toList i with
      | none => rw [e] at h2; cases h2
      | some c =>
        rw [e] at h2
        cases h2
        cases ry
        cases rx
        exact .inr (.inr ⟨_, _, c, rfl, rfl, h1, e, q _ H F (Ex.refl F) hh (.str _)⟩)
    · exact q.elim
  · unfold ρIx at q ⊢
    split at q <;> first | exact atK_le h q | exact ⟨q.1, atK_le h q.2⟩ | exact q.elim | skip
    split at q <;> first | exact atK_le h q | exact q.elim
/-! ### slices -/
abbrev DO := DX → StD → MS → (Option Int → MS → Prop) → Prop
def TOD (K : PySem.W.Frag) (W : WXL) (c : DO) : TO := fun σ H Q => ∃ τ M F, RepSt K F σ τ ∧ Holds K F M H ∧ c (KXL K F (atW W σ)) τ M (fun o M' => ∀ H' F', Ex F F' → Holds K F' M' H' → Q o H')
structure POd (X : Cx) (W : WXL) (e : Option Expr) (c : DO) : Prop where
  run : PO X e (TOD X.K W c)
  mono : ∀ (E E' : DX) σ M (k k' : Option Int → MS → Prop), E.le E' → (∀ o M, k o M → k' o M) → c E σ M k → c E' σ M k'
def oNone : DO := fun _ _ M k => k none M
def oSome (c : DE) : DO := fun E σ M k => c E σ M (fun d M1 => match d with | .int i => k (some i) M1 | _ => False)
theorem pod_none {W : WXL} : POd X W none oNone := by
  refine ⟨?_, fun _ _ _ _ _ _ _ hk q => hk _ _ q⟩
  refine ⟨fun pins s σ H Q I h => ?_⟩
  obtain ⟨τ, M, F, rs, hh, q⟩ := h
  exact po_none.run pins s σ H Q I (q H F (Ex.refl F) hh)
theorem pod_some {W : WXL} {e : Expr} {c : DE} (he : PEd X W e c) : POd X W (some e) (oSome c) := by
  refine ⟨⟨fun pins s σ H Q I h => ?_⟩, fun _ _ _ _ _ _ hE hk q => he.mono.go hE (fun d M z => ?_) q⟩
  · obtain ⟨τ, M, F, rs, hh, q⟩ := h
    refine (po_some he.run).run pins s σ H Q I ⟨τ, M, F, rs, hh, he.mono.go DX.rfl (fun d M1 z v H' F' e' h' r' => ?_) q⟩
    split at z
    · cases r'
      exact ⟨_, rfl, z H' F' e' h'⟩
    · exact z.elim
  · split at z <;> first | exact hk _ _ z | exact z.elim
def cutD (xs : List D) (lo hi : Option Int) : List D := (xs.drop (HT.sIx xs.length 0 lo)).take (HT.sIx xs.length xs.length hi - HT.sIx xs.length 0 lo)
theorem Reps.cut {K : PySem.W.Frag} {F : Hp} {vs : List V} {ds : List D} (r : Reps K F vs ds) (lo hi : Option Int) : Reps K F (cutV vs lo hi) (cutD ds lo hi) := by
  unfold cutV cutD
  rw [r.len]
  exact (r.drop _).take _
/-- a slice of a list or a tuple -/
def ρSl (d : D) (lo hi : Option Int) : MS → KD → Prop := fun M k => match d with
  | .lst xs => k (.lst (cutD xs lo hi)) M ∨ ∀ p, M p = none → k (.ref p) (updM M p (.lst (cutD xs lo hi)))
  | .rd xs => k (.lst (cutD xs lo hi)) M ∨ ∀ p, M p = none → k (.ref p) (updM M p (.lst (cutD xs lo hi)))
  | .tup xs => k (.tup (cutD xs lo hi)) M
  | _ => False
def cSl (c : DE) (l h : DO) : DE := fun E σ M k => c E σ M (fun d M1 => l E σ M1 (fun lo M2 => h E σ M2 (fun hi M3 => ρSl d lo hi M3 k)))
theorem cutD_all {ds : List D} {lo hi : Option Int} (h : HT.sIx ds.length 0 lo = 0 ∧ HT.sIx ds.length ds.length hi = ds.length) : cutD ds lo hi = ds := by
  unfold cutD
  rw [h.1, h.2]
  simp
theorem mono_sl (d : D) (lo hi : Option Int) {M : MS} {k k' : KD} (h : KD.le k k') (q : ρSl d lo hi M k) : ρSl d lo hi M k' := by
  unfold ρSl at q ⊢
  split at q <;> first | exact or_le h q | exact h _ _ q | exact q.elim
theorem pd_slice {W : WXL} {e : Expr} {lo hi : Option Expr} {c : DE} {l u : DO} {p2 pos : Pos} (he : PEd X W e c) (hl : POd X W lo l) (hu : POd X W hi u) : PEd X W (.Subscript e (.Slice lo hi none p2) pos) (cSl c l u) := by
  refine ⟨PE.weak (pe_slice (sl_list.or sl_tupA) he.run hl.run hu.run) ?_, fun _ _ _ _ _ _ hE hk q => he.mono.go hE (fun _ _ z => hl.mono _ _ _ _ _ _ hE (fun _ _ z2 => hu.mono _ _ _ _ _ _ hE (fun _ _ z3 => mono_sl _ _ _ hk z3) z2) z) q⟩
  rintro σ H Q ⟨τ, M, F, rs, hh, q⟩
  refine ⟨τ, M, F, rs, hh, he.mono.go DX.rfl (fun d M1 z v H1 F1 e1 h1 r1 => ?_) q⟩
  refine ⟨τ, M1, F1, rs.up e1, h1, hl.mono _ _ _ _ _ _ (KXL.up e1) (fun o M2 z2 H2 F2 e2 h2 => ?_) z⟩
  refine ⟨τ, M2, F2, rs.up (e1.trans e2), h2, hu.mono _ _ _ _ _ _ (KXL.up (e1.trans e2)) (fun o2 M3 z3 H3 F3 e3 h3 => ?_) z2⟩
  have z3 := mono_sl d o o2 (KL.up ((e1.trans e2).trans e3)) z3
  have r3 := r1.up (e2.trans e3)
  unfold ρSl at z3
  split at z3
  · cases r3 with
    | lst hq r => exact .inl ⟨_, _, rfl, SqL.of (h3.fr _ _ hq), fun p np => new_list h3 (r.cut o o2) z3 np⟩
  · cases r3 with
    | rd hq r => exact .inl ⟨_, _, rfl, h3.fr.seqL hq, fun p np => new_list h3 (r.cut o o2) z3 np⟩
  · cases r3 with
    | @tup a vs ds hq r =>
      refine .inr ⟨_, _, rfl, h3.fr.seqT hq, fun w => ?_, fun w p np => ?_⟩
      · rw [r.len] at w
        exact z3 _ H3 F3 (Ex.refl F3) h3 (by rw [cutD_all w]; exact .tup hq r)
      · obtain ⟨e2, h5⟩ := h3.newF (o := .tup (cutV vs o o2)) np
        exact z3 _ _ _ e2 h5 (.tup (SqT.of upd_same) ((r.cut o o2).up e2))
  · exact z3.elim
/-! ### built-ins -/
def lenD (M : MS) : D → Option Nat
  | .lst xs => some xs.length
  | .rd xs => some xs.length
  | .tup xs => some xs.length
  | .str z => some z.length
  | .ref p => match M p with
    | some (.lst xs) => some xs.length
    | _ => none
  | _ => none
def ρLen : RCD := fun ds M k => match ds with
  | [d] => match lenD M d with
    | some n => n ≤ sizeLine ∧ k (.int n) M
    | none => False
  | _ => False
theorem one_of {α : Type} {P : List α → Prop} (h : ∀ x, P [x]) : ∀ xs : List α, xs.length = 1 → P xs
  | [x], _ => h x
theorem cd_len : CallD X (.builtin "len") ρLen := by
  refine ⟨⟨_, call_len, fun vs ds H F M Q hh r q => ?_⟩, fun ds M k k' h q => ?_⟩
  · unfold ρLen at q
    split at q
    · rename_i d
      cases r with
      | @cons v _ _ _ r1 r2 =>
        cases r2
        split at q
        · rename_i n e
          refine ⟨v, n, rfl, ?_, q.2 _ H F (Ex.refl F) hh (.int _)⟩
          cases r1 with
          | lst hq r => cases e; exact .inl ⟨_, SqL.of (hh.fr _ _ hq), r.len.symm⟩
          | rd hq r => cases e; exact .inl ⟨_, hh.fr.seqL hq, r.len.symm⟩
          | tup hq r => cases e; exact .inr ⟨_, hh.fr.seqT hq, r.len.symm⟩
          | str z => cases e; exact ⟨q.1, rfl⟩
          | ref p =>
            unfold lenD at e
            simp only at e
            split at e
            · rename_i xs hm
              cases e
              obtain ⟨_, o, ho, rm⟩ := hh.mu _ _ hm
              cases rm with
              | lst r => exact .inl ⟨_, SqL.of ho, r.len.symm⟩
            · cases e
          | _ => cases e
        · exact q.elim
    · exact q.elim
  · match ds, q with
    | [d], q =>
      simp only [ρLen] at q ⊢
      cases e : lenD M d with
      | none => simp only [e] at q
      | some n => simp only [e] at q ⊢; exact ⟨q.1, h _ _ q.2⟩
    | [], q => exact q.elim
    | _ :: _ :: _, q => exact q.elim
/-- list(xs), tuple(xs) -/
def ρList : RCD := fun ds M k => match ds with
  | [.lst xs] => k (.lst xs) M ∨ ∀ p, M p = none → k (.ref p) (updM M p (.lst xs))
  | [.rd xs] => k (.lst xs) M ∨ ∀ p, M p = none → k (.ref p) (updM M p (.lst xs))
  | [.tup xs] => k (.lst xs) M ∨ ∀ p, M p = none → k (.ref p) (updM M p (.lst xs))
  | _ => False
theorem cd_list : CallD X (.type "list") ρList := by
  refine ⟨⟨_, call_list_of, fun vs ds H F M Q hh r q => ?_⟩, fun ds M k k' h q => ?_⟩
  · unfold ρList at q
    split at q
    · cases r with
      | cons r1 r2 =>
        cases r2
        cases r1 with
        | lst hq r => exact ⟨_, _, rfl, .inl (SqL.of (hh.fr _ _ hq)), fun p np => new_list hh r q np⟩
    · cases r with
      | cons r1 r2 =>
        cases r2
        cases r1 with
        | rd hq r => exact ⟨_, _, rfl, .inl (hh.fr.seqL hq), fun p np => new_list hh r q np⟩
    · cases r with
      | cons r1 r2 =>
        cases r2
        cases r1 with
        | tup hq r => exact ⟨_, _, rfl, .inr (hh.fr.seqT hq), fun p np => new_list hh r q np⟩
    · exact q.elim
  · unfold ρList at q ⊢
    split at q <;> first | exact or_le h q | exact q.elim
def ρTuple : RCD := fun ds M k => match ds with
  | [.lst xs] => k (.tup xs) M
  | [.rd xs] => k (.tup xs) M
  | [.tup xs] => k (.tup xs) M
  | [.ref p] => match M p with
    | some (.lst xs) => k (.tup xs) M
    | _ => False
  | _ => False
theorem cd_tuple : CallD X (.type "tuple") ρTuple := by
  refine ⟨⟨_, call_tuple_of, fun vs ds H F M Q hh r q => ?_⟩, fun ds M k k' h q => ?_⟩
  · have new : ∀ {ys : List V} {es : List D} {p : Addr}, Reps X.K F ys es → KL X.K F Q (.tup es) M → H p = none → Q (.ref p) (upd H p (.tup ys)) := fun {ys es p} r q np => by
      obtain ⟨e2, h5⟩ := hh.newF (o := .tup ys) np
      exact q _ _ _ e2 h5 (.tup (SqT.of upd_same) (r.up e2))
    unfold ρTuple at q
    split at q
    · cases r with
      | cons r1 r2 =>
        cases r2
        cases r1 with
        | lst hq r => exact ⟨_, _, rfl, .inl ⟨SqL.of (hh.fr _ _ hq), fun p np => new r q np⟩⟩
    · cases r with
      | cons r1 r2 =>
        cases r2
        cases r1 with
        | rd hq r => exact ⟨_, _, rfl, .inl ⟨hh.fr.seqL hq, fun p np => new r q np⟩⟩
    · cases r with
      | cons r1 r2 =>
        cases r2
        cases r1 with
        | tup hq r => exact ⟨_, _, rfl, .inr ⟨hh.fr.seqT hq, q _ H F (Ex.refl F) hh (.tup hq r)⟩⟩
    · cases r with
      | cons r1 r2 =>
        cases r2
        split at q
        · rename_i xs hm
          cases r1
          obtain ⟨_, o, ho, rm⟩ := hh.mu _ _ hm
          cases rm with
          | lst r => exact ⟨_, _, rfl, .inl ⟨SqL.of ho, fun p np => new r q np⟩⟩
        · exact q.elim
    · exact q.elim
  · unfold ρTuple at q ⊢
    split at q <;> first | exact h _ _ q | exact q.elim | skip
    split at q <;> first | exact h _ _ q | exact q.elim
/-- all(xs), any(xs) of truth values -/
def ρAll : RCD := fun ds M k => match ds with
  | [.lst xs] => ∃ bs : List Bool, xs = bs.map D.bl ∧ k (.bl (bs.all id)) M
  | _ => False
def ρAny : RCD := fun ds M k => match ds with
  | [.lst xs] => ∃ bs : List Bool, xs = bs.map D.bl ∧ k (.bl (bs.any id)) M
  | _ => False
theorem reps_bl {K : PySem.W.Frag} {F : Hp} : ∀ {bs : List Bool} {vs : List V}, Reps K F vs (bs.map D.bl) → vs = bs.map V.bl
  | [], _, r => by cases r; rfl
  | b :: bs, _, r => by
    cases r with
    | cons r1 r2 => cases r1; rw [reps_bl r2]; rfl
theorem reps_int {K : PySem.W.Frag} {F : Hp} : ∀ {bs : List Int} {vs : List V}, Reps K F vs (bs.map D.int) → vs = bs.map V.int
  | [], _, r => by cases r; rfl
  | b :: bs, _, r => by
    cases r with
    | cons r1 r2 => cases r1; rw [reps_int r2]; rfl
theorem cd_all (hc : X.calm = true) : CallD X (.builtin "all") ρAll := by
  refine ⟨⟨_, cr_all hc, fun vs ds H F M Q hh r q => ?_⟩, fun ds M k k' h q => ?_⟩
  · unfold ρAll at q
    split at q
    · obtain ⟨bs, rfl, q⟩ := q
      cases r with
      | cons r1 r2 =>
        cases r2
        cases r1 with
        | lst hq r => exact ⟨_, bs, rfl, by rw [← reps_bl r]; exact SqL.of (hh.fr _ _ hq), q _ H F (Ex.refl F) hh (.bl _)⟩
    · exact q.elim
  · unfold ρAll at q ⊢
    split at q
    · obtain ⟨bs, e, q⟩ := q; exact ⟨bs, e, h _ _ q⟩
    · exact q.elim
theorem cd_any (hc : X.calm = true) : CallD X (.builtin "any") ρAny := by
  refine ⟨⟨_, cr_any hc, fun vs ds H F M Q hh r q => ?_⟩, fun ds M k k' h q => ?_⟩
  · unfold ρAny at q
    split at q
    · obtain ⟨bs, rfl, q⟩ := q
      cases r with
      | cons r1 r2 =>
        cases r2
        cases r1 with
        | lst hq r => exact ⟨_, bs, rfl, by rw [← reps_bl r]; exact SqL.of (hh.fr _ _ hq), q _ H F (Ex.refl F) hh (.bl _)⟩
    · exact q.elim
  · unfold ρAny at q ⊢
    split at q
    · obtain ⟨bs, e, q⟩ := q; exact ⟨bs, e, h _ _ q⟩
    · exact q.elim
/-- isinstance -/
def tyD (M : MS) : D → Option String
  | .non => some "NoneType" | .bl _ => some "bool" | .int _ => some "int" | .str _ => some "str"
  | .lst _ => some "list" | .tup _ => some "tuple"
  | .ref p => match M p with
    | some (.lst _) => some "list"
    | _ => none
  | _ => none
def ρIsi : RCD := fun ds M k => match ds with
  | [d, .ty n] => match tyD M d with
    | some t => ∃ b, kitB t n = some b ∧ k (.bl b) M
    | none => False
  | _ => False
theorem tyX_tup {K : PySem.W.Frag} {H : Hp} {a : Addr} {xs : List V} (h : SqT K H a xs) : TyX K H (.ref a) (.type "tuple") := by
  rcases h with (h | ⟨o, h⟩) | ⟨o, its, n, h1, h2, _⟩
  · exact .base (.tup h)
  · exact .fTuple h
  · exact .kTuple h1 h2
theorem tyD_of {K : PySem.W.Frag} {F H : Hp} {M : MS} (hh : Holds K F M H) {v : V} {d : D} (r : Rep K F v d) {t : String} (e : tyD M d = some t) : TyX K H v (.type t) := by
  cases r with
  | non => cases e; exact .base .non
  | bl b => cases e; exact .base (.bl b)
  | int b => cases e; exact .base (.int b)
  | str b => cases e; exact .base (.str b)
  | lst hq r => cases e; exact .base (.lst (hh.fr _ _ hq))
  | tup hq r => cases e; exact tyX_tup (hh.fr.seqT hq)
  | ref p =>
    unfold tyD at e
    simp only at e
    split at e
    · rename_i xs hm
      cases e
      obtain ⟨_, o, ho, rm⟩ := hh.mu _ _ hm
      cases rm with
      | lst r => exact .base (.lst ho)
    · cases e
  | _ => cases e
theorem cd_isi : CallD X (.builtin "isinstance") ρIsi := by
  refine ⟨⟨_, call_isi, fun vs ds H F M Q hh r q => ?_⟩, fun ds M k k' h q => ?_⟩
  · unfold ρIsi at q
    split at q
    · split at q
      · rename_i t e
        obtain ⟨b, hb, q⟩ := q
        cases r with
        | cons r1 r2 =>
          cases r2 with
          | cons r3 r4 =>
            cases r4
            cases r3
            exact ⟨_, _, _, _, b, rfl, .ty _, tyD_of hh r1 e, kit_ty hb, q _ H F (Ex.refl F) hh (.bl b)⟩
      · exact q.elim
    · exact q.elim
  · unfold ρIsi at q ⊢
    split at q
    · rename_i d n
      cases e : tyD M d with
      | none => simp only [e] at q
      | some t => simp only [e] at q ⊢; obtain ⟨b, hb, q⟩ := q; exact ⟨b, hb, h _ _ q⟩
    · exact q.elim
end
end DL

set_option maxHeartbeats 4000000
namespace DL
open PySem PySem.Spec PyProof.Rows L2
section
variable {X : Cx} {W : WXL} {a b e e2 : Expr} {es : List Expr} {pos p : Pos} {ca cb cc : DE} {ct cu : DT} {cas ci : DA} {tg : Expr}
/-! ### ranges, pairs -/
def rangeD (lo : Int) (n : Nat) : List D := (List.range n).map fun (i : Nat) => D.int (lo + (i : Int))
theorem itd_range {K : PySem.W.Frag} {F : Hp} {lo : Int} {n : Nat} : ItD K (Itr lo n) F (rangeD lo n) where
  go := fun i d F' M H e h hd => by
    unfold rangeD at hd
    rw [List.getElem?_map] at hd
    by_cases hi : i < n
    · exact hi
    · rw [List.getElem?_eq_none_iff.mpr (by simpa using hi)] at hd; cases hd
  yl := fun i d F' M H x H' e h hd y => by
    obtain ⟨e1, y⟩ := y
    subst e1 y
    unfold rangeD at hd
    rw [List.getElem?_map] at hd
    by_cases hi : i < n
    · rw [List.getElem?_range hi] at hd
      cases hd
      exact ⟨F', Ex.refl F', h, .int _⟩
    · rw [List.getElem?_eq_none_iff.mpr (by simpa using hi)] at hd; cases hd
  st := fun i F' M H e h hi => by
    unfold rangeD at hi
    rw [List.length_map, List.length_range] at hi
    exact hi
def ciR1 (cas : DA) : DA := fun E τ M k => cas E τ M (fun ds M1 => match ds with
  | [.int j] => -(2 ^ 62) ≤ j ∧ j < 2 ^ 62 ∧ k (rangeD 0 j.toNat) M1
  | _ => False)
def ciR2 (cas : DA) : DA := fun E τ M k => cas E τ M (fun ds M1 => match ds with
  | [.int i, .int j] => (-(2 ^ 62) ≤ i ∧ i < 2 ^ 62 ∧ -(2 ^ 62) ≤ j ∧ j < 2 ^ 62) ∧ k (rangeD i (j - i).toNat) M1
  | _ => False)
theorem pid_range1 (hg : Gl X "range") (hm : X.mg "range" = none) (ha : PAd X W [a] cas) (hs : starEach [a] X.env = [(false, eval a X.env)] := by rfl) : PId X W tg (.Call (.Name "range" p) [a] [] pos) (ciR1 cas) := by
  refine ⟨PI.weak (pi_range1 hg hm ha.run hs) ?_, fun _ _ _ _ _ _ hE hk q => ha.mono.go hE (fun ds M z => ?_) q⟩
  · rintro σ H R ⟨τ, M, F, rs, hh, q⟩
    refine ⟨τ, M, F, rs, hh, ha.mono.go DX.rfl (fun ds M1 z vs H1 F1 e1 h1 r1 => ?_) q⟩
    split at z
    · cases r1 with
      | cons r1 r2 =>
        cases r2; cases r1
        exact ⟨_, rfl, z.1, z.2.1, z.2.2 _ H1 F1 e1 h1 itd_range⟩
    · exact z.elim
  · split at z
    · exact ⟨z.1, z.2.1, hk _ _ z.2.2⟩
    · exact z.elim
theorem pid_range2 (hg : Gl X "range") (hm : X.mg "range" = none) (ha : PAd X W [a, b] cas) (hs : starEach [a, b] X.env = [(false, eval a X.env), (false, eval b X.env)] := by rfl) (hs2 : starEach [b] X.env = [(false, eval b X.env)] := by rfl) : PId X W tg (.Call (.Name "range" p) [a, b] [] pos) (ciR2 cas) := by
  refine ⟨PI.weak (pi_range2 hg hm ha.run hs hs2) ?_, fun _ _ _ _ _ _ hE hk q => ha.mono.go hE (fun ds M z => ?_) q⟩
  · rintro σ H R ⟨τ, M, F, rs, hh, q⟩
    refine ⟨τ, M, F, rs, hh, ha.mono.go DX.rfl (fun ds M1 z vs H1 F1 e1 h1 r1 => ?_) q⟩
    split at z
    · cases r1 with
      | cons r1 r2 =>
        cases r2 with
        | cons r2 r3 =>
          cases r3; cases r1; cases r2
          exact ⟨_, _, rfl, z.1, z.2 _ H1 F1 e1 h1 itd_range⟩
    · exact z.elim
  · split at z
    · exact ⟨z.1, hk _ _ z.2⟩
    · exact z.elim
def pairsD (xs ys : List D) : List D := List.zipWith (fun x y => D.tup [x, y]) xs ys
theorem pairs_get {xs ys : List D} {i : Nat} {d : D} (h : (pairsD xs ys)[i]? = some d) : ∃ x y, xs[i]? = some x ∧ ys[i]? = some y ∧ d = .tup [x, y] := by
  unfold pairsD at h
  rw [List.getElem?_zipWith] at h
  cases e1 : xs[i]? with
  | none => rw [e1] at h; cases ys[i]? <;> cases h
  | some x =>
    cases e2 : ys[i]? with
    | none => rw [e1, e2] at h; cases h
    | some y => rw [e1, e2] at h; cases h; exact ⟨x, y, rfl, rfl, rfl⟩
theorem pair_new {K : PySem.W.Frag} {F F' : Hp} {M : MS} {H : Hp} {T : Addr} {x y : V} {dx dy : D} (e : Ex F F') (h : Holds K F' M H) (nT : H T = none) (rx : Rep K F x dx) (ry : Rep K F y dy) : ∃ F'', Ex F' F'' ∧ Holds K F'' M (upd H T (.tup [x, y])) ∧ Rep K F'' (.ref T) (.tup [dx, dy]) := by
  obtain ⟨e2, h2⟩ := h.newF (o := .tup [x, y]) nT
  exact ⟨_, e2, h2, .tup (SqT.of upd_same) (.cons (rx.up (e.trans e2)) (.cons (ry.up (e.trans e2)) .nil))⟩
theorem itd_zipL {K : PySem.W.Frag} {F : Hp} {p q : Addr} {vs ws : List V} {ds es : List D} (hp : SqL K F p vs) (hq : SqL K F q ws) (r : Reps K F vs ds) (r' : Reps K F ws es) : ItD K (Itz K p q) F (pairsD ds es) where
  go := fun i d F' M H e h hd => by
    obtain ⟨x, y, h1, h2, rfl⟩ := pairs_get hd
    obtain ⟨v, hv, _⟩ := r.get h1
    obtain ⟨w, hw, _⟩ := r'.get h2
    exact ⟨vs, ws, v, w, h.fr.seqL (e.seqL hp), h.fr.seqL (e.seqL hq), hv, hw⟩
  yl := fun i d F' M H x H' e h hd y => by
    obtain ⟨dx, dy, h1, h2, rfl⟩ := pairs_get hd
    obtain ⟨v, hv, rv⟩ := r.get h1
    obtain ⟨w, hw, rw'⟩ := r'.get h2
    obtain ⟨T, x1, x2, rfl, nT, rfl, f1, f2⟩ := y
    have e1 := f1 vs (h.fr.seqL (e.seqL hp))
    have e2 := f2 ws (h.fr.seqL (e.seqL hq))
    rw [hv] at e1; rw [hw] at e2
    cases e1; cases e2
    exact pair_new e h nT rv rw'
  st := fun i F' M H e h hi => ⟨vs, ws, h.fr.seqL (e.seqL hp), h.fr.seqL (e.seqL hq), by
    unfold pairsD at hi
    rw [List.length_zipWith] at hi
    rw [r.len, r'.len]
    omega⟩
theorem itd_zipT {K : PySem.W.Frag} {F : Hp} {p q : Addr} {vs ws : List V} {ds es : List D} (hp : SqT K F p vs) (hq : SqT K F q ws) (r : Reps K F vs ds) (r' : Reps K F ws es) : ItD K (RZ.ItzT K p q) F (pairsD ds es) where
  go := fun i d F' M H e h hd => by
    obtain ⟨x, y, h1, h2, rfl⟩ := pairs_get hd
    obtain ⟨v, hv, _⟩ := r.get h1
    obtain ⟨w, hw, _⟩ := r'.get h2
    exact ⟨vs, ws, v, w, h.fr.seqT (e.seqT hp), h.fr.seqT (e.seqT hq), hv, hw⟩
  yl := fun i d F' M H x H' e h hd y => by
    obtain ⟨dx, dy, h1, h2, rfl⟩ := pairs_get hd
    obtain ⟨v, hv, rv⟩ := r.get h1
    obtain ⟨w, hw, rw'⟩ := r'.get h2
    obtain ⟨T, x1, x2, rfl, nT, rfl, f1, f2⟩ := y
    have e1 := f1 vs (h.fr.seqT (e.seqT hp))
    have e2 := f2 ws (h.fr.seqT (e.seqT hq))
    rw [hv] at e1; rw [hw] at e2
    cases e1; cases e2
    exact pair_new e h nT rv rw'
  st := fun i F' M H e h hi => ⟨vs, ws, h.fr.seqT (e.seqT hp), h.fr.seqT (e.seqT hq), by
    unfold pairsD at hi
    rw [List.length_zipWith] at hi
    rw [r.len, r'.len]
    omega⟩
/-- zip(xs, ys): two lists, or two tuples -/
def ciZip (cas : DA) : DA := fun E τ M k => cas E τ M (fun ds M1 => match ds with
  | [.lst xs, .lst ys] => k (pairsD xs ys) M1
  | [.tup xs, .tup ys] => k (pairsD xs ys) M1
  | _ => False)
theorem pid_zip {elts : List Expr} {kk : Nat} {tpos : Pos} (hg : Gl X "zip") (hm : X.mg "zip" = none) (ha : PAd X W [e, e2] cas)
    (hs : starEach [e, e2] X.env = (false, eval e X.env) :: starEach [e2] X.env := by rfl) (hpl : (backTo pos (starEach [e2] X.env)).any (·.1) = false := by rfl) : PId X W (.Tuple elts kk tpos) (.Call (.Name "zip" p) [e, e2] [] pos) (ciZip cas) := by
  refine ⟨PI.weak (RZ.pi_zipA hg hm ha.run hs hpl) ?_, fun _ _ _ _ _ _ hE hk q => ha.mono.go hE (fun ds M z => ?_) q⟩
  · rintro σ H R ⟨τ, M, F, rs, hh, q⟩
    refine ⟨τ, M, F, rs, hh, ha.mono.go DX.rfl (fun ds M1 z vs H1 F1 e1 h1 r1 => ?_) q⟩
    split at z
    · cases r1 with
      | cons r1 r2 =>
        cases r2 with
        | cons r2 r3 =>
          cases r3
          cases r1 with
          | lst ha ra =>
            cases r2 with
            | lst hb rb => exact ⟨_, _, _, _, rfl, .inl ⟨SqL.of (h1.fr _ _ ha), SqL.of (h1.fr _ _ hb), z _ H1 F1 e1 h1 (itd_zipL (SqL.of ha) (SqL.of hb) ra rb)⟩⟩
    · cases r1 with
      | cons r1 r2 =>
        cases r2 with
        | cons r2 r3 =>
          cases r3
          cases r1 with
          | tup ha ra =>
            cases r2 with
            | tup hb rb => exact ⟨_, _, _, _, rfl, .inr ⟨h1.fr.seqT ha, h1.fr.seqT hb, z _ H1 F1 e1 h1 (itd_zipT ha hb ra rb)⟩⟩
    · exact z.elim
  · split at z <;> first | exact hk _ _ z | exact z.elim
/-! ### methods of built-in types -/
structure MtD (X : Cx) (T id : String) (ok : D → MS → Prop) (ρ : D → List D → MS → KD → Prop) : Prop where
  run : ∃ r, MtR X id r ∧ ∀ x xs dx ds H F M Q, Holds X.K F M H → Rep X.K F x dx → Reps X.K F xs ds → ρ dx ds M (KL X.K F Q) → r x xs H Q
  ty : ∀ x dx H F M, Holds X.K F M H → Rep X.K F x dx → ok dx M → tyV X.K T x H
  mono : ∀ dx ds M (k k' : KD), KD.le k k' → ρ dx ds M k → ρ dx ds M k'
def cMeth (ok : D → MS → Prop) (ρ : D → List D → MS → KD → Prop) (co : DE) (cas : DA) : DE := fun E σ M k => co E σ M (fun d M1 => ok d M1 ∧ cas E σ M1 (fun ds M2 => ρ d ds M2 k))
def cMeth0 (ok : D → MS → Prop) (ρ : D → List D → MS → KD → Prop) (co : DE) : DE := fun E σ M k => co E σ M (fun d M1 => ok d M1 ∧ ρ d [] M1 k)
theorem pd_bm {T id : String} {name : Str} {ok : D → MS → Prop} {ρ : D → List D → MS → KD → Prop} {o : Expr} {apos cpos : Pos} (pa : PlainAttrs T) (slot : Slot T name id) (hty : typeOf (.builtin id) = pure (.type "method_descriptor")) (hm : MtD X T id ok ρ) (ho : PEd X W o ca) (ha : PAd X W (e :: es) cas)
    (hbase : attributeBase o name X.env (eval o X.env) = eval o X.env := by rfl)
    (hfew : ((backTo cpos (starEach (e :: es) X.env)).all (fun x => !x.1) && (backToKw cpos (keywordEach [] X.env)).all (fun x => x.1.isSome)
      && decide ((e :: es).length + ([] : List Keyword).length + (if ([] : List Keyword).isEmpty then 0 else 1) < 30)) = true := by rfl)
    (hline : (apos.endLine == cpos.line) = true := by rfl) (hs : starEach (e :: es) X.env = (false, eval e X.env) :: starEach es X.env := by rfl) (hplain : (backTo cpos (starEach es X.env)).any (·.1) = false := by rfl) :
    PEd X W (.Call (.Attribute o name apos) (e :: es) [] cpos) (cMeth ok ρ ca cas) := by
  obtain ⟨r, hr, hq⟩ := hm.run
  refine ⟨PE.weak (L2.pe_bm pa slot hty hr ho.run ha.run hbase hfew hline hs hplain) ?_, fun _ _ _ _ _ _ hE hk q => ho.mono.go hE (fun d M z => ⟨z.1, ha.mono.go hE (fun ds M2 z2 => hm.mono _ _ _ _ _ hk z2) z.2⟩) q⟩
  rintro σ H Q ⟨τ, M, F, rs, hh, q⟩
  refine ⟨τ, M, F, rs, hh, ho.mono.go DX.rfl (fun d M1 z v H1 F1 e1 h1 r1 => ?_) q⟩
  refine ⟨hm.ty _ _ _ _ _ h1 r1 z.1, τ, M1, F1, rs.up e1, h1, ha.mono.go (KXL.up e1) (fun ds M2 z2 vs H2 F2 e2 h2 r2 => ?_) z.2⟩
  exact hq _ _ d ds H2 F2 M2 Q h2 (r1.up e2) r2 (hm.mono _ _ _ _ _ (KL.up (e1.trans e2)) z2)
theorem pd_bm0 {T id : String} {name : Str} {ok : D → MS → Prop} {ρ : D → List D → MS → KD → Prop} {o : Expr} {apos cpos : Pos} (pa : PlainAttrs T) (slot : Slot T name id) (hty : typeOf (.builtin id) = pure (.type "method_descriptor")) (hm : MtD X T id ok ρ) (ho : PEd X W o ca)
    (hbase : attributeBase o name X.env (eval o X.env) = eval o X.env := by rfl) (hline : (apos.endLine == cpos.line) = true := by rfl) : PEd X W (.Call (.Attribute o name apos) [] [] cpos) (cMeth0 ok ρ ca) := by
  obtain ⟨r, hr, hq⟩ := hm.run
  refine ⟨PE.weak (L2.pe_bm0 pa slot hty hr ho.run hbase hline) ?_, fun _ _ _ _ _ _ hE hk q => ho.mono.go hE (fun d M z => ⟨z.1, hm.mono _ _ _ _ _ hk z.2⟩) q⟩
  rintro σ H Q ⟨τ, M, F, rs, hh, q⟩
  refine ⟨τ, M, F, rs, hh, ho.mono.go DX.rfl (fun d M1 z v H1 F1 e1 h1 r1 => ?_) q⟩
  exact ⟨hm.ty _ _ _ _ _ h1 r1 z.1, hq _ _ d [] H1 F1 M1 Q h1 r1 .nil (hm.mono _ _ _ _ _ (KL.up e1) z.2)⟩
/-- a list of the store -/
def okL (d : D) (M : MS) : Prop := match d with
  | .ref p => ∃ xs, M p = some (.lst xs)
  | _ => False
def okStr (d : D) (_ : MS) : Prop := match d with
  | .str _ => True
  | _ => False
theorem okL_ty {K : PySem.W.Frag} {x : V} {dx : D} {H F : Hp} {M : MS} (hh : Holds K F M H) (r : Rep K F x dx) (h : okL dx M) : tyV K "list" x H := by
  unfold okL at h
  split at h
  · cases r
    obtain ⟨xs, hm⟩ := h
    obtain ⟨_, o, ho, rm⟩ := hh.mu _ _ hm
    cases rm with
    | lst r => exact .inl ⟨rfl, _, SqL.of ho⟩
  · exact h.elim
theorem okStr_ty {K : PySem.W.Frag} {x : V} {dx : D} {H F : Hp} {M : MS} (r : Rep K F x dx) (h : okStr dx M) : tyV K "str" x H := by
  unfold okStr at h
  split at h
  · cases r; rfl
  · exact h.elim
def ρApp : D → List D → MS → KD → Prop := fun d ds M k => match d, ds with
  | .ref p, [y] => match M p with
    | some (.lst xs) => xs.length < sizeLine ∧ k .non (updM M p (.lst (xs ++ [y])))
    | _ => False
  | _, _ => False
theorem md_app : MtD X "list" "list.append" okL ρApp := by
  refine ⟨⟨_, mt_append, fun x xs dx ds H F M Q hh rx rs q => ?_⟩, fun x dx H F M hh r h => okL_ty hh r h, fun dx ds M k k' h q => ?_⟩
  · unfold ρApp at q
    split at q
    · split at q
      · rename_i ys hm
        obtain ⟨hz, q⟩ := q
        cases rx
        cases rs with
        | cons r1 r2 =>
          cases r2
          obtain ⟨_, o, ho, rm⟩ := hh.mu _ _ hm
          cases rm with
          | lst r => exact ⟨_, _, _, rfl, rfl, ho, by rw [r.len]; exact hz, q _ _ F (Ex.refl F) (hh.setM hm (.lst (r.app (.cons r1 .nil)))) .non⟩
      · exact q.elim
    · exact q.elim
  · unfold ρApp at q ⊢
    split at q
    · split at q
      · exact ⟨q.1, h _ _ q.2⟩
      · exact q.elim
    · exact q.elim
theorem pd_app {o : Expr} {apos cpos : Pos} (ho : PEd X W o ca) (he : PEd X W e cb)
    (hbase : attributeBase o "append" X.env (eval o X.env) = eval o X.env := by rfl)
    (hfew : ((backTo cpos (starEach [e] X.env)).all (fun x => !x.1) && (backToKw cpos (keywordEach [] X.env)).all (fun x => x.1.isSome)
      && decide (([e] : List Expr).length + ([] : List Keyword).length + (if ([] : List Keyword).isEmpty then 0 else 1) < 30)) = true := by rfl)
    (hline : (apos.endLine == cpos.line) = true := by rfl) (hs : starEach [e] X.env = (false, eval e X.env) :: starEach [] X.env := by rfl) (hplain : (backTo cpos (starEach [] X.env)).any (·.1) = false := by rfl) :
    PEd X W (.Call (.Attribute o "append" apos) [e] [] cpos) (cMeth okL ρApp ca (cCons cb cNil)) :=
  pd_bm PySem.F.plainAttrs_list PySem.F.slot_list_append PySem.F.type_list_append md_app ho (pad_cons he pad_nil hs) hbase hfew hline hs hplain
/-! ### o[i] = e -/
structure SetD (X : Cx) (ρ : D → D → D → MS → (MS → Prop) → Prop) : Prop where
  run : ∃ r, PSet X r ∧ ∀ o i v d1 d2 d3 H F M (Q : Hp → Prop), Holds X.K F M H → Rep X.K F o d1 → Rep X.K F i d2 → Rep X.K F v d3 → ρ d1 d2 d3 M (fun M' => ∀ H' F', Ex F F' → Holds X.K F' M' H' → Q H') → r o i v H Q
  mono : ∀ d1 d2 d3 M (k k' : MS → Prop), (∀ M, k M → k' M) → ρ d1 d2 d3 M k → ρ d1 d2 d3 M k'
def noX : DX := fun _ _ _ => False
def gSub' (co ci : DE) (ρ : D → D → D → MS → (MS → Prop) → Prop) : GD := fun d τ M k => co noX τ M (fun o M1 => ci noX τ M1 (fun i M2 => ρ o i d M2 (fun M3 => k τ M3)))
theorem pgd_sub {o i : Expr} {ρ : D → D → D → MS → (MS → Prop) → Prop} (ho : PEd X W o ca) (hi : PEd X W i cb) (hs : SetD X ρ)
    (ha : ∀ v, assign (.Subscript o i pos) X.env v = (do
      let ov ← holding [v] (eval o X.env)
      let iv ← holding [v, ov] (eval i X.env)
      standAt pos
      holding [v, ov, iv] (setItem ov iv v)
      release [v, ov, iv] []) := by intro _; rfl) : PGd X (.Subscript o i pos) (gSub' ca cb ρ) := by
  obtain ⟨r, hr, hq⟩ := hs.run
  refine ⟨PG.weak (pg_sub ho.run hi.run hr ha) ?_, fun d τ M k k' h q => ho.mono.go DX.rfl (fun _ _ z => hi.mono.go DX.rfl (fun _ _ z2 => hs.mono _ _ _ _ _ _ (fun M3 y => h _ _ y) z2) z) q⟩
  rintro v σ H Q ⟨d, τ, M, F, rv, rs, hh, q⟩
  refine ⟨τ, M, F, rs, hh, ho.mono.go (fun _ _ _ z => z.elim) (fun d1 M1 z o H1 F1 e1 h1 r1 => ?_) q⟩
  refine ⟨τ, M1, F1, rs.up e1, h1, hi.mono.go (fun _ _ _ z => z.elim) (fun d2 M2 z2 i H2 F2 e2 h2 r2 => ?_) z⟩
  exact hq o i v d1 d2 d H2 F2 M2 _ h2 (r1.up e2) r2 (rv.up (e1.trans e2)) (hs.mono _ _ _ _ _ _ (fun M3 y H3 F3 e3 h3 => y σ H3 F3 (e1.trans (e2.trans e3)) (rs.up (e1.trans (e2.trans e3))) h3) z2)
def ρSetL : D → D → D → MS → (MS → Prop) → Prop := fun o i v M k => match o, i with
  | .ref p, .int j => match M p with
    | some (.lst xs) => match ixN xs.length j with
      | some n => k (updM M p (.lst (xs.set n v)))
      | none => False
    | _ => False
  | _, _ => False
theorem sd_list : SetD X ρSetL := by
  refine ⟨⟨_, set_list, fun o i v d1 d2 d3 H F M Q hh r1 r2 r3 q => ?_⟩, fun d1 d2 d3 M k k' h q => ?_⟩
  · unfold ρSetL at q
    split at q
    · split at q
      · rename_i xs hm
        split at q
        · rename_i n hn
          cases r1; cases r2
          obtain ⟨_, o, ho, rm⟩ := hh.mu _ _ hm
          cases rm with
          | lst r => exact ⟨_, _, _, n, rfl, rfl, ho, by rw [r.len]; exact hn, q _ F (Ex.refl F) (hh.setM hm (.lst (r.set r3 n)))⟩
        · exact q.elim
      · exact q.elim
    · exact q.elim
  · unfold ρSetL at q ⊢
    split at q
    · split at q
      · split at q
        · exact h _ q
        · exact q.elim
      · exact q.elim
    · exact q.elim
/-! ### calls by position, however the def binds them -/
theorem pe_callR {CX : CXT} {k : Nat} {f : Addr} {sp : Sp} {E : XK} {x : Str} {t : TA} (F : FnR X.prog X.w X.K X.mg X.base CX k f sp) (hr : Room k X.A) (hg : Gl X x) (hm : X.mg x = some (.ref f)) (hk : PySem.W.keepIn X.K (.ref f) = true) (hx : Passes CX X E)
    (ha : PA X (e :: es) t) (hdb : (x == ("__debug__" : Str)) = false := by decide) (he : starEach (e :: es) X.env = (false, eval e X.env) :: starEach es X.env := by rfl) (hpl : (backTo pos (starEach es X.env)).any (·.1) = false := by rfl) :
    PE X (.Call (.Name x p) (e :: es) [] pos) (fun σ H Q => t σ H fun vs H1 => sp vs H1 Q E) := by
  refine ⟨fun pins s σ H Q I h => ?_⟩
  refine wpAny_Call_Name_kw (ld_glob I hg hm ?_ hdb)
  refine PySem.W.callWith_K (h₀ := X.base) I.ok.mod.kin hk (thn (ha.run pos pins s σ H _ I h) fun us s1 ⟨vs, H1, I1, r, q⟩ => ⟨I1.kIn, ?_⟩) he hpl
  exact wpAny_call (run_fnR F hr hx I1 r q)
theorem td_callR {K : PySem.W.Frag} {sp : SpD} (hm : MonoS sp) (ma : MonoA cas) {σ : L2.St} {H : Hp} {Q : VK} (h : TD K W (cCall (NoX sp) cas) σ H Q) : TAD K W cas σ H (fun vs H1 => SPD K sp vs H1 Q E0) := by
  obtain ⟨τ, M, F, rs, hh, hc⟩ := h
  refine ⟨τ, M, F, rs, hh, ma.go DX.rfl (fun ds M1 q => ?_) hc⟩
  intro vs H1 F1 e1 h1 r1
  exact ⟨ds, M1, F1, r1, h1, hm.go (KL.up e1) (fun _ _ _ z => z.elim) q⟩
theorem pd_callR {k : Nat} {f : Addr} {sp : SpD} {x : Str} (G : FnR X.prog X.w X.K X.mg X.base CX0 k f (SPD X.K sp)) (hms : MonoS sp) (hr : Room k X.A) (hg : Gl X x) (hm : X.mg x = some (.ref f)) (hk : PySem.W.keepIn X.K (.ref f) = true)
    (ha : PAd X W (e :: es) cas) (hdb : (x == ("__debug__" : Str)) = false := by decide) (he : starEach (e :: es) X.env = (false, eval e X.env) :: starEach es X.env := by rfl) (hpl : (backTo pos (starEach es X.env)).any (·.1) = false := by rfl) :
    PEd X W (.Call (.Name x p) (e :: es) [] pos) (cCall (NoX sp) cas) :=
  ⟨PE.weak (pe_callR G hr hg hm hk pass0 ha.run hdb he hpl) fun σ H Q h => td_callR hms ha.mono h, mono_call (monoNoX hms) ha.mono⟩
/-- *e among the arguments -/
def cStar (ce : DE) (cr : DA) : DA := fun E σ M k => ce E σ M (asSeq fun xs M1 => cr E σ M1 (fun ys M2 => k (xs ++ ys) M2))
theorem pad_star {p : Pos} (he : PEd X W e ca) (hr : PAd X W es cas) (hs : starEach (.Starred e p :: es) X.env = (true, eval e X.env) :: starEach es X.env := by rfl) : PAd X W (.Starred e p :: es) (cStar ca cas) := by
  refine ⟨PA.weak (StX.pa_star he.run hr.run hs) ?_, fun _ _ _ _ _ _ hE hk q => he.mono.go hE (asSeq_le fun _ _ z => hr.mono.go hE (fun _ _ z2 => hk _ _ z2) z) q⟩
  rintro σ H Q ⟨τ, M, F, rs, hh, q⟩
  refine ⟨τ, M, F, rs, hh, he.mono.go DX.rfl (fun d M1 z v H1 F1 e1 h1 r1 => ?_) q⟩
  have fin : ∀ {xs : List D} {us : List V}, Reps X.K F1 us xs → cas (KXL X.K F (atW W σ)) τ M1 (fun ys M2 => KAL X.K F Q (xs ++ ys) M2) → TAD X.K W cas σ H1 (fun ys H2 => Q (us ++ ys) H2) := fun {xs us} r w => by
    refine ⟨τ, M1, F1, rs.up e1, h1, hr.mono.go (KXL.up e1) (fun ds M2 y vs H2 F2 e2 h2 r2 => ?_) w⟩
    exact y _ H2 F2 (e1.trans e2) h2 ((r.up e2).app r2)
  cases r1 <;> first | exact z.elim | skip
  · rename_i hq r; exact ⟨_, _, rfl, .inl (h1.fr.seqT hq), fin r z⟩
  · rename_i hq r; exact ⟨_, _, rfl, .inr (SqL.of (h1.fr _ _ hq)), fin r z⟩
  · rename_i hq r; exact ⟨_, _, rfl, .inr (h1.fr.seqL hq), fin r z⟩
theorem pd_callS2 {k : Nat} {f : Addr} {sp : SpD} {x : Str} (G : FnR X.prog X.w X.K X.mg X.base CX0 k f (SPD X.K sp)) (hms : MonoS sp) (hr : Room k X.A) (hg : Gl X x) (hm : X.mg x = some (.ref f)) (hk : PySem.W.keepIn X.K (.ref f) = true)
    (ha : PAd X W (e :: es) cas) (hdb : (x == ("__debug__" : Str)) = false := by decide) (he : starEach (e :: es) X.env = (false, eval e X.env) :: starEach es X.env := by rfl) (hst : (backTo pos (starEach es X.env)).any (·.1) = true := by rfl) :
    PEd X W (.Call (.Name x p) (e :: es) [] pos) (cCall (NoX sp) cas) :=
  ⟨PE.weak (StX.pe_callS2 G hr hk hg hm pass0 ha.run hdb he hst) fun σ H Q h => td_callR hms ha.mono h, mono_call (monoNoX hms) ha.mono⟩
end
section
variable {P : Program} {w : World} {K : PySem.W.Frag} {mg : Str → Option Value} {base : Heap}
theorem okR {f : Addr} {fd : FuncData} {k : Nat} {ps : List Str} {sp : SpD} (G : FnOk P w K mg base CX0 k f fd ps (SPD K sp)) (hb : Binds K fd ps []) : FnR P w K mg base CX0 k f (SPD K sp) :=
  FnR.imp (G.raw hb .nil) fun vs H Q E h => by rw [List.append_nil]; exact h
def spStar (n : Nat) (sp : SpD) : SpD := fun ds M k E => ∃ ws rest, ds = ws ++ rest ∧ ws.length = n ∧ rest.length ≤ sizeLine ∧ sp (ws ++ [.tup rest]) M k E
theorem mono_star {n : Nat} {sp : SpD} (hm : MonoS sp) : MonoS (spStar n sp) := fun _ _ _ _ _ _ h h2 ⟨ws, rest, e, l, z, q⟩ => ⟨ws, rest, e, l, z, hm.go h h2 q⟩
theorem Reps.split {F : Hp} : ∀ {ws rest : List D} {vs : List V}, Reps K F vs (ws ++ rest) → ∃ v1 v2, vs = v1 ++ v2 ∧ Reps K F v1 ws ∧ Reps K F v2 rest
  | [], _, vs, r => ⟨[], vs, rfl, .nil, r⟩
  | w :: ws, rest, _, .cons r t => by
    obtain ⟨v1, v2, e, h1, h2⟩ := Reps.split t
    exact ⟨_ :: v1, v2, by rw [e]; rfl, .cons r h1, h2⟩
/-- a def with a star parameter behind its ps -/
theorem Fun.okS {x qual pv : Str} {st : Stmt} {f : Addr} {fd : FuncData} {N ps : List Str} {k : Nat} {sp : SpD} {c : CS} (F : L2.Fun K x qual st f fd) (S : FnScope N (ps ++ [pv]) (defScope st))
    (hb : ∀ (kV doc pm : Value) (an : Option Addr) (cdv ct : Value) (us rest : List Value), us.length = ps.length → bindArgs (PySem.W.fnOf x qual (defArgs st) (defBody st) (defScope st) .none kV doc pm an cdv ct) ⟨us ++ rest, []⟩ = (newTuple rest >>= fun t => pure (ps.zip us ++ [(pv, t)])))
    (der : ∀ (cdv : Value) (A : Around) (outer : List Env) (s : Shared) (H : Hp) (E : XK), Room k (A.deeper (envOfC qual (defScope st) s.heap.objs.size f cdv)) → PSsd (cxOf CX0 P w K mg base N qual (defScope st) f cdv A outer s H E).nox W0 (defBody st) c)
    (main : ∀ ds M k, sp ds M k (fun _ _ _ => False) → c { nx := fun _ M' => k .non M', rt := k } (startD N.length ds) M) (hm : MonoS sp) : FnR P w K mg base CX0 (k + 1) f (SPD K (spStar ps.length (NoX sp))) := by
  obtain ⟨oc, od, kV, doc, pm, an, cdv, ct, osl, rfl, lk, hcd⟩ := F.ex
  refine FnR.imp (StX.fn_star (sp := SPD K (NoX sp)) lk hcd S StX.cxUp_none (fun us rest hl => hb kV doc pm an cdv ct us rest hl) fun A outer s H vs Q E hr h => ?_) fun vs H Q E h => ?_
  · obtain ⟨ds, M, G, r, hh, q⟩ := h
    have d := der cdv A outer s H E hr
    refine ⟨_, (d.run G).nox, startD N.length ds, M, G, Ex.refl G, repSt_start r, hh, d.mono.go (E := { nx := fun _ M' => KL K G Q .non M', rt := KL K G Q }) ?_ (main ds M _ q)⟩
    exact ⟨fun τ M' z σ' H' F' e' rs' h' => z .non H' F' e' h' .non, fun _ _ z => z, fun _ _ z => z.elim, fun _ _ z => z.elim, fun _ _ _ _ z => z.elim⟩
  · obtain ⟨ds, M, G, r, hh, ws, rest, e, hl, hz, q⟩ := h
    subst e
    obtain ⟨v1, v2, e, r1, r2⟩ := Reps.split r
    subst e
    refine ⟨v1, v2, rfl, by rw [r1.len]; exact hl, by rw [r2.len]; exact hz, fun p np => ?_⟩
    obtain ⟨e2, h5⟩ := hh.newF (o := .tup v2) np
    exact ⟨_, M, _, (r1.up e2).app (.cons (.tup (SqT.of upd_same) (r2.up e2)) .nil), h5, hm.go (KL.up e2) DX.rfl q⟩
end
end DL

set_option maxHeartbeats 4000000
namespace DL
open PySem PySem.Spec PyProof.Rows L2
/-- the name x of the module is a def that keeps sp, by at most k levels -/
structure Has (P : Program) (w : World) (K : PySem.W.Frag) (mg : Str → Option Value) (base : Heap) (k : Nat) (x : Str) (sp : SpD) : Prop where
  ex : ∃ f, mg x = some (.ref f) ∧ PySem.W.keepIn K (.ref f) = true ∧ FnR P w K mg base CX0 k f (SPD K sp)
  mono : MonoS sp
section
variable {P : Program} {w : World} {K : PySem.W.Frag} {mg : Str → Option Value} {base : Heap}
theorem Has.imp {k : Nat} {x : Str} {sp sp' : SpD} (h : Has P w K mg base k x sp) (w' : ∀ ds M q E, sp' ds M q E → sp ds M q E) (m : MonoS sp') : Has P w K mg base k x sp' := by
  obtain ⟨f, h1, h2, h3⟩ := h.ex
  exact ⟨⟨f, h1, h2, h3.imp fun vs H Q E ⟨ds, M, F, r, hh, q⟩ => ⟨ds, M, F, r, hh, w' _ _ _ _ q⟩⟩, m⟩
theorem Has.up {j k : Nat} {x : Str} {sp : SpD} (h : Has P w K mg base j x sp) (l : j ≤ k) : Has P w K mg base k x sp := by
  obtain ⟨f, h1, h2, h3⟩ := h.ex
  exact ⟨⟨f, h1, h2, h3.mono l⟩, h.mono⟩
theorem Has.mk' {x : Str} {st : Stmt} {f : Addr} {fd : FuncData} {N ps : List Str} {k : Nat} {sp : SpD} {c : CS} (gm : mg x = some (.ref f)) (F : L2.Fun K x x st f fd) (b : Binds K fd ps []) (S : FnScope N ps (defScope st)) (len : ∀ ds M k E, sp ds M k E → ds.length = ps.length)
    (der : ∀ (cdv : Value) (A : Around) (outer : List Env) (s : Shared) (H : Hp) (E : XK), Room k (A.deeper (envOfC x (defScope st) s.heap.objs.size f cdv)) → PSsd (cxOf CX0 P w K mg base N x (defScope st) f cdv A outer s H E).nox W0 (defBody st) c)
    (main : ∀ ds M k, sp ds M k (fun _ _ _ => False) → c { nx := fun _ M' => k .non M', rt := k } (startD N.length ds) M) (hm : MonoS sp) : Has P w K mg base (k + 1) x (NoX sp) :=
  ⟨⟨f, gm, F.kp, okR (Fun.okD F S len der main hm) b⟩, monoNoX hm⟩
theorem Has.star {x pv : Str} {st : Stmt} {f : Addr} {fd : FuncData} {N ps : List Str} {k : Nat} {sp : SpD} {c : CS} (gm : mg x = some (.ref f)) (F : L2.Fun K x x st f fd) (S : FnScope N (ps ++ [pv]) (defScope st))
    (hb : ∀ (kV doc pm : Value) (an : Option Addr) (cdv ct : Value) (us rest : List Value), us.length = ps.length → bindArgs (PySem.W.fnOf x x (defArgs st) (defBody st) (defScope st) .none kV doc pm an cdv ct) ⟨us ++ rest, []⟩ = (newTuple rest >>= fun t => pure (ps.zip us ++ [(pv, t)])))
    (der : ∀ (cdv : Value) (A : Around) (outer : List Env) (s : Shared) (H : Hp) (E : XK), Room k (A.deeper (envOfC x (defScope st) s.heap.objs.size f cdv)) → PSsd (cxOf CX0 P w K mg base N x (defScope st) f cdv A outer s H E).nox W0 (defBody st) c)
    (main : ∀ ds M k, sp ds M k (fun _ _ _ => False) → c { nx := fun _ M' => k .non M', rt := k } (startD N.length ds) M) (hm : MonoS sp) : Has P w K mg base (k + 1) x (spStar ps.length (NoX sp)) :=
  ⟨⟨f, gm, F.kp, Fun.okS F S hb der main hm⟩, mono_star (monoNoX hm)⟩
end
section
variable {X : Cx} {W : WXL} {e : Expr} {es : List Expr} {pos p : Pos} {cas : DA}
theorem pd_callH {k : Nat} {sp : SpD} {x : Str} (G : Has X.prog X.w X.K X.mg X.base k x sp) (hr : Room k X.A) (ha : PAd X W (e :: es) cas) (hg : Gl X x := by rfl) (hdb : (x == ("__debug__" : Str)) = false := by decide)
    (he : starEach (e :: es) X.env = (false, eval e X.env) :: starEach es X.env := by rfl) (hpl : (backTo pos (starEach es X.env)).any (·.1) = false := by rfl) : PEd X W (.Call (.Name x p) (e :: es) [] pos) (cCall (NoX sp) cas) := by
  obtain ⟨f, h1, h2, h3⟩ := G.ex
  exact pd_callR h3 G.mono hr hg h1 h2 ha hdb he hpl
theorem pd_callHS {k : Nat} {sp : SpD} {x : Str} (G : Has X.prog X.w X.K X.mg X.base k x sp) (hr : Room k X.A) (ha : PAd X W (e :: es) cas) (hg : Gl X x := by rfl) (hdb : (x == ("__debug__" : Str)) = false := by decide)
    (he : starEach (e :: es) X.env = (false, eval e X.env) :: starEach es X.env := by rfl) (hst : (backTo pos (starEach es X.env)).any (·.1) = true := by rfl) : PEd X W (.Call (.Name x p) (e :: es) [] pos) (cCall (NoX sp) cas) := by
  obtain ⟨f, h1, h2, h3⟩ := G.ex
  exact pd_callS2 h3 G.mono hr hg h1 h2 ha hdb he hst
/-- a module's int -/
theorem pd_gint {x : Str} {i : Int} {t : Tok} (hm : X.mg x = some (.int i t)) (hg : Gl X x := by rfl) (hd : (x == ("__debug__" : Str)) = false := by decide) : PEd X W (.Name x p) (cC (.int i)) := pd_c (pe_glob (v := .int i) hg hm ⟨_, rfl⟩ hd) fun _ => .int i
/-- a built-in type as a value -/
theorem pd_ty {x : Str} {n : String} (hm : X.mg x = none) (hv : bootBuiltins x = some (.type n)) (hg : Gl X x := by rfl) (hn : x ≠ "__name__" := by decide) (hd : (x == ("__debug__" : Str)) = false := by decide) : PEd X W (.Name x p) (cC (.ty n)) := pd_c (pe_bltn (v := .ty n) hg hm hv rfl hn hd) fun _ => .ty n
end

/-! ### promises -/
/-- handed data, hand back data; the store stays -/
def spP (R : List D → D → Prop) : SpD := fun ds M k _ => ∃ d, R ds d ∧ k d M
theorem mono_P {R : List D → D → Prop} : MonoS (spP R) := fun _ _ _ _ _ _ h _ ⟨d, r, q⟩ => ⟨d, r, h _ _ q⟩

/-! ### a list's items to names -/
section
variable {X : Cx} {es : List Expr} {pos : Pos}
theorem pgd_lst {k : Nat} {n : Nat} {gs : GDs} (hc : X.calm = true) (h : PGsd X es gs) (hn : (assignEach es X.env).length = n := by rfl) (hst : (assignEach es X.env).findIdx? (·.1) = none := by rfl) : PGd X (.Tuple es k pos) (gSeqL n gs) := by
  refine ⟨PG.weak (L2.pg_lst hc h.run hn hst) ?_, fun d τ M k k' hk q => ?_⟩
  · rintro v σ H Q ⟨d, τ, M, F, r, rs, hh, q⟩
    cases r <;> first | exact q.elim | skip
    rename_i a vs ds hq r
    exact ⟨a, vs, rfl, SqL.of (hh.fr _ _ hq), by rw [r.len]; exact q.1, ds, τ, M, F, r, rs, hh, q.2⟩
  · cases d <;> first | exact q.elim | exact ⟨q.1, h.mono.go hk q.2⟩
end
/-! ### a list of the store is handed over as data -/
inductive FrzA : List D → MS → List D → MS → Prop
  | refl (ds : List D) (M : MS) : FrzA ds M ds M
  | one (pre post : List D) (p : Addr) (xs : List D) (M : MS) (h : M p = some (.lst xs)) : FrzA (pre ++ .ref p :: post) M (pre ++ .lst xs :: post) (delM M p)
def spF (sp : SpD) : SpD := fun ds M k E => ∃ ds' M', FrzA ds M ds' M' ∧ sp ds' M' k E
theorem mono_F {sp : SpD} (m : MonoS sp) : MonoS (spF sp) := fun _ _ _ _ _ _ h h2 ⟨ds', M', f, q⟩ => ⟨ds', M', f, m.go h h2 q⟩
section
variable {P : Program} {w : World} {K : PySem.W.Frag} {mg : Str → Option Value} {base : Heap}
theorem Has.frz {k : Nat} {x : Str} {sp : SpD} (h : Has P w K mg base k x sp) : Has P w K mg base k x (spF sp) := by
  obtain ⟨f, h1, h2, h3⟩ := h.ex
  refine ⟨⟨f, h1, h2, h3.imp ?_⟩, mono_F h.mono⟩
  rintro vs H Q E ⟨ds, M, F, r, hh, ds', M', fz, q⟩
  cases fz with
  | refl => exact ⟨ds, M, F, r, hh, q⟩
  | one pre post p xs M hm =>
    obtain ⟨F', e', h', r'⟩ := hh.freeze hm
    obtain ⟨v1, v2, e, r1, r2⟩ := Reps.split r
    subst e
    cases r2 with
    | cons ra rb =>
      cases ra
      exact ⟨_, _, F', (r1.up e').app (.cons r' (rb.up e')), h', h.mono.go (KL.up e') (KXL.up e') q⟩
end

/-- what is handed back may be a list of the store, that becomes data -/
def frzR (k : KD) : KD := fun d M => k d M ∨ (∃ p xs M', d = .ref p ∧ M p = some (.lst xs) ∧ (∀ a m, M' a = some m → a ≠ p ∧ M a = some m) ∧ k (.lst xs) M') ∨ ∃ M', (∀ a m, M' a = some m → M a = some m) ∧ k d M'
theorem delM_lt {M : MS} {p : Addr} : ∀ a m, delM M p a = some m → a ≠ p ∧ M a = some m := fun a m h => by
  unfold delM at h
  by_cases e : a = p
  · rw [if_pos e] at h; cases h
  · rw [if_neg e] at h; exact ⟨e, h⟩
theorem frzR_le {K : PySem.W.Frag} {F : Hp} {Q : VK} : KD.le (frzR (KL K F Q)) (KL K F Q) := fun d M q v H' F' e h r => by
  rcases q with q | ⟨p, xs, M', rfl, hm, hl, q⟩ | ⟨M', hl, q⟩
  · exact q v H' F' e h r
  · cases r
    obtain ⟨F2, e2, h2, r2⟩ := h.freeze hm
    refine q _ H' F2 (e.trans e2) (h2.less fun a m z => ?_) r2
    obtain ⟨z1, z2⟩ := hl a m z
    unfold delM; rw [if_neg z1]; exact z2
  · exact q _ H' F' e (h.less hl) r
theorem Fun.okF {P : Program} {w : World} {K : PySem.W.Frag} {mg : Str → Option Value} {base : Heap} {x qual : Str} {st : Stmt} {f : Addr} {fd : FuncData} {N ps : List Str} {k : Nat} {sp : SpD} {c : CS} (F : L2.Fun K x qual st f fd) (S : FnScope N ps (defScope st)) (len : ∀ ds M k E, sp ds M k E → ds.length = ps.length)
    (der : ∀ (cdv : Value) (A : Around) (outer : List Env) (s : Shared) (H : Hp) (E : XK), Room k (A.deeper (envOfC qual (defScope st) s.heap.objs.size f cdv)) → PSsd (cxOf CX0 P w K mg base N qual (defScope st) f cdv A outer s H E).nox W0 (defBody st) c)
    (main : ∀ ds M k, sp ds M k (fun _ _ _ => False) → c { nx := fun _ M' => k .non M', rt := frzR k } (startD N.length ds) M) (hm : MonoS sp) : FnOk P w K mg base CX0 (k + 1) f fd ps (SPD K (NoX sp)) := by
  refine F.ok S (fun vs H Q E h => ?_) (fun cdv A outer s H vs Q E hr h => ?_)
  · obtain ⟨ds, M, G, r, hh, q⟩ := h
    rw [r.len]; exact len _ _ _ _ q
  · obtain ⟨ds, M, G, r, hh, q⟩ := h
    have d := der cdv A outer s H E hr
    refine ⟨_, d.run G, startD N.length ds, M, G, Ex.refl G, repSt_start r, hh, d.mono.go (E := { nx := fun _ M' => KL K G Q .non M', rt := frzR (KL K G Q) }) ?_ (main ds M _ q)⟩
    exact ⟨fun τ M' z σ' H' F' e' rs' h' => z .non H' F' e' h' .non, frzR_le, fun _ _ z => z.elim, fun _ _ z => z.elim, fun _ _ _ _ z => z.elim⟩
theorem Has.mkF {P : Program} {w : World} {K : PySem.W.Frag} {mg : Str → Option Value} {base : Heap} {x : Str} {st : Stmt} {f : Addr} {fd : FuncData} {N ps : List Str} {k : Nat} {sp : SpD} {c : CS} (gm : mg x = some (.ref f)) (F : L2.Fun K x x st f fd) (b : Binds K fd ps []) (S : FnScope N ps (defScope st)) (len : ∀ ds M k E, sp ds M k E → ds.length = ps.length)
    (der : ∀ (cdv : Value) (A : Around) (outer : List Env) (s : Shared) (H : Hp) (E : XK), Room k (A.deeper (envOfC x (defScope st) s.heap.objs.size f cdv)) → PSsd (cxOf CX0 P w K mg base N x (defScope st) f cdv A outer s H E).nox W0 (defBody st) c)
    (main : ∀ ds M k, sp ds M k (fun _ _ _ => False) → c { nx := fun _ M' => k .non M', rt := frzR k } (startD N.length ds) M) (hm : MonoS sp) : Has P w K mg base (k + 1) x (NoX sp) :=
  ⟨⟨f, gm, F.kp, okR (Fun.okF F S len der main hm) b⟩, monoNoX hm⟩
end DL

set_option maxHeartbeats 4000000
namespace DL
open PySem PySem.Spec PyProof.Rows L2
/-! the computations run step by step, their continuations named -/
/-- a new list: data, or an object of the store -/
def listK (k : KD) (ds : List D) (M : MS) : Prop := k (.lst ds) M ∨ ∀ p, M p = none → k (.ref p) (updM M p (.lst ds))
section
variable {E : EndsD} {X : DX} {τ : StD} {M : MS} {k : KD} {kt : KT} {ka : KA} {a b c : DE} {t u : DT} {s s2 : CS} {g : GD} {ρ : RD2} {d x y : D} {ds : List D} {o : Option D} {i : Nat} {ca : DA} {sp : SpD}
-- statements
theorem z_seq : cSeq s s2 E τ M = s { nx := s2 E, rt := E.rt, bk := E.bk, ct := E.ct, ex := E.ex } τ M := rfl
theorem z_next : cNext E τ M = E.nx τ M := rfl
theorem z_brk : cBreak E τ M = E.bk τ M := rfl
theorem z_cont : cCont E τ M = E.ct τ M := rfl
def asgK (g : GD) (E : EndsD) (τ : StD) : KD := fun d M => g d τ M E.nx
theorem z_asg : cAsg a g E τ M = a (E.at τ) τ M (asgK g E τ) := rfl
theorem z_asgK : asgK g E τ d M = g d τ M E.nx := rfl
theorem z_gN {q : StD → MS → Prop} : gN i d τ M q = q (τ.set i (some d)) M := rfl
theorem z_gSeq {n : Nat} {gs : GDs} {q : StD → MS → Prop} : gSeq n gs (.tup ds) τ M q = (ds.length = n ∧ gs ds τ M q) := rfl
theorem z_gSeqL {n : Nat} {gs : GDs} {q : StD → MS → Prop} : gSeqL n gs (.lst ds) τ M q = (ds.length = n ∧ gs ds τ M q) := rfl
def gconsK (gs : GDs) (r : List D) (q : StD → MS → Prop) : StD → MS → Prop := fun τ M => gs r τ M q
theorem z_gcons {gs : GDs} {q : StD → MS → Prop} : gCons' g gs (d :: ds) τ M q = g d τ M (gconsK gs ds q) := rfl
theorem z_gconsK {gs : GDs} {q : StD → MS → Prop} : gconsK gs ds q τ M = gs ds τ M q := rfl
theorem z_gnil {q : StD → MS → Prop} : gNil' [] τ M q = q τ M := by unfold gNil'; simp
def subK1 (ci : DE) (ρ : D → D → D → MS → (MS → Prop) → Prop) (d : D) (τ : StD) (q : StD → MS → Prop) : KD := fun o M1 => ci noX τ M1 (fun i M2 => ρ o i d M2 (fun M3 => q τ M3))
def subK2 (ρ : D → D → D → MS → (MS → Prop) → Prop) (o d : D) (τ : StD) (q : StD → MS → Prop) : KD := fun i M2 => ρ o i d M2 (fun M3 => q τ M3)
def subK3 (τ : StD) (q : StD → MS → Prop) : MS → Prop := fun M3 => q τ M3
theorem z_gsub {r : D → D → D → MS → (MS → Prop) → Prop} {q : StD → MS → Prop} : gSub' a b r d τ M q = a noX τ M (subK1 b r d τ q) := rfl
theorem z_subK1 {r : D → D → D → MS → (MS → Prop) → Prop} {q : StD → MS → Prop} : subK1 b r d τ q x M = b noX τ M (subK2 r x d τ q) := rfl
theorem z_subK2 {r : D → D → D → MS → (MS → Prop) → Prop} {q : StD → MS → Prop} : subK2 r x d τ q y M = r x y d M (subK3 τ q) := rfl
theorem z_subK3 {q : StD → MS → Prop} : subK3 τ q M = q τ M := rfl
def setM1 (p : Addr) (v : D) (j : Int) (M : MS) (k : MS → Prop) : Option MO → Prop
  | some (.lst xs) => match ixN xs.length j with
    | some n => k (updM M p (.lst (xs.set n v)))
    | none => False
  | _ => False
def setM2 (p : Addr) (v : D) (xs : List D) (M : MS) (k : MS → Prop) : Option Nat → Prop
  | some n => k (updM M p (.lst (xs.set n v)))
  | none => False
theorem z_set {p : Addr} {j : Int} {q : MS → Prop} : ρSetL (.ref p) (.int j) d M q = setM1 p d j M q (M p) := by
  cases e : M p with
  | none => simp only [ρSetL, setM1, e]
  | some o =>
    cases o with
    | lst xs => cases h : ixN xs.length j <;> simp only [ρSetL, setM1, e, h]
    | _ => simp only [ρSetL, setM1, e]
theorem z_set1 {p : Addr} {j : Int} {q : MS → Prop} : setM1 p d j M q (some (.lst ds)) = setM2 p d ds M q (ixN ds.length j) := by
  cases e : ixN ds.length j <;> simp only [setM1, setM2, e]
theorem z_set2 {p : Addr} {n : Nat} {q : MS → Prop} : setM2 p d ds M q (some n) = q (updM M p (.lst (ds.set n d))) := rfl
theorem z_ret : cRet a E τ M = a (E.at τ) τ M E.rt := rfl
theorem z_retN : cRetN E τ M = E.rt .non M := rfl
def dropK (E : EndsD) (τ : StD) : KD := fun _ M1 => E.nx τ M1
theorem z_drop : cDrop a E τ M = a (E.at τ) τ M (dropK E τ) := rfl
theorem z_dropK : dropK E τ d M = E.nx τ M := rfl
def brK (s s2 : CS) (E : EndsD) (τ : StD) : KT := fun b M1 => if b = true then s E τ M1 else s2 E τ M1
theorem z_if : cIf t s s2 E τ M = t (E.at τ) τ M (brK s s2 E τ) := rfl
theorem z_brT : brK s s2 E τ true M = s E τ M := rfl
theorem z_brF : brK s s2 E τ false M = s2 E τ M := rfl
def forK (g : GD) (s : CS) (E : EndsD) (τ : StD) : KA := fun ds M1 => loopD g s E ds τ M1
theorem z_for : cFor ca g s E τ M = ca (E.at τ) τ M (forK g s E τ) := rfl
theorem z_forK : forK g s E τ ds M = loopD g s E ds τ M := rfl
theorem z_loop0 : loopD g s E [] τ M = E.nx τ M := rfl
def loopK (g : GD) (s : CS) (E : EndsD) (r : List D) : StD → MS → Prop := fun τ' M' => s { E with nx := loopD g s E r, ct := loopD g s E r, bk := E.nx } τ' M'
theorem z_loop1 : loopD g s E (d :: ds) τ M = g d τ M (loopK g s E ds) := rfl
theorem z_loopK : loopK g s E ds τ M = s { nx := loopD g s E ds, rt := E.rt, bk := E.nx, ct := loopD g s E ds, ex := E.ex } τ M := rfl
-- expressions
theorem z_var0 {r : StD} : cVar 0 X (some d :: r) M k = k d M := rfl
theorem z_varS {r : StD} {w : Option D} : cVar (i + 1) X (w :: r) M k = cVar i X r M k := by
  unfold cVar
  rw [List.getElem?_cons_succ]
theorem z_c : cC d X τ M k = k d M := rfl
def binK1 (ρ : RD2) (b : DE) (X : DX) (τ : StD) (k : KD) : KD := fun x M1 => b X τ M1 (fun y M2 => ρ x y M2 k)
def binK2 (ρ : RD2) (x : D) (k : KD) : KD := fun y M2 => ρ x y M2 k
theorem z_bin : cBin ρ a b X τ M k = a X τ M (binK1 ρ b X τ k) := rfl
theorem z_binK1 : binK1 ρ b X τ k x M = b X τ M (binK2 ρ x k) := rfl
theorem z_binK2 : binK2 ρ x k y M = ρ x y M k := rfl
theorem z_test : cTest a X τ M kt = a X τ M (asB kt) := rfl
theorem z_asB {q : Bool} : asB kt (.bl q) M = kt q M := rfl
def andK (u : DT) (X : DX) (τ : StD) (k : KT) : KT := fun b M1 => if b = true then u X τ M1 k else k false M1
def orK (u : DT) (X : DX) (τ : StD) (k : KT) : KT := fun b M1 => if b = true then k true M1 else u X τ M1 k
def notK (k : KT) : KT := fun b M1 => k (!b) M1
theorem z_and : cAnd t u X τ M kt = t X τ M (andK u X τ kt) := rfl
theorem z_andT : andK u X τ kt true M = u X τ M kt := rfl
theorem z_andF : andK u X τ kt false M = kt false M := rfl
theorem z_or : cOr t u X τ M kt = t X τ M (orK u X τ kt) := rfl
theorem z_orT : orK u X τ kt true M = kt true M := rfl
theorem z_orF : orK u X τ kt false M = u X τ M kt := rfl
theorem z_not : cNot t X τ M kt = t X τ M (notK kt) := rfl
theorem z_notK {q : Bool} : notK kt q M = kt (!q) M := rfl
def andV (b : DE) (X : DX) (τ : StD) (k : KD) : KT := fun q M1 => if q = true then b X τ M1 k else k (.bl false) M1
def orV (b : DE) (X : DX) (τ : StD) (k : KD) : KT := fun q M1 => if q = true then k (.bl true) M1 else b X τ M1 k
def notV (k : KD) : KT := fun q M1 => k (.bl (!q)) M1
theorem z_andV : cAndV a b X τ M k = a X τ M (asB (andV b X τ k)) := rfl
theorem z_andVT : andV b X τ k true M = b X τ M k := rfl
theorem z_andVF : andV b X τ k false M = k (.bl false) M := rfl
theorem z_orV : cOrV a b X τ M k = a X τ M (asB (orV b X τ k)) := rfl
theorem z_orVT : orV b X τ k true M = k (.bl true) M := rfl
theorem z_orVF : orV b X τ k false M = b X τ M k := rfl
theorem z_notV : cNotV a X τ M k = a X τ M (asB (notV k)) := rfl
theorem z_notVK {q : Bool} : notV k q M = k (.bl (!q)) M := rfl
def ifK (a b : DE) (X : DX) (τ : StD) (k : KD) : KT := fun q M1 => if q = true then a X τ M1 k else b X τ M1 k
theorem z_ifE : cIfE t a b X τ M k = t X τ M (ifK a b X τ k) := rfl
theorem z_ifT : ifK a b X τ k true M = a X τ M k := rfl
theorem z_ifF : ifK a b X τ k false M = b X τ M k := rfl
def consK (r : DA) (X : DX) (τ : StD) (k : KA) : KD := fun x M1 => r X τ M1 (fun xs M2 => k (x :: xs) M2)
def consK2 (x : D) (k : KA) : KA := fun xs M2 => k (x :: xs) M2
theorem z_nil : cNil X τ M ka = ka [] M := rfl
theorem z_cons : cCons a ca X τ M ka = a X τ M (consK ca X τ ka) := rfl
theorem z_consK : consK ca X τ ka x M = ca X τ M (consK2 x ka) := rfl
theorem z_consK2 : consK2 x ka ds M = ka (x :: ds) M := rfl
def tupK (k : KD) : KA := fun ds M1 => ds.length ≤ sizeLine ∧ k (.tup ds) M1
def lstK (k : KD) : KA := fun ds M1 => ds.length ≤ sizeLine ∧ (k (.lst ds) M1 ∨ ∀ p, M1 p = none → k (.ref p) (updM M1 p (.lst ds)))
theorem z_tup : cTup ca X τ M k = ca X τ M (tupK k) := rfl
theorem z_tupK : tupK k ds M = (ds.length ≤ sizeLine ∧ k (.tup ds) M) := rfl
theorem z_lst : cLst ca X τ M k = ca X τ M (lstK k) := rfl
theorem z_lstK : lstK k ds M = (ds.length ≤ sizeLine ∧ listK k ds M) := rfl
def unK (r : D → MS → KD → Prop) (k : KD) : KD := fun x M1 => r x M1 k
theorem z_un {r : D → MS → KD → Prop} : cUn r a X τ M k = a X τ M (unK r k) := rfl
theorem z_unK {r : D → MS → KD → Prop} : unK r k x M = r x M k := rfl
theorem z_neg {j : Int} : ρNeg (.int j) M k = k (.int (-j)) M := rfl
def cbK (r : RCD) (k : KD) : KA := fun ds M1 => r ds M1 k
theorem z_cb {r : RCD} : cCB r ca X τ M k = ca X τ M (cbK r k) := rfl
theorem z_cbK {r : RCD} : cbK r k ds M = r ds M k := rfl
def callK (sp : SpD) (X : DX) (k : KD) : KA := fun ds M1 => sp ds M1 k X
theorem z_call : cCall (NoX sp) ca X τ M k = ca X τ M (callK sp noX k) := rfl
theorem z_callK : callK sp X k ds M = sp ds M k X := rfl
def starK (r : DA) (X : DX) (τ : StD) (k : KA) : KA := fun xs M1 => r X τ M1 (fun ys M2 => k (xs ++ ys) M2)
def starK2 (xs : List D) (k : KA) : KA := fun ys M2 => k (xs ++ ys) M2
theorem z_star : cStar a ca X τ M ka = a X τ M (asSeq (starK ca X τ ka)) := rfl
theorem z_starK : starK ca X τ ka ds M = ca X τ M (starK2 ds ka) := rfl
theorem z_starK2 {es : List D} : starK2 ds ka es M = ka (ds ++ es) M := rfl
theorem z_seqL : asSeq ka (.lst ds) M = ka ds M := rfl
theorem z_seqT : asSeq ka (.tup ds) M = ka ds M := rfl
theorem z_seqR : asSeq ka (.rd ds) M = ka ds M := rfl
-- operators
theorem z_I {C : Int → Int → Prop} {f : Int → Int → D} {i j : Int} : ρI C f (.int i) (.int j) M k = (C i j ∧ k (f i j) M) := rfl
theorem z_I0 {f : Int → Int → D} {i j : Int} : ρI0 f (.int i) (.int j) M k = k (f i j) M := rfl
theorem z_mul {i j : Int} : ρMul (.int i) (.int j) M k = ((CMul i j ∨ CMulW i j) ∧ k (.int (i * j)) M) := rfl
theorem z_mulT {j : Int} : ρMul (.tup ds) (.int j) M k = (ds ≠ [] ∧ 0 ≤ j ∧ j ≤ 1000 ∧ ds.length ≤ 1000 ∧ k (.tup (List.replicate j.toNat ds).flatten) M) := rfl
theorem z_mulL {j : Int} : ρMul (.lst ds) (.int j) M k = (0 ≤ j ∧ j ≤ 1000 ∧ ds.length ≤ 1000 ∧ listK k (List.replicate j.toNat ds).flatten M) := rfl
theorem z_add {i j : Int} : ρAdd (.int i) (.int j) M k = k (.int (i + j)) M := rfl
theorem z_addS {i j : Str} : ρAdd (.str i) (.str j) M k = (i.length + j.length ≤ sizeLine ∧ k (.str (i ++ j)) M) := rfl
theorem z_addL {es : List D} : ρAdd (.lst ds) (.lst es) M k = (ds.length + es.length ≤ sizeLine ∧ listK k (ds ++ es) M) := rfl
theorem z_addT {es : List D} : ρAdd (.tup ds) (.tup es) M k = (ds.length + es.length ≤ sizeLine ∧ k (.tup (ds ++ es)) M) := rfl
theorem z_eqI {i j : Int} : ρEq (.int i) (.int j) M k = k (.bl (i == j)) M := by simp [ρEq, okS, eqS]
theorem z_neI {i j : Int} : ρNe (.int i) (.int j) M k = k (.bl (!(i == j))) M := by simp [ρNe, okS, eqS]
theorem z_eqB {i j : Bool} : ρEq (.bl i) (.bl j) M k = k (.bl (i == j)) M := by simp [ρEq, okS, eqS]
theorem z_neB {i j : Bool} : ρNe (.bl i) (.bl j) M k = k (.bl (!(i == j))) M := by simp [ρNe, okS, eqS]
theorem z_eqS {i j : Str} : ρEq (.str i) (.str j) M k = k (.bl (i == j)) M := by simp [ρEq, okS, eqS]
theorem z_neS {i j : Str} : ρNe (.str i) (.str j) M k = k (.bl (!(i == j))) M := by simp [ρNe, okS, eqS]
theorem z_isN : ρIsN d .non M k = k (.bl (isNon d)) M := rfl
theorem z_notN : ρNotN d .non M k = k (.bl (!isNon d)) M := rfl
def ixM (i : Int) (M : MS) (k : KD) : Option MO → Prop
  | some (.lst xs) => atK (L2.atI xs i) M k
  | _ => False
theorem z_ixL {i : Int} : ρIx (.lst ds) (.int i) M k = atK (L2.atI ds i) M k := rfl
theorem z_ixT {i : Int} : ρIx (.tup ds) (.int i) M k = atK (L2.atI ds i) M k := rfl
theorem z_ixR {i : Int} {p : Addr} : ρIx (.ref p) (.int i) M k = ixM i M k (M p) := by
  cases e : M p with
  | none => simp only [ρIx, ixM, e]
  | some o => cases o <;> simp only [ρIx, ixM, e]
theorem z_ixM {i : Int} : ixM i M k (some (.lst ds)) = atK (L2.atI ds i) M k := rfl
theorem z_atK : atK (some d) M k = k d M := rfl
-- built-ins
theorem z_lenL : ρLen [.lst ds] M k = (ds.length ≤ sizeLine ∧ k (.int ds.length) M) := rfl
theorem z_lenT : ρLen [.tup ds] M k = (ds.length ≤ sizeLine ∧ k (.int ds.length) M) := rfl
theorem z_lenR : ρLen [.rd ds] M k = (ds.length ≤ sizeLine ∧ k (.int ds.length) M) := rfl
theorem z_lenS {z : Str} : ρLen [.str z] M k = (z.length ≤ sizeLine ∧ k (.int z.length) M) := rfl
theorem z_listL : ρList [.lst ds] M k = listK k ds M := rfl
theorem z_listR : ρList [.rd ds] M k = listK k ds M := rfl
theorem z_listT : ρList [.tup ds] M k = listK k ds M := rfl
theorem z_tupleL : ρTuple [.lst ds] M k = k (.tup ds) M := rfl
def tupM (M : MS) (k : KD) : Option MO → Prop
  | some (.lst xs) => k (.tup xs) M
  | _ => False
theorem z_tupleR {p : Addr} : ρTuple [.ref p] M k = tupM M k (M p) := by
  cases e : M p with
  | none => simp only [ρTuple, tupM, e]
  | some o => cases o <;> simp only [ρTuple, tupM, e]
theorem z_tupM : tupM M k (some (.lst ds)) = k (.tup ds) M := rfl
def lenM (M : MS) (k : KD) : Option MO → Prop
  | some (.lst xs) => xs.length ≤ sizeLine ∧ k (.int xs.length) M
  | _ => False
theorem z_lenP {p : Addr} : ρLen [.ref p] M k = lenM M k (M p) := by
  cases e : M p with
  | none => simp only [ρLen, lenD, lenM, e]
  | some o => cases o <;> simp only [ρLen, lenD, lenM, e]
theorem z_lenM : lenM M k (some (.lst ds)) = (ds.length ≤ sizeLine ∧ k (.int ds.length) M) := rfl
theorem z_tupleT : ρTuple [.tup ds] M k = k (.tup ds) M := rfl
theorem z_all {bs : List Bool} (h : k (.bl (bs.all id)) M) : ρAll [.lst (bs.map D.bl)] M k := ⟨bs, rfl, h⟩
theorem z_isi {n t : String} {q : Bool} (e : tyD M d = some t) (h : kitB t n = some q) (z : k (.bl q) M) : ρIsi [d, .ty n] M k := by
  unfold ρIsi
  simp only [e]
  exact ⟨q, h, z⟩
-- slices
def slK1 (l h : DO) (X : DX) (τ : StD) (k : KD) : KD := fun d M1 => l X τ M1 (fun lo M2 => h X τ M2 (fun hi M3 => ρSl d lo hi M3 k))
def slK2 (d : D) (h : DO) (X : DX) (τ : StD) (k : KD) : Option Int → MS → Prop := fun lo M2 => h X τ M2 (fun hi M3 => ρSl d lo hi M3 k)
def slK3 (d : D) (lo : Option Int) (k : KD) : Option Int → MS → Prop := fun hi M3 => ρSl d lo hi M3 k
theorem z_sl {l h : DO} : cSl a l h X τ M k = a X τ M (slK1 l h X τ k) := rfl
theorem z_slK1 {l h : DO} : slK1 l h X τ k d M = l X τ M (slK2 d h X τ k) := rfl
theorem z_slK2 {h : DO} {lo : Option Int} : slK2 d h X τ k lo M = h X τ M (slK3 d lo k) := rfl
theorem z_slK3 {lo hi : Option Int} : slK3 d lo k hi M = ρSl d lo hi M k := rfl
theorem z_oNone {q : Option Int → MS → Prop} : oNone X τ M q = q none M := rfl
def oK (q : Option Int → MS → Prop) : KD := fun d M1 => match d with | .int i => q (some i) M1 | _ => False
theorem z_oSome {q : Option Int → MS → Prop} : oSome a X τ M q = a X τ M (oK q) := rfl
theorem z_oK {q : Option Int → MS → Prop} {i : Int} : oK q (.int i) M = q (some i) M := rfl
theorem z_slT {lo hi : Option Int} : ρSl (.tup ds) lo hi M k = k (.tup (cutD ds lo hi)) M := rfl
theorem z_slL {lo hi : Option Int} : ρSl (.lst ds) lo hi M k = listK k (cutD ds lo hi) M := rfl
theorem z_slR {lo hi : Option Int} : ρSl (.rd ds) lo hi M k = listK k (cutD ds lo hi) M := rfl
-- loops' sources
def r1K (k : KA) : KA := fun ds M1 => match ds with
  | [.int j] => -(2 ^ 62) ≤ j ∧ j < 2 ^ 62 ∧ k (rangeD 0 j.toNat) M1
  | _ => False
theorem z_r1 : ciR1 ca X τ M ka = ca X τ M (r1K ka) := rfl
theorem z_r1K {j : Int} : r1K ka [.int j] M = (-(2 ^ 62) ≤ j ∧ j < 2 ^ 62 ∧ ka (rangeD 0 j.toNat) M) := rfl
def r2K (k : KA) : KA := fun ds M1 => match ds with
  | [.int i, .int j] => (-(2 ^ 62) ≤ i ∧ i < 2 ^ 62 ∧ -(2 ^ 62) ≤ j ∧ j < 2 ^ 62) ∧ k (rangeD i (j - i).toNat) M1
  | _ => False
theorem z_r2 : ciR2 ca X τ M ka = ca X τ M (r2K ka) := rfl
theorem z_r2K {i j : Int} : r2K ka [.int i, .int j] M = ((-(2 ^ 62) ≤ i ∧ i < 2 ^ 62 ∧ -(2 ^ 62) ≤ j ∧ j < 2 ^ 62) ∧ ka (rangeD i (j - i).toNat) M) := rfl
def zipK (k : KA) : KA := fun ds M1 => match ds with
  | [.lst xs, .lst ys] => k (pairsD xs ys) M1
  | [.tup xs, .tup ys] => k (pairsD xs ys) M1
  | _ => False
theorem z_zip : ciZip ca X τ M ka = ca X τ M (zipK ka) := rfl
theorem z_zipL {es : List D} : zipK ka [.lst ds, .lst es] M = ka (pairsD ds es) M := rfl
theorem z_zipT {es : List D} : zipK ka [.tup ds, .tup es] M = ka (pairsD ds es) M := rfl
theorem z_iseq : ciSeq a X τ M ka = a X τ M (asSeq ka) := rfl
-- methods
def methK (ok : D → MS → Prop) (r : D → List D → MS → KD → Prop) (ca : DA) (X : DX) (τ : StD) (k : KD) : KD := fun d M1 => ok d M1 ∧ ca X τ M1 (fun ds M2 => r d ds M2 k)
def methK2 (r : D → List D → MS → KD → Prop) (d : D) (k : KD) : KA := fun ds M2 => r d ds M2 k
theorem z_meth {ok : D → MS → Prop} {r : D → List D → MS → KD → Prop} : cMeth ok r a ca X τ M k = a X τ M (methK ok r ca X τ k) := rfl
theorem z_methK {ok : D → MS → Prop} {r : D → List D → MS → KD → Prop} : methK ok r ca X τ k d M = (ok d M ∧ ca X τ M (methK2 r d k)) := rfl
theorem z_methK2 {r : D → List D → MS → KD → Prop} : methK2 r d k ds M = r d ds M k := rfl
theorem z_okL {p : Addr} : okL (.ref p) M = ∃ xs, M p = some (.lst xs) := rfl
def appM (p : Addr) (y : D) (M : MS) (k : KD) : Option MO → Prop
  | some (.lst xs) => xs.length < sizeLine ∧ k .non (updM M p (.lst (xs ++ [y])))
  | _ => False
theorem z_app {p : Addr} : ρApp (.ref p) [y] M k = appM p y M k (M p) := by
  cases e : M p with
  | none => simp only [ρApp, appM, e]
  | some o => cases o <;> simp only [ρApp, appM, e]
theorem z_appM {p : Addr} : appM p y M k (some (.lst ds)) = (ds.length < sizeLine ∧ k .non (updM M p (.lst (ds ++ [y])))) := rfl
end
theorem z_at0 {α : Type} {a : α} {r : List α} : L2.atI (a :: r) 0 = some a := L2.atI_nat (j := 0) rfl
theorem z_at1 {α : Type} {a b : α} {r : List α} : L2.atI (a :: b :: r) 1 = some b := L2.atI_nat (j := 1) rfl
theorem z_at2 {α : Type} {a b c : α} {r : List α} : L2.atI (a :: b :: c :: r) 2 = some c := L2.atI_nat (j := 2) rfl
theorem z_at3 {α : Type} {a b c d : α} {r : List α} : L2.atI (a :: b :: c :: d :: r) 3 = some d := L2.atI_nat (j := 3) rfl
/-! ### comprehensions -/
section
variable {X : DX} {τ : StD} {M : MS} {k : KD} {ca : DA} {g : GD} {t : DT} {ce : DE} {vs : List Nat}
def lcK (g : GD) (t : DT) (ce : DE) (vs : List Nat) (τ : StD) (k : KD) : KA := fun ds M1 => ∀ p, M1 p = none → lcD g t ce vs p noX τ k ds [] (updM M1 p (.lst []))
theorem z_lc : cLc ca g t ce vs X τ M k = ca X τ M (lcK g t ce vs τ k) := rfl
/-- each item makes a datum; nothing else happens -/
theorem lc_pure {ds : List D} {f : D → D} (hz : ds.length ≤ 1000000) (h : ∀ d, d ∈ ds → ∀ (M : MS) (q : KD), q (f d) M → g d (wipeD τ vs) M (fun τ2 M2 => ce noX τ2 M2 q)) (mg : MonoG g) (hk : k (.lst (ds.map f)) M) : lcK g cYes ce vs τ k ds M := by
  intro p np
  have key : ∀ (r acc : List D), (∀ d, d ∈ r → d ∈ ds) → acc.length + r.length ≤ 1000000 → k (.lst (acc ++ r.map f)) M → lcD g cYes ce vs p noX τ k r acc (updM M p (.lst acc)) := by
    intro r
    induction r with
    | nil =>
      intro acc _ _ hk
      refine ⟨updM_same, .inl ?_⟩
      rw [delM_updM np]
      simpa using hk
    | cons d r ih =>
      intro acc hm hl hk
      have hd := h d (hm d List.mem_cons_self) (updM M p (.lst acc)) (fun y M4 => M4 p = some (.lst acc) ∧ acc.length < sizeLine ∧ lcD g cYes ce vs p noX τ k r (acc ++ [y]) (updM M4 p (.lst (acc ++ [y])))) ?_
      · exact hd
      · have hz : acc.length < sizeLine := by
          rw [List.length_cons] at hl
          rw [sizeLine_eq]; omega
        refine ⟨updM_same, hz, ?_⟩
        rw [updM_updM]
        refine ih (acc ++ [f d]) (fun x hx => hm x (List.mem_cons_of_mem _ hx)) ?_ ?_
        · rw [List.length_append, List.length_singleton]; rw [List.length_cons] at hl; omega
        · rw [List.append_assoc]; exact hk
  have e := key ds [] (fun _ h => h) (by simpa using hz) (by simpa using hk)
  exact e
end
end DL

set_option maxHeartbeats 4000000
namespace DL
open PySem PySem.Spec PyProof.Rows L2
/-! data compared, whatever they hold -/
mutual
def toPy : D → PyData
  | .non => .none
  | .bl b => .bool b
  | .int i => .int i
  | .str x => .str x
  | .tup xs => .tuple (toPys xs)
  | .lst xs => .list (toPys xs)
  | .rd xs => .list (toPys xs)
  | .ref _ => .none
  | .ty _ => .none
def toPys : List D → List PyData
  | [] => []
  | x :: xs => toPy x :: toPys xs
end
mutual
/-- no object of the store lies within -/
def pureD : D → Bool
  | .non | .bl _ | .int _ | .str _ => true
  | .tup xs => puresD xs
  | .lst xs => puresD xs
  | .rd xs => puresD xs
  | .ref _ | .ty _ => false
def puresD : List D → Bool
  | [] => true
  | x :: xs => pureD x && puresD xs
end
mutual
theorem plain_toPy : ∀ d : D, pureD d = true → (toPy d).plain = true
  | .non, _ => rfl
  | .bl _, _ => rfl
  | .int _, _ => rfl
  | .str _, _ => rfl
  | .tup xs, h => plains_toPy xs h
  | .lst xs, h => plains_toPy xs h
  | .rd xs, h => plains_toPy xs h
theorem plains_toPy : ∀ xs : List D, puresD xs = true → PyData.plainAll (toPys xs) = true
  | [], _ => rfl
  | x :: xs, h => by
    unfold puresD at h
    rw [Bool.and_eq_true] at h
    unfold toPys PyData.plainAll
    rw [plain_toPy x h.1, plains_toPy xs h.2]; rfl
end
section
variable {K : PySem.W.Frag} {F : Hp}
mutual
theorem rep_dp : ∀ (d : D) (v : V), pureD d = true → Rep K F v d → Dp K F v (toPy d)
  | .non, _, _, h => by cases h; exact .non
  | .bl b, _, _, h => by cases h; exact .bl b
  | .int i, _, _, h => by cases h; exact .int i
  | .str x, _, _, h => by cases h; exact .str x
  | .tup ds, _, p, h => by
    cases h with
    | tup a b => exact .tup a (reps_dp ds _ p b)
  | .lst ds, _, p, h => by
    cases h with
    | lst a b => exact .lst (SqL.of a) (reps_dp ds _ p b)
  | .rd ds, _, p, h => by
    cases h with
    | rd a b => exact .lst a (reps_dp ds _ p b)
theorem reps_dp : ∀ (ds : List D) (vs : List V), puresD ds = true → Reps K F vs ds → DpAll K F vs (toPys ds)
  | [], _, _, h => by cases h; exact .nil
  | d :: ds, _, p, h => by
    unfold puresD at p
    rw [Bool.and_eq_true] at p
    cases h with
    | cons a b => exact .cons (rep_dp d _ p.1 a) (reps_dp ds _ p.2 b)
end
mutual
theorem dp_up {H : Hp} (e : Ex F H) : ∀ (d : PyData) (v : V), Dp K F v d → Dp K H v d
  | .none, _, h => by cases h; exact .non
  | .bool b, _, h => by cases h; exact .bl b
  | .int i, _, h => by cases h; exact .int i
  | .str x, _, h => by cases h; exact .str x
  | .tuple ds, _, h => by
    cases h with
    | tup a b => exact .tup (e.seqT a) (dps_up e ds _ b)
  | .list ds, _, h => by
    cases h with
    | lst a b => exact .lst (e.seqL a) (dps_up e ds _ b)
  | .dict _, _, h => by cases h
theorem dps_up {H : Hp} (e : Ex F H) : ∀ (ds : List PyData) (vs : List V), DpAll K F vs ds → DpAll K H vs ds
  | [], _, h => by cases h; exact .nil
  | d :: ds, _, h => by
    cases h with
    | cons a b => exact .cons (dp_up e d _ a) (dps_up e ds _ b)
end
end
/-- a list of the store counts as what it holds -/
def resD (M : MS) : D → D
  | .ref p => match M p with
    | some (.lst xs) => .lst xs
    | _ => .ref p
  | d => d
theorem res_dp {K : PySem.W.Frag} {F H : Hp} {M : MS} (hh : Holds K F M H) {v : V} {d : D} (r : Rep K F v d) (p : pureD (resD M d) = true) : Dp K H v (toPy (resD M d)) := by
  have dflt : pureD d = true → Dp K H v (toPy d) := fun p => dp_up hh.fr _ _ (rep_dp d v p r)
  cases d <;> first | exact dflt p | skip
  rename_i a
  unfold resD at p ⊢
  cases e : M a with
  | none => simp only [e, pureD] at p; cases p
  | some m =>
    cases m with
    | lst xs =>
      simp only [e] at p ⊢
      cases r
      obtain ⟨_, o, ho, rm⟩ := hh.mu a _ e
      cases rm with
      | lst r => exact .lst (SqL.of ho) (dps_up hh.fr _ _ (reps_dp xs _ p r))
    | _ => simp only [e, pureD] at p; cases p
/-- equal, as data are -/
def eqD (x y : D) : Bool := PyData.eqv (toPy x) (toPy y)
def smallD (d : D) : Bool := decide ((toPy d).depth ≤ 64)
def ρEqG : RD2 := fun dx dy M k => pureD (resD M dx) = true ∧ pureD (resD M dy) = true ∧ smallD (resD M dx) = true ∧ k (.bl (eqD (resD M dx) (resD M dy))) M
def ρNeG : RD2 := fun dx dy M k => pureD (resD M dx) = true ∧ pureD (resD M dy) = true ∧ smallD (resD M dx) = true ∧ k (.bl (!eqD (resD M dx) (resD M dy))) M
section
variable {X : Cx}
def rEqP (K : PySem.W.Frag) : R2 := fun x y H Q => ∃ d e, Dp K H x d ∧ Dp K H y e ∧ d.plain = true ∧ e.plain = true ∧ d.depth ≤ 64 ∧ Q (.bl (PyData.eqv d e)) H
def rNeP (K : PySem.W.Frag) : R2 := fun x y H Q => ∃ d e, Dp K H x d ∧ Dp K H y e ∧ d.plain = true ∧ e.plain = true ∧ d.depth ≤ 64 ∧ Q (.bl (!PyData.eqv d e)) H
theorem op_eqP (hu : X.A.units + 64 < cLine) : OpR X (compareOp .Eq) (rEqP X.K) := by
  intro pins s σ H x y v u Q I rx ry h
  obtain ⟨d, e, hd, he, sd, se, sz, q⟩ := h
  obtain ⟨as, r1⟩ := Dp.reads I d x v hd rx
  obtain ⟨bs, r2⟩ := Dp.reads I e y u he ry
  exact SeqAt.eq_plain r1 r2 sd se (by have := Nat.min_le_left d.depth e.depth; omega) ⟨.bl _, H, I, rfl, q⟩
theorem op_neP (hu : X.A.units + 64 < cLine) : OpR X (compareOp .NotEq) (rNeP X.K) := by
  intro pins s σ H x y v u Q I rx ry h
  obtain ⟨d, e, hd, he, sd, se, sz, q⟩ := h
  obtain ⟨as, r1⟩ := Dp.reads I d x v hd rx
  obtain ⟨bs, r2⟩ := Dp.reads I e y u he ry
  exact SeqAt.ne_plain r1 r2 sd se (by have := Nat.min_le_left d.depth e.depth; omega) ⟨.bl _, H, I, rfl, q⟩
theorem od_eqG (hu : X.A.units + 64 < cLine) : OpD X (compareOp .Eq) ρEqG := by
  refine ⟨⟨_, op_eqP hu, fun x y dx dy H F M Q hh rx ry q => ?_⟩, fun dx dy M k k' h q => ⟨q.1, q.2.1, q.2.2.1, h _ _ q.2.2.2⟩⟩
  obtain ⟨h1, h2, h3, q⟩ := q
  exact ⟨_, _, res_dp hh rx h1, res_dp hh ry h2, plain_toPy _ h1, plain_toPy _ h2, of_decide_eq_true h3, q _ H F (Ex.refl F) hh (.bl _)⟩
theorem od_neG (hu : X.A.units + 64 < cLine) : OpD X (compareOp .NotEq) ρNeG := by
  refine ⟨⟨_, op_neP hu, fun x y dx dy H F M Q hh rx ry q => ?_⟩, fun dx dy M k k' h q => ⟨q.1, q.2.1, q.2.2.1, h _ _ q.2.2.2⟩⟩
  obtain ⟨h1, h2, h3, q⟩ := q
  exact ⟨_, _, res_dp hh rx h1, res_dp hh ry h2, plain_toPy _ h1, plain_toPy _ h2, of_decide_eq_true h3, q _ H F (Ex.refl F) hh (.bl _)⟩
/-! ### in, not in -/
def rInP (K : PySem.W.Frag) : R2 := fun x y H Q => ∃ d ds, Dp K H x d ∧ (Dp K H y (.list ds) ∨ Dp K H y (.tuple ds)) ∧ d.plain = true ∧ PyData.plainAll ds = true ∧ d.depth ≤ 60 ∧ Q (.bl (ds.any fun z => PyData.eqv z d)) H
def rNotInP (K : PySem.W.Frag) : R2 := fun x y H Q => ∃ d ds, Dp K H x d ∧ (Dp K H y (.list ds) ∨ Dp K H y (.tuple ds)) ∧ d.plain = true ∧ PyData.plainAll ds = true ∧ d.depth ≤ 60 ∧ Q (.bl (!ds.any fun z => PyData.eqv z d)) H
theorem op_inP (hu : X.A.units + 64 < cLine) : OpR X (compareOp .In) (rInP X.K) := by
  intro pins s σ H x y v u Q I rx ry h
  obtain ⟨d, ds, hd, he, sd, se, sz, q⟩ := h
  obtain ⟨as, r1⟩ := Dp.reads I d x v hd rx
  rcases he with he | he
  · obtain ⟨bs, r2⟩ := Dp.reads I _ y u he ry
    exact SeqAt.in_list_data r2 r1 se sd (by have := Nat.min_le_right (PyData.depthAll ds) d.depth; omega) ⟨.bl _, H, I, rfl, q⟩
  · obtain ⟨bs, r2⟩ := Dp.reads I _ y u he ry
    exact SeqAt.in_tuple_data r2 r1 se sd (by have := Nat.min_le_right (PyData.depthAll ds) d.depth; omega) ⟨.bl _, H, I, rfl, q⟩
theorem op_notInP (hu : X.A.units + 64 < cLine) : OpR X (compareOp .NotIn) (rNotInP X.K) := by
  intro pins s σ H x y v u Q I rx ry h
  obtain ⟨d, ds, hd, he, sd, se, sz, q⟩ := h
  obtain ⟨as, r1⟩ := Dp.reads I d x v hd rx
  rcases he with he | he
  · obtain ⟨bs, r2⟩ := Dp.reads I _ y u he ry
    exact SeqAt.notIn_list_data r2 r1 se sd (by have := Nat.min_le_right (PyData.depthAll ds) d.depth; omega) ⟨.bl _, H, I, rfl, q⟩
  · obtain ⟨bs, r2⟩ := Dp.reads I _ y u he ry
    exact SeqAt.notIn_tuple_data r2 r1 se sd (by have := Nat.min_le_right (PyData.depthAll ds) d.depth; omega) ⟨.bl _, H, I, rfl, q⟩
def itemsD : D → Option (List D)
  | .lst xs => some xs
  | .tup xs => some xs
  | .rd xs => some xs
  | _ => none
def inD (x : D) (xs : List D) : Bool := xs.any fun z => eqD z x
theorem any_toPys (x : D) : ∀ xs : List D, ((toPys xs).any fun z => PyData.eqv z (toPy x)) = inD x xs
  | [] => rfl
  | y :: ys => by
    unfold toPys inD
    rw [List.any_cons, List.any_cons, any_toPys x ys]; rfl
def ρIn : RD2 := fun dx dy M k => match itemsD (resD M dy) with
  | some xs => pureD dx = true ∧ puresD xs = true ∧ decide ((toPy dx).depth ≤ 60) = true ∧ k (.bl (inD dx xs)) M
  | none => False
def ρNotIn : RD2 := fun dx dy M k => match itemsD (resD M dy) with
  | some xs => pureD dx = true ∧ puresD xs = true ∧ decide ((toPy dx).depth ≤ 60) = true ∧ k (.bl (!inD dx xs)) M
  | none => False
theorem items_dp {K : PySem.W.Frag} {F H : Hp} {M : MS} (hh : Holds K F M H) {v : V} {d : D} (r : Rep K F v d) {xs : List D} (e : itemsD (resD M d) = some xs) (p : puresD xs = true) : Dp K H v (.list (toPys xs)) ∨ Dp K H v (.tuple (toPys xs)) := by
  have h : pureD (resD M d) = true := by
    cases z : resD M d <;> rw [z] at e <;> cases e <;> exact p
  have q := res_dp hh r h
  cases z : resD M d <;> rw [z] at e q <;> cases e
  · exact .inr q
  · exact .inl q
  · exact .inl q
theorem od_in (hu : X.A.units + 64 < cLine) : OpD X (compareOp .In) ρIn := by
  refine ⟨⟨_, op_inP hu, fun x y dx dy H F M Q hh rx ry q => ?_⟩, fun dx dy M k k' h q => ?_⟩
  · unfold ρIn at q
    split at q
    · rename_i xs e
      obtain ⟨h1, h2, h3, q⟩ := q
      exact ⟨_, _, dp_up hh.fr _ _ (rep_dp dx x h1 rx), items_dp hh ry e h2, plain_toPy _ h1, plains_toPy _ h2, of_decide_eq_true h3, by rw [any_toPys]; exact q _ H F (Ex.refl F) hh (.bl _)⟩
    · exact q.elim
  · unfold ρIn at q ⊢
    split at q
    · exact ⟨q.1, q.2.1, q.2.2.1, h _ _ q.2.2.2⟩
    · exact q.elim
theorem od_notIn (hu : X.A.units + 64 < cLine) : OpD X (compareOp .NotIn) ρNotIn := by
  refine ⟨⟨_, op_notInP hu, fun x y dx dy H F M Q hh rx ry q => ?_⟩, fun dx dy M k k' h q => ?_⟩
  · unfold ρNotIn at q
    split at q
    · rename_i xs e
      obtain ⟨h1, h2, h3, q⟩ := q
      exact ⟨_, _, dp_up hh.fr _ _ (rep_dp dx x h1 rx), items_dp hh ry e h2, plain_toPy _ h1, plains_toPy _ h2, of_decide_eq_true h3, by rw [any_toPys]; exact q _ H F (Ex.refl F) hh (.bl _)⟩
    · exact q.elim
  · unfold ρNotIn at q ⊢
    split at q
    · exact ⟨q.1, q.2.1, q.2.2.1, h _ _ q.2.2.2⟩
    · exact q.elim
end
end DL

set_option maxHeartbeats 4000000
/-! texts, dicts with text keys -/
namespace DL
open PySem PySem.Spec PyProof.Rows L2
section
variable {X : Cx} {W : WXL} {o e : Expr} {es : List Expr} {pos p : Pos} {ca cb cv : DE} {cas : DA}
/-! ### a text times an int -/
def ρMulS : RD2 := fun dx dy M k => match dx, dy with
  | .str a, .int j => 0 ≤ j ∧ j ≤ 1000 ∧ a.length ≤ 1000 ∧ k (.str (Txt.mul a j)) M
  | _, _ => False
theorem op_mulS : OpR X (binaryOp .Mult) (fun x y H Q => ∃ a j, x = .str a ∧ y = .int j ∧ 0 ≤ j ∧ j ≤ 1000 ∧ a.length ≤ 1000 ∧ Q (.str (Txt.mul a j)) H) := by
  intro pins s σ H x y v u Q I rx ry h
  obtain ⟨a, j, rfl, rfl, h0, h1, h2, q⟩ := h
  obtain ⟨t, rfl⟩ := rx
  obtain ⟨t', rfl⟩ := ry
  exact PySem.SB.mul (mulOk_of 1000 1000 h2 h1 (by omega) (by decide) (by decide)) fun t2 k => ⟨.str _, H, I.tok k, ⟨t2, rfl⟩, q⟩
theorem od_mulS : OpD X (binaryOp .Mult) ρMulS := by
  refine ⟨⟨_, op_mulS, fun x y dx dy H F M Q hh rx ry q => ?_⟩, fun dx dy M k k' h q => ?_⟩
  · unfold ρMulS at q
    split at q
    · cases rx; cases ry
      exact ⟨_, _, rfl, rfl, q.1, q.2.1, q.2.2.1, q.2.2.2 _ H F (Ex.refl F) hh (.str _)⟩
    · exact q.elim
  · unfold ρMulS at q ⊢
    split at q
    · exact ⟨q.1, q.2.1, q.2.2.1, h _ _ q.2.2.2⟩
    · exact q.elim
/-! ### sep.join(a list of texts) -/
def ρJoin : D → List D → MS → KD → Prop := fun d ds M k => match d, ds with
  | .str a, [.lst xs] => ∃ ys : List Str, xs = ys.map D.str ∧ (ys.map (·.length)).sum + ys.length * a.length ≤ 16777216 ∧ k (.str (Txt.join a ys)) M
  | _, _ => False
theorem reps_str {K : PySem.W.Frag} {F : Hp} : ∀ {bs : List Str} {vs : List V}, Reps K F vs (bs.map D.str) → vs = bs.map V.str
  | [], _, r => by cases r; rfl
  | b :: bs, _, r => by
    cases r with
    | cons r1 r2 => cases r1; rw [reps_str r2]; rfl
theorem md_join : MtD X "str" "str.join" okStr ρJoin := by
  refine ⟨⟨_, mt_join, fun x xs dx ds H F M Q hh rx rs q => ?_⟩, fun x dx H F M hh r h => okStr_ty r h, fun dx ds M k k' h q => ?_⟩
  · unfold ρJoin at q
    split at q
    · obtain ⟨ys, rfl, hz, q⟩ := q
      cases rx
      cases rs with
      | cons r1 r2 =>
        cases r2
        cases r1 with
        | lst hq r => exact ⟨_, _, ys, rfl, rfl, .inl (by rw [← reps_str r]; exact SqL.of (hh.fr _ _ hq)), hz, q _ H F (Ex.refl F) hh (.str _)⟩
    · exact q.elim
  · unfold ρJoin at q ⊢
    split at q
    · obtain ⟨ys, e, hz, q⟩ := q
      exact ⟨ys, e, hz, h _ _ q⟩
    · exact q.elim
theorem pd_join {o : Expr} {apos cpos : Pos} (ho : PEd X W o ca) (he : PEd X W e cb)
    (hbase : attributeBase o "join" X.env (eval o X.env) = eval o X.env := by rfl)
    (hfew : ((backTo cpos (starEach [e] X.env)).all (fun x => !x.1) && (backToKw cpos (keywordEach [] X.env)).all (fun x => x.1.isSome)
      && decide (([e] : List Expr).length + ([] : List Keyword).length + (if ([] : List Keyword).isEmpty then 0 else 1) < 30)) = true := by rfl)
    (hline : (apos.endLine == cpos.line) = true := by rfl) (hs : starEach [e] X.env = (false, eval e X.env) :: starEach [] X.env := by rfl) (hplain : (backTo cpos (starEach [] X.env)).any (·.1) = false := by rfl) :
    PEd X W (.Call (.Attribute o "join" apos) [e] [] cpos) (cMeth okStr ρJoin ca (cCons cb cNil)) :=
  pd_bm PySem.F.plainAttrs_str PySem.F.slot_str_join PySem.F.type_str_join md_join ho (pad_cons he pad_nil hs) hbase hfew hline hs hplain
/-! ### int(x) -/
def ρInt : RCD := fun ds M k => match ds with
  | [.int i] => k (.int i) M
  | [.bl b] => k (.int (if b then 1 else 0)) M
  | _ => False
theorem cd_int : CallD X (.type "int") ρInt := by
  refine ⟨⟨_, call_int1, fun vs ds H F M Q hh r q => ?_⟩, fun ds M k k' h q => ?_⟩
  · unfold ρInt at q
    split at q
    · cases r with
      | cons r1 r2 => cases r2; cases r1; exact .inl ⟨_, rfl, q _ H F (Ex.refl F) hh (.int _)⟩
    · cases r with
      | cons r1 r2 => cases r2; cases r1; exact .inr ⟨_, rfl, q _ H F (Ex.refl F) hh (.int _)⟩
    · exact q.elim
  · unfold ρInt at q ⊢
    split at q <;> first | exact h _ _ q | exact q.elim
/-! ### dicts -/
def cDNew : DE := fun _ _ M k => ∀ p, M p = none → k (.ref p) (updM M p (.dic []))
theorem pd_dnew : PEd X W (.Dict [] [] pos) cDNew := by
  refine ⟨PE.weak pe_dnewK ?_, fun _ _ _ M k k' hE hk q p np => hk _ _ (q p np)⟩
  rintro σ H Q ⟨τ, M, F, rs, hh, q⟩ p np
  exact q p (hh.freeM np) _ _ F (Ex.refl F) (hh.newM np (.dic .nil)) (.ref p)
def keyD : Key → D
  | .inl i => .int i
  | .inr x => .str x
def putD (kvs : List (Key × D)) (k : Key) (v : D) : List (Key × D) :=
  if (kvs.any fun kv => decide (kv.1 = k)) = true then kvs.map (fun kv => if kv.1 = k then (kv.1, v) else kv) else kvs ++ [(k, v)]
theorem RepKV.any {K : PySem.W.Frag} {F : Hp} {k : Key} : ∀ {xs : List (Key × V)} {ys : List (Key × D)}, RepKV K F xs ys → (xs.any fun kv => decide (kv.1 = k)) = ys.any fun kv => decide (kv.1 = k)
  | _, _, .nil => rfl
  | _, _, .cons r t => by rw [List.any_cons, List.any_cons, RepKV.any t]
theorem RepKV.app {K : PySem.W.Frag} {F : Hp} {k : Key} {v : V} {d : D} (r : Rep K F v d) : ∀ {xs : List (Key × V)} {ys : List (Key × D)}, RepKV K F xs ys → RepKV K F (xs ++ [(k, v)]) (ys ++ [(k, d)])
  | _, _, .nil => .cons r .nil
  | _, _, .cons q t => .cons q (RepKV.app r t)
theorem RepKV.over {K : PySem.W.Frag} {F : Hp} {k : Key} {v : V} {d : D} (r : Rep K F v d) : ∀ {xs : List (Key × V)} {ys : List (Key × D)}, RepKV K F xs ys → RepKV K F (xs.map fun kv => if kv.1 = k then (kv.1, v) else kv) (ys.map fun kv => if kv.1 = k then (kv.1, d) else kv)
  | _, _, .nil => .nil
  | _, _, .cons (k := j) q t => by
    rw [List.map_cons, List.map_cons]
    by_cases e : j = k
    · rw [if_pos e, if_pos e]; exact .cons r (RepKV.over r t)
    · rw [if_neg e, if_neg e]; exact .cons q (RepKV.over r t)
theorem RepKV.put {K : PySem.W.Frag} {F : Hp} {k : Key} {v : V} {d : D} {xs : List (Key × V)} {ys : List (Key × D)} (h : RepKV K F xs ys) (r : Rep K F v d) : RepKV K F (putK xs k v) (putD ys k d) := by
  unfold putK putD
  rw [h.any]
  split
  · exact h.over r
  · exact h.app r
theorem set_dict (hu : X.A.units + 64 < cLine) : PSet X (fun o i v H Q => ∃ a H4, o = .ref a ∧ DPut H a i v H4 ∧ Q H4) := by
  intro pins s σ H o i v ov iv u Q I ro ri rv h
  obtain ⟨a, H4, rfl, g, q⟩ := h
  cases ro
  exact d_setItem (by omega) I g ri rv fun s' I' => ⟨H4, I', q⟩
def ρSetD : D → D → D → MS → (MS → Prop) → Prop := fun o i v M k => match o, i with
  | .ref p, .str x => match M p with
    | some (.dic kvs) => kvs.length < sizeLine ∧ k (updM M p (.dic (putD kvs (.inr x) v)))
    | _ => False
  | _, _ => False
theorem sd_dict (hu : X.A.units + 64 < cLine) : SetD X ρSetD := by
  refine ⟨⟨_, set_dict hu, fun o i v d1 d2 d3 H F M Q hh r1 r2 r3 q => ?_⟩, fun d1 d2 d3 M k k' h q => ?_⟩
  · unfold ρSetD at q
    split at q
    · split at q
      · rename_i kvs hm
        cases r1; cases r2
        obtain ⟨_, o, ho, rm⟩ := hh.mu _ _ hm
        cases rm with
        | dic r => exact ⟨_, _, rfl, .inl ⟨_, _, ho, rfl, by rw [r.len]; exact q.1, rfl⟩, q.2 _ F (Ex.refl F) (hh.setM hm (.dic (r.put r3)))⟩
      · exact q.elim
    · exact q.elim
  · unfold ρSetD at q ⊢
    split at q
    · split at q
      · exact ⟨q.1, h _ q.2⟩
      · exact q.elim
    · exact q.elim
/-- list(d) -/
def ρListD : RCD := fun ds M k => match ds with
  | [.ref p] => match M p with
    | some (.dic kvs) => k (.lst (kvs.map fun kv => keyD kv.1)) M ∨ ∀ q, M q = none → k (.ref q) (updM M q (.lst (kvs.map fun kv => keyD kv.1)))
    | _ => False
  | _ => False
theorem RepKV.keys {K : PySem.W.Frag} {F : Hp} : ∀ {xs : List (Key × V)} {ys : List (Key × D)}, RepKV K F xs ys → Reps K F (xs.map fun kv => kV kv.1) (ys.map fun kv => keyD kv.1)
  | _, _, .nil => .nil
  | _, _, .cons (k := j) _ t => by
    rw [List.map_cons, List.map_cons]
    refine .cons ?_ (RepKV.keys t)
    cases j
    · exact .int _
    · exact .str _
theorem cd_listD (hc : X.calm = true) : CallD X (.type "list") ρListD := by
  refine ⟨⟨_, call_listD hc, fun vs ds H F M Q hh r q => ?_⟩, fun ds M k k' h q => ?_⟩
  · unfold ρListD at q
    split at q
    · split at q
      · rename_i kvs hm
        cases r with
        | cons r1 r2 =>
          cases r2; cases r1
          obtain ⟨_, o, ho, rm⟩ := hh.mu _ _ hm
          cases rm with
          | dic r => exact ⟨_, _, rfl, .inl ho, fun p np => new_list hh r.keys q np⟩
      · exact q.elim
    · exact q.elim
  · unfold ρListD at q ⊢
    split at q
    · split at q
      · exact or_le h q
      · exact q.elim
    · exact q.elim
end
/-! ### equations -/
section
variable {X : DX} {τ : StD} {M : MS} {k : KD} {d : D} {ds : List D}
theorem z_mulS {a : Str} {j : Int} : ρMulS (.str a) (.int j) M k = (0 ≤ j ∧ j ≤ 1000 ∧ a.length ≤ 1000 ∧ k (.str (Txt.mul a j)) M) := rfl
theorem z_okStr {a : Str} : okStr (.str a) M = True := rfl
theorem z_join {a : Str} : ρJoin (.str a) [.lst ds] M k = ∃ ys : List Str, ds = ys.map D.str ∧ (ys.map (·.length)).sum + ys.length * a.length ≤ 16777216 ∧ k (.str (Txt.join a ys)) M := rfl
theorem z_intB {b : Bool} : ρInt [.bl b] M k = k (.int (if b then 1 else 0)) M := rfl
theorem z_intI {i : Int} : ρInt [.int i] M k = k (.int i) M := rfl
theorem z_dnew : cDNew X τ M k = ∀ p, M p = none → k (.ref p) (updM M p (.dic [])) := rfl
def setD1 (p : Addr) (x : Str) (v : D) (M : MS) (q : MS → Prop) : Option MO → Prop
  | some (.dic kvs) => kvs.length < sizeLine ∧ q (updM M p (.dic (putD kvs (.inr x) v)))
  | _ => False
theorem z_setD {p : Addr} {x : Str} {q : MS → Prop} : ρSetD (.ref p) (.str x) d M q = setD1 p x d M q (M p) := by
  cases e : M p with
  | none => simp only [ρSetD, setD1, e]
  | some o => cases o <;> simp only [ρSetD, setD1, e]
theorem z_setD1 {p : Addr} {x : Str} {q : MS → Prop} {kvs : List (Key × D)} : setD1 p x d M q (some (.dic kvs)) = (kvs.length < sizeLine ∧ q (updM M p (.dic (putD kvs (.inr x) d)))) := rfl
def listD1 (M : MS) (k : KD) : Option MO → Prop
  | some (.dic kvs) => listK k (kvs.map fun kv => keyD kv.1) M
  | _ => False
theorem z_listD {p : Addr} : ρListD [.ref p] M k = listD1 M k (M p) := by
  cases e : M p with
  | none => simp only [ρListD, listD1, e]
  | some o => cases o <;> simp only [ρListD, listD1, e, listK]
theorem z_listD1 {kvs : List (Key × D)} : listD1 M k (some (.dic kvs)) = listK k (kvs.map fun kv => keyD kv.1) M := rfl
def parK (i j : Nat) (E : EndsD) (τ : StD) : KA := fun ds M1 => match ds with
  | [d, d'] => E.nx ((τ.set i (some d)).set j (some d')) M1
  | _ => False
theorem z_par {i j : Nat} {ca : DA} {E : EndsD} : cPar i j ca E τ M = ca (E.at τ) τ M (parK i j E τ) := rfl
theorem z_parK {i j : Nat} {E : EndsD} {d' : D} : parK i j E τ [d, d'] M = E.nx ((τ.set i (some d)).set j (some d')) M := rfl
end
end DL

set_option maxHeartbeats 4000000
namespace DL
open PySem PySem.Spec PyProof.Rows L2
/-! the box of draws -/
/-- the box: the script's ints, the number of draws, what is left of a wide one, the mark -/
def boxO (cs : List Int) (i v m : Int) : List D := [.lst (cs.map D.int), .int i, .int v, .int m]
def BoxAt (M : MS) (b : Addr) : Prop := ∃ cs i v m, M b = some (.lst (boxO cs i v m)) ∧ cs.length ≤ 63 ∧ 0 ≤ i
def Drawn (b : Addr) (M M' : MS) : Prop := BoxAt M' b ∧ ∀ a, a ≠ b → M' a = M a
def sp__law_draw : SpD := fun ds M k _ => ∃ b many, ds = [.ref b, .int many] ∧ BoxAt M b ∧ 0 < many ∧ many < 2 ^ 250 ∧ ∀ r M', 0 ≤ r → r < many → Drawn b M M' → k (.int r) M'
def c__law_draw : CS :=
  (cSeq (cIf (cTest (cBin ρLt (cBin ρIx (cVar 0) (cC (.int 2))) (cC (.int 2)))) (cSeq (cAsg (cBin ρAdd (cBin ρIx (cVar 0) (cC (.int 1))) (cC (.int 1))) (gSub' (cVar 0) (cC (.int 1)) ρSetL))
    (cSeq (cAsg (cBin ρAdd (cBin ρIx (cVar 0) (cC (.int 3))) (cBin ρMul (cBin ρIx (cVar 0) (cC (.int 1))) (cC (.int 6151)))) (gN 3))
    (cSeq (cIf (cTest (cBin ρLe (cBin ρIx (cVar 0) (cC (.int 1))) (cCB ρLen (cCons (cBin ρIx (cVar 0) (cC (.int 0))) cNil)))) (cAsg (cBin ρIx (cBin ρIx (cVar 0) (cC (.int 0))) (cBin ρSub (cBin ρIx (cVar 0) (cC (.int 1))) (cC (.int 1)))) (gN 3)) cNext)
    (cSeq (cIf (cOr (cTest (cBin ρGt (cBin ρIx (cVar 0) (cC (.int 1))) (cCB ρLen (cCons (cBin ρIx (cVar 0) (cC (.int 0))) cNil)))) (cTest (cBin ρLt (cVar 3) (cBin ρPow (cC (.int 10)) (cC (.int 18)))))) (cSeq (cAsg (cBin ρMod (cBin ρAdd (cBin ρAdd (cBin ρMul (cVar 3) (cC (.int 48271))) (cBin ρMul (cBin ρIx (cVar 0) (cC (.int 1))) (cC (.int 40692)))) (cBin ρIx (cVar 0) (cC (.int 3)))) (cC (.int 2147483647))) (gN 4))
    (cSeq (cAsg (cBin ρMod (cBin ρAdd (cBin ρMul (cVar 4) (cVar 4)) (cBin ρIx (cVar 0) (cC (.int 1)))) (cC (.int 998244353))) (gN 5))
    (cRet (cBin ρMod (cBin ρFdiv (cBin ρMod (cBin ρAdd (cBin ρMul (cVar 5) (cC (.int 69621))) (cVar 4)) (cC (.int 2147483629))) (cC (.int 7))) (cVar 1))))) cNext)
    (cAsg (cVar 3) (gSub' (cVar 0) (cC (.int 2)) ρSetL)))))) cNext)
    (cSeq (cAsg (cBin ρMod (cBin ρIx (cVar 0) (cC (.int 2))) (cVar 1)) (gN 2))
    (cSeq (cAsg (cBin ρFdiv (cBin ρIx (cVar 0) (cC (.int 2))) (cVar 1)) (gSub' (cVar 0) (cC (.int 2)) ρSetL))
    (cRet (cVar 2)))))
theorem mono__law_draw : MonoS sp__law_draw := fun _ _ _ _ _ _ h _ ⟨b, many, e, h1, h2, h3, q⟩ => ⟨b, many, e, h1, h2, h3, fun r M' a1 a2 a3 => h _ _ (q r M' a1 a2 a3)⟩
theorem ix0 {a b c d : D} : L2.atI [a, b, c, d] 0 = some a := rfl
theorem ix1 {a b c d : D} : L2.atI [a, b, c, d] 1 = some b := rfl
theorem ix2 {a b c d : D} : L2.atI [a, b, c, d] 2 = some c := rfl
theorem ix3 {a b c d : D} : L2.atI [a, b, c, d] 3 = some d := rfl
theorem in1 : ixN 4 1 = some 1 := rfl
theorem in2 : ixN 4 2 = some 2 := rfl
theorem len4 {a b c d : D} : [a, b, c, d].length = 4 := rfl
theorem size63 {n : Nat} (h : n ≤ 63) : n ≤ sizeLine := by rw [sizeLine_eq]; omega
theorem atI_cells {cs : List Int} {j : Int} (h0 : 0 ≤ j) (h1 : j < cs.length) : ∃ n : Int, L2.atI (cs.map D.int) j = some (.int n) := by
  obtain ⟨n, rfl⟩ := Int.eq_ofNat_of_zero_le h0
  have hn : n < cs.length := by omega
  exact ⟨cs[n], L2.atI_nat (by rw [List.getElem?_map, List.getElem?_eq_getElem hn]; rfl)⟩
theorem mul_small {i j : Int} (h : 0 ≤ j) (h2 : j < 1000000) : CMul i j ∨ CMulW i j := .inl (.inr ⟨by omega, by omega⟩)
theorem mul_smallL {i j : Int} (h : -(2 ^ 40) ≤ i) (h2 : i < 2 ^ 40) : CMul i j ∨ CMulW i j := .inl (.inl ⟨by omega, by omega⟩)
theorem div_ok {i j : Int} (h : 0 < j) (h2 : j < 2 ^ 250) : CDivW i j := ⟨h, by
  have e : j.natAbs < 2 ^ 250 := by omega
  exact Nat.lt_of_lt_of_le (PySem.Flt.log2_lt_of (by decide) e) (by decide)⟩
theorem main__law_draw : ∀ ds M k, sp__law_draw ds M k (fun _ _ _ => False) → c__law_draw { nx := fun _ M' => k .non M', rt := k } (startD 6 ds) M := by
  rintro ds M k ⟨b, many, rfl, ⟨cs, i, v, m, hM, hl, h0⟩, hp, hw, q⟩
  show c__law_draw _ [some (.ref b), some (.int many), none, none, none, none] M
  unfold boxO at hM
  unfold c__law_draw
  have fin : ∀ (r i' v' : Int), 0 ≤ i' → 0 ≤ r → r < many → k (.int r) (updM M b (.lst [.lst (cs.map D.int), .int i', .int v', .int m])) := fun r i' v' h1 h2 h3 =>
    q r _ h2 h3 ⟨⟨cs, i', v', m, updM_same, hl, h1⟩, fun a ha => updM_ne ha⟩
  have tail : ∀ (M1 : MS) (v1 i1 : Int) (o3 o4 o5 : Option D), 0 ≤ i1 → M1 b = some (.lst [.lst (cs.map D.int), .int i1, .int v1, .int m]) → (∀ x, updM M1 b x = updM M b x) →
      cSeq (cAsg (cBin ρMod (cBin ρIx (cVar 0) (cC (.int 2))) (cVar 1)) (gN 2)) (cSeq (cAsg (cBin ρFdiv (cBin ρIx (cVar 0) (cC (.int 2))) (cVar 1)) (gSub' (cVar 0) (cC (.int 2)) ρSetL)) (cRet (cVar 2))) { nx := fun x M' => k D.non M', rt := k } [some (.ref b), some (.int many), none, o3, o4, o5] M1 := by
    intro M1 v1 i1 o3 o4 o5 hi1 h1 h2
    (try simp only [z_seq, z_next, z_brk, z_cont, z_asg, z_asgK, z_gN, z_gSeq, z_gSeqL, z_gcons, z_gconsK, z_gnil, z_gsub, z_subK1, z_subK2, z_subK3, z_set, z_set1, z_set2, z_ret, z_retN, z_drop, z_dropK, z_if, z_brT, z_brF, z_for, z_forK, z_loop0, z_loop1, z_loopK, z_var0, z_varS, z_c, z_bin, z_binK1, z_binK2, z_test, z_asB, z_and, z_andT, z_andF, z_or, z_orT, z_orF, z_not, z_notK, z_andV, z_andVT, z_andVF, z_orV, z_orVT, z_orVF, z_notV, z_notVK, z_ifE, z_ifT, z_ifF, z_nil, z_cons, z_consK, z_consK2, z_tup, z_tupK, z_lst, z_lstK, z_un, z_unK, z_neg, z_cb, z_cbK, z_call, z_callK, z_star, z_starK, z_starK2, z_seqL, z_seqT, z_seqR, z_I, z_I0, z_mul, z_mulT, z_mulL, z_tupleR, z_tupM, z_lenP, z_lenM, z_add, z_addS, z_addL, z_addT, z_eqI, z_neI, z_eqB, z_neB, z_eqS, z_neS, z_isN, z_notN, z_ixL, z_ixT, z_ixR, z_ixM, z_atK, z_lenL, z_lenT, z_lenR, z_lenS, z_listL, z_listR, z_listT, z_tupleL, z_tupleT, z_sl, z_slK1, z_slK2, z_slK3, z_oNone, z_oSome, z_oK, z_slT, z_slL, z_slR, z_r1, z_r1K, z_r2, z_r2K, z_zip, z_zipL, z_zipT, z_iseq, z_meth, z_methK, z_methK2, z_app, z_appM, z_lc, isNon, Bool.not_true, Bool.not_false, z_at0, z_at1, z_at2, z_at3, z_mulS, z_okStr, z_join, z_intB, z_intI, z_dnew, z_setD, z_setD1, z_listD, z_listD1, z_par, z_parK, List.set_cons_zero, List.set_cons_succ, h1, ix0, ix1, ix2, ix3, in1, in2, len4, updM_same, h2])
    refine ⟨hp, div_ok hp hw, ?_⟩
    exact fin _ _ _ hi1 (Int.emod_nonneg _ (by omega)) (Int.emod_lt_of_pos _ hp)
  (try simp only [z_seq, z_next, z_brk, z_cont, z_asg, z_asgK, z_gN, z_gSeq, z_gSeqL, z_gcons, z_gconsK, z_gnil, z_gsub, z_subK1, z_subK2, z_subK3, z_set, z_set1, z_set2, z_ret, z_retN, z_drop, z_dropK, z_if, z_brT, z_brF, z_for, z_forK, z_loop0, z_loop1, z_loopK, z_var0, z_varS, z_c, z_bin, z_binK1, z_binK2, z_test, z_asB, z_and, z_andT, z_andF, z_or, z_orT, z_orF, z_not, z_notK, z_andV, z_andVT, z_andVF, z_orV, z_orVT, z_orVF, z_notV, z_notVK, z_ifE, z_ifT, z_ifF, z_nil, z_cons, z_consK, z_consK2, z_tup, z_tupK, z_lst, z_lstK, z_un, z_unK, z_neg, z_cb, z_cbK, z_call, z_callK, z_star, z_starK, z_starK2, z_seqL, z_seqT, z_seqR, z_I, z_I0, z_mul, z_mulT, z_mulL, z_tupleR, z_tupM, z_lenP, z_lenM, z_add, z_addS, z_addL, z_addT, z_eqI, z_neI, z_eqB, z_neB, z_eqS, z_neS, z_isN, z_notN, z_ixL, z_ixT, z_ixR, z_ixM, z_atK, z_lenL, z_lenT, z_lenR, z_lenS, z_listL, z_listR, z_listT, z_tupleL, z_tupleT, z_sl, z_slK1, z_slK2, z_slK3, z_oNone, z_oSome, z_oK, z_slT, z_slL, z_slR, z_r1, z_r1K, z_r2, z_r2K, z_zip, z_zipL, z_zipT, z_iseq, z_meth, z_methK, z_methK2, z_app, z_appM, z_lc, isNon, Bool.not_true, Bool.not_false, z_at0, z_at1, z_at2, z_at3, z_mulS, z_okStr, z_join, z_intB, z_intI, z_dnew, z_setD, z_setD1, z_listD, z_listD1, z_par, z_parK, List.set_cons_zero, List.set_cons_succ, hM, ix0, ix1, ix2, ix3, in1, in2, len4, updM_same])
  by_cases h : v < 2
  · (try simp only [z_seq, z_next, z_brk, z_cont, z_asg, z_asgK, z_gN, z_gSeq, z_gSeqL, z_gcons, z_gconsK, z_gnil, z_gsub, z_subK1, z_subK2, z_subK3, z_set, z_set1, z_set2, z_ret, z_retN, z_drop, z_dropK, z_if, z_brT, z_brF, z_for, z_forK, z_loop0, z_loop1, z_loopK, z_var0, z_varS, z_c, z_bin, z_binK1, z_binK2, z_test, z_asB, z_and, z_andT, z_andF, z_or, z_orT, z_orF, z_not, z_notK, z_andV, z_andVT, z_andVF, z_orV, z_orVT, z_orVF, z_notV, z_notVK, z_ifE, z_ifT, z_ifF, z_nil, z_cons, z_consK, z_consK2, z_tup, z_tupK, z_lst, z_lstK, z_un, z_unK, z_neg, z_cb, z_cbK, z_call, z_callK, z_star, z_starK, z_starK2, z_seqL, z_seqT, z_seqR, z_I, z_I0, z_mul, z_mulT, z_mulL, z_tupleR, z_tupM, z_lenP, z_lenM, z_add, z_addS, z_addL, z_addT, z_eqI, z_neI, z_eqB, z_neB, z_eqS, z_neS, z_isN, z_notN, z_ixL, z_ixT, z_ixR, z_ixM, z_atK, z_lenL, z_lenT, z_lenR, z_lenS, z_listL, z_listR, z_listT, z_tupleL, z_tupleT, z_sl, z_slK1, z_slK2, z_slK3, z_oNone, z_oSome, z_oK, z_slT, z_slL, z_slR, z_r1, z_r1K, z_r2, z_r2K, z_zip, z_zipL, z_zipT, z_iseq, z_meth, z_methK, z_methK2, z_app, z_appM, z_lc, isNon, Bool.not_true, Bool.not_false, z_at0, z_at1, z_at2, z_at3, z_mulS, z_okStr, z_join, z_intB, z_intI, z_dnew, z_setD, z_setD1, z_listD, z_listD1, z_par, z_parK, List.set_cons_zero, List.set_cons_succ, hM, ix0, ix1, ix2, ix3, in1, in2, len4, updM_same, decide_eq_true h, List.length_map])
    have h2 : updM M b (.lst [.lst (cs.map D.int), .int (i + 1), .int v, .int m]) b = some (.lst [.lst (cs.map D.int), .int (i + 1), .int v, .int m]) := updM_same
    have em : ∀ x n : Int, 0 < n → 0 ≤ x % n ∧ x % n < n := fun x n hn => ⟨Int.emod_nonneg _ (by omega), Int.emod_lt_of_pos _ hn⟩
    have c1 : ∀ x : Int, CMul (x % 2147483647) (x % 2147483647) ∨ CMulW (x % 2147483647) (x % 2147483647) := fun x => by
      have := em x 2147483647 (by decide)
      exact mul_smallL (by omega) (by omega)
    have c2 : ∀ x : Int, CMul (x % 998244353) 69621 ∨ CMulW (x % 998244353) 69621 := fun x => mul_small (by decide) (by decide)
    have d7 : CDivW (2147483628 : Int) 7 → ∀ x : Int, CDivW x 7 := fun z x => ⟨z.1, z.2⟩
    have d8 : ∀ x : Int, CDivW x 7 := fun x => div_ok (by decide) (by decide)
    refine ⟨mul_small (by decide) (by decide), size63 hl, ?_⟩
    by_cases h3 : i + 1 ≤ (cs.length : Int)
    · obtain ⟨n, hn⟩ := atI_cells (cs := cs) (j := i + 1 - 1) (by omega) (by omega)
      have h4 : ¬ (cs.length : Int) < i + 1 := by omega
      (try simp only [z_seq, z_next, z_brk, z_cont, z_asg, z_asgK, z_gN, z_gSeq, z_gSeqL, z_gcons, z_gconsK, z_gnil, z_gsub, z_subK1, z_subK2, z_subK3, z_set, z_set1, z_set2, z_ret, z_retN, z_drop, z_dropK, z_if, z_brT, z_brF, z_for, z_forK, z_loop0, z_loop1, z_loopK, z_var0, z_varS, z_c, z_bin, z_binK1, z_binK2, z_test, z_asB, z_and, z_andT, z_andF, z_or, z_orT, z_orF, z_not, z_notK, z_andV, z_andVT, z_andVF, z_orV, z_orVT, z_orVF, z_notV, z_notVK, z_ifE, z_ifT, z_ifF, z_nil, z_cons, z_consK, z_consK2, z_tup, z_tupK, z_lst, z_lstK, z_un, z_unK, z_neg, z_cb, z_cbK, z_call, z_callK, z_star, z_starK, z_starK2, z_seqL, z_seqT, z_seqR, z_I, z_I0, z_mul, z_mulT, z_mulL, z_tupleR, z_tupM, z_lenP, z_lenM, z_add, z_addS, z_addL, z_addT, z_eqI, z_neI, z_eqB, z_neB, z_eqS, z_neS, z_isN, z_notN, z_ixL, z_ixT, z_ixR, z_ixM, z_atK, z_lenL, z_lenT, z_lenR, z_lenS, z_listL, z_listR, z_listT, z_tupleL, z_tupleT, z_sl, z_slK1, z_slK2, z_slK3, z_oNone, z_oSome, z_oK, z_slT, z_slL, z_slR, z_r1, z_r1K, z_r2, z_r2K, z_zip, z_zipL, z_zipT, z_iseq, z_meth, z_methK, z_methK2, z_app, z_appM, z_lc, isNon, Bool.not_true, Bool.not_false, z_at0, z_at1, z_at2, z_at3, z_mulS, z_okStr, z_join, z_intB, z_intI, z_dnew, z_setD, z_setD1, z_listD, z_listD1, z_par, z_parK, List.set_cons_zero, List.set_cons_succ, ix0, ix1, ix2, ix3, in1, in2, len4, updM_same, decide_eq_true h3, List.length_map, hn, decide_eq_false h4])
      refine ⟨size63 hl, ⟨by decide, by decide, by decide⟩, ?_⟩
      by_cases h5 : n < 10 ^ (18 : Int).toNat
      · (try simp only [z_seq, z_next, z_brk, z_cont, z_asg, z_asgK, z_gN, z_gSeq, z_gSeqL, z_gcons, z_gconsK, z_gnil, z_gsub, z_subK1, z_subK2, z_subK3, z_set, z_set1, z_set2, z_ret, z_retN, z_drop, z_dropK, z_if, z_brT, z_brF, z_for, z_forK, z_loop0, z_loop1, z_loopK, z_var0, z_varS, z_c, z_bin, z_binK1, z_binK2, z_test, z_asB, z_and, z_andT, z_andF, z_or, z_orT, z_orF, z_not, z_notK, z_andV, z_andVT, z_andVF, z_orV, z_orVT, z_orVF, z_notV, z_notVK, z_ifE, z_ifT, z_ifF, z_nil, z_cons, z_consK, z_consK2, z_tup, z_tupK, z_lst, z_lstK, z_un, z_unK, z_neg, z_cb, z_cbK, z_call, z_callK, z_star, z_starK, z_starK2, z_seqL, z_seqT, z_seqR, z_I, z_I0, z_mul, z_mulT, z_mulL, z_tupleR, z_tupM, z_lenP, z_lenM, z_add, z_addS, z_addL, z_addT, z_eqI, z_neI, z_eqB, z_neB, z_eqS, z_neS, z_isN, z_notN, z_ixL, z_ixT, z_ixR, z_ixM, z_atK, z_lenL, z_lenT, z_lenR, z_lenS, z_listL, z_listR, z_listT, z_tupleL, z_tupleT, z_sl, z_slK1, z_slK2, z_slK3, z_oNone, z_oSome, z_oK, z_slT, z_slL, z_slR, z_r1, z_r1K, z_r2, z_r2K, z_zip, z_zipL, z_zipT, z_iseq, z_meth, z_methK, z_methK2, z_app, z_appM, z_lc, isNon, Bool.not_true, Bool.not_false, z_at0, z_at1, z_at2, z_at3, z_mulS, z_okStr, z_join, z_intB, z_intI, z_dnew, z_setD, z_setD1, z_listD, z_listD1, z_par, z_parK, List.set_cons_zero, List.set_cons_succ, ix0, ix1, ix2, ix3, in1, in2, len4, updM_same, decide_eq_true h5])
        exact ⟨mul_small (by decide) (by decide), mul_small (by decide) (by decide), by decide, c1 _, by decide, c2 _, by decide, d8 _, hp, fin _ _ _ (by omega) (em _ _ hp).1 (em _ _ hp).2⟩
      · (try simp only [z_seq, z_next, z_brk, z_cont, z_asg, z_asgK, z_gN, z_gSeq, z_gSeqL, z_gcons, z_gconsK, z_gnil, z_gsub, z_subK1, z_subK2, z_subK3, z_set, z_set1, z_set2, z_ret, z_retN, z_drop, z_dropK, z_if, z_brT, z_brF, z_for, z_forK, z_loop0, z_loop1, z_loopK, z_var0, z_varS, z_c, z_bin, z_binK1, z_binK2, z_test, z_asB, z_and, z_andT, z_andF, z_or, z_orT, z_orF, z_not, z_notK, z_andV, z_andVT, z_andVF, z_orV, z_orVT, z_orVF, z_notV, z_notVK, z_ifE, z_ifT, z_ifF, z_nil, z_cons, z_consK, z_consK2, z_tup, z_tupK, z_lst, z_lstK, z_un, z_unK, z_neg, z_cb, z_cbK, z_call, z_callK, z_star, z_starK, z_starK2, z_seqL, z_seqT, z_seqR, z_I, z_I0, z_mul, z_mulT, z_mulL, z_tupleR, z_tupM, z_lenP, z_lenM, z_add, z_addS, z_addL, z_addT, z_eqI, z_neI, z_eqB, z_neB, z_eqS, z_neS, z_isN, z_notN, z_ixL, z_ixT, z_ixR, z_ixM, z_atK, z_lenL, z_lenT, z_lenR, z_lenS, z_listL, z_listR, z_listT, z_tupleL, z_tupleT, z_sl, z_slK1, z_slK2, z_slK3, z_oNone, z_oSome, z_oK, z_slT, z_slL, z_slR, z_r1, z_r1K, z_r2, z_r2K, z_zip, z_zipL, z_zipT, z_iseq, z_meth, z_methK, z_methK2, z_app, z_appM, z_lc, isNon, Bool.not_true, Bool.not_false, z_at0, z_at1, z_at2, z_at3, z_mulS, z_okStr, z_join, z_intB, z_intI, z_dnew, z_setD, z_setD1, z_listD, z_listD1, z_par, z_parK, List.set_cons_zero, List.set_cons_succ, ix0, ix1, ix2, ix3, in1, in2, len4, updM_same, updM_updM, decide_eq_false h5])
        exact ⟨hp, div_ok hp hw, fin _ _ _ (by omega) (em _ _ hp).1 (em _ _ hp).2⟩
    · have h4 : (cs.length : Int) < i + 1 := by omega
      (try simp only [z_seq, z_next, z_brk, z_cont, z_asg, z_asgK, z_gN, z_gSeq, z_gSeqL, z_gcons, z_gconsK, z_gnil, z_gsub, z_subK1, z_subK2, z_subK3, z_set, z_set1, z_set2, z_ret, z_retN, z_drop, z_dropK, z_if, z_brT, z_brF, z_for, z_forK, z_loop0, z_loop1, z_loopK, z_var0, z_varS, z_c, z_bin, z_binK1, z_binK2, z_test, z_asB, z_and, z_andT, z_andF, z_or, z_orT, z_orF, z_not, z_notK, z_andV, z_andVT, z_andVF, z_orV, z_orVT, z_orVF, z_notV, z_notVK, z_ifE, z_ifT, z_ifF, z_nil, z_cons, z_consK, z_consK2, z_tup, z_tupK, z_lst, z_lstK, z_un, z_unK, z_neg, z_cb, z_cbK, z_call, z_callK, z_star, z_starK, z_starK2, z_seqL, z_seqT, z_seqR, z_I, z_I0, z_mul, z_mulT, z_mulL, z_tupleR, z_tupM, z_lenP, z_lenM, z_add, z_addS, z_addL, z_addT, z_eqI, z_neI, z_eqB, z_neB, z_eqS, z_neS, z_isN, z_notN, z_ixL, z_ixT, z_ixR, z_ixM, z_atK, z_lenL, z_lenT, z_lenR, z_lenS, z_listL, z_listR, z_listT, z_tupleL, z_tupleT, z_sl, z_slK1, z_slK2, z_slK3, z_oNone, z_oSome, z_oK, z_slT, z_slL, z_slR, z_r1, z_r1K, z_r2, z_r2K, z_zip, z_zipL, z_zipT, z_iseq, z_meth, z_methK, z_methK2, z_app, z_appM, z_lc, isNon, Bool.not_true, Bool.not_false, z_at0, z_at1, z_at2, z_at3, z_mulS, z_okStr, z_join, z_intB, z_intI, z_dnew, z_setD, z_setD1, z_listD, z_listD1, z_par, z_parK, List.set_cons_zero, List.set_cons_succ, ix0, ix1, ix2, ix3, in1, in2, len4, updM_same, decide_eq_false h3, List.length_map, decide_eq_true h4])
      exact ⟨size63 hl, mul_small (by decide) (by decide), mul_small (by decide) (by decide), by decide, c1 _, by decide, c2 _, by decide, d8 _, hp, fin _ _ _ (by omega) (em _ _ hp).1 (em _ _ hp).2⟩
  · (try simp only [z_seq, z_next, z_brk, z_cont, z_asg, z_asgK, z_gN, z_gSeq, z_gSeqL, z_gcons, z_gconsK, z_gnil, z_gsub, z_subK1, z_subK2, z_subK3, z_set, z_set1, z_set2, z_ret, z_retN, z_drop, z_dropK, z_if, z_brT, z_brF, z_for, z_forK, z_loop0, z_loop1, z_loopK, z_var0, z_varS, z_c, z_bin, z_binK1, z_binK2, z_test, z_asB, z_and, z_andT, z_andF, z_or, z_orT, z_orF, z_not, z_notK, z_andV, z_andVT, z_andVF, z_orV, z_orVT, z_orVF, z_notV, z_notVK, z_ifE, z_ifT, z_ifF, z_nil, z_cons, z_consK, z_consK2, z_tup, z_tupK, z_lst, z_lstK, z_un, z_unK, z_neg, z_cb, z_cbK, z_call, z_callK, z_star, z_starK, z_starK2, z_seqL, z_seqT, z_seqR, z_I, z_I0, z_mul, z_mulT, z_mulL, z_tupleR, z_tupM, z_lenP, z_lenM, z_add, z_addS, z_addL, z_addT, z_eqI, z_neI, z_eqB, z_neB, z_eqS, z_neS, z_isN, z_notN, z_ixL, z_ixT, z_ixR, z_ixM, z_atK, z_lenL, z_lenT, z_lenR, z_lenS, z_listL, z_listR, z_listT, z_tupleL, z_tupleT, z_sl, z_slK1, z_slK2, z_slK3, z_oNone, z_oSome, z_oK, z_slT, z_slL, z_slR, z_r1, z_r1K, z_r2, z_r2K, z_zip, z_zipL, z_zipT, z_iseq, z_meth, z_methK, z_methK2, z_app, z_appM, z_lc, isNon, Bool.not_true, Bool.not_false, z_at0, z_at1, z_at2, z_at3, z_mulS, z_okStr, z_join, z_intB, z_intI, z_dnew, z_setD, z_setD1, z_listD, z_listD1, z_par, z_parK, List.set_cons_zero, List.set_cons_succ, decide_eq_false h])
    exact tail M v i _ _ _ h0 hM (fun _ => rfl)

theorem Drawn.refl {b : Addr} {M : MS} (h : BoxAt M b) : Drawn b M M := ⟨h, fun _ _ => rfl⟩
theorem Drawn.trans {b : Addr} {M M1 M2 : MS} (a : Drawn b M M1) (c : Drawn b M1 M2) : Drawn b M M2 := ⟨c.1, fun x h => (c.2 x h).trans (a.2 x h)⟩
/-! the box is made -/
def c_box (a0 a1 : Int) : CS :=
  (cSeq (cAsg (cCB ρList (cCons (cSl (cVar 0) oNone (oSome (cC (.int 63)))) cNil)) (gN 1))
    (cSeq (cAsg (cBin ρAdd (cC (.int a0)) (cBin ρMul (cC (.int a1)) (cCB ρLen (cCons (cVar 1) cNil)))) (gN 2))
    (cSeq (cFor (ciSeq (cVar 1)) (gN 3) (cAsg (cBin ρMod (cBin ρAdd (cBin ρMul (cVar 2) (cC (.int 1709))) (cVar 3)) (cC (.int 2147483587))) (gN 2)))
    (cRet (cLst (cCons (cVar 1) (cCons (cC (.int 0)) (cCons (cC (.int 0)) (cCons (cVar 2) cNil)))))))))
def sp__law_a_box : SpD := fun ds M k _ => ∃ ns : List Int, ds = [.rd (ns.map D.int)] ∧ ns.length ≤ 63 ∧ ∀ b M', M b = none → BoxAt M' b → (∀ a, a ≠ b → M' a = M a) → k (.ref b) M'
theorem mono__law_a_box : MonoS sp__law_a_box := fun _ _ _ _ _ _ h _ ⟨ns, e, h1, q⟩ => ⟨ns, e, h1, fun r M' a1 a2 a3 => h _ _ (q r M' a1 a2 a3)⟩
theorem cut_all {ds : List D} (h : ds.length ≤ 63) : cutD ds none (some 63) = ds := by
  unfold cutD
  have e1 : HT.sIx ds.length 0 (none : Option Int) = 0 := rfl
  have e2 : HT.sIx ds.length ds.length (some (63 : Int)) = ds.length := by
    rw [show (63 : Int) = ((63 : Nat) : Int) from rfl, HT.sIx_nat]
    omega
  rw [e1, e2]
  simp
theorem main__law_box (a0 a1 : Int) (ha : -1000000 < a1 ∧ a1 < 1000000) : ∀ ds M k, sp__law_a_box ds M k (fun _ _ _ => False) → c_box a0 a1 { nx := fun _ M' => k .non M', rt := k } (startD 4 ds) M := by
  rintro ds M k ⟨ns, rfl, hl, q⟩
  show c_box a0 a1 _ [some (.rd (ns.map D.int)), none, none, none] M
  unfold c_box
  (try simp only [z_seq, z_next, z_brk, z_cont, z_asg, z_asgK, z_gN, z_gSeq, z_gSeqL, z_gcons, z_gconsK, z_gnil, z_gsub, z_subK1, z_subK2, z_subK3, z_set, z_set1, z_set2, z_ret, z_retN, z_drop, z_dropK, z_if, z_brT, z_brF, z_for, z_forK, z_loop0, z_loop1, z_loopK, z_var0, z_varS, z_c, z_bin, z_binK1, z_binK2, z_test, z_asB, z_and, z_andT, z_andF, z_or, z_orT, z_orF, z_not, z_notK, z_andV, z_andVT, z_andVF, z_orV, z_orVT, z_orVF, z_notV, z_notVK, z_ifE, z_ifT, z_ifF, z_nil, z_cons, z_consK, z_consK2, z_tup, z_tupK, z_lst, z_lstK, z_un, z_unK, z_neg, z_cb, z_cbK, z_call, z_callK, z_star, z_starK, z_starK2, z_seqL, z_seqT, z_seqR, z_I, z_I0, z_mul, z_mulT, z_mulL, z_tupleR, z_tupM, z_lenP, z_lenM, z_add, z_addS, z_addL, z_addT, z_eqI, z_neI, z_eqB, z_neB, z_eqS, z_neS, z_isN, z_notN, z_ixL, z_ixT, z_ixR, z_ixM, z_atK, z_lenL, z_lenT, z_lenR, z_lenS, z_listL, z_listR, z_listT, z_tupleL, z_tupleT, z_sl, z_slK1, z_slK2, z_slK3, z_oNone, z_oSome, z_oK, z_slT, z_slL, z_slR, z_r1, z_r1K, z_r2, z_r2K, z_zip, z_zipL, z_zipT, z_iseq, z_meth, z_methK, z_methK2, z_app, z_appM, z_lc, isNon, Bool.not_true, Bool.not_false, z_at0, z_at1, z_at2, z_at3, z_mulS, z_okStr, z_join, z_intB, z_intI, z_dnew, z_setD, z_setD1, z_listD, z_listD1, z_par, z_parK, List.set_cons_zero, List.set_cons_succ])
  refine .inl ?_
  rw [cut_all (by rw [List.length_map]; exact hl)]
  (try simp only [z_seq, z_next, z_brk, z_cont, z_asg, z_asgK, z_gN, z_gSeq, z_gSeqL, z_gcons, z_gconsK, z_gnil, z_gsub, z_subK1, z_subK2, z_subK3, z_set, z_set1, z_set2, z_ret, z_retN, z_drop, z_dropK, z_if, z_brT, z_brF, z_for, z_forK, z_loop0, z_loop1, z_loopK, z_var0, z_varS, z_c, z_bin, z_binK1, z_binK2, z_test, z_asB, z_and, z_andT, z_andF, z_or, z_orT, z_orF, z_not, z_notK, z_andV, z_andVT, z_andVF, z_orV, z_orVT, z_orVF, z_notV, z_notVK, z_ifE, z_ifT, z_ifF, z_nil, z_cons, z_consK, z_consK2, z_tup, z_tupK, z_lst, z_lstK, z_un, z_unK, z_neg, z_cb, z_cbK, z_call, z_callK, z_star, z_starK, z_starK2, z_seqL, z_seqT, z_seqR, z_I, z_I0, z_mul, z_mulT, z_mulL, z_tupleR, z_tupM, z_lenP, z_lenM, z_add, z_addS, z_addL, z_addT, z_eqI, z_neI, z_eqB, z_neB, z_eqS, z_neS, z_isN, z_notN, z_ixL, z_ixT, z_ixR, z_ixM, z_atK, z_lenL, z_lenT, z_lenR, z_lenS, z_listL, z_listR, z_listT, z_tupleL, z_tupleT, z_sl, z_slK1, z_slK2, z_slK3, z_oNone, z_oSome, z_oK, z_slT, z_slL, z_slR, z_r1, z_r1K, z_r2, z_r2K, z_zip, z_zipL, z_zipT, z_iseq, z_meth, z_methK, z_methK2, z_app, z_appM, z_lc, isNon, Bool.not_true, Bool.not_false, z_at0, z_at1, z_at2, z_at3, z_mulS, z_okStr, z_join, z_intB, z_intI, z_dnew, z_setD, z_setD1, z_listD, z_listD1, z_par, z_parK, List.set_cons_zero, List.set_cons_succ, List.length_map])
  refine .inl ?_
  (try simp only [z_seq, z_next, z_brk, z_cont, z_asg, z_asgK, z_gN, z_gSeq, z_gSeqL, z_gcons, z_gconsK, z_gnil, z_gsub, z_subK1, z_subK2, z_subK3, z_set, z_set1, z_set2, z_ret, z_retN, z_drop, z_dropK, z_if, z_brT, z_brF, z_for, z_forK, z_loop0, z_loop1, z_loopK, z_var0, z_varS, z_c, z_bin, z_binK1, z_binK2, z_test, z_asB, z_and, z_andT, z_andF, z_or, z_orT, z_orF, z_not, z_notK, z_andV, z_andVT, z_andVF, z_orV, z_orVT, z_orVF, z_notV, z_notVK, z_ifE, z_ifT, z_ifF, z_nil, z_cons, z_consK, z_consK2, z_tup, z_tupK, z_lst, z_lstK, z_un, z_unK, z_neg, z_cb, z_cbK, z_call, z_callK, z_star, z_starK, z_starK2, z_seqL, z_seqT, z_seqR, z_I, z_I0, z_mul, z_mulT, z_mulL, z_tupleR, z_tupM, z_lenP, z_lenM, z_add, z_addS, z_addL, z_addT, z_eqI, z_neI, z_eqB, z_neB, z_eqS, z_neS, z_isN, z_notN, z_ixL, z_ixT, z_ixR, z_ixM, z_atK, z_lenL, z_lenT, z_lenR, z_lenS, z_listL, z_listR, z_listT, z_tupleL, z_tupleT, z_sl, z_slK1, z_slK2, z_slK3, z_oNone, z_oSome, z_oK, z_slT, z_slL, z_slR, z_r1, z_r1K, z_r2, z_r2K, z_zip, z_zipL, z_zipT, z_iseq, z_meth, z_methK, z_methK2, z_app, z_appM, z_lc, isNon, Bool.not_true, Bool.not_false, z_at0, z_at1, z_at2, z_at3, z_mulS, z_okStr, z_join, z_intB, z_intI, z_dnew, z_setD, z_setD1, z_listD, z_listD1, z_par, z_parK, List.set_cons_zero, List.set_cons_succ, List.length_map])
  refine ⟨size63 hl, .inl (.inl ⟨by omega, by omega⟩), ?_⟩
  have loop : ∀ (r : List Int) (m : Int) (o : Option D), loopD (gN 3) (cAsg (cBin ρMod (cBin ρAdd (cBin ρMul (cVar 2) (cC (.int 1709))) (cVar 3)) (cC (.int 2147483587))) (gN 2))
      { nx := cRet (cLst (cCons (cVar 1) (cCons (cC (.int 0)) (cCons (cC (.int 0)) (cCons (cVar 2) cNil))))) { nx := fun x M' => k D.non M', rt := k }, rt := k } (r.map D.int) [some (.rd (ns.map D.int)), some (.lst (ns.map D.int)), some (.int m), o] M := by
    intro r
    induction r with
    | nil =>
      intro m o
      simp only [List.map]
      (try simp only [z_seq, z_next, z_brk, z_cont, z_asg, z_asgK, z_gN, z_gSeq, z_gSeqL, z_gcons, z_gconsK, z_gnil, z_gsub, z_subK1, z_subK2, z_subK3, z_set, z_set1, z_set2, z_ret, z_retN, z_drop, z_dropK, z_if, z_brT, z_brF, z_for, z_forK, z_loop0, z_loop1, z_loopK, z_var0, z_varS, z_c, z_bin, z_binK1, z_binK2, z_test, z_asB, z_and, z_andT, z_andF, z_or, z_orT, z_orF, z_not, z_notK, z_andV, z_andVT, z_andVF, z_orV, z_orVT, z_orVF, z_notV, z_notVK, z_ifE, z_ifT, z_ifF, z_nil, z_cons, z_consK, z_consK2, z_tup, z_tupK, z_lst, z_lstK, z_un, z_unK, z_neg, z_cb, z_cbK, z_call, z_callK, z_star, z_starK, z_starK2, z_seqL, z_seqT, z_seqR, z_I, z_I0, z_mul, z_mulT, z_mulL, z_tupleR, z_tupM, z_lenP, z_lenM, z_add, z_addS, z_addL, z_addT, z_eqI, z_neI, z_eqB, z_neB, z_eqS, z_neS, z_isN, z_notN, z_ixL, z_ixT, z_ixR, z_ixM, z_atK, z_lenL, z_lenT, z_lenR, z_lenS, z_listL, z_listR, z_listT, z_tupleL, z_tupleT, z_sl, z_slK1, z_slK2, z_slK3, z_oNone, z_oSome, z_oK, z_slT, z_slL, z_slR, z_r1, z_r1K, z_r2, z_r2K, z_zip, z_zipL, z_zipT, z_iseq, z_meth, z_methK, z_methK2, z_app, z_appM, z_lc, isNon, Bool.not_true, Bool.not_false, z_at0, z_at1, z_at2, z_at3, z_mulS, z_okStr, z_join, z_intB, z_intI, z_dnew, z_setD, z_setD1, z_listD, z_listD1, z_par, z_parK, List.set_cons_zero, List.set_cons_succ])
      refine ⟨(by rw [sizeLine_eq]; show 4 ≤ 16777216; decide), .inr fun b nb => ?_⟩
      exact q b _ nb ⟨ns, 0, 0, m, updM_same, hl, by decide⟩ (fun a ha => updM_ne ha)
    | cons x r ih =>
      intro m o
      simp only [List.map]
      (try simp only [z_seq, z_next, z_brk, z_cont, z_asg, z_asgK, z_gN, z_gSeq, z_gSeqL, z_gcons, z_gconsK, z_gnil, z_gsub, z_subK1, z_subK2, z_subK3, z_set, z_set1, z_set2, z_ret, z_retN, z_drop, z_dropK, z_if, z_brT, z_brF, z_for, z_forK, z_loop0, z_loop1, z_loopK, z_var0, z_varS, z_c, z_bin, z_binK1, z_binK2, z_test, z_asB, z_and, z_andT, z_andF, z_or, z_orT, z_orF, z_not, z_notK, z_andV, z_andVT, z_andVF, z_orV, z_orVT, z_orVF, z_notV, z_notVK, z_ifE, z_ifT, z_ifF, z_nil, z_cons, z_consK, z_consK2, z_tup, z_tupK, z_lst, z_lstK, z_un, z_unK, z_neg, z_cb, z_cbK, z_call, z_callK, z_star, z_starK, z_starK2, z_seqL, z_seqT, z_seqR, z_I, z_I0, z_mul, z_mulT, z_mulL, z_tupleR, z_tupM, z_lenP, z_lenM, z_add, z_addS, z_addL, z_addT, z_eqI, z_neI, z_eqB, z_neB, z_eqS, z_neS, z_isN, z_notN, z_ixL, z_ixT, z_ixR, z_ixM, z_atK, z_lenL, z_lenT, z_lenR, z_lenS, z_listL, z_listR, z_listT, z_tupleL, z_tupleT, z_sl, z_slK1, z_slK2, z_slK3, z_oNone, z_oSome, z_oK, z_slT, z_slL, z_slR, z_r1, z_r1K, z_r2, z_r2K, z_zip, z_zipL, z_zipT, z_iseq, z_meth, z_methK, z_methK2, z_app, z_appM, z_lc, isNon, Bool.not_true, Bool.not_false, z_at0, z_at1, z_at2, z_at3, z_mulS, z_okStr, z_join, z_intB, z_intI, z_dnew, z_setD, z_setD1, z_listD, z_listD1, z_par, z_parK, List.set_cons_zero, List.set_cons_succ])
      exact ⟨mul_small (by decide) (by decide), by decide, ih _ _⟩
  exact loop ns _ none
/-! an item of a row -/
def c__law_any : CS :=
  (cRet (cBin ρIx (cVar 1) (cCall (NoX sp__law_draw) (cCons (cVar 0) (cCons (cCB ρLen (cCons (cVar 1) cNil)) cNil)))))
/-- the letters of a text -/
def chars (z : Str) : List D := z.cps.toList.map fun c => D.str ⟨#[c]⟩
def sp__law_any : SpD := fun ds M k _ => ∃ b row, (ds = [.ref b, .lst row] ∨ ∃ z, ds = [.ref b, .str z] ∧ row = chars z) ∧ BoxAt M b ∧ row ≠ [] ∧ row.length ≤ 1000000 ∧ ∀ d M', d ∈ row → Drawn b M M' → k d M'
theorem mono__law_any : MonoS sp__law_any := fun _ _ _ _ _ _ h _ ⟨b, row, e, h1, h2, h3, q⟩ => ⟨b, row, e, h1, h2, h3, fun d M' a1 a2 => h _ _ (q d M' a1 a2)⟩
theorem size1M {n : Nat} (h : n ≤ 1000000) : n ≤ sizeLine := by rw [sizeLine_eq]; omega
theorem size1ML {n : Nat} (h : n ≤ 1000000) : n < sizeLine := by rw [sizeLine_eq]; omega
theorem atI_mem {α : Type} {row : List α} {r : Int} (h0 : 0 ≤ r) (h1 : r < row.length) : ∃ d, L2.atI row r = some d ∧ d ∈ row := by
  obtain ⟨n, rfl⟩ := Int.eq_ofNat_of_zero_le h0
  have hn : n < row.length := by omega
  exact ⟨row[n], L2.atI_nat (List.getElem?_eq_getElem hn), List.getElem_mem hn⟩
theorem z_ixS {z : Str} {i : Int} {M : MS} {k : KD} : ρIx (.str z) (.int i) M k = (z.length ≤ sizeLine ∧ atK ((L2.atI z.cps.toList i).map fun c => D.str ⟨#[c]⟩) M k) := rfl
theorem main__law_any : ∀ ds M k, sp__law_any ds M k (fun _ _ _ => False) → c__law_any { nx := fun _ M' => k .non M', rt := k } (startD 2 ds) M := by
  rintro ds M k ⟨b, row, rfl | ⟨z, rfl, rfl⟩, hb, hne, hl, q⟩
  · show c__law_any _ [some (.ref b), some (.lst row)] M
    unfold c__law_any
    (try simp only [z_seq, z_next, z_brk, z_cont, z_asg, z_asgK, z_gN, z_gSeq, z_gSeqL, z_gcons, z_gconsK, z_gnil, z_gsub, z_subK1, z_subK2, z_subK3, z_set, z_set1, z_set2, z_ret, z_retN, z_drop, z_dropK, z_if, z_brT, z_brF, z_for, z_forK, z_loop0, z_loop1, z_loopK, z_var0, z_varS, z_c, z_bin, z_binK1, z_binK2, z_test, z_asB, z_and, z_andT, z_andF, z_or, z_orT, z_orF, z_not, z_notK, z_andV, z_andVT, z_andVF, z_orV, z_orVT, z_orVF, z_notV, z_notVK, z_ifE, z_ifT, z_ifF, z_nil, z_cons, z_consK, z_consK2, z_tup, z_tupK, z_lst, z_lstK, z_un, z_unK, z_neg, z_cb, z_cbK, z_call, z_callK, z_star, z_starK, z_starK2, z_seqL, z_seqT, z_seqR, z_I, z_I0, z_mul, z_mulT, z_mulL, z_tupleR, z_tupM, z_lenP, z_lenM, z_add, z_addS, z_addL, z_addT, z_eqI, z_neI, z_eqB, z_neB, z_eqS, z_neS, z_isN, z_notN, z_ixL, z_ixT, z_ixR, z_ixM, z_atK, z_lenL, z_lenT, z_lenR, z_lenS, z_listL, z_listR, z_listT, z_tupleL, z_tupleT, z_sl, z_slK1, z_slK2, z_slK3, z_oNone, z_oSome, z_oK, z_slT, z_slL, z_slR, z_r1, z_r1K, z_r2, z_r2K, z_zip, z_zipL, z_zipT, z_iseq, z_meth, z_methK, z_methK2, z_app, z_appM, z_lc, isNon, Bool.not_true, Bool.not_false, z_at0, z_at1, z_at2, z_at3, z_mulS, z_okStr, z_join, z_intB, z_intI, z_dnew, z_setD, z_setD1, z_listD, z_listD1, z_par, z_parK, List.set_cons_zero, List.set_cons_succ])
    have hp : 0 < row.length := by cases row with | nil => exact absurd rfl hne | cons _ _ => exact Nat.succ_pos _
    refine ⟨size1M hl, b, row.length, rfl, hb, by omega, by omega, fun r M' h0 h1 hd => ?_⟩
    obtain ⟨d, e, hm⟩ := atI_mem h0 h1
    (try simp only [z_seq, z_next, z_brk, z_cont, z_asg, z_asgK, z_gN, z_gSeq, z_gSeqL, z_gcons, z_gconsK, z_gnil, z_gsub, z_subK1, z_subK2, z_subK3, z_set, z_set1, z_set2, z_ret, z_retN, z_drop, z_dropK, z_if, z_brT, z_brF, z_for, z_forK, z_loop0, z_loop1, z_loopK, z_var0, z_varS, z_c, z_bin, z_binK1, z_binK2, z_test, z_asB, z_and, z_andT, z_andF, z_or, z_orT, z_orF, z_not, z_notK, z_andV, z_andVT, z_andVF, z_orV, z_orVT, z_orVF, z_notV, z_notVK, z_ifE, z_ifT, z_ifF, z_nil, z_cons, z_consK, z_consK2, z_tup, z_tupK, z_lst, z_lstK, z_un, z_unK, z_neg, z_cb, z_cbK, z_call, z_callK, z_star, z_starK, z_starK2, z_seqL, z_seqT, z_seqR, z_I, z_I0, z_mul, z_mulT, z_mulL, z_tupleR, z_tupM, z_lenP, z_lenM, z_add, z_addS, z_addL, z_addT, z_eqI, z_neI, z_eqB, z_neB, z_eqS, z_neS, z_isN, z_notN, z_ixL, z_ixT, z_ixR, z_ixM, z_atK, z_lenL, z_lenT, z_lenR, z_lenS, z_listL, z_listR, z_listT, z_tupleL, z_tupleT, z_sl, z_slK1, z_slK2, z_slK3, z_oNone, z_oSome, z_oK, z_slT, z_slL, z_slR, z_r1, z_r1K, z_r2, z_r2K, z_zip, z_zipL, z_zipT, z_iseq, z_meth, z_methK, z_methK2, z_app, z_appM, z_lc, isNon, Bool.not_true, Bool.not_false, z_at0, z_at1, z_at2, z_at3, z_mulS, z_okStr, z_join, z_intB, z_intI, z_dnew, z_setD, z_setD1, z_listD, z_listD1, z_par, z_parK, List.set_cons_zero, List.set_cons_succ, e])
    exact q d M' hm hd
  · show c__law_any _ [some (.ref b), some (.str z)] M
    unfold c__law_any
    (try simp only [z_seq, z_next, z_brk, z_cont, z_asg, z_asgK, z_gN, z_gSeq, z_gSeqL, z_gcons, z_gconsK, z_gnil, z_gsub, z_subK1, z_subK2, z_subK3, z_set, z_set1, z_set2, z_ret, z_retN, z_drop, z_dropK, z_if, z_brT, z_brF, z_for, z_forK, z_loop0, z_loop1, z_loopK, z_var0, z_varS, z_c, z_bin, z_binK1, z_binK2, z_test, z_asB, z_and, z_andT, z_andF, z_or, z_orT, z_orF, z_not, z_notK, z_andV, z_andVT, z_andVF, z_orV, z_orVT, z_orVF, z_notV, z_notVK, z_ifE, z_ifT, z_ifF, z_nil, z_cons, z_consK, z_consK2, z_tup, z_tupK, z_lst, z_lstK, z_un, z_unK, z_neg, z_cb, z_cbK, z_call, z_callK, z_star, z_starK, z_starK2, z_seqL, z_seqT, z_seqR, z_I, z_I0, z_mul, z_mulT, z_mulL, z_tupleR, z_tupM, z_lenP, z_lenM, z_add, z_addS, z_addL, z_addT, z_eqI, z_neI, z_eqB, z_neB, z_eqS, z_neS, z_isN, z_notN, z_ixL, z_ixT, z_ixR, z_ixM, z_atK, z_lenL, z_lenT, z_lenR, z_lenS, z_listL, z_listR, z_listT, z_tupleL, z_tupleT, z_sl, z_slK1, z_slK2, z_slK3, z_oNone, z_oSome, z_oK, z_slT, z_slL, z_slR, z_r1, z_r1K, z_r2, z_r2K, z_zip, z_zipL, z_zipT, z_iseq, z_meth, z_methK, z_methK2, z_app, z_appM, z_lc, isNon, Bool.not_true, Bool.not_false, z_at0, z_at1, z_at2, z_at3, z_mulS, z_okStr, z_join, z_intB, z_intI, z_dnew, z_setD, z_setD1, z_listD, z_listD1, z_par, z_parK, List.set_cons_zero, List.set_cons_succ])
    have el : z.length = z.cps.toList.length := by rw [Array.length_toList]; rfl
    have hp : 0 < z.length := by
      rw [el]
      unfold chars at hne
      cases e : z.cps.toList with | nil => rw [e] at hne; exact absurd rfl hne | cons _ _ => exact Nat.succ_pos _
    unfold chars at hl
    rw [List.length_map, ← el] at hl
    refine ⟨size1M hl, b, z.length, rfl, hb, by omega, by omega, fun r M' h0 h1 hd => ?_⟩
    obtain ⟨c, e, hm⟩ := atI_mem (row := z.cps.toList) h0 (by rw [← el]; exact h1)
    (try simp only [z_seq, z_next, z_brk, z_cont, z_asg, z_asgK, z_gN, z_gSeq, z_gSeqL, z_gcons, z_gconsK, z_gnil, z_gsub, z_subK1, z_subK2, z_subK3, z_set, z_set1, z_set2, z_ret, z_retN, z_drop, z_dropK, z_if, z_brT, z_brF, z_for, z_forK, z_loop0, z_loop1, z_loopK, z_var0, z_varS, z_c, z_bin, z_binK1, z_binK2, z_test, z_asB, z_and, z_andT, z_andF, z_or, z_orT, z_orF, z_not, z_notK, z_andV, z_andVT, z_andVF, z_orV, z_orVT, z_orVF, z_notV, z_notVK, z_ifE, z_ifT, z_ifF, z_nil, z_cons, z_consK, z_consK2, z_tup, z_tupK, z_lst, z_lstK, z_un, z_unK, z_neg, z_cb, z_cbK, z_call, z_callK, z_star, z_starK, z_starK2, z_seqL, z_seqT, z_seqR, z_I, z_I0, z_mul, z_mulT, z_mulL, z_tupleR, z_tupM, z_lenP, z_lenM, z_add, z_addS, z_addL, z_addT, z_eqI, z_neI, z_eqB, z_neB, z_eqS, z_neS, z_isN, z_notN, z_ixL, z_ixT, z_ixR, z_ixM, z_atK, z_lenL, z_lenT, z_lenR, z_lenS, z_listL, z_listR, z_listT, z_tupleL, z_tupleT, z_sl, z_slK1, z_slK2, z_slK3, z_oNone, z_oSome, z_oK, z_slT, z_slL, z_slR, z_r1, z_r1K, z_r2, z_r2K, z_zip, z_zipL, z_zipT, z_iseq, z_meth, z_methK, z_methK2, z_app, z_appM, z_lc, isNon, Bool.not_true, Bool.not_false, z_at0, z_at1, z_at2, z_at3, z_mulS, z_okStr, z_join, z_intB, z_intI, z_dnew, z_setD, z_setD1, z_listD, z_listD1, z_par, z_parK, List.set_cons_zero, List.set_cons_succ, z_ixS, e, Option.map_some])
    exact ⟨size1M hl, q _ M' (List.mem_map_of_mem hm) hd⟩
/-! two data are the same -/
inductive Plain : Nat → D → Prop
  | non {n : Nat} : Plain n .non
  | bl {n : Nat} (b : Bool) : Plain n (.bl b)
  | int {n : Nat} (i : Int) : Plain n (.int i)
  | str {n : Nat} (x : Str) : Plain n (.str x)
  | tup {n : Nat} {xs : List D} (hl : xs.length ≤ 1000000) (h : ∀ x, x ∈ xs → Plain n x) : Plain (n + 1) (.tup xs)
  | lst {n : Nat} {xs : List D} (hl : xs.length ≤ 1000000) (h : ∀ x, x ∈ xs → Plain n x) : Plain (n + 1) (.lst xs)
theorem Plain.up {n : Nat} {d : D} (h : Plain n d) : Plain (n + 1) d := by
  induction h with
  | non => exact .non
  | bl b => exact .bl b
  | int i => exact .int i
  | str x => exact .str x
  | tup hl _ ih => exact .tup hl ih
  | lst hl _ ih => exact .lst hl ih
def c__law_whole : CS :=
  (cRet (cAndV (cCB ρIsi (cCons (cVar 0) (cCons (cC (.ty "int")) cNil))) (cNotV (cCB ρIsi (cCons (cVar 0) (cCons (cC (.ty "bool")) cNil))))))
def sp__law_whole : SpD := spP fun ds r => (∃ i, ds = [.int i] ∧ r = .bl true) ∨ (∃ b, ds = [.bl b] ∧ r = .bl false)
theorem main__law_whole : ∀ ds M k, sp__law_whole ds M k (fun _ _ _ => False) → c__law_whole { nx := fun _ M' => k .non M', rt := k } (startD 1 ds) M := by
  rintro ds M k ⟨r, ⟨i, rfl, rfl⟩ | ⟨b, rfl, rfl⟩, q⟩
  · show c__law_whole _ [some (.int i)] M
    unfold c__law_whole
    (try simp only [z_seq, z_next, z_brk, z_cont, z_asg, z_asgK, z_gN, z_gSeq, z_gSeqL, z_gcons, z_gconsK, z_gnil, z_gsub, z_subK1, z_subK2, z_subK3, z_set, z_set1, z_set2, z_ret, z_retN, z_drop, z_dropK, z_if, z_brT, z_brF, z_for, z_forK, z_loop0, z_loop1, z_loopK, z_var0, z_varS, z_c, z_bin, z_binK1, z_binK2, z_test, z_asB, z_and, z_andT, z_andF, z_or, z_orT, z_orF, z_not, z_notK, z_andV, z_andVT, z_andVF, z_orV, z_orVT, z_orVF, z_notV, z_notVK, z_ifE, z_ifT, z_ifF, z_nil, z_cons, z_consK, z_consK2, z_tup, z_tupK, z_lst, z_lstK, z_un, z_unK, z_neg, z_cb, z_cbK, z_call, z_callK, z_star, z_starK, z_starK2, z_seqL, z_seqT, z_seqR, z_I, z_I0, z_mul, z_mulT, z_mulL, z_tupleR, z_tupM, z_lenP, z_lenM, z_add, z_addS, z_addL, z_addT, z_eqI, z_neI, z_eqB, z_neB, z_eqS, z_neS, z_isN, z_notN, z_ixL, z_ixT, z_ixR, z_ixM, z_atK, z_lenL, z_lenT, z_lenR, z_lenS, z_listL, z_listR, z_listT, z_tupleL, z_tupleT, z_sl, z_slK1, z_slK2, z_slK3, z_oNone, z_oSome, z_oK, z_slT, z_slL, z_slR, z_r1, z_r1K, z_r2, z_r2K, z_zip, z_zipL, z_zipT, z_iseq, z_meth, z_methK, z_methK2, z_app, z_appM, z_lc, isNon, Bool.not_true, Bool.not_false, z_at0, z_at1, z_at2, z_at3, z_mulS, z_okStr, z_join, z_intB, z_intI, z_dnew, z_setD, z_setD1, z_listD, z_listD1, z_par, z_parK, List.set_cons_zero, List.set_cons_succ])
    refine z_isi (q := true) rfl (by decide +kernel) ?_
    (try simp only [z_seq, z_next, z_brk, z_cont, z_asg, z_asgK, z_gN, z_gSeq, z_gSeqL, z_gcons, z_gconsK, z_gnil, z_gsub, z_subK1, z_subK2, z_subK3, z_set, z_set1, z_set2, z_ret, z_retN, z_drop, z_dropK, z_if, z_brT, z_brF, z_for, z_forK, z_loop0, z_loop1, z_loopK, z_var0, z_varS, z_c, z_bin, z_binK1, z_binK2, z_test, z_asB, z_and, z_andT, z_andF, z_or, z_orT, z_orF, z_not, z_notK, z_andV, z_andVT, z_andVF, z_orV, z_orVT, z_orVF, z_notV, z_notVK, z_ifE, z_ifT, z_ifF, z_nil, z_cons, z_consK, z_consK2, z_tup, z_tupK, z_lst, z_lstK, z_un, z_unK, z_neg, z_cb, z_cbK, z_call, z_callK, z_star, z_starK, z_starK2, z_seqL, z_seqT, z_seqR, z_I, z_I0, z_mul, z_mulT, z_mulL, z_tupleR, z_tupM, z_lenP, z_lenM, z_add, z_addS, z_addL, z_addT, z_eqI, z_neI, z_eqB, z_neB, z_eqS, z_neS, z_isN, z_notN, z_ixL, z_ixT, z_ixR, z_ixM, z_atK, z_lenL, z_lenT, z_lenR, z_lenS, z_listL, z_listR, z_listT, z_tupleL, z_tupleT, z_sl, z_slK1, z_slK2, z_slK3, z_oNone, z_oSome, z_oK, z_slT, z_slL, z_slR, z_r1, z_r1K, z_r2, z_r2K, z_zip, z_zipL, z_zipT, z_iseq, z_meth, z_methK, z_methK2, z_app, z_appM, z_lc, isNon, Bool.not_true, Bool.not_false, z_at0, z_at1, z_at2, z_at3, z_mulS, z_okStr, z_join, z_intB, z_intI, z_dnew, z_setD, z_setD1, z_listD, z_listD1, z_par, z_parK, List.set_cons_zero, List.set_cons_succ])
    refine z_isi (q := false) rfl (by decide +kernel) ?_
    (try simp only [z_seq, z_next, z_brk, z_cont, z_asg, z_asgK, z_gN, z_gSeq, z_gSeqL, z_gcons, z_gconsK, z_gnil, z_gsub, z_subK1, z_subK2, z_subK3, z_set, z_set1, z_set2, z_ret, z_retN, z_drop, z_dropK, z_if, z_brT, z_brF, z_for, z_forK, z_loop0, z_loop1, z_loopK, z_var0, z_varS, z_c, z_bin, z_binK1, z_binK2, z_test, z_asB, z_and, z_andT, z_andF, z_or, z_orT, z_orF, z_not, z_notK, z_andV, z_andVT, z_andVF, z_orV, z_orVT, z_orVF, z_notV, z_notVK, z_ifE, z_ifT, z_ifF, z_nil, z_cons, z_consK, z_consK2, z_tup, z_tupK, z_lst, z_lstK, z_un, z_unK, z_neg, z_cb, z_cbK, z_call, z_callK, z_star, z_starK, z_starK2, z_seqL, z_seqT, z_seqR, z_I, z_I0, z_mul, z_mulT, z_mulL, z_tupleR, z_tupM, z_lenP, z_lenM, z_add, z_addS, z_addL, z_addT, z_eqI, z_neI, z_eqB, z_neB, z_eqS, z_neS, z_isN, z_notN, z_ixL, z_ixT, z_ixR, z_ixM, z_atK, z_lenL, z_lenT, z_lenR, z_lenS, z_listL, z_listR, z_listT, z_tupleL, z_tupleT, z_sl, z_slK1, z_slK2, z_slK3, z_oNone, z_oSome, z_oK, z_slT, z_slL, z_slR, z_r1, z_r1K, z_r2, z_r2K, z_zip, z_zipL, z_zipT, z_iseq, z_meth, z_methK, z_methK2, z_app, z_appM, z_lc, isNon, Bool.not_true, Bool.not_false, z_at0, z_at1, z_at2, z_at3, z_mulS, z_okStr, z_join, z_intB, z_intI, z_dnew, z_setD, z_setD1, z_listD, z_listD1, z_par, z_parK, List.set_cons_zero, List.set_cons_succ])
    exact q
  · show c__law_whole _ [some (.bl b)] M
    unfold c__law_whole
    (try simp only [z_seq, z_next, z_brk, z_cont, z_asg, z_asgK, z_gN, z_gSeq, z_gSeqL, z_gcons, z_gconsK, z_gnil, z_gsub, z_subK1, z_subK2, z_subK3, z_set, z_set1, z_set2, z_ret, z_retN, z_drop, z_dropK, z_if, z_brT, z_brF, z_for, z_forK, z_loop0, z_loop1, z_loopK, z_var0, z_varS, z_c, z_bin, z_binK1, z_binK2, z_test, z_asB, z_and, z_andT, z_andF, z_or, z_orT, z_orF, z_not, z_notK, z_andV, z_andVT, z_andVF, z_orV, z_orVT, z_orVF, z_notV, z_notVK, z_ifE, z_ifT, z_ifF, z_nil, z_cons, z_consK, z_consK2, z_tup, z_tupK, z_lst, z_lstK, z_un, z_unK, z_neg, z_cb, z_cbK, z_call, z_callK, z_star, z_starK, z_starK2, z_seqL, z_seqT, z_seqR, z_I, z_I0, z_mul, z_mulT, z_mulL, z_tupleR, z_tupM, z_lenP, z_lenM, z_add, z_addS, z_addL, z_addT, z_eqI, z_neI, z_eqB, z_neB, z_eqS, z_neS, z_isN, z_notN, z_ixL, z_ixT, z_ixR, z_ixM, z_atK, z_lenL, z_lenT, z_lenR, z_lenS, z_listL, z_listR, z_listT, z_tupleL, z_tupleT, z_sl, z_slK1, z_slK2, z_slK3, z_oNone, z_oSome, z_oK, z_slT, z_slL, z_slR, z_r1, z_r1K, z_r2, z_r2K, z_zip, z_zipL, z_zipT, z_iseq, z_meth, z_methK, z_methK2, z_app, z_appM, z_lc, isNon, Bool.not_true, Bool.not_false, z_at0, z_at1, z_at2, z_at3, z_mulS, z_okStr, z_join, z_intB, z_intI, z_dnew, z_setD, z_setD1, z_listD, z_listD1, z_par, z_parK, List.set_cons_zero, List.set_cons_succ])
    refine z_isi (q := true) rfl (by decide +kernel) ?_
    (try simp only [z_seq, z_next, z_brk, z_cont, z_asg, z_asgK, z_gN, z_gSeq, z_gSeqL, z_gcons, z_gconsK, z_gnil, z_gsub, z_subK1, z_subK2, z_subK3, z_set, z_set1, z_set2, z_ret, z_retN, z_drop, z_dropK, z_if, z_brT, z_brF, z_for, z_forK, z_loop0, z_loop1, z_loopK, z_var0, z_varS, z_c, z_bin, z_binK1, z_binK2, z_test, z_asB, z_and, z_andT, z_andF, z_or, z_orT, z_orF, z_not, z_notK, z_andV, z_andVT, z_andVF, z_orV, z_orVT, z_orVF, z_notV, z_notVK, z_ifE, z_ifT, z_ifF, z_nil, z_cons, z_consK, z_consK2, z_tup, z_tupK, z_lst, z_lstK, z_un, z_unK, z_neg, z_cb, z_cbK, z_call, z_callK, z_star, z_starK, z_starK2, z_seqL, z_seqT, z_seqR, z_I, z_I0, z_mul, z_mulT, z_mulL, z_tupleR, z_tupM, z_lenP, z_lenM, z_add, z_addS, z_addL, z_addT, z_eqI, z_neI, z_eqB, z_neB, z_eqS, z_neS, z_isN, z_notN, z_ixL, z_ixT, z_ixR, z_ixM, z_atK, z_lenL, z_lenT, z_lenR, z_lenS, z_listL, z_listR, z_listT, z_tupleL, z_tupleT, z_sl, z_slK1, z_slK2, z_slK3, z_oNone, z_oSome, z_oK, z_slT, z_slL, z_slR, z_r1, z_r1K, z_r2, z_r2K, z_zip, z_zipL, z_zipT, z_iseq, z_meth, z_methK, z_methK2, z_app, z_appM, z_lc, isNon, Bool.not_true, Bool.not_false, z_at0, z_at1, z_at2, z_at3, z_mulS, z_okStr, z_join, z_intB, z_intI, z_dnew, z_setD, z_setD1, z_listD, z_listD1, z_par, z_parK, List.set_cons_zero, List.set_cons_succ])
    refine z_isi (q := true) rfl (by decide +kernel) ?_
    (try simp only [z_seq, z_next, z_brk, z_cont, z_asg, z_asgK, z_gN, z_gSeq, z_gSeqL, z_gcons, z_gconsK, z_gnil, z_gsub, z_subK1, z_subK2, z_subK3, z_set, z_set1, z_set2, z_ret, z_retN, z_drop, z_dropK, z_if, z_brT, z_brF, z_for, z_forK, z_loop0, z_loop1, z_loopK, z_var0, z_varS, z_c, z_bin, z_binK1, z_binK2, z_test, z_asB, z_and, z_andT, z_andF, z_or, z_orT, z_orF, z_not, z_notK, z_andV, z_andVT, z_andVF, z_orV, z_orVT, z_orVF, z_notV, z_notVK, z_ifE, z_ifT, z_ifF, z_nil, z_cons, z_consK, z_consK2, z_tup, z_tupK, z_lst, z_lstK, z_un, z_unK, z_neg, z_cb, z_cbK, z_call, z_callK, z_star, z_starK, z_starK2, z_seqL, z_seqT, z_seqR, z_I, z_I0, z_mul, z_mulT, z_mulL, z_tupleR, z_tupM, z_lenP, z_lenM, z_add, z_addS, z_addL, z_addT, z_eqI, z_neI, z_eqB, z_neB, z_eqS, z_neS, z_isN, z_notN, z_ixL, z_ixT, z_ixR, z_ixM, z_atK, z_lenL, z_lenT, z_lenR, z_lenS, z_listL, z_listR, z_listT, z_tupleL, z_tupleT, z_sl, z_slK1, z_slK2, z_slK3, z_oNone, z_oSome, z_oK, z_slT, z_slL, z_slR, z_r1, z_r1K, z_r2, z_r2K, z_zip, z_zipL, z_zipT, z_iseq, z_meth, z_methK, z_methK2, z_app, z_appM, z_lc, isNon, Bool.not_true, Bool.not_false, z_at0, z_at1, z_at2, z_at3, z_mulS, z_okStr, z_join, z_intB, z_intI, z_dnew, z_setD, z_setD1, z_listD, z_listD1, z_par, z_parK, List.set_cons_zero, List.set_cons_succ])
    exact q
/-- what n levels of calls are asked -/
def sp__law_same_ : Nat → SpD
  | 0 => fun _ _ _ _ => False
  | n + 1 => spP fun ds r => ∃ d, ds = [d, d] ∧ Plain n d ∧ r = .bl true
def c__law_same (sp__law_same : SpD) : CS :=
  (cSeq (cIf (cTest (cBin ρIsN (cVar 1) (cC .non))) (cRet (cBin ρIsN (cVar 0) (cC .non))) cNext)
    (cSeq (cIf (cTest (cCB ρIsi (cCons (cVar 1) (cCons (cC (.ty "bool")) cNil)))) (cRet (cAndV (cCB ρIsi (cCons (cVar 0) (cCons (cC (.ty "bool")) cNil))) (cBin ρEq (cVar 0) (cVar 1)))) cNext)
    (cSeq (cIf (cTest (cCB ρIsi (cCons (cVar 1) (cCons (cC (.ty "int")) cNil)))) (cRet (cAndV (cCall (NoX sp__law_whole) (cCons (cVar 0) cNil)) (cBin ρEq (cVar 0) (cVar 1)))) cNext)
    (cSeq (cIf (cTest (cCB ρIsi (cCons (cVar 1) (cCons (cC (.ty "str")) cNil)))) (cRet (cAndV (cCB ρIsi (cCons (cVar 0) (cCons (cC (.ty "str")) cNil))) (cBin ρEq (cVar 0) (cVar 1)))) cNext)
    (cSeq (cIf (cOr (cTest (cBin ρNe (cCB ρIsi (cCons (cVar 1) (cCons (cC (.ty "list")) cNil))) (cCB ρIsi (cCons (cVar 0) (cCons (cC (.ty "list")) cNil))))) (cTest (cBin ρNe (cCB ρIsi (cCons (cVar 1) (cCons (cC (.ty "tuple")) cNil))) (cCB ρIsi (cCons (cVar 0) (cCons (cC (.ty "tuple")) cNil)))))) (cRet (cC (.bl false))) cNext)
    (cSeq (cIf (cTest (cBin ρNe (cCB ρLen (cCons (cVar 0) cNil)) (cCB ρLen (cCons (cVar 1) cNil)))) (cRet (cC (.bl false))) cNext)
    (cRet (cCB ρAll (cCons (cLc (ciZip (cCons (cVar 0) (cCons (cVar 1) cNil))) (gSeq 2 (gCons' (gN 2) (gCons' (gN 3) gNil'))) cYes (cCall (NoX sp__law_same) (cCons (cVar 2) (cCons (cVar 3) cNil))) [2, 3]) cNil)))))))))
theorem pairs_self {f : D → D} {k : KD} {M : MS} : ∀ {xs : List D} {d : D}, d ∈ pairsD xs xs → ∃ x, x ∈ xs ∧ d = .tup [x, x]
  | [], d, h => by cases h
  | x :: xs, d, h => by
    have h' : d ∈ D.tup [x, x] :: pairsD xs xs := h
    rcases List.mem_cons.mp h' with e | e
    · exact ⟨x, List.mem_cons_self, e⟩
    · obtain ⟨y, hy, e⟩ := pairs_self (f := f) (k := k) (M := M) e
      exact ⟨y, List.mem_cons_of_mem _ hy, e⟩
theorem pairs_len {xs ys : List D} : (pairsD xs ys).length = min xs.length ys.length := by
  unfold pairsD; rw [List.length_zipWith]
theorem all_true {k : KD} {M : MS} {xs : List D} (h : k (.bl true) M) : ρAll [.lst (xs.map fun _ => D.bl true)] M k := by
  refine ⟨xs.map fun _ => true, by rw [List.map_map]; rfl, ?_⟩
  have e : (xs.map fun _ => true).all id = true := by rw [List.all_map]; simp
  rw [e]; exact h
theorem main__law_same (n : Nat) : ∀ ds M k, sp__law_same_ (n + 1) ds M k (fun _ _ _ => False) → c__law_same (sp__law_same_ n) { nx := fun _ M' => k .non M', rt := k } (startD 4 ds) M := by
  rintro ds M k ⟨r, ⟨d, rfl, hp, rfl⟩, q⟩
  show c__law_same _ _ [some d, some d, none, none] M
  unfold c__law_same
  have B1 : ∀ (b : Bool), (b == b) = true := by decide
  have I1 : ∀ (b : Int), (b == b) = true := fun b => beq_self_eq_true b
  have S1 : ∀ (b : Str), (b == b) = true := fun b => beq_self_eq_true b
  -- the two containers go alike
  have cont : ∀ (xs : List D), (∃ m, n = m + 1 ∧ ∀ x, x ∈ xs → Plain m x) → xs.length ≤ 1000000 → ∀ (M : MS) (k : KD), k (.bl true) M →
      lcK (gSeq 2 (gCons' (gN 2) (gCons' (gN 3) gNil'))) cYes (cCall (NoX (sp__law_same_ n)) (cCons (cVar 2) (cCons (cVar 3) cNil))) [2, 3] [some d, some d, none, none] (fun y M1 => ρAll [y] M1 k) (pairsD xs xs) M := by
    rintro xs ⟨m, rfl, hx⟩ hl M k hk
    refine lc_pure (f := fun _ => D.bl true) (by rw [pairs_len]; omega) (fun y hy M1 q1 h1 => ?_) mono_g2 (all_true hk)
    obtain ⟨x, hm, rfl⟩ := pairs_self (f := id) (k := k) (M := M) hy
    show gSeq 2 (gCons' (gN 2) (gCons' (gN 3) gNil')) (.tup [x, x]) [some d, some d, none, none] M1 _
    (try simp only [z_seq, z_next, z_brk, z_cont, z_asg, z_asgK, z_gN, z_gSeq, z_gSeqL, z_gcons, z_gconsK, z_gnil, z_gsub, z_subK1, z_subK2, z_subK3, z_set, z_set1, z_set2, z_ret, z_retN, z_drop, z_dropK, z_if, z_brT, z_brF, z_for, z_forK, z_loop0, z_loop1, z_loopK, z_var0, z_varS, z_c, z_bin, z_binK1, z_binK2, z_test, z_asB, z_and, z_andT, z_andF, z_or, z_orT, z_orF, z_not, z_notK, z_andV, z_andVT, z_andVF, z_orV, z_orVT, z_orVF, z_notV, z_notVK, z_ifE, z_ifT, z_ifF, z_nil, z_cons, z_consK, z_consK2, z_tup, z_tupK, z_lst, z_lstK, z_un, z_unK, z_neg, z_cb, z_cbK, z_call, z_callK, z_star, z_starK, z_starK2, z_seqL, z_seqT, z_seqR, z_I, z_I0, z_mul, z_mulT, z_mulL, z_tupleR, z_tupM, z_lenP, z_lenM, z_add, z_addS, z_addL, z_addT, z_eqI, z_neI, z_eqB, z_neB, z_eqS, z_neS, z_isN, z_notN, z_ixL, z_ixT, z_ixR, z_ixM, z_atK, z_lenL, z_lenT, z_lenR, z_lenS, z_listL, z_listR, z_listT, z_tupleL, z_tupleT, z_sl, z_slK1, z_slK2, z_slK3, z_oNone, z_oSome, z_oK, z_slT, z_slL, z_slR, z_r1, z_r1K, z_r2, z_r2K, z_zip, z_zipL, z_zipT, z_iseq, z_meth, z_methK, z_methK2, z_app, z_appM, z_lc, isNon, Bool.not_true, Bool.not_false, z_at0, z_at1, z_at2, z_at3, z_mulS, z_okStr, z_join, z_intB, z_intI, z_dnew, z_setD, z_setD1, z_listD, z_listD1, z_par, z_parK, List.set_cons_zero, List.set_cons_succ])
    exact ⟨rfl, _, ⟨x, rfl, hx x hm, rfl⟩, h1⟩
  cases hp with
  | non =>
    (try simp only [z_seq, z_next, z_brk, z_cont, z_asg, z_asgK, z_gN, z_gSeq, z_gSeqL, z_gcons, z_gconsK, z_gnil, z_gsub, z_subK1, z_subK2, z_subK3, z_set, z_set1, z_set2, z_ret, z_retN, z_drop, z_dropK, z_if, z_brT, z_brF, z_for, z_forK, z_loop0, z_loop1, z_loopK, z_var0, z_varS, z_c, z_bin, z_binK1, z_binK2, z_test, z_asB, z_and, z_andT, z_andF, z_or, z_orT, z_orF, z_not, z_notK, z_andV, z_andVT, z_andVF, z_orV, z_orVT, z_orVF, z_notV, z_notVK, z_ifE, z_ifT, z_ifF, z_nil, z_cons, z_consK, z_consK2, z_tup, z_tupK, z_lst, z_lstK, z_un, z_unK, z_neg, z_cb, z_cbK, z_call, z_callK, z_star, z_starK, z_starK2, z_seqL, z_seqT, z_seqR, z_I, z_I0, z_mul, z_mulT, z_mulL, z_tupleR, z_tupM, z_lenP, z_lenM, z_add, z_addS, z_addL, z_addT, z_eqI, z_neI, z_eqB, z_neB, z_eqS, z_neS, z_isN, z_notN, z_ixL, z_ixT, z_ixR, z_ixM, z_atK, z_lenL, z_lenT, z_lenR, z_lenS, z_listL, z_listR, z_listT, z_tupleL, z_tupleT, z_sl, z_slK1, z_slK2, z_slK3, z_oNone, z_oSome, z_oK, z_slT, z_slL, z_slR, z_r1, z_r1K, z_r2, z_r2K, z_zip, z_zipL, z_zipT, z_iseq, z_meth, z_methK, z_methK2, z_app, z_appM, z_lc, isNon, Bool.not_true, Bool.not_false, z_at0, z_at1, z_at2, z_at3, z_mulS, z_okStr, z_join, z_intB, z_intI, z_dnew, z_setD, z_setD1, z_listD, z_listD1, z_par, z_parK, List.set_cons_zero, List.set_cons_succ])
    exact q
  | bl b =>
    (try simp only [z_seq, z_next, z_brk, z_cont, z_asg, z_asgK, z_gN, z_gSeq, z_gSeqL, z_gcons, z_gconsK, z_gnil, z_gsub, z_subK1, z_subK2, z_subK3, z_set, z_set1, z_set2, z_ret, z_retN, z_drop, z_dropK, z_if, z_brT, z_brF, z_for, z_forK, z_loop0, z_loop1, z_loopK, z_var0, z_varS, z_c, z_bin, z_binK1, z_binK2, z_test, z_asB, z_and, z_andT, z_andF, z_or, z_orT, z_orF, z_not, z_notK, z_andV, z_andVT, z_andVF, z_orV, z_orVT, z_orVF, z_notV, z_notVK, z_ifE, z_ifT, z_ifF, z_nil, z_cons, z_consK, z_consK2, z_tup, z_tupK, z_lst, z_lstK, z_un, z_unK, z_neg, z_cb, z_cbK, z_call, z_callK, z_star, z_starK, z_starK2, z_seqL, z_seqT, z_seqR, z_I, z_I0, z_mul, z_mulT, z_mulL, z_tupleR, z_tupM, z_lenP, z_lenM, z_add, z_addS, z_addL, z_addT, z_eqI, z_neI, z_eqB, z_neB, z_eqS, z_neS, z_isN, z_notN, z_ixL, z_ixT, z_ixR, z_ixM, z_atK, z_lenL, z_lenT, z_lenR, z_lenS, z_listL, z_listR, z_listT, z_tupleL, z_tupleT, z_sl, z_slK1, z_slK2, z_slK3, z_oNone, z_oSome, z_oK, z_slT, z_slL, z_slR, z_r1, z_r1K, z_r2, z_r2K, z_zip, z_zipL, z_zipT, z_iseq, z_meth, z_methK, z_methK2, z_app, z_appM, z_lc, isNon, Bool.not_true, Bool.not_false, z_at0, z_at1, z_at2, z_at3, z_mulS, z_okStr, z_join, z_intB, z_intI, z_dnew, z_setD, z_setD1, z_listD, z_listD1, z_par, z_parK, List.set_cons_zero, List.set_cons_succ])
    refine z_isi (q := true) rfl (by decide +kernel) ?_
    (try simp only [z_seq, z_next, z_brk, z_cont, z_asg, z_asgK, z_gN, z_gSeq, z_gSeqL, z_gcons, z_gconsK, z_gnil, z_gsub, z_subK1, z_subK2, z_subK3, z_set, z_set1, z_set2, z_ret, z_retN, z_drop, z_dropK, z_if, z_brT, z_brF, z_for, z_forK, z_loop0, z_loop1, z_loopK, z_var0, z_varS, z_c, z_bin, z_binK1, z_binK2, z_test, z_asB, z_and, z_andT, z_andF, z_or, z_orT, z_orF, z_not, z_notK, z_andV, z_andVT, z_andVF, z_orV, z_orVT, z_orVF, z_notV, z_notVK, z_ifE, z_ifT, z_ifF, z_nil, z_cons, z_consK, z_consK2, z_tup, z_tupK, z_lst, z_lstK, z_un, z_unK, z_neg, z_cb, z_cbK, z_call, z_callK, z_star, z_starK, z_starK2, z_seqL, z_seqT, z_seqR, z_I, z_I0, z_mul, z_mulT, z_mulL, z_tupleR, z_tupM, z_lenP, z_lenM, z_add, z_addS, z_addL, z_addT, z_eqI, z_neI, z_eqB, z_neB, z_eqS, z_neS, z_isN, z_notN, z_ixL, z_ixT, z_ixR, z_ixM, z_atK, z_lenL, z_lenT, z_lenR, z_lenS, z_listL, z_listR, z_listT, z_tupleL, z_tupleT, z_sl, z_slK1, z_slK2, z_slK3, z_oNone, z_oSome, z_oK, z_slT, z_slL, z_slR, z_r1, z_r1K, z_r2, z_r2K, z_zip, z_zipL, z_zipT, z_iseq, z_meth, z_methK, z_methK2, z_app, z_appM, z_lc, isNon, Bool.not_true, Bool.not_false, z_at0, z_at1, z_at2, z_at3, z_mulS, z_okStr, z_join, z_intB, z_intI, z_dnew, z_setD, z_setD1, z_listD, z_listD1, z_par, z_parK, List.set_cons_zero, List.set_cons_succ])
    refine z_isi (q := true) rfl (by decide +kernel) ?_
    (try simp only [z_seq, z_next, z_brk, z_cont, z_asg, z_asgK, z_gN, z_gSeq, z_gSeqL, z_gcons, z_gconsK, z_gnil, z_gsub, z_subK1, z_subK2, z_subK3, z_set, z_set1, z_set2, z_ret, z_retN, z_drop, z_dropK, z_if, z_brT, z_brF, z_for, z_forK, z_loop0, z_loop1, z_loopK, z_var0, z_varS, z_c, z_bin, z_binK1, z_binK2, z_test, z_asB, z_and, z_andT, z_andF, z_or, z_orT, z_orF, z_not, z_notK, z_andV, z_andVT, z_andVF, z_orV, z_orVT, z_orVF, z_notV, z_notVK, z_ifE, z_ifT, z_ifF, z_nil, z_cons, z_consK, z_consK2, z_tup, z_tupK, z_lst, z_lstK, z_un, z_unK, z_neg, z_cb, z_cbK, z_call, z_callK, z_star, z_starK, z_starK2, z_seqL, z_seqT, z_seqR, z_I, z_I0, z_mul, z_mulT, z_mulL, z_tupleR, z_tupM, z_lenP, z_lenM, z_add, z_addS, z_addL, z_addT, z_eqI, z_neI, z_eqB, z_neB, z_eqS, z_neS, z_isN, z_notN, z_ixL, z_ixT, z_ixR, z_ixM, z_atK, z_lenL, z_lenT, z_lenR, z_lenS, z_listL, z_listR, z_listT, z_tupleL, z_tupleT, z_sl, z_slK1, z_slK2, z_slK3, z_oNone, z_oSome, z_oK, z_slT, z_slL, z_slR, z_r1, z_r1K, z_r2, z_r2K, z_zip, z_zipL, z_zipT, z_iseq, z_meth, z_methK, z_methK2, z_app, z_appM, z_lc, isNon, Bool.not_true, Bool.not_false, z_at0, z_at1, z_at2, z_at3, z_mulS, z_okStr, z_join, z_intB, z_intI, z_dnew, z_setD, z_setD1, z_listD, z_listD1, z_par, z_parK, List.set_cons_zero, List.set_cons_succ, B1])
    exact q
  | int b =>
    (try simp only [z_seq, z_next, z_brk, z_cont, z_asg, z_asgK, z_gN, z_gSeq, z_gSeqL, z_gcons, z_gconsK, z_gnil, z_gsub, z_subK1, z_subK2, z_subK3, z_set, z_set1, z_set2, z_ret, z_retN, z_drop, z_dropK, z_if, z_brT, z_brF, z_for, z_forK, z_loop0, z_loop1, z_loopK, z_var0, z_varS, z_c, z_bin, z_binK1, z_binK2, z_test, z_asB, z_and, z_andT, z_andF, z_or, z_orT, z_orF, z_not, z_notK, z_andV, z_andVT, z_andVF, z_orV, z_orVT, z_orVF, z_notV, z_notVK, z_ifE, z_ifT, z_ifF, z_nil, z_cons, z_consK, z_consK2, z_tup, z_tupK, z_lst, z_lstK, z_un, z_unK, z_neg, z_cb, z_cbK, z_call, z_callK, z_star, z_starK, z_starK2, z_seqL, z_seqT, z_seqR, z_I, z_I0, z_mul, z_mulT, z_mulL, z_tupleR, z_tupM, z_lenP, z_lenM, z_add, z_addS, z_addL, z_addT, z_eqI, z_neI, z_eqB, z_neB, z_eqS, z_neS, z_isN, z_notN, z_ixL, z_ixT, z_ixR, z_ixM, z_atK, z_lenL, z_lenT, z_lenR, z_lenS, z_listL, z_listR, z_listT, z_tupleL, z_tupleT, z_sl, z_slK1, z_slK2, z_slK3, z_oNone, z_oSome, z_oK, z_slT, z_slL, z_slR, z_r1, z_r1K, z_r2, z_r2K, z_zip, z_zipL, z_zipT, z_iseq, z_meth, z_methK, z_methK2, z_app, z_appM, z_lc, isNon, Bool.not_true, Bool.not_false, z_at0, z_at1, z_at2, z_at3, z_mulS, z_okStr, z_join, z_intB, z_intI, z_dnew, z_setD, z_setD1, z_listD, z_listD1, z_par, z_parK, List.set_cons_zero, List.set_cons_succ])
    refine z_isi (q := false) rfl (by decide +kernel) ?_
    (try simp only [z_seq, z_next, z_brk, z_cont, z_asg, z_asgK, z_gN, z_gSeq, z_gSeqL, z_gcons, z_gconsK, z_gnil, z_gsub, z_subK1, z_subK2, z_subK3, z_set, z_set1, z_set2, z_ret, z_retN, z_drop, z_dropK, z_if, z_brT, z_brF, z_for, z_forK, z_loop0, z_loop1, z_loopK, z_var0, z_varS, z_c, z_bin, z_binK1, z_binK2, z_test, z_asB, z_and, z_andT, z_andF, z_or, z_orT, z_orF, z_not, z_notK, z_andV, z_andVT, z_andVF, z_orV, z_orVT, z_orVF, z_notV, z_notVK, z_ifE, z_ifT, z_ifF, z_nil, z_cons, z_consK, z_consK2, z_tup, z_tupK, z_lst, z_lstK, z_un, z_unK, z_neg, z_cb, z_cbK, z_call, z_callK, z_star, z_starK, z_starK2, z_seqL, z_seqT, z_seqR, z_I, z_I0, z_mul, z_mulT, z_mulL, z_tupleR, z_tupM, z_lenP, z_lenM, z_add, z_addS, z_addL, z_addT, z_eqI, z_neI, z_eqB, z_neB, z_eqS, z_neS, z_isN, z_notN, z_ixL, z_ixT, z_ixR, z_ixM, z_atK, z_lenL, z_lenT, z_lenR, z_lenS, z_listL, z_listR, z_listT, z_tupleL, z_tupleT, z_sl, z_slK1, z_slK2, z_slK3, z_oNone, z_oSome, z_oK, z_slT, z_slL, z_slR, z_r1, z_r1K, z_r2, z_r2K, z_zip, z_zipL, z_zipT, z_iseq, z_meth, z_methK, z_methK2, z_app, z_appM, z_lc, isNon, Bool.not_true, Bool.not_false, z_at0, z_at1, z_at2, z_at3, z_mulS, z_okStr, z_join, z_intB, z_intI, z_dnew, z_setD, z_setD1, z_listD, z_listD1, z_par, z_parK, List.set_cons_zero, List.set_cons_succ])
    refine z_isi (q := true) rfl (by decide +kernel) ?_
    (try simp only [z_seq, z_next, z_brk, z_cont, z_asg, z_asgK, z_gN, z_gSeq, z_gSeqL, z_gcons, z_gconsK, z_gnil, z_gsub, z_subK1, z_subK2, z_subK3, z_set, z_set1, z_set2, z_ret, z_retN, z_drop, z_dropK, z_if, z_brT, z_brF, z_for, z_forK, z_loop0, z_loop1, z_loopK, z_var0, z_varS, z_c, z_bin, z_binK1, z_binK2, z_test, z_asB, z_and, z_andT, z_andF, z_or, z_orT, z_orF, z_not, z_notK, z_andV, z_andVT, z_andVF, z_orV, z_orVT, z_orVF, z_notV, z_notVK, z_ifE, z_ifT, z_ifF, z_nil, z_cons, z_consK, z_consK2, z_tup, z_tupK, z_lst, z_lstK, z_un, z_unK, z_neg, z_cb, z_cbK, z_call, z_callK, z_star, z_starK, z_starK2, z_seqL, z_seqT, z_seqR, z_I, z_I0, z_mul, z_mulT, z_mulL, z_tupleR, z_tupM, z_lenP, z_lenM, z_add, z_addS, z_addL, z_addT, z_eqI, z_neI, z_eqB, z_neB, z_eqS, z_neS, z_isN, z_notN, z_ixL, z_ixT, z_ixR, z_ixM, z_atK, z_lenL, z_lenT, z_lenR, z_lenS, z_listL, z_listR, z_listT, z_tupleL, z_tupleT, z_sl, z_slK1, z_slK2, z_slK3, z_oNone, z_oSome, z_oK, z_slT, z_slL, z_slR, z_r1, z_r1K, z_r2, z_r2K, z_zip, z_zipL, z_zipT, z_iseq, z_meth, z_methK, z_methK2, z_app, z_appM, z_lc, isNon, Bool.not_true, Bool.not_false, z_at0, z_at1, z_at2, z_at3, z_mulS, z_okStr, z_join, z_intB, z_intI, z_dnew, z_setD, z_setD1, z_listD, z_listD1, z_par, z_parK, List.set_cons_zero, List.set_cons_succ])
    refine ⟨_, .inl ⟨b, rfl, rfl⟩, ?_⟩
    (try simp only [z_seq, z_next, z_brk, z_cont, z_asg, z_asgK, z_gN, z_gSeq, z_gSeqL, z_gcons, z_gconsK, z_gnil, z_gsub, z_subK1, z_subK2, z_subK3, z_set, z_set1, z_set2, z_ret, z_retN, z_drop, z_dropK, z_if, z_brT, z_brF, z_for, z_forK, z_loop0, z_loop1, z_loopK, z_var0, z_varS, z_c, z_bin, z_binK1, z_binK2, z_test, z_asB, z_and, z_andT, z_andF, z_or, z_orT, z_orF, z_not, z_notK, z_andV, z_andVT, z_andVF, z_orV, z_orVT, z_orVF, z_notV, z_notVK, z_ifE, z_ifT, z_ifF, z_nil, z_cons, z_consK, z_consK2, z_tup, z_tupK, z_lst, z_lstK, z_un, z_unK, z_neg, z_cb, z_cbK, z_call, z_callK, z_star, z_starK, z_starK2, z_seqL, z_seqT, z_seqR, z_I, z_I0, z_mul, z_mulT, z_mulL, z_tupleR, z_tupM, z_lenP, z_lenM, z_add, z_addS, z_addL, z_addT, z_eqI, z_neI, z_eqB, z_neB, z_eqS, z_neS, z_isN, z_notN, z_ixL, z_ixT, z_ixR, z_ixM, z_atK, z_lenL, z_lenT, z_lenR, z_lenS, z_listL, z_listR, z_listT, z_tupleL, z_tupleT, z_sl, z_slK1, z_slK2, z_slK3, z_oNone, z_oSome, z_oK, z_slT, z_slL, z_slR, z_r1, z_r1K, z_r2, z_r2K, z_zip, z_zipL, z_zipT, z_iseq, z_meth, z_methK, z_methK2, z_app, z_appM, z_lc, isNon, Bool.not_true, Bool.not_false, z_at0, z_at1, z_at2, z_at3, z_mulS, z_okStr, z_join, z_intB, z_intI, z_dnew, z_setD, z_setD1, z_listD, z_listD1, z_par, z_parK, List.set_cons_zero, List.set_cons_succ, I1])
    exact q
  | str b =>
    (try simp only [z_seq, z_next, z_brk, z_cont, z_asg, z_asgK, z_gN, z_gSeq, z_gSeqL, z_gcons, z_gconsK, z_gnil, z_gsub, z_subK1, z_subK2, z_subK3, z_set, z_set1, z_set2, z_ret, z_retN, z_drop, z_dropK, z_if, z_brT, z_brF, z_for, z_forK, z_loop0, z_loop1, z_loopK, z_var0, z_varS, z_c, z_bin, z_binK1, z_binK2, z_test, z_asB, z_and, z_andT, z_andF, z_or, z_orT, z_orF, z_not, z_notK, z_andV, z_andVT, z_andVF, z_orV, z_orVT, z_orVF, z_notV, z_notVK, z_ifE, z_ifT, z_ifF, z_nil, z_cons, z_consK, z_consK2, z_tup, z_tupK, z_lst, z_lstK, z_un, z_unK, z_neg, z_cb, z_cbK, z_call, z_callK, z_star, z_starK, z_starK2, z_seqL, z_seqT, z_seqR, z_I, z_I0, z_mul, z_mulT, z_mulL, z_tupleR, z_tupM, z_lenP, z_lenM, z_add, z_addS, z_addL, z_addT, z_eqI, z_neI, z_eqB, z_neB, z_eqS, z_neS, z_isN, z_notN, z_ixL, z_ixT, z_ixR, z_ixM, z_atK, z_lenL, z_lenT, z_lenR, z_lenS, z_listL, z_listR, z_listT, z_tupleL, z_tupleT, z_sl, z_slK1, z_slK2, z_slK3, z_oNone, z_oSome, z_oK, z_slT, z_slL, z_slR, z_r1, z_r1K, z_r2, z_r2K, z_zip, z_zipL, z_zipT, z_iseq, z_meth, z_methK, z_methK2, z_app, z_appM, z_lc, isNon, Bool.not_true, Bool.not_false, z_at0, z_at1, z_at2, z_at3, z_mulS, z_okStr, z_join, z_intB, z_intI, z_dnew, z_setD, z_setD1, z_listD, z_listD1, z_par, z_parK, List.set_cons_zero, List.set_cons_succ])
    refine z_isi (q := false) rfl (by decide +kernel) ?_
    (try simp only [z_seq, z_next, z_brk, z_cont, z_asg, z_asgK, z_gN, z_gSeq, z_gSeqL, z_gcons, z_gconsK, z_gnil, z_gsub, z_subK1, z_subK2, z_subK3, z_set, z_set1, z_set2, z_ret, z_retN, z_drop, z_dropK, z_if, z_brT, z_brF, z_for, z_forK, z_loop0, z_loop1, z_loopK, z_var0, z_varS, z_c, z_bin, z_binK1, z_binK2, z_test, z_asB, z_and, z_andT, z_andF, z_or, z_orT, z_orF, z_not, z_notK, z_andV, z_andVT, z_andVF, z_orV, z_orVT, z_orVF, z_notV, z_notVK, z_ifE, z_ifT, z_ifF, z_nil, z_cons, z_consK, z_consK2, z_tup, z_tupK, z_lst, z_lstK, z_un, z_unK, z_neg, z_cb, z_cbK, z_call, z_callK, z_star, z_starK, z_starK2, z_seqL, z_seqT, z_seqR, z_I, z_I0, z_mul, z_mulT, z_mulL, z_tupleR, z_tupM, z_lenP, z_lenM, z_add, z_addS, z_addL, z_addT, z_eqI, z_neI, z_eqB, z_neB, z_eqS, z_neS, z_isN, z_notN, z_ixL, z_ixT, z_ixR, z_ixM, z_atK, z_lenL, z_lenT, z_lenR, z_lenS, z_listL, z_listR, z_listT, z_tupleL, z_tupleT, z_sl, z_slK1, z_slK2, z_slK3, z_oNone, z_oSome, z_oK, z_slT, z_slL, z_slR, z_r1, z_r1K, z_r2, z_r2K, z_zip, z_zipL, z_zipT, z_iseq, z_meth, z_methK, z_methK2, z_app, z_appM, z_lc, isNon, Bool.not_true, Bool.not_false, z_at0, z_at1, z_at2, z_at3, z_mulS, z_okStr, z_join, z_intB, z_intI, z_dnew, z_setD, z_setD1, z_listD, z_listD1, z_par, z_parK, List.set_cons_zero, List.set_cons_succ])
    refine z_isi (q := false) rfl (by decide +kernel) ?_
    (try simp only [z_seq, z_next, z_brk, z_cont, z_asg, z_asgK, z_gN, z_gSeq, z_gSeqL, z_gcons, z_gconsK, z_gnil, z_gsub, z_subK1, z_subK2, z_subK3, z_set, z_set1, z_set2, z_ret, z_retN, z_drop, z_dropK, z_if, z_brT, z_brF, z_for, z_forK, z_loop0, z_loop1, z_loopK, z_var0, z_varS, z_c, z_bin, z_binK1, z_binK2, z_test, z_asB, z_and, z_andT, z_andF, z_or, z_orT, z_orF, z_not, z_notK, z_andV, z_andVT, z_andVF, z_orV, z_orVT, z_orVF, z_notV, z_notVK, z_ifE, z_ifT, z_ifF, z_nil, z_cons, z_consK, z_consK2, z_tup, z_tupK, z_lst, z_lstK, z_un, z_unK, z_neg, z_cb, z_cbK, z_call, z_callK, z_star, z_starK, z_starK2, z_seqL, z_seqT, z_seqR, z_I, z_I0, z_mul, z_mulT, z_mulL, z_tupleR, z_tupM, z_lenP, z_lenM, z_add, z_addS, z_addL, z_addT, z_eqI, z_neI, z_eqB, z_neB, z_eqS, z_neS, z_isN, z_notN, z_ixL, z_ixT, z_ixR, z_ixM, z_atK, z_lenL, z_lenT, z_lenR, z_lenS, z_listL, z_listR, z_listT, z_tupleL, z_tupleT, z_sl, z_slK1, z_slK2, z_slK3, z_oNone, z_oSome, z_oK, z_slT, z_slL, z_slR, z_r1, z_r1K, z_r2, z_r2K, z_zip, z_zipL, z_zipT, z_iseq, z_meth, z_methK, z_methK2, z_app, z_appM, z_lc, isNon, Bool.not_true, Bool.not_false, z_at0, z_at1, z_at2, z_at3, z_mulS, z_okStr, z_join, z_intB, z_intI, z_dnew, z_setD, z_setD1, z_listD, z_listD1, z_par, z_parK, List.set_cons_zero, List.set_cons_succ])
    refine z_isi (q := true) rfl (by decide +kernel) ?_
    (try simp only [z_seq, z_next, z_brk, z_cont, z_asg, z_asgK, z_gN, z_gSeq, z_gSeqL, z_gcons, z_gconsK, z_gnil, z_gsub, z_subK1, z_subK2, z_subK3, z_set, z_set1, z_set2, z_ret, z_retN, z_drop, z_dropK, z_if, z_brT, z_brF, z_for, z_forK, z_loop0, z_loop1, z_loopK, z_var0, z_varS, z_c, z_bin, z_binK1, z_binK2, z_test, z_asB, z_and, z_andT, z_andF, z_or, z_orT, z_orF, z_not, z_notK, z_andV, z_andVT, z_andVF, z_orV, z_orVT, z_orVF, z_notV, z_notVK, z_ifE, z_ifT, z_ifF, z_nil, z_cons, z_consK, z_consK2, z_tup, z_tupK, z_lst, z_lstK, z_un, z_unK, z_neg, z_cb, z_cbK, z_call, z_callK, z_star, z_starK, z_starK2, z_seqL, z_seqT, z_seqR, z_I, z_I0, z_mul, z_mulT, z_mulL, z_tupleR, z_tupM, z_lenP, z_lenM, z_add, z_addS, z_addL, z_addT, z_eqI, z_neI, z_eqB, z_neB, z_eqS, z_neS, z_isN, z_notN, z_ixL, z_ixT, z_ixR, z_ixM, z_atK, z_lenL, z_lenT, z_lenR, z_lenS, z_listL, z_listR, z_listT, z_tupleL, z_tupleT, z_sl, z_slK1, z_slK2, z_slK3, z_oNone, z_oSome, z_oK, z_slT, z_slL, z_slR, z_r1, z_r1K, z_r2, z_r2K, z_zip, z_zipL, z_zipT, z_iseq, z_meth, z_methK, z_methK2, z_app, z_appM, z_lc, isNon, Bool.not_true, Bool.not_false, z_at0, z_at1, z_at2, z_at3, z_mulS, z_okStr, z_join, z_intB, z_intI, z_dnew, z_setD, z_setD1, z_listD, z_listD1, z_par, z_parK, List.set_cons_zero, List.set_cons_succ])
    refine z_isi (q := true) rfl (by decide +kernel) ?_
    (try simp only [z_seq, z_next, z_brk, z_cont, z_asg, z_asgK, z_gN, z_gSeq, z_gSeqL, z_gcons, z_gconsK, z_gnil, z_gsub, z_subK1, z_subK2, z_subK3, z_set, z_set1, z_set2, z_ret, z_retN, z_drop, z_dropK, z_if, z_brT, z_brF, z_for, z_forK, z_loop0, z_loop1, z_loopK, z_var0, z_varS, z_c, z_bin, z_binK1, z_binK2, z_test, z_asB, z_and, z_andT, z_andF, z_or, z_orT, z_orF, z_not, z_notK, z_andV, z_andVT, z_andVF, z_orV, z_orVT, z_orVF, z_notV, z_notVK, z_ifE, z_ifT, z_ifF, z_nil, z_cons, z_consK, z_consK2, z_tup, z_tupK, z_lst, z_lstK, z_un, z_unK, z_neg, z_cb, z_cbK, z_call, z_callK, z_star, z_starK, z_starK2, z_seqL, z_seqT, z_seqR, z_I, z_I0, z_mul, z_mulT, z_mulL, z_tupleR, z_tupM, z_lenP, z_lenM, z_add, z_addS, z_addL, z_addT, z_eqI, z_neI, z_eqB, z_neB, z_eqS, z_neS, z_isN, z_notN, z_ixL, z_ixT, z_ixR, z_ixM, z_atK, z_lenL, z_lenT, z_lenR, z_lenS, z_listL, z_listR, z_listT, z_tupleL, z_tupleT, z_sl, z_slK1, z_slK2, z_slK3, z_oNone, z_oSome, z_oK, z_slT, z_slL, z_slR, z_r1, z_r1K, z_r2, z_r2K, z_zip, z_zipL, z_zipT, z_iseq, z_meth, z_methK, z_methK2, z_app, z_appM, z_lc, isNon, Bool.not_true, Bool.not_false, z_at0, z_at1, z_at2, z_at3, z_mulS, z_okStr, z_join, z_intB, z_intI, z_dnew, z_setD, z_setD1, z_listD, z_listD1, z_par, z_parK, List.set_cons_zero, List.set_cons_succ, S1])
    exact q
  | @tup m xs hl hx =>
    (try simp only [z_seq, z_next, z_brk, z_cont, z_asg, z_asgK, z_gN, z_gSeq, z_gSeqL, z_gcons, z_gconsK, z_gnil, z_gsub, z_subK1, z_subK2, z_subK3, z_set, z_set1, z_set2, z_ret, z_retN, z_drop, z_dropK, z_if, z_brT, z_brF, z_for, z_forK, z_loop0, z_loop1, z_loopK, z_var0, z_varS, z_c, z_bin, z_binK1, z_binK2, z_test, z_asB, z_and, z_andT, z_andF, z_or, z_orT, z_orF, z_not, z_notK, z_andV, z_andVT, z_andVF, z_orV, z_orVT, z_orVF, z_notV, z_notVK, z_ifE, z_ifT, z_ifF, z_nil, z_cons, z_consK, z_consK2, z_tup, z_tupK, z_lst, z_lstK, z_un, z_unK, z_neg, z_cb, z_cbK, z_call, z_callK, z_star, z_starK, z_starK2, z_seqL, z_seqT, z_seqR, z_I, z_I0, z_mul, z_mulT, z_mulL, z_tupleR, z_tupM, z_lenP, z_lenM, z_add, z_addS, z_addL, z_addT, z_eqI, z_neI, z_eqB, z_neB, z_eqS, z_neS, z_isN, z_notN, z_ixL, z_ixT, z_ixR, z_ixM, z_atK, z_lenL, z_lenT, z_lenR, z_lenS, z_listL, z_listR, z_listT, z_tupleL, z_tupleT, z_sl, z_slK1, z_slK2, z_slK3, z_oNone, z_oSome, z_oK, z_slT, z_slL, z_slR, z_r1, z_r1K, z_r2, z_r2K, z_zip, z_zipL, z_zipT, z_iseq, z_meth, z_methK, z_methK2, z_app, z_appM, z_lc, isNon, Bool.not_true, Bool.not_false, z_at0, z_at1, z_at2, z_at3, z_mulS, z_okStr, z_join, z_intB, z_intI, z_dnew, z_setD, z_setD1, z_listD, z_listD1, z_par, z_parK, List.set_cons_zero, List.set_cons_succ])
    refine z_isi (q := false) rfl (by decide +kernel) ?_
    (try simp only [z_seq, z_next, z_brk, z_cont, z_asg, z_asgK, z_gN, z_gSeq, z_gSeqL, z_gcons, z_gconsK, z_gnil, z_gsub, z_subK1, z_subK2, z_subK3, z_set, z_set1, z_set2, z_ret, z_retN, z_drop, z_dropK, z_if, z_brT, z_brF, z_for, z_forK, z_loop0, z_loop1, z_loopK, z_var0, z_varS, z_c, z_bin, z_binK1, z_binK2, z_test, z_asB, z_and, z_andT, z_andF, z_or, z_orT, z_orF, z_not, z_notK, z_andV, z_andVT, z_andVF, z_orV, z_orVT, z_orVF, z_notV, z_notVK, z_ifE, z_ifT, z_ifF, z_nil, z_cons, z_consK, z_consK2, z_tup, z_tupK, z_lst, z_lstK, z_un, z_unK, z_neg, z_cb, z_cbK, z_call, z_callK, z_star, z_starK, z_starK2, z_seqL, z_seqT, z_seqR, z_I, z_I0, z_mul, z_mulT, z_mulL, z_tupleR, z_tupM, z_lenP, z_lenM, z_add, z_addS, z_addL, z_addT, z_eqI, z_neI, z_eqB, z_neB, z_eqS, z_neS, z_isN, z_notN, z_ixL, z_ixT, z_ixR, z_ixM, z_atK, z_lenL, z_lenT, z_lenR, z_lenS, z_listL, z_listR, z_listT, z_tupleL, z_tupleT, z_sl, z_slK1, z_slK2, z_slK3, z_oNone, z_oSome, z_oK, z_slT, z_slL, z_slR, z_r1, z_r1K, z_r2, z_r2K, z_zip, z_zipL, z_zipT, z_iseq, z_meth, z_methK, z_methK2, z_app, z_appM, z_lc, isNon, Bool.not_true, Bool.not_false, z_at0, z_at1, z_at2, z_at3, z_mulS, z_okStr, z_join, z_intB, z_intI, z_dnew, z_setD, z_setD1, z_listD, z_listD1, z_par, z_parK, List.set_cons_zero, List.set_cons_succ])
    refine z_isi (q := false) rfl (by decide +kernel) ?_
    (try simp only [z_seq, z_next, z_brk, z_cont, z_asg, z_asgK, z_gN, z_gSeq, z_gSeqL, z_gcons, z_gconsK, z_gnil, z_gsub, z_subK1, z_subK2, z_subK3, z_set, z_set1, z_set2, z_ret, z_retN, z_drop, z_dropK, z_if, z_brT, z_brF, z_for, z_forK, z_loop0, z_loop1, z_loopK, z_var0, z_varS, z_c, z_bin, z_binK1, z_binK2, z_test, z_asB, z_and, z_andT, z_andF, z_or, z_orT, z_orF, z_not, z_notK, z_andV, z_andVT, z_andVF, z_orV, z_orVT, z_orVF, z_notV, z_notVK, z_ifE, z_ifT, z_ifF, z_nil, z_cons, z_consK, z_consK2, z_tup, z_tupK, z_lst, z_lstK, z_un, z_unK, z_neg, z_cb, z_cbK, z_call, z_callK, z_star, z_starK, z_starK2, z_seqL, z_seqT, z_seqR, z_I, z_I0, z_mul, z_mulT, z_mulL, z_tupleR, z_tupM, z_lenP, z_lenM, z_add, z_addS, z_addL, z_addT, z_eqI, z_neI, z_eqB, z_neB, z_eqS, z_neS, z_isN, z_notN, z_ixL, z_ixT, z_ixR, z_ixM, z_atK, z_lenL, z_lenT, z_lenR, z_lenS, z_listL, z_listR, z_listT, z_tupleL, z_tupleT, z_sl, z_slK1, z_slK2, z_slK3, z_oNone, z_oSome, z_oK, z_slT, z_slL, z_slR, z_r1, z_r1K, z_r2, z_r2K, z_zip, z_zipL, z_zipT, z_iseq, z_meth, z_methK, z_methK2, z_app, z_appM, z_lc, isNon, Bool.not_true, Bool.not_false, z_at0, z_at1, z_at2, z_at3, z_mulS, z_okStr, z_join, z_intB, z_intI, z_dnew, z_setD, z_setD1, z_listD, z_listD1, z_par, z_parK, List.set_cons_zero, List.set_cons_succ])
    refine z_isi (q := false) rfl (by decide +kernel) ?_
    (try simp only [z_seq, z_next, z_brk, z_cont, z_asg, z_asgK, z_gN, z_gSeq, z_gSeqL, z_gcons, z_gconsK, z_gnil, z_gsub, z_subK1, z_subK2, z_subK3, z_set, z_set1, z_set2, z_ret, z_retN, z_drop, z_dropK, z_if, z_brT, z_brF, z_for, z_forK, z_loop0, z_loop1, z_loopK, z_var0, z_varS, z_c, z_bin, z_binK1, z_binK2, z_test, z_asB, z_and, z_andT, z_andF, z_or, z_orT, z_orF, z_not, z_notK, z_andV, z_andVT, z_andVF, z_orV, z_orVT, z_orVF, z_notV, z_notVK, z_ifE, z_ifT, z_ifF, z_nil, z_cons, z_consK, z_consK2, z_tup, z_tupK, z_lst, z_lstK, z_un, z_unK, z_neg, z_cb, z_cbK, z_call, z_callK, z_star, z_starK, z_starK2, z_seqL, z_seqT, z_seqR, z_I, z_I0, z_mul, z_mulT, z_mulL, z_tupleR, z_tupM, z_lenP, z_lenM, z_add, z_addS, z_addL, z_addT, z_eqI, z_neI, z_eqB, z_neB, z_eqS, z_neS, z_isN, z_notN, z_ixL, z_ixT, z_ixR, z_ixM, z_atK, z_lenL, z_lenT, z_lenR, z_lenS, z_listL, z_listR, z_listT, z_tupleL, z_tupleT, z_sl, z_slK1, z_slK2, z_slK3, z_oNone, z_oSome, z_oK, z_slT, z_slL, z_slR, z_r1, z_r1K, z_r2, z_r2K, z_zip, z_zipL, z_zipT, z_iseq, z_meth, z_methK, z_methK2, z_app, z_appM, z_lc, isNon, Bool.not_true, Bool.not_false, z_at0, z_at1, z_at2, z_at3, z_mulS, z_okStr, z_join, z_intB, z_intI, z_dnew, z_setD, z_setD1, z_listD, z_listD1, z_par, z_parK, List.set_cons_zero, List.set_cons_succ])
    refine z_isi (q := false) rfl (by decide +kernel) ?_
    (try simp only [z_seq, z_next, z_brk, z_cont, z_asg, z_asgK, z_gN, z_gSeq, z_gSeqL, z_gcons, z_gconsK, z_gnil, z_gsub, z_subK1, z_subK2, z_subK3, z_set, z_set1, z_set2, z_ret, z_retN, z_drop, z_dropK, z_if, z_brT, z_brF, z_for, z_forK, z_loop0, z_loop1, z_loopK, z_var0, z_varS, z_c, z_bin, z_binK1, z_binK2, z_test, z_asB, z_and, z_andT, z_andF, z_or, z_orT, z_orF, z_not, z_notK, z_andV, z_andVT, z_andVF, z_orV, z_orVT, z_orVF, z_notV, z_notVK, z_ifE, z_ifT, z_ifF, z_nil, z_cons, z_consK, z_consK2, z_tup, z_tupK, z_lst, z_lstK, z_un, z_unK, z_neg, z_cb, z_cbK, z_call, z_callK, z_star, z_starK, z_starK2, z_seqL, z_seqT, z_seqR, z_I, z_I0, z_mul, z_mulT, z_mulL, z_tupleR, z_tupM, z_lenP, z_lenM, z_add, z_addS, z_addL, z_addT, z_eqI, z_neI, z_eqB, z_neB, z_eqS, z_neS, z_isN, z_notN, z_ixL, z_ixT, z_ixR, z_ixM, z_atK, z_lenL, z_lenT, z_lenR, z_lenS, z_listL, z_listR, z_listT, z_tupleL, z_tupleT, z_sl, z_slK1, z_slK2, z_slK3, z_oNone, z_oSome, z_oK, z_slT, z_slL, z_slR, z_r1, z_r1K, z_r2, z_r2K, z_zip, z_zipL, z_zipT, z_iseq, z_meth, z_methK, z_methK2, z_app, z_appM, z_lc, isNon, Bool.not_true, Bool.not_false, z_at0, z_at1, z_at2, z_at3, z_mulS, z_okStr, z_join, z_intB, z_intI, z_dnew, z_setD, z_setD1, z_listD, z_listD1, z_par, z_parK, List.set_cons_zero, List.set_cons_succ])
    refine z_isi (q := false) rfl (by decide +kernel) ?_
    (try simp only [z_seq, z_next, z_brk, z_cont, z_asg, z_asgK, z_gN, z_gSeq, z_gSeqL, z_gcons, z_gconsK, z_gnil, z_gsub, z_subK1, z_subK2, z_subK3, z_set, z_set1, z_set2, z_ret, z_retN, z_drop, z_dropK, z_if, z_brT, z_brF, z_for, z_forK, z_loop0, z_loop1, z_loopK, z_var0, z_varS, z_c, z_bin, z_binK1, z_binK2, z_test, z_asB, z_and, z_andT, z_andF, z_or, z_orT, z_orF, z_not, z_notK, z_andV, z_andVT, z_andVF, z_orV, z_orVT, z_orVF, z_notV, z_notVK, z_ifE, z_ifT, z_ifF, z_nil, z_cons, z_consK, z_consK2, z_tup, z_tupK, z_lst, z_lstK, z_un, z_unK, z_neg, z_cb, z_cbK, z_call, z_callK, z_star, z_starK, z_starK2, z_seqL, z_seqT, z_seqR, z_I, z_I0, z_mul, z_mulT, z_mulL, z_tupleR, z_tupM, z_lenP, z_lenM, z_add, z_addS, z_addL, z_addT, z_eqI, z_neI, z_eqB, z_neB, z_eqS, z_neS, z_isN, z_notN, z_ixL, z_ixT, z_ixR, z_ixM, z_atK, z_lenL, z_lenT, z_lenR, z_lenS, z_listL, z_listR, z_listT, z_tupleL, z_tupleT, z_sl, z_slK1, z_slK2, z_slK3, z_oNone, z_oSome, z_oK, z_slT, z_slL, z_slR, z_r1, z_r1K, z_r2, z_r2K, z_zip, z_zipL, z_zipT, z_iseq, z_meth, z_methK, z_methK2, z_app, z_appM, z_lc, isNon, Bool.not_true, Bool.not_false, z_at0, z_at1, z_at2, z_at3, z_mulS, z_okStr, z_join, z_intB, z_intI, z_dnew, z_setD, z_setD1, z_listD, z_listD1, z_par, z_parK, List.set_cons_zero, List.set_cons_succ, B1])
    refine z_isi (q := true) rfl (by decide +kernel) ?_
    (try simp only [z_seq, z_next, z_brk, z_cont, z_asg, z_asgK, z_gN, z_gSeq, z_gSeqL, z_gcons, z_gconsK, z_gnil, z_gsub, z_subK1, z_subK2, z_subK3, z_set, z_set1, z_set2, z_ret, z_retN, z_drop, z_dropK, z_if, z_brT, z_brF, z_for, z_forK, z_loop0, z_loop1, z_loopK, z_var0, z_varS, z_c, z_bin, z_binK1, z_binK2, z_test, z_asB, z_and, z_andT, z_andF, z_or, z_orT, z_orF, z_not, z_notK, z_andV, z_andVT, z_andVF, z_orV, z_orVT, z_orVF, z_notV, z_notVK, z_ifE, z_ifT, z_ifF, z_nil, z_cons, z_consK, z_consK2, z_tup, z_tupK, z_lst, z_lstK, z_un, z_unK, z_neg, z_cb, z_cbK, z_call, z_callK, z_star, z_starK, z_starK2, z_seqL, z_seqT, z_seqR, z_I, z_I0, z_mul, z_mulT, z_mulL, z_tupleR, z_tupM, z_lenP, z_lenM, z_add, z_addS, z_addL, z_addT, z_eqI, z_neI, z_eqB, z_neB, z_eqS, z_neS, z_isN, z_notN, z_ixL, z_ixT, z_ixR, z_ixM, z_atK, z_lenL, z_lenT, z_lenR, z_lenS, z_listL, z_listR, z_listT, z_tupleL, z_tupleT, z_sl, z_slK1, z_slK2, z_slK3, z_oNone, z_oSome, z_oK, z_slT, z_slL, z_slR, z_r1, z_r1K, z_r2, z_r2K, z_zip, z_zipL, z_zipT, z_iseq, z_meth, z_methK, z_methK2, z_app, z_appM, z_lc, isNon, Bool.not_true, Bool.not_false, z_at0, z_at1, z_at2, z_at3, z_mulS, z_okStr, z_join, z_intB, z_intI, z_dnew, z_setD, z_setD1, z_listD, z_listD1, z_par, z_parK, List.set_cons_zero, List.set_cons_succ])
    refine z_isi (q := true) rfl (by decide +kernel) ?_
    (try simp only [z_seq, z_next, z_brk, z_cont, z_asg, z_asgK, z_gN, z_gSeq, z_gSeqL, z_gcons, z_gconsK, z_gnil, z_gsub, z_subK1, z_subK2, z_subK3, z_set, z_set1, z_set2, z_ret, z_retN, z_drop, z_dropK, z_if, z_brT, z_brF, z_for, z_forK, z_loop0, z_loop1, z_loopK, z_var0, z_varS, z_c, z_bin, z_binK1, z_binK2, z_test, z_asB, z_and, z_andT, z_andF, z_or, z_orT, z_orF, z_not, z_notK, z_andV, z_andVT, z_andVF, z_orV, z_orVT, z_orVF, z_notV, z_notVK, z_ifE, z_ifT, z_ifF, z_nil, z_cons, z_consK, z_consK2, z_tup, z_tupK, z_lst, z_lstK, z_un, z_unK, z_neg, z_cb, z_cbK, z_call, z_callK, z_star, z_starK, z_starK2, z_seqL, z_seqT, z_seqR, z_I, z_I0, z_mul, z_mulT, z_mulL, z_tupleR, z_tupM, z_lenP, z_lenM, z_add, z_addS, z_addL, z_addT, z_eqI, z_neI, z_eqB, z_neB, z_eqS, z_neS, z_isN, z_notN, z_ixL, z_ixT, z_ixR, z_ixM, z_atK, z_lenL, z_lenT, z_lenR, z_lenS, z_listL, z_listR, z_listT, z_tupleL, z_tupleT, z_sl, z_slK1, z_slK2, z_slK3, z_oNone, z_oSome, z_oK, z_slT, z_slL, z_slR, z_r1, z_r1K, z_r2, z_r2K, z_zip, z_zipL, z_zipT, z_iseq, z_meth, z_methK, z_methK2, z_app, z_appM, z_lc, isNon, Bool.not_true, Bool.not_false, z_at0, z_at1, z_at2, z_at3, z_mulS, z_okStr, z_join, z_intB, z_intI, z_dnew, z_setD, z_setD1, z_listD, z_listD1, z_par, z_parK, List.set_cons_zero, List.set_cons_succ, B1, I1])
    refine ⟨size1M hl, size1M hl, ?_⟩
    exact cont xs ⟨m, rfl, hx⟩ hl M k q
  | @lst m xs hl hx =>
    (try simp only [z_seq, z_next, z_brk, z_cont, z_asg, z_asgK, z_gN, z_gSeq, z_gSeqL, z_gcons, z_gconsK, z_gnil, z_gsub, z_subK1, z_subK2, z_subK3, z_set, z_set1, z_set2, z_ret, z_retN, z_drop, z_dropK, z_if, z_brT, z_brF, z_for, z_forK, z_loop0, z_loop1, z_loopK, z_var0, z_varS, z_c, z_bin, z_binK1, z_binK2, z_test, z_asB, z_and, z_andT, z_andF, z_or, z_orT, z_orF, z_not, z_notK, z_andV, z_andVT, z_andVF, z_orV, z_orVT, z_orVF, z_notV, z_notVK, z_ifE, z_ifT, z_ifF, z_nil, z_cons, z_consK, z_consK2, z_tup, z_tupK, z_lst, z_lstK, z_un, z_unK, z_neg, z_cb, z_cbK, z_call, z_callK, z_star, z_starK, z_starK2, z_seqL, z_seqT, z_seqR, z_I, z_I0, z_mul, z_mulT, z_mulL, z_tupleR, z_tupM, z_lenP, z_lenM, z_add, z_addS, z_addL, z_addT, z_eqI, z_neI, z_eqB, z_neB, z_eqS, z_neS, z_isN, z_notN, z_ixL, z_ixT, z_ixR, z_ixM, z_atK, z_lenL, z_lenT, z_lenR, z_lenS, z_listL, z_listR, z_listT, z_tupleL, z_tupleT, z_sl, z_slK1, z_slK2, z_slK3, z_oNone, z_oSome, z_oK, z_slT, z_slL, z_slR, z_r1, z_r1K, z_r2, z_r2K, z_zip, z_zipL, z_zipT, z_iseq, z_meth, z_methK, z_methK2, z_app, z_appM, z_lc, isNon, Bool.not_true, Bool.not_false, z_at0, z_at1, z_at2, z_at3, z_mulS, z_okStr, z_join, z_intB, z_intI, z_dnew, z_setD, z_setD1, z_listD, z_listD1, z_par, z_parK, List.set_cons_zero, List.set_cons_succ])
    refine z_isi (q := false) rfl (by decide +kernel) ?_
    (try simp only [z_seq, z_next, z_brk, z_cont, z_asg, z_asgK, z_gN, z_gSeq, z_gSeqL, z_gcons, z_gconsK, z_gnil, z_gsub, z_subK1, z_subK2, z_subK3, z_set, z_set1, z_set2, z_ret, z_retN, z_drop, z_dropK, z_if, z_brT, z_brF, z_for, z_forK, z_loop0, z_loop1, z_loopK, z_var0, z_varS, z_c, z_bin, z_binK1, z_binK2, z_test, z_asB, z_and, z_andT, z_andF, z_or, z_orT, z_orF, z_not, z_notK, z_andV, z_andVT, z_andVF, z_orV, z_orVT, z_orVF, z_notV, z_notVK, z_ifE, z_ifT, z_ifF, z_nil, z_cons, z_consK, z_consK2, z_tup, z_tupK, z_lst, z_lstK, z_un, z_unK, z_neg, z_cb, z_cbK, z_call, z_callK, z_star, z_starK, z_starK2, z_seqL, z_seqT, z_seqR, z_I, z_I0, z_mul, z_mulT, z_mulL, z_tupleR, z_tupM, z_lenP, z_lenM, z_add, z_addS, z_addL, z_addT, z_eqI, z_neI, z_eqB, z_neB, z_eqS, z_neS, z_isN, z_notN, z_ixL, z_ixT, z_ixR, z_ixM, z_atK, z_lenL, z_lenT, z_lenR, z_lenS, z_listL, z_listR, z_listT, z_tupleL, z_tupleT, z_sl, z_slK1, z_slK2, z_slK3, z_oNone, z_oSome, z_oK, z_slT, z_slL, z_slR, z_r1, z_r1K, z_r2, z_r2K, z_zip, z_zipL, z_zipT, z_iseq, z_meth, z_methK, z_methK2, z_app, z_appM, z_lc, isNon, Bool.not_true, Bool.not_false, z_at0, z_at1, z_at2, z_at3, z_mulS, z_okStr, z_join, z_intB, z_intI, z_dnew, z_setD, z_setD1, z_listD, z_listD1, z_par, z_parK, List.set_cons_zero, List.set_cons_succ])
    refine z_isi (q := false) rfl (by decide +kernel) ?_
    (try simp only [z_seq, z_next, z_brk, z_cont, z_asg, z_asgK, z_gN, z_gSeq, z_gSeqL, z_gcons, z_gconsK, z_gnil, z_gsub, z_subK1, z_subK2, z_subK3, z_set, z_set1, z_set2, z_ret, z_retN, z_drop, z_dropK, z_if, z_brT, z_brF, z_for, z_forK, z_loop0, z_loop1, z_loopK, z_var0, z_varS, z_c, z_bin, z_binK1, z_binK2, z_test, z_asB, z_and, z_andT, z_andF, z_or, z_orT, z_orF, z_not, z_notK, z_andV, z_andVT, z_andVF, z_orV, z_orVT, z_orVF, z_notV, z_notVK, z_ifE, z_ifT, z_ifF, z_nil, z_cons, z_consK, z_consK2, z_tup, z_tupK, z_lst, z_lstK, z_un, z_unK, z_neg, z_cb, z_cbK, z_call, z_callK, z_star, z_starK, z_starK2, z_seqL, z_seqT, z_seqR, z_I, z_I0, z_mul, z_mulT, z_mulL, z_tupleR, z_tupM, z_lenP, z_lenM, z_add, z_addS, z_addL, z_addT, z_eqI, z_neI, z_eqB, z_neB, z_eqS, z_neS, z_isN, z_notN, z_ixL, z_ixT, z_ixR, z_ixM, z_atK, z_lenL, z_lenT, z_lenR, z_lenS, z_listL, z_listR, z_listT, z_tupleL, z_tupleT, z_sl, z_slK1, z_slK2, z_slK3, z_oNone, z_oSome, z_oK, z_slT, z_slL, z_slR, z_r1, z_r1K, z_r2, z_r2K, z_zip, z_zipL, z_zipT, z_iseq, z_meth, z_methK, z_methK2, z_app, z_appM, z_lc, isNon, Bool.not_true, Bool.not_false, z_at0, z_at1, z_at2, z_at3, z_mulS, z_okStr, z_join, z_intB, z_intI, z_dnew, z_setD, z_setD1, z_listD, z_listD1, z_par, z_parK, List.set_cons_zero, List.set_cons_succ])
    refine z_isi (q := false) rfl (by decide +kernel) ?_
    (try simp only [z_seq, z_next, z_brk, z_cont, z_asg, z_asgK, z_gN, z_gSeq, z_gSeqL, z_gcons, z_gconsK, z_gnil, z_gsub, z_subK1, z_subK2, z_subK3, z_set, z_set1, z_set2, z_ret, z_retN, z_drop, z_dropK, z_if, z_brT, z_brF, z_for, z_forK, z_loop0, z_loop1, z_loopK, z_var0, z_varS, z_c, z_bin, z_binK1, z_binK2, z_test, z_asB, z_and, z_andT, z_andF, z_or, z_orT, z_orF, z_not, z_notK, z_andV, z_andVT, z_andVF, z_orV, z_orVT, z_orVF, z_notV, z_notVK, z_ifE, z_ifT, z_ifF, z_nil, z_cons, z_consK, z_consK2, z_tup, z_tupK, z_lst, z_lstK, z_un, z_unK, z_neg, z_cb, z_cbK, z_call, z_callK, z_star, z_starK, z_starK2, z_seqL, z_seqT, z_seqR, z_I, z_I0, z_mul, z_mulT, z_mulL, z_tupleR, z_tupM, z_lenP, z_lenM, z_add, z_addS, z_addL, z_addT, z_eqI, z_neI, z_eqB, z_neB, z_eqS, z_neS, z_isN, z_notN, z_ixL, z_ixT, z_ixR, z_ixM, z_atK, z_lenL, z_lenT, z_lenR, z_lenS, z_listL, z_listR, z_listT, z_tupleL, z_tupleT, z_sl, z_slK1, z_slK2, z_slK3, z_oNone, z_oSome, z_oK, z_slT, z_slL, z_slR, z_r1, z_r1K, z_r2, z_r2K, z_zip, z_zipL, z_zipT, z_iseq, z_meth, z_methK, z_methK2, z_app, z_appM, z_lc, isNon, Bool.not_true, Bool.not_false, z_at0, z_at1, z_at2, z_at3, z_mulS, z_okStr, z_join, z_intB, z_intI, z_dnew, z_setD, z_setD1, z_listD, z_listD1, z_par, z_parK, List.set_cons_zero, List.set_cons_succ])
    refine z_isi (q := true) rfl (by decide +kernel) ?_
    (try simp only [z_seq, z_next, z_brk, z_cont, z_asg, z_asgK, z_gN, z_gSeq, z_gSeqL, z_gcons, z_gconsK, z_gnil, z_gsub, z_subK1, z_subK2, z_subK3, z_set, z_set1, z_set2, z_ret, z_retN, z_drop, z_dropK, z_if, z_brT, z_brF, z_for, z_forK, z_loop0, z_loop1, z_loopK, z_var0, z_varS, z_c, z_bin, z_binK1, z_binK2, z_test, z_asB, z_and, z_andT, z_andF, z_or, z_orT, z_orF, z_not, z_notK, z_andV, z_andVT, z_andVF, z_orV, z_orVT, z_orVF, z_notV, z_notVK, z_ifE, z_ifT, z_ifF, z_nil, z_cons, z_consK, z_consK2, z_tup, z_tupK, z_lst, z_lstK, z_un, z_unK, z_neg, z_cb, z_cbK, z_call, z_callK, z_star, z_starK, z_starK2, z_seqL, z_seqT, z_seqR, z_I, z_I0, z_mul, z_mulT, z_mulL, z_tupleR, z_tupM, z_lenP, z_lenM, z_add, z_addS, z_addL, z_addT, z_eqI, z_neI, z_eqB, z_neB, z_eqS, z_neS, z_isN, z_notN, z_ixL, z_ixT, z_ixR, z_ixM, z_atK, z_lenL, z_lenT, z_lenR, z_lenS, z_listL, z_listR, z_listT, z_tupleL, z_tupleT, z_sl, z_slK1, z_slK2, z_slK3, z_oNone, z_oSome, z_oK, z_slT, z_slL, z_slR, z_r1, z_r1K, z_r2, z_r2K, z_zip, z_zipL, z_zipT, z_iseq, z_meth, z_methK, z_methK2, z_app, z_appM, z_lc, isNon, Bool.not_true, Bool.not_false, z_at0, z_at1, z_at2, z_at3, z_mulS, z_okStr, z_join, z_intB, z_intI, z_dnew, z_setD, z_setD1, z_listD, z_listD1, z_par, z_parK, List.set_cons_zero, List.set_cons_succ])
    refine z_isi (q := true) rfl (by decide +kernel) ?_
    (try simp only [z_seq, z_next, z_brk, z_cont, z_asg, z_asgK, z_gN, z_gSeq, z_gSeqL, z_gcons, z_gconsK, z_gnil, z_gsub, z_subK1, z_subK2, z_subK3, z_set, z_set1, z_set2, z_ret, z_retN, z_drop, z_dropK, z_if, z_brT, z_brF, z_for, z_forK, z_loop0, z_loop1, z_loopK, z_var0, z_varS, z_c, z_bin, z_binK1, z_binK2, z_test, z_asB, z_and, z_andT, z_andF, z_or, z_orT, z_orF, z_not, z_notK, z_andV, z_andVT, z_andVF, z_orV, z_orVT, z_orVF, z_notV, z_notVK, z_ifE, z_ifT, z_ifF, z_nil, z_cons, z_consK, z_consK2, z_tup, z_tupK, z_lst, z_lstK, z_un, z_unK, z_neg, z_cb, z_cbK, z_call, z_callK, z_star, z_starK, z_starK2, z_seqL, z_seqT, z_seqR, z_I, z_I0, z_mul, z_mulT, z_mulL, z_tupleR, z_tupM, z_lenP, z_lenM, z_add, z_addS, z_addL, z_addT, z_eqI, z_neI, z_eqB, z_neB, z_eqS, z_neS, z_isN, z_notN, z_ixL, z_ixT, z_ixR, z_ixM, z_atK, z_lenL, z_lenT, z_lenR, z_lenS, z_listL, z_listR, z_listT, z_tupleL, z_tupleT, z_sl, z_slK1, z_slK2, z_slK3, z_oNone, z_oSome, z_oK, z_slT, z_slL, z_slR, z_r1, z_r1K, z_r2, z_r2K, z_zip, z_zipL, z_zipT, z_iseq, z_meth, z_methK, z_methK2, z_app, z_appM, z_lc, isNon, Bool.not_true, Bool.not_false, z_at0, z_at1, z_at2, z_at3, z_mulS, z_okStr, z_join, z_intB, z_intI, z_dnew, z_setD, z_setD1, z_listD, z_listD1, z_par, z_parK, List.set_cons_zero, List.set_cons_succ, B1])
    refine z_isi (q := false) rfl (by decide +kernel) ?_
    (try simp only [z_seq, z_next, z_brk, z_cont, z_asg, z_asgK, z_gN, z_gSeq, z_gSeqL, z_gcons, z_gconsK, z_gnil, z_gsub, z_subK1, z_subK2, z_subK3, z_set, z_set1, z_set2, z_ret, z_retN, z_drop, z_dropK, z_if, z_brT, z_brF, z_for, z_forK, z_loop0, z_loop1, z_loopK, z_var0, z_varS, z_c, z_bin, z_binK1, z_binK2, z_test, z_asB, z_and, z_andT, z_andF, z_or, z_orT, z_orF, z_not, z_notK, z_andV, z_andVT, z_andVF, z_orV, z_orVT, z_orVF, z_notV, z_notVK, z_ifE, z_ifT, z_ifF, z_nil, z_cons, z_consK, z_consK2, z_tup, z_tupK, z_lst, z_lstK, z_un, z_unK, z_neg, z_cb, z_cbK, z_call, z_callK, z_star, z_starK, z_starK2, z_seqL, z_seqT, z_seqR, z_I, z_I0, z_mul, z_mulT, z_mulL, z_tupleR, z_tupM, z_lenP, z_lenM, z_add, z_addS, z_addL, z_addT, z_eqI, z_neI, z_eqB, z_neB, z_eqS, z_neS, z_isN, z_notN, z_ixL, z_ixT, z_ixR, z_ixM, z_atK, z_lenL, z_lenT, z_lenR, z_lenS, z_listL, z_listR, z_listT, z_tupleL, z_tupleT, z_sl, z_slK1, z_slK2, z_slK3, z_oNone, z_oSome, z_oK, z_slT, z_slL, z_slR, z_r1, z_r1K, z_r2, z_r2K, z_zip, z_zipL, z_zipT, z_iseq, z_meth, z_methK, z_methK2, z_app, z_appM, z_lc, isNon, Bool.not_true, Bool.not_false, z_at0, z_at1, z_at2, z_at3, z_mulS, z_okStr, z_join, z_intB, z_intI, z_dnew, z_setD, z_setD1, z_listD, z_listD1, z_par, z_parK, List.set_cons_zero, List.set_cons_succ])
    refine z_isi (q := false) rfl (by decide +kernel) ?_
    (try simp only [z_seq, z_next, z_brk, z_cont, z_asg, z_asgK, z_gN, z_gSeq, z_gSeqL, z_gcons, z_gconsK, z_gnil, z_gsub, z_subK1, z_subK2, z_subK3, z_set, z_set1, z_set2, z_ret, z_retN, z_drop, z_dropK, z_if, z_brT, z_brF, z_for, z_forK, z_loop0, z_loop1, z_loopK, z_var0, z_varS, z_c, z_bin, z_binK1, z_binK2, z_test, z_asB, z_and, z_andT, z_andF, z_or, z_orT, z_orF, z_not, z_notK, z_andV, z_andVT, z_andVF, z_orV, z_orVT, z_orVF, z_notV, z_notVK, z_ifE, z_ifT, z_ifF, z_nil, z_cons, z_consK, z_consK2, z_tup, z_tupK, z_lst, z_lstK, z_un, z_unK, z_neg, z_cb, z_cbK, z_call, z_callK, z_star, z_starK, z_starK2, z_seqL, z_seqT, z_seqR, z_I, z_I0, z_mul, z_mulT, z_mulL, z_tupleR, z_tupM, z_lenP, z_lenM, z_add, z_addS, z_addL, z_addT, z_eqI, z_neI, z_eqB, z_neB, z_eqS, z_neS, z_isN, z_notN, z_ixL, z_ixT, z_ixR, z_ixM, z_atK, z_lenL, z_lenT, z_lenR, z_lenS, z_listL, z_listR, z_listT, z_tupleL, z_tupleT, z_sl, z_slK1, z_slK2, z_slK3, z_oNone, z_oSome, z_oK, z_slT, z_slL, z_slR, z_r1, z_r1K, z_r2, z_r2K, z_zip, z_zipL, z_zipT, z_iseq, z_meth, z_methK, z_methK2, z_app, z_appM, z_lc, isNon, Bool.not_true, Bool.not_false, z_at0, z_at1, z_at2, z_at3, z_mulS, z_okStr, z_join, z_intB, z_intI, z_dnew, z_setD, z_setD1, z_listD, z_listD1, z_par, z_parK, List.set_cons_zero, List.set_cons_succ, B1, I1])
    refine ⟨size1M hl, size1M hl, ?_⟩
    exact cont xs ⟨m, rfl, hx⟩ hl M k q

/-! ### draws made into numbers and places -/
/-- a box is asked; what is handed back keeps R -/
def spBox (R : D → Prop) : SpD := fun ds M k _ => ∃ b, ds = [.ref b] ∧ BoxAt M b ∧ ∀ d M', R d → Drawn b M M' → k d M'
theorem mono_box {R : D → Prop} : MonoS (spBox R) := fun _ _ _ _ _ _ h _ ⟨b, e, h1, q⟩ => ⟨b, e, h1, fun d M' a1 a2 => h _ _ (q d M' a1 a2)⟩
theorem draw_go {b : Addr} {many : Int} {M : MS} {k : KD} (hb : BoxAt M b) (h1 : 0 < many) (h2 : many < 2 ^ 250) (h : ∀ r M', 0 ≤ r → r < many → Drawn b M M' → k (.int r) M') : sp__law_draw [.ref b, .int many] M k noX := ⟨b, many, rfl, hb, h1, h2, h⟩
theorem pow_ok {i j : Int} (h : 0 ≤ j) (h2 : j ≤ 100) (h3 : i.natAbs < 2 ^ 64) : CPow i j := ⟨h, by omega, h3⟩
def RBig (d : D) : Prop := ∃ i : Int, d = .int i ∧ 0 < i ∧ i ≤ 10 ^ 31
abbrev sp__law_big : SpD := spBox RBig
abbrev mono__law_big : MonoS sp__law_big := mono_box
def c__law_big : CS :=
  (cSeq (cAsg (cCall (NoX sp__law_draw) (cCons (cVar 0) (cCons (cC (.int 6)) cNil))) (gN 1))
    (cSeq (cIf (cTest (cBin ρEq (cVar 1) (cC (.int 0)))) (cRet (cBin ρPow (cC (.int 10)) (cC (.int 30)))) cNext)
    (cSeq (cIf (cTest (cBin ρLt (cVar 1) (cC (.int 3)))) (cRet (cBin ρAdd (cC (.int 1)) (cCall (NoX sp__law_draw) (cCons (cVar 0) (cCons (cBin ρPow (cC (.int 10)) (cC (.int 30))) cNil))))) cNext)
    (cRet (cBin ρAdd (cC (.int 2)) (cCall (NoX sp__law_draw) (cCons (cVar 0) (cCons (cBin ρIx (cLst (cCons (cC (.int 3)) (cCons (cC (.int 40)) (cCons (cBin ρPow (cC (.int 10)) (cC (.int 9))) cNil)))) (cBin ρSub (cVar 1) (cC (.int 3)))) cNil))))))))
theorem main__law_big : ∀ ds M k, sp__law_big ds M k (fun _ _ _ => False) → c__law_big { nx := fun _ M' => k .non M', rt := k } (startD 2 ds) M := by
  rintro ds M k ⟨b, rfl, hb, q⟩
  show c__law_big _ [some (.ref b), none] M
  unfold c__law_big
  (try simp only [z_seq, z_next, z_brk, z_cont, z_asg, z_asgK, z_gN, z_gSeq, z_gSeqL, z_gcons, z_gconsK, z_gnil, z_gsub, z_subK1, z_subK2, z_subK3, z_set, z_set1, z_set2, z_ret, z_retN, z_drop, z_dropK, z_if, z_brT, z_brF, z_for, z_forK, z_loop0, z_loop1, z_loopK, z_var0, z_varS, z_c, z_bin, z_binK1, z_binK2, z_test, z_asB, z_and, z_andT, z_andF, z_or, z_orT, z_orF, z_not, z_notK, z_andV, z_andVT, z_andVF, z_orV, z_orVT, z_orVF, z_notV, z_notVK, z_ifE, z_ifT, z_ifF, z_nil, z_cons, z_consK, z_consK2, z_tup, z_tupK, z_lst, z_lstK, z_un, z_unK, z_neg, z_cb, z_cbK, z_call, z_callK, z_star, z_starK, z_starK2, z_seqL, z_seqT, z_seqR, z_I, z_I0, z_mul, z_mulT, z_mulL, z_tupleR, z_tupM, z_lenP, z_lenM, z_add, z_addS, z_addL, z_addT, z_eqI, z_neI, z_eqB, z_neB, z_eqS, z_neS, z_isN, z_notN, z_ixL, z_ixT, z_ixR, z_ixM, z_atK, z_lenL, z_lenT, z_lenR, z_lenS, z_listL, z_listR, z_listT, z_tupleL, z_tupleT, z_sl, z_slK1, z_slK2, z_slK3, z_oNone, z_oSome, z_oK, z_slT, z_slL, z_slR, z_r1, z_r1K, z_r2, z_r2K, z_zip, z_zipL, z_zipT, z_iseq, z_meth, z_methK, z_methK2, z_app, z_appM, z_lc, isNon, Bool.not_true, Bool.not_false, z_at0, z_at1, z_at2, z_at3, z_mulS, z_okStr, z_join, z_intB, z_intI, z_dnew, z_setD, z_setD1, z_listD, z_listD1, z_par, z_parK, List.set_cons_zero, List.set_cons_succ])
  refine draw_go hb (by decide) (by decide) fun r M1 h0 h1 d1 => ?_
  (try simp only [z_seq, z_next, z_brk, z_cont, z_asg, z_asgK, z_gN, z_gSeq, z_gSeqL, z_gcons, z_gconsK, z_gnil, z_gsub, z_subK1, z_subK2, z_subK3, z_set, z_set1, z_set2, z_ret, z_retN, z_drop, z_dropK, z_if, z_brT, z_brF, z_for, z_forK, z_loop0, z_loop1, z_loopK, z_var0, z_varS, z_c, z_bin, z_binK1, z_binK2, z_test, z_asB, z_and, z_andT, z_andF, z_or, z_orT, z_orF, z_not, z_notK, z_andV, z_andVT, z_andVF, z_orV, z_orVT, z_orVF, z_notV, z_notVK, z_ifE, z_ifT, z_ifF, z_nil, z_cons, z_consK, z_consK2, z_tup, z_tupK, z_lst, z_lstK, z_un, z_unK, z_neg, z_cb, z_cbK, z_call, z_callK, z_star, z_starK, z_starK2, z_seqL, z_seqT, z_seqR, z_I, z_I0, z_mul, z_mulT, z_mulL, z_tupleR, z_tupM, z_lenP, z_lenM, z_add, z_addS, z_addL, z_addT, z_eqI, z_neI, z_eqB, z_neB, z_eqS, z_neS, z_isN, z_notN, z_ixL, z_ixT, z_ixR, z_ixM, z_atK, z_lenL, z_lenT, z_lenR, z_lenS, z_listL, z_listR, z_listT, z_tupleL, z_tupleT, z_sl, z_slK1, z_slK2, z_slK3, z_oNone, z_oSome, z_oK, z_slT, z_slL, z_slR, z_r1, z_r1K, z_r2, z_r2K, z_zip, z_zipL, z_zipT, z_iseq, z_meth, z_methK, z_methK2, z_app, z_appM, z_lc, isNon, Bool.not_true, Bool.not_false, z_at0, z_at1, z_at2, z_at3, z_mulS, z_okStr, z_join, z_intB, z_intI, z_dnew, z_setD, z_setD1, z_listD, z_listD1, z_par, z_parK, List.set_cons_zero, List.set_cons_succ])
  by_cases e : r = 0
  · subst e
    (try simp only [z_seq, z_next, z_brk, z_cont, z_asg, z_asgK, z_gN, z_gSeq, z_gSeqL, z_gcons, z_gconsK, z_gnil, z_gsub, z_subK1, z_subK2, z_subK3, z_set, z_set1, z_set2, z_ret, z_retN, z_drop, z_dropK, z_if, z_brT, z_brF, z_for, z_forK, z_loop0, z_loop1, z_loopK, z_var0, z_varS, z_c, z_bin, z_binK1, z_binK2, z_test, z_asB, z_and, z_andT, z_andF, z_or, z_orT, z_orF, z_not, z_notK, z_andV, z_andVT, z_andVF, z_orV, z_orVT, z_orVF, z_notV, z_notVK, z_ifE, z_ifT, z_ifF, z_nil, z_cons, z_consK, z_consK2, z_tup, z_tupK, z_lst, z_lstK, z_un, z_unK, z_neg, z_cb, z_cbK, z_call, z_callK, z_star, z_starK, z_starK2, z_seqL, z_seqT, z_seqR, z_I, z_I0, z_mul, z_mulT, z_mulL, z_tupleR, z_tupM, z_lenP, z_lenM, z_add, z_addS, z_addL, z_addT, z_eqI, z_neI, z_eqB, z_neB, z_eqS, z_neS, z_isN, z_notN, z_ixL, z_ixT, z_ixR, z_ixM, z_atK, z_lenL, z_lenT, z_lenR, z_lenS, z_listL, z_listR, z_listT, z_tupleL, z_tupleT, z_sl, z_slK1, z_slK2, z_slK3, z_oNone, z_oSome, z_oK, z_slT, z_slL, z_slR, z_r1, z_r1K, z_r2, z_r2K, z_zip, z_zipL, z_zipT, z_iseq, z_meth, z_methK, z_methK2, z_app, z_appM, z_lc, isNon, Bool.not_true, Bool.not_false, z_at0, z_at1, z_at2, z_at3, z_mulS, z_okStr, z_join, z_intB, z_intI, z_dnew, z_setD, z_setD1, z_listD, z_listD1, z_par, z_parK, List.set_cons_zero, List.set_cons_succ, beq_self_eq_true])
    exact ⟨pow_ok (by decide) (by decide) (by decide), q _ _ ⟨_, rfl, by decide, by decide⟩ d1⟩
  · have e' : (r == 0) = false := by simpa using e
    (try simp only [z_seq, z_next, z_brk, z_cont, z_asg, z_asgK, z_gN, z_gSeq, z_gSeqL, z_gcons, z_gconsK, z_gnil, z_gsub, z_subK1, z_subK2, z_subK3, z_set, z_set1, z_set2, z_ret, z_retN, z_drop, z_dropK, z_if, z_brT, z_brF, z_for, z_forK, z_loop0, z_loop1, z_loopK, z_var0, z_varS, z_c, z_bin, z_binK1, z_binK2, z_test, z_asB, z_and, z_andT, z_andF, z_or, z_orT, z_orF, z_not, z_notK, z_andV, z_andVT, z_andVF, z_orV, z_orVT, z_orVF, z_notV, z_notVK, z_ifE, z_ifT, z_ifF, z_nil, z_cons, z_consK, z_consK2, z_tup, z_tupK, z_lst, z_lstK, z_un, z_unK, z_neg, z_cb, z_cbK, z_call, z_callK, z_star, z_starK, z_starK2, z_seqL, z_seqT, z_seqR, z_I, z_I0, z_mul, z_mulT, z_mulL, z_tupleR, z_tupM, z_lenP, z_lenM, z_add, z_addS, z_addL, z_addT, z_eqI, z_neI, z_eqB, z_neB, z_eqS, z_neS, z_isN, z_notN, z_ixL, z_ixT, z_ixR, z_ixM, z_atK, z_lenL, z_lenT, z_lenR, z_lenS, z_listL, z_listR, z_listT, z_tupleL, z_tupleT, z_sl, z_slK1, z_slK2, z_slK3, z_oNone, z_oSome, z_oK, z_slT, z_slL, z_slR, z_r1, z_r1K, z_r2, z_r2K, z_zip, z_zipL, z_zipT, z_iseq, z_meth, z_methK, z_methK2, z_app, z_appM, z_lc, isNon, Bool.not_true, Bool.not_false, z_at0, z_at1, z_at2, z_at3, z_mulS, z_okStr, z_join, z_intB, z_intI, z_dnew, z_setD, z_setD1, z_listD, z_listD1, z_par, z_parK, List.set_cons_zero, List.set_cons_succ, e'])
    by_cases h3 : r < 3
    · (try simp only [z_seq, z_next, z_brk, z_cont, z_asg, z_asgK, z_gN, z_gSeq, z_gSeqL, z_gcons, z_gconsK, z_gnil, z_gsub, z_subK1, z_subK2, z_subK3, z_set, z_set1, z_set2, z_ret, z_retN, z_drop, z_dropK, z_if, z_brT, z_brF, z_for, z_forK, z_loop0, z_loop1, z_loopK, z_var0, z_varS, z_c, z_bin, z_binK1, z_binK2, z_test, z_asB, z_and, z_andT, z_andF, z_or, z_orT, z_orF, z_not, z_notK, z_andV, z_andVT, z_andVF, z_orV, z_orVT, z_orVF, z_notV, z_notVK, z_ifE, z_ifT, z_ifF, z_nil, z_cons, z_consK, z_consK2, z_tup, z_tupK, z_lst, z_lstK, z_un, z_unK, z_neg, z_cb, z_cbK, z_call, z_callK, z_star, z_starK, z_starK2, z_seqL, z_seqT, z_seqR, z_I, z_I0, z_mul, z_mulT, z_mulL, z_tupleR, z_tupM, z_lenP, z_lenM, z_add, z_addS, z_addL, z_addT, z_eqI, z_neI, z_eqB, z_neB, z_eqS, z_neS, z_isN, z_notN, z_ixL, z_ixT, z_ixR, z_ixM, z_atK, z_lenL, z_lenT, z_lenR, z_lenS, z_listL, z_listR, z_listT, z_tupleL, z_tupleT, z_sl, z_slK1, z_slK2, z_slK3, z_oNone, z_oSome, z_oK, z_slT, z_slL, z_slR, z_r1, z_r1K, z_r2, z_r2K, z_zip, z_zipL, z_zipT, z_iseq, z_meth, z_methK, z_methK2, z_app, z_appM, z_lc, isNon, Bool.not_true, Bool.not_false, z_at0, z_at1, z_at2, z_at3, z_mulS, z_okStr, z_join, z_intB, z_intI, z_dnew, z_setD, z_setD1, z_listD, z_listD1, z_par, z_parK, List.set_cons_zero, List.set_cons_succ, decide_eq_true h3])
      refine ⟨pow_ok (by decide) (by decide) (by decide), draw_go d1.1 (by decide) (by decide) fun r2 M2 h4 h5 d2 => ?_⟩
      (try simp only [z_seq, z_next, z_brk, z_cont, z_asg, z_asgK, z_gN, z_gSeq, z_gSeqL, z_gcons, z_gconsK, z_gnil, z_gsub, z_subK1, z_subK2, z_subK3, z_set, z_set1, z_set2, z_ret, z_retN, z_drop, z_dropK, z_if, z_brT, z_brF, z_for, z_forK, z_loop0, z_loop1, z_loopK, z_var0, z_varS, z_c, z_bin, z_binK1, z_binK2, z_test, z_asB, z_and, z_andT, z_andF, z_or, z_orT, z_orF, z_not, z_notK, z_andV, z_andVT, z_andVF, z_orV, z_orVT, z_orVF, z_notV, z_notVK, z_ifE, z_ifT, z_ifF, z_nil, z_cons, z_consK, z_consK2, z_tup, z_tupK, z_lst, z_lstK, z_un, z_unK, z_neg, z_cb, z_cbK, z_call, z_callK, z_star, z_starK, z_starK2, z_seqL, z_seqT, z_seqR, z_I, z_I0, z_mul, z_mulT, z_mulL, z_tupleR, z_tupM, z_lenP, z_lenM, z_add, z_addS, z_addL, z_addT, z_eqI, z_neI, z_eqB, z_neB, z_eqS, z_neS, z_isN, z_notN, z_ixL, z_ixT, z_ixR, z_ixM, z_atK, z_lenL, z_lenT, z_lenR, z_lenS, z_listL, z_listR, z_listT, z_tupleL, z_tupleT, z_sl, z_slK1, z_slK2, z_slK3, z_oNone, z_oSome, z_oK, z_slT, z_slL, z_slR, z_r1, z_r1K, z_r2, z_r2K, z_zip, z_zipL, z_zipT, z_iseq, z_meth, z_methK, z_methK2, z_app, z_appM, z_lc, isNon, Bool.not_true, Bool.not_false, z_at0, z_at1, z_at2, z_at3, z_mulS, z_okStr, z_join, z_intB, z_intI, z_dnew, z_setD, z_setD1, z_listD, z_listD1, z_par, z_parK, List.set_cons_zero, List.set_cons_succ])
      have h6 : (10 : Int) ^ (30 : Int).toNat = 10 ^ 30 := rfl
      exact q _ _ ⟨_, rfl, by omega, by rw [h6] at h5; omega⟩ (d1.trans d2)
    · (try simp only [z_seq, z_next, z_brk, z_cont, z_asg, z_asgK, z_gN, z_gSeq, z_gSeqL, z_gcons, z_gconsK, z_gnil, z_gsub, z_subK1, z_subK2, z_subK3, z_set, z_set1, z_set2, z_ret, z_retN, z_drop, z_dropK, z_if, z_brT, z_brF, z_for, z_forK, z_loop0, z_loop1, z_loopK, z_var0, z_varS, z_c, z_bin, z_binK1, z_binK2, z_test, z_asB, z_and, z_andT, z_andF, z_or, z_orT, z_orF, z_not, z_notK, z_andV, z_andVT, z_andVF, z_orV, z_orVT, z_orVF, z_notV, z_notVK, z_ifE, z_ifT, z_ifF, z_nil, z_cons, z_consK, z_consK2, z_tup, z_tupK, z_lst, z_lstK, z_un, z_unK, z_neg, z_cb, z_cbK, z_call, z_callK, z_star, z_starK, z_starK2, z_seqL, z_seqT, z_seqR, z_I, z_I0, z_mul, z_mulT, z_mulL, z_tupleR, z_tupM, z_lenP, z_lenM, z_add, z_addS, z_addL, z_addT, z_eqI, z_neI, z_eqB, z_neB, z_eqS, z_neS, z_isN, z_notN, z_ixL, z_ixT, z_ixR, z_ixM, z_atK, z_lenL, z_lenT, z_lenR, z_lenS, z_listL, z_listR, z_listT, z_tupleL, z_tupleT, z_sl, z_slK1, z_slK2, z_slK3, z_oNone, z_oSome, z_oK, z_slT, z_slL, z_slR, z_r1, z_r1K, z_r2, z_r2K, z_zip, z_zipL, z_zipT, z_iseq, z_meth, z_methK, z_methK2, z_app, z_appM, z_lc, isNon, Bool.not_true, Bool.not_false, z_at0, z_at1, z_at2, z_at3, z_mulS, z_okStr, z_join, z_intB, z_intI, z_dnew, z_setD, z_setD1, z_listD, z_listD1, z_par, z_parK, List.set_cons_zero, List.set_cons_succ, decide_eq_false h3])
      refine ⟨pow_ok (by decide) (by decide) (by decide), (by rw [sizeLine_eq]; show 3 ≤ 16777216; decide), .inl ?_⟩
      have hi : ∃ m : Int, L2.atI [D.int 3, D.int 40, D.int (10 ^ (9 : Int).toNat)] (r - 3) = some (.int m) ∧ 0 < m ∧ m ≤ 10 ^ 9 := by
        have hr : r = 3 ∨ r = 4 ∨ r = 5 := by omega
        rcases hr with rfl | rfl | rfl
        · exact ⟨3, rfl, by decide, by decide⟩
        · exact ⟨40, rfl, by decide, by decide⟩
        · exact ⟨10 ^ 9, rfl, by decide, by decide⟩
      obtain ⟨m, hm, m0, m1⟩ := hi
      (try simp only [z_seq, z_next, z_brk, z_cont, z_asg, z_asgK, z_gN, z_gSeq, z_gSeqL, z_gcons, z_gconsK, z_gnil, z_gsub, z_subK1, z_subK2, z_subK3, z_set, z_set1, z_set2, z_ret, z_retN, z_drop, z_dropK, z_if, z_brT, z_brF, z_for, z_forK, z_loop0, z_loop1, z_loopK, z_var0, z_varS, z_c, z_bin, z_binK1, z_binK2, z_test, z_asB, z_and, z_andT, z_andF, z_or, z_orT, z_orF, z_not, z_notK, z_andV, z_andVT, z_andVF, z_orV, z_orVT, z_orVF, z_notV, z_notVK, z_ifE, z_ifT, z_ifF, z_nil, z_cons, z_consK, z_consK2, z_tup, z_tupK, z_lst, z_lstK, z_un, z_unK, z_neg, z_cb, z_cbK, z_call, z_callK, z_star, z_starK, z_starK2, z_seqL, z_seqT, z_seqR, z_I, z_I0, z_mul, z_mulT, z_mulL, z_tupleR, z_tupM, z_lenP, z_lenM, z_add, z_addS, z_addL, z_addT, z_eqI, z_neI, z_eqB, z_neB, z_eqS, z_neS, z_isN, z_notN, z_ixL, z_ixT, z_ixR, z_ixM, z_atK, z_lenL, z_lenT, z_lenR, z_lenS, z_listL, z_listR, z_listT, z_tupleL, z_tupleT, z_sl, z_slK1, z_slK2, z_slK3, z_oNone, z_oSome, z_oK, z_slT, z_slL, z_slR, z_r1, z_r1K, z_r2, z_r2K, z_zip, z_zipL, z_zipT, z_iseq, z_meth, z_methK, z_methK2, z_app, z_appM, z_lc, isNon, Bool.not_true, Bool.not_false, z_at0, z_at1, z_at2, z_at3, z_mulS, z_okStr, z_join, z_intB, z_intI, z_dnew, z_setD, z_setD1, z_listD, z_listD1, z_par, z_parK, List.set_cons_zero, List.set_cons_succ, hm])
      refine draw_go d1.1 m0 (by omega) fun r2 M2 h4 h5 d2 => ?_
      (try simp only [z_seq, z_next, z_brk, z_cont, z_asg, z_asgK, z_gN, z_gSeq, z_gSeqL, z_gcons, z_gconsK, z_gnil, z_gsub, z_subK1, z_subK2, z_subK3, z_set, z_set1, z_set2, z_ret, z_retN, z_drop, z_dropK, z_if, z_brT, z_brF, z_for, z_forK, z_loop0, z_loop1, z_loopK, z_var0, z_varS, z_c, z_bin, z_binK1, z_binK2, z_test, z_asB, z_and, z_andT, z_andF, z_or, z_orT, z_orF, z_not, z_notK, z_andV, z_andVT, z_andVF, z_orV, z_orVT, z_orVF, z_notV, z_notVK, z_ifE, z_ifT, z_ifF, z_nil, z_cons, z_consK, z_consK2, z_tup, z_tupK, z_lst, z_lstK, z_un, z_unK, z_neg, z_cb, z_cbK, z_call, z_callK, z_star, z_starK, z_starK2, z_seqL, z_seqT, z_seqR, z_I, z_I0, z_mul, z_mulT, z_mulL, z_tupleR, z_tupM, z_lenP, z_lenM, z_add, z_addS, z_addL, z_addT, z_eqI, z_neI, z_eqB, z_neB, z_eqS, z_neS, z_isN, z_notN, z_ixL, z_ixT, z_ixR, z_ixM, z_atK, z_lenL, z_lenT, z_lenR, z_lenS, z_listL, z_listR, z_listT, z_tupleL, z_tupleT, z_sl, z_slK1, z_slK2, z_slK3, z_oNone, z_oSome, z_oK, z_slT, z_slL, z_slR, z_r1, z_r1K, z_r2, z_r2K, z_zip, z_zipL, z_zipT, z_iseq, z_meth, z_methK, z_methK2, z_app, z_appM, z_lc, isNon, Bool.not_true, Bool.not_false, z_at0, z_at1, z_at2, z_at3, z_mulS, z_okStr, z_join, z_intB, z_intI, z_dnew, z_setD, z_setD1, z_listD, z_listD1, z_par, z_parK, List.set_cons_zero, List.set_cons_succ])
      exact q _ _ ⟨_, rfl, by omega, by omega⟩ (d1.trans d2)
def RNum (d : D) : Prop := ∃ i : Int, d = .int i ∧ -(10 ^ 12) ≤ i ∧ i ≤ 10 ^ 12
abbrev sp__law_num : SpD := spBox RNum
abbrev mono__law_num : MonoS sp__law_num := mono_box
def c__law_num : CS :=
  (cSeq (cAsg (cCall (NoX sp__law_draw) (cCons (cVar 0) (cCons (cC (.int 8)) cNil))) (gN 1))
    (cSeq (cIf (cTest (cBin ρLt (cVar 1) (cC (.int 4)))) (cRet (cBin ρIx (cLst (cCons (cC (.int 0)) (cCons (cC (.int 1)) (cCons (cUn ρNeg (cC (.int 1))) (cCons (cC (.int 2)) cNil))))) (cVar 1))) cNext)
    (cSeq (cIf (cTest (cBin ρLt (cVar 1) (cC (.int 6)))) (cRet (cBin ρSub (cCall (NoX sp__law_draw) (cCons (cVar 0) (cCons (cC (.int 19)) cNil))) (cC (.int 9)))) cNext)
    (cRet (cBin ρSub (cCall (NoX sp__law_draw) (cCons (cVar 0) (cCons (cBin ρAdd (cBin ρMul (cC (.int 2)) (cBin ρPow (cC (.int 10)) (cC (.int 12)))) (cC (.int 1))) cNil))) (cBin ρPow (cC (.int 10)) (cC (.int 12))))))))
theorem main__law_num : ∀ ds M k, sp__law_num ds M k (fun _ _ _ => False) → c__law_num { nx := fun _ M' => k .non M', rt := k } (startD 2 ds) M := by
  rintro ds M k ⟨b, rfl, hb, q⟩
  show c__law_num _ [some (.ref b), none] M
  unfold c__law_num
  (try simp only [z_seq, z_next, z_brk, z_cont, z_asg, z_asgK, z_gN, z_gSeq, z_gSeqL, z_gcons, z_gconsK, z_gnil, z_gsub, z_subK1, z_subK2, z_subK3, z_set, z_set1, z_set2, z_ret, z_retN, z_drop, z_dropK, z_if, z_brT, z_brF, z_for, z_forK, z_loop0, z_loop1, z_loopK, z_var0, z_varS, z_c, z_bin, z_binK1, z_binK2, z_test, z_asB, z_and, z_andT, z_andF, z_or, z_orT, z_orF, z_not, z_notK, z_andV, z_andVT, z_andVF, z_orV, z_orVT, z_orVF, z_notV, z_notVK, z_ifE, z_ifT, z_ifF, z_nil, z_cons, z_consK, z_consK2, z_tup, z_tupK, z_lst, z_lstK, z_un, z_unK, z_neg, z_cb, z_cbK, z_call, z_callK, z_star, z_starK, z_starK2, z_seqL, z_seqT, z_seqR, z_I, z_I0, z_mul, z_mulT, z_mulL, z_tupleR, z_tupM, z_lenP, z_lenM, z_add, z_addS, z_addL, z_addT, z_eqI, z_neI, z_eqB, z_neB, z_eqS, z_neS, z_isN, z_notN, z_ixL, z_ixT, z_ixR, z_ixM, z_atK, z_lenL, z_lenT, z_lenR, z_lenS, z_listL, z_listR, z_listT, z_tupleL, z_tupleT, z_sl, z_slK1, z_slK2, z_slK3, z_oNone, z_oSome, z_oK, z_slT, z_slL, z_slR, z_r1, z_r1K, z_r2, z_r2K, z_zip, z_zipL, z_zipT, z_iseq, z_meth, z_methK, z_methK2, z_app, z_appM, z_lc, isNon, Bool.not_true, Bool.not_false, z_at0, z_at1, z_at2, z_at3, z_mulS, z_okStr, z_join, z_intB, z_intI, z_dnew, z_setD, z_setD1, z_listD, z_listD1, z_par, z_parK, List.set_cons_zero, List.set_cons_succ])
  refine draw_go hb (by decide) (by decide) fun r M1 h0 h1 d1 => ?_
  (try simp only [z_seq, z_next, z_brk, z_cont, z_asg, z_asgK, z_gN, z_gSeq, z_gSeqL, z_gcons, z_gconsK, z_gnil, z_gsub, z_subK1, z_subK2, z_subK3, z_set, z_set1, z_set2, z_ret, z_retN, z_drop, z_dropK, z_if, z_brT, z_brF, z_for, z_forK, z_loop0, z_loop1, z_loopK, z_var0, z_varS, z_c, z_bin, z_binK1, z_binK2, z_test, z_asB, z_and, z_andT, z_andF, z_or, z_orT, z_orF, z_not, z_notK, z_andV, z_andVT, z_andVF, z_orV, z_orVT, z_orVF, z_notV, z_notVK, z_ifE, z_ifT, z_ifF, z_nil, z_cons, z_consK, z_consK2, z_tup, z_tupK, z_lst, z_lstK, z_un, z_unK, z_neg, z_cb, z_cbK, z_call, z_callK, z_star, z_starK, z_starK2, z_seqL, z_seqT, z_seqR, z_I, z_I0, z_mul, z_mulT, z_mulL, z_tupleR, z_tupM, z_lenP, z_lenM, z_add, z_addS, z_addL, z_addT, z_eqI, z_neI, z_eqB, z_neB, z_eqS, z_neS, z_isN, z_notN, z_ixL, z_ixT, z_ixR, z_ixM, z_atK, z_lenL, z_lenT, z_lenR, z_lenS, z_listL, z_listR, z_listT, z_tupleL, z_tupleT, z_sl, z_slK1, z_slK2, z_slK3, z_oNone, z_oSome, z_oK, z_slT, z_slL, z_slR, z_r1, z_r1K, z_r2, z_r2K, z_zip, z_zipL, z_zipT, z_iseq, z_meth, z_methK, z_methK2, z_app, z_appM, z_lc, isNon, Bool.not_true, Bool.not_false, z_at0, z_at1, z_at2, z_at3, z_mulS, z_okStr, z_join, z_intB, z_intI, z_dnew, z_setD, z_setD1, z_listD, z_listD1, z_par, z_parK, List.set_cons_zero, List.set_cons_succ])
  by_cases h3 : r < 4
  · (try simp only [z_seq, z_next, z_brk, z_cont, z_asg, z_asgK, z_gN, z_gSeq, z_gSeqL, z_gcons, z_gconsK, z_gnil, z_gsub, z_subK1, z_subK2, z_subK3, z_set, z_set1, z_set2, z_ret, z_retN, z_drop, z_dropK, z_if, z_brT, z_brF, z_for, z_forK, z_loop0, z_loop1, z_loopK, z_var0, z_varS, z_c, z_bin, z_binK1, z_binK2, z_test, z_asB, z_and, z_andT, z_andF, z_or, z_orT, z_orF, z_not, z_notK, z_andV, z_andVT, z_andVF, z_orV, z_orVT, z_orVF, z_notV, z_notVK, z_ifE, z_ifT, z_ifF, z_nil, z_cons, z_consK, z_consK2, z_tup, z_tupK, z_lst, z_lstK, z_un, z_unK, z_neg, z_cb, z_cbK, z_call, z_callK, z_star, z_starK, z_starK2, z_seqL, z_seqT, z_seqR, z_I, z_I0, z_mul, z_mulT, z_mulL, z_tupleR, z_tupM, z_lenP, z_lenM, z_add, z_addS, z_addL, z_addT, z_eqI, z_neI, z_eqB, z_neB, z_eqS, z_neS, z_isN, z_notN, z_ixL, z_ixT, z_ixR, z_ixM, z_atK, z_lenL, z_lenT, z_lenR, z_lenS, z_listL, z_listR, z_listT, z_tupleL, z_tupleT, z_sl, z_slK1, z_slK2, z_slK3, z_oNone, z_oSome, z_oK, z_slT, z_slL, z_slR, z_r1, z_r1K, z_r2, z_r2K, z_zip, z_zipL, z_zipT, z_iseq, z_meth, z_methK, z_methK2, z_app, z_appM, z_lc, isNon, Bool.not_true, Bool.not_false, z_at0, z_at1, z_at2, z_at3, z_mulS, z_okStr, z_join, z_intB, z_intI, z_dnew, z_setD, z_setD1, z_listD, z_listD1, z_par, z_parK, List.set_cons_zero, List.set_cons_succ, decide_eq_true h3])
    refine ⟨(by rw [sizeLine_eq]; show 4 ≤ 16777216; decide), .inl ?_⟩
    have hi : ∃ m : Int, L2.atI [D.int 0, D.int 1, D.int (-1), D.int 2] r = some (.int m) ∧ -1 ≤ m ∧ m ≤ 2 := by
      have hr : r = 0 ∨ r = 1 ∨ r = 2 ∨ r = 3 := by omega
      rcases hr with rfl | rfl | rfl | rfl
      · exact ⟨0, rfl, by decide, by decide⟩
      · exact ⟨1, rfl, by decide, by decide⟩
      · exact ⟨-1, rfl, by decide, by decide⟩
      · exact ⟨2, rfl, by decide, by decide⟩
    obtain ⟨m, hm, m0, m1⟩ := hi
    (try simp only [z_seq, z_next, z_brk, z_cont, z_asg, z_asgK, z_gN, z_gSeq, z_gSeqL, z_gcons, z_gconsK, z_gnil, z_gsub, z_subK1, z_subK2, z_subK3, z_set, z_set1, z_set2, z_ret, z_retN, z_drop, z_dropK, z_if, z_brT, z_brF, z_for, z_forK, z_loop0, z_loop1, z_loopK, z_var0, z_varS, z_c, z_bin, z_binK1, z_binK2, z_test, z_asB, z_and, z_andT, z_andF, z_or, z_orT, z_orF, z_not, z_notK, z_andV, z_andVT, z_andVF, z_orV, z_orVT, z_orVF, z_notV, z_notVK, z_ifE, z_ifT, z_ifF, z_nil, z_cons, z_consK, z_consK2, z_tup, z_tupK, z_lst, z_lstK, z_un, z_unK, z_neg, z_cb, z_cbK, z_call, z_callK, z_star, z_starK, z_starK2, z_seqL, z_seqT, z_seqR, z_I, z_I0, z_mul, z_mulT, z_mulL, z_tupleR, z_tupM, z_lenP, z_lenM, z_add, z_addS, z_addL, z_addT, z_eqI, z_neI, z_eqB, z_neB, z_eqS, z_neS, z_isN, z_notN, z_ixL, z_ixT, z_ixR, z_ixM, z_atK, z_lenL, z_lenT, z_lenR, z_lenS, z_listL, z_listR, z_listT, z_tupleL, z_tupleT, z_sl, z_slK1, z_slK2, z_slK3, z_oNone, z_oSome, z_oK, z_slT, z_slL, z_slR, z_r1, z_r1K, z_r2, z_r2K, z_zip, z_zipL, z_zipT, z_iseq, z_meth, z_methK, z_methK2, z_app, z_appM, z_lc, isNon, Bool.not_true, Bool.not_false, z_at0, z_at1, z_at2, z_at3, z_mulS, z_okStr, z_join, z_intB, z_intI, z_dnew, z_setD, z_setD1, z_listD, z_listD1, z_par, z_parK, List.set_cons_zero, List.set_cons_succ, hm])
    exact q _ _ ⟨_, rfl, by omega, by omega⟩ d1
  · (try simp only [z_seq, z_next, z_brk, z_cont, z_asg, z_asgK, z_gN, z_gSeq, z_gSeqL, z_gcons, z_gconsK, z_gnil, z_gsub, z_subK1, z_subK2, z_subK3, z_set, z_set1, z_set2, z_ret, z_retN, z_drop, z_dropK, z_if, z_brT, z_brF, z_for, z_forK, z_loop0, z_loop1, z_loopK, z_var0, z_varS, z_c, z_bin, z_binK1, z_binK2, z_test, z_asB, z_and, z_andT, z_andF, z_or, z_orT, z_orF, z_not, z_notK, z_andV, z_andVT, z_andVF, z_orV, z_orVT, z_orVF, z_notV, z_notVK, z_ifE, z_ifT, z_ifF, z_nil, z_cons, z_consK, z_consK2, z_tup, z_tupK, z_lst, z_lstK, z_un, z_unK, z_neg, z_cb, z_cbK, z_call, z_callK, z_star, z_starK, z_starK2, z_seqL, z_seqT, z_seqR, z_I, z_I0, z_mul, z_mulT, z_mulL, z_tupleR, z_tupM, z_lenP, z_lenM, z_add, z_addS, z_addL, z_addT, z_eqI, z_neI, z_eqB, z_neB, z_eqS, z_neS, z_isN, z_notN, z_ixL, z_ixT, z_ixR, z_ixM, z_atK, z_lenL, z_lenT, z_lenR, z_lenS, z_listL, z_listR, z_listT, z_tupleL, z_tupleT, z_sl, z_slK1, z_slK2, z_slK3, z_oNone, z_oSome, z_oK, z_slT, z_slL, z_slR, z_r1, z_r1K, z_r2, z_r2K, z_zip, z_zipL, z_zipT, z_iseq, z_meth, z_methK, z_methK2, z_app, z_appM, z_lc, isNon, Bool.not_true, Bool.not_false, z_at0, z_at1, z_at2, z_at3, z_mulS, z_okStr, z_join, z_intB, z_intI, z_dnew, z_setD, z_setD1, z_listD, z_listD1, z_par, z_parK, List.set_cons_zero, List.set_cons_succ, decide_eq_false h3])
    by_cases h4 : r < 6
    · (try simp only [z_seq, z_next, z_brk, z_cont, z_asg, z_asgK, z_gN, z_gSeq, z_gSeqL, z_gcons, z_gconsK, z_gnil, z_gsub, z_subK1, z_subK2, z_subK3, z_set, z_set1, z_set2, z_ret, z_retN, z_drop, z_dropK, z_if, z_brT, z_brF, z_for, z_forK, z_loop0, z_loop1, z_loopK, z_var0, z_varS, z_c, z_bin, z_binK1, z_binK2, z_test, z_asB, z_and, z_andT, z_andF, z_or, z_orT, z_orF, z_not, z_notK, z_andV, z_andVT, z_andVF, z_orV, z_orVT, z_orVF, z_notV, z_notVK, z_ifE, z_ifT, z_ifF, z_nil, z_cons, z_consK, z_consK2, z_tup, z_tupK, z_lst, z_lstK, z_un, z_unK, z_neg, z_cb, z_cbK, z_call, z_callK, z_star, z_starK, z_starK2, z_seqL, z_seqT, z_seqR, z_I, z_I0, z_mul, z_mulT, z_mulL, z_tupleR, z_tupM, z_lenP, z_lenM, z_add, z_addS, z_addL, z_addT, z_eqI, z_neI, z_eqB, z_neB, z_eqS, z_neS, z_isN, z_notN, z_ixL, z_ixT, z_ixR, z_ixM, z_atK, z_lenL, z_lenT, z_lenR, z_lenS, z_listL, z_listR, z_listT, z_tupleL, z_tupleT, z_sl, z_slK1, z_slK2, z_slK3, z_oNone, z_oSome, z_oK, z_slT, z_slL, z_slR, z_r1, z_r1K, z_r2, z_r2K, z_zip, z_zipL, z_zipT, z_iseq, z_meth, z_methK, z_methK2, z_app, z_appM, z_lc, isNon, Bool.not_true, Bool.not_false, z_at0, z_at1, z_at2, z_at3, z_mulS, z_okStr, z_join, z_intB, z_intI, z_dnew, z_setD, z_setD1, z_listD, z_listD1, z_par, z_parK, List.set_cons_zero, List.set_cons_succ, decide_eq_true h4])
      refine draw_go d1.1 (by decide) (by decide) fun r2 M2 h5 h6 d2 => ?_
      (try simp only [z_seq, z_next, z_brk, z_cont, z_asg, z_asgK, z_gN, z_gSeq, z_gSeqL, z_gcons, z_gconsK, z_gnil, z_gsub, z_subK1, z_subK2, z_subK3, z_set, z_set1, z_set2, z_ret, z_retN, z_drop, z_dropK, z_if, z_brT, z_brF, z_for, z_forK, z_loop0, z_loop1, z_loopK, z_var0, z_varS, z_c, z_bin, z_binK1, z_binK2, z_test, z_asB, z_and, z_andT, z_andF, z_or, z_orT, z_orF, z_not, z_notK, z_andV, z_andVT, z_andVF, z_orV, z_orVT, z_orVF, z_notV, z_notVK, z_ifE, z_ifT, z_ifF, z_nil, z_cons, z_consK, z_consK2, z_tup, z_tupK, z_lst, z_lstK, z_un, z_unK, z_neg, z_cb, z_cbK, z_call, z_callK, z_star, z_starK, z_starK2, z_seqL, z_seqT, z_seqR, z_I, z_I0, z_mul, z_mulT, z_mulL, z_tupleR, z_tupM, z_lenP, z_lenM, z_add, z_addS, z_addL, z_addT, z_eqI, z_neI, z_eqB, z_neB, z_eqS, z_neS, z_isN, z_notN, z_ixL, z_ixT, z_ixR, z_ixM, z_atK, z_lenL, z_lenT, z_lenR, z_lenS, z_listL, z_listR, z_listT, z_tupleL, z_tupleT, z_sl, z_slK1, z_slK2, z_slK3, z_oNone, z_oSome, z_oK, z_slT, z_slL, z_slR, z_r1, z_r1K, z_r2, z_r2K, z_zip, z_zipL, z_zipT, z_iseq, z_meth, z_methK, z_methK2, z_app, z_appM, z_lc, isNon, Bool.not_true, Bool.not_false, z_at0, z_at1, z_at2, z_at3, z_mulS, z_okStr, z_join, z_intB, z_intI, z_dnew, z_setD, z_setD1, z_listD, z_listD1, z_par, z_parK, List.set_cons_zero, List.set_cons_succ])
      exact q _ _ ⟨_, rfl, by omega, by omega⟩ (d1.trans d2)
    · (try simp only [z_seq, z_next, z_brk, z_cont, z_asg, z_asgK, z_gN, z_gSeq, z_gSeqL, z_gcons, z_gconsK, z_gnil, z_gsub, z_subK1, z_subK2, z_subK3, z_set, z_set1, z_set2, z_ret, z_retN, z_drop, z_dropK, z_if, z_brT, z_brF, z_for, z_forK, z_loop0, z_loop1, z_loopK, z_var0, z_varS, z_c, z_bin, z_binK1, z_binK2, z_test, z_asB, z_and, z_andT, z_andF, z_or, z_orT, z_orF, z_not, z_notK, z_andV, z_andVT, z_andVF, z_orV, z_orVT, z_orVF, z_notV, z_notVK, z_ifE, z_ifT, z_ifF, z_nil, z_cons, z_consK, z_consK2, z_tup, z_tupK, z_lst, z_lstK, z_un, z_unK, z_neg, z_cb, z_cbK, z_call, z_callK, z_star, z_starK, z_starK2, z_seqL, z_seqT, z_seqR, z_I, z_I0, z_mul, z_mulT, z_mulL, z_tupleR, z_tupM, z_lenP, z_lenM, z_add, z_addS, z_addL, z_addT, z_eqI, z_neI, z_eqB, z_neB, z_eqS, z_neS, z_isN, z_notN, z_ixL, z_ixT, z_ixR, z_ixM, z_atK, z_lenL, z_lenT, z_lenR, z_lenS, z_listL, z_listR, z_listT, z_tupleL, z_tupleT, z_sl, z_slK1, z_slK2, z_slK3, z_oNone, z_oSome, z_oK, z_slT, z_slL, z_slR, z_r1, z_r1K, z_r2, z_r2K, z_zip, z_zipL, z_zipT, z_iseq, z_meth, z_methK, z_methK2, z_app, z_appM, z_lc, isNon, Bool.not_true, Bool.not_false, z_at0, z_at1, z_at2, z_at3, z_mulS, z_okStr, z_join, z_intB, z_intI, z_dnew, z_setD, z_setD1, z_listD, z_listD1, z_par, z_parK, List.set_cons_zero, List.set_cons_succ, decide_eq_false h4])
      have e12 : (10 : Int) ^ (12 : Int).toNat = 10 ^ 12 := rfl
      refine ⟨pow_ok (by decide) (by decide) (by decide), mul_smallL (by decide) (by decide), draw_go d1.1 (by decide) (by decide) fun r2 M2 h5 h6 d2 => ?_⟩
      (try simp only [z_seq, z_next, z_brk, z_cont, z_asg, z_asgK, z_gN, z_gSeq, z_gSeqL, z_gcons, z_gconsK, z_gnil, z_gsub, z_subK1, z_subK2, z_subK3, z_set, z_set1, z_set2, z_ret, z_retN, z_drop, z_dropK, z_if, z_brT, z_brF, z_for, z_forK, z_loop0, z_loop1, z_loopK, z_var0, z_varS, z_c, z_bin, z_binK1, z_binK2, z_test, z_asB, z_and, z_andT, z_andF, z_or, z_orT, z_orF, z_not, z_notK, z_andV, z_andVT, z_andVF, z_orV, z_orVT, z_orVF, z_notV, z_notVK, z_ifE, z_ifT, z_ifF, z_nil, z_cons, z_consK, z_consK2, z_tup, z_tupK, z_lst, z_lstK, z_un, z_unK, z_neg, z_cb, z_cbK, z_call, z_callK, z_star, z_starK, z_starK2, z_seqL, z_seqT, z_seqR, z_I, z_I0, z_mul, z_mulT, z_mulL, z_tupleR, z_tupM, z_lenP, z_lenM, z_add, z_addS, z_addL, z_addT, z_eqI, z_neI, z_eqB, z_neB, z_eqS, z_neS, z_isN, z_notN, z_ixL, z_ixT, z_ixR, z_ixM, z_atK, z_lenL, z_lenT, z_lenR, z_lenS, z_listL, z_listR, z_listT, z_tupleL, z_tupleT, z_sl, z_slK1, z_slK2, z_slK3, z_oNone, z_oSome, z_oK, z_slT, z_slL, z_slR, z_r1, z_r1K, z_r2, z_r2K, z_zip, z_zipL, z_zipT, z_iseq, z_meth, z_methK, z_methK2, z_app, z_appM, z_lc, isNon, Bool.not_true, Bool.not_false, z_at0, z_at1, z_at2, z_at3, z_mulS, z_okStr, z_join, z_intB, z_intI, z_dnew, z_setD, z_setD1, z_listD, z_listD1, z_par, z_parK, List.set_cons_zero, List.set_cons_succ])
      rw [e12] at h6 ⊢
      exact ⟨pow_ok (by decide) (by decide) (by decide), q _ _ ⟨_, rfl, by omega, by omega⟩ (d1.trans d2)⟩
/-- a place: a tuple of ints, so many, of bounded size -/
def pl (xs : List Int) : D := .tup (xs.map D.int)
def RSpot (ways : Int) (d : D) : Prop := ∃ xs : List Int, d = pl xs ∧ xs.length = ways.toNat ∧ ∀ x, x ∈ xs → -(10 ^ 40) ≤ x ∧ x ≤ 10 ^ 40
def sp__law_spot : SpD := fun ds M k _ => ∃ b ways, ds = [.ref b, .int ways] ∧ BoxAt M b ∧ 0 ≤ ways ∧ ways ≤ 1000 ∧ ∀ d M', RSpot ways d → Drawn b M M' → k d M'
theorem mono__law_spot : MonoS sp__law_spot := fun _ _ _ _ _ _ h _ ⟨b, w, e, h1, h2, h3, q⟩ => ⟨b, w, e, h1, h2, h3, fun d M' a1 a2 => h _ _ (q d M' a1 a2)⟩
def c__law_spot : CS :=
  (cSeq (cIf (cTest (cBin ρEq (cCall (NoX sp__law_draw) (cCons (cVar 0) (cCons (cC (.int 3)) cNil))) (cC (.int 0)))) (cRet (cCB ρTuple (cCons (cLc (ciR1 (cCons (cVar 1) cNil)) (gN 2) cYes (cBin ρSub (cCall (NoX sp__law_draw) (cCons (cVar 0) (cCons (cBin ρAdd (cBin ρMul (cC (.int 2)) (cBin ρPow (cC (.int 10)) (cC (.int 40)))) (cC (.int 1))) cNil))) (cBin ρPow (cC (.int 10)) (cC (.int 40)))) [2]) cNil))) cNext)
    (cRet (cCB ρTuple (cCons (cLc (ciR1 (cCons (cVar 1) cNil)) (gN 2) cYes (cBin ρSub (cCall (NoX sp__law_draw) (cCons (cVar 0) (cCons (cC (.int 21)) cNil))) (cC (.int 10))) [2]) cNil))))
/-- each item draws -/
theorem lc_draw {τ : StD} {M : MS} {k : KD} {g : GD} {ce : DE} {vs : List Nat} {b : Addr} {R : D → Prop} {ds : List D} (hz : ds.length ≤ 1000000) (hb : BoxAt M b)
    (h : ∀ d, d ∈ ds → ∀ (M : MS) (q : KD), BoxAt M b → (∀ y M', R y → Drawn b M M' → q y M') → g d (wipeD τ vs) M (fun τ2 M2 => ce noX τ2 M2 q))
    (hk : ∀ ys M', ys.length = ds.length → (∀ y, y ∈ ys → R y) → Drawn b M M' → k (.lst ys) M') : lcK g cYes ce vs τ k ds M := by
  intro p np
  have hpb : p ≠ b := fun e => by
    obtain ⟨cs, i, v, m, hM, _⟩ := hb
    rw [e, hM] at np; cases np
  have key : ∀ (r acc : List D) (Mi : MS), (∀ d, d ∈ r → d ∈ ds) → acc.length + r.length = ds.length → (∀ y, y ∈ acc → R y) → Mi p = some (.lst acc) → BoxAt Mi b → (∀ a, a ≠ p → a ≠ b → Mi a = M a) → lcD g cYes ce vs p noX τ k r acc Mi := by
    intro r
    induction r with
    | nil =>
      intro acc Mi _ hl hR hp hB hr
      refine ⟨hp, .inl (hk acc _ (by simpa using hl) hR ⟨?_, fun a ha => ?_⟩)⟩
      · obtain ⟨cs, i, v, m, hM, h1⟩ := hB
        exact ⟨cs, i, v, m, by unfold delM; rw [if_neg (Ne.symm hpb)]; exact hM, h1⟩
      · unfold delM
        by_cases e : a = p
        · rw [if_pos e, e, np]
        · rw [if_neg e]; exact hr a e ha
    | cons d r ih =>
      intro acc Mi hm hl hR hp hB hr
      have hd := h d (hm d List.mem_cons_self) Mi (fun y M4 => M4 p = some (.lst acc) ∧ acc.length < sizeLine ∧ lcD g cYes ce vs p noX τ k r (acc ++ [y]) (updM M4 p (.lst (acc ++ [y])))) hB fun y M' hy hD => ?_
      · exact hd
      · have h4 : M' p = some (.lst acc) := (hD.2 p hpb).trans hp
        have hz : acc.length < sizeLine := by
          rw [List.length_cons] at hl
          rw [sizeLine_eq]; omega
        refine ⟨h4, hz, ih (acc ++ [y]) _ (fun x hx => hm x (List.mem_cons_of_mem _ hx)) ?_ ?_ updM_same ?_ ?_⟩
        · rw [List.length_append, List.length_singleton]; rw [List.length_cons] at hl; omega
        · intro z hz
          rcases List.mem_append.mp hz with q | q
          · exact hR z q
          · rw [List.mem_singleton.mp q]; exact hy
        · obtain ⟨cs, i, v, m, hM, h1⟩ := hD.1
          exact ⟨cs, i, v, m, by rw [updM_ne (Ne.symm hpb)]; exact hM, h1⟩
        · intro a ha hab
          rw [updM_ne ha, hD.2 a hab]; exact hr a ha hab
  refine key ds [] _ (fun _ h => h) (by simp) (by intro y hy; cases hy) updM_same ?_ (fun a ha _ => updM_ne ha)
  obtain ⟨cs, i, v, m, hM, h1⟩ := hb
  exact ⟨cs, i, v, m, by rw [updM_ne (Ne.symm hpb)]; exact hM, h1⟩
theorem rangeD_len {lo : Int} {n : Nat} : (rangeD lo n).length = n := by unfold rangeD; rw [List.length_map, List.length_range]
/-- data that are ints -/
theorem ints_of {B : Int} : ∀ {ys : List D}, (∀ y, y ∈ ys → ∃ i : Int, y = .int i ∧ -B ≤ i ∧ i ≤ B) → ∃ xs : List Int, ys = xs.map D.int ∧ ∀ x, x ∈ xs → -B ≤ x ∧ x ≤ B
  | [], _ => ⟨[], rfl, fun _ h => by cases h⟩
  | y :: ys, h => by
    obtain ⟨i, e, hi⟩ := h y List.mem_cons_self
    obtain ⟨xs, e2, hx⟩ := ints_of (fun z hz => h z (List.mem_cons_of_mem _ hz))
    refine ⟨i :: xs, by rw [e, e2]; rfl, fun x hx' => ?_⟩
    rcases List.mem_cons.mp hx' with q | q
    · rw [q]; exact hi
    · exact hx x q
theorem main__law_spot : ∀ ds M k, sp__law_spot ds M k (fun _ _ _ => False) → c__law_spot { nx := fun _ M' => k .non M', rt := k } (startD 3 ds) M := by
  rintro ds M k ⟨b, ways, rfl, hb, hw, hw2, q⟩
  show c__law_spot _ [some (.ref b), some (.int ways), none] M
  unfold c__law_spot
  (try simp only [z_seq, z_next, z_brk, z_cont, z_asg, z_asgK, z_gN, z_gSeq, z_gSeqL, z_gcons, z_gconsK, z_gnil, z_gsub, z_subK1, z_subK2, z_subK3, z_set, z_set1, z_set2, z_ret, z_retN, z_drop, z_dropK, z_if, z_brT, z_brF, z_for, z_forK, z_loop0, z_loop1, z_loopK, z_var0, z_varS, z_c, z_bin, z_binK1, z_binK2, z_test, z_asB, z_and, z_andT, z_andF, z_or, z_orT, z_orF, z_not, z_notK, z_andV, z_andVT, z_andVF, z_orV, z_orVT, z_orVF, z_notV, z_notVK, z_ifE, z_ifT, z_ifF, z_nil, z_cons, z_consK, z_consK2, z_tup, z_tupK, z_lst, z_lstK, z_un, z_unK, z_neg, z_cb, z_cbK, z_call, z_callK, z_star, z_starK, z_starK2, z_seqL, z_seqT, z_seqR, z_I, z_I0, z_mul, z_mulT, z_mulL, z_tupleR, z_tupM, z_lenP, z_lenM, z_add, z_addS, z_addL, z_addT, z_eqI, z_neI, z_eqB, z_neB, z_eqS, z_neS, z_isN, z_notN, z_ixL, z_ixT, z_ixR, z_ixM, z_atK, z_lenL, z_lenT, z_lenR, z_lenS, z_listL, z_listR, z_listT, z_tupleL, z_tupleT, z_sl, z_slK1, z_slK2, z_slK3, z_oNone, z_oSome, z_oK, z_slT, z_slL, z_slR, z_r1, z_r1K, z_r2, z_r2K, z_zip, z_zipL, z_zipT, z_iseq, z_meth, z_methK, z_methK2, z_app, z_appM, z_lc, isNon, Bool.not_true, Bool.not_false, z_at0, z_at1, z_at2, z_at3, z_mulS, z_okStr, z_join, z_intB, z_intI, z_dnew, z_setD, z_setD1, z_listD, z_listD1, z_par, z_parK, List.set_cons_zero, List.set_cons_succ])
  have e40 : (10 : Int) ^ (40 : Int).toNat = 10 ^ 40 := rfl
  have fin : ∀ (M1 : MS), Drawn b M M1 → ∀ (ys : List D) (M' : MS), ys.length = (rangeD 0 ways.toNat).length → (∀ y, y ∈ ys → ∃ i : Int, y = .int i ∧ -(10 ^ 40) ≤ i ∧ i ≤ 10 ^ 40) → Drawn b M1 M' → k (.tup ys) M' := fun M1 d1 ys M' hl hy d2 => by
    obtain ⟨xs, e, hx⟩ := ints_of hy
    rw [rangeD_len] at hl
    rw [e]
    exact q _ _ ⟨xs, rfl, by rw [e, List.length_map] at hl; exact hl, hx⟩ (d1.trans d2)
  refine draw_go hb (by decide) (by decide) fun r M1 h0 h1 d1 => ?_
  (try simp only [z_seq, z_next, z_brk, z_cont, z_asg, z_asgK, z_gN, z_gSeq, z_gSeqL, z_gcons, z_gconsK, z_gnil, z_gsub, z_subK1, z_subK2, z_subK3, z_set, z_set1, z_set2, z_ret, z_retN, z_drop, z_dropK, z_if, z_brT, z_brF, z_for, z_forK, z_loop0, z_loop1, z_loopK, z_var0, z_varS, z_c, z_bin, z_binK1, z_binK2, z_test, z_asB, z_and, z_andT, z_andF, z_or, z_orT, z_orF, z_not, z_notK, z_andV, z_andVT, z_andVF, z_orV, z_orVT, z_orVF, z_notV, z_notVK, z_ifE, z_ifT, z_ifF, z_nil, z_cons, z_consK, z_consK2, z_tup, z_tupK, z_lst, z_lstK, z_un, z_unK, z_neg, z_cb, z_cbK, z_call, z_callK, z_star, z_starK, z_starK2, z_seqL, z_seqT, z_seqR, z_I, z_I0, z_mul, z_mulT, z_mulL, z_tupleR, z_tupM, z_lenP, z_lenM, z_add, z_addS, z_addL, z_addT, z_eqI, z_neI, z_eqB, z_neB, z_eqS, z_neS, z_isN, z_notN, z_ixL, z_ixT, z_ixR, z_ixM, z_atK, z_lenL, z_lenT, z_lenR, z_lenS, z_listL, z_listR, z_listT, z_tupleL, z_tupleT, z_sl, z_slK1, z_slK2, z_slK3, z_oNone, z_oSome, z_oK, z_slT, z_slL, z_slR, z_r1, z_r1K, z_r2, z_r2K, z_zip, z_zipL, z_zipT, z_iseq, z_meth, z_methK, z_methK2, z_app, z_appM, z_lc, isNon, Bool.not_true, Bool.not_false, z_at0, z_at1, z_at2, z_at3, z_mulS, z_okStr, z_join, z_intB, z_intI, z_dnew, z_setD, z_setD1, z_listD, z_listD1, z_par, z_parK, List.set_cons_zero, List.set_cons_succ])
  by_cases e : r = 0
  · subst e
    (try simp only [z_seq, z_next, z_brk, z_cont, z_asg, z_asgK, z_gN, z_gSeq, z_gSeqL, z_gcons, z_gconsK, z_gnil, z_gsub, z_subK1, z_subK2, z_subK3, z_set, z_set1, z_set2, z_ret, z_retN, z_drop, z_dropK, z_if, z_brT, z_brF, z_for, z_forK, z_loop0, z_loop1, z_loopK, z_var0, z_varS, z_c, z_bin, z_binK1, z_binK2, z_test, z_asB, z_and, z_andT, z_andF, z_or, z_orT, z_orF, z_not, z_notK, z_andV, z_andVT, z_andVF, z_orV, z_orVT, z_orVF, z_notV, z_notVK, z_ifE, z_ifT, z_ifF, z_nil, z_cons, z_consK, z_consK2, z_tup, z_tupK, z_lst, z_lstK, z_un, z_unK, z_neg, z_cb, z_cbK, z_call, z_callK, z_star, z_starK, z_starK2, z_seqL, z_seqT, z_seqR, z_I, z_I0, z_mul, z_mulT, z_mulL, z_tupleR, z_tupM, z_lenP, z_lenM, z_add, z_addS, z_addL, z_addT, z_eqI, z_neI, z_eqB, z_neB, z_eqS, z_neS, z_isN, z_notN, z_ixL, z_ixT, z_ixR, z_ixM, z_atK, z_lenL, z_lenT, z_lenR, z_lenS, z_listL, z_listR, z_listT, z_tupleL, z_tupleT, z_sl, z_slK1, z_slK2, z_slK3, z_oNone, z_oSome, z_oK, z_slT, z_slL, z_slR, z_r1, z_r1K, z_r2, z_r2K, z_zip, z_zipL, z_zipT, z_iseq, z_meth, z_methK, z_methK2, z_app, z_appM, z_lc, isNon, Bool.not_true, Bool.not_false, z_at0, z_at1, z_at2, z_at3, z_mulS, z_okStr, z_join, z_intB, z_intI, z_dnew, z_setD, z_setD1, z_listD, z_listD1, z_par, z_parK, List.set_cons_zero, List.set_cons_succ, beq_self_eq_true])
    refine ⟨by omega, by omega, lc_draw (R := fun y => ∃ i : Int, y = .int i ∧ -(10 ^ 40) ≤ i ∧ i ≤ 10 ^ 40) (by rw [rangeD_len]; omega) d1.1 (fun d _ M2 q2 hB h => ?_) (fun ys M' hl hy d2 => ?_)⟩
    · show gN 2 d [some (.ref b), some (.int ways), none] M2 _
      (try simp only [z_seq, z_next, z_brk, z_cont, z_asg, z_asgK, z_gN, z_gSeq, z_gSeqL, z_gcons, z_gconsK, z_gnil, z_gsub, z_subK1, z_subK2, z_subK3, z_set, z_set1, z_set2, z_ret, z_retN, z_drop, z_dropK, z_if, z_brT, z_brF, z_for, z_forK, z_loop0, z_loop1, z_loopK, z_var0, z_varS, z_c, z_bin, z_binK1, z_binK2, z_test, z_asB, z_and, z_andT, z_andF, z_or, z_orT, z_orF, z_not, z_notK, z_andV, z_andVT, z_andVF, z_orV, z_orVT, z_orVF, z_notV, z_notVK, z_ifE, z_ifT, z_ifF, z_nil, z_cons, z_consK, z_consK2, z_tup, z_tupK, z_lst, z_lstK, z_un, z_unK, z_neg, z_cb, z_cbK, z_call, z_callK, z_star, z_starK, z_starK2, z_seqL, z_seqT, z_seqR, z_I, z_I0, z_mul, z_mulT, z_mulL, z_tupleR, z_tupM, z_lenP, z_lenM, z_add, z_addS, z_addL, z_addT, z_eqI, z_neI, z_eqB, z_neB, z_eqS, z_neS, z_isN, z_notN, z_ixL, z_ixT, z_ixR, z_ixM, z_atK, z_lenL, z_lenT, z_lenR, z_lenS, z_listL, z_listR, z_listT, z_tupleL, z_tupleT, z_sl, z_slK1, z_slK2, z_slK3, z_oNone, z_oSome, z_oK, z_slT, z_slL, z_slR, z_r1, z_r1K, z_r2, z_r2K, z_zip, z_zipL, z_zipT, z_iseq, z_meth, z_methK, z_methK2, z_app, z_appM, z_lc, isNon, Bool.not_true, Bool.not_false, z_at0, z_at1, z_at2, z_at3, z_mulS, z_okStr, z_join, z_intB, z_intI, z_dnew, z_setD, z_setD1, z_listD, z_listD1, z_par, z_parK, List.set_cons_zero, List.set_cons_succ])
      refine ⟨pow_ok (by decide) (by decide) (by decide), mul_smallL (by decide) (by decide), draw_go hB (by decide) (by decide) fun r2 M3 h2 h3 d3 => ?_⟩
      (try simp only [z_seq, z_next, z_brk, z_cont, z_asg, z_asgK, z_gN, z_gSeq, z_gSeqL, z_gcons, z_gconsK, z_gnil, z_gsub, z_subK1, z_subK2, z_subK3, z_set, z_set1, z_set2, z_ret, z_retN, z_drop, z_dropK, z_if, z_brT, z_brF, z_for, z_forK, z_loop0, z_loop1, z_loopK, z_var0, z_varS, z_c, z_bin, z_binK1, z_binK2, z_test, z_asB, z_and, z_andT, z_andF, z_or, z_orT, z_orF, z_not, z_notK, z_andV, z_andVT, z_andVF, z_orV, z_orVT, z_orVF, z_notV, z_notVK, z_ifE, z_ifT, z_ifF, z_nil, z_cons, z_consK, z_consK2, z_tup, z_tupK, z_lst, z_lstK, z_un, z_unK, z_neg, z_cb, z_cbK, z_call, z_callK, z_star, z_starK, z_starK2, z_seqL, z_seqT, z_seqR, z_I, z_I0, z_mul, z_mulT, z_mulL, z_tupleR, z_tupM, z_lenP, z_lenM, z_add, z_addS, z_addL, z_addT, z_eqI, z_neI, z_eqB, z_neB, z_eqS, z_neS, z_isN, z_notN, z_ixL, z_ixT, z_ixR, z_ixM, z_atK, z_lenL, z_lenT, z_lenR, z_lenS, z_listL, z_listR, z_listT, z_tupleL, z_tupleT, z_sl, z_slK1, z_slK2, z_slK3, z_oNone, z_oSome, z_oK, z_slT, z_slL, z_slR, z_r1, z_r1K, z_r2, z_r2K, z_zip, z_zipL, z_zipT, z_iseq, z_meth, z_methK, z_methK2, z_app, z_appM, z_lc, isNon, Bool.not_true, Bool.not_false, z_at0, z_at1, z_at2, z_at3, z_mulS, z_okStr, z_join, z_intB, z_intI, z_dnew, z_setD, z_setD1, z_listD, z_listD1, z_par, z_parK, List.set_cons_zero, List.set_cons_succ])
      rw [e40] at h3 ⊢
      exact ⟨pow_ok (by decide) (by decide) (by decide), h _ _ ⟨_, rfl, by omega, by omega⟩ d3⟩
    · (try simp only [z_seq, z_next, z_brk, z_cont, z_asg, z_asgK, z_gN, z_gSeq, z_gSeqL, z_gcons, z_gconsK, z_gnil, z_gsub, z_subK1, z_subK2, z_subK3, z_set, z_set1, z_set2, z_ret, z_retN, z_drop, z_dropK, z_if, z_brT, z_brF, z_for, z_forK, z_loop0, z_loop1, z_loopK, z_var0, z_varS, z_c, z_bin, z_binK1, z_binK2, z_test, z_asB, z_and, z_andT, z_andF, z_or, z_orT, z_orF, z_not, z_notK, z_andV, z_andVT, z_andVF, z_orV, z_orVT, z_orVF, z_notV, z_notVK, z_ifE, z_ifT, z_ifF, z_nil, z_cons, z_consK, z_consK2, z_tup, z_tupK, z_lst, z_lstK, z_un, z_unK, z_neg, z_cb, z_cbK, z_call, z_callK, z_star, z_starK, z_starK2, z_seqL, z_seqT, z_seqR, z_I, z_I0, z_mul, z_mulT, z_mulL, z_tupleR, z_tupM, z_lenP, z_lenM, z_add, z_addS, z_addL, z_addT, z_eqI, z_neI, z_eqB, z_neB, z_eqS, z_neS, z_isN, z_notN, z_ixL, z_ixT, z_ixR, z_ixM, z_atK, z_lenL, z_lenT, z_lenR, z_lenS, z_listL, z_listR, z_listT, z_tupleL, z_tupleT, z_sl, z_slK1, z_slK2, z_slK3, z_oNone, z_oSome, z_oK, z_slT, z_slL, z_slR, z_r1, z_r1K, z_r2, z_r2K, z_zip, z_zipL, z_zipT, z_iseq, z_meth, z_methK, z_methK2, z_app, z_appM, z_lc, isNon, Bool.not_true, Bool.not_false, z_at0, z_at1, z_at2, z_at3, z_mulS, z_okStr, z_join, z_intB, z_intI, z_dnew, z_setD, z_setD1, z_listD, z_listD1, z_par, z_parK, List.set_cons_zero, List.set_cons_succ])
      exact fin _ d1 _ _ hl hy d2
  · have e' : (r == 0) = false := by simpa using e
    (try simp only [z_seq, z_next, z_brk, z_cont, z_asg, z_asgK, z_gN, z_gSeq, z_gSeqL, z_gcons, z_gconsK, z_gnil, z_gsub, z_subK1, z_subK2, z_subK3, z_set, z_set1, z_set2, z_ret, z_retN, z_drop, z_dropK, z_if, z_brT, z_brF, z_for, z_forK, z_loop0, z_loop1, z_loopK, z_var0, z_varS, z_c, z_bin, z_binK1, z_binK2, z_test, z_asB, z_and, z_andT, z_andF, z_or, z_orT, z_orF, z_not, z_notK, z_andV, z_andVT, z_andVF, z_orV, z_orVT, z_orVF, z_notV, z_notVK, z_ifE, z_ifT, z_ifF, z_nil, z_cons, z_consK, z_consK2, z_tup, z_tupK, z_lst, z_lstK, z_un, z_unK, z_neg, z_cb, z_cbK, z_call, z_callK, z_star, z_starK, z_starK2, z_seqL, z_seqT, z_seqR, z_I, z_I0, z_mul, z_mulT, z_mulL, z_tupleR, z_tupM, z_lenP, z_lenM, z_add, z_addS, z_addL, z_addT, z_eqI, z_neI, z_eqB, z_neB, z_eqS, z_neS, z_isN, z_notN, z_ixL, z_ixT, z_ixR, z_ixM, z_atK, z_lenL, z_lenT, z_lenR, z_lenS, z_listL, z_listR, z_listT, z_tupleL, z_tupleT, z_sl, z_slK1, z_slK2, z_slK3, z_oNone, z_oSome, z_oK, z_slT, z_slL, z_slR, z_r1, z_r1K, z_r2, z_r2K, z_zip, z_zipL, z_zipT, z_iseq, z_meth, z_methK, z_methK2, z_app, z_appM, z_lc, isNon, Bool.not_true, Bool.not_false, z_at0, z_at1, z_at2, z_at3, z_mulS, z_okStr, z_join, z_intB, z_intI, z_dnew, z_setD, z_setD1, z_listD, z_listD1, z_par, z_parK, List.set_cons_zero, List.set_cons_succ, e'])
    refine ⟨by omega, by omega, lc_draw (R := fun y => ∃ i : Int, y = .int i ∧ -(10 ^ 40) ≤ i ∧ i ≤ 10 ^ 40) (by rw [rangeD_len]; omega) d1.1 (fun d _ M2 q2 hB h => ?_) (fun ys M' hl hy d2 => ?_)⟩
    · show gN 2 d [some (.ref b), some (.int ways), none] M2 _
      (try simp only [z_seq, z_next, z_brk, z_cont, z_asg, z_asgK, z_gN, z_gSeq, z_gSeqL, z_gcons, z_gconsK, z_gnil, z_gsub, z_subK1, z_subK2, z_subK3, z_set, z_set1, z_set2, z_ret, z_retN, z_drop, z_dropK, z_if, z_brT, z_brF, z_for, z_forK, z_loop0, z_loop1, z_loopK, z_var0, z_varS, z_c, z_bin, z_binK1, z_binK2, z_test, z_asB, z_and, z_andT, z_andF, z_or, z_orT, z_orF, z_not, z_notK, z_andV, z_andVT, z_andVF, z_orV, z_orVT, z_orVF, z_notV, z_notVK, z_ifE, z_ifT, z_ifF, z_nil, z_cons, z_consK, z_consK2, z_tup, z_tupK, z_lst, z_lstK, z_un, z_unK, z_neg, z_cb, z_cbK, z_call, z_callK, z_star, z_starK, z_starK2, z_seqL, z_seqT, z_seqR, z_I, z_I0, z_mul, z_mulT, z_mulL, z_tupleR, z_tupM, z_lenP, z_lenM, z_add, z_addS, z_addL, z_addT, z_eqI, z_neI, z_eqB, z_neB, z_eqS, z_neS, z_isN, z_notN, z_ixL, z_ixT, z_ixR, z_ixM, z_atK, z_lenL, z_lenT, z_lenR, z_lenS, z_listL, z_listR, z_listT, z_tupleL, z_tupleT, z_sl, z_slK1, z_slK2, z_slK3, z_oNone, z_oSome, z_oK, z_slT, z_slL, z_slR, z_r1, z_r1K, z_r2, z_r2K, z_zip, z_zipL, z_zipT, z_iseq, z_meth, z_methK, z_methK2, z_app, z_appM, z_lc, isNon, Bool.not_true, Bool.not_false, z_at0, z_at1, z_at2, z_at3, z_mulS, z_okStr, z_join, z_intB, z_intI, z_dnew, z_setD, z_setD1, z_listD, z_listD1, z_par, z_parK, List.set_cons_zero, List.set_cons_succ])
      refine draw_go hB (by decide) (by decide) fun r2 M3 h2 h3 d3 => ?_
      (try simp only [z_seq, z_next, z_brk, z_cont, z_asg, z_asgK, z_gN, z_gSeq, z_gSeqL, z_gcons, z_gconsK, z_gnil, z_gsub, z_subK1, z_subK2, z_subK3, z_set, z_set1, z_set2, z_ret, z_retN, z_drop, z_dropK, z_if, z_brT, z_brF, z_for, z_forK, z_loop0, z_loop1, z_loopK, z_var0, z_varS, z_c, z_bin, z_binK1, z_binK2, z_test, z_asB, z_and, z_andT, z_andF, z_or, z_orT, z_orF, z_not, z_notK, z_andV, z_andVT, z_andVF, z_orV, z_orVT, z_orVF, z_notV, z_notVK, z_ifE, z_ifT, z_ifF, z_nil, z_cons, z_consK, z_consK2, z_tup, z_tupK, z_lst, z_lstK, z_un, z_unK, z_neg, z_cb, z_cbK, z_call, z_callK, z_star, z_starK, z_starK2, z_seqL, z_seqT, z_seqR, z_I, z_I0, z_mul, z_mulT, z_mulL, z_tupleR, z_tupM, z_lenP, z_lenM, z_add, z_addS, z_addL, z_addT, z_eqI, z_neI, z_eqB, z_neB, z_eqS, z_neS, z_isN, z_notN, z_ixL, z_ixT, z_ixR, z_ixM, z_atK, z_lenL, z_lenT, z_lenR, z_lenS, z_listL, z_listR, z_listT, z_tupleL, z_tupleT, z_sl, z_slK1, z_slK2, z_slK3, z_oNone, z_oSome, z_oK, z_slT, z_slL, z_slR, z_r1, z_r1K, z_r2, z_r2K, z_zip, z_zipL, z_zipT, z_iseq, z_meth, z_methK, z_methK2, z_app, z_appM, z_lc, isNon, Bool.not_true, Bool.not_false, z_at0, z_at1, z_at2, z_at3, z_mulS, z_okStr, z_join, z_intB, z_intI, z_dnew, z_setD, z_setD1, z_listD, z_listD1, z_par, z_parK, List.set_cons_zero, List.set_cons_succ])
      exact h _ _ ⟨_, rfl, by omega, by omega⟩ d3
    · (try simp only [z_seq, z_next, z_brk, z_cont, z_asg, z_asgK, z_gN, z_gSeq, z_gSeqL, z_gcons, z_gconsK, z_gnil, z_gsub, z_subK1, z_subK2, z_subK3, z_set, z_set1, z_set2, z_ret, z_retN, z_drop, z_dropK, z_if, z_brT, z_brF, z_for, z_forK, z_loop0, z_loop1, z_loopK, z_var0, z_varS, z_c, z_bin, z_binK1, z_binK2, z_test, z_asB, z_and, z_andT, z_andF, z_or, z_orT, z_orF, z_not, z_notK, z_andV, z_andVT, z_andVF, z_orV, z_orVT, z_orVF, z_notV, z_notVK, z_ifE, z_ifT, z_ifF, z_nil, z_cons, z_consK, z_consK2, z_tup, z_tupK, z_lst, z_lstK, z_un, z_unK, z_neg, z_cb, z_cbK, z_call, z_callK, z_star, z_starK, z_starK2, z_seqL, z_seqT, z_seqR, z_I, z_I0, z_mul, z_mulT, z_mulL, z_tupleR, z_tupM, z_lenP, z_lenM, z_add, z_addS, z_addL, z_addT, z_eqI, z_neI, z_eqB, z_neB, z_eqS, z_neS, z_isN, z_notN, z_ixL, z_ixT, z_ixR, z_ixM, z_atK, z_lenL, z_lenT, z_lenR, z_lenS, z_listL, z_listR, z_listT, z_tupleL, z_tupleT, z_sl, z_slK1, z_slK2, z_slK3, z_oNone, z_oSome, z_oK, z_slT, z_slL, z_slR, z_r1, z_r1K, z_r2, z_r2K, z_zip, z_zipL, z_zipT, z_iseq, z_meth, z_methK, z_methK2, z_app, z_appM, z_lc, isNon, Bool.not_true, Bool.not_false, z_at0, z_at1, z_at2, z_at3, z_mulS, z_okStr, z_join, z_intB, z_intI, z_dnew, z_setD, z_setD1, z_listD, z_listD1, z_par, z_parK, List.set_cons_zero, List.set_cons_succ])
      exact fin _ d1 _ _ hl hy d2
/-! ### places added, multiplied -/
def padd (a b : List Int) : List Int := List.zipWith (fun x y => x + y) a b
def pscale (n : Int) (a : List Int) : List Int := a.map fun x => n * x
theorem pairs_ints {f : Int → Int → Int} : ∀ (a b : List Int), (pairsD (a.map D.int) (b.map D.int)).map (fun d => match d with | .tup [.int x, .int y] => D.int (f x y) | _ => .non) = (List.zipWith f a b).map D.int
  | [], _ => rfl
  | _ :: _, [] => rfl
  | x :: a, y :: b => by
    show D.int (f x y) :: (pairsD (a.map D.int) (b.map D.int)).map _ = D.int (f x y) :: (List.zipWith f a b).map D.int
    rw [pairs_ints a b]
theorem pairs_mem {a b : List Int} {d : D} (h : d ∈ pairsD (a.map D.int) (b.map D.int)) : ∃ x y : Int, d = .tup [.int x, .int y] := by
  obtain ⟨i, hi⟩ := List.mem_iff_getElem?.mp h
  obtain ⟨x, y, h1, h2, e⟩ := pairs_get hi
  rw [List.getElem?_map] at h1 h2
  cases e1 : a[i]? with
  | none => rw [e1] at h1; cases h1
  | some u =>
    cases e2 : b[i]? with
    | none => rw [e2] at h2; cases h2
    | some w =>
      rw [e1] at h1; rw [e2] at h2
      cases h1; cases h2
      exact ⟨u, w, e⟩
def sp__law_sum : SpD := spP fun ds r => ∃ a b : List Int, ds = [pl a, pl b] ∧ a.length ≤ 1000000 ∧ r = pl (padd a b)
def c__law_sum : CS :=
  (cRet (cCB ρTuple (cCons (cLc (ciZip (cCons (cVar 0) (cCons (cVar 1) cNil))) (gSeq 2 (gCons' (gN 2) (gCons' (gN 3) gNil'))) cYes (cBin ρAdd (cVar 2) (cVar 3)) [2, 3]) cNil)))
theorem sum_lc {τ : StD} {i j : Nat} {M : MS} {k : KD} {a b : List Int} (ha : a.length ≤ 1000000) (hτ : ∀ (x y : Int) (M : MS) (q : KD), q (.int (x + y)) M → gSeq 2 (gCons' (gN i) (gCons' (gN j) gNil')) (.tup [.int x, .int y]) (wipeD τ [i, j]) M (fun τ2 M2 => cBin ρAdd (cVar i) (cVar j) noX τ2 M2 q))
    (h : k (.lst ((padd a b).map D.int)) M) : lcK (gSeq 2 (gCons' (gN i) (gCons' (gN j) gNil'))) cYes (cBin ρAdd (cVar i) (cVar j)) [i, j] τ k (pairsD (a.map D.int) (b.map D.int)) M := by
  refine lc_pure (f := fun d => match d with | .tup [.int x, .int y] => D.int (x + y) | _ => .non) (by rw [pairs_len, List.length_map]; omega) (fun d hd M q hq => ?_) mono_g2 (by rw [pairs_ints]; exact h)
  obtain ⟨x, y, rfl⟩ := pairs_mem hd
  exact hτ x y M q hq
theorem main__law_sum : ∀ ds M k, sp__law_sum ds M k (fun _ _ _ => False) → c__law_sum { nx := fun _ M' => k .non M', rt := k } (startD 4 ds) M := by
  rintro ds M k ⟨r, ⟨a, b, rfl, hl, rfl⟩, q⟩
  show c__law_sum _ [some (.tup (a.map D.int)), some (.tup (b.map D.int)), none, none] M
  unfold c__law_sum
  (try simp only [z_seq, z_next, z_brk, z_cont, z_asg, z_asgK, z_gN, z_gSeq, z_gSeqL, z_gcons, z_gconsK, z_gnil, z_gsub, z_subK1, z_subK2, z_subK3, z_set, z_set1, z_set2, z_ret, z_retN, z_drop, z_dropK, z_if, z_brT, z_brF, z_for, z_forK, z_loop0, z_loop1, z_loopK, z_var0, z_varS, z_c, z_bin, z_binK1, z_binK2, z_test, z_asB, z_and, z_andT, z_andF, z_or, z_orT, z_orF, z_not, z_notK, z_andV, z_andVT, z_andVF, z_orV, z_orVT, z_orVF, z_notV, z_notVK, z_ifE, z_ifT, z_ifF, z_nil, z_cons, z_consK, z_consK2, z_tup, z_tupK, z_lst, z_lstK, z_un, z_unK, z_neg, z_cb, z_cbK, z_call, z_callK, z_star, z_starK, z_starK2, z_seqL, z_seqT, z_seqR, z_I, z_I0, z_mul, z_mulT, z_mulL, z_tupleR, z_tupM, z_lenP, z_lenM, z_add, z_addS, z_addL, z_addT, z_eqI, z_neI, z_eqB, z_neB, z_eqS, z_neS, z_isN, z_notN, z_ixL, z_ixT, z_ixR, z_ixM, z_atK, z_lenL, z_lenT, z_lenR, z_lenS, z_listL, z_listR, z_listT, z_tupleL, z_tupleT, z_sl, z_slK1, z_slK2, z_slK3, z_oNone, z_oSome, z_oK, z_slT, z_slL, z_slR, z_r1, z_r1K, z_r2, z_r2K, z_zip, z_zipL, z_zipT, z_iseq, z_meth, z_methK, z_methK2, z_app, z_appM, z_lc, isNon, Bool.not_true, Bool.not_false, z_at0, z_at1, z_at2, z_at3, z_mulS, z_okStr, z_join, z_intB, z_intI, z_dnew, z_setD, z_setD1, z_listD, z_listD1, z_par, z_parK, List.set_cons_zero, List.set_cons_succ])
  refine sum_lc hl (fun x y M q hq => ?_) ?_
  · show gSeq 2 (gCons' (gN 2) (gCons' (gN 3) gNil')) (.tup [.int x, .int y]) [some (.tup (a.map D.int)), some (.tup (b.map D.int)), none, none] M _
    (try simp only [z_seq, z_next, z_brk, z_cont, z_asg, z_asgK, z_gN, z_gSeq, z_gSeqL, z_gcons, z_gconsK, z_gnil, z_gsub, z_subK1, z_subK2, z_subK3, z_set, z_set1, z_set2, z_ret, z_retN, z_drop, z_dropK, z_if, z_brT, z_brF, z_for, z_forK, z_loop0, z_loop1, z_loopK, z_var0, z_varS, z_c, z_bin, z_binK1, z_binK2, z_test, z_asB, z_and, z_andT, z_andF, z_or, z_orT, z_orF, z_not, z_notK, z_andV, z_andVT, z_andVF, z_orV, z_orVT, z_orVF, z_notV, z_notVK, z_ifE, z_ifT, z_ifF, z_nil, z_cons, z_consK, z_consK2, z_tup, z_tupK, z_lst, z_lstK, z_un, z_unK, z_neg, z_cb, z_cbK, z_call, z_callK, z_star, z_starK, z_starK2, z_seqL, z_seqT, z_seqR, z_I, z_I0, z_mul, z_mulT, z_mulL, z_tupleR, z_tupM, z_lenP, z_lenM, z_add, z_addS, z_addL, z_addT, z_eqI, z_neI, z_eqB, z_neB, z_eqS, z_neS, z_isN, z_notN, z_ixL, z_ixT, z_ixR, z_ixM, z_atK, z_lenL, z_lenT, z_lenR, z_lenS, z_listL, z_listR, z_listT, z_tupleL, z_tupleT, z_sl, z_slK1, z_slK2, z_slK3, z_oNone, z_oSome, z_oK, z_slT, z_slL, z_slR, z_r1, z_r1K, z_r2, z_r2K, z_zip, z_zipL, z_zipT, z_iseq, z_meth, z_methK, z_methK2, z_app, z_appM, z_lc, isNon, Bool.not_true, Bool.not_false, z_at0, z_at1, z_at2, z_at3, z_mulS, z_okStr, z_join, z_intB, z_intI, z_dnew, z_setD, z_setD1, z_listD, z_listD1, z_par, z_parK, List.set_cons_zero, List.set_cons_succ])
    exact ⟨rfl, hq⟩
  · (try simp only [z_seq, z_next, z_brk, z_cont, z_asg, z_asgK, z_gN, z_gSeq, z_gSeqL, z_gcons, z_gconsK, z_gnil, z_gsub, z_subK1, z_subK2, z_subK3, z_set, z_set1, z_set2, z_ret, z_retN, z_drop, z_dropK, z_if, z_brT, z_brF, z_for, z_forK, z_loop0, z_loop1, z_loopK, z_var0, z_varS, z_c, z_bin, z_binK1, z_binK2, z_test, z_asB, z_and, z_andT, z_andF, z_or, z_orT, z_orF, z_not, z_notK, z_andV, z_andVT, z_andVF, z_orV, z_orVT, z_orVF, z_notV, z_notVK, z_ifE, z_ifT, z_ifF, z_nil, z_cons, z_consK, z_consK2, z_tup, z_tupK, z_lst, z_lstK, z_un, z_unK, z_neg, z_cb, z_cbK, z_call, z_callK, z_star, z_starK, z_starK2, z_seqL, z_seqT, z_seqR, z_I, z_I0, z_mul, z_mulT, z_mulL, z_tupleR, z_tupM, z_lenP, z_lenM, z_add, z_addS, z_addL, z_addT, z_eqI, z_neI, z_eqB, z_neB, z_eqS, z_neS, z_isN, z_notN, z_ixL, z_ixT, z_ixR, z_ixM, z_atK, z_lenL, z_lenT, z_lenR, z_lenS, z_listL, z_listR, z_listT, z_tupleL, z_tupleT, z_sl, z_slK1, z_slK2, z_slK3, z_oNone, z_oSome, z_oK, z_slT, z_slL, z_slR, z_r1, z_r1K, z_r2, z_r2K, z_zip, z_zipL, z_zipT, z_iseq, z_meth, z_methK, z_methK2, z_app, z_appM, z_lc, isNon, Bool.not_true, Bool.not_false, z_at0, z_at1, z_at2, z_at3, z_mulS, z_okStr, z_join, z_intB, z_intI, z_dnew, z_setD, z_setD1, z_listD, z_listD1, z_par, z_parK, List.set_cons_zero, List.set_cons_succ])
    exact q
/-- factors that may be multiplied -/
def MulOk (n : Int) (a : List Int) : Prop := ∀ x, x ∈ a → CMul n x ∨ CMulW n x
def sp__law_scaled : SpD := spP fun ds r => ∃ (n : Int) (a : List Int), ds = [.int n, pl a] ∧ a.length ≤ 1000000 ∧ MulOk n a ∧ r = pl (pscale n a)
def c__law_scaled : CS :=
  (cRet (cCB ρTuple (cCons (cLc (ciSeq (cVar 1)) (gN 2) cYes (cBin ρMul (cVar 0) (cVar 2)) [2]) cNil)))
theorem scale_lc {τ : StD} {i : Nat} {M : MS} {k : KD} {n : Int} {a : List Int} (ha : a.length ≤ 1000000) (hm : MulOk n a) (hτ : ∀ (x : Int) (M : MS) (q : KD), (CMul n x ∨ CMulW n x) → q (.int (n * x)) M → gN i (.int x) (wipeD τ [i]) M (fun τ2 M2 => cBin ρMul (cVar 0) (cVar i) noX τ2 M2 q))
    (h : k (.lst ((pscale n a).map D.int)) M) : lcK (gN i) cYes (cBin ρMul (cVar 0) (cVar i)) [i] τ k (a.map D.int) M := by
  refine lc_pure (f := fun d => match d with | .int x => D.int (n * x) | _ => .non) (by rw [List.length_map]; exact ha) (fun d hd M q hq => ?_) mono_gN (by rw [List.map_map]; unfold pscale at h; rw [List.map_map] at h; exact h)
  obtain ⟨x, hx, rfl⟩ := List.mem_map.mp hd
  exact hτ x M q (hm x hx) hq
theorem main__law_scaled : ∀ ds M k, sp__law_scaled ds M k (fun _ _ _ => False) → c__law_scaled { nx := fun _ M' => k .non M', rt := k } (startD 3 ds) M := by
  rintro ds M k ⟨r, ⟨n, a, rfl, hl, hm, rfl⟩, q⟩
  show c__law_scaled _ [some (.int n), some (.tup (a.map D.int)), none] M
  unfold c__law_scaled
  (try simp only [z_seq, z_next, z_brk, z_cont, z_asg, z_asgK, z_gN, z_gSeq, z_gSeqL, z_gcons, z_gconsK, z_gnil, z_gsub, z_subK1, z_subK2, z_subK3, z_set, z_set1, z_set2, z_ret, z_retN, z_drop, z_dropK, z_if, z_brT, z_brF, z_for, z_forK, z_loop0, z_loop1, z_loopK, z_var0, z_varS, z_c, z_bin, z_binK1, z_binK2, z_test, z_asB, z_and, z_andT, z_andF, z_or, z_orT, z_orF, z_not, z_notK, z_andV, z_andVT, z_andVF, z_orV, z_orVT, z_orVF, z_notV, z_notVK, z_ifE, z_ifT, z_ifF, z_nil, z_cons, z_consK, z_consK2, z_tup, z_tupK, z_lst, z_lstK, z_un, z_unK, z_neg, z_cb, z_cbK, z_call, z_callK, z_star, z_starK, z_starK2, z_seqL, z_seqT, z_seqR, z_I, z_I0, z_mul, z_mulT, z_mulL, z_tupleR, z_tupM, z_lenP, z_lenM, z_add, z_addS, z_addL, z_addT, z_eqI, z_neI, z_eqB, z_neB, z_eqS, z_neS, z_isN, z_notN, z_ixL, z_ixT, z_ixR, z_ixM, z_atK, z_lenL, z_lenT, z_lenR, z_lenS, z_listL, z_listR, z_listT, z_tupleL, z_tupleT, z_sl, z_slK1, z_slK2, z_slK3, z_oNone, z_oSome, z_oK, z_slT, z_slL, z_slR, z_r1, z_r1K, z_r2, z_r2K, z_zip, z_zipL, z_zipT, z_iseq, z_meth, z_methK, z_methK2, z_app, z_appM, z_lc, isNon, Bool.not_true, Bool.not_false, z_at0, z_at1, z_at2, z_at3, z_mulS, z_okStr, z_join, z_intB, z_intI, z_dnew, z_setD, z_setD1, z_listD, z_listD1, z_par, z_parK, List.set_cons_zero, List.set_cons_succ])
  refine scale_lc hl hm (fun x M q hc hq => ?_) ?_
  · show gN 2 (.int x) [some (.int n), some (.tup (a.map D.int)), none] M _
    (try simp only [z_seq, z_next, z_brk, z_cont, z_asg, z_asgK, z_gN, z_gSeq, z_gSeqL, z_gcons, z_gconsK, z_gnil, z_gsub, z_subK1, z_subK2, z_subK3, z_set, z_set1, z_set2, z_ret, z_retN, z_drop, z_dropK, z_if, z_brT, z_brF, z_for, z_forK, z_loop0, z_loop1, z_loopK, z_var0, z_varS, z_c, z_bin, z_binK1, z_binK2, z_test, z_asB, z_and, z_andT, z_andF, z_or, z_orT, z_orF, z_not, z_notK, z_andV, z_andVT, z_andVF, z_orV, z_orVT, z_orVF, z_notV, z_notVK, z_ifE, z_ifT, z_ifF, z_nil, z_cons, z_consK, z_consK2, z_tup, z_tupK, z_lst, z_lstK, z_un, z_unK, z_neg, z_cb, z_cbK, z_call, z_callK, z_star, z_starK, z_starK2, z_seqL, z_seqT, z_seqR, z_I, z_I0, z_mul, z_mulT, z_mulL, z_tupleR, z_tupM, z_lenP, z_lenM, z_add, z_addS, z_addL, z_addT, z_eqI, z_neI, z_eqB, z_neB, z_eqS, z_neS, z_isN, z_notN, z_ixL, z_ixT, z_ixR, z_ixM, z_atK, z_lenL, z_lenT, z_lenR, z_lenS, z_listL, z_listR, z_listT, z_tupleL, z_tupleT, z_sl, z_slK1, z_slK2, z_slK3, z_oNone, z_oSome, z_oK, z_slT, z_slL, z_slR, z_r1, z_r1K, z_r2, z_r2K, z_zip, z_zipL, z_zipT, z_iseq, z_meth, z_methK, z_methK2, z_app, z_appM, z_lc, isNon, Bool.not_true, Bool.not_false, z_at0, z_at1, z_at2, z_at3, z_mulS, z_okStr, z_join, z_intB, z_intI, z_dnew, z_setD, z_setD1, z_listD, z_listD1, z_par, z_parK, List.set_cons_zero, List.set_cons_succ])
    exact ⟨hc, hq⟩
  · (try simp only [z_seq, z_next, z_brk, z_cont, z_asg, z_asgK, z_gN, z_gSeq, z_gSeqL, z_gcons, z_gconsK, z_gnil, z_gsub, z_subK1, z_subK2, z_subK3, z_set, z_set1, z_set2, z_ret, z_retN, z_drop, z_dropK, z_if, z_brT, z_brF, z_for, z_forK, z_loop0, z_loop1, z_loopK, z_var0, z_varS, z_c, z_bin, z_binK1, z_binK2, z_test, z_asB, z_and, z_andT, z_andF, z_or, z_orT, z_orF, z_not, z_notK, z_andV, z_andVT, z_andVF, z_orV, z_orVT, z_orVF, z_notV, z_notVK, z_ifE, z_ifT, z_ifF, z_nil, z_cons, z_consK, z_consK2, z_tup, z_tupK, z_lst, z_lstK, z_un, z_unK, z_neg, z_cb, z_cbK, z_call, z_callK, z_star, z_starK, z_starK2, z_seqL, z_seqT, z_seqR, z_I, z_I0, z_mul, z_mulT, z_mulL, z_tupleR, z_tupM, z_lenP, z_lenM, z_add, z_addS, z_addL, z_addT, z_eqI, z_neI, z_eqB, z_neB, z_eqS, z_neS, z_isN, z_notN, z_ixL, z_ixT, z_ixR, z_ixM, z_atK, z_lenL, z_lenT, z_lenR, z_lenS, z_listL, z_listR, z_listT, z_tupleL, z_tupleT, z_sl, z_slK1, z_slK2, z_slK3, z_oNone, z_oSome, z_oK, z_slT, z_slL, z_slR, z_r1, z_r1K, z_r2, z_r2K, z_zip, z_zipL, z_zipT, z_iseq, z_meth, z_methK, z_methK2, z_app, z_appM, z_lc, isNon, Bool.not_true, Bool.not_false, z_at0, z_at1, z_at2, z_at3, z_mulS, z_okStr, z_join, z_intB, z_intI, z_dnew, z_setD, z_setD1, z_listD, z_listD1, z_par, z_parK, List.set_cons_zero, List.set_cons_succ])
    exact q
def sp__law_zero : SpD := spP fun ds r => ∃ n : Int, ds = [.int n] ∧ 1 ≤ n ∧ n ≤ 1000 ∧ r = pl (List.replicate n.toNat 0)
def c__law_zero : CS :=
  (cRet (cBin ρMul (cTup (cCons (cC (.int 0)) cNil)) (cVar 0)))
theorem zeros {n : Nat} : (List.replicate n [D.int 0]).flatten = (List.replicate n (0 : Int)).map D.int := by
  induction n with
  | zero => rfl
  | succ n ih => rw [List.replicate_succ, List.replicate_succ, List.flatten_cons, List.map_cons, ih]; rfl
theorem main__law_zero : ∀ ds M k, sp__law_zero ds M k (fun _ _ _ => False) → c__law_zero { nx := fun _ M' => k .non M', rt := k } (startD 1 ds) M := by
  rintro ds M k ⟨r, ⟨n, rfl, h1, h2, rfl⟩, q⟩
  show c__law_zero _ [some (.int n)] M
  unfold c__law_zero
  (try simp only [z_seq, z_next, z_brk, z_cont, z_asg, z_asgK, z_gN, z_gSeq, z_gSeqL, z_gcons, z_gconsK, z_gnil, z_gsub, z_subK1, z_subK2, z_subK3, z_set, z_set1, z_set2, z_ret, z_retN, z_drop, z_dropK, z_if, z_brT, z_brF, z_for, z_forK, z_loop0, z_loop1, z_loopK, z_var0, z_varS, z_c, z_bin, z_binK1, z_binK2, z_test, z_asB, z_and, z_andT, z_andF, z_or, z_orT, z_orF, z_not, z_notK, z_andV, z_andVT, z_andVF, z_orV, z_orVT, z_orVF, z_notV, z_notVK, z_ifE, z_ifT, z_ifF, z_nil, z_cons, z_consK, z_consK2, z_tup, z_tupK, z_lst, z_lstK, z_un, z_unK, z_neg, z_cb, z_cbK, z_call, z_callK, z_star, z_starK, z_starK2, z_seqL, z_seqT, z_seqR, z_I, z_I0, z_mul, z_mulT, z_mulL, z_tupleR, z_tupM, z_lenP, z_lenM, z_add, z_addS, z_addL, z_addT, z_eqI, z_neI, z_eqB, z_neB, z_eqS, z_neS, z_isN, z_notN, z_ixL, z_ixT, z_ixR, z_ixM, z_atK, z_lenL, z_lenT, z_lenR, z_lenS, z_listL, z_listR, z_listT, z_tupleL, z_tupleT, z_sl, z_slK1, z_slK2, z_slK3, z_oNone, z_oSome, z_oK, z_slT, z_slL, z_slR, z_r1, z_r1K, z_r2, z_r2K, z_zip, z_zipL, z_zipT, z_iseq, z_meth, z_methK, z_methK2, z_app, z_appM, z_lc, isNon, Bool.not_true, Bool.not_false, z_at0, z_at1, z_at2, z_at3, z_mulS, z_okStr, z_join, z_intB, z_intI, z_dnew, z_setD, z_setD1, z_listD, z_listD1, z_par, z_parK, List.set_cons_zero, List.set_cons_succ])
  refine ⟨(by rw [sizeLine_eq]; show 1 ≤ 16777216; decide), by simp, by omega, h2, by show 1 ≤ 1000; decide, ?_⟩
  rw [zeros]
  exact q

/-! ### the law -/
def spLaw (K : PySem.W.Frag) : Sp := fun vs H Q _ => ∃ (a : Addr) (ns : List Int), vs = [.ref a] ∧ SqL K H a (ns.map V.int) ∧ ns.length ≤ 63 ∧ ∀ H', Q (.bl true) H'
def sp_law : SpD := fun ds M k _ => ∃ ns : List Int, ds = [.rd (ns.map D.int)] ∧ ns.length ≤ 63 ∧ ∀ M', k (.bl true) M'
theorem mono_law : MonoS sp_law := fun _ _ _ _ _ _ h _ ⟨ns, e, hl, q⟩ => ⟨ns, e, hl, fun M' => h _ _ (q M')⟩
theorem reps_ints {K : PySem.W.Frag} {F : Hp} : ∀ ns : List Int, Reps K F (ns.map V.int) (ns.map D.int)
  | [] => .nil
  | n :: ns => .cons (.int n) (reps_ints ns)
theorem law_imp {P : Program} {w : World} {K : PySem.W.Frag} {mg : Str → Option Value} {base : Heap} {k : Nat} {f : Addr} {fd : FuncData} {ps : List Str} (G : FnOk P w K mg base CX0 k f fd ps (SPD K (NoX sp_law))) : FnOk P w K mg base CX0 k f fd ps (spLaw K) :=
  G.imp fun vs H Q E ⟨a, ns, e, hS, hl, q⟩ => ⟨[.rd (ns.map D.int)], fun _ => none, H, by subst e; exact .cons (.rd hS (reps_ints ns)) .nil, ⟨Ex.refl H, fun _ _ h => nomatch h⟩, ns, rfl, hl, fun M' v H' F' _ _ r => by cases r; exact q H'⟩

theorem BoxAt.upd {M : MS} {b p : Addr} {m : MO} (h : BoxAt M b) (np : M p = none) : BoxAt (updM M p m) b := by
  obtain ⟨cs, i, v, mk, hM, h1⟩ := h
  exact ⟨cs, i, v, mk, by rw [updM_ne (mne_of_none hM np)]; exact hM, h1⟩
theorem plain_pl {n : Nat} {xs : List Int} (h : xs.length ≤ 1000000) : Plain (n + 1) (pl xs) := .tup (by rw [List.length_map]; exact h) fun d hd => by
  obtain ⟨x, _, rfl⟩ := List.mem_map.mp hd
  exact .int x
/-- two data, told to be the same -/
theorem same_go {n : Nat} {d e : D} {M : MS} {k : KD} (h : d = e) (hp : Plain n d) (q : k (.bl true) M) : spF (sp__law_same_ (n + 1)) [d, e] M k noX := by
  subst h
  exact ⟨_, _, .refl _ _, _, ⟨d, rfl, hp, rfl⟩, q⟩
/-- a datum and a list of the store -/
theorem same_goR {n : Nat} {d : D} {p : Addr} {xs : List D} {M : MS} {k : KD} (np : M p = none) (h : d = .lst xs) (hp : Plain n d) (q : k (.bl true) M) : spF (sp__law_same_ (n + 1)) [d, .ref p] (updM M p (.lst xs)) k noX := by
  subst h
  exact ⟨_, _, .one [.lst xs] [] p xs _ updM_same, _, ⟨_, rfl, hp, rfl⟩, by rw [delM_updM np]; exact q⟩

/-! ### more about comprehensions and data -/
theorem lc_drawX {τ : StD} {M : MS} {k : KD} {g : GD} {ce : DE} {vs : List Nat} {b : Addr} {R : D → Prop} {ds : List D} (hz : ds.length ≤ 1000000) (hb : BoxAt M b)
    (h : ∀ d, d ∈ ds → ∀ (M : MS) (q : KD), BoxAt M b → (∀ y M', R y → Drawn b M M' → q y M') → g d (wipeD τ vs) M (fun τ2 M2 => ce noX τ2 M2 q))
    (hk : ∀ p ys M', p ≠ b → M p = none → ys.length = ds.length → (∀ y, y ∈ ys → R y) → M' p = some (.lst ys) → BoxAt M' b → (∀ a, a ≠ p → a ≠ b → M' a = M a) → k (.lst ys) (delM M' p) ∨ k (.ref p) M') : lcK g cYes ce vs τ k ds M := by
  intro p np
  have hpb : p ≠ b := fun e => by
    obtain ⟨cs, i, v, m, hM, _⟩ := hb
    rw [e, hM] at np; cases np
  have key : ∀ (r acc : List D) (Mi : MS), (∀ d, d ∈ r → d ∈ ds) → acc.length + r.length = ds.length → (∀ y, y ∈ acc → R y) → Mi p = some (.lst acc) → BoxAt Mi b → (∀ a, a ≠ p → a ≠ b → Mi a = M a) → lcD g cYes ce vs p noX τ k r acc Mi := by
    intro r
    induction r with
    | nil =>
      intro acc Mi _ hl hR hp hB hr
      exact ⟨hp, hk p acc Mi hpb np (by simpa using hl) hR hp hB hr⟩
    | cons d r ih =>
      intro acc Mi hm hl hR hp hB hr
      have hd := h d (hm d List.mem_cons_self) Mi (fun y M4 => M4 p = some (.lst acc) ∧ acc.length < sizeLine ∧ lcD g cYes ce vs p noX τ k r (acc ++ [y]) (updM M4 p (.lst (acc ++ [y])))) hB fun y M' hy hD => ?_
      · exact hd
      · have h4 : M' p = some (.lst acc) := (hD.2 p hpb).trans hp
        have hz : acc.length < sizeLine := by
          rw [List.length_cons] at hl
          rw [sizeLine_eq]; omega
        refine ⟨h4, hz, ih (acc ++ [y]) _ (fun x hx => hm x (List.mem_cons_of_mem _ hx)) ?_ ?_ updM_same ?_ ?_⟩
        · rw [List.length_append, List.length_singleton]; rw [List.length_cons] at hl; omega
        · intro z hz
          rcases List.mem_append.mp hz with q | q
          · exact hR z q
          · rw [List.mem_singleton.mp q]; exact hy
        · obtain ⟨cs, i, v, m, hM, h1⟩ := hD.1
          exact ⟨cs, i, v, m, by rw [updM_ne (Ne.symm hpb)]; exact hM, h1⟩
        · intro a ha hab
          rw [updM_ne ha, hD.2 a hab]; exact hr a ha hab
  refine key ds [] _ (fun _ h => h) (by simp) (by intro y hy; cases hy) updM_same ?_ (fun a ha _ => updM_ne ha)
  obtain ⟨cs, i, v, m, hM, h1⟩ := hb
  exact ⟨cs, i, v, m, by rw [updM_ne (Ne.symm hpb)]; exact hM, h1⟩
/-- each item is tested and makes a datum -/
theorem lc_filter {τ : StD} {M : MS} {k : KD} {g : GD} {t : DT} {ce : DE} {vs : List Nat} {ds : List D} {T : D → Bool} {f : D → D} (hz : ds.length ≤ 1000000)
    (h : ∀ d, d ∈ ds → ∀ (M : MS) (q : KD) (q0 : MS → Prop), (T d = true → q (f d) M) → (T d = false → q0 M) → g d (wipeD τ vs) M (fun τ2 M2 => t noX τ2 M2 (fun b M3 => if b = true then ce noX τ2 M3 q else q0 M3)))
    (hk : k (.lst ((ds.filter T).map f)) M) : lcK g t ce vs τ k ds M := by
  intro p np
  have key : ∀ (r acc : List D), (∀ d, d ∈ r → d ∈ ds) → acc.length + r.length ≤ 1000000 → k (.lst (acc ++ (r.filter T).map f)) M → lcD g t ce vs p noX τ k r acc (updM M p (.lst acc)) := by
    intro r
    induction r with
    | nil =>
      intro acc _ _ hk
      refine ⟨updM_same, .inl ?_⟩
      rw [delM_updM np]
      simpa using hk
    | cons d r ih =>
      intro acc hm hl hk
      rw [List.length_cons] at hl
      refine h d (hm d List.mem_cons_self) (updM M p (.lst acc)) _ _ (fun e => ?_) (fun e => ?_)
      · have hz : acc.length < sizeLine := by rw [sizeLine_eq]; omega
        refine ⟨updM_same, hz, ?_⟩
        rw [updM_updM]
        refine ih (acc ++ [f d]) (fun x hx => hm x (List.mem_cons_of_mem _ hx)) ?_ ?_
        · rw [List.length_append, List.length_singleton]; omega
        · rw [List.append_assoc]
          rw [List.filter_cons_of_pos e] at hk
          exact hk
      · refine ⟨updM_same, ih acc (fun x hx => hm x (List.mem_cons_of_mem _ hx)) (by omega) ?_⟩
        rw [List.filter_cons_of_neg (by rw [e]; exact Bool.false_ne_true)] at hk
        exact hk
  exact key ds [] (fun _ h => h) (by simpa using hz) (by simpa using hk)
theorem ints_ofP {P : Int → Prop} : ∀ {ys : List D}, (∀ y, y ∈ ys → ∃ i : Int, y = .int i ∧ P i) → ∃ xs : List Int, ys = xs.map D.int ∧ ∀ x, x ∈ xs → P x
  | [], _ => ⟨[], rfl, fun _ h => by cases h⟩
  | y :: ys, h => by
    obtain ⟨i, e, hi⟩ := h y List.mem_cons_self
    obtain ⟨xs, e2, hx⟩ := ints_ofP (fun z hz => h z (List.mem_cons_of_mem _ hz))
    refine ⟨i :: xs, by rw [e, e2]; rfl, fun x hx' => ?_⟩
    rcases List.mem_cons.mp hx' with q | q
    · rw [q]; exact hi
    · exact hx x q
theorem ixN_ok {n : Nat} {r : Int} (h0 : 0 ≤ r) (h1 : r < n) : ixN n r = some r.toNat := by
  unfold ixN; rw [if_pos h0, if_pos h1]
/-- ints, truth values, texts, none -/
def flatD : D → Bool
  | .non | .bl _ | .int _ | .str _ => true
  | _ => false
theorem flats {xs : List D} (h : ∀ x, x ∈ xs → flatD x = true) : puresD xs = true ∧ PyData.depthAll (toPys xs) ≤ 1 := by
  induction xs with
  | nil => exact ⟨rfl, by unfold toPys PyData.depthAll; omega⟩
  | cons x xs ih =>
    obtain ⟨h1, h2⟩ := ih fun y hy => h y (List.mem_cons_of_mem _ hy)
    have hx := h x List.mem_cons_self
    unfold puresD toPys PyData.depthAll
    cases x <;> first | exact absurd hx Bool.false_ne_true | exact ⟨by rw [h1]; rfl, by unfold toPy PyData.depth; omega⟩
theorem eqv_nil {xs : List D} : eqD (.lst xs) (.lst []) = xs.isEmpty := by
  cases xs <;> rfl
/-- a flat list against the empty one -/
theorem ne_nil {d : D} {xs : List D} {M : MS} {k : KD} (hd : resD M d = .lst xs) (hf : ∀ x, x ∈ xs → flatD x = true) (q : k (.bl (!xs.isEmpty)) M) : ρNeG d (.lst []) M k := by
  obtain ⟨h1, h2⟩ := flats hf
  refine ⟨by rw [hd]; exact h1, rfl, by
    rw [hd]
    unfold smallD toPy PyData.depth
    exact decide_eq_true (by omega), ?_⟩
  rw [hd]
  show k (.bl (!eqD (.lst xs) (.lst []))) M
  rw [eqv_nil]; exact q
theorem resD_ref {M : MS} {p : Addr} {xs : List D} (h : M p = some (.lst xs)) : resD M (.ref p) = .lst xs := by simp only [resD, h]
/-! ### loops with an invariant -/
theorem loop_inv {g : GD} {s : CS} {E : EndsD} {ds : List D} {τ : StD} {M : MS} (I : List D → StD → MS → Prop)
    (hs : ∀ (d : D) (r : List D) (τ : StD) (M : MS) (E' : EndsD), I (d :: r) τ M → E'.rt = E.rt → E'.bk = E.nx → (∀ τ' M', I r τ' M' → E'.nx τ' M') → (∀ τ' M', I r τ' M' → E'.ct τ' M') → g d τ M (fun τ1 M1 => s E' τ1 M1))
    (h0 : I ds τ M) (hk : ∀ τ' M', I [] τ' M' → E.nx τ' M') : loopD g s E ds τ M := by
  induction ds generalizing τ M with
  | nil => exact hk _ _ h0
  | cons d r ih => exact hs d r τ M { E with nx := loopD g s E r, ct := loopD g s E r, bk := E.nx } h0 rfl rfl (fun _ _ h => ih h) (fun _ _ h => ih h)
/-- the same, where what is left matters not -/
theorem loop_inv' {g : GD} {s : CS} {E : EndsD} {ds : List D} {τ : StD} {M : MS} (I : StD → MS → Prop)
    (hs : ∀ (d : D), d ∈ ds → ∀ (τ : StD) (M : MS) (E' : EndsD), I τ M → E'.rt = E.rt → (∀ τ' M', I τ' M' → E'.nx τ' M') → (∀ τ' M', I τ' M' → E'.ct τ' M') → g d τ M (fun τ1 M1 => s E' τ1 M1))
    (h0 : I τ M) (hk : ∀ τ' M', I τ' M' → E.nx τ' M') : loopD g s E ds τ M :=
  loop_inv (I := fun r τ M => (∀ x, x ∈ r → x ∈ ds) ∧ I τ M) (fun d r τ M E' h e1 _ h1 h2 => hs d (h.1 d List.mem_cons_self) τ M E' h.2 e1 (fun τ' M' z => h1 τ' M' ⟨fun x hx => h.1 x (List.mem_cons_of_mem _ hx), z⟩) (fun τ' M' z => h2 τ' M' ⟨fun x hx => h.1 x (List.mem_cons_of_mem _ hx), z⟩)) ⟨fun _ h => h, h0⟩ fun τ' M' h => hk τ' M' h.2
end DL

set_option maxHeartbeats 4000000
namespace DL
open PySem PySem.Spec PyProof.Rows L2
/-! ### blocks -/
inductive St where
  | go (v : List Int) | put (i : Int) | call (u : Bool) (nm : Str) | rep (i : Int) (b : List St)
/-- the word of a call -/
def callW (u : Bool) : Str := if u then "undo" else "do"
mutual
def St.d : St → D
  | .go v => .tup [.str "go", pl v]
  | .put i => .tup [.str "put", .int i]
  | .call u nm => .tup [.str (callW u), .str nm]
  | .rep i b => .tup [.str "repeat", .int i, .tup (St.ds b)]
def St.ds : List St → List D
  | [] => []
  | s :: b => s.d :: St.ds b
end
theorem ds_map : ∀ b : List St, St.ds b = b.map St.d
  | [] => by simp [St.ds]
  | s :: b => by simp [St.ds, ds_map b]
theorem ds_len {b : List St} : (St.ds b).length = b.length := by rw [ds_map, List.length_map]
/-- at most n deep, names that keep N -/
def OkS (N : Str → Prop) (L : Nat) : Nat → St → Prop
  | _, .go v => v.length ≤ 1000
  | _, .put _ => True
  | _, .call _ nm => N nm
  | 0, .rep _ _ => False
  | n + 1, .rep _ b => b.length ≤ L ∧ ∀ s, s ∈ b → OkS N L n s
def OkB (N : Str → Prop) (L n : Nat) (b : List St) : Prop := b.length ≤ L ∧ ∀ s, s ∈ b → OkS N L n s
theorem OkB.tail {N : Str → Prop} {L : Nat} {n : Nat} {s : St} {b : List St} (h : OkB N L n (s :: b)) : OkB N L n b := ⟨by have := h.1; rw [List.length_cons] at this; omega, fun x hx => h.2 x (List.mem_cons_of_mem _ hx)⟩
theorem OkS.up {N : Str → Prop} {L : Nat} : ∀ {n : Nat} {s : St}, OkS N L n s → OkS N L (n + 1) s := by
  intro n
  induction n with
  | zero => intro s h; cases s <;> first | exact h | exact h.elim
  | succ n ih =>
    intro s h
    cases s <;> first | exact h | exact ⟨h.1, fun x hx => ih (h.2 x hx)⟩
theorem OkS.le {N : Str → Prop} {L : Nat} {n m : Nat} {s : St} (h : OkS N L n s) (l : n ≤ m) : OkS N L m s := by
  induction l with
  | refl => exact h
  | step _ ih => exact ih.up
theorem OkB.le {N : Str → Prop} {L : Nat} {n m : Nat} {b : List St} (h : OkB N L n b) (l : n ≤ m) : OkB N L m b := ⟨h.1, fun s hs => (h.2 s hs).le l⟩
theorem OkS.imp {N N' : Str → Prop} {L : Nat} (w : ∀ x, N x → N' x) : ∀ {n : Nat} {s : St}, OkS N L n s → OkS N' L n s := by
  intro n
  induction n with
  | zero => intro s h; cases s <;> first | exact h | exact w _ h | exact h.elim
  | succ n ih =>
    intro s h
    cases s <;> first | exact h | exact w _ h | exact ⟨h.1, fun x hx => ih (h.2 x hx)⟩
theorem plain_s {N : Str → Prop} {L : Nat} (hL : L ≤ 1000) : ∀ {n : Nat} {s : St}, OkS N L n s → Plain (2 * n + 2) s.d := by
  have pair : ∀ (m : Nat) (x y : D), Plain m x → Plain m y → Plain (m + 1) (.tup [x, y]) := fun m x y h1 h2 => .tup (Nat.le_of_ble_eq_true rfl) fun z hz => by
    have : z = x ∨ z = y := by simpa using hz
    rcases this with rfl | rfl
    · exact h1
    · exact h2
  intro n
  induction n with
  | zero =>
    intro s h
    cases s with
    | go v => unfold St.d; exact pair 1 _ _ (.str _) (plain_pl (by have : v.length ≤ 1000 := h; omega))
    | put i => unfold St.d; exact pair 1 _ _ (.str _) (.int _)
    | call u nm => unfold St.d; exact pair 1 _ _ (.str _) (.str _)
    | rep i b => exact h.elim
  | succ n ih =>
    intro s h
    cases s with
    | go v => unfold St.d; exact pair (2 * n + 3) _ _ (.str _) (plain_pl (by have : v.length ≤ 1000 := h; omega))
    | put i => unfold St.d; exact pair (2 * n + 3) _ _ (.str _) (.int _)
    | call u nm => unfold St.d; exact pair (2 * n + 3) _ _ (.str _) (.str _)
    | rep i b =>
      unfold St.d
      refine .tup (Nat.le_of_ble_eq_true rfl) fun z hz => ?_
      have : z = .str "repeat" ∨ z = .int i ∨ z = .tup (St.ds b) := by simpa using hz
      rcases this with rfl | rfl | rfl
      · exact .str _
      · exact .int _
      · refine .tup (n := 2 * n + 2) (by rw [ds_len]; have := h.1; omega) fun z hz => ?_
        rw [ds_map] at hz
        obtain ⟨s, hs, rfl⟩ := List.mem_map.mp hz
        exact ih (h.2 s hs)
theorem plain_b {N : Str → Prop} {L : Nat} (hL : L ≤ 1000) {n : Nat} {b : List St} (h : OkB N L n b) : Plain (2 * n + 3) (.tup (St.ds b)) := .tup (by rw [ds_len]; have := h.1; omega) fun z hz => by
  rw [ds_map] at hz
  obtain ⟨s, hs, rfl⟩ := List.mem_map.mp hz
  exact plain_s hL (h.2 s hs)
/-! ### comprehensions over a list of anything -/
theorem lc_map {α : Type} {τ : StD} {M : MS} {k : KD} {g : GD} {ce : DE} {vs : List Nat} {e f : α → D} {b : List α} (hz : b.length ≤ 1000000)
    (h : ∀ a, a ∈ b → ∀ (M : MS) (q : KD), q (f a) M → g (e a) (wipeD τ vs) M (fun τ2 M2 => ce noX τ2 M2 q)) (hk : k (.lst (b.map f)) M) : lcK g cYes ce vs τ k (b.map e) M := by
  intro p np
  have key : ∀ (r : List α) (acc : List D), (∀ d, d ∈ r → d ∈ b) → acc.length + r.length ≤ 1000000 → k (.lst (acc ++ r.map f)) M → lcD g cYes ce vs p noX τ k (r.map e) acc (updM M p (.lst acc)) := by
    intro r
    induction r with
    | nil =>
      intro acc _ _ hk
      refine ⟨updM_same, .inl ?_⟩
      rw [delM_updM np]
      simpa using hk
    | cons d r ih =>
      intro acc hm hl hk
      rw [List.length_cons] at hl
      have hd := h d (hm d List.mem_cons_self) (updM M p (.lst acc)) (fun y M4 => M4 p = some (.lst acc) ∧ acc.length < sizeLine ∧ lcD g cYes ce vs p noX τ k (r.map e) (acc ++ [y]) (updM M4 p (.lst (acc ++ [y])))) ?_
      · exact hd
      · have hz : acc.length < sizeLine := by rw [sizeLine_eq]; omega
        refine ⟨updM_same, hz, ?_⟩
        rw [updM_updM]
        refine ih (acc ++ [f d]) (fun x hx => hm x (List.mem_cons_of_mem _ hx)) ?_ ?_
        · rw [List.length_append, List.length_singleton]; omega
        · rw [List.append_assoc]; exact hk
  exact key b [] (fun _ h => h) (by simpa using hz) (by simpa using hk)
theorem lc_mapF {α : Type} {τ : StD} {M : MS} {k : KD} {g : GD} {t : DT} {ce : DE} {vs : List Nat} {e : α → D} {f : α → Option D} {b : List α} (hz : b.length ≤ 1000000)
    (h : ∀ a, a ∈ b → ∀ (M : MS) (q : KD) (q0 : MS → Prop), (∀ d, f a = some d → q d M) → (f a = none → q0 M) → g (e a) (wipeD τ vs) M (fun τ2 M2 => t noX τ2 M2 (fun b M3 => if b = true then ce noX τ2 M3 q else q0 M3)))
    (hk : k (.lst (b.filterMap f)) M) : lcK g t ce vs τ k (b.map e) M := by
  intro p np
  have key : ∀ (r : List α) (acc : List D), (∀ d, d ∈ r → d ∈ b) → acc.length + r.length ≤ 1000000 → k (.lst (acc ++ r.filterMap f)) M → lcD g t ce vs p noX τ k (r.map e) acc (updM M p (.lst acc)) := by
    intro r
    induction r with
    | nil =>
      intro acc _ _ hk
      refine ⟨updM_same, .inl ?_⟩
      rw [delM_updM np]
      simpa using hk
    | cons d r ih =>
      intro acc hm hl hk
      rw [List.length_cons] at hl
      refine h d (hm d List.mem_cons_self) (updM M p (.lst acc)) _ _ (fun y hy => ?_) (fun hy => ?_)
      · have hz : acc.length < sizeLine := by rw [sizeLine_eq]; omega
        refine ⟨updM_same, hz, ?_⟩
        rw [updM_updM]
        refine ih (acc ++ [y]) (fun x hx => hm x (List.mem_cons_of_mem _ hx)) ?_ ?_
        · rw [List.length_append, List.length_singleton]; omega
        · rw [List.append_assoc]
          rw [List.filterMap_cons_some hy] at hk
          exact hk
      · refine ⟨updM_same, ih acc (fun x hx => hm x (List.mem_cons_of_mem _ hx)) (by omega) ?_⟩
        rw [List.filterMap_cons_none hy] at hk
        exact hk
  exact key b [] (fun _ h => h) (by simpa using hz) (by simpa using hk)
/-! ### names -/
/-- a name: small letters, one to eight -/
def Nm (x : Str) : Prop := x.length ≤ 8 ∧ ∀ c, c ∈ x.cps.toList → 97 ≤ c ∧ c ≤ 122
def RNm (d : D) : Prop := ∃ x, d = .str x ∧ Nm x
def RCh (d : D) : Prop := ∃ c : Nat, d = .str ⟨#[c]⟩ ∧ 97 ≤ c ∧ c ≤ 122
theorem join_chars : ∀ {ys : List D}, (∀ y, y ∈ ys → RCh y) → ∃ cs : List Nat, ys = (cs.map fun c => (⟨#[c]⟩ : Str)).map D.str ∧ cs.length = ys.length ∧ ∀ c, c ∈ cs → 97 ≤ c ∧ c ≤ 122
  | [], _ => ⟨[], rfl, rfl, fun _ h => by cases h⟩
  | y :: ys, h => by
    obtain ⟨c, e, hc⟩ := h y List.mem_cons_self
    obtain ⟨cs, e2, hl, hx⟩ := join_chars (ys := ys) fun z hz => h z (List.mem_cons_of_mem _ hz)
    refine ⟨c :: cs, by rw [e, e2]; rfl, by rw [List.length_cons, List.length_cons, hl], fun x hx' => ?_⟩
    rcases List.mem_cons.mp hx' with q | q
    · rw [q]; exact hc
    · exact hx x q
theorem joinL_nil : ∀ cs : List Nat, TL.joinL [] (cs.map fun c => [c]) = cs
  | [] => rfl
  | [_] => rfl
  | c :: c2 :: r => by
    have e := joinL_nil (c2 :: r)
    show [c] ++ ([] ++ TL.joinL [] ([c2] :: r.map fun c => [c])) = c :: c2 :: r
    rw [List.map_cons] at e
    rw [e]; rfl
theorem join_nm {cs : List Nat} : (Txt.join "" (cs.map fun c => (⟨#[c]⟩ : Str))).cps.toList = cs := by
  have e := TL.tl_join "" (cs.map fun c => (⟨#[c]⟩ : Str))
  rw [List.map_map] at e
  rw [TL.join_eq]
  exact e.trans (joinL_nil cs)
theorem len_toList (x : Str) : x.cps.toList.length = x.length := Array.length_toList
theorem join_len {cs : List Nat} : (Txt.join "" (cs.map fun c => (⟨#[c]⟩ : Str))).length = cs.length := by
  rw [← len_toList, join_nm]
theorem chars_ok {z : Str} (h : z.cps.toList.all (fun c => decide (97 ≤ c) && decide (c ≤ 122)) = true) {d : D} (hd : d ∈ chars z) : RCh d := by
  unfold chars at hd
  obtain ⟨c, hc, rfl⟩ := List.mem_map.mp hd
  have := List.all_eq_true.mp h c hc
  rw [Bool.and_eq_true] at this
  exact ⟨c, rfl, of_decide_eq_true this.1, of_decide_eq_true this.2⟩
abbrev sp__law_label : SpD := spBox RNm
abbrev mono__law_label : MonoS sp__law_label := mono_box
def c__law_label : CS :=
  (cRet (cMeth okStr ρJoin (cC (.str "")) (cCons (cLc (ciR1 (cCons (cBin ρAdd (cC (.int 1)) (cCall (NoX sp__law_draw) (cCons (cVar 0) (cCons (cC (.int 8)) cNil)))) cNil)) (gN 1) cYes (cCall (NoX sp__law_any) (cCons (cVar 0) (cCons (cC (.str "abcdefghijklmnopqrstuvwxyz")) cNil))) [1]) cNil)))
theorem main__law_label : ∀ ds M k, sp__law_label ds M k (fun _ _ _ => False) → c__law_label { nx := fun _ M' => k .non M', rt := k } (startD 2 ds) M := by
  rintro ds M k ⟨b, rfl, hb, q⟩
  show c__law_label _ [some (.ref b), none] M
  unfold c__law_label
  (try simp only [z_seq, z_next, z_brk, z_cont, z_asg, z_asgK, z_gN, z_gSeq, z_gSeqL, z_gcons, z_gconsK, z_gnil, z_gsub, z_subK1, z_subK2, z_subK3, z_set, z_set1, z_set2, z_ret, z_retN, z_drop, z_dropK, z_if, z_brT, z_brF, z_for, z_forK, z_loop0, z_loop1, z_loopK, z_var0, z_varS, z_c, z_bin, z_binK1, z_binK2, z_test, z_asB, z_and, z_andT, z_andF, z_or, z_orT, z_orF, z_not, z_notK, z_andV, z_andVT, z_andVF, z_orV, z_orVT, z_orVF, z_notV, z_notVK, z_ifE, z_ifT, z_ifF, z_nil, z_cons, z_consK, z_consK2, z_tup, z_tupK, z_lst, z_lstK, z_un, z_unK, z_neg, z_cb, z_cbK, z_call, z_callK, z_star, z_starK, z_starK2, z_seqL, z_seqT, z_seqR, z_I, z_I0, z_mul, z_mulT, z_mulL, z_tupleR, z_tupM, z_lenP, z_lenM, z_add, z_addS, z_addL, z_addT, z_eqI, z_neI, z_eqB, z_neB, z_eqS, z_neS, z_isN, z_notN, z_ixL, z_ixT, z_ixR, z_ixM, z_atK, z_lenL, z_lenT, z_lenR, z_lenS, z_listL, z_listR, z_listT, z_tupleL, z_tupleT, z_sl, z_slK1, z_slK2, z_slK3, z_oNone, z_oSome, z_oK, z_slT, z_slL, z_slR, z_r1, z_r1K, z_r2, z_r2K, z_zip, z_zipL, z_zipT, z_iseq, z_meth, z_methK, z_methK2, z_app, z_appM, z_lc, isNon, Bool.not_true, Bool.not_false, z_at0, z_at1, z_at2, z_at3, z_mulS, z_okStr, z_join, z_intB, z_intI, z_dnew, z_setD, z_setD1, z_listD, z_listD1, z_par, z_parK, List.set_cons_zero, List.set_cons_succ])
  refine ⟨trivial, draw_go hb (by decide) (by decide) fun r M1 h0 h1 d1 => ?_⟩
  (try simp only [z_seq, z_next, z_brk, z_cont, z_asg, z_asgK, z_gN, z_gSeq, z_gSeqL, z_gcons, z_gconsK, z_gnil, z_gsub, z_subK1, z_subK2, z_subK3, z_set, z_set1, z_set2, z_ret, z_retN, z_drop, z_dropK, z_if, z_brT, z_brF, z_for, z_forK, z_loop0, z_loop1, z_loopK, z_var0, z_varS, z_c, z_bin, z_binK1, z_binK2, z_test, z_asB, z_and, z_andT, z_andF, z_or, z_orT, z_orF, z_not, z_notK, z_andV, z_andVT, z_andVF, z_orV, z_orVT, z_orVF, z_notV, z_notVK, z_ifE, z_ifT, z_ifF, z_nil, z_cons, z_consK, z_consK2, z_tup, z_tupK, z_lst, z_lstK, z_un, z_unK, z_neg, z_cb, z_cbK, z_call, z_callK, z_star, z_starK, z_starK2, z_seqL, z_seqT, z_seqR, z_I, z_I0, z_mul, z_mulT, z_mulL, z_tupleR, z_tupM, z_lenP, z_lenM, z_add, z_addS, z_addL, z_addT, z_eqI, z_neI, z_eqB, z_neB, z_eqS, z_neS, z_isN, z_notN, z_ixL, z_ixT, z_ixR, z_ixM, z_atK, z_lenL, z_lenT, z_lenR, z_lenS, z_listL, z_listR, z_listT, z_tupleL, z_tupleT, z_sl, z_slK1, z_slK2, z_slK3, z_oNone, z_oSome, z_oK, z_slT, z_slL, z_slR, z_r1, z_r1K, z_r2, z_r2K, z_zip, z_zipL, z_zipT, z_iseq, z_meth, z_methK, z_methK2, z_app, z_appM, z_lc, isNon, Bool.not_true, Bool.not_false, z_at0, z_at1, z_at2, z_at3, z_mulS, z_okStr, z_join, z_intB, z_intI, z_dnew, z_setD, z_setD1, z_listD, z_listD1, z_par, z_parK, List.set_cons_zero, List.set_cons_succ])
  refine ⟨by omega, by omega, lc_draw (R := RCh) (by rw [rangeD_len]; omega) d1.1 (fun d _ M2 q2 hB h => ?_) (fun ys M2 hl hy d2 => ?_)⟩
  · (try simp only [z_seq, z_next, z_brk, z_cont, z_asg, z_asgK, z_gN, z_gSeq, z_gSeqL, z_gcons, z_gconsK, z_gnil, z_gsub, z_subK1, z_subK2, z_subK3, z_set, z_set1, z_set2, z_ret, z_retN, z_drop, z_dropK, z_if, z_brT, z_brF, z_for, z_forK, z_loop0, z_loop1, z_loopK, z_var0, z_varS, z_c, z_bin, z_binK1, z_binK2, z_test, z_asB, z_and, z_andT, z_andF, z_or, z_orT, z_orF, z_not, z_notK, z_andV, z_andVT, z_andVF, z_orV, z_orVT, z_orVF, z_notV, z_notVK, z_ifE, z_ifT, z_ifF, z_nil, z_cons, z_consK, z_consK2, z_tup, z_tupK, z_lst, z_lstK, z_un, z_unK, z_neg, z_cb, z_cbK, z_call, z_callK, z_star, z_starK, z_starK2, z_seqL, z_seqT, z_seqR, z_I, z_I0, z_mul, z_mulT, z_mulL, z_tupleR, z_tupM, z_lenP, z_lenM, z_add, z_addS, z_addL, z_addT, z_eqI, z_neI, z_eqB, z_neB, z_eqS, z_neS, z_isN, z_notN, z_ixL, z_ixT, z_ixR, z_ixM, z_atK, z_lenL, z_lenT, z_lenR, z_lenS, z_listL, z_listR, z_listT, z_tupleL, z_tupleT, z_sl, z_slK1, z_slK2, z_slK3, z_oNone, z_oSome, z_oK, z_slT, z_slL, z_slR, z_r1, z_r1K, z_r2, z_r2K, z_zip, z_zipL, z_zipT, z_iseq, z_meth, z_methK, z_methK2, z_app, z_appM, z_lc, isNon, Bool.not_true, Bool.not_false, z_at0, z_at1, z_at2, z_at3, z_mulS, z_okStr, z_join, z_intB, z_intI, z_dnew, z_setD, z_setD1, z_listD, z_listD1, z_par, z_parK, List.set_cons_zero, List.set_cons_succ, wipeD])
    refine ⟨b, _, .inr ⟨_, rfl, rfl⟩, hB, by decide, (Nat.le_of_ble_eq_true rfl), fun d M3 hd d3 => h _ _ (chars_ok (by decide +kernel) hd) d3⟩
  · obtain ⟨cs, e, hcl, hc⟩ := join_chars hy
    rw [rangeD_len] at hl
    have hz : cs.length ≤ 8 := by omega
    rw [e]
    (try simp only [z_seq, z_next, z_brk, z_cont, z_asg, z_asgK, z_gN, z_gSeq, z_gSeqL, z_gcons, z_gconsK, z_gnil, z_gsub, z_subK1, z_subK2, z_subK3, z_set, z_set1, z_set2, z_ret, z_retN, z_drop, z_dropK, z_if, z_brT, z_brF, z_for, z_forK, z_loop0, z_loop1, z_loopK, z_var0, z_varS, z_c, z_bin, z_binK1, z_binK2, z_test, z_asB, z_and, z_andT, z_andF, z_or, z_orT, z_orF, z_not, z_notK, z_andV, z_andVT, z_andVF, z_orV, z_orVT, z_orVF, z_notV, z_notVK, z_ifE, z_ifT, z_ifF, z_nil, z_cons, z_consK, z_consK2, z_tup, z_tupK, z_lst, z_lstK, z_un, z_unK, z_neg, z_cb, z_cbK, z_call, z_callK, z_star, z_starK, z_starK2, z_seqL, z_seqT, z_seqR, z_I, z_I0, z_mul, z_mulT, z_mulL, z_tupleR, z_tupM, z_lenP, z_lenM, z_add, z_addS, z_addL, z_addT, z_eqI, z_neI, z_eqB, z_neB, z_eqS, z_neS, z_isN, z_notN, z_ixL, z_ixT, z_ixR, z_ixM, z_atK, z_lenL, z_lenT, z_lenR, z_lenS, z_listL, z_listR, z_listT, z_tupleL, z_tupleT, z_sl, z_slK1, z_slK2, z_slK3, z_oNone, z_oSome, z_oK, z_slT, z_slL, z_slR, z_r1, z_r1K, z_r2, z_r2K, z_zip, z_zipL, z_zipT, z_iseq, z_meth, z_methK, z_methK2, z_app, z_appM, z_lc, isNon, Bool.not_true, Bool.not_false, z_at0, z_at1, z_at2, z_at3, z_mulS, z_okStr, z_join, z_intB, z_intI, z_dnew, z_setD, z_setD1, z_listD, z_listD1, z_par, z_parK, List.set_cons_zero, List.set_cons_succ])
    refine ⟨_, rfl, ?_, q _ _ ⟨_, rfl, ?_, ?_⟩ (d1.trans d2)⟩
    · rw [List.map_map]
      have : ∀ l : List Nat, (l.map ((fun x : Str => x.length) ∘ fun c => (⟨#[c]⟩ : Str))).sum = l.length := fun l => by
        induction l with
        | nil => rfl
        | cons c l ih => rw [List.map_cons, List.sum_cons, ih, List.length_cons, Nat.add_comm]; rfl
      rw [this, List.length_map]
      show cs.length + cs.length * 0 ≤ _
      omega
    · rw [join_len]; exact hz
    · rw [join_nm]; exact hc
theorem eqD_str {a b : Str} : eqD (.str a) (.str b) = decide (a = b) := rfl
theorem inD_str {x : Str} : ∀ {xs : List Str}, inD (.str x) (xs.map D.str) = decide (x ∈ xs)
  | [] => by simp [inD]
  | y :: ys => by
    have e := inD_str (x := x) (xs := ys)
    unfold inD at e ⊢
    rw [List.map_cons, List.any_cons, e, eqD_str]
    by_cases h : y = x
    · subst h; simp
    · rw [decide_eq_false h, Bool.false_or]
      by_cases h2 : x ∈ ys
      · rw [decide_eq_true h2, decide_eq_true (List.mem_cons_of_mem _ h2)]
      · rw [decide_eq_false h2, decide_eq_false (by simp [h2, Ne.symm h])]
theorem pures_str : ∀ {xs : List Str}, puresD (xs.map D.str) = true
  | [] => rfl
  | x :: xs => by
    rw [List.map_cons]
    unfold puresD
    rw [pures_str (xs := xs)]; rfl
theorem notIn_str {x : Str} {xs : List Str} {dy : D} {M : MS} {k : KD} (h : resD M dy = .lst (xs.map D.str)) (q : k (.bl (!decide (x ∈ xs))) M) : ρNotIn (.str x) dy M k := by
  unfold ρNotIn
  rw [h]
  exact ⟨rfl, pures_str, rfl, by rw [inD_str]; exact q⟩
theorem in_str {x : Str} {xs : List Str} {dy : D} {M : MS} {k : KD} (h : resD M dy = .lst (xs.map D.str) ∨ resD M dy = .tup (xs.map D.str)) (q : k (.bl (decide (x ∈ xs))) M) : ρIn (.str x) dy M k := by
  unfold ρIn
  rcases h with h | h <;> rw [h] <;> exact ⟨rfl, pures_str, rfl, by rw [inD_str]; exact q⟩
theorem in_do {w : Str} {b : Bool} {M : MS} {k : KD} (h : decide (w ∈ (["do", "undo"] : List Str)) = b) (q : k (.bl b) M) : ρIn (.str w) (.tup [.str "do", .str "undo"]) M k :=
  in_str (xs := ["do", "undo"]) (.inr rfl) (by rw [h]; exact q)
/-- names in a list of the store, or data -/
def RNms (d : D) : Prop := ∃ xs : List Str, d = .lst (xs.map D.str) ∧ xs ≠ [] ∧ xs.length ≤ 12 ∧ ∀ x, x ∈ xs → Nm x
def sp__law_labels : SpD := fun ds M k _ => ∃ b m, ds = [.ref b, .int m] ∧ BoxAt M b ∧ 1 ≤ m ∧ m ≤ 12 ∧ ∀ d M', RNms d → Drawn b M M' → k d M'
theorem mono__law_labels : MonoS sp__law_labels := fun _ _ _ _ _ _ h _ ⟨b, m, e, h1, h2, h3, q⟩ => ⟨b, m, e, h1, h2, h3, fun d M' a1 a2 => h _ _ (q d M' a1 a2)⟩
def c__law_labels : CS :=
  (cSeq (cAsg (cLst cNil) (gN 2))
    (cSeq (cFor (ciR1 (cCons (cVar 1) cNil)) (gN 3) (cSeq (cAsg (cCall (NoX sp__law_label) (cCons (cVar 0) cNil)) (gN 4))
    (cSeq (cAsg (cBin ρMulS (cBin ρIx (cC (.str "abcdefghijkl")) (cVar 3)) (cC (.int 8))) (gN 5))
    (cIf (cTest (cBin ρNotIn (cVar 4) (cVar 2))) (cDrop (cMeth okL ρApp (cVar 2) (cCons (cVar 4) cNil))) (cIf (cTest (cBin ρNotIn (cVar 5) (cVar 2))) (cDrop (cMeth okL ρApp (cVar 2) (cCons (cVar 5) cNil))) cNext)))))
    (cRet (cVar 2))))
theorem main__law_labels : ∀ ds M k, sp__law_labels ds M k (fun _ _ _ => False) → c__law_labels { nx := fun _ M' => k .non M', rt := frzR k } (startD 6 ds) M := by
  rintro ds M k ⟨b, m, rfl, hb, h1, h2, q⟩
  show c__law_labels _ [some (.ref b), some (.int m), none, none, none, none] M
  unfold c__law_labels
  (try simp only [z_seq, z_next, z_brk, z_cont, z_asg, z_asgK, z_gN, z_gSeq, z_gSeqL, z_gcons, z_gconsK, z_gnil, z_gsub, z_subK1, z_subK2, z_subK3, z_set, z_set1, z_set2, z_ret, z_retN, z_drop, z_dropK, z_if, z_brT, z_brF, z_for, z_forK, z_loop0, z_loop1, z_loopK, z_var0, z_varS, z_c, z_bin, z_binK1, z_binK2, z_test, z_asB, z_and, z_andT, z_andF, z_or, z_orT, z_orF, z_not, z_notK, z_andV, z_andVT, z_andVF, z_orV, z_orVT, z_orVF, z_notV, z_notVK, z_ifE, z_ifT, z_ifF, z_nil, z_cons, z_consK, z_consK2, z_tup, z_tupK, z_lst, z_lstK, z_un, z_unK, z_neg, z_cb, z_cbK, z_call, z_callK, z_star, z_starK, z_starK2, z_seqL, z_seqT, z_seqR, z_I, z_I0, z_mul, z_mulT, z_mulL, z_tupleR, z_tupM, z_lenP, z_lenM, z_add, z_addS, z_addL, z_addT, z_eqI, z_neI, z_eqB, z_neB, z_eqS, z_neS, z_isN, z_notN, z_ixL, z_ixT, z_ixR, z_ixM, z_atK, z_lenL, z_lenT, z_lenR, z_lenS, z_listL, z_listR, z_listT, z_tupleL, z_tupleT, z_sl, z_slK1, z_slK2, z_slK3, z_oNone, z_oSome, z_oK, z_slT, z_slL, z_slR, z_r1, z_r1K, z_r2, z_r2K, z_zip, z_zipL, z_zipT, z_iseq, z_meth, z_methK, z_methK2, z_app, z_appM, z_lc, isNon, Bool.not_true, Bool.not_false, z_at0, z_at1, z_at2, z_at3, z_mulS, z_okStr, z_join, z_intB, z_intI, z_dnew, z_setD, z_setD1, z_listD, z_listD1, z_par, z_parK, List.set_cons_zero, List.set_cons_succ])
  refine ⟨(size1M (Nat.le_of_ble_eq_true rfl)), .inr fun p np => ?_⟩
  (try simp only [z_seq, z_next, z_brk, z_cont, z_asg, z_asgK, z_gN, z_gSeq, z_gSeqL, z_gcons, z_gconsK, z_gnil, z_gsub, z_subK1, z_subK2, z_subK3, z_set, z_set1, z_set2, z_ret, z_retN, z_drop, z_dropK, z_if, z_brT, z_brF, z_for, z_forK, z_loop0, z_loop1, z_loopK, z_var0, z_varS, z_c, z_bin, z_binK1, z_binK2, z_test, z_asB, z_and, z_andT, z_andF, z_or, z_orT, z_orF, z_not, z_notK, z_andV, z_andVT, z_andVF, z_orV, z_orVT, z_orVF, z_notV, z_notVK, z_ifE, z_ifT, z_ifF, z_nil, z_cons, z_consK, z_consK2, z_tup, z_tupK, z_lst, z_lstK, z_un, z_unK, z_neg, z_cb, z_cbK, z_call, z_callK, z_star, z_starK, z_starK2, z_seqL, z_seqT, z_seqR, z_I, z_I0, z_mul, z_mulT, z_mulL, z_tupleR, z_tupM, z_lenP, z_lenM, z_add, z_addS, z_addL, z_addT, z_eqI, z_neI, z_eqB, z_neB, z_eqS, z_neS, z_isN, z_notN, z_ixL, z_ixT, z_ixR, z_ixM, z_atK, z_lenL, z_lenT, z_lenR, z_lenS, z_listL, z_listR, z_listT, z_tupleL, z_tupleT, z_sl, z_slK1, z_slK2, z_slK3, z_oNone, z_oSome, z_oK, z_slT, z_slL, z_slR, z_r1, z_r1K, z_r2, z_r2K, z_zip, z_zipL, z_zipT, z_iseq, z_meth, z_methK, z_methK2, z_app, z_appM, z_lc, isNon, Bool.not_true, Bool.not_false, z_at0, z_at1, z_at2, z_at3, z_mulS, z_okStr, z_join, z_intB, z_intI, z_dnew, z_setD, z_setD1, z_listD, z_listD1, z_par, z_parK, List.set_cons_zero, List.set_cons_succ])
  have hpb : p ≠ b := fun e => by
    obtain ⟨cs, i, v, m, hM, _⟩ := hb
    rw [e, hM] at np; cases np
  refine ⟨by omega, by omega, loop_inv (fun r τ M' => ∃ (xs : List Str) (o3 o4 o5 : Option D), τ = [some (.ref b), some (.int m), some (.ref p), o3, o4, o5] ∧ M' p = some (.lst (xs.map D.str)) ∧ (∀ x, x ∈ xs → Nm x) ∧ xs.length + r.length ≤ 12 ∧ (xs ≠ [] ∨ r.length = m.toNat) ∧ BoxAt M' b ∧ (∀ a, a ≠ p → a ≠ b → M' a = M a) ∧ ∀ d, d ∈ r → ∃ j : Int, d = .int j ∧ 0 ≤ j ∧ j < 12) ?_ ?_ ?_⟩
  · rintro d r _ M2 E' ⟨xs, o3, o4, o5, rfl, hp, hx, hl, hn, hB, hr, hd⟩ - - hnx -
    obtain ⟨j, rfl, j0, j1⟩ := hd _ List.mem_cons_self
    (try simp only [z_seq, z_next, z_brk, z_cont, z_asg, z_asgK, z_gN, z_gSeq, z_gSeqL, z_gcons, z_gconsK, z_gnil, z_gsub, z_subK1, z_subK2, z_subK3, z_set, z_set1, z_set2, z_ret, z_retN, z_drop, z_dropK, z_if, z_brT, z_brF, z_for, z_forK, z_loop0, z_loop1, z_loopK, z_var0, z_varS, z_c, z_bin, z_binK1, z_binK2, z_test, z_asB, z_and, z_andT, z_andF, z_or, z_orT, z_orF, z_not, z_notK, z_andV, z_andVT, z_andVF, z_orV, z_orVT, z_orVF, z_notV, z_notVK, z_ifE, z_ifT, z_ifF, z_nil, z_cons, z_consK, z_consK2, z_tup, z_tupK, z_lst, z_lstK, z_un, z_unK, z_neg, z_cb, z_cbK, z_call, z_callK, z_star, z_starK, z_starK2, z_seqL, z_seqT, z_seqR, z_I, z_I0, z_mul, z_mulT, z_mulL, z_tupleR, z_tupM, z_lenP, z_lenM, z_add, z_addS, z_addL, z_addT, z_eqI, z_neI, z_eqB, z_neB, z_eqS, z_neS, z_isN, z_notN, z_ixL, z_ixT, z_ixR, z_ixM, z_atK, z_lenL, z_lenT, z_lenR, z_lenS, z_listL, z_listR, z_listT, z_tupleL, z_tupleT, z_sl, z_slK1, z_slK2, z_slK3, z_oNone, z_oSome, z_oK, z_slT, z_slL, z_slR, z_r1, z_r1K, z_r2, z_r2K, z_zip, z_zipL, z_zipT, z_iseq, z_meth, z_methK, z_methK2, z_app, z_appM, z_lc, isNon, Bool.not_true, Bool.not_false, z_at0, z_at1, z_at2, z_at3, z_mulS, z_okStr, z_join, z_intB, z_intI, z_dnew, z_setD, z_setD1, z_listD, z_listD1, z_par, z_parK, List.set_cons_zero, List.set_cons_succ])
    refine ⟨b, rfl, hB, fun d M3 hd d3 => ?_⟩
    obtain ⟨x, rfl, hnx1⟩ := hd
    (try simp only [z_seq, z_next, z_brk, z_cont, z_asg, z_asgK, z_gN, z_gSeq, z_gSeqL, z_gcons, z_gconsK, z_gnil, z_gsub, z_subK1, z_subK2, z_subK3, z_set, z_set1, z_set2, z_ret, z_retN, z_drop, z_dropK, z_if, z_brT, z_brF, z_for, z_forK, z_loop0, z_loop1, z_loopK, z_var0, z_varS, z_c, z_bin, z_binK1, z_binK2, z_test, z_asB, z_and, z_andT, z_andF, z_or, z_orT, z_orF, z_not, z_notK, z_andV, z_andVT, z_andVF, z_orV, z_orVT, z_orVF, z_notV, z_notVK, z_ifE, z_ifT, z_ifF, z_nil, z_cons, z_consK, z_consK2, z_tup, z_tupK, z_lst, z_lstK, z_un, z_unK, z_neg, z_cb, z_cbK, z_call, z_callK, z_star, z_starK, z_starK2, z_seqL, z_seqT, z_seqR, z_I, z_I0, z_mul, z_mulT, z_mulL, z_tupleR, z_tupM, z_lenP, z_lenM, z_add, z_addS, z_addL, z_addT, z_eqI, z_neI, z_eqB, z_neB, z_eqS, z_neS, z_isN, z_notN, z_ixL, z_ixT, z_ixR, z_ixM, z_atK, z_lenL, z_lenT, z_lenR, z_lenS, z_listL, z_listR, z_listT, z_tupleL, z_tupleT, z_sl, z_slK1, z_slK2, z_slK3, z_oNone, z_oSome, z_oK, z_slT, z_slL, z_slR, z_r1, z_r1K, z_r2, z_r2K, z_zip, z_zipL, z_zipT, z_iseq, z_meth, z_methK, z_methK2, z_app, z_appM, z_lc, isNon, Bool.not_true, Bool.not_false, z_at0, z_at1, z_at2, z_at3, z_mulS, z_okStr, z_join, z_intB, z_intI, z_dnew, z_setD, z_setD1, z_listD, z_listD1, z_par, z_parK, List.set_cons_zero, List.set_cons_succ, z_ixS])
    obtain ⟨c, ec, hc⟩ : ∃ c : Nat, L2.atI ("abcdefghijkl" : Str).cps.toList j = some c ∧ 97 ≤ c ∧ c ≤ 122 := by
      have hj : j = 0 ∨ j = 1 ∨ j = 2 ∨ j = 3 ∨ j = 4 ∨ j = 5 ∨ j = 6 ∨ j = 7 ∨ j = 8 ∨ j = 9 ∨ j = 10 ∨ j = 11 := by omega
      rcases hj with rfl | rfl | rfl | rfl | rfl | rfl | rfl | rfl | rfl | rfl | rfl | rfl <;> exact ⟨_, rfl, by decide, by decide⟩
    (try simp only [z_seq, z_next, z_brk, z_cont, z_asg, z_asgK, z_gN, z_gSeq, z_gSeqL, z_gcons, z_gconsK, z_gnil, z_gsub, z_subK1, z_subK2, z_subK3, z_set, z_set1, z_set2, z_ret, z_retN, z_drop, z_dropK, z_if, z_brT, z_brF, z_for, z_forK, z_loop0, z_loop1, z_loopK, z_var0, z_varS, z_c, z_bin, z_binK1, z_binK2, z_test, z_asB, z_and, z_andT, z_andF, z_or, z_orT, z_orF, z_not, z_notK, z_andV, z_andVT, z_andVF, z_orV, z_orVT, z_orVF, z_notV, z_notVK, z_ifE, z_ifT, z_ifF, z_nil, z_cons, z_consK, z_consK2, z_tup, z_tupK, z_lst, z_lstK, z_un, z_unK, z_neg, z_cb, z_cbK, z_call, z_callK, z_star, z_starK, z_starK2, z_seqL, z_seqT, z_seqR, z_I, z_I0, z_mul, z_mulT, z_mulL, z_tupleR, z_tupM, z_lenP, z_lenM, z_add, z_addS, z_addL, z_addT, z_eqI, z_neI, z_eqB, z_neB, z_eqS, z_neS, z_isN, z_notN, z_ixL, z_ixT, z_ixR, z_ixM, z_atK, z_lenL, z_lenT, z_lenR, z_lenS, z_listL, z_listR, z_listT, z_tupleL, z_tupleT, z_sl, z_slK1, z_slK2, z_slK3, z_oNone, z_oSome, z_oK, z_slT, z_slL, z_slR, z_r1, z_r1K, z_r2, z_r2K, z_zip, z_zipL, z_zipT, z_iseq, z_meth, z_methK, z_methK2, z_app, z_appM, z_lc, isNon, Bool.not_true, Bool.not_false, z_at0, z_at1, z_at2, z_at3, z_mulS, z_okStr, z_join, z_intB, z_intI, z_dnew, z_setD, z_setD1, z_listD, z_listD1, z_par, z_parK, List.set_cons_zero, List.set_cons_succ, ec, Option.map_some])
    refine ⟨size1M (by decide +kernel), by decide, by decide, (Nat.le_of_ble_eq_true rfl), ?_⟩
    have hp3 : M3 p = some (.lst (xs.map D.str)) := (d3.2 p hpb).trans hp
    have hr3 : ∀ a, a ≠ p → a ≠ b → M3 a = M a := fun a h1 h2 => (d3.2 a h2).trans (hr a h1 h2)
    have hn8 : Nm (Txt.mul ⟨#[c]⟩ 8) := ⟨Nat.le_of_ble_eq_true rfl, fun y hy => by
      have hy' : y ∈ [c, c, c, c, c, c, c, c] := hy
      have : y = c := by simpa using hy'
      rw [this]; exact hc⟩
    rw [List.length_cons] at hl
    have put : ∀ (y : Str) (o3 o4 o5 : Option D), Nm y → xs.length < sizeLine ∧ E'.nx [some (.ref b), some (.int m), some (.ref p), o3, o4, o5] (updM M3 p (.lst (xs.map D.str ++ [.str y]))) := fun y o3 o4 o5 hy => by
      refine ⟨size1ML (by omega), hnx _ _ ⟨xs ++ [y], _, _, _, rfl, ?_, ?_, ?_, .inl (by simp), ?_, ?_, fun d hd' => hd d (List.mem_cons_of_mem _ hd')⟩⟩
      · rw [updM_same, List.map_append]; rfl
      · intro z hz
        rcases List.mem_append.mp hz with h | h
        · exact hx z h
        · rw [List.mem_singleton.mp h]; exact hy
      · rw [List.length_append, List.length_singleton]; omega
      · obtain ⟨cs, i, v, m, hM, h1⟩ := d3.1
        exact ⟨cs, i, v, m, by rw [updM_ne (Ne.symm hpb)]; exact hM, h1⟩
      · exact fun a h1 h2 => (updM_ne h1).trans (hr3 a h1 h2)
    refine notIn_str (resD_ref hp3) ?_
    by_cases e : x ∈ xs
    · have e' : (!decide (x ∈ xs)) = false := by rw [decide_eq_true e]; rfl
      (try simp only [z_seq, z_next, z_brk, z_cont, z_asg, z_asgK, z_gN, z_gSeq, z_gSeqL, z_gcons, z_gconsK, z_gnil, z_gsub, z_subK1, z_subK2, z_subK3, z_set, z_set1, z_set2, z_ret, z_retN, z_drop, z_dropK, z_if, z_brT, z_brF, z_for, z_forK, z_loop0, z_loop1, z_loopK, z_var0, z_varS, z_c, z_bin, z_binK1, z_binK2, z_test, z_asB, z_and, z_andT, z_andF, z_or, z_orT, z_orF, z_not, z_notK, z_andV, z_andVT, z_andVF, z_orV, z_orVT, z_orVF, z_notV, z_notVK, z_ifE, z_ifT, z_ifF, z_nil, z_cons, z_consK, z_consK2, z_tup, z_tupK, z_lst, z_lstK, z_un, z_unK, z_neg, z_cb, z_cbK, z_call, z_callK, z_star, z_starK, z_starK2, z_seqL, z_seqT, z_seqR, z_I, z_I0, z_mul, z_mulT, z_mulL, z_tupleR, z_tupM, z_lenP, z_lenM, z_add, z_addS, z_addL, z_addT, z_eqI, z_neI, z_eqB, z_neB, z_eqS, z_neS, z_isN, z_notN, z_ixL, z_ixT, z_ixR, z_ixM, z_atK, z_lenL, z_lenT, z_lenR, z_lenS, z_listL, z_listR, z_listT, z_tupleL, z_tupleT, z_sl, z_slK1, z_slK2, z_slK3, z_oNone, z_oSome, z_oK, z_slT, z_slL, z_slR, z_r1, z_r1K, z_r2, z_r2K, z_zip, z_zipL, z_zipT, z_iseq, z_meth, z_methK, z_methK2, z_app, z_appM, z_lc, isNon, Bool.not_true, Bool.not_false, z_at0, z_at1, z_at2, z_at3, z_mulS, z_okStr, z_join, z_intB, z_intI, z_dnew, z_setD, z_setD1, z_listD, z_listD1, z_par, z_parK, List.set_cons_zero, List.set_cons_succ, e'])
      refine notIn_str (resD_ref hp3) ?_
      by_cases e2 : Txt.mul ⟨#[c]⟩ 8 ∈ xs
      · have e2' : (!decide (Txt.mul ⟨#[c]⟩ 8 ∈ xs)) = false := by rw [decide_eq_true e2]; rfl
        (try simp only [z_seq, z_next, z_brk, z_cont, z_asg, z_asgK, z_gN, z_gSeq, z_gSeqL, z_gcons, z_gconsK, z_gnil, z_gsub, z_subK1, z_subK2, z_subK3, z_set, z_set1, z_set2, z_ret, z_retN, z_drop, z_dropK, z_if, z_brT, z_brF, z_for, z_forK, z_loop0, z_loop1, z_loopK, z_var0, z_varS, z_c, z_bin, z_binK1, z_binK2, z_test, z_asB, z_and, z_andT, z_andF, z_or, z_orT, z_orF, z_not, z_notK, z_andV, z_andVT, z_andVF, z_orV, z_orVT, z_orVF, z_notV, z_notVK, z_ifE, z_ifT, z_ifF, z_nil, z_cons, z_consK, z_consK2, z_tup, z_tupK, z_lst, z_lstK, z_un, z_unK, z_neg, z_cb, z_cbK, z_call, z_callK, z_star, z_starK, z_starK2, z_seqL, z_seqT, z_seqR, z_I, z_I0, z_mul, z_mulT, z_mulL, z_tupleR, z_tupM, z_lenP, z_lenM, z_add, z_addS, z_addL, z_addT, z_eqI, z_neI, z_eqB, z_neB, z_eqS, z_neS, z_isN, z_notN, z_ixL, z_ixT, z_ixR, z_ixM, z_atK, z_lenL, z_lenT, z_lenR, z_lenS, z_listL, z_listR, z_listT, z_tupleL, z_tupleT, z_sl, z_slK1, z_slK2, z_slK3, z_oNone, z_oSome, z_oK, z_slT, z_slL, z_slR, z_r1, z_r1K, z_r2, z_r2K, z_zip, z_zipL, z_zipT, z_iseq, z_meth, z_methK, z_methK2, z_app, z_appM, z_lc, isNon, Bool.not_true, Bool.not_false, z_at0, z_at1, z_at2, z_at3, z_mulS, z_okStr, z_join, z_intB, z_intI, z_dnew, z_setD, z_setD1, z_listD, z_listD1, z_par, z_parK, List.set_cons_zero, List.set_cons_succ, e2'])
        refine hnx _ _ ⟨xs, _, _, _, rfl, hp3, hx, by omega, .inl (fun z => by rw [z] at e; cases e), d3.1, hr3, fun d hd' => hd d (List.mem_cons_of_mem _ hd')⟩
      · have e2' : (!decide (Txt.mul ⟨#[c]⟩ 8 ∈ xs)) = true := by rw [decide_eq_false e2]; rfl
        (try simp only [z_seq, z_next, z_brk, z_cont, z_asg, z_asgK, z_gN, z_gSeq, z_gSeqL, z_gcons, z_gconsK, z_gnil, z_gsub, z_subK1, z_subK2, z_subK3, z_set, z_set1, z_set2, z_ret, z_retN, z_drop, z_dropK, z_if, z_brT, z_brF, z_for, z_forK, z_loop0, z_loop1, z_loopK, z_var0, z_varS, z_c, z_bin, z_binK1, z_binK2, z_test, z_asB, z_and, z_andT, z_andF, z_or, z_orT, z_orF, z_not, z_notK, z_andV, z_andVT, z_andVF, z_orV, z_orVT, z_orVF, z_notV, z_notVK, z_ifE, z_ifT, z_ifF, z_nil, z_cons, z_consK, z_consK2, z_tup, z_tupK, z_lst, z_lstK, z_un, z_unK, z_neg, z_cb, z_cbK, z_call, z_callK, z_star, z_starK, z_starK2, z_seqL, z_seqT, z_seqR, z_I, z_I0, z_mul, z_mulT, z_mulL, z_tupleR, z_tupM, z_lenP, z_lenM, z_add, z_addS, z_addL, z_addT, z_eqI, z_neI, z_eqB, z_neB, z_eqS, z_neS, z_isN, z_notN, z_ixL, z_ixT, z_ixR, z_ixM, z_atK, z_lenL, z_lenT, z_lenR, z_lenS, z_listL, z_listR, z_listT, z_tupleL, z_tupleT, z_sl, z_slK1, z_slK2, z_slK3, z_oNone, z_oSome, z_oK, z_slT, z_slL, z_slR, z_r1, z_r1K, z_r2, z_r2K, z_zip, z_zipL, z_zipT, z_iseq, z_meth, z_methK, z_methK2, z_app, z_appM, z_lc, isNon, Bool.not_true, Bool.not_false, z_at0, z_at1, z_at2, z_at3, z_mulS, z_okStr, z_join, z_intB, z_intI, z_dnew, z_setD, z_setD1, z_listD, z_listD1, z_par, z_parK, List.set_cons_zero, List.set_cons_succ, e2', z_okL, hp3])
        refine ⟨⟨_, rfl⟩, ?_⟩
        rw [List.length_map]
        exact put _ _ _ _ hn8
    · have e' : (!decide (x ∈ xs)) = true := by rw [decide_eq_false e]; rfl
      (try simp only [z_seq, z_next, z_brk, z_cont, z_asg, z_asgK, z_gN, z_gSeq, z_gSeqL, z_gcons, z_gconsK, z_gnil, z_gsub, z_subK1, z_subK2, z_subK3, z_set, z_set1, z_set2, z_ret, z_retN, z_drop, z_dropK, z_if, z_brT, z_brF, z_for, z_forK, z_loop0, z_loop1, z_loopK, z_var0, z_varS, z_c, z_bin, z_binK1, z_binK2, z_test, z_asB, z_and, z_andT, z_andF, z_or, z_orT, z_orF, z_not, z_notK, z_andV, z_andVT, z_andVF, z_orV, z_orVT, z_orVF, z_notV, z_notVK, z_ifE, z_ifT, z_ifF, z_nil, z_cons, z_consK, z_consK2, z_tup, z_tupK, z_lst, z_lstK, z_un, z_unK, z_neg, z_cb, z_cbK, z_call, z_callK, z_star, z_starK, z_starK2, z_seqL, z_seqT, z_seqR, z_I, z_I0, z_mul, z_mulT, z_mulL, z_tupleR, z_tupM, z_lenP, z_lenM, z_add, z_addS, z_addL, z_addT, z_eqI, z_neI, z_eqB, z_neB, z_eqS, z_neS, z_isN, z_notN, z_ixL, z_ixT, z_ixR, z_ixM, z_atK, z_lenL, z_lenT, z_lenR, z_lenS, z_listL, z_listR, z_listT, z_tupleL, z_tupleT, z_sl, z_slK1, z_slK2, z_slK3, z_oNone, z_oSome, z_oK, z_slT, z_slL, z_slR, z_r1, z_r1K, z_r2, z_r2K, z_zip, z_zipL, z_zipT, z_iseq, z_meth, z_methK, z_methK2, z_app, z_appM, z_lc, isNon, Bool.not_true, Bool.not_false, z_at0, z_at1, z_at2, z_at3, z_mulS, z_okStr, z_join, z_intB, z_intI, z_dnew, z_setD, z_setD1, z_listD, z_listD1, z_par, z_parK, List.set_cons_zero, List.set_cons_succ, e', z_okL, hp3])
      refine ⟨⟨_, rfl⟩, ?_⟩
      rw [List.length_map]
      exact put _ _ _ _ hnx1
  · have e0 : (rangeD 0 m.toNat).length = m.toNat := rangeD_len
    have e1 : ∀ d, d ∈ rangeD 0 m.toNat → ∃ j : Int, d = .int j ∧ 0 ≤ j ∧ j < 12 := fun d hd => by
      obtain ⟨i, hi, rfl⟩ := List.mem_map.mp hd
      have := List.mem_range.mp hi
      exact ⟨_, rfl, by omega, by omega⟩
    have e2 : ([] : List Str).length + (rangeD 0 m.toNat).length ≤ 12 := by rw [e0]; simp; omega
    exact ⟨[], none, none, none, rfl, updM_same, (fun _ h => by cases h), e2, .inr e0, hb.upd np, fun a h1 _ => updM_ne h1, e1⟩
  · rintro τ' M' ⟨xs, o3, o4, o5, rfl, hp, hx, hl, hn, hB, hr, _⟩
    (try simp only [z_seq, z_next, z_brk, z_cont, z_asg, z_asgK, z_gN, z_gSeq, z_gSeqL, z_gcons, z_gconsK, z_gnil, z_gsub, z_subK1, z_subK2, z_subK3, z_set, z_set1, z_set2, z_ret, z_retN, z_drop, z_dropK, z_if, z_brT, z_brF, z_for, z_forK, z_loop0, z_loop1, z_loopK, z_var0, z_varS, z_c, z_bin, z_binK1, z_binK2, z_test, z_asB, z_and, z_andT, z_andF, z_or, z_orT, z_orF, z_not, z_notK, z_andV, z_andVT, z_andVF, z_orV, z_orVT, z_orVF, z_notV, z_notVK, z_ifE, z_ifT, z_ifF, z_nil, z_cons, z_consK, z_consK2, z_tup, z_tupK, z_lst, z_lstK, z_un, z_unK, z_neg, z_cb, z_cbK, z_call, z_callK, z_star, z_starK, z_starK2, z_seqL, z_seqT, z_seqR, z_I, z_I0, z_mul, z_mulT, z_mulL, z_tupleR, z_tupM, z_lenP, z_lenM, z_add, z_addS, z_addL, z_addT, z_eqI, z_neI, z_eqB, z_neB, z_eqS, z_neS, z_isN, z_notN, z_ixL, z_ixT, z_ixR, z_ixM, z_atK, z_lenL, z_lenT, z_lenR, z_lenS, z_listL, z_listR, z_listT, z_tupleL, z_tupleT, z_sl, z_slK1, z_slK2, z_slK3, z_oNone, z_oSome, z_oK, z_slT, z_slL, z_slR, z_r1, z_r1K, z_r2, z_r2K, z_zip, z_zipL, z_zipT, z_iseq, z_meth, z_methK, z_methK2, z_app, z_appM, z_lc, isNon, Bool.not_true, Bool.not_false, z_at0, z_at1, z_at2, z_at3, z_mulS, z_okStr, z_join, z_intB, z_intI, z_dnew, z_setD, z_setD1, z_listD, z_listD1, z_par, z_parK, List.set_cons_zero, List.set_cons_succ])
    refine .inr (.inl ⟨p, _, _, rfl, hp, delM_lt, q _ _ ⟨xs, rfl, ?_, by omega, hx⟩ ?_⟩)
    · rcases hn with h | h
      · exact h
      · exact absurd h (by simp; omega)
    · refine ⟨?_, fun a ha => ?_⟩
      · obtain ⟨cs, i, v, m, hM, h1⟩ := hB
        exact ⟨cs, i, v, m, by unfold delM; rw [if_neg (Ne.symm hpb)]; exact hM, h1⟩
      · by_cases e : a = p
        · subst e; unfold delM; rw [if_pos rfl, np]
        · unfold delM; rw [if_neg e]; exact hr a e ha
/-! ### arrows, statements, blocks -/
def RArrow (w : Int) (d : D) : Prop := ∃ xs : List Int, d = pl xs ∧ xs.length = w.toNat
def sp__law_arrow : SpD := fun ds M k _ => ∃ b w, ds = [.ref b, .int w] ∧ BoxAt M b ∧ 0 ≤ w ∧ w ≤ 1000 ∧ ∀ d M', RArrow w d → Drawn b M M' → k d M'
theorem mono__law_arrow : MonoS sp__law_arrow := fun _ _ _ _ _ _ h _ ⟨b, m, e, h1, h2, h3, q⟩ => ⟨b, m, e, h1, h2, h3, fun d M' a1 a2 => h _ _ (q d M' a1 a2)⟩
def c__law_arrow : CS :=
  (cSeq (cAsg (cBin ρIx (cLst (cCons (cC (.int 3)) (cCons (cC (.int 3)) (cCons (cC (.int 5)) (cCons (cC (.int 9)) cNil))))) (cCall (NoX sp__law_draw) (cCons (cVar 0) (cCons (cC (.int 4)) cNil)))) (gN 2))
    (cRet (cCB ρTuple (cCons (cLc (ciR1 (cCons (cVar 1) cNil)) (gN 3) cYes (cBin ρSub (cCall (NoX sp__law_draw) (cCons (cVar 0) (cCons (cVar 2) cNil))) (cBin ρFdiv (cVar 2) (cC (.int 2)))) [3]) cNil))))
theorem main__law_arrow : ∀ ds M k, sp__law_arrow ds M k (fun _ _ _ => False) → c__law_arrow { nx := fun _ M' => k .non M', rt := k } (startD 4 ds) M := by
  rintro ds M k ⟨b, w, rfl, hb, h1, h2, q⟩
  show c__law_arrow _ [some (.ref b), some (.int w), none, none] M
  unfold c__law_arrow
  (try simp only [z_seq, z_next, z_brk, z_cont, z_asg, z_asgK, z_gN, z_gSeq, z_gSeqL, z_gcons, z_gconsK, z_gnil, z_gsub, z_subK1, z_subK2, z_subK3, z_set, z_set1, z_set2, z_ret, z_retN, z_drop, z_dropK, z_if, z_brT, z_brF, z_for, z_forK, z_loop0, z_loop1, z_loopK, z_var0, z_varS, z_c, z_bin, z_binK1, z_binK2, z_test, z_asB, z_and, z_andT, z_andF, z_or, z_orT, z_orF, z_not, z_notK, z_andV, z_andVT, z_andVF, z_orV, z_orVT, z_orVF, z_notV, z_notVK, z_ifE, z_ifT, z_ifF, z_nil, z_cons, z_consK, z_consK2, z_tup, z_tupK, z_lst, z_lstK, z_un, z_unK, z_neg, z_cb, z_cbK, z_call, z_callK, z_star, z_starK, z_starK2, z_seqL, z_seqT, z_seqR, z_I, z_I0, z_mul, z_mulT, z_mulL, z_tupleR, z_tupM, z_lenP, z_lenM, z_add, z_addS, z_addL, z_addT, z_eqI, z_neI, z_eqB, z_neB, z_eqS, z_neS, z_isN, z_notN, z_ixL, z_ixT, z_ixR, z_ixM, z_atK, z_lenL, z_lenT, z_lenR, z_lenS, z_listL, z_listR, z_listT, z_tupleL, z_tupleT, z_sl, z_slK1, z_slK2, z_slK3, z_oNone, z_oSome, z_oK, z_slT, z_slL, z_slR, z_r1, z_r1K, z_r2, z_r2K, z_zip, z_zipL, z_zipT, z_iseq, z_meth, z_methK, z_methK2, z_app, z_appM, z_lc, isNon, Bool.not_true, Bool.not_false, z_at0, z_at1, z_at2, z_at3, z_mulS, z_okStr, z_join, z_intB, z_intI, z_dnew, z_setD, z_setD1, z_listD, z_listD1, z_par, z_parK, List.set_cons_zero, List.set_cons_succ])
  refine ⟨(size1M (Nat.le_of_ble_eq_true rfl)), .inl ?_⟩
  (try simp only [z_seq, z_next, z_brk, z_cont, z_asg, z_asgK, z_gN, z_gSeq, z_gSeqL, z_gcons, z_gconsK, z_gnil, z_gsub, z_subK1, z_subK2, z_subK3, z_set, z_set1, z_set2, z_ret, z_retN, z_drop, z_dropK, z_if, z_brT, z_brF, z_for, z_forK, z_loop0, z_loop1, z_loopK, z_var0, z_varS, z_c, z_bin, z_binK1, z_binK2, z_test, z_asB, z_and, z_andT, z_andF, z_or, z_orT, z_orF, z_not, z_notK, z_andV, z_andVT, z_andVF, z_orV, z_orVT, z_orVF, z_notV, z_notVK, z_ifE, z_ifT, z_ifF, z_nil, z_cons, z_consK, z_consK2, z_tup, z_tupK, z_lst, z_lstK, z_un, z_unK, z_neg, z_cb, z_cbK, z_call, z_callK, z_star, z_starK, z_starK2, z_seqL, z_seqT, z_seqR, z_I, z_I0, z_mul, z_mulT, z_mulL, z_tupleR, z_tupM, z_lenP, z_lenM, z_add, z_addS, z_addL, z_addT, z_eqI, z_neI, z_eqB, z_neB, z_eqS, z_neS, z_isN, z_notN, z_ixL, z_ixT, z_ixR, z_ixM, z_atK, z_lenL, z_lenT, z_lenR, z_lenS, z_listL, z_listR, z_listT, z_tupleL, z_tupleT, z_sl, z_slK1, z_slK2, z_slK3, z_oNone, z_oSome, z_oK, z_slT, z_slL, z_slR, z_r1, z_r1K, z_r2, z_r2K, z_zip, z_zipL, z_zipT, z_iseq, z_meth, z_methK, z_methK2, z_app, z_appM, z_lc, isNon, Bool.not_true, Bool.not_false, z_at0, z_at1, z_at2, z_at3, z_mulS, z_okStr, z_join, z_intB, z_intI, z_dnew, z_setD, z_setD1, z_listD, z_listD1, z_par, z_parK, List.set_cons_zero, List.set_cons_succ])
  refine draw_go hb (by decide) (by decide) fun r M1 h3 h4 d1 => ?_
  obtain ⟨wd, ew, w0, w1⟩ : ∃ m : Int, L2.atI [D.int 3, D.int 3, D.int 5, D.int 9] r = some (.int m) ∧ 0 < m ∧ m ≤ 9 := by
    have hr : r = 0 ∨ r = 1 ∨ r = 2 ∨ r = 3 := by omega
    rcases hr with rfl | rfl | rfl | rfl
    · exact ⟨3, rfl, by decide, by decide⟩
    · exact ⟨3, rfl, by decide, by decide⟩
    · exact ⟨5, rfl, by decide, by decide⟩
    · exact ⟨9, rfl, by decide, by decide⟩
  (try simp only [z_seq, z_next, z_brk, z_cont, z_asg, z_asgK, z_gN, z_gSeq, z_gSeqL, z_gcons, z_gconsK, z_gnil, z_gsub, z_subK1, z_subK2, z_subK3, z_set, z_set1, z_set2, z_ret, z_retN, z_drop, z_dropK, z_if, z_brT, z_brF, z_for, z_forK, z_loop0, z_loop1, z_loopK, z_var0, z_varS, z_c, z_bin, z_binK1, z_binK2, z_test, z_asB, z_and, z_andT, z_andF, z_or, z_orT, z_orF, z_not, z_notK, z_andV, z_andVT, z_andVF, z_orV, z_orVT, z_orVF, z_notV, z_notVK, z_ifE, z_ifT, z_ifF, z_nil, z_cons, z_consK, z_consK2, z_tup, z_tupK, z_lst, z_lstK, z_un, z_unK, z_neg, z_cb, z_cbK, z_call, z_callK, z_star, z_starK, z_starK2, z_seqL, z_seqT, z_seqR, z_I, z_I0, z_mul, z_mulT, z_mulL, z_tupleR, z_tupM, z_lenP, z_lenM, z_add, z_addS, z_addL, z_addT, z_eqI, z_neI, z_eqB, z_neB, z_eqS, z_neS, z_isN, z_notN, z_ixL, z_ixT, z_ixR, z_ixM, z_atK, z_lenL, z_lenT, z_lenR, z_lenS, z_listL, z_listR, z_listT, z_tupleL, z_tupleT, z_sl, z_slK1, z_slK2, z_slK3, z_oNone, z_oSome, z_oK, z_slT, z_slL, z_slR, z_r1, z_r1K, z_r2, z_r2K, z_zip, z_zipL, z_zipT, z_iseq, z_meth, z_methK, z_methK2, z_app, z_appM, z_lc, isNon, Bool.not_true, Bool.not_false, z_at0, z_at1, z_at2, z_at3, z_mulS, z_okStr, z_join, z_intB, z_intI, z_dnew, z_setD, z_setD1, z_listD, z_listD1, z_par, z_parK, List.set_cons_zero, List.set_cons_succ, ew])
  refine ⟨by omega, by omega, lc_draw (R := fun y => ∃ i : Int, y = .int i ∧ True) (by rw [rangeD_len]; omega) d1.1 (fun d _ M2 q2 hB h => ?_) (fun ys M2 hl hy d2 => ?_)⟩
  · (try simp only [z_seq, z_next, z_brk, z_cont, z_asg, z_asgK, z_gN, z_gSeq, z_gSeqL, z_gcons, z_gconsK, z_gnil, z_gsub, z_subK1, z_subK2, z_subK3, z_set, z_set1, z_set2, z_ret, z_retN, z_drop, z_dropK, z_if, z_brT, z_brF, z_for, z_forK, z_loop0, z_loop1, z_loopK, z_var0, z_varS, z_c, z_bin, z_binK1, z_binK2, z_test, z_asB, z_and, z_andT, z_andF, z_or, z_orT, z_orF, z_not, z_notK, z_andV, z_andVT, z_andVF, z_orV, z_orVT, z_orVF, z_notV, z_notVK, z_ifE, z_ifT, z_ifF, z_nil, z_cons, z_consK, z_consK2, z_tup, z_tupK, z_lst, z_lstK, z_un, z_unK, z_neg, z_cb, z_cbK, z_call, z_callK, z_star, z_starK, z_starK2, z_seqL, z_seqT, z_seqR, z_I, z_I0, z_mul, z_mulT, z_mulL, z_tupleR, z_tupM, z_lenP, z_lenM, z_add, z_addS, z_addL, z_addT, z_eqI, z_neI, z_eqB, z_neB, z_eqS, z_neS, z_isN, z_notN, z_ixL, z_ixT, z_ixR, z_ixM, z_atK, z_lenL, z_lenT, z_lenR, z_lenS, z_listL, z_listR, z_listT, z_tupleL, z_tupleT, z_sl, z_slK1, z_slK2, z_slK3, z_oNone, z_oSome, z_oK, z_slT, z_slL, z_slR, z_r1, z_r1K, z_r2, z_r2K, z_zip, z_zipL, z_zipT, z_iseq, z_meth, z_methK, z_methK2, z_app, z_appM, z_lc, isNon, Bool.not_true, Bool.not_false, z_at0, z_at1, z_at2, z_at3, z_mulS, z_okStr, z_join, z_intB, z_intI, z_dnew, z_setD, z_setD1, z_listD, z_listD1, z_par, z_parK, List.set_cons_zero, List.set_cons_succ, wipeD])
    refine draw_go hB w0 (by omega) fun r2 M3 h5 h6 d3 => ?_
    (try simp only [z_seq, z_next, z_brk, z_cont, z_asg, z_asgK, z_gN, z_gSeq, z_gSeqL, z_gcons, z_gconsK, z_gnil, z_gsub, z_subK1, z_subK2, z_subK3, z_set, z_set1, z_set2, z_ret, z_retN, z_drop, z_dropK, z_if, z_brT, z_brF, z_for, z_forK, z_loop0, z_loop1, z_loopK, z_var0, z_varS, z_c, z_bin, z_binK1, z_binK2, z_test, z_asB, z_and, z_andT, z_andF, z_or, z_orT, z_orF, z_not, z_notK, z_andV, z_andVT, z_andVF, z_orV, z_orVT, z_orVF, z_notV, z_notVK, z_ifE, z_ifT, z_ifF, z_nil, z_cons, z_consK, z_consK2, z_tup, z_tupK, z_lst, z_lstK, z_un, z_unK, z_neg, z_cb, z_cbK, z_call, z_callK, z_star, z_starK, z_starK2, z_seqL, z_seqT, z_seqR, z_I, z_I0, z_mul, z_mulT, z_mulL, z_tupleR, z_tupM, z_lenP, z_lenM, z_add, z_addS, z_addL, z_addT, z_eqI, z_neI, z_eqB, z_neB, z_eqS, z_neS, z_isN, z_notN, z_ixL, z_ixT, z_ixR, z_ixM, z_atK, z_lenL, z_lenT, z_lenR, z_lenS, z_listL, z_listR, z_listT, z_tupleL, z_tupleT, z_sl, z_slK1, z_slK2, z_slK3, z_oNone, z_oSome, z_oK, z_slT, z_slL, z_slR, z_r1, z_r1K, z_r2, z_r2K, z_zip, z_zipL, z_zipT, z_iseq, z_meth, z_methK, z_methK2, z_app, z_appM, z_lc, isNon, Bool.not_true, Bool.not_false, z_at0, z_at1, z_at2, z_at3, z_mulS, z_okStr, z_join, z_intB, z_intI, z_dnew, z_setD, z_setD1, z_listD, z_listD1, z_par, z_parK, List.set_cons_zero, List.set_cons_succ])
    exact ⟨div_ok (by decide) (by decide), h _ _ ⟨_, rfl, trivial⟩ d3⟩
  · (try simp only [z_seq, z_next, z_brk, z_cont, z_asg, z_asgK, z_gN, z_gSeq, z_gSeqL, z_gcons, z_gconsK, z_gnil, z_gsub, z_subK1, z_subK2, z_subK3, z_set, z_set1, z_set2, z_ret, z_retN, z_drop, z_dropK, z_if, z_brT, z_brF, z_for, z_forK, z_loop0, z_loop1, z_loopK, z_var0, z_varS, z_c, z_bin, z_binK1, z_binK2, z_test, z_asB, z_and, z_andT, z_andF, z_or, z_orT, z_orF, z_not, z_notK, z_andV, z_andVT, z_andVF, z_orV, z_orVT, z_orVF, z_notV, z_notVK, z_ifE, z_ifT, z_ifF, z_nil, z_cons, z_consK, z_consK2, z_tup, z_tupK, z_lst, z_lstK, z_un, z_unK, z_neg, z_cb, z_cbK, z_call, z_callK, z_star, z_starK, z_starK2, z_seqL, z_seqT, z_seqR, z_I, z_I0, z_mul, z_mulT, z_mulL, z_tupleR, z_tupM, z_lenP, z_lenM, z_add, z_addS, z_addL, z_addT, z_eqI, z_neI, z_eqB, z_neB, z_eqS, z_neS, z_isN, z_notN, z_ixL, z_ixT, z_ixR, z_ixM, z_atK, z_lenL, z_lenT, z_lenR, z_lenS, z_listL, z_listR, z_listT, z_tupleL, z_tupleT, z_sl, z_slK1, z_slK2, z_slK3, z_oNone, z_oSome, z_oK, z_slT, z_slL, z_slR, z_r1, z_r1K, z_r2, z_r2K, z_zip, z_zipL, z_zipT, z_iseq, z_meth, z_methK, z_methK2, z_app, z_appM, z_lc, isNon, Bool.not_true, Bool.not_false, z_at0, z_at1, z_at2, z_at3, z_mulS, z_okStr, z_join, z_intB, z_intI, z_dnew, z_setD, z_setD1, z_listD, z_listD1, z_par, z_parK, List.set_cons_zero, List.set_cons_succ])
    obtain ⟨xs, e, _⟩ := ints_ofP hy
    rw [rangeD_len] at hl
    rw [e] at hl ⊢
    exact q _ _ ⟨xs, rfl, by rw [List.length_map] at hl; exact hl⟩ (d1.trans d2)
def spN (f : Nat → SpD) : Nat → SpD
  | 0 => fun _ _ _ _ => False
  | n + 1 => f n
theorem mono_N {f : Nat → SpD} (h : ∀ n, MonoS (f n)) (n : Nat) : MonoS (spN f (n + 1)) := h n
def RStm (deep most : Int) (d : D) : Prop := ∃ s : St, d = s.d ∧ OkS Nm most.toNat deep.toNat s
def RBlk (deep most : Int) (d : D) : Prop := ∃ b : List St, d = .tup (St.ds b) ∧ OkB Nm most.toNat deep.toNat b
/-- box, ways, names, deep, most -/
def spGen (c : Nat) (R : Int → Int → D → Prop) : Nat → SpD := spN fun n ds M k _ => ∃ (b : Addr) (ways deep most : Int) (xs : List Str), ds = [.ref b, .int ways, .lst (xs.map D.str), .int deep, .int most] ∧ BoxAt M b ∧ 0 ≤ ways ∧ ways ≤ 1000 ∧ (∀ x, x ∈ xs → Nm x) ∧ xs.length ≤ 1000 ∧
  0 ≤ deep ∧ 2 * deep + c ≤ n ∧ 0 ≤ most ∧ most ≤ 100 ∧ ∀ d M', R deep most d → Drawn b M M' → k d M'
theorem mono_gen {c : Nat} {R : Int → Int → D → Prop} (n : Nat) : MonoS (spGen c R (n + 1)) := fun _ _ _ _ _ _ h _ ⟨b, w, dp, m, xs, e, h1, h2, h3, h4, h5, h6, h7, h8, h9, q⟩ => ⟨b, w, dp, m, xs, e, h1, h2, h3, h4, h5, h6, h7, h8, h9, fun d M' a1 a2 => h _ _ (q d M' a1 a2)⟩
end DL

set_option maxHeartbeats 4000000
/-! reversed, sum, max, dict displays of texts -/
namespace DL
open PySem PySem.Spec PyProof.Rows L2
section
variable {X : Cx} {W : WXL} {o e i : Expr} {es : List Expr} {pos p : Pos} {ca cb cv : DE} {cas : DA}
/-! ### reversed(a tuple) -/
theorem rev_get {α : Type} {ds : List α} {i : Nat} {d : α} (h : ds.reverse[i]? = some d) : i < ds.length ∧ ds[ds.length - 1 - i]? = some d := by
  by_cases hl : i < ds.length
  · rw [List.getElem?_reverse hl] at h
    exact ⟨hl, h⟩
  · rw [List.getElem?_eq_none (by rw [List.length_reverse]; omega)] at h
    cases h
theorem itd_revT {K : PySem.W.Frag} {F : Hp} {a : Addr} {vs : List V} {ds : List D} (hp : SqT K F a vs) (r : Reps K F vs ds) : ItD K (RT.ItvT K a vs.length) F ds.reverse where
  go := fun i d F' M H e h hd => by
    obtain ⟨hl, h1⟩ := rev_get hd
    obtain ⟨v, hv, _⟩ := r.get h1
    rw [← r.len] at hv hl
    exact ⟨hl, vs, v, h.fr.seqT (e.seqT hp), hv⟩
  yl := fun i d F' M H x H' e h hd y => by
    obtain ⟨hl, h1⟩ := rev_get hd
    obtain ⟨v, hv, rv⟩ := r.get h1
    obtain ⟨rfl, y⟩ := y
    have e1 := y vs (h.fr.seqT (e.seqT hp))
    rw [← r.len, e1] at hv
    cases hv
    exact ⟨F', Ex.refl F', h, rv.up e⟩
  st := fun i F' M H e h hi => by
    rw [List.length_reverse, ← r.len] at hi
    exact hi
def ciRev (c : DE) : DA := fun E τ M k => c E τ M (fun d M1 => match d with
  | .tup xs => k xs.reverse M1
  | _ => False)
theorem pid_rev {tg : Expr} (hg : Gl X "reversed") (hm : X.mg "reversed" = none) (he : PEd X W e ca) (hs : starEach [e] X.env = (false, eval e X.env) :: starEach [] X.env := by rfl) : PId X W tg (.Call (.Name "reversed" p) [e] [] pos) (ciRev ca) := by
  refine ⟨PI.weak (RT.pi_revA hg hm he.run hs) ?_, fun _ _ _ _ _ _ hE hk q => he.mono.go hE (fun d M z => ?_) q⟩
  · rintro σ H R ⟨τ, M, F, rs, hh, q⟩
    refine ⟨τ, M, F, rs, hh, he.mono.go DX.rfl (fun d M1 z v H1 F1 e1 h1 r1 => ?_) q⟩
    split at z
    · cases r1 with
      | tup ha ra => exact ⟨_, _, rfl, .inr ⟨h1.fr.seqT ha, z _ H1 F1 e1 h1 (itd_revT ha ra)⟩⟩
    · exact z.elim
  · split at z <;> first | exact hk _ _ z | exact z.elim
/-! ### sum, max -/
def ρSum : RCD := fun ds M k => match ds with
  | [.lst xs] => ∃ ns : List Int, xs = ns.map D.int ∧ k (.int ns.sum) M
  | _ => False
theorem cd_sum (hc : X.calm = true) : CallD X (.builtin "sum") ρSum := by
  refine ⟨⟨_, cr_sum hc, fun vs ds H F M Q hh r q => ?_⟩, fun ds M k k' h q => ?_⟩
  · unfold ρSum at q
    split at q
    · obtain ⟨bs, rfl, q⟩ := q
      cases r with
      | cons r1 r2 =>
        cases r2
        cases r1 with
        | lst hq r => exact ⟨_, bs, rfl, by rw [← reps_int r]; exact SqL.of (hh.fr _ _ hq), q _ H F (Ex.refl F) hh (.int _)⟩
    · exact q.elim
  · unfold ρSum at q ⊢
    split at q
    · obtain ⟨bs, e, q⟩ := q; exact ⟨bs, e, h _ _ q⟩
    · exact q.elim
def ρMax : RCD := fun ds M k => match ds with
  | [.int i, .int j] => k (.int (if j > i then j else i)) M
  | _ => False
theorem cd_max (hc : X.calm = true) : CallD X (.builtin "max") ρMax := by
  refine ⟨⟨_, call_max2 hc, fun vs ds H F M Q hh r q => ?_⟩, fun ds M k k' h q => ?_⟩
  · unfold ρMax at q
    split at q
    · cases r with
      | cons r1 r2 =>
        cases r2 with
        | cons r2 r3 =>
          cases r3; cases r1; cases r2
          exact ⟨_, _, rfl, q _ H F (Ex.refl F) hh (.int _)⟩
    · exact q.elim
  · unfold ρMax at q ⊢
    split at q
    · exact h _ _ q
    · exact q.elim
/-! ### a display of two texts by texts, and what stands in a dict -/
def cDisp2 (k1 v1 k2 v2 : Str) : DE := fun _ _ M k => ∀ p, M p = none → k (.ref p) (updM M p (.dic [(.inr k1, .str v1), (.inr k2, .str v2)]))
theorem pd_disp2 {k1 v1 k2 v2 : Str} {j1 j2 j3 j4 p1 p2 p3 p4} (hne : k1 ≠ k2) : PEd X W (.Dict [some (.Constant (.str k1) j1 p1), some (.Constant (.str k2) j2 p2)] [.Constant (.str v1) j3 p3, .Constant (.str v2) j4 p4] pos) (cDisp2 k1 v1 k2 v2) := by
  refine ⟨PE.weak (pe_disp (pps_cons pe_str pe_str (pps_cons pe_str pe_str pps_nil)) rfl rfl (by simp) (Nat.le_of_ble_eq_true rfl)) ?_, fun _ _ _ M k k' hE hk q p np => hk _ _ (q p np)⟩
  rintro σ H Q ⟨τ, M, F, rs, hh, q⟩ p np
  refine ⟨upd_same, [(.inr k1, .str v1), (.inr k2, .str v2)], rfl, Nat.le_of_ble_eq_true rfl, ?_⟩
  have e : mergeK [] [((.inr k1 : Key), V.str v1), (.inr k2, V.str v2)] = [(.inr k1, .str v1), (.inr k2, .str v2)] := by
    have hd : ¬ ((.inr k1 : Key) = .inr k2) := fun z => hne (Sum.inr.inj z)
    simp [mergeK, putK, hd]
  rw [e]
  have e2 : upd (upd H p (.dK [])) p (.dK [((.inr k1 : Key), V.str v1), (.inr k2, V.str v2)]) = upd H p (.dK [(.inr k1, .str v1), (.inr k2, .str v2)]) := by
    funext b; unfold upd; split <;> rfl
  rw [e2]
  exact q p (hh.freeM np) _ _ F (Ex.refl F) (hh.newM np (.dic (.cons (.str _) (.cons (.str _) .nil)))) (.ref p)
def valD (kvs : List (Key × D)) (k : Key) : Option D := (kvs.find? fun kv => decide (kv.1 = k)).map (·.2)
theorem RepKV.val {K : PySem.W.Frag} {F : Hp} {k : Key} {d : D} : ∀ {xs : List (Key × V)} {ys : List (Key × D)}, RepKV K F xs ys → valD ys k = some d → ∃ v, valV xs k = some v ∧ Rep K F v d
  | _, _, .nil, h => by simp [valD] at h
  | _, _, .cons (k := j) (v := v) (ys := ys) r t, h => by
    by_cases e : j = k
    · subst e
      simp [valD, List.find?_cons] at h
      subst h
      exact ⟨v, by simp [valV, List.find?_cons], r⟩
    · have h2 : valD ys k = some d := by
        simp [valD, List.find?_cons, e] at h
        simpa [valD] using h
      obtain ⟨v2, h3, h4⟩ := RepKV.val t h2
      exact ⟨v2, by simp [valV, List.find?_cons, e] at h3 ⊢; exact h3, h4⟩
def dgetM (x : Str) (M : MS) (k : KD) : Option MO → Prop
  | some (.dic kvs) => atK (valD kvs (.inr x)) M k
  | _ => False
def dgetK (p : Addr) (k : KD) : KD := fun i M2 => match i with
  | .str x => dgetM x M2 k (M2 p)
  | _ => False
def dgK1 (c : DE) (X : DX) (τ : StD) (k : KD) : KD := fun o M1 => match o with
  | .ref p => c X τ M1 (dgetK p k)
  | _ => False
def cDGet (co ci : DE) : DE := fun E σ M k => co E σ M (dgK1 ci E σ k)
theorem dgetM_some {x : Str} {M : MS} {k : KD} {o : Option MO} (h : dgetM x M k o) : ∃ kvs, o = some (.dic kvs) ∧ atK (valD kvs (.inr x)) M k := by
  cases o with
  | none => exact h.elim
  | some m => cases m <;> first | exact ⟨_, rfl, h⟩ | exact h.elim
theorem dgetK_str {p : Addr} {k : KD} {d : D} {M : MS} (h : dgetK p k d M) : ∃ x, d = .str x ∧ dgetM x M k (M p) := by
  cases d <;> first | exact ⟨_, rfl, h⟩ | exact h.elim
theorem dgK1_ref {c : DE} {E : DX} {σ : StD} {k : KD} {d : D} {M : MS} (h : dgK1 c E σ k d M) : ∃ p, d = .ref p ∧ c E σ M (dgetK p k) := by
  cases d <;> first | exact ⟨_, rfl, h⟩ | exact h.elim
theorem pd_dget (hu : X.A.units + 64 < cLine) (ho : PEd X W o ca) (hi : PEd X W i cb) (hs : NoSl i) : PEd X W (.Subscript o i pos) (cDGet ca cb) := by
  have le : ∀ {p : Addr} {k k' : KD}, KD.le k k' → KD.le (dgetK p k) (dgetK p k') := fun hk d M z => by
    obtain ⟨x, rfl, z⟩ := dgetK_str z
    obtain ⟨kvs, e, z⟩ := dgetM_some z
    show dgetM x M _ (M _)
    rw [e]
    exact atK_le hk z
  refine ⟨PE.weak (pe_dget (by omega) ho.run hi.run hs) ?_, fun _ _ _ _ _ _ hE hk q => ho.mono.go hE (fun d1 M1 z => ?_) q⟩
  · rintro σ H Q ⟨τ, M, F, rs, hh, q⟩
    refine ⟨τ, M, F, rs, hh, ho.mono.go DX.rfl (fun d1 M1 z v H1 F1 e1 h1 r1 => ?_) q⟩
    obtain ⟨pp, rfl, z⟩ := dgK1_ref z
    refine ⟨τ, M1, F1, rs.up e1, h1, hi.mono.go (KXL.up e1) (fun d2 M2 z2 v2 H2 F2 e2 h2 r2 => ?_) z⟩
    obtain ⟨x, rfl, z2⟩ := dgetK_str z2
    obtain ⟨kvs, hm, z2⟩ := dgetM_some z2
    obtain ⟨d, hd, q2⟩ := atK_some z2
    cases r1; cases r2
    obtain ⟨_, ob, hob, rm⟩ := h2.mu _ _ hm
    cases rm with
    | dic r =>
      obtain ⟨w, hw, rw'⟩ := r.val hd
      refine ⟨_, w, rfl, ?_, q2 _ H2 F2 (e1.trans e2) h2 rw'⟩
      rw [← hw]
      exact DGet.k (k := .inr x) hob
  · obtain ⟨pp, rfl, z⟩ := dgK1_ref z
    exact hi.mono.go hE (le hk) z
end
end DL

set_option maxHeartbeats 4000000
/-! a tuple backwards: t[::-1] -/
namespace DL
open PySem PySem.Spec PyProof.Rows L2
section
variable {prog : Program} {w : World} {A : Around} {E : Value → Shared → Prop} {s : Shared}
theorem adjust_back (n : Nat) : Builtin.Slice.sliceAdjust none none (-1) (n : Int) = ((n : Int) - 1, -1) := rfl
theorem places_back (n : Nat) : Builtin.Slice.slicePlaces ((n : Int) - 1) (-1) (-1) = n := by
  unfold Builtin.Slice.slicePlaces
  simp
  omega
theorem back_applied {sl : Addr} {t : Tok} {n : Nat} {Q : Int × Int × Nat → Shared → Prop} (hs : s.heap.IsSliceOf sl .none .none (.int (-1) t))
    (h : Q ((n : Int) - 1, -1, n) s) : wpAny (model prog w) A (Builtin.Slice.sliceApplied (.ref sl) (pure (n : Int))) Q E s := by
  obtain ⟨ob, g1, g2, g3⟩ := id hs
  unfold Builtin.Slice.sliceApplied Builtin.Slice.sliceFields
  refine wpAny_bind (wpAny_bind (wpAny_field g1 g3 (x := .none) rfl (wpAny_bind (wpAny_field g1 g3 (x := .none) rfl ?_))))
  refine wpAny_bind (wpAny_field g1 g3 (x := .int (-1) t) rfl (wpAny_pure ?_))
  refine wpAny_bind (HT.slicePart_ (.int (-1) t) ?_)
  show wpAny _ _ (if ((-1 : Int) == 0) = true then _ else _) _ _ s
  rw [if_neg (by decide)]
  refine wpAny_bind (HT.slicePart_ .none (wpAny_bind (HT.slicePart_ .none (wpAny_bind (wpAny_pure ?_)))))
  show wpAny _ _ (match Builtin.Slice.sliceAdjust none none (-1) (n : Int) with | (lo, hi) => pure (lo, (-1 : Int), Builtin.Slice.slicePlaces lo hi (-1))) _ _ s
  rw [adjust_back]
  show wpAny _ _ (pure ((n : Int) - 1, (-1 : Int), Builtin.Slice.slicePlaces ((n : Int) - 1) (-1) (-1))) _ _ s
  rw [places_back]
  exact wpAny_pure h
theorem pick_back (xs : Array Value) : ((List.range xs.size).filterMap fun (m : Nat) => xs[(((xs.size : Nat) : Int) - 1 + (m : Int) * (-1)).toNat]?) = xs.toList.reverse := by
  have e : ∀ (k : Nat), k ≤ xs.size → ((List.range k).filterMap fun (m : Nat) => xs[(((xs.size : Nat) : Int) - 1 + (m : Int) * (-1)).toNat]?) = xs.toList.reverse.take k := by
    intro k
    induction k with
    | zero => intro _; rfl
    | succ k ih =>
      intro hk
      have hi : (((xs.size : Nat) : Int) - 1 + (k : Int) * (-1)).toNat = xs.size - 1 - k := by omega
      have hlt : xs.size - 1 - k < xs.size := by omega
      have hg : xs[xs.size - 1 - k]? = some xs[xs.size - 1 - k] := Array.getElem?_eq_getElem hlt
      have hr : xs.toList.reverse[k]? = some xs[xs.size - 1 - k] := by
        rw [List.getElem?_reverse (by rw [Array.length_toList]; omega), Array.length_toList, Array.getElem?_toList, hg]
      rw [List.range_succ, List.filterMap_append, ih (by omega)]
      have hone : List.filterMap (fun (m : Nat) => xs[(((xs.size : Nat) : Int) - 1 + (m : Int) * (-1)).toNat]?) [k] = [xs[xs.size - 1 - k]] := by
        rw [List.filterMap_cons_some (b := xs[xs.size - 1 - k]) (by rw [hi]; exact hg)]; rfl
      rw [hone, List.take_succ, hr]; rfl
  have := e xs.size (Nat.le_refl _)
  rw [this, List.take_of_length_le (by rw [List.length_reverse, Array.length_toList]; omega)]
theorem item_back {t sl : Addr} {items : Array Value} {u : Tok} {Q : Value → Shared → Prop} (ht : IsTup s.heap t items) (hs : s.heap.IsSliceOf sl .none .none (.int (-1) u))
    (h : Q (.ref s.heap.objs.size) { s with heap := s.heap.push { cls := .type "tuple", data := .seq items.toList.reverse.toArray } })
    (hz : items.size ≤ sizeLine) : wpAny (model prog w) A (getItem (.ref t) (.ref sl)) Q E s := by
  have hsz : sizeOk (.seq items.toList.reverse.toArray) := by
    show items.toList.reverse.toArray.size ≤ sizeLine
    rw [List.size_toArray, List.length_reverse, Array.length_toList]; exact hz
  obtain ⟨ob, g1, g2, g3⟩ := id hs
  have hT : s.TypeIs (.ref sl) "slice" := ⟨ob, g1, g2⟩
  unfold getItem
  try with_reducible refine wpAny_holding ?_
  first | refine wpAny_bind (wpAny_pure ?_) | skip
  refine wpAny_bind (wpAny_sequenceKey ht.typeIs (by decide) ?_)
  refine wpAny_bind (wpAny_callSpecial?_slot (name := Str.ofString "__getitem__") ht.typeIs PyProof.Rows.slot_tuple_getitem (wpAny_call_entry PyProof.Rows.slot_tuple_getitem ht.typeIs PyProof.Rows.entry_tuple_getitem ?_ (PyProof.Rows.args_tuple_getitem _ _)))
  show wpAny _ _ (Builtin.Tuple.tupleItemsOf (.ref t) >>= _) _ _ s
  refine wpAny_bind (PyProof.Rows.tupleItemsOf_ ht (wpAny_bind (wpAny_typeOf hT ?_)))
  rw [if_pos (by decide)]
  refine wpAny_bind (back_applied hs ?_)
  have hno : ¬ ((((items.size : Nat) : Int) - 1 == 0 && (-1 : Int) == 1 && items.size == items.size) = true) := by
    intro z
    rw [Bool.and_eq_true, Bool.and_eq_true] at z
    exact absurd z.1.2 (by decide)
  show wpAny _ _ (if (((items.size : Nat) : Int) - 1 == 0 && (-1 : Int) == 1 && items.size == items.size) = true then _ else _) _ _ s
  rw [if_neg hno, pick_back]
  refine wpAny_bind (m := Builtin.Tuple.tupleExact _) (wpAny_newObj_type ?_ hsz)
  first
    | exact wpAny_pure ⟨_, rfl, wpAny_pure h⟩
    | exact wpAny_bind (wpAny_pure (wpAny_pure ⟨_, rfl, wpAny_pure h⟩))
    | exact wpAny_pure (wpAny_pure ⟨_, rfl, wpAny_pure h⟩)
end
/-! ### by values -/
section
variable {X : Cx} {W : WXL} {e st : Expr} {te ts : TE} {pos p2 : Pos} {ca cb : DE}
def tBack (K : PySem.W.Frag) (te ts : TE) : TE := fun σ H Q => te σ H fun x H1 => ts σ H1 fun y H2 => ∃ a xs, x = .ref a ∧ y = .int (-1) ∧ SqT K H2 a xs ∧ ∀ p, H2 p = none → Q (.ref p) (upd H2 p (.tup xs.reverse))
theorem pe_back (he : PE X e te) (hst : PE X st ts) : PE X (.Subscript e (.Slice none none (some st) p2) pos) (tBack X.K te ts) := by
  refine ⟨fun pins s σ H Q I h => ?_⟩
  refine Subscript_ (thn (he.run pins s σ H _ I h) fun v s1 ⟨x, H1, I1, r1, q1⟩ => wpAny_Slice ?_)
  rw [evalPart_none]
  refine wpAny_pure (wpAny_pure ?_)
  rw [evalPart_some]
  refine thn (hst.run pins s1 σ H1 _ I1 q1) fun u s2 ⟨y, H2, I2, r2, a, xs, ex, ey, hx, q⟩ => ?_
  subst ex ey
  obtain rfl : v = Value.ref a := r1
  obtain ⟨t, rfl⟩ := r2
  have I3 : Inv X pins σ H2 { s2 with heap := s2.heap.push { cls := .type "slice", data := .fields #[.none, .none, .int (-1) t] } } := I2.kept (t' := s2.toks) fun b ob q => Heap.get?_push_of_some _ q
  obtain ⟨its, r, ht, hz⟩ := I3.tuple hx
  refine PyProof.Rows.tail_any (ops := [.ref a, .ref s2.heap.objs.size]) ht.typeIs PyProof.Rows.slot_tuple_getitem.lookup (item_back ht (Heap.IsSliceOf.new ..) ?_ (by rw [List.size_toArray, ← r.length]; exact hz)) (by with_unfolding_all rfl)
  refine ⟨.ref _, _, I3.laid (t' := s2.toks) (o := .tup xs.reverse) (fun b ob q => Heap.get?_push_of_some _ q) (Nat.le_refl _) ?_, rfl, q _ (I3.hok.fresh (Nat.le_refl _))⟩
  exact ⟨by rw [List.length_reverse]; exact hz, its.reverse, r.reverse, by
    have := IsTup.new (h := s2.heap.push { cls := .type "slice", data := .fields #[.none, .none, .int (-1) t] }) (items := its.toArray.toList.reverse.toArray)
    simpa using this⟩
def cBack (ca cs : DE) : DE := fun E σ M k => ca E σ M (fun d M1 => cs E σ M1 (fun y M2 => match d, y with
  | .tup xs, .int j => j = -1 ∧ k (.tup xs.reverse) M2
  | _, _ => False))
theorem Reps.rev {K : PySem.W.Frag} {F : Hp} : ∀ {vs : List V} {ds : List D}, Reps K F vs ds → Reps K F vs.reverse ds.reverse
  | _, _, .nil => .nil
  | _, _, .cons r t => by
    rw [List.reverse_cons, List.reverse_cons]
    exact (Reps.rev t).app (.cons r .nil)
theorem pd_back (he : PEd X W e ca) (hst : PEd X W st cb) : PEd X W (.Subscript e (.Slice none none (some st) p2) pos) (cBack ca cb) := by
  refine ⟨PE.weak (pe_back he.run hst.run) ?_, fun _ _ _ _ _ _ hE hk q => he.mono.go hE (fun d1 M1 z => hst.mono.go hE (fun d2 M2 z2 => ?_) z) q⟩
  · rintro σ H Q ⟨τ, M, F, rs, hh, q⟩
    refine ⟨τ, M, F, rs, hh, he.mono.go DX.rfl (fun d1 M1 z v H1 F1 e1 h1 r1 => ?_) q⟩
    refine ⟨τ, M1, F1, rs.up e1, h1, hst.mono.go (KXL.up e1) (fun d2 M2 z2 v2 H2 F2 e2 h2 r2 => ?_) z⟩
    split at z2
    · obtain ⟨rfl, z2⟩ := z2
      cases r2
      cases r1 with
      | tup hq r =>
        refine ⟨_, _, rfl, rfl, h2.fr.seqT (e2.seqT hq), fun p np => ?_⟩
        obtain ⟨e3, h3⟩ := h2.newF (o := .tup _) np
        exact z2 _ _ _ ((e1.trans e2).trans e3) h3 (.tup (SqT.of upd_same) ((r.up (e2.trans e3)).rev))
    · exact z2.elim
  · split at z2
    · exact ⟨z2.1, hk _ _ z2.2⟩
    · exact z2.elim
end
end DL

set_option maxHeartbeats 400000
/-! max(xs, default=d) of ints -/
namespace DL
open PySem PySem.Spec PyProof.Rows L2
section
variable {prog : Program} {w : World} {A : Around} {R : Result → Shared → Prop} {I : Addr} {fp wr : List Addr} {n : Nat} {P : Nat → Value → Prop} {St : Nat → Heap → Prop}
/-- the best so far, twice; at first nothing -/
def bestRow : Option Value → Array Value
  | none => #[]
  | some v => #[v, v]
def bestIs (bt : Nat → Nat → Bool) (P : Nat → Value → Prop) : Nat → Option Value → Prop
  | 0, o => o = none
  | i + 1, o => ∃ v, o = some v ∧ P (argBest bt i) v
theorem most_run (W : Walks prog w A.in1 I fp wr n P St) (bt : Nat → Nat → Bool) (hc : CmpOf prog w A.in1 .Gt P bt) {S : Addr} (hS : S ∉ fp) (dv : Value) :
    ∀ (k i : Nat) (o : Option Value) (s : Shared) (c : Nat), i + k = n → St i s.heap → bestIs bt P i o → s.heap.get? S = some { cls := .type "list", dict := none, data := .seq (bestRow o) c, slots := #[] } →
    (∀ v h' tk, (if n = 0 then v = dv else P (argBest bt (n - 1)) v) → (∀ b ob, b ∉ wr → b ≠ S → s.heap.get? b = some ob → h'.get? b = some ob) → R (.ok (.ret v)) { s with heap := h', toks := tk }) →
    codeAny (model prog w) A (.builtin "max.loop" ⟨[.ref I, .none, .ref S], [(Str.ofString "default", dv)]⟩) R s := by
  have hW : S ∉ wr := fun z => hS (W.sub _ z)
  have nm : (toString "max" ++ toString ".loop" : String) = "max.loop" := by decide
  have grow : ∀ {h h' : Heap} {g : Array Value → Array Value}, (∀ b x, b ∉ wr → h.get? b = some x → h'.get? b = some x) → ∀ b x, b ∉ wr → b ≠ S → h.get? b = some x → (h'.update S (Obj.mapSeq g)).get? b = some x :=
    fun hk b x z1 z2 e => (Heap.get?_update_other _ _ (Ne.symm z2)).trans (hk b x z1 e)
  intro k
  induction k with
  | zero =>
    intro i o s c hi hst hb hg hR
    have en : i = n := by omega
    subst en
    cases i with
    | zero =>
      have eo : o = none := hb
      subst eo
      have hg : s.heap.get? S = some { cls := .type "list", dict := none, data := .seq #[] c, slots := #[] } := hg
      refine codeAny_builtin F.entry_max_loop ?_
      rw [Around.under_plainId F.plain_max_loop _]
      show wpAny _ A.in1 (seqItems? (.ref S) >>= _) _ _ s
      refine wpAny_bind (wpAny_seqItems hg rfl ?_)
      show wpAny _ A.in1 (tryCatch (pyNext (.ref I)) _ >>= _) _ _ s
      refine wpAny_bind (wpAny_tryCatch (W.done s _ _ hst fun h' tk hk => ?_))
      show wpAny _ A.in1 (rule _ >>= _) _ _ _
      refine wpAny_bind (wpAny_rule ?_)
      exact wpAny_pure (hR dv h' tk (by rw [if_pos rfl]) fun b x z1 _ e => hk b x z1 e)
    | succ i =>
      obtain ⟨v, eo, hv⟩ := hb
      subst eo
      have hg : s.heap.get? S = some { cls := .type "list", dict := none, data := .seq #[v, v] c, slots := #[] } := hg
      refine codeAny_builtin F.entry_max_loop ?_
      rw [Around.under_plainId F.plain_max_loop _]
      show wpAny _ A.in1 (seqItems? (.ref S) >>= _) _ _ s
      refine wpAny_bind (wpAny_seqItems hg rfl ?_)
      show wpAny _ A.in1 (tryCatch (pyNext (.ref I)) _ >>= _) _ _ s
      refine wpAny_bind (wpAny_tryCatch (W.done s _ _ hst fun h' tk hk => ?_))
      have hg' := hk S _ hW hg
      show wpAny _ A.in1 (updateSeq S (fun _ => #[]) >>= _) _ _ _
      refine wpAny_bind ?_
      refine wpAny_updateSeq hg' rfl (wpAny_bind (wpAny_letGo (wpAny_pure ?_)))
      exact hR v _ tk (by rw [if_neg (by omega)]; exact hv) (grow hk)
  | succ k ih =>
    intro i o s c hi hst hb hg hR
    have up : ∀ {h' : Heap}, St (i + 1) h' → ∀ g, St (i + 1) (h'.update S (Obj.mapSeq g)) := fun z g => W.frame _ _ _ z fun b hb x e => (Heap.get?_update_other _ _ (fun z : S = b => hS (by rw [z]; exact hb))).trans e
    cases i with
    | zero =>
      have eo : o = none := hb
      subst eo
      have hg : s.heap.get? S = some { cls := .type "list", dict := none, data := .seq #[] c, slots := #[] } := hg
      refine codeAny_builtin F.entry_max_loop ?_
      rw [Around.under_plainId F.plain_max_loop _]
      show wpAny _ A.in1 (seqItems? (.ref S) >>= _) _ _ s
      refine wpAny_bind (wpAny_seqItems hg rfl ?_)
      show wpAny _ A.in1 (tryCatch (pyNext (.ref I)) _ >>= _) _ _ s
      refine wpAny_bind (wpAny_tryCatch (W.item 0 s _ _ (by omega) hst fun v h' tk hP hst' hk => ?_))
      have hg' := hk S _ hW hg
      show wpAny _ A.in1 (updateSeq S (fun _ => #[v, v]) >>= _) _ _ _
      refine wpAny_bind ?_
      refine wpAny_updateSeq hg' rfl ?_
      rw [nm]
      exact wpAny_pure ⟨plainId_quiet F.plain_max_loop _, ih 1 (some v) _ _ (by omega) (up hst' _) ⟨v, rfl, hP⟩ (Heap.get?_update_self _ hg' rfl) fun v2 h2 t2 hv2 hk2 => hR v2 h2 t2 hv2 fun b x z1 z2 e => hk2 b x z1 z2 (grow hk b x z1 z2 e)⟩
    | succ i =>
      obtain ⟨u, eo, hu⟩ := hb
      subst eo
      have hg : s.heap.get? S = some { cls := .type "list", dict := none, data := .seq #[u, u] c, slots := #[] } := hg
      refine codeAny_builtin F.entry_max_loop ?_
      rw [Around.under_plainId F.plain_max_loop _]
      show wpAny _ A.in1 (seqItems? (.ref S) >>= _) _ _ s
      refine wpAny_bind (wpAny_seqItems hg rfl ?_)
      show wpAny _ A.in1 (tryCatch (pyNext (.ref I)) _ >>= _) _ _ s
      refine wpAny_bind (wpAny_tryCatch (W.item (i + 1) s _ _ (by omega) hst fun v h' tk hP hst' hk => ?_))
      have hg' := hk S _ hW hg
      show wpAny _ A.in1 (tryCatch (holding [v, v] (richCompare .Gt v u >>= _)) _ >>= _) _ _ _
      refine wpAny_bind (wpAny_tryCatch (wpAny_holding (wpAny_bind (hc (i + 1) (argBest bt i) v u _ _ _ hP hu ?_))))
      refine wpAny_bind (wpAny_holding (wpAny_truthy_bool (wpAny_bind (wpAny_letGo (wpAny_pure ?_)))))
      cases e : bt (i + 1) (argBest bt i) with
      | true =>
        have eb : argBest bt (i + 1) = i + 1 := by unfold argBest; rw [e]; rfl
        simp only [if_true]
        refine wpAny_bind ?_
        refine wpAny_updateSeq hg' rfl (wpAny_bind (wpAny_letGo ?_))
        rw [nm]
        exact wpAny_pure ⟨plainId_quiet F.plain_max_loop _, ih (i + 2) (some v) _ _ (by omega) (up hst' _) ⟨v, rfl, by rw [eb]; exact hP⟩ (Heap.get?_update_self _ hg' rfl) fun v2 h2 t2 hv2 hk2 => hR v2 h2 t2 hv2 fun b x z1 z2 e => hk2 b x z1 z2 (grow hk b x z1 z2 e)⟩
      | false =>
        have eb : argBest bt (i + 1) = argBest bt i := by rw [argBest, e]; rfl
        simp only [Bool.false_eq_true, if_false]
        refine wpAny_bind (wpAny_letGo ?_)
        rw [nm]
        exact wpAny_pure ⟨plainId_quiet F.plain_max_loop _, ih (i + 2) (some u) _ c (by omega) hst' ⟨u, rfl, by rw [eb]; exact hu⟩ hg' fun v2 h2 t2 hv2 hk2 => hR v2 h2 t2 hv2 fun b x z1 z2 e => hk2 b x z1 z2 (hk b x z1 e)⟩
end
section
variable {prog : Program} {w : World} {A : Around} {E : Value → Shared → Prop} {s : Shared}
theorem args_maxD (a v : Value) : argsOk "max" ⟨[a], [(Str.ofString "default", v)]⟩ := by unfold argsOk; kernel_rfl
theorem maxD_raw {l : Addr} {its : List Value} {ns : List Int} {dv : Value} {Q : Value → Shared → Prop} (hh : A.handled = none) (hl : s.heap.IsList l its.toArray) (hi : IntsAre its ns)
    (h0 : ∀ h' tk, (∀ b o, s.heap.get? b = some o → h'.get? b = some o) → ns = [] → Q dv { s with heap := h', toks := tk })
    (h : ∀ h' tk m t, (∀ b o, s.heap.get? b = some o → h'.get? b = some o) → m ∈ ns → (∀ a, a ∈ ns → a ≤ m) → Q (.int m t) { s with heap := h', toks := tk }) :
    wpAny (model prog w) A (call (.builtin "max") [.ref l] [(Str.ofString "default", dv)]) Q E s := by
  obtain ⟨xs, e⟩ := hi.allInts.items
  have hn : numsOf (intItems xs).toList = ns := by rw [← e]; exact hi.numsOf
  rw [nums_intItems] at hn
  subst hn
  rw [e] at hl
  have nm : (toString "max" ++ toString ".loop" : String) = "max.loop" := by decide
  refine kmk_tree F.kind_max F.plain_max F.entry_max (args_maxD _ _) ?_
  show wpAny _ A.in1 (Builtin.Builtins.bindParams "max" ["key", "default"] 0 ⟨[], [(Str.ofString "default", dv)]⟩ >>= _) _ _ s
  refine wpAny_bind (wpAny_of_eq (show Builtin.Builtins.bindParams "max" ["key", "default"] 0 ⟨[], [(Str.ofString "default", dv)]⟩ = pure [none, some dv] from rfl) ?_)
  refine wpAny_bind (wpAny_pure ?_)
  refine wpAny_bind (iter_intList hl fun s2 e st hfp hlI => ?_)
  subst e
  refine wpAny_bind (wpAny_newList ?_ (Nat.zero_le _))
  rw [nm]
  have hS : (s.heap.push { cls := .type "list_iterator", data := .fields #[.ref l, .int 0 0] }).objs.size ∉ [s.heap.objs.size, l] := fun hm => Nat.lt_irrefl _ (hfp _ hm)
  have WL := Walks.list (prog := prog) (w := w) (A := A.in1) hh _ l hlI (intItems xs)
  refine wpAny_pure ⟨plainId_quiet F.plain_max_loop _, most_run WL _ (CmpOf.ints_gt (numAt xs) (fun _ _ => intItems_at)) hS dv (intItems xs).size 0 none _ _ (by omega) (WL.frame _ _ _ st fun b _ o e => Heap.get?_push_of_some _ e) rfl (Heap.get?_push_size _ rfl) fun v h' tk hv hk => ?_⟩
  have old : ∀ b o, s.heap.get? b = some o → h'.get? b = some o := fun b o e => hk b o (by
    intro z
    have : b = s.heap.objs.size := by simpa using z
    exact Nat.lt_irrefl _ (this ▸ Heap.lt_size e)) (fun z => by
    have h1 := Heap.lt_size e
    rw [z, size_push'] at h1
    exact absurd h1 (Nat.not_lt.mpr (Nat.le_succ _))) (Heap.get?_push_of_some _ (Heap.get?_push_of_some _ e))
  have hz : (intItems xs).size = xs.size := by simp [intItems]
  by_cases e0 : xs.size = 0
  · rw [hz, if_pos e0] at hv
    subst hv
    exact h0 h' tk old (by rw [List.map_eq_nil_iff]; exact List.eq_nil_of_length_eq_zero (by rw [Array.length_toList]; exact e0))
  · rw [hz, if_neg e0] at hv
    obtain ⟨t, rfl⟩ := intItems_at hv
    obtain ⟨h1, h2⟩ := argBest_gt (numAt xs) (xs.size - 1)
    refine h h' tk _ t old ?_ fun a ha => ?_
    · rw [numAt_eq]; exact PySem.getD_mem (by rw [List.length_map, Array.length_toList]; omega)
    · obtain ⟨j, hj, rfl⟩ := mem_getD ha
      rw [List.length_map, Array.length_toList] at hj
      rw [← numAt_eq]; exact h2 j (by omega)
end
section
variable {X : Cx} {W : WXL} {e e2 : Expr} {pos p kp : Pos} {ca cb : DE}
def rMaxDef (K : PySem.W.Frag) : List V → List V → Hp → VK → Prop := fun vs zs H Q => ∃ (a : Addr) (ns : List Int) (d : Int), vs = [.ref a] ∧ zs = [.int d] ∧ SqL K H a (ns.map V.int) ∧ (ns = [] → Q (.int d) H) ∧ ∀ m, m ∈ ns → (∀ y, y ∈ ns → y ≤ m) → Q (.int m) H
theorem call_maxDef (hc : X.calm = true) : CallRK X (.builtin "max") ["default"] (rMaxDef X.K) := by
  intro pins s σ H vs zs us ws Q I r rz h
  obtain ⟨a, ns, d, rfl, rfl, hs, q0, q⟩ := h
  obtain ⟨its, rv, hl, _⟩ := I.list hs
  rw [Vals.ref1 r]
  cases rz with
  | cons r1 r2 =>
    cases r2
    obtain ⟨t, rfl⟩ := r1
    exact maxD_raw (I.ok.hd hc) hl.isList rv.ints (fun h' tk hk e => ⟨.int d, H, I.kept hk, ⟨_, rfl⟩, q0 e⟩) fun h' tk m t' hk h1 h2 => ⟨.int _, H, I.kept hk, ⟨_, rfl⟩, q m h1 h2⟩
/-- the greatest, or d -/
def mostD (d : Int) : List Int → Int
  | [] => d
  | x :: xs => xs.foldl max x
theorem fold_max : ∀ (xs : List Int) (x m : Int), m ∈ x :: xs → (∀ y, y ∈ x :: xs → y ≤ m) → xs.foldl max x = m
  | [], x, m, h1, _ => (List.mem_singleton.mp h1).symm
  | y :: ys, x, m, h1, h2 => by
    rw [List.foldl_cons]
    refine fold_max ys (max x y) m ?_ fun z hz => ?_
    · have a1 := h2 x (by simp)
      have a2 := h2 y (by simp)
      have h1' : m = x ∨ m = y ∨ m ∈ ys := by simpa using h1
      rcases h1' with e | e | e
      · have : max x y = m := by omega
        rw [this]; simp
      · have : max x y = m := by omega
        rw [this]; simp
      · exact List.mem_cons_of_mem _ e
    · rcases List.mem_cons.mp hz with e | e
      · have a1 := h2 x (by simp)
        have a2 := h2 y (by simp)
        omega
      · exact h2 z (by simp [e])
def ρMaxD (d y : D) (M : MS) (k : KD) : Prop := match d, y with
  | .lst xs, .int j => ∃ ns : List Int, xs = ns.map D.int ∧ k (.int (mostD j ns)) M
  | _, _ => False
def cMaxD (ca cb : DE) : DE := fun E σ M k => ca E σ M (fun d M1 => cb E σ M1 (fun y M2 => ρMaxD d y M2 k))
theorem pd_maxD (hc : X.calm = true) (hg : Gl X "max") (hm : X.mg "max" = none) (ha : PEd X W e ca) (hb : PEd X W e2 cb)
    (he : backTo pos (starEach [e] X.env) = (false, eval e X.env) :: backTo pos (starEach [] X.env) := by rfl) (hpl : (backTo pos (starEach [e] X.env)).any (·.1) = false := by rfl)
    (hs : starEach [e] X.env = (false, eval e X.env) :: starEach [] X.env := by rfl)
    (hall : (backToKw pos (keywordEach [⟨some "default", e2, kp⟩] X.env)).all (·.1.isSome) = true := by rfl) (hnone : (backToKw pos (keywordEach [⟨some "default", e2, kp⟩] X.env)).any (·.1.isNone) = false := by rfl)
    (hks : (backToKw pos (keywordEach [⟨some "default", e2, kp⟩] X.env)).filterMap (·.1) = (["default"] : List Str) := by rfl) :
    PEd X W (.Call (.Name "max" p) [e] [⟨some "default", e2, kp⟩] pos) (cMaxD ca cb) := by
  refine ⟨PE.weak (pe_callBK (call_maxDef hc) hg hm (by decide +kernel) (pa_cons ha.run pa_nil hs) (pk_cons hb.run pk_nil) (by decide) (by decide) he hpl hall hnone hks) ?_, fun _ _ _ _ _ _ hE hk q => ha.mono.go hE (fun d1 M1 z => hb.mono.go hE (fun d2 M2 z2 => ?_) z) q⟩
  · rintro σ H Q ⟨τ, M, F, rs, hh, q⟩
    refine ⟨τ, M, F, rs, hh, ha.mono.go DX.rfl (fun d1 M1 z v H1 F1 e1 h1 r1 => ?_) q⟩
    refine ⟨τ, M1, F1, rs.up e1, h1, hb.mono.go (KXL.up e1) (fun d2 M2 z2 v2 H2 F2 e2 h2 r2 => ?_) z⟩
    unfold ρMaxD at z2
    split at z2
    · obtain ⟨ns, rfl, z2⟩ := z2
      cases r2
      cases r1 with
      | lst hq r =>
        have hq2 := SqL.of (K := X.K) (h2.fr _ _ (e2 _ _ hq))
        rw [reps_int r] at hq2
        refine ⟨_, ns, _, rfl, rfl, hq2, fun e => ?_, fun m m1 m2 => ?_⟩
        · subst e
          exact z2 _ H2 F2 (e1.trans e2) h2 (.int _)
        · cases ns with
          | nil => cases m1
          | cons x ns =>
            have em : ∀ j, mostD j (x :: ns) = m := fun _ => fold_max ns x m m1 m2
            rw [em] at z2
            exact z2 _ H2 F2 (e1.trans e2) h2 (.int _)
    · exact z2.elim
  · unfold ρMaxD at z2 ⊢
    split at z2
    · obtain ⟨ns, e, z2⟩ := z2
      exact ⟨ns, e, hk _ _ z2⟩
    · exact z2.elim
end
/-! ### equations -/
section
variable {X : DX} {τ : StD} {M : MS} {k : KD} {d : D} {ds : List D} {a c : DE} {ka : KA}
def revK (k : KA) : KD := fun d M1 => match d with
  | .tup xs => k xs.reverse M1
  | _ => False
theorem z_rev : ciRev a X τ M ka = a X τ M (revK ka) := rfl
theorem z_revK : revK ka (.tup ds) M = ka ds.reverse M := rfl
theorem z_sum : ρSum [.lst ds] M k = ∃ ns : List Int, ds = ns.map D.int ∧ k (.int ns.sum) M := rfl
theorem z_max {i j : Int} : ρMax [.int i, .int j] M k = k (.int (if j > i then j else i)) M := rfl
theorem z_disp2 {k1 v1 k2 v2 : Str} : cDisp2 k1 v1 k2 v2 X τ M k = ∀ p, M p = none → k (.ref p) (updM M p (.dic [(.inr k1, .str v1), (.inr k2, .str v2)])) := rfl
def backK1 (c : DE) (X : DX) (τ : StD) (k : KD) : KD := fun d M1 => c X τ M1 (fun y M2 => match d, y with
  | .tup xs, .int j => j = -1 ∧ k (.tup xs.reverse) M2
  | _, _ => False)
theorem z_back : cBack a c X τ M k = a X τ M (backK1 c X τ k) := rfl
def backK2 (d : D) (k : KD) : KD := fun y M2 => match d, y with
  | .tup xs, .int j => j = -1 ∧ k (.tup xs.reverse) M2
  | _, _ => False
theorem z_backK : backK1 c X τ k d M = c X τ M (backK2 d k) := rfl
theorem z_backK2 {j : Int} : backK2 (.tup ds) k (.int j) M = (j = -1 ∧ k (.tup ds.reverse) M) := rfl
def maxK1 (c : DE) (X : DX) (τ : StD) (k : KD) : KD := fun d M1 => c X τ M1 (fun y M2 => ρMaxD d y M2 k)
def maxK2 (d : D) (k : KD) : KD := fun y M2 => ρMaxD d y M2 k
theorem z_maxD : cMaxD a c X τ M k = a X τ M (maxK1 c X τ k) := rfl
theorem z_maxK : maxK1 c X τ k d M = c X τ M (maxK2 d k) := rfl
theorem z_maxK2 {j : Int} : maxK2 (.lst ds) k (.int j) M = ∃ ns : List Int, ds = ns.map D.int ∧ k (.int (mostD j ns)) M := rfl
theorem z_dg : cDGet a c X τ M k = a X τ M (dgK1 c X τ k) := rfl
theorem z_dgK {p : Addr} : dgK1 c X τ k (.ref p) M = c X τ M (dgetK p k) := rfl
theorem z_dgK2 {p : Addr} {x : Str} : dgetK p k (.str x) M = dgetM x M k (M p) := rfl
theorem z_dgM {x : Str} {kvs : List (Key × D)} : dgetM x M k (some (.dic kvs)) = atK (valD kvs (.inr x)) M k := rfl
end
end DL

set_option maxHeartbeats 4000000
namespace DL
open PySem PySem.Spec PyProof.Rows L2
def topS (i : Nat) : Stmt := PySem.Challenge.pw_strewfar_k04_blocks_reversed.main.body.getD i (.Pass ⟨0, 0, 0, 0⟩)
abbrev s_scale : Stmt := topS 1
abbrev N_scale : List Str := ["number", "place", "item"]
theorem sc_scale : FnScope N_scale ["number", "place"] (defScope s_scale) := ⟨rfl, rfl, rfl, by decide +kernel, rfl, by decide +kernel, by decide +kernel⟩
abbrev s_opposite : Stmt := topS 2
abbrev N_opposite : List Str := ["place"]
theorem sc_opposite : FnScope N_opposite ["place"] (defScope s_opposite) := ⟨rfl, rfl, rfl, by decide +kernel, rfl, by decide +kernel, by decide +kernel⟩
abbrev s_reverse : Stmt := topS 4
abbrev N_reverse : List Str := ["block", "statement"]
theorem sc_reverse : FnScope N_reverse ["block"] (defScope s_reverse) := ⟨rfl, rfl, rfl, by decide +kernel, rfl, by decide +kernel, by decide +kernel⟩
abbrev s__reverse_of : Stmt := topS 5
abbrev N__reverse_of : List Str := ["statement", "word"]
theorem sc__reverse_of : FnScope N__reverse_of ["statement"] (defScope s__reverse_of) := ⟨rfl, rfl, rfl, by decide +kernel, rfl, by decide +kernel, by decide +kernel⟩
abbrev s_statements : Stmt := topS 6
abbrev N_statements : List Str := ["block", "nested", "statement"]
theorem sc_statements : FnScope N_statements ["block"] (defScope s_statements) := ⟨rfl, rfl, rfl, by decide +kernel, rfl, by decide +kernel, by decide +kernel⟩
abbrev s_depth : Stmt := topS 7
abbrev N_depth : List Str := ["block", "nested", "statement"]
theorem sc_depth : FnScope N_depth ["block"] (defScope s_depth) := ⟨rfl, rfl, rfl, by decide +kernel, rfl, by decide +kernel, by decide +kernel⟩
abbrev s__law_a_box : Stmt := topS 9
abbrev N__law_a_box : List Str := ["_law_script", "_law_cells", "_law_mark", "_law_cell"]
theorem sc__law_a_box : FnScope N__law_a_box ["_law_script"] (defScope s__law_a_box) := ⟨rfl, rfl, rfl, by decide +kernel, rfl, by decide +kernel, by decide +kernel⟩
abbrev s__law_draw : Stmt := topS 10
abbrev N__law_draw : List Str := ["_law_box", "_law_many", "_law_drawn", "_law_seed", "_law_fold", "_law_twist"]
theorem sc__law_draw : FnScope N__law_draw ["_law_box", "_law_many"] (defScope s__law_draw) := ⟨rfl, rfl, rfl, by decide +kernel, rfl, by decide +kernel, by decide +kernel⟩
abbrev s__law_any : Stmt := topS 11
abbrev N__law_any : List Str := ["_law_box", "_law_row"]
theorem sc__law_any : FnScope N__law_any ["_law_box", "_law_row"] (defScope s__law_any) := ⟨rfl, rfl, rfl, by decide +kernel, rfl, by decide +kernel, by decide +kernel⟩
abbrev s__law_whole : Stmt := topS 12
abbrev N__law_whole : List Str := ["_law_found"]
theorem sc__law_whole : FnScope N__law_whole ["_law_found"] (defScope s__law_whole) := ⟨rfl, rfl, rfl, by decide +kernel, rfl, by decide +kernel, by decide +kernel⟩
abbrev s__law_same : Stmt := topS 13
abbrev N__law_same : List Str := ["_law_found", "_law_due", "_law_one", "_law_other"]
theorem sc__law_same : FnScope N__law_same ["_law_found", "_law_due"] (defScope s__law_same) := ⟨rfl, rfl, rfl, by decide +kernel, rfl, by decide +kernel, by decide +kernel⟩
abbrev s__law_num : Stmt := topS 14
abbrev N__law_num : List Str := ["_law_box", "_law_pick"]
theorem sc__law_num : FnScope N__law_num ["_law_box"] (defScope s__law_num) := ⟨rfl, rfl, rfl, by decide +kernel, rfl, by decide +kernel, by decide +kernel⟩
abbrev s__law_arrow : Stmt := topS 15
abbrev N__law_arrow : List Str := ["_law_box", "_law_ways", "_law_wide", "_law_k"]
theorem sc__law_arrow : FnScope N__law_arrow ["_law_box", "_law_ways"] (defScope s__law_arrow) := ⟨rfl, rfl, rfl, by decide +kernel, rfl, by decide +kernel, by decide +kernel⟩
abbrev s__law_label : Stmt := topS 16
abbrev N__law_label : List Str := ["_law_box", "_law_k"]
theorem sc__law_label : FnScope N__law_label ["_law_box"] (defScope s__law_label) := ⟨rfl, rfl, rfl, by decide +kernel, rfl, by decide +kernel, by decide +kernel⟩
abbrev s__law_labels : Stmt := topS 17
abbrev N__law_labels : List Str := ["_law_box", "_law_many", "_law_found", "_law_k", "_law_name", "_law_spare"]
theorem sc__law_labels : FnScope N__law_labels ["_law_box", "_law_many"] (defScope s__law_labels) := ⟨rfl, rfl, rfl, by decide +kernel, rfl, by decide +kernel, by decide +kernel⟩
abbrev s__law_a_statement : Stmt := topS 18
abbrev N__law_a_statement : List Str := ["_law_box", "_law_ways", "_law_names", "_law_deep", "_law_most", "_law_pick", "_law_times"]
theorem sc__law_a_statement : FnScope N__law_a_statement ["_law_box", "_law_ways", "_law_names", "_law_deep", "_law_most"] (defScope s__law_a_statement) := ⟨rfl, rfl, rfl, by decide +kernel, rfl, by decide +kernel, by decide +kernel⟩
abbrev s__law_code : Stmt := topS 19
abbrev N__law_code : List Str := ["_law_box", "_law_ways", "_law_names", "_law_deep", "_law_most", "_law_k"]
theorem sc__law_code : FnScope N__law_code ["_law_box", "_law_ways", "_law_names", "_law_deep", "_law_most"] (defScope s__law_code) := ⟨rfl, rfl, rfl, by decide +kernel, rfl, by decide +kernel, by decide +kernel⟩
abbrev s__law_reverse : Stmt := topS 20
abbrev N__law_reverse : List Str := ["_law_block", "_law_found", "_law_statement", "_law_a"]
theorem sc__law_reverse : FnScope N__law_reverse ["_law_block"] (defScope s__law_reverse) := ⟨rfl, rfl, rfl, by decide +kernel, rfl, by decide +kernel, by decide +kernel⟩
abbrev s__law_count : Stmt := topS 21
abbrev N__law_count : List Str := ["_law_block", "_law_one"]
theorem sc__law_count : FnScope N__law_count ["_law_block"] (defScope s__law_count) := ⟨rfl, rfl, rfl, by decide +kernel, rfl, by decide +kernel, by decide +kernel⟩
abbrev s__law_a_deep : Stmt := topS 22
abbrev N__law_a_deep : List Str := ["_law_block", "_law_found", "_law_one"]
theorem sc__law_a_deep : FnScope N__law_a_deep ["_law_block"] (defScope s__law_a_deep) := ⟨rfl, rfl, rfl, by decide +kernel, rfl, by decide +kernel, by decide +kernel⟩
abbrev s_law : Stmt := topS 23
abbrev N_law : List Str := ["_law_script", "_law_box", "_law_turn", "_law_ways", "_law_block", "_law_found", "_law_nested", "_law_k"]
theorem sc_law : FnScope N_law ["_law_script"] (defScope s_law) := ⟨rfl, rfl, rfl, by decide +kernel, rfl, by decide +kernel, by decide +kernel⟩
abbrev mono__law_whole : MonoS sp__law_whole := mono_P
/-! statements and blocks -/
abbrev sp__law_a_statement_ : Nat → SpD := spGen 1 RStm
abbrev sp__law_code_ : Nat → SpD := spGen 2 RBlk
abbrev mono__law_a_statement_ (n : Nat) : MonoS (sp__law_a_statement_ (n + 1)) := mono_gen n
abbrev mono__law_code_ (n : Nat) : MonoS (sp__law_code_ (n + 1)) := mono_gen n
def c__law_a_statement (sp__law_a_statement sp__law_code : SpD) : CS :=
  (cSeq (cAsg (cCall (NoX sp__law_draw) (cCons (cVar 0) (cCons (cC (.int 10)) cNil))) (gN 5))
    (cSeq (cIf (cAnd (cTest (cBin ρLt (cVar 5) (cC (.int 2)))) (cTest (cBin ρGt (cVar 3) (cC (.int 0))))) (cSeq (cAsg (cBin ρIx (cLst (cCons (cC (.int 0)) (cCons (cC (.int 1)) (cCons (cC (.int 2)) (cCons (cC (.int 3)) (cCons (cUn ρNeg (cC (.int 1))) (cCons (cUn ρNeg (cC (.int 2))) (cCons (cUn ρNeg (cC (.int 3))) (cCons (cC (.int 4)) cNil))))))))) (cCall (NoX sp__law_draw) (cCons (cVar 0) (cCons (cC (.int 8)) cNil)))) (gN 6))
    (cRet (cTup (cCons (cC (.str "repeat")) (cCons (cVar 6) (cCons (cCall (NoX sp__law_code) (cCons (cVar 0) (cCons (cVar 1) (cCons (cVar 2) (cCons (cBin ρSub (cVar 3) (cC (.int 1))) (cCons (cVar 4) cNil)))))) cNil)))))) cNext)
    (cSeq (cIf (cAnd (cTest (cBin ρLt (cVar 5) (cC (.int 4)))) (cTest (cBin ρNeG (cVar 2) (cLst cNil)))) (cRet (cTup (cCons (cBin ρIx (cLst (cCons (cC (.str "do")) (cCons (cC (.str "undo")) cNil))) (cBin ρSub (cVar 5) (cC (.int 2)))) (cCons (cCall (NoX sp__law_any) (cCons (cVar 0) (cCons (cVar 2) cNil))) cNil)))) cNext)
    (cSeq (cIf (cTest (cBin ρLt (cVar 5) (cC (.int 7)))) (cRet (cTup (cCons (cC (.str "go")) (cCons (cCall (NoX sp__law_arrow) (cCons (cVar 0) (cCons (cVar 1) cNil))) cNil)))) cNext)
    (cRet (cTup (cCons (cC (.str "put")) (cCons (cCall (NoX sp__law_num) (cCons (cVar 0) cNil)) cNil))))))))
def c__law_code (sp__law_a_statement sp__law_code : SpD) : CS :=
  (cRet (cCB ρTuple (cCons (cLc (ciR1 (cCons (cCall (NoX sp__law_draw) (cCons (cVar 0) (cCons (cBin ρAdd (cVar 4) (cC (.int 1))) cNil))) cNil)) (gN 5) cYes (cCall (NoX sp__law_a_statement) (cCons (cVar 0) (cCons (cVar 1) (cCons (cVar 2) (cCons (cVar 3) (cCons (cVar 4) cNil)))))) [5]) cNil)))
theorem main__law_code (n : Nat) : ∀ ds M k, sp__law_code_ (n + 1) ds M k (fun _ _ _ => False) → c__law_code (sp__law_a_statement_ n) (sp__law_code_ n) { nx := fun _ M' => k .non M', rt := k } (startD 6 ds) M := by
  rintro ds M k ⟨b, w, dp, m, xs, rfl, hb, h1, h2, hx, hxl, h3, h4, h5, h6, q⟩
  show c__law_code _ _ _ [some (.ref b), some (.int w), some (.lst (xs.map D.str)), some (.int dp), some (.int m), none] M
  unfold c__law_code
  (try simp only [z_seq, z_next, z_brk, z_cont, z_asg, z_asgK, z_gN, z_gSeq, z_gSeqL, z_gcons, z_gconsK, z_gnil, z_gsub, z_subK1, z_subK2, z_subK3, z_set, z_set1, z_set2, z_ret, z_retN, z_drop, z_dropK, z_if, z_brT, z_brF, z_for, z_forK, z_loop0, z_loop1, z_loopK, z_var0, z_varS, z_c, z_bin, z_binK1, z_binK2, z_test, z_asB, z_and, z_andT, z_andF, z_or, z_orT, z_orF, z_not, z_notK, z_andV, z_andVT, z_andVF, z_orV, z_orVT, z_orVF, z_notV, z_notVK, z_ifE, z_ifT, z_ifF, z_nil, z_cons, z_consK, z_consK2, z_tup, z_tupK, z_lst, z_lstK, z_un, z_unK, z_neg, z_cb, z_cbK, z_call, z_callK, z_star, z_starK, z_starK2, z_seqL, z_seqT, z_seqR, z_I, z_I0, z_mul, z_mulT, z_mulL, z_tupleR, z_tupM, z_lenP, z_lenM, z_add, z_addS, z_addL, z_addT, z_eqI, z_neI, z_eqB, z_neB, z_eqS, z_neS, z_isN, z_notN, z_ixL, z_ixT, z_ixR, z_ixM, z_atK, z_lenL, z_lenT, z_lenR, z_lenS, z_listL, z_listR, z_listT, z_tupleL, z_tupleT, z_sl, z_slK1, z_slK2, z_slK3, z_oNone, z_oSome, z_oK, z_slT, z_slL, z_slR, z_r1, z_r1K, z_r2, z_r2K, z_zip, z_zipL, z_zipT, z_iseq, z_meth, z_methK, z_methK2, z_app, z_appM, z_lc, isNon, Bool.not_true, Bool.not_false, z_at0, z_at1, z_at2, z_at3, z_mulS, z_okStr, z_join, z_intB, z_intI, z_dnew, z_setD, z_setD1, z_listD, z_listD1, z_par, z_parK, z_rev, z_revK, z_sum, z_max, z_disp2, z_back, z_backK, z_backK2, z_maxD, z_maxK, z_maxK2, z_dg, z_dgK, z_dgK2, z_dgM, List.set_cons_zero, List.set_cons_succ])
  refine draw_go hb (by omega) (by omega) fun r M1 h7 h8 d1 => ?_
  (try simp only [z_seq, z_next, z_brk, z_cont, z_asg, z_asgK, z_gN, z_gSeq, z_gSeqL, z_gcons, z_gconsK, z_gnil, z_gsub, z_subK1, z_subK2, z_subK3, z_set, z_set1, z_set2, z_ret, z_retN, z_drop, z_dropK, z_if, z_brT, z_brF, z_for, z_forK, z_loop0, z_loop1, z_loopK, z_var0, z_varS, z_c, z_bin, z_binK1, z_binK2, z_test, z_asB, z_and, z_andT, z_andF, z_or, z_orT, z_orF, z_not, z_notK, z_andV, z_andVT, z_andVF, z_orV, z_orVT, z_orVF, z_notV, z_notVK, z_ifE, z_ifT, z_ifF, z_nil, z_cons, z_consK, z_consK2, z_tup, z_tupK, z_lst, z_lstK, z_un, z_unK, z_neg, z_cb, z_cbK, z_call, z_callK, z_star, z_starK, z_starK2, z_seqL, z_seqT, z_seqR, z_I, z_I0, z_mul, z_mulT, z_mulL, z_tupleR, z_tupM, z_lenP, z_lenM, z_add, z_addS, z_addL, z_addT, z_eqI, z_neI, z_eqB, z_neB, z_eqS, z_neS, z_isN, z_notN, z_ixL, z_ixT, z_ixR, z_ixM, z_atK, z_lenL, z_lenT, z_lenR, z_lenS, z_listL, z_listR, z_listT, z_tupleL, z_tupleT, z_sl, z_slK1, z_slK2, z_slK3, z_oNone, z_oSome, z_oK, z_slT, z_slL, z_slR, z_r1, z_r1K, z_r2, z_r2K, z_zip, z_zipL, z_zipT, z_iseq, z_meth, z_methK, z_methK2, z_app, z_appM, z_lc, isNon, Bool.not_true, Bool.not_false, z_at0, z_at1, z_at2, z_at3, z_mulS, z_okStr, z_join, z_intB, z_intI, z_dnew, z_setD, z_setD1, z_listD, z_listD1, z_par, z_parK, z_rev, z_revK, z_sum, z_max, z_disp2, z_back, z_backK, z_backK2, z_maxD, z_maxK, z_maxK2, z_dg, z_dgK, z_dgK2, z_dgM, List.set_cons_zero, List.set_cons_succ])
  obtain ⟨n, rfl⟩ : ∃ j, n = j + 1 := ⟨n - 1, by omega⟩
  refine ⟨by omega, by omega, lc_draw (R := RStm dp m) (by rw [rangeD_len]; omega) d1.1 (fun d _ M2 q2 hB h => ?_) (fun ys M2 hl hy d2 => ?_)⟩
  · (try simp only [z_seq, z_next, z_brk, z_cont, z_asg, z_asgK, z_gN, z_gSeq, z_gSeqL, z_gcons, z_gconsK, z_gnil, z_gsub, z_subK1, z_subK2, z_subK3, z_set, z_set1, z_set2, z_ret, z_retN, z_drop, z_dropK, z_if, z_brT, z_brF, z_for, z_forK, z_loop0, z_loop1, z_loopK, z_var0, z_varS, z_c, z_bin, z_binK1, z_binK2, z_test, z_asB, z_and, z_andT, z_andF, z_or, z_orT, z_orF, z_not, z_notK, z_andV, z_andVT, z_andVF, z_orV, z_orVT, z_orVF, z_notV, z_notVK, z_ifE, z_ifT, z_ifF, z_nil, z_cons, z_consK, z_consK2, z_tup, z_tupK, z_lst, z_lstK, z_un, z_unK, z_neg, z_cb, z_cbK, z_call, z_callK, z_star, z_starK, z_starK2, z_seqL, z_seqT, z_seqR, z_I, z_I0, z_mul, z_mulT, z_mulL, z_tupleR, z_tupM, z_lenP, z_lenM, z_add, z_addS, z_addL, z_addT, z_eqI, z_neI, z_eqB, z_neB, z_eqS, z_neS, z_isN, z_notN, z_ixL, z_ixT, z_ixR, z_ixM, z_atK, z_lenL, z_lenT, z_lenR, z_lenS, z_listL, z_listR, z_listT, z_tupleL, z_tupleT, z_sl, z_slK1, z_slK2, z_slK3, z_oNone, z_oSome, z_oK, z_slT, z_slL, z_slR, z_r1, z_r1K, z_r2, z_r2K, z_zip, z_zipL, z_zipT, z_iseq, z_meth, z_methK, z_methK2, z_app, z_appM, z_lc, isNon, Bool.not_true, Bool.not_false, z_at0, z_at1, z_at2, z_at3, z_mulS, z_okStr, z_join, z_intB, z_intI, z_dnew, z_setD, z_setD1, z_listD, z_listD1, z_par, z_parK, z_rev, z_revK, z_sum, z_max, z_disp2, z_back, z_backK, z_backK2, z_maxD, z_maxK, z_maxK2, z_dg, z_dgK, z_dgK2, z_dgM, List.set_cons_zero, List.set_cons_succ, wipeD])
    exact ⟨b, w, dp, m, xs, rfl, hB, h1, h2, hx, hxl, h3, by omega, h5, h6, h⟩
  · (try simp only [z_seq, z_next, z_brk, z_cont, z_asg, z_asgK, z_gN, z_gSeq, z_gSeqL, z_gcons, z_gconsK, z_gnil, z_gsub, z_subK1, z_subK2, z_subK3, z_set, z_set1, z_set2, z_ret, z_retN, z_drop, z_dropK, z_if, z_brT, z_brF, z_for, z_forK, z_loop0, z_loop1, z_loopK, z_var0, z_varS, z_c, z_bin, z_binK1, z_binK2, z_test, z_asB, z_and, z_andT, z_andF, z_or, z_orT, z_orF, z_not, z_notK, z_andV, z_andVT, z_andVF, z_orV, z_orVT, z_orVF, z_notV, z_notVK, z_ifE, z_ifT, z_ifF, z_nil, z_cons, z_consK, z_consK2, z_tup, z_tupK, z_lst, z_lstK, z_un, z_unK, z_neg, z_cb, z_cbK, z_call, z_callK, z_star, z_starK, z_starK2, z_seqL, z_seqT, z_seqR, z_I, z_I0, z_mul, z_mulT, z_mulL, z_tupleR, z_tupM, z_lenP, z_lenM, z_add, z_addS, z_addL, z_addT, z_eqI, z_neI, z_eqB, z_neB, z_eqS, z_neS, z_isN, z_notN, z_ixL, z_ixT, z_ixR, z_ixM, z_atK, z_lenL, z_lenT, z_lenR, z_lenS, z_listL, z_listR, z_listT, z_tupleL, z_tupleT, z_sl, z_slK1, z_slK2, z_slK3, z_oNone, z_oSome, z_oK, z_slT, z_slL, z_slR, z_r1, z_r1K, z_r2, z_r2K, z_zip, z_zipL, z_zipT, z_iseq, z_meth, z_methK, z_methK2, z_app, z_appM, z_lc, isNon, Bool.not_true, Bool.not_false, z_at0, z_at1, z_at2, z_at3, z_mulS, z_okStr, z_join, z_intB, z_intI, z_dnew, z_setD, z_setD1, z_listD, z_listD1, z_par, z_parK, z_rev, z_revK, z_sum, z_max, z_disp2, z_back, z_backK, z_backK2, z_maxD, z_maxK, z_maxK2, z_dg, z_dgK, z_dgK2, z_dgM, List.set_cons_zero, List.set_cons_succ])
    rw [rangeD_len] at hl
    obtain ⟨bs, e, hbs⟩ : ∃ bs : List St, ys = bs.map St.d ∧ ∀ s, s ∈ bs → OkS Nm m.toNat dp.toNat s := by
      clear hl
      induction ys with
      | nil => exact ⟨[], rfl, fun _ h => by cases h⟩
      | cons y ys ih =>
        obtain ⟨s, e, hs⟩ := hy y List.mem_cons_self
        obtain ⟨bs, e2, hbs⟩ := ih fun z hz => hy z (List.mem_cons_of_mem _ hz)
        refine ⟨s :: bs, by rw [e, e2]; rfl, fun x hx => ?_⟩
        rcases List.mem_cons.mp hx with h | h
        · rw [h]; exact hs
        · exact hbs x h
    rw [e, ← ds_map]
    exact q _ _ ⟨bs, rfl, by rw [e, List.length_map] at hl; omega, hbs⟩ (d1.trans d2)
theorem main__law_a_statement (n : Nat) : ∀ ds M k, sp__law_a_statement_ (n + 1) ds M k (fun _ _ _ => False) → c__law_a_statement (sp__law_a_statement_ n) (sp__law_code_ n) { nx := fun _ M' => k .non M', rt := k } (startD 7 ds) M := by
  rintro ds M k ⟨b, w, dp, m, xs, rfl, hb, h1, h2, hx, hxl, h3, h4, h5, h6, q⟩
  show c__law_a_statement _ _ _ [some (.ref b), some (.int w), some (.lst (xs.map D.str)), some (.int dp), some (.int m), none, none] M
  unfold c__law_a_statement
  (try simp only [z_seq, z_next, z_brk, z_cont, z_asg, z_asgK, z_gN, z_gSeq, z_gSeqL, z_gcons, z_gconsK, z_gnil, z_gsub, z_subK1, z_subK2, z_subK3, z_set, z_set1, z_set2, z_ret, z_retN, z_drop, z_dropK, z_if, z_brT, z_brF, z_for, z_forK, z_loop0, z_loop1, z_loopK, z_var0, z_varS, z_c, z_bin, z_binK1, z_binK2, z_test, z_asB, z_and, z_andT, z_andF, z_or, z_orT, z_orF, z_not, z_notK, z_andV, z_andVT, z_andVF, z_orV, z_orVT, z_orVF, z_notV, z_notVK, z_ifE, z_ifT, z_ifF, z_nil, z_cons, z_consK, z_consK2, z_tup, z_tupK, z_lst, z_lstK, z_un, z_unK, z_neg, z_cb, z_cbK, z_call, z_callK, z_star, z_starK, z_starK2, z_seqL, z_seqT, z_seqR, z_I, z_I0, z_mul, z_mulT, z_mulL, z_tupleR, z_tupM, z_lenP, z_lenM, z_add, z_addS, z_addL, z_addT, z_eqI, z_neI, z_eqB, z_neB, z_eqS, z_neS, z_isN, z_notN, z_ixL, z_ixT, z_ixR, z_ixM, z_atK, z_lenL, z_lenT, z_lenR, z_lenS, z_listL, z_listR, z_listT, z_tupleL, z_tupleT, z_sl, z_slK1, z_slK2, z_slK3, z_oNone, z_oSome, z_oK, z_slT, z_slL, z_slR, z_r1, z_r1K, z_r2, z_r2K, z_zip, z_zipL, z_zipT, z_iseq, z_meth, z_methK, z_methK2, z_app, z_appM, z_lc, isNon, Bool.not_true, Bool.not_false, z_at0, z_at1, z_at2, z_at3, z_mulS, z_okStr, z_join, z_intB, z_intI, z_dnew, z_setD, z_setD1, z_listD, z_listD1, z_par, z_parK, z_rev, z_revK, z_sum, z_max, z_disp2, z_back, z_backK, z_backK2, z_maxD, z_maxK, z_maxK2, z_dg, z_dgK, z_dgK2, z_dgM, List.set_cons_zero, List.set_cons_succ])
  refine draw_go hb (by decide) (by decide) fun r M1 h7 h8 d1 => ?_
  have tail : ((cSeq (cIf (cAnd (cTest (cBin ρLt (cVar 5) (cC (.int 4)))) (cTest (cBin ρNeG (cVar 2) (cLst cNil)))) (cRet (cTup (cCons (cBin ρIx (cLst (cCons (cC (.str "do")) (cCons (cC (.str "undo")) cNil))) (cBin ρSub (cVar 5) (cC (.int 2)))) (cCons (cCall (NoX sp__law_any) (cCons (cVar 0) (cCons (cVar 2) cNil))) cNil)))) cNext)
    (cSeq (cIf (cTest (cBin ρLt (cVar 5) (cC (.int 7)))) (cRet (cTup (cCons (cC (.str "go")) (cCons (cCall (NoX sp__law_arrow) (cCons (cVar 0) (cCons (cVar 1) cNil))) cNil)))) cNext)
    (cRet (cTup (cCons (cC (.str "put")) (cCons (cCall (NoX sp__law_num) (cCons (cVar 0) cNil)) cNil))))))) { nx := fun _ M' => k .non M', rt := k } [some (.ref b), some (.int w), some (.lst (xs.map D.str)), some (.int dp), some (.int m), some (.int r), none] M1 := by
    have rest : ((cSeq (cIf (cTest (cBin ρLt (cVar 5) (cC (.int 7)))) (cRet (cTup (cCons (cC (.str "go")) (cCons (cCall (NoX sp__law_arrow) (cCons (cVar 0) (cCons (cVar 1) cNil))) cNil)))) cNext)
    (cRet (cTup (cCons (cC (.str "put")) (cCons (cCall (NoX sp__law_num) (cCons (cVar 0) cNil)) cNil)))))) { nx := fun _ M' => k .non M', rt := k } [some (.ref b), some (.int w), some (.lst (xs.map D.str)), some (.int dp), some (.int m), some (.int r), none] M1 := by
      (try simp only [z_seq, z_next, z_brk, z_cont, z_asg, z_asgK, z_gN, z_gSeq, z_gSeqL, z_gcons, z_gconsK, z_gnil, z_gsub, z_subK1, z_subK2, z_subK3, z_set, z_set1, z_set2, z_ret, z_retN, z_drop, z_dropK, z_if, z_brT, z_brF, z_for, z_forK, z_loop0, z_loop1, z_loopK, z_var0, z_varS, z_c, z_bin, z_binK1, z_binK2, z_test, z_asB, z_and, z_andT, z_andF, z_or, z_orT, z_orF, z_not, z_notK, z_andV, z_andVT, z_andVF, z_orV, z_orVT, z_orVF, z_notV, z_notVK, z_ifE, z_ifT, z_ifF, z_nil, z_cons, z_consK, z_consK2, z_tup, z_tupK, z_lst, z_lstK, z_un, z_unK, z_neg, z_cb, z_cbK, z_call, z_callK, z_star, z_starK, z_starK2, z_seqL, z_seqT, z_seqR, z_I, z_I0, z_mul, z_mulT, z_mulL, z_tupleR, z_tupM, z_lenP, z_lenM, z_add, z_addS, z_addL, z_addT, z_eqI, z_neI, z_eqB, z_neB, z_eqS, z_neS, z_isN, z_notN, z_ixL, z_ixT, z_ixR, z_ixM, z_atK, z_lenL, z_lenT, z_lenR, z_lenS, z_listL, z_listR, z_listT, z_tupleL, z_tupleT, z_sl, z_slK1, z_slK2, z_slK3, z_oNone, z_oSome, z_oK, z_slT, z_slL, z_slR, z_r1, z_r1K, z_r2, z_r2K, z_zip, z_zipL, z_zipT, z_iseq, z_meth, z_methK, z_methK2, z_app, z_appM, z_lc, isNon, Bool.not_true, Bool.not_false, z_at0, z_at1, z_at2, z_at3, z_mulS, z_okStr, z_join, z_intB, z_intI, z_dnew, z_setD, z_setD1, z_listD, z_listD1, z_par, z_parK, z_rev, z_revK, z_sum, z_max, z_disp2, z_back, z_backK, z_backK2, z_maxD, z_maxK, z_maxK2, z_dg, z_dgK, z_dgK2, z_dgM, List.set_cons_zero, List.set_cons_succ])
      by_cases e7 : r < 7
      · (try simp only [z_seq, z_next, z_brk, z_cont, z_asg, z_asgK, z_gN, z_gSeq, z_gSeqL, z_gcons, z_gconsK, z_gnil, z_gsub, z_subK1, z_subK2, z_subK3, z_set, z_set1, z_set2, z_ret, z_retN, z_drop, z_dropK, z_if, z_brT, z_brF, z_for, z_forK, z_loop0, z_loop1, z_loopK, z_var0, z_varS, z_c, z_bin, z_binK1, z_binK2, z_test, z_asB, z_and, z_andT, z_andF, z_or, z_orT, z_orF, z_not, z_notK, z_andV, z_andVT, z_andVF, z_orV, z_orVT, z_orVF, z_notV, z_notVK, z_ifE, z_ifT, z_ifF, z_nil, z_cons, z_consK, z_consK2, z_tup, z_tupK, z_lst, z_lstK, z_un, z_unK, z_neg, z_cb, z_cbK, z_call, z_callK, z_star, z_starK, z_starK2, z_seqL, z_seqT, z_seqR, z_I, z_I0, z_mul, z_mulT, z_mulL, z_tupleR, z_tupM, z_lenP, z_lenM, z_add, z_addS, z_addL, z_addT, z_eqI, z_neI, z_eqB, z_neB, z_eqS, z_neS, z_isN, z_notN, z_ixL, z_ixT, z_ixR, z_ixM, z_atK, z_lenL, z_lenT, z_lenR, z_lenS, z_listL, z_listR, z_listT, z_tupleL, z_tupleT, z_sl, z_slK1, z_slK2, z_slK3, z_oNone, z_oSome, z_oK, z_slT, z_slL, z_slR, z_r1, z_r1K, z_r2, z_r2K, z_zip, z_zipL, z_zipT, z_iseq, z_meth, z_methK, z_methK2, z_app, z_appM, z_lc, isNon, Bool.not_true, Bool.not_false, z_at0, z_at1, z_at2, z_at3, z_mulS, z_okStr, z_join, z_intB, z_intI, z_dnew, z_setD, z_setD1, z_listD, z_listD1, z_par, z_parK, z_rev, z_revK, z_sum, z_max, z_disp2, z_back, z_backK, z_backK2, z_maxD, z_maxK, z_maxK2, z_dg, z_dgK, z_dgK2, z_dgM, List.set_cons_zero, List.set_cons_succ, decide_eq_true e7])
        refine ⟨b, w, rfl, d1.1, h1, h2, fun d M2 hd d2 => ?_⟩
        obtain ⟨vs, rfl, vl⟩ := hd
        (try simp only [z_seq, z_next, z_brk, z_cont, z_asg, z_asgK, z_gN, z_gSeq, z_gSeqL, z_gcons, z_gconsK, z_gnil, z_gsub, z_subK1, z_subK2, z_subK3, z_set, z_set1, z_set2, z_ret, z_retN, z_drop, z_dropK, z_if, z_brT, z_brF, z_for, z_forK, z_loop0, z_loop1, z_loopK, z_var0, z_varS, z_c, z_bin, z_binK1, z_binK2, z_test, z_asB, z_and, z_andT, z_andF, z_or, z_orT, z_orF, z_not, z_notK, z_andV, z_andVT, z_andVF, z_orV, z_orVT, z_orVF, z_notV, z_notVK, z_ifE, z_ifT, z_ifF, z_nil, z_cons, z_consK, z_consK2, z_tup, z_tupK, z_lst, z_lstK, z_un, z_unK, z_neg, z_cb, z_cbK, z_call, z_callK, z_star, z_starK, z_starK2, z_seqL, z_seqT, z_seqR, z_I, z_I0, z_mul, z_mulT, z_mulL, z_tupleR, z_tupM, z_lenP, z_lenM, z_add, z_addS, z_addL, z_addT, z_eqI, z_neI, z_eqB, z_neB, z_eqS, z_neS, z_isN, z_notN, z_ixL, z_ixT, z_ixR, z_ixM, z_atK, z_lenL, z_lenT, z_lenR, z_lenS, z_listL, z_listR, z_listT, z_tupleL, z_tupleT, z_sl, z_slK1, z_slK2, z_slK3, z_oNone, z_oSome, z_oK, z_slT, z_slL, z_slR, z_r1, z_r1K, z_r2, z_r2K, z_zip, z_zipL, z_zipT, z_iseq, z_meth, z_methK, z_methK2, z_app, z_appM, z_lc, isNon, Bool.not_true, Bool.not_false, z_at0, z_at1, z_at2, z_at3, z_mulS, z_okStr, z_join, z_intB, z_intI, z_dnew, z_setD, z_setD1, z_listD, z_listD1, z_par, z_parK, z_rev, z_revK, z_sum, z_max, z_disp2, z_back, z_backK, z_backK2, z_maxD, z_maxK, z_maxK2, z_dg, z_dgK, z_dgK2, z_dgM, List.set_cons_zero, List.set_cons_succ])
        exact ⟨(size1M (Nat.le_of_ble_eq_true rfl)), q _ _ ⟨.go vs, rfl, by unfold OkS; omega⟩ (d1.trans d2)⟩
      · (try simp only [z_seq, z_next, z_brk, z_cont, z_asg, z_asgK, z_gN, z_gSeq, z_gSeqL, z_gcons, z_gconsK, z_gnil, z_gsub, z_subK1, z_subK2, z_subK3, z_set, z_set1, z_set2, z_ret, z_retN, z_drop, z_dropK, z_if, z_brT, z_brF, z_for, z_forK, z_loop0, z_loop1, z_loopK, z_var0, z_varS, z_c, z_bin, z_binK1, z_binK2, z_test, z_asB, z_and, z_andT, z_andF, z_or, z_orT, z_orF, z_not, z_notK, z_andV, z_andVT, z_andVF, z_orV, z_orVT, z_orVF, z_notV, z_notVK, z_ifE, z_ifT, z_ifF, z_nil, z_cons, z_consK, z_consK2, z_tup, z_tupK, z_lst, z_lstK, z_un, z_unK, z_neg, z_cb, z_cbK, z_call, z_callK, z_star, z_starK, z_starK2, z_seqL, z_seqT, z_seqR, z_I, z_I0, z_mul, z_mulT, z_mulL, z_tupleR, z_tupM, z_lenP, z_lenM, z_add, z_addS, z_addL, z_addT, z_eqI, z_neI, z_eqB, z_neB, z_eqS, z_neS, z_isN, z_notN, z_ixL, z_ixT, z_ixR, z_ixM, z_atK, z_lenL, z_lenT, z_lenR, z_lenS, z_listL, z_listR, z_listT, z_tupleL, z_tupleT, z_sl, z_slK1, z_slK2, z_slK3, z_oNone, z_oSome, z_oK, z_slT, z_slL, z_slR, z_r1, z_r1K, z_r2, z_r2K, z_zip, z_zipL, z_zipT, z_iseq, z_meth, z_methK, z_methK2, z_app, z_appM, z_lc, isNon, Bool.not_true, Bool.not_false, z_at0, z_at1, z_at2, z_at3, z_mulS, z_okStr, z_join, z_intB, z_intI, z_dnew, z_setD, z_setD1, z_listD, z_listD1, z_par, z_parK, z_rev, z_revK, z_sum, z_max, z_disp2, z_back, z_backK, z_backK2, z_maxD, z_maxK, z_maxK2, z_dg, z_dgK, z_dgK2, z_dgM, List.set_cons_zero, List.set_cons_succ, decide_eq_false e7])
        refine ⟨b, rfl, d1.1, fun d M2 hd d2 => ?_⟩
        obtain ⟨i, rfl, _⟩ := hd
        (try simp only [z_seq, z_next, z_brk, z_cont, z_asg, z_asgK, z_gN, z_gSeq, z_gSeqL, z_gcons, z_gconsK, z_gnil, z_gsub, z_subK1, z_subK2, z_subK3, z_set, z_set1, z_set2, z_ret, z_retN, z_drop, z_dropK, z_if, z_brT, z_brF, z_for, z_forK, z_loop0, z_loop1, z_loopK, z_var0, z_varS, z_c, z_bin, z_binK1, z_binK2, z_test, z_asB, z_and, z_andT, z_andF, z_or, z_orT, z_orF, z_not, z_notK, z_andV, z_andVT, z_andVF, z_orV, z_orVT, z_orVF, z_notV, z_notVK, z_ifE, z_ifT, z_ifF, z_nil, z_cons, z_consK, z_consK2, z_tup, z_tupK, z_lst, z_lstK, z_un, z_unK, z_neg, z_cb, z_cbK, z_call, z_callK, z_star, z_starK, z_starK2, z_seqL, z_seqT, z_seqR, z_I, z_I0, z_mul, z_mulT, z_mulL, z_tupleR, z_tupM, z_lenP, z_lenM, z_add, z_addS, z_addL, z_addT, z_eqI, z_neI, z_eqB, z_neB, z_eqS, z_neS, z_isN, z_notN, z_ixL, z_ixT, z_ixR, z_ixM, z_atK, z_lenL, z_lenT, z_lenR, z_lenS, z_listL, z_listR, z_listT, z_tupleL, z_tupleT, z_sl, z_slK1, z_slK2, z_slK3, z_oNone, z_oSome, z_oK, z_slT, z_slL, z_slR, z_r1, z_r1K, z_r2, z_r2K, z_zip, z_zipL, z_zipT, z_iseq, z_meth, z_methK, z_methK2, z_app, z_appM, z_lc, isNon, Bool.not_true, Bool.not_false, z_at0, z_at1, z_at2, z_at3, z_mulS, z_okStr, z_join, z_intB, z_intI, z_dnew, z_setD, z_setD1, z_listD, z_listD1, z_par, z_parK, z_rev, z_revK, z_sum, z_max, z_disp2, z_back, z_backK, z_backK2, z_maxD, z_maxK, z_maxK2, z_dg, z_dgK, z_dgK2, z_dgM, List.set_cons_zero, List.set_cons_succ])
        exact ⟨(size1M (Nat.le_of_ble_eq_true rfl)), q _ _ ⟨.put i, rfl, by unfold OkS; trivial⟩ (d1.trans d2)⟩
    (try simp only [z_seq, z_next, z_brk, z_cont, z_asg, z_asgK, z_gN, z_gSeq, z_gSeqL, z_gcons, z_gconsK, z_gnil, z_gsub, z_subK1, z_subK2, z_subK3, z_set, z_set1, z_set2, z_ret, z_retN, z_drop, z_dropK, z_if, z_brT, z_brF, z_for, z_forK, z_loop0, z_loop1, z_loopK, z_var0, z_varS, z_c, z_bin, z_binK1, z_binK2, z_test, z_asB, z_and, z_andT, z_andF, z_or, z_orT, z_orF, z_not, z_notK, z_andV, z_andVT, z_andVF, z_orV, z_orVT, z_orVF, z_notV, z_notVK, z_ifE, z_ifT, z_ifF, z_nil, z_cons, z_consK, z_consK2, z_tup, z_tupK, z_lst, z_lstK, z_un, z_unK, z_neg, z_cb, z_cbK, z_call, z_callK, z_star, z_starK, z_starK2, z_seqL, z_seqT, z_seqR, z_I, z_I0, z_mul, z_mulT, z_mulL, z_tupleR, z_tupM, z_lenP, z_lenM, z_add, z_addS, z_addL, z_addT, z_eqI, z_neI, z_eqB, z_neB, z_eqS, z_neS, z_isN, z_notN, z_ixL, z_ixT, z_ixR, z_ixM, z_atK, z_lenL, z_lenT, z_lenR, z_lenS, z_listL, z_listR, z_listT, z_tupleL, z_tupleT, z_sl, z_slK1, z_slK2, z_slK3, z_oNone, z_oSome, z_oK, z_slT, z_slL, z_slR, z_r1, z_r1K, z_r2, z_r2K, z_zip, z_zipL, z_zipT, z_iseq, z_meth, z_methK, z_methK2, z_app, z_appM, z_lc, isNon, Bool.not_true, Bool.not_false, z_at0, z_at1, z_at2, z_at3, z_mulS, z_okStr, z_join, z_intB, z_intI, z_dnew, z_setD, z_setD1, z_listD, z_listD1, z_par, z_parK, z_rev, z_revK, z_sum, z_max, z_disp2, z_back, z_backK, z_backK2, z_maxD, z_maxK, z_maxK2, z_dg, z_dgK, z_dgK2, z_dgM, List.set_cons_zero, List.set_cons_succ])
    by_cases e4 : r < 4
    · (try simp only [z_seq, z_next, z_brk, z_cont, z_asg, z_asgK, z_gN, z_gSeq, z_gSeqL, z_gcons, z_gconsK, z_gnil, z_gsub, z_subK1, z_subK2, z_subK3, z_set, z_set1, z_set2, z_ret, z_retN, z_drop, z_dropK, z_if, z_brT, z_brF, z_for, z_forK, z_loop0, z_loop1, z_loopK, z_var0, z_varS, z_c, z_bin, z_binK1, z_binK2, z_test, z_asB, z_and, z_andT, z_andF, z_or, z_orT, z_orF, z_not, z_notK, z_andV, z_andVT, z_andVF, z_orV, z_orVT, z_orVF, z_notV, z_notVK, z_ifE, z_ifT, z_ifF, z_nil, z_cons, z_consK, z_consK2, z_tup, z_tupK, z_lst, z_lstK, z_un, z_unK, z_neg, z_cb, z_cbK, z_call, z_callK, z_star, z_starK, z_starK2, z_seqL, z_seqT, z_seqR, z_I, z_I0, z_mul, z_mulT, z_mulL, z_tupleR, z_tupM, z_lenP, z_lenM, z_add, z_addS, z_addL, z_addT, z_eqI, z_neI, z_eqB, z_neB, z_eqS, z_neS, z_isN, z_notN, z_ixL, z_ixT, z_ixR, z_ixM, z_atK, z_lenL, z_lenT, z_lenR, z_lenS, z_listL, z_listR, z_listT, z_tupleL, z_tupleT, z_sl, z_slK1, z_slK2, z_slK3, z_oNone, z_oSome, z_oK, z_slT, z_slL, z_slR, z_r1, z_r1K, z_r2, z_r2K, z_zip, z_zipL, z_zipT, z_iseq, z_meth, z_methK, z_methK2, z_app, z_appM, z_lc, isNon, Bool.not_true, Bool.not_false, z_at0, z_at1, z_at2, z_at3, z_mulS, z_okStr, z_join, z_intB, z_intI, z_dnew, z_setD, z_setD1, z_listD, z_listD1, z_par, z_parK, z_rev, z_revK, z_sum, z_max, z_disp2, z_back, z_backK, z_backK2, z_maxD, z_maxK, z_maxK2, z_dg, z_dgK, z_dgK2, z_dgM, List.set_cons_zero, List.set_cons_succ, decide_eq_true e4])
      refine ⟨(size1M (Nat.le_of_ble_eq_true rfl)), .inl ?_⟩
      (try simp only [z_seq, z_next, z_brk, z_cont, z_asg, z_asgK, z_gN, z_gSeq, z_gSeqL, z_gcons, z_gconsK, z_gnil, z_gsub, z_subK1, z_subK2, z_subK3, z_set, z_set1, z_set2, z_ret, z_retN, z_drop, z_dropK, z_if, z_brT, z_brF, z_for, z_forK, z_loop0, z_loop1, z_loopK, z_var0, z_varS, z_c, z_bin, z_binK1, z_binK2, z_test, z_asB, z_and, z_andT, z_andF, z_or, z_orT, z_orF, z_not, z_notK, z_andV, z_andVT, z_andVF, z_orV, z_orVT, z_orVF, z_notV, z_notVK, z_ifE, z_ifT, z_ifF, z_nil, z_cons, z_consK, z_consK2, z_tup, z_tupK, z_lst, z_lstK, z_un, z_unK, z_neg, z_cb, z_cbK, z_call, z_callK, z_star, z_starK, z_starK2, z_seqL, z_seqT, z_seqR, z_I, z_I0, z_mul, z_mulT, z_mulL, z_tupleR, z_tupM, z_lenP, z_lenM, z_add, z_addS, z_addL, z_addT, z_eqI, z_neI, z_eqB, z_neB, z_eqS, z_neS, z_isN, z_notN, z_ixL, z_ixT, z_ixR, z_ixM, z_atK, z_lenL, z_lenT, z_lenR, z_lenS, z_listL, z_listR, z_listT, z_tupleL, z_tupleT, z_sl, z_slK1, z_slK2, z_slK3, z_oNone, z_oSome, z_oK, z_slT, z_slL, z_slR, z_r1, z_r1K, z_r2, z_r2K, z_zip, z_zipL, z_zipT, z_iseq, z_meth, z_methK, z_methK2, z_app, z_appM, z_lc, isNon, Bool.not_true, Bool.not_false, z_at0, z_at1, z_at2, z_at3, z_mulS, z_okStr, z_join, z_intB, z_intI, z_dnew, z_setD, z_setD1, z_listD, z_listD1, z_par, z_parK, z_rev, z_revK, z_sum, z_max, z_disp2, z_back, z_backK, z_backK2, z_maxD, z_maxK, z_maxK2, z_dg, z_dgK, z_dgK2, z_dgM, List.set_cons_zero, List.set_cons_succ])
      refine ne_nil (xs := xs.map D.str) rfl (fun x hx => by obtain ⟨_, _, rfl⟩ := List.mem_map.mp hx; rfl) ?_
      cases xs with
      | nil =>
        simp only [List.map, List.isEmpty_nil]
        (try simp only [z_seq, z_next, z_brk, z_cont, z_asg, z_asgK, z_gN, z_gSeq, z_gSeqL, z_gcons, z_gconsK, z_gnil, z_gsub, z_subK1, z_subK2, z_subK3, z_set, z_set1, z_set2, z_ret, z_retN, z_drop, z_dropK, z_if, z_brT, z_brF, z_for, z_forK, z_loop0, z_loop1, z_loopK, z_var0, z_varS, z_c, z_bin, z_binK1, z_binK2, z_test, z_asB, z_and, z_andT, z_andF, z_or, z_orT, z_orF, z_not, z_notK, z_andV, z_andVT, z_andVF, z_orV, z_orVT, z_orVF, z_notV, z_notVK, z_ifE, z_ifT, z_ifF, z_nil, z_cons, z_consK, z_consK2, z_tup, z_tupK, z_lst, z_lstK, z_un, z_unK, z_neg, z_cb, z_cbK, z_call, z_callK, z_star, z_starK, z_starK2, z_seqL, z_seqT, z_seqR, z_I, z_I0, z_mul, z_mulT, z_mulL, z_tupleR, z_tupM, z_lenP, z_lenM, z_add, z_addS, z_addL, z_addT, z_eqI, z_neI, z_eqB, z_neB, z_eqS, z_neS, z_isN, z_notN, z_ixL, z_ixT, z_ixR, z_ixM, z_atK, z_lenL, z_lenT, z_lenR, z_lenS, z_listL, z_listR, z_listT, z_tupleL, z_tupleT, z_sl, z_slK1, z_slK2, z_slK3, z_oNone, z_oSome, z_oK, z_slT, z_slL, z_slR, z_r1, z_r1K, z_r2, z_r2K, z_zip, z_zipL, z_zipT, z_iseq, z_meth, z_methK, z_methK2, z_app, z_appM, z_lc, isNon, Bool.not_true, Bool.not_false, z_at0, z_at1, z_at2, z_at3, z_mulS, z_okStr, z_join, z_intB, z_intI, z_dnew, z_setD, z_setD1, z_listD, z_listD1, z_par, z_parK, z_rev, z_revK, z_sum, z_max, z_disp2, z_back, z_backK, z_backK2, z_maxD, z_maxK, z_maxK2, z_dg, z_dgK, z_dgK2, z_dgM, List.set_cons_zero, List.set_cons_succ])
        exact rest
      | cons x0 xs =>
        simp only [List.map, List.isEmpty_cons]
        (try simp only [z_seq, z_next, z_brk, z_cont, z_asg, z_asgK, z_gN, z_gSeq, z_gSeqL, z_gcons, z_gconsK, z_gnil, z_gsub, z_subK1, z_subK2, z_subK3, z_set, z_set1, z_set2, z_ret, z_retN, z_drop, z_dropK, z_if, z_brT, z_brF, z_for, z_forK, z_loop0, z_loop1, z_loopK, z_var0, z_varS, z_c, z_bin, z_binK1, z_binK2, z_test, z_asB, z_and, z_andT, z_andF, z_or, z_orT, z_orF, z_not, z_notK, z_andV, z_andVT, z_andVF, z_orV, z_orVT, z_orVF, z_notV, z_notVK, z_ifE, z_ifT, z_ifF, z_nil, z_cons, z_consK, z_consK2, z_tup, z_tupK, z_lst, z_lstK, z_un, z_unK, z_neg, z_cb, z_cbK, z_call, z_callK, z_star, z_starK, z_starK2, z_seqL, z_seqT, z_seqR, z_I, z_I0, z_mul, z_mulT, z_mulL, z_tupleR, z_tupM, z_lenP, z_lenM, z_add, z_addS, z_addL, z_addT, z_eqI, z_neI, z_eqB, z_neB, z_eqS, z_neS, z_isN, z_notN, z_ixL, z_ixT, z_ixR, z_ixM, z_atK, z_lenL, z_lenT, z_lenR, z_lenS, z_listL, z_listR, z_listT, z_tupleL, z_tupleT, z_sl, z_slK1, z_slK2, z_slK3, z_oNone, z_oSome, z_oK, z_slT, z_slL, z_slR, z_r1, z_r1K, z_r2, z_r2K, z_zip, z_zipL, z_zipT, z_iseq, z_meth, z_methK, z_methK2, z_app, z_appM, z_lc, isNon, Bool.not_true, Bool.not_false, z_at0, z_at1, z_at2, z_at3, z_mulS, z_okStr, z_join, z_intB, z_intI, z_dnew, z_setD, z_setD1, z_listD, z_listD1, z_par, z_parK, z_rev, z_revK, z_sum, z_max, z_disp2, z_back, z_backK, z_backK2, z_maxD, z_maxK, z_maxK2, z_dg, z_dgK, z_dgK2, z_dgM, List.set_cons_zero, List.set_cons_succ])
        refine ⟨(size1M (Nat.le_of_ble_eq_true rfl)), .inl ?_⟩
        (try simp only [z_seq, z_next, z_brk, z_cont, z_asg, z_asgK, z_gN, z_gSeq, z_gSeqL, z_gcons, z_gconsK, z_gnil, z_gsub, z_subK1, z_subK2, z_subK3, z_set, z_set1, z_set2, z_ret, z_retN, z_drop, z_dropK, z_if, z_brT, z_brF, z_for, z_forK, z_loop0, z_loop1, z_loopK, z_var0, z_varS, z_c, z_bin, z_binK1, z_binK2, z_test, z_asB, z_and, z_andT, z_andF, z_or, z_orT, z_orF, z_not, z_notK, z_andV, z_andVT, z_andVF, z_orV, z_orVT, z_orVF, z_notV, z_notVK, z_ifE, z_ifT, z_ifF, z_nil, z_cons, z_consK, z_consK2, z_tup, z_tupK, z_lst, z_lstK, z_un, z_unK, z_neg, z_cb, z_cbK, z_call, z_callK, z_star, z_starK, z_starK2, z_seqL, z_seqT, z_seqR, z_I, z_I0, z_mul, z_mulT, z_mulL, z_tupleR, z_tupM, z_lenP, z_lenM, z_add, z_addS, z_addL, z_addT, z_eqI, z_neI, z_eqB, z_neB, z_eqS, z_neS, z_isN, z_notN, z_ixL, z_ixT, z_ixR, z_ixM, z_atK, z_lenL, z_lenT, z_lenR, z_lenS, z_listL, z_listR, z_listT, z_tupleL, z_tupleT, z_sl, z_slK1, z_slK2, z_slK3, z_oNone, z_oSome, z_oK, z_slT, z_slL, z_slR, z_r1, z_r1K, z_r2, z_r2K, z_zip, z_zipL, z_zipT, z_iseq, z_meth, z_methK, z_methK2, z_app, z_appM, z_lc, isNon, Bool.not_true, Bool.not_false, z_at0, z_at1, z_at2, z_at3, z_mulS, z_okStr, z_join, z_intB, z_intI, z_dnew, z_setD, z_setD1, z_listD, z_listD1, z_par, z_parK, z_rev, z_revK, z_sum, z_max, z_disp2, z_back, z_backK, z_backK2, z_maxD, z_maxK, z_maxK2, z_dg, z_dgK, z_dgK2, z_dgM, List.set_cons_zero, List.set_cons_succ])
        obtain ⟨u, eu⟩ : ∃ u : Bool, L2.atI [D.str "do", D.str "undo"] (r - 2) = some (.str (callW u)) := by
          have hr : r = 0 ∨ r = 1 ∨ r = 2 ∨ r = 3 := by omega
          rcases hr with rfl | rfl | rfl | rfl
          · exact ⟨false, rfl⟩
          · exact ⟨true, rfl⟩
          · exact ⟨false, rfl⟩
          · exact ⟨true, rfl⟩
        (try simp only [z_seq, z_next, z_brk, z_cont, z_asg, z_asgK, z_gN, z_gSeq, z_gSeqL, z_gcons, z_gconsK, z_gnil, z_gsub, z_subK1, z_subK2, z_subK3, z_set, z_set1, z_set2, z_ret, z_retN, z_drop, z_dropK, z_if, z_brT, z_brF, z_for, z_forK, z_loop0, z_loop1, z_loopK, z_var0, z_varS, z_c, z_bin, z_binK1, z_binK2, z_test, z_asB, z_and, z_andT, z_andF, z_or, z_orT, z_orF, z_not, z_notK, z_andV, z_andVT, z_andVF, z_orV, z_orVT, z_orVF, z_notV, z_notVK, z_ifE, z_ifT, z_ifF, z_nil, z_cons, z_consK, z_consK2, z_tup, z_tupK, z_lst, z_lstK, z_un, z_unK, z_neg, z_cb, z_cbK, z_call, z_callK, z_star, z_starK, z_starK2, z_seqL, z_seqT, z_seqR, z_I, z_I0, z_mul, z_mulT, z_mulL, z_tupleR, z_tupM, z_lenP, z_lenM, z_add, z_addS, z_addL, z_addT, z_eqI, z_neI, z_eqB, z_neB, z_eqS, z_neS, z_isN, z_notN, z_ixL, z_ixT, z_ixR, z_ixM, z_atK, z_lenL, z_lenT, z_lenR, z_lenS, z_listL, z_listR, z_listT, z_tupleL, z_tupleT, z_sl, z_slK1, z_slK2, z_slK3, z_oNone, z_oSome, z_oK, z_slT, z_slL, z_slR, z_r1, z_r1K, z_r2, z_r2K, z_zip, z_zipL, z_zipT, z_iseq, z_meth, z_methK, z_methK2, z_app, z_appM, z_lc, isNon, Bool.not_true, Bool.not_false, z_at0, z_at1, z_at2, z_at3, z_mulS, z_okStr, z_join, z_intB, z_intI, z_dnew, z_setD, z_setD1, z_listD, z_listD1, z_par, z_parK, z_rev, z_revK, z_sum, z_max, z_disp2, z_back, z_backK, z_backK2, z_maxD, z_maxK, z_maxK2, z_dg, z_dgK, z_dgK2, z_dgM, List.set_cons_zero, List.set_cons_succ, eu])
        refine ⟨b, _, .inl rfl, d1.1, by simp, by rw [List.length_cons, List.length_map]; rw [List.length_cons] at hxl; omega, fun d M2 hd d2 => ?_⟩
        obtain ⟨x, hxm, rfl⟩ : ∃ x, x ∈ x0 :: xs ∧ D.str x = d := List.mem_map.mp hd
        (try simp only [z_seq, z_next, z_brk, z_cont, z_asg, z_asgK, z_gN, z_gSeq, z_gSeqL, z_gcons, z_gconsK, z_gnil, z_gsub, z_subK1, z_subK2, z_subK3, z_set, z_set1, z_set2, z_ret, z_retN, z_drop, z_dropK, z_if, z_brT, z_brF, z_for, z_forK, z_loop0, z_loop1, z_loopK, z_var0, z_varS, z_c, z_bin, z_binK1, z_binK2, z_test, z_asB, z_and, z_andT, z_andF, z_or, z_orT, z_orF, z_not, z_notK, z_andV, z_andVT, z_andVF, z_orV, z_orVT, z_orVF, z_notV, z_notVK, z_ifE, z_ifT, z_ifF, z_nil, z_cons, z_consK, z_consK2, z_tup, z_tupK, z_lst, z_lstK, z_un, z_unK, z_neg, z_cb, z_cbK, z_call, z_callK, z_star, z_starK, z_starK2, z_seqL, z_seqT, z_seqR, z_I, z_I0, z_mul, z_mulT, z_mulL, z_tupleR, z_tupM, z_lenP, z_lenM, z_add, z_addS, z_addL, z_addT, z_eqI, z_neI, z_eqB, z_neB, z_eqS, z_neS, z_isN, z_notN, z_ixL, z_ixT, z_ixR, z_ixM, z_atK, z_lenL, z_lenT, z_lenR, z_lenS, z_listL, z_listR, z_listT, z_tupleL, z_tupleT, z_sl, z_slK1, z_slK2, z_slK3, z_oNone, z_oSome, z_oK, z_slT, z_slL, z_slR, z_r1, z_r1K, z_r2, z_r2K, z_zip, z_zipL, z_zipT, z_iseq, z_meth, z_methK, z_methK2, z_app, z_appM, z_lc, isNon, Bool.not_true, Bool.not_false, z_at0, z_at1, z_at2, z_at3, z_mulS, z_okStr, z_join, z_intB, z_intI, z_dnew, z_setD, z_setD1, z_listD, z_listD1, z_par, z_parK, z_rev, z_revK, z_sum, z_max, z_disp2, z_back, z_backK, z_backK2, z_maxD, z_maxK, z_maxK2, z_dg, z_dgK, z_dgK2, z_dgM, List.set_cons_zero, List.set_cons_succ])
        exact ⟨(size1M (Nat.le_of_ble_eq_true rfl)), q _ _ ⟨.call u x, rfl, by unfold OkS; exact hx x hxm⟩ (d1.trans d2)⟩
    · (try simp only [z_seq, z_next, z_brk, z_cont, z_asg, z_asgK, z_gN, z_gSeq, z_gSeqL, z_gcons, z_gconsK, z_gnil, z_gsub, z_subK1, z_subK2, z_subK3, z_set, z_set1, z_set2, z_ret, z_retN, z_drop, z_dropK, z_if, z_brT, z_brF, z_for, z_forK, z_loop0, z_loop1, z_loopK, z_var0, z_varS, z_c, z_bin, z_binK1, z_binK2, z_test, z_asB, z_and, z_andT, z_andF, z_or, z_orT, z_orF, z_not, z_notK, z_andV, z_andVT, z_andVF, z_orV, z_orVT, z_orVF, z_notV, z_notVK, z_ifE, z_ifT, z_ifF, z_nil, z_cons, z_consK, z_consK2, z_tup, z_tupK, z_lst, z_lstK, z_un, z_unK, z_neg, z_cb, z_cbK, z_call, z_callK, z_star, z_starK, z_starK2, z_seqL, z_seqT, z_seqR, z_I, z_I0, z_mul, z_mulT, z_mulL, z_tupleR, z_tupM, z_lenP, z_lenM, z_add, z_addS, z_addL, z_addT, z_eqI, z_neI, z_eqB, z_neB, z_eqS, z_neS, z_isN, z_notN, z_ixL, z_ixT, z_ixR, z_ixM, z_atK, z_lenL, z_lenT, z_lenR, z_lenS, z_listL, z_listR, z_listT, z_tupleL, z_tupleT, z_sl, z_slK1, z_slK2, z_slK3, z_oNone, z_oSome, z_oK, z_slT, z_slL, z_slR, z_r1, z_r1K, z_r2, z_r2K, z_zip, z_zipL, z_zipT, z_iseq, z_meth, z_methK, z_methK2, z_app, z_appM, z_lc, isNon, Bool.not_true, Bool.not_false, z_at0, z_at1, z_at2, z_at3, z_mulS, z_okStr, z_join, z_intB, z_intI, z_dnew, z_setD, z_setD1, z_listD, z_listD1, z_par, z_parK, z_rev, z_revK, z_sum, z_max, z_disp2, z_back, z_backK, z_backK2, z_maxD, z_maxK, z_maxK2, z_dg, z_dgK, z_dgK2, z_dgM, List.set_cons_zero, List.set_cons_succ, decide_eq_false e4])
      exact rest
  (try simp only [z_seq, z_next, z_brk, z_cont, z_asg, z_asgK, z_gN, z_gSeq, z_gSeqL, z_gcons, z_gconsK, z_gnil, z_gsub, z_subK1, z_subK2, z_subK3, z_set, z_set1, z_set2, z_ret, z_retN, z_drop, z_dropK, z_if, z_brT, z_brF, z_for, z_forK, z_loop0, z_loop1, z_loopK, z_var0, z_varS, z_c, z_bin, z_binK1, z_binK2, z_test, z_asB, z_and, z_andT, z_andF, z_or, z_orT, z_orF, z_not, z_notK, z_andV, z_andVT, z_andVF, z_orV, z_orVT, z_orVF, z_notV, z_notVK, z_ifE, z_ifT, z_ifF, z_nil, z_cons, z_consK, z_consK2, z_tup, z_tupK, z_lst, z_lstK, z_un, z_unK, z_neg, z_cb, z_cbK, z_call, z_callK, z_star, z_starK, z_starK2, z_seqL, z_seqT, z_seqR, z_I, z_I0, z_mul, z_mulT, z_mulL, z_tupleR, z_tupM, z_lenP, z_lenM, z_add, z_addS, z_addL, z_addT, z_eqI, z_neI, z_eqB, z_neB, z_eqS, z_neS, z_isN, z_notN, z_ixL, z_ixT, z_ixR, z_ixM, z_atK, z_lenL, z_lenT, z_lenR, z_lenS, z_listL, z_listR, z_listT, z_tupleL, z_tupleT, z_sl, z_slK1, z_slK2, z_slK3, z_oNone, z_oSome, z_oK, z_slT, z_slL, z_slR, z_r1, z_r1K, z_r2, z_r2K, z_zip, z_zipL, z_zipT, z_iseq, z_meth, z_methK, z_methK2, z_app, z_appM, z_lc, isNon, Bool.not_true, Bool.not_false, z_at0, z_at1, z_at2, z_at3, z_mulS, z_okStr, z_join, z_intB, z_intI, z_dnew, z_setD, z_setD1, z_listD, z_listD1, z_par, z_parK, z_rev, z_revK, z_sum, z_max, z_disp2, z_back, z_backK, z_backK2, z_maxD, z_maxK, z_maxK2, z_dg, z_dgK, z_dgK2, z_dgM, List.set_cons_zero, List.set_cons_succ])
  by_cases e2 : r < 2
  · (try simp only [z_seq, z_next, z_brk, z_cont, z_asg, z_asgK, z_gN, z_gSeq, z_gSeqL, z_gcons, z_gconsK, z_gnil, z_gsub, z_subK1, z_subK2, z_subK3, z_set, z_set1, z_set2, z_ret, z_retN, z_drop, z_dropK, z_if, z_brT, z_brF, z_for, z_forK, z_loop0, z_loop1, z_loopK, z_var0, z_varS, z_c, z_bin, z_binK1, z_binK2, z_test, z_asB, z_and, z_andT, z_andF, z_or, z_orT, z_orF, z_not, z_notK, z_andV, z_andVT, z_andVF, z_orV, z_orVT, z_orVF, z_notV, z_notVK, z_ifE, z_ifT, z_ifF, z_nil, z_cons, z_consK, z_consK2, z_tup, z_tupK, z_lst, z_lstK, z_un, z_unK, z_neg, z_cb, z_cbK, z_call, z_callK, z_star, z_starK, z_starK2, z_seqL, z_seqT, z_seqR, z_I, z_I0, z_mul, z_mulT, z_mulL, z_tupleR, z_tupM, z_lenP, z_lenM, z_add, z_addS, z_addL, z_addT, z_eqI, z_neI, z_eqB, z_neB, z_eqS, z_neS, z_isN, z_notN, z_ixL, z_ixT, z_ixR, z_ixM, z_atK, z_lenL, z_lenT, z_lenR, z_lenS, z_listL, z_listR, z_listT, z_tupleL, z_tupleT, z_sl, z_slK1, z_slK2, z_slK3, z_oNone, z_oSome, z_oK, z_slT, z_slL, z_slR, z_r1, z_r1K, z_r2, z_r2K, z_zip, z_zipL, z_zipT, z_iseq, z_meth, z_methK, z_methK2, z_app, z_appM, z_lc, isNon, Bool.not_true, Bool.not_false, z_at0, z_at1, z_at2, z_at3, z_mulS, z_okStr, z_join, z_intB, z_intI, z_dnew, z_setD, z_setD1, z_listD, z_listD1, z_par, z_parK, z_rev, z_revK, z_sum, z_max, z_disp2, z_back, z_backK, z_backK2, z_maxD, z_maxK, z_maxK2, z_dg, z_dgK, z_dgK2, z_dgM, List.set_cons_zero, List.set_cons_succ, decide_eq_true e2])
    by_cases e0 : 0 < dp
    · (try simp only [z_seq, z_next, z_brk, z_cont, z_asg, z_asgK, z_gN, z_gSeq, z_gSeqL, z_gcons, z_gconsK, z_gnil, z_gsub, z_subK1, z_subK2, z_subK3, z_set, z_set1, z_set2, z_ret, z_retN, z_drop, z_dropK, z_if, z_brT, z_brF, z_for, z_forK, z_loop0, z_loop1, z_loopK, z_var0, z_varS, z_c, z_bin, z_binK1, z_binK2, z_test, z_asB, z_and, z_andT, z_andF, z_or, z_orT, z_orF, z_not, z_notK, z_andV, z_andVT, z_andVF, z_orV, z_orVT, z_orVF, z_notV, z_notVK, z_ifE, z_ifT, z_ifF, z_nil, z_cons, z_consK, z_consK2, z_tup, z_tupK, z_lst, z_lstK, z_un, z_unK, z_neg, z_cb, z_cbK, z_call, z_callK, z_star, z_starK, z_starK2, z_seqL, z_seqT, z_seqR, z_I, z_I0, z_mul, z_mulT, z_mulL, z_tupleR, z_tupM, z_lenP, z_lenM, z_add, z_addS, z_addL, z_addT, z_eqI, z_neI, z_eqB, z_neB, z_eqS, z_neS, z_isN, z_notN, z_ixL, z_ixT, z_ixR, z_ixM, z_atK, z_lenL, z_lenT, z_lenR, z_lenS, z_listL, z_listR, z_listT, z_tupleL, z_tupleT, z_sl, z_slK1, z_slK2, z_slK3, z_oNone, z_oSome, z_oK, z_slT, z_slL, z_slR, z_r1, z_r1K, z_r2, z_r2K, z_zip, z_zipL, z_zipT, z_iseq, z_meth, z_methK, z_methK2, z_app, z_appM, z_lc, isNon, Bool.not_true, Bool.not_false, z_at0, z_at1, z_at2, z_at3, z_mulS, z_okStr, z_join, z_intB, z_intI, z_dnew, z_setD, z_setD1, z_listD, z_listD1, z_par, z_parK, z_rev, z_revK, z_sum, z_max, z_disp2, z_back, z_backK, z_backK2, z_maxD, z_maxK, z_maxK2, z_dg, z_dgK, z_dgK2, z_dgM, List.set_cons_zero, List.set_cons_succ, decide_eq_true e0])
      refine ⟨(size1M (Nat.le_of_ble_eq_true rfl)), .inl ?_⟩
      (try simp only [z_seq, z_next, z_brk, z_cont, z_asg, z_asgK, z_gN, z_gSeq, z_gSeqL, z_gcons, z_gconsK, z_gnil, z_gsub, z_subK1, z_subK2, z_subK3, z_set, z_set1, z_set2, z_ret, z_retN, z_drop, z_dropK, z_if, z_brT, z_brF, z_for, z_forK, z_loop0, z_loop1, z_loopK, z_var0, z_varS, z_c, z_bin, z_binK1, z_binK2, z_test, z_asB, z_and, z_andT, z_andF, z_or, z_orT, z_orF, z_not, z_notK, z_andV, z_andVT, z_andVF, z_orV, z_orVT, z_orVF, z_notV, z_notVK, z_ifE, z_ifT, z_ifF, z_nil, z_cons, z_consK, z_consK2, z_tup, z_tupK, z_lst, z_lstK, z_un, z_unK, z_neg, z_cb, z_cbK, z_call, z_callK, z_star, z_starK, z_starK2, z_seqL, z_seqT, z_seqR, z_I, z_I0, z_mul, z_mulT, z_mulL, z_tupleR, z_tupM, z_lenP, z_lenM, z_add, z_addS, z_addL, z_addT, z_eqI, z_neI, z_eqB, z_neB, z_eqS, z_neS, z_isN, z_notN, z_ixL, z_ixT, z_ixR, z_ixM, z_atK, z_lenL, z_lenT, z_lenR, z_lenS, z_listL, z_listR, z_listT, z_tupleL, z_tupleT, z_sl, z_slK1, z_slK2, z_slK3, z_oNone, z_oSome, z_oK, z_slT, z_slL, z_slR, z_r1, z_r1K, z_r2, z_r2K, z_zip, z_zipL, z_zipT, z_iseq, z_meth, z_methK, z_methK2, z_app, z_appM, z_lc, isNon, Bool.not_true, Bool.not_false, z_at0, z_at1, z_at2, z_at3, z_mulS, z_okStr, z_join, z_intB, z_intI, z_dnew, z_setD, z_setD1, z_listD, z_listD1, z_par, z_parK, z_rev, z_revK, z_sum, z_max, z_disp2, z_back, z_backK, z_backK2, z_maxD, z_maxK, z_maxK2, z_dg, z_dgK, z_dgK2, z_dgM, List.set_cons_zero, List.set_cons_succ])
      refine draw_go d1.1 (by decide) (by decide) fun r2 M2 h9 h10 d2 => ?_
      (try simp only [z_seq, z_next, z_brk, z_cont, z_asg, z_asgK, z_gN, z_gSeq, z_gSeqL, z_gcons, z_gconsK, z_gnil, z_gsub, z_subK1, z_subK2, z_subK3, z_set, z_set1, z_set2, z_ret, z_retN, z_drop, z_dropK, z_if, z_brT, z_brF, z_for, z_forK, z_loop0, z_loop1, z_loopK, z_var0, z_varS, z_c, z_bin, z_binK1, z_binK2, z_test, z_asB, z_and, z_andT, z_andF, z_or, z_orT, z_orF, z_not, z_notK, z_andV, z_andVT, z_andVF, z_orV, z_orVT, z_orVF, z_notV, z_notVK, z_ifE, z_ifT, z_ifF, z_nil, z_cons, z_consK, z_consK2, z_tup, z_tupK, z_lst, z_lstK, z_un, z_unK, z_neg, z_cb, z_cbK, z_call, z_callK, z_star, z_starK, z_starK2, z_seqL, z_seqT, z_seqR, z_I, z_I0, z_mul, z_mulT, z_mulL, z_tupleR, z_tupM, z_lenP, z_lenM, z_add, z_addS, z_addL, z_addT, z_eqI, z_neI, z_eqB, z_neB, z_eqS, z_neS, z_isN, z_notN, z_ixL, z_ixT, z_ixR, z_ixM, z_atK, z_lenL, z_lenT, z_lenR, z_lenS, z_listL, z_listR, z_listT, z_tupleL, z_tupleT, z_sl, z_slK1, z_slK2, z_slK3, z_oNone, z_oSome, z_oK, z_slT, z_slL, z_slR, z_r1, z_r1K, z_r2, z_r2K, z_zip, z_zipL, z_zipT, z_iseq, z_meth, z_methK, z_methK2, z_app, z_appM, z_lc, isNon, Bool.not_true, Bool.not_false, z_at0, z_at1, z_at2, z_at3, z_mulS, z_okStr, z_join, z_intB, z_intI, z_dnew, z_setD, z_setD1, z_listD, z_listD1, z_par, z_parK, z_rev, z_revK, z_sum, z_max, z_disp2, z_back, z_backK, z_backK2, z_maxD, z_maxK, z_maxK2, z_dg, z_dgK, z_dgK2, z_dgM, List.set_cons_zero, List.set_cons_succ])
      obtain ⟨tm, et⟩ : ∃ t : Int, L2.atI [D.int 0, D.int 1, D.int 2, D.int 3, D.int (-1), D.int (-2), D.int (-3), D.int 4] r2 = some (.int t) := by
        have hr : r2 = 0 ∨ r2 = 1 ∨ r2 = 2 ∨ r2 = 3 ∨ r2 = 4 ∨ r2 = 5 ∨ r2 = 6 ∨ r2 = 7 := by omega
        rcases hr with rfl | rfl | rfl | rfl | rfl | rfl | rfl | rfl <;> exact ⟨_, rfl⟩
      (try simp only [z_seq, z_next, z_brk, z_cont, z_asg, z_asgK, z_gN, z_gSeq, z_gSeqL, z_gcons, z_gconsK, z_gnil, z_gsub, z_subK1, z_subK2, z_subK3, z_set, z_set1, z_set2, z_ret, z_retN, z_drop, z_dropK, z_if, z_brT, z_brF, z_for, z_forK, z_loop0, z_loop1, z_loopK, z_var0, z_varS, z_c, z_bin, z_binK1, z_binK2, z_test, z_asB, z_and, z_andT, z_andF, z_or, z_orT, z_orF, z_not, z_notK, z_andV, z_andVT, z_andVF, z_orV, z_orVT, z_orVF, z_notV, z_notVK, z_ifE, z_ifT, z_ifF, z_nil, z_cons, z_consK, z_consK2, z_tup, z_tupK, z_lst, z_lstK, z_un, z_unK, z_neg, z_cb, z_cbK, z_call, z_callK, z_star, z_starK, z_starK2, z_seqL, z_seqT, z_seqR, z_I, z_I0, z_mul, z_mulT, z_mulL, z_tupleR, z_tupM, z_lenP, z_lenM, z_add, z_addS, z_addL, z_addT, z_eqI, z_neI, z_eqB, z_neB, z_eqS, z_neS, z_isN, z_notN, z_ixL, z_ixT, z_ixR, z_ixM, z_atK, z_lenL, z_lenT, z_lenR, z_lenS, z_listL, z_listR, z_listT, z_tupleL, z_tupleT, z_sl, z_slK1, z_slK2, z_slK3, z_oNone, z_oSome, z_oK, z_slT, z_slL, z_slR, z_r1, z_r1K, z_r2, z_r2K, z_zip, z_zipL, z_zipT, z_iseq, z_meth, z_methK, z_methK2, z_app, z_appM, z_lc, isNon, Bool.not_true, Bool.not_false, z_at0, z_at1, z_at2, z_at3, z_mulS, z_okStr, z_join, z_intB, z_intI, z_dnew, z_setD, z_setD1, z_listD, z_listD1, z_par, z_parK, z_rev, z_revK, z_sum, z_max, z_disp2, z_back, z_backK, z_backK2, z_maxD, z_maxK, z_maxK2, z_dg, z_dgK, z_dgK2, z_dgM, List.set_cons_zero, List.set_cons_succ, et])
      obtain ⟨n, rfl⟩ : ∃ j, n = j + 1 := ⟨n - 1, by omega⟩
      refine ⟨b, w, dp - 1, m, xs, rfl, d2.1, h1, h2, hx, hxl, by omega, by omega, h5, h6, fun d M3 hd d3 => ?_⟩
      obtain ⟨bb, rfl, hbb⟩ := hd
      (try simp only [z_seq, z_next, z_brk, z_cont, z_asg, z_asgK, z_gN, z_gSeq, z_gSeqL, z_gcons, z_gconsK, z_gnil, z_gsub, z_subK1, z_subK2, z_subK3, z_set, z_set1, z_set2, z_ret, z_retN, z_drop, z_dropK, z_if, z_brT, z_brF, z_for, z_forK, z_loop0, z_loop1, z_loopK, z_var0, z_varS, z_c, z_bin, z_binK1, z_binK2, z_test, z_asB, z_and, z_andT, z_andF, z_or, z_orT, z_orF, z_not, z_notK, z_andV, z_andVT, z_andVF, z_orV, z_orVT, z_orVF, z_notV, z_notVK, z_ifE, z_ifT, z_ifF, z_nil, z_cons, z_consK, z_consK2, z_tup, z_tupK, z_lst, z_lstK, z_un, z_unK, z_neg, z_cb, z_cbK, z_call, z_callK, z_star, z_starK, z_starK2, z_seqL, z_seqT, z_seqR, z_I, z_I0, z_mul, z_mulT, z_mulL, z_tupleR, z_tupM, z_lenP, z_lenM, z_add, z_addS, z_addL, z_addT, z_eqI, z_neI, z_eqB, z_neB, z_eqS, z_neS, z_isN, z_notN, z_ixL, z_ixT, z_ixR, z_ixM, z_atK, z_lenL, z_lenT, z_lenR, z_lenS, z_listL, z_listR, z_listT, z_tupleL, z_tupleT, z_sl, z_slK1, z_slK2, z_slK3, z_oNone, z_oSome, z_oK, z_slT, z_slL, z_slR, z_r1, z_r1K, z_r2, z_r2K, z_zip, z_zipL, z_zipT, z_iseq, z_meth, z_methK, z_methK2, z_app, z_appM, z_lc, isNon, Bool.not_true, Bool.not_false, z_at0, z_at1, z_at2, z_at3, z_mulS, z_okStr, z_join, z_intB, z_intI, z_dnew, z_setD, z_setD1, z_listD, z_listD1, z_par, z_parK, z_rev, z_revK, z_sum, z_max, z_disp2, z_back, z_backK, z_backK2, z_maxD, z_maxK, z_maxK2, z_dg, z_dgK, z_dgK2, z_dgM, List.set_cons_zero, List.set_cons_succ])
      refine ⟨(size1M (Nat.le_of_ble_eq_true rfl)), q _ _ ⟨.rep tm bb, rfl, ?_⟩ (d1.trans (d2.trans d3))⟩
      obtain ⟨e, he⟩ : ∃ e, dp.toNat = e + 1 := ⟨dp.toNat - 1, by omega⟩
      have he2 : (dp - 1).toNat = e := by omega
      rw [he2] at hbb
      rw [he]
      exact hbb
    · (try simp only [z_seq, z_next, z_brk, z_cont, z_asg, z_asgK, z_gN, z_gSeq, z_gSeqL, z_gcons, z_gconsK, z_gnil, z_gsub, z_subK1, z_subK2, z_subK3, z_set, z_set1, z_set2, z_ret, z_retN, z_drop, z_dropK, z_if, z_brT, z_brF, z_for, z_forK, z_loop0, z_loop1, z_loopK, z_var0, z_varS, z_c, z_bin, z_binK1, z_binK2, z_test, z_asB, z_and, z_andT, z_andF, z_or, z_orT, z_orF, z_not, z_notK, z_andV, z_andVT, z_andVF, z_orV, z_orVT, z_orVF, z_notV, z_notVK, z_ifE, z_ifT, z_ifF, z_nil, z_cons, z_consK, z_consK2, z_tup, z_tupK, z_lst, z_lstK, z_un, z_unK, z_neg, z_cb, z_cbK, z_call, z_callK, z_star, z_starK, z_starK2, z_seqL, z_seqT, z_seqR, z_I, z_I0, z_mul, z_mulT, z_mulL, z_tupleR, z_tupM, z_lenP, z_lenM, z_add, z_addS, z_addL, z_addT, z_eqI, z_neI, z_eqB, z_neB, z_eqS, z_neS, z_isN, z_notN, z_ixL, z_ixT, z_ixR, z_ixM, z_atK, z_lenL, z_lenT, z_lenR, z_lenS, z_listL, z_listR, z_listT, z_tupleL, z_tupleT, z_sl, z_slK1, z_slK2, z_slK3, z_oNone, z_oSome, z_oK, z_slT, z_slL, z_slR, z_r1, z_r1K, z_r2, z_r2K, z_zip, z_zipL, z_zipT, z_iseq, z_meth, z_methK, z_methK2, z_app, z_appM, z_lc, isNon, Bool.not_true, Bool.not_false, z_at0, z_at1, z_at2, z_at3, z_mulS, z_okStr, z_join, z_intB, z_intI, z_dnew, z_setD, z_setD1, z_listD, z_listD1, z_par, z_parK, z_rev, z_revK, z_sum, z_max, z_disp2, z_back, z_backK, z_backK2, z_maxD, z_maxK, z_maxK2, z_dg, z_dgK, z_dgK2, z_dgM, List.set_cons_zero, List.set_cons_succ, decide_eq_false e0])
      exact tail
  · (try simp only [z_seq, z_next, z_brk, z_cont, z_asg, z_asgK, z_gN, z_gSeq, z_gSeqL, z_gcons, z_gconsK, z_gnil, z_gsub, z_subK1, z_subK2, z_subK3, z_set, z_set1, z_set2, z_ret, z_retN, z_drop, z_dropK, z_if, z_brT, z_brF, z_for, z_forK, z_loop0, z_loop1, z_loopK, z_var0, z_varS, z_c, z_bin, z_binK1, z_binK2, z_test, z_asB, z_and, z_andT, z_andF, z_or, z_orT, z_orF, z_not, z_notK, z_andV, z_andVT, z_andVF, z_orV, z_orVT, z_orVF, z_notV, z_notVK, z_ifE, z_ifT, z_ifF, z_nil, z_cons, z_consK, z_consK2, z_tup, z_tupK, z_lst, z_lstK, z_un, z_unK, z_neg, z_cb, z_cbK, z_call, z_callK, z_star, z_starK, z_starK2, z_seqL, z_seqT, z_seqR, z_I, z_I0, z_mul, z_mulT, z_mulL, z_tupleR, z_tupM, z_lenP, z_lenM, z_add, z_addS, z_addL, z_addT, z_eqI, z_neI, z_eqB, z_neB, z_eqS, z_neS, z_isN, z_notN, z_ixL, z_ixT, z_ixR, z_ixM, z_atK, z_lenL, z_lenT, z_lenR, z_lenS, z_listL, z_listR, z_listT, z_tupleL, z_tupleT, z_sl, z_slK1, z_slK2, z_slK3, z_oNone, z_oSome, z_oK, z_slT, z_slL, z_slR, z_r1, z_r1K, z_r2, z_r2K, z_zip, z_zipL, z_zipT, z_iseq, z_meth, z_methK, z_methK2, z_app, z_appM, z_lc, isNon, Bool.not_true, Bool.not_false, z_at0, z_at1, z_at2, z_at3, z_mulS, z_okStr, z_join, z_intB, z_intI, z_dnew, z_setD, z_setD1, z_listD, z_listD1, z_par, z_parK, z_rev, z_revK, z_sum, z_max, z_disp2, z_back, z_backK, z_backK2, z_maxD, z_maxK, z_maxK2, z_dg, z_dgK, z_dgK2, z_dgM, List.set_cons_zero, List.set_cons_succ, decide_eq_false e2])
    exact tail
theorem okg__law_a_statement {P : Program} {w : World} {K : PySem.W.Frag} {mg : Str → Option Value} {base : Heap} {f__law_a_statement : Addr} {fd__law_a_statement : FuncData} (F__law_a_statement : L2.Fun K "_law_a_statement" "_law_a_statement" s__law_a_statement f__law_a_statement fd__law_a_statement) (gm__law_a_statement : mg "_law_a_statement" = some (.ref f__law_a_statement)) (b__law_a_statement : Binds K fd__law_a_statement ["_law_box", "_law_ways", "_law_names", "_law_deep", "_law_most"] []) {f__law_code : Addr} {fd__law_code : FuncData} (F__law_code : L2.Fun K "_law_code" "_law_code" s__law_code f__law_code fd__law_code) (gm__law_code : mg "_law_code" = some (.ref f__law_code)) (b__law_code : Binds K fd__law_code ["_law_box", "_law_ways", "_law_names", "_law_deep", "_law_most"] []) (h__law_any : Has P w K mg base 2 "_law_any" sp__law_any) (h__law_arrow : Has P w K mg base 2 "_law_arrow" sp__law_arrow) (h__law_draw : Has P w K mg base 1 "_law_draw" sp__law_draw) (h__law_num : Has P w K mg base 2 "_law_num" sp__law_num) (z_range : mg "range" = none) (z_tuple : mg "tuple" = none) : ∀ n : Nat, Has P w K mg base (2 + n) "_law_a_statement" (sp__law_a_statement_ n) ∧ Has P w K mg base (2 + n) "_law_code" (sp__law_code_ n)
  | 0 => ⟨⟨⟨f__law_a_statement, gm__law_a_statement, F__law_a_statement.kp, fun A outer s H us vs Q E _ _ _ h => by obtain ⟨_, _, _, _, _, q⟩ := h; exact q.elim⟩, fun _ _ _ _ _ _ _ _ h => h.elim⟩, ⟨⟨f__law_code, gm__law_code, F__law_code.kp, fun A outer s H us vs Q E _ _ _ h => by obtain ⟨_, _, _, _, _, q⟩ := h; exact q.elim⟩, fun _ _ _ _ _ _ _ _ h => h.elim⟩⟩
  | n + 1 => by
    obtain ⟨h__law_a_statement, h__law_code⟩ := okg__law_a_statement (P := P) (w := w) (base := base) F__law_a_statement gm__law_a_statement b__law_a_statement F__law_code gm__law_code b__law_code h__law_any h__law_arrow h__law_draw h__law_num z_range z_tuple n
    refine ⟨?g__law_a_statement, ?g__law_code⟩
    case g__law_a_statement => exact (Has.mk' (k := 2 + n) (c := c__law_a_statement (sp__law_a_statement_ n) (sp__law_code_ n)) gm__law_a_statement F__law_a_statement b__law_a_statement sc__law_a_statement (fun ds M k E h => by first | (obtain ⟨_, _, rfl | ⟨_, rfl, _⟩, _⟩ := h <;> rfl) | (obtain ⟨_, _, _, _, _, rfl, _⟩ := h; rfl) | (obtain ⟨_, ⟨_, _, _, _, rfl, _⟩, _⟩ := h; rfl) | (obtain ⟨_, ⟨_, _, _, _, _, rfl, _⟩, _⟩ := h; rfl) | (obtain ⟨_, rfl, _⟩ := h <;> rfl) | (obtain ⟨_, _, rfl, _⟩ := h <;> rfl) | (obtain ⟨_, _, _, rfl, _⟩ := h <;> rfl) | (obtain ⟨_, _, _, _, rfl, _⟩ := h <;> rfl) | (obtain ⟨_, ⟨_, rfl, _⟩, _⟩ := h <;> rfl) | (obtain ⟨_, ⟨_, _, rfl, _⟩, _⟩ := h <;> rfl) | (obtain ⟨_, ⟨_, _, _, rfl, _⟩, _⟩ := h <;> rfl) | (obtain ⟨_, ⟨_, rfl, _⟩ | ⟨_, rfl, _⟩, _⟩ := h <;> rfl)) (fun cdv A outer s H E hr => (pssd_cons (psd_set (i := 5) sc__law_a_statement.nd rfl (Or.inl rfl) (pd_callH h__law_draw (hr.mono (by first | decide | omega)) (pad_cons (pd_var (pv 0)) (pad_cons pd_int pad_nil))))
      (pssd_cons (psd_if (PWd.pt (pwd_and (ptd_cmp od_lt (pd_var (pv 5)) pd_int (nomark _)) (pwd_and1 (ptd_cmp od_gt (pd_var (pv 3)) pd_int (nomark _))))) (pssd_cons (psd_set (i := 6) sc__law_a_statement.nd rfl (Or.inl rfl) (pd_ix xd_seq (pd_lst (pad_cons pd_int (pad_cons pd_int (pad_cons pd_int (pad_cons pd_int (pad_cons (pd_un ud_neg pd_int) (pad_cons (pd_un ud_neg pd_int) (pad_cons (pd_un ud_neg pd_int) (pad_cons pd_int pad_nil))))))))) (pd_callH h__law_draw (hr.mono (by first | decide | omega)) (pad_cons (pd_var (pv 0)) (pad_cons pd_int pad_nil))) (fun _ _ => rfl)))
      (pssd_one (psd_ret (pd_tup (pad_cons pd_str (pad_cons (pd_var (pv 6)) (pad_cons (pd_callH h__law_code (hr.mono (by first | decide | omega)) (pad_cons (pd_var (pv 0)) (pad_cons (pd_var (pv 1)) (pad_cons (pd_var (pv 2)) (pad_cons (pd_bin od_sub (pd_var (pv 3)) pd_int) (pad_cons (pd_var (pv 4)) pad_nil)))))) pad_nil))))))) pssd_nil)
      (pssd_cons (psd_if (PWd.pt (pwd_and (ptd_cmp od_lt (pd_var (pv 5)) pd_int (nomark _)) (pwd_and1 (ptd_cmp (od_neG hr.units) (pd_var (pv 2)) (pd_lst pad_nil) (nomark _))))) (pssd_one (psd_ret (pd_tup (pad_cons (pd_ix xd_seq (pd_lst (pad_cons pd_str (pad_cons pd_str pad_nil))) (pd_bin od_sub (pd_var (pv 5)) pd_int) (fun _ _ => rfl)) (pad_cons (pd_callH h__law_any (hr.mono (by first | decide | omega)) (pad_cons (pd_var (pv 0)) (pad_cons (pd_var (pv 2)) pad_nil))) pad_nil))))) pssd_nil)
      (pssd_cons (psd_if (ptd_cmp od_lt (pd_var (pv 5)) pd_int (nomark _)) (pssd_one (psd_ret (pd_tup (pad_cons pd_str (pad_cons (pd_callH h__law_arrow (hr.mono (by first | decide | omega)) (pad_cons (pd_var (pv 0)) (pad_cons (pd_var (pv 1)) pad_nil))) pad_nil))))) pssd_nil)
      (pssd_one (psd_ret (pd_tup (pad_cons pd_str (pad_cons (pd_callH h__law_num (hr.mono (by first | decide | omega)) (pad_cons (pd_var (pv 0)) pad_nil)) pad_nil)))))))))) (main__law_a_statement n) (mono__law_a_statement_ n)).imp (fun _ _ _ _ h => h) (mono__law_a_statement_ n)
    case g__law_code => exact (Has.mk' (k := 2 + n) (c := c__law_code (sp__law_a_statement_ n) (sp__law_code_ n)) gm__law_code F__law_code b__law_code sc__law_code (fun ds M k E h => by first | (obtain ⟨_, _, rfl | ⟨_, rfl, _⟩, _⟩ := h <;> rfl) | (obtain ⟨_, _, _, _, _, rfl, _⟩ := h; rfl) | (obtain ⟨_, ⟨_, _, _, _, rfl, _⟩, _⟩ := h; rfl) | (obtain ⟨_, ⟨_, _, _, _, _, rfl, _⟩, _⟩ := h; rfl) | (obtain ⟨_, rfl, _⟩ := h <;> rfl) | (obtain ⟨_, _, rfl, _⟩ := h <;> rfl) | (obtain ⟨_, _, _, rfl, _⟩ := h <;> rfl) | (obtain ⟨_, _, _, _, rfl, _⟩ := h <;> rfl) | (obtain ⟨_, ⟨_, rfl, _⟩, _⟩ := h <;> rfl) | (obtain ⟨_, ⟨_, _, rfl, _⟩, _⟩ := h <;> rfl) | (obtain ⟨_, ⟨_, _, _, rfl, _⟩, _⟩ := h <;> rfl) | (obtain ⟨_, ⟨_, rfl, _⟩ | ⟨_, rfl, _⟩, _⟩ := h <;> rfl)) (fun cdv A outer s H E hr => (pssd_one (psd_ret (pd_callTy cd_tuple (by rfl) z_tuple (by decide +kernel) (pad_cons (pd_lc (g := (gN 5)) (own := [("_law_k", 5)]) rfl sc__law_code.nd (pid_range1 (by rfl) z_range (pad_cons (pd_callH h__law_draw (hr.mono (by first | decide | omega)) (pad_cons (pd_var (pv 0)) (pad_cons (pd_bin od_add (pd_var (pv 4)) pd_int) pad_nil))) pad_nil)) (blkOk_by (N := N__law_code) (sc := defScope s__law_code) (by decide +kernel)) mono_gN (tg_name (i := 5) (by decide)) (fun _ _ _ _ _ => pg_name (i := 5) sc__law_code.nd rfl (Or.inl rfl)) (fun _ _ _ _ _ => ptsd_nil) (fun _ _ _ _ _ => (pd_callH h__law_a_statement (hr.mono (by first | decide | omega)) (pad_cons (pd_var (pv 0)) (pad_cons (pd_var (pv 1)) (pad_cons (pd_var (pv 2)) (pad_cons (pd_var (pv 3)) (pad_cons (pd_var (pv 4)) pad_nil)))))))) pad_nil))))) (main__law_code n) (mono__law_code_ n)).imp (fun _ _ _ _ h => h) (mono__law_code_ n)
/-! the program -/
abbrev mono__law_scaled : MonoS sp__law_scaled := mono_P
def sp_scale : SpD := sp__law_scaled
def c_scale : CS :=
  (cRet (cCB ρTuple (cCons (cLc (ciSeq (cVar 1)) (gN 2) cYes (cBin ρMul (cVar 0) (cVar 2)) [2]) cNil)))
theorem main_scale : ∀ ds M k, sp_scale ds M k (fun _ _ _ => False) → c_scale { nx := fun _ M' => k .non M', rt := k } (startD 3 ds) M := main__law_scaled
abbrev mono_scale : MonoS sp_scale := mono_P
def sp_opposite : SpD := spP fun ds r => ∃ a : List Int, ds = [pl a] ∧ a.length ≤ 1000000 ∧ r = pl (pscale (-1) a)
def c_opposite : CS :=
  (cRet (cCall (NoX sp_scale) (cCons (cUn ρNeg (cC (.int 1))) (cCons (cVar 0) cNil))))
theorem mulOk_neg {a : List Int} : MulOk (-1) a := fun x _ => .inl (.inl ⟨by decide, by decide⟩)
theorem main_opposite : ∀ ds M k, sp_opposite ds M k (fun _ _ _ => False) → c_opposite { nx := fun _ M' => k .non M', rt := k } (startD 1 ds) M := by
  rintro ds M k ⟨r, ⟨a, rfl, hl, rfl⟩, q⟩
  show c_opposite _ [some (.tup (a.map D.int))] M
  unfold c_opposite
  (try simp only [z_seq, z_next, z_brk, z_cont, z_asg, z_asgK, z_gN, z_gSeq, z_gSeqL, z_gcons, z_gconsK, z_gnil, z_gsub, z_subK1, z_subK2, z_subK3, z_set, z_set1, z_set2, z_ret, z_retN, z_drop, z_dropK, z_if, z_brT, z_brF, z_for, z_forK, z_loop0, z_loop1, z_loopK, z_var0, z_varS, z_c, z_bin, z_binK1, z_binK2, z_test, z_asB, z_and, z_andT, z_andF, z_or, z_orT, z_orF, z_not, z_notK, z_andV, z_andVT, z_andVF, z_orV, z_orVT, z_orVF, z_notV, z_notVK, z_ifE, z_ifT, z_ifF, z_nil, z_cons, z_consK, z_consK2, z_tup, z_tupK, z_lst, z_lstK, z_un, z_unK, z_neg, z_cb, z_cbK, z_call, z_callK, z_star, z_starK, z_starK2, z_seqL, z_seqT, z_seqR, z_I, z_I0, z_mul, z_mulT, z_mulL, z_tupleR, z_tupM, z_lenP, z_lenM, z_add, z_addS, z_addL, z_addT, z_eqI, z_neI, z_eqB, z_neB, z_eqS, z_neS, z_isN, z_notN, z_ixL, z_ixT, z_ixR, z_ixM, z_atK, z_lenL, z_lenT, z_lenR, z_lenS, z_listL, z_listR, z_listT, z_tupleL, z_tupleT, z_sl, z_slK1, z_slK2, z_slK3, z_oNone, z_oSome, z_oK, z_slT, z_slL, z_slR, z_r1, z_r1K, z_r2, z_r2K, z_zip, z_zipL, z_zipT, z_iseq, z_meth, z_methK, z_methK2, z_app, z_appM, z_lc, isNon, Bool.not_true, Bool.not_false, z_at0, z_at1, z_at2, z_at3, z_mulS, z_okStr, z_join, z_intB, z_intI, z_dnew, z_setD, z_setD1, z_listD, z_listD1, z_par, z_parK, z_rev, z_revK, z_sum, z_max, z_disp2, z_back, z_backK, z_backK2, z_maxD, z_maxK, z_maxK2, z_dg, z_dgK, z_dgK2, z_dgM, List.set_cons_zero, List.set_cons_succ])
  exact ⟨_, ⟨-1, a, rfl, hl, mulOk_neg, rfl⟩, q⟩
abbrev mono_opposite : MonoS sp_opposite := mono_P
mutual
def revS : St → St
  | .go v => .go (v.map fun x => -x)
  | .put i => .put (-i)
  | .call u nm => .call (!u) nm
  | .rep i b => .rep i (revL b)
def revL : List St → List St
  | [] => []
  | s :: b => revL b ++ [revS s]
end
theorem rev_map : ∀ b : List St, revL b = b.reverse.map revS
  | [] => by simp [revL]
  | s :: b => by simp [revL, rev_map b]
theorem neg_scale {v : List Int} : pscale (-1) v = v.map fun x => -x := by
  unfold pscale
  exact List.map_congr_left fun x _ => by omega
theorem revS_ok {N N' : Str → Prop} {L : Nat} (w : ∀ x, N x → N' x) : ∀ {n : Nat} {s : St}, OkS N L n s → OkS N' L n (revS s) := by
  intro n
  induction n with
  | zero =>
    intro s h
    cases s with
    | rep i b => exact h.elim
    | call u nm => exact w _ h
    | go v => show (v.map fun x => -x).length ≤ 1000; rw [List.length_map]; exact h
    | put i => exact trivial
  | succ n ih =>
    intro s h
    cases s with
    | rep i b =>
      show (revL b).length ≤ L ∧ ∀ s, s ∈ revL b → OkS N' L n s
      rw [rev_map, List.length_map, List.length_reverse]
      refine ⟨h.1, fun s hs => ?_⟩
      obtain ⟨s2, h2, rfl⟩ := List.mem_map.mp hs
      exact ih (h.2 s2 (List.mem_reverse.mp h2))
    | call u nm => exact w _ h
    | go v => show (v.map fun x => -x).length ≤ 1000; rw [List.length_map]; exact h
    | put i => exact trivial
theorem revL_ok {N N' : Str → Prop} {L n : Nat} (w : ∀ x, N x → N' x) {b : List St} (h : OkB N L n b) : OkB N' L n (revL b) := revS_ok w (n := n + 1) (s := .rep 0 b) h
theorem rev_rev {N : Str → Prop} {L : Nat} : ∀ {n : Nat} {s : St}, OkS N L n s → revS (revS s) = s := by
  have nn : ∀ v : List Int, (v.map fun x => -x).map (fun x => -x) = v := fun v => by
    rw [List.map_map]
    have : v.map ((fun x : Int => -x) ∘ fun x => -x) = v.map id := List.map_congr_left fun x _ => by show - -x = x; omega
    rw [this, List.map_id]
  intro n
  induction n with
  | zero =>
    intro s h
    cases s with
    | rep i b => exact h.elim
    | call u nm => show St.call (!!u) nm = _; rw [Bool.not_not]
    | go v => show St.go _ = _; rw [nn]
    | put i => show St.put (- -i) = _; rw [Int.neg_neg]
  | succ n ih =>
    intro s h
    cases s with
    | rep i b =>
      show St.rep i (revL (revL b)) = _
      have e : (b.map revS).map revS = b := by
        rw [List.map_map]
        have : b.map (revS ∘ revS) = b.map id := List.map_congr_left fun s hs => ih (h.2 s hs)
        rw [this, List.map_id]
      rw [rev_map, rev_map, ← List.map_reverse, List.reverse_reverse, e]
    | call u nm => show St.call (!!u) nm = _; rw [Bool.not_not]
    | go v => show St.go _ = _; rw [nn]
    | put i => show St.put (- -i) = _; rw [Int.neg_neg]
def sp_reverse_ : Nat → SpD := spN fun n => spP fun ds r => ∃ (b : List St) (L m : Nat), ds = [.tup (St.ds b)] ∧ OkB (fun _ => True) L m b ∧ L ≤ 1000 ∧ 2 * m + 2 ≤ n ∧ r = .tup (St.ds (revL b))
def sp__reverse_of_ : Nat → SpD := spN fun n => spP fun ds r => ∃ (s : St) (L m : Nat), ds = [s.d] ∧ OkS (fun _ => True) L m s ∧ L ≤ 1000 ∧ 2 * m + 1 ≤ n ∧ r = (revS s).d
abbrev mono_reverse_ (n : Nat) : MonoS (sp_reverse_ (n + 1)) := mono_P
abbrev mono__reverse_of_ (n : Nat) : MonoS (sp__reverse_of_ (n + 1)) := mono_P
def c_reverse (sp_reverse sp__reverse_of : SpD) : CS :=
  (cRet (cCB ρTuple (cCons (cLc (ciRev (cVar 0)) (gN 1) cYes (cCall (NoX sp__reverse_of) (cCons (cVar 1) cNil)) [1]) cNil)))
def c__reverse_of (sp_reverse sp__reverse_of : SpD) : CS :=
  (cSeq (cAsg (cBin ρIx (cVar 0) (cC (.int 0))) (gN 1))
    (cSeq (cIf (cTest (cBin ρEq (cVar 1) (cC (.str "go")))) (cRet (cTup (cCons (cC (.str "go")) (cCons (cCall (NoX sp_opposite) (cCons (cBin ρIx (cVar 0) (cC (.int 1))) cNil)) cNil)))) cNext)
    (cSeq (cIf (cTest (cBin ρEq (cVar 1) (cC (.str "put")))) (cRet (cTup (cCons (cC (.str "put")) (cCons (cUn ρNeg (cBin ρIx (cVar 0) (cC (.int 1)))) cNil)))) cNext)
    (cSeq (cIf (cTest (cBin ρEq (cVar 1) (cC (.str "do")))) (cRet (cTup (cCons (cC (.str "undo")) (cCons (cBin ρIx (cVar 0) (cC (.int 1))) cNil)))) cNext)
    (cSeq (cIf (cTest (cBin ρEq (cVar 1) (cC (.str "undo")))) (cRet (cTup (cCons (cC (.str "do")) (cCons (cBin ρIx (cVar 0) (cC (.int 1))) cNil)))) cNext)
    (cRet (cTup (cCons (cC (.str "repeat")) (cCons (cBin ρIx (cVar 0) (cC (.int 1))) (cCons (cCall (NoX sp_reverse) (cCons (cBin ρIx (cVar 0) (cC (.int 2))) cNil)) cNil))))))))))
theorem ds_rev {b : List St} : (St.ds b).reverse = b.reverse.map St.d := by rw [ds_map, ← List.map_reverse]
theorem main_reverse (n : Nat) : ∀ ds M k, sp_reverse_ (n + 1) ds M k (fun _ _ _ => False) → c_reverse (sp_reverse_ n) (sp__reverse_of_ n) { nx := fun _ M' => k .non M', rt := k } (startD 2 ds) M := by
  rintro ds M k ⟨r, ⟨b, L, m, rfl, hb, hL, hm, rfl⟩, q⟩
  show c_reverse _ _ _ [some (.tup (St.ds b)), none] M
  unfold c_reverse
  (try simp only [z_seq, z_next, z_brk, z_cont, z_asg, z_asgK, z_gN, z_gSeq, z_gSeqL, z_gcons, z_gconsK, z_gnil, z_gsub, z_subK1, z_subK2, z_subK3, z_set, z_set1, z_set2, z_ret, z_retN, z_drop, z_dropK, z_if, z_brT, z_brF, z_for, z_forK, z_loop0, z_loop1, z_loopK, z_var0, z_varS, z_c, z_bin, z_binK1, z_binK2, z_test, z_asB, z_and, z_andT, z_andF, z_or, z_orT, z_orF, z_not, z_notK, z_andV, z_andVT, z_andVF, z_orV, z_orVT, z_orVF, z_notV, z_notVK, z_ifE, z_ifT, z_ifF, z_nil, z_cons, z_consK, z_consK2, z_tup, z_tupK, z_lst, z_lstK, z_un, z_unK, z_neg, z_cb, z_cbK, z_call, z_callK, z_star, z_starK, z_starK2, z_seqL, z_seqT, z_seqR, z_I, z_I0, z_mul, z_mulT, z_mulL, z_tupleR, z_tupM, z_lenP, z_lenM, z_add, z_addS, z_addL, z_addT, z_eqI, z_neI, z_eqB, z_neB, z_eqS, z_neS, z_isN, z_notN, z_ixL, z_ixT, z_ixR, z_ixM, z_atK, z_lenL, z_lenT, z_lenR, z_lenS, z_listL, z_listR, z_listT, z_tupleL, z_tupleT, z_sl, z_slK1, z_slK2, z_slK3, z_oNone, z_oSome, z_oK, z_slT, z_slL, z_slR, z_r1, z_r1K, z_r2, z_r2K, z_zip, z_zipL, z_zipT, z_iseq, z_meth, z_methK, z_methK2, z_app, z_appM, z_lc, isNon, Bool.not_true, Bool.not_false, z_at0, z_at1, z_at2, z_at3, z_mulS, z_okStr, z_join, z_intB, z_intI, z_dnew, z_setD, z_setD1, z_listD, z_listD1, z_par, z_parK, z_rev, z_revK, z_sum, z_max, z_disp2, z_back, z_backK, z_backK2, z_maxD, z_maxK, z_maxK2, z_dg, z_dgK, z_dgK2, z_dgM, List.set_cons_zero, List.set_cons_succ])
  rw [ds_rev]
  refine lc_map (f := fun s => (revS s).d) (by have := hb.1; rw [List.length_reverse]; omega) (fun s hs M q2 h2 => ?_) ?_
  · (try simp only [z_seq, z_next, z_brk, z_cont, z_asg, z_asgK, z_gN, z_gSeq, z_gSeqL, z_gcons, z_gconsK, z_gnil, z_gsub, z_subK1, z_subK2, z_subK3, z_set, z_set1, z_set2, z_ret, z_retN, z_drop, z_dropK, z_if, z_brT, z_brF, z_for, z_forK, z_loop0, z_loop1, z_loopK, z_var0, z_varS, z_c, z_bin, z_binK1, z_binK2, z_test, z_asB, z_and, z_andT, z_andF, z_or, z_orT, z_orF, z_not, z_notK, z_andV, z_andVT, z_andVF, z_orV, z_orVT, z_orVF, z_notV, z_notVK, z_ifE, z_ifT, z_ifF, z_nil, z_cons, z_consK, z_consK2, z_tup, z_tupK, z_lst, z_lstK, z_un, z_unK, z_neg, z_cb, z_cbK, z_call, z_callK, z_star, z_starK, z_starK2, z_seqL, z_seqT, z_seqR, z_I, z_I0, z_mul, z_mulT, z_mulL, z_tupleR, z_tupM, z_lenP, z_lenM, z_add, z_addS, z_addL, z_addT, z_eqI, z_neI, z_eqB, z_neB, z_eqS, z_neS, z_isN, z_notN, z_ixL, z_ixT, z_ixR, z_ixM, z_atK, z_lenL, z_lenT, z_lenR, z_lenS, z_listL, z_listR, z_listT, z_tupleL, z_tupleT, z_sl, z_slK1, z_slK2, z_slK3, z_oNone, z_oSome, z_oK, z_slT, z_slL, z_slR, z_r1, z_r1K, z_r2, z_r2K, z_zip, z_zipL, z_zipT, z_iseq, z_meth, z_methK, z_methK2, z_app, z_appM, z_lc, isNon, Bool.not_true, Bool.not_false, z_at0, z_at1, z_at2, z_at3, z_mulS, z_okStr, z_join, z_intB, z_intI, z_dnew, z_setD, z_setD1, z_listD, z_listD1, z_par, z_parK, z_rev, z_revK, z_sum, z_max, z_disp2, z_back, z_backK, z_backK2, z_maxD, z_maxK, z_maxK2, z_dg, z_dgK, z_dgK2, z_dgM, List.set_cons_zero, List.set_cons_succ, wipeD])
    obtain ⟨n, rfl⟩ : ∃ j, n = j + 1 := ⟨n - 1, by omega⟩
    exact ⟨_, ⟨s, L, m, rfl, hb.2 s (List.mem_reverse.mp hs), hL, by omega, rfl⟩, h2⟩
  · (try simp only [z_seq, z_next, z_brk, z_cont, z_asg, z_asgK, z_gN, z_gSeq, z_gSeqL, z_gcons, z_gconsK, z_gnil, z_gsub, z_subK1, z_subK2, z_subK3, z_set, z_set1, z_set2, z_ret, z_retN, z_drop, z_dropK, z_if, z_brT, z_brF, z_for, z_forK, z_loop0, z_loop1, z_loopK, z_var0, z_varS, z_c, z_bin, z_binK1, z_binK2, z_test, z_asB, z_and, z_andT, z_andF, z_or, z_orT, z_orF, z_not, z_notK, z_andV, z_andVT, z_andVF, z_orV, z_orVT, z_orVF, z_notV, z_notVK, z_ifE, z_ifT, z_ifF, z_nil, z_cons, z_consK, z_consK2, z_tup, z_tupK, z_lst, z_lstK, z_un, z_unK, z_neg, z_cb, z_cbK, z_call, z_callK, z_star, z_starK, z_starK2, z_seqL, z_seqT, z_seqR, z_I, z_I0, z_mul, z_mulT, z_mulL, z_tupleR, z_tupM, z_lenP, z_lenM, z_add, z_addS, z_addL, z_addT, z_eqI, z_neI, z_eqB, z_neB, z_eqS, z_neS, z_isN, z_notN, z_ixL, z_ixT, z_ixR, z_ixM, z_atK, z_lenL, z_lenT, z_lenR, z_lenS, z_listL, z_listR, z_listT, z_tupleL, z_tupleT, z_sl, z_slK1, z_slK2, z_slK3, z_oNone, z_oSome, z_oK, z_slT, z_slL, z_slR, z_r1, z_r1K, z_r2, z_r2K, z_zip, z_zipL, z_zipT, z_iseq, z_meth, z_methK, z_methK2, z_app, z_appM, z_lc, isNon, Bool.not_true, Bool.not_false, z_at0, z_at1, z_at2, z_at3, z_mulS, z_okStr, z_join, z_intB, z_intI, z_dnew, z_setD, z_setD1, z_listD, z_listD1, z_par, z_parK, z_rev, z_revK, z_sum, z_max, z_disp2, z_back, z_backK, z_backK2, z_maxD, z_maxK, z_maxK2, z_dg, z_dgK, z_dgK2, z_dgM, List.set_cons_zero, List.set_cons_succ])
    rw [ds_map, rev_map, List.map_map] at q
    exact q
theorem s_ne {a b : Str} (h : decide (a = b) = false) : (a == b) = false := by
  have := of_decide_eq_false h
  simpa using this
theorem main__reverse_of (n : Nat) : ∀ ds M k, sp__reverse_of_ (n + 1) ds M k (fun _ _ _ => False) → c__reverse_of (sp_reverse_ n) (sp__reverse_of_ n) { nx := fun _ M' => k .non M', rt := k } (startD 2 ds) M := by
  rintro ds M k ⟨r, ⟨s, L, m, rfl, hs, hL, hm, rfl⟩, q⟩
  show c__reverse_of _ _ _ [some s.d, none] M
  unfold c__reverse_of
  cases s with
  | go v =>
    have hv : v.length ≤ 1000 := by cases m <;> exact hs
    unfold St.d
    (try simp only [z_seq, z_next, z_brk, z_cont, z_asg, z_asgK, z_gN, z_gSeq, z_gSeqL, z_gcons, z_gconsK, z_gnil, z_gsub, z_subK1, z_subK2, z_subK3, z_set, z_set1, z_set2, z_ret, z_retN, z_drop, z_dropK, z_if, z_brT, z_brF, z_for, z_forK, z_loop0, z_loop1, z_loopK, z_var0, z_varS, z_c, z_bin, z_binK1, z_binK2, z_test, z_asB, z_and, z_andT, z_andF, z_or, z_orT, z_orF, z_not, z_notK, z_andV, z_andVT, z_andVF, z_orV, z_orVT, z_orVF, z_notV, z_notVK, z_ifE, z_ifT, z_ifF, z_nil, z_cons, z_consK, z_consK2, z_tup, z_tupK, z_lst, z_lstK, z_un, z_unK, z_neg, z_cb, z_cbK, z_call, z_callK, z_star, z_starK, z_starK2, z_seqL, z_seqT, z_seqR, z_I, z_I0, z_mul, z_mulT, z_mulL, z_tupleR, z_tupM, z_lenP, z_lenM, z_add, z_addS, z_addL, z_addT, z_eqI, z_neI, z_eqB, z_neB, z_eqS, z_neS, z_isN, z_notN, z_ixL, z_ixT, z_ixR, z_ixM, z_atK, z_lenL, z_lenT, z_lenR, z_lenS, z_listL, z_listR, z_listT, z_tupleL, z_tupleT, z_sl, z_slK1, z_slK2, z_slK3, z_oNone, z_oSome, z_oK, z_slT, z_slL, z_slR, z_r1, z_r1K, z_r2, z_r2K, z_zip, z_zipL, z_zipT, z_iseq, z_meth, z_methK, z_methK2, z_app, z_appM, z_lc, isNon, Bool.not_true, Bool.not_false, z_at0, z_at1, z_at2, z_at3, z_mulS, z_okStr, z_join, z_intB, z_intI, z_dnew, z_setD, z_setD1, z_listD, z_listD1, z_par, z_parK, z_rev, z_revK, z_sum, z_max, z_disp2, z_back, z_backK, z_backK2, z_maxD, z_maxK, z_maxK2, z_dg, z_dgK, z_dgK2, z_dgM, List.set_cons_zero, List.set_cons_succ, show ((("go" : Str) == ("go" : Str)) = true) from by decide +kernel])
    refine ⟨_, ⟨v, rfl, by omega, rfl⟩, ?_⟩
    (try simp only [z_seq, z_next, z_brk, z_cont, z_asg, z_asgK, z_gN, z_gSeq, z_gSeqL, z_gcons, z_gconsK, z_gnil, z_gsub, z_subK1, z_subK2, z_subK3, z_set, z_set1, z_set2, z_ret, z_retN, z_drop, z_dropK, z_if, z_brT, z_brF, z_for, z_forK, z_loop0, z_loop1, z_loopK, z_var0, z_varS, z_c, z_bin, z_binK1, z_binK2, z_test, z_asB, z_and, z_andT, z_andF, z_or, z_orT, z_orF, z_not, z_notK, z_andV, z_andVT, z_andVF, z_orV, z_orVT, z_orVF, z_notV, z_notVK, z_ifE, z_ifT, z_ifF, z_nil, z_cons, z_consK, z_consK2, z_tup, z_tupK, z_lst, z_lstK, z_un, z_unK, z_neg, z_cb, z_cbK, z_call, z_callK, z_star, z_starK, z_starK2, z_seqL, z_seqT, z_seqR, z_I, z_I0, z_mul, z_mulT, z_mulL, z_tupleR, z_tupM, z_lenP, z_lenM, z_add, z_addS, z_addL, z_addT, z_eqI, z_neI, z_eqB, z_neB, z_eqS, z_neS, z_isN, z_notN, z_ixL, z_ixT, z_ixR, z_ixM, z_atK, z_lenL, z_lenT, z_lenR, z_lenS, z_listL, z_listR, z_listT, z_tupleL, z_tupleT, z_sl, z_slK1, z_slK2, z_slK3, z_oNone, z_oSome, z_oK, z_slT, z_slL, z_slR, z_r1, z_r1K, z_r2, z_r2K, z_zip, z_zipL, z_zipT, z_iseq, z_meth, z_methK, z_methK2, z_app, z_appM, z_lc, isNon, Bool.not_true, Bool.not_false, z_at0, z_at1, z_at2, z_at3, z_mulS, z_okStr, z_join, z_intB, z_intI, z_dnew, z_setD, z_setD1, z_listD, z_listD1, z_par, z_parK, z_rev, z_revK, z_sum, z_max, z_disp2, z_back, z_backK, z_backK2, z_maxD, z_maxK, z_maxK2, z_dg, z_dgK, z_dgK2, z_dgM, List.set_cons_zero, List.set_cons_succ])
    rw [neg_scale]
    exact ⟨(size1M (Nat.le_of_ble_eq_true rfl)), q⟩
  | put i =>
    unfold St.d
    (try simp only [z_seq, z_next, z_brk, z_cont, z_asg, z_asgK, z_gN, z_gSeq, z_gSeqL, z_gcons, z_gconsK, z_gnil, z_gsub, z_subK1, z_subK2, z_subK3, z_set, z_set1, z_set2, z_ret, z_retN, z_drop, z_dropK, z_if, z_brT, z_brF, z_for, z_forK, z_loop0, z_loop1, z_loopK, z_var0, z_varS, z_c, z_bin, z_binK1, z_binK2, z_test, z_asB, z_and, z_andT, z_andF, z_or, z_orT, z_orF, z_not, z_notK, z_andV, z_andVT, z_andVF, z_orV, z_orVT, z_orVF, z_notV, z_notVK, z_ifE, z_ifT, z_ifF, z_nil, z_cons, z_consK, z_consK2, z_tup, z_tupK, z_lst, z_lstK, z_un, z_unK, z_neg, z_cb, z_cbK, z_call, z_callK, z_star, z_starK, z_starK2, z_seqL, z_seqT, z_seqR, z_I, z_I0, z_mul, z_mulT, z_mulL, z_tupleR, z_tupM, z_lenP, z_lenM, z_add, z_addS, z_addL, z_addT, z_eqI, z_neI, z_eqB, z_neB, z_eqS, z_neS, z_isN, z_notN, z_ixL, z_ixT, z_ixR, z_ixM, z_atK, z_lenL, z_lenT, z_lenR, z_lenS, z_listL, z_listR, z_listT, z_tupleL, z_tupleT, z_sl, z_slK1, z_slK2, z_slK3, z_oNone, z_oSome, z_oK, z_slT, z_slL, z_slR, z_r1, z_r1K, z_r2, z_r2K, z_zip, z_zipL, z_zipT, z_iseq, z_meth, z_methK, z_methK2, z_app, z_appM, z_lc, isNon, Bool.not_true, Bool.not_false, z_at0, z_at1, z_at2, z_at3, z_mulS, z_okStr, z_join, z_intB, z_intI, z_dnew, z_setD, z_setD1, z_listD, z_listD1, z_par, z_parK, z_rev, z_revK, z_sum, z_max, z_disp2, z_back, z_backK, z_backK2, z_maxD, z_maxK, z_maxK2, z_dg, z_dgK, z_dgK2, z_dgM, List.set_cons_zero, List.set_cons_succ, show ((("put" : Str) == ("go" : Str)) = false) from by decide +kernel, show ((("put" : Str) == ("put" : Str)) = true) from by decide +kernel])
    exact ⟨(size1M (Nat.le_of_ble_eq_true rfl)), q⟩
  | call u nm =>
    unfold St.d
    cases u with
    | false =>
      unfold callW
      (try simp only [z_seq, z_next, z_brk, z_cont, z_asg, z_asgK, z_gN, z_gSeq, z_gSeqL, z_gcons, z_gconsK, z_gnil, z_gsub, z_subK1, z_subK2, z_subK3, z_set, z_set1, z_set2, z_ret, z_retN, z_drop, z_dropK, z_if, z_brT, z_brF, z_for, z_forK, z_loop0, z_loop1, z_loopK, z_var0, z_varS, z_c, z_bin, z_binK1, z_binK2, z_test, z_asB, z_and, z_andT, z_andF, z_or, z_orT, z_orF, z_not, z_notK, z_andV, z_andVT, z_andVF, z_orV, z_orVT, z_orVF, z_notV, z_notVK, z_ifE, z_ifT, z_ifF, z_nil, z_cons, z_consK, z_consK2, z_tup, z_tupK, z_lst, z_lstK, z_un, z_unK, z_neg, z_cb, z_cbK, z_call, z_callK, z_star, z_starK, z_starK2, z_seqL, z_seqT, z_seqR, z_I, z_I0, z_mul, z_mulT, z_mulL, z_tupleR, z_tupM, z_lenP, z_lenM, z_add, z_addS, z_addL, z_addT, z_eqI, z_neI, z_eqB, z_neB, z_eqS, z_neS, z_isN, z_notN, z_ixL, z_ixT, z_ixR, z_ixM, z_atK, z_lenL, z_lenT, z_lenR, z_lenS, z_listL, z_listR, z_listT, z_tupleL, z_tupleT, z_sl, z_slK1, z_slK2, z_slK3, z_oNone, z_oSome, z_oK, z_slT, z_slL, z_slR, z_r1, z_r1K, z_r2, z_r2K, z_zip, z_zipL, z_zipT, z_iseq, z_meth, z_methK, z_methK2, z_app, z_appM, z_lc, isNon, Bool.not_true, Bool.not_false, z_at0, z_at1, z_at2, z_at3, z_mulS, z_okStr, z_join, z_intB, z_intI, z_dnew, z_setD, z_setD1, z_listD, z_listD1, z_par, z_parK, z_rev, z_revK, z_sum, z_max, z_disp2, z_back, z_backK, z_backK2, z_maxD, z_maxK, z_maxK2, z_dg, z_dgK, z_dgK2, z_dgM, List.set_cons_zero, List.set_cons_succ, reduceIte, Bool.false_eq_true, show ((("do" : Str) == ("go" : Str)) = false) from by decide +kernel, show ((("do" : Str) == ("put" : Str)) = false) from by decide +kernel, show ((("do" : Str) == ("do" : Str)) = true) from by decide +kernel])
      exact ⟨(size1M (Nat.le_of_ble_eq_true rfl)), q⟩
    | true =>
      unfold callW
      (try simp only [z_seq, z_next, z_brk, z_cont, z_asg, z_asgK, z_gN, z_gSeq, z_gSeqL, z_gcons, z_gconsK, z_gnil, z_gsub, z_subK1, z_subK2, z_subK3, z_set, z_set1, z_set2, z_ret, z_retN, z_drop, z_dropK, z_if, z_brT, z_brF, z_for, z_forK, z_loop0, z_loop1, z_loopK, z_var0, z_varS, z_c, z_bin, z_binK1, z_binK2, z_test, z_asB, z_and, z_andT, z_andF, z_or, z_orT, z_orF, z_not, z_notK, z_andV, z_andVT, z_andVF, z_orV, z_orVT, z_orVF, z_notV, z_notVK, z_ifE, z_ifT, z_ifF, z_nil, z_cons, z_consK, z_consK2, z_tup, z_tupK, z_lst, z_lstK, z_un, z_unK, z_neg, z_cb, z_cbK, z_call, z_callK, z_star, z_starK, z_starK2, z_seqL, z_seqT, z_seqR, z_I, z_I0, z_mul, z_mulT, z_mulL, z_tupleR, z_tupM, z_lenP, z_lenM, z_add, z_addS, z_addL, z_addT, z_eqI, z_neI, z_eqB, z_neB, z_eqS, z_neS, z_isN, z_notN, z_ixL, z_ixT, z_ixR, z_ixM, z_atK, z_lenL, z_lenT, z_lenR, z_lenS, z_listL, z_listR, z_listT, z_tupleL, z_tupleT, z_sl, z_slK1, z_slK2, z_slK3, z_oNone, z_oSome, z_oK, z_slT, z_slL, z_slR, z_r1, z_r1K, z_r2, z_r2K, z_zip, z_zipL, z_zipT, z_iseq, z_meth, z_methK, z_methK2, z_app, z_appM, z_lc, isNon, Bool.not_true, Bool.not_false, z_at0, z_at1, z_at2, z_at3, z_mulS, z_okStr, z_join, z_intB, z_intI, z_dnew, z_setD, z_setD1, z_listD, z_listD1, z_par, z_parK, z_rev, z_revK, z_sum, z_max, z_disp2, z_back, z_backK, z_backK2, z_maxD, z_maxK, z_maxK2, z_dg, z_dgK, z_dgK2, z_dgM, List.set_cons_zero, List.set_cons_succ, reduceIte, show ((("undo" : Str) == ("go" : Str)) = false) from by decide +kernel, show ((("undo" : Str) == ("put" : Str)) = false) from by decide +kernel, show ((("undo" : Str) == ("do" : Str)) = false) from by decide +kernel, show ((("undo" : Str) == ("undo" : Str)) = true) from by decide +kernel])
      exact ⟨(size1M (Nat.le_of_ble_eq_true rfl)), q⟩
  | rep i b =>
    unfold St.d
    (try simp only [z_seq, z_next, z_brk, z_cont, z_asg, z_asgK, z_gN, z_gSeq, z_gSeqL, z_gcons, z_gconsK, z_gnil, z_gsub, z_subK1, z_subK2, z_subK3, z_set, z_set1, z_set2, z_ret, z_retN, z_drop, z_dropK, z_if, z_brT, z_brF, z_for, z_forK, z_loop0, z_loop1, z_loopK, z_var0, z_varS, z_c, z_bin, z_binK1, z_binK2, z_test, z_asB, z_and, z_andT, z_andF, z_or, z_orT, z_orF, z_not, z_notK, z_andV, z_andVT, z_andVF, z_orV, z_orVT, z_orVF, z_notV, z_notVK, z_ifE, z_ifT, z_ifF, z_nil, z_cons, z_consK, z_consK2, z_tup, z_tupK, z_lst, z_lstK, z_un, z_unK, z_neg, z_cb, z_cbK, z_call, z_callK, z_star, z_starK, z_starK2, z_seqL, z_seqT, z_seqR, z_I, z_I0, z_mul, z_mulT, z_mulL, z_tupleR, z_tupM, z_lenP, z_lenM, z_add, z_addS, z_addL, z_addT, z_eqI, z_neI, z_eqB, z_neB, z_eqS, z_neS, z_isN, z_notN, z_ixL, z_ixT, z_ixR, z_ixM, z_atK, z_lenL, z_lenT, z_lenR, z_lenS, z_listL, z_listR, z_listT, z_tupleL, z_tupleT, z_sl, z_slK1, z_slK2, z_slK3, z_oNone, z_oSome, z_oK, z_slT, z_slL, z_slR, z_r1, z_r1K, z_r2, z_r2K, z_zip, z_zipL, z_zipT, z_iseq, z_meth, z_methK, z_methK2, z_app, z_appM, z_lc, isNon, Bool.not_true, Bool.not_false, z_at0, z_at1, z_at2, z_at3, z_mulS, z_okStr, z_join, z_intB, z_intI, z_dnew, z_setD, z_setD1, z_listD, z_listD1, z_par, z_parK, z_rev, z_revK, z_sum, z_max, z_disp2, z_back, z_backK, z_backK2, z_maxD, z_maxK, z_maxK2, z_dg, z_dgK, z_dgK2, z_dgM, List.set_cons_zero, List.set_cons_succ, show ((("repeat" : Str) == ("go" : Str)) = false) from by decide +kernel, show ((("repeat" : Str) == ("put" : Str)) = false) from by decide +kernel, show ((("repeat" : Str) == ("do" : Str)) = false) from by decide +kernel, show ((("repeat" : Str) == ("undo" : Str)) = false) from by decide +kernel])
    obtain ⟨n, rfl⟩ : ∃ j, n = j + 1 := ⟨n - 1, by omega⟩
    cases m with
    | zero => exact hs.elim
    | succ m =>
      refine ⟨_, ⟨b, L, m, rfl, hs, hL, by omega, rfl⟩, ?_⟩
      (try simp only [z_seq, z_next, z_brk, z_cont, z_asg, z_asgK, z_gN, z_gSeq, z_gSeqL, z_gcons, z_gconsK, z_gnil, z_gsub, z_subK1, z_subK2, z_subK3, z_set, z_set1, z_set2, z_ret, z_retN, z_drop, z_dropK, z_if, z_brT, z_brF, z_for, z_forK, z_loop0, z_loop1, z_loopK, z_var0, z_varS, z_c, z_bin, z_binK1, z_binK2, z_test, z_asB, z_and, z_andT, z_andF, z_or, z_orT, z_orF, z_not, z_notK, z_andV, z_andVT, z_andVF, z_orV, z_orVT, z_orVF, z_notV, z_notVK, z_ifE, z_ifT, z_ifF, z_nil, z_cons, z_consK, z_consK2, z_tup, z_tupK, z_lst, z_lstK, z_un, z_unK, z_neg, z_cb, z_cbK, z_call, z_callK, z_star, z_starK, z_starK2, z_seqL, z_seqT, z_seqR, z_I, z_I0, z_mul, z_mulT, z_mulL, z_tupleR, z_tupM, z_lenP, z_lenM, z_add, z_addS, z_addL, z_addT, z_eqI, z_neI, z_eqB, z_neB, z_eqS, z_neS, z_isN, z_notN, z_ixL, z_ixT, z_ixR, z_ixM, z_atK, z_lenL, z_lenT, z_lenR, z_lenS, z_listL, z_listR, z_listT, z_tupleL, z_tupleT, z_sl, z_slK1, z_slK2, z_slK3, z_oNone, z_oSome, z_oK, z_slT, z_slL, z_slR, z_r1, z_r1K, z_r2, z_r2K, z_zip, z_zipL, z_zipT, z_iseq, z_meth, z_methK, z_methK2, z_app, z_appM, z_lc, isNon, Bool.not_true, Bool.not_false, z_at0, z_at1, z_at2, z_at3, z_mulS, z_okStr, z_join, z_intB, z_intI, z_dnew, z_setD, z_setD1, z_listD, z_listD1, z_par, z_parK, z_rev, z_revK, z_sum, z_max, z_disp2, z_back, z_backK, z_backK2, z_maxD, z_maxK, z_maxK2, z_dg, z_dgK, z_dgK2, z_dgM, List.set_cons_zero, List.set_cons_succ])
      exact ⟨(size1M (Nat.le_of_ble_eq_true rfl)), q⟩
theorem okg_reverse {P : Program} {w : World} {K : PySem.W.Frag} {mg : Str → Option Value} {base : Heap} {f_reverse : Addr} {fd_reverse : FuncData} (F_reverse : L2.Fun K "reverse" "reverse" s_reverse f_reverse fd_reverse) (gm_reverse : mg "reverse" = some (.ref f_reverse)) (b_reverse : Binds K fd_reverse ["block"] []) {f__reverse_of : Addr} {fd__reverse_of : FuncData} (F__reverse_of : L2.Fun K "_reverse_of" "_reverse_of" s__reverse_of f__reverse_of fd__reverse_of) (gm__reverse_of : mg "_reverse_of" = some (.ref f__reverse_of)) (b__reverse_of : Binds K fd__reverse_of ["statement"] []) (h_opposite : Has P w K mg base 2 "opposite" sp_opposite) (z_reversed : mg "reversed" = none) (z_tuple : mg "tuple" = none) : ∀ n : Nat, Has P w K mg base (2 + n) "reverse" (sp_reverse_ n) ∧ Has P w K mg base (2 + n) "_reverse_of" (sp__reverse_of_ n)
  | 0 => ⟨⟨⟨f_reverse, gm_reverse, F_reverse.kp, fun A outer s H us vs Q E _ _ _ h => by obtain ⟨_, _, _, _, _, q⟩ := h; exact q.elim⟩, fun _ _ _ _ _ _ _ _ h => h.elim⟩, ⟨⟨f__reverse_of, gm__reverse_of, F__reverse_of.kp, fun A outer s H us vs Q E _ _ _ h => by obtain ⟨_, _, _, _, _, q⟩ := h; exact q.elim⟩, fun _ _ _ _ _ _ _ _ h => h.elim⟩⟩
  | n + 1 => by
    obtain ⟨h_reverse, h__reverse_of⟩ := okg_reverse (P := P) (w := w) (base := base) F_reverse gm_reverse b_reverse F__reverse_of gm__reverse_of b__reverse_of h_opposite z_reversed z_tuple n
    refine ⟨?g_reverse, ?g__reverse_of⟩
    case g_reverse => exact (Has.mk' (k := 2 + n) (c := c_reverse (sp_reverse_ n) (sp__reverse_of_ n)) gm_reverse F_reverse b_reverse sc_reverse (fun ds M k E h => by first | (obtain ⟨_, _, rfl | ⟨_, rfl, _⟩, _⟩ := h <;> rfl) | (obtain ⟨_, _, _, _, _, rfl, _⟩ := h; rfl) | (obtain ⟨_, ⟨_, _, _, _, rfl, _⟩, _⟩ := h; rfl) | (obtain ⟨_, ⟨_, _, _, _, _, rfl, _⟩, _⟩ := h; rfl) | (obtain ⟨_, rfl, _⟩ := h <;> rfl) | (obtain ⟨_, _, rfl, _⟩ := h <;> rfl) | (obtain ⟨_, _, _, rfl, _⟩ := h <;> rfl) | (obtain ⟨_, _, _, _, rfl, _⟩ := h <;> rfl) | (obtain ⟨_, ⟨_, rfl, _⟩, _⟩ := h <;> rfl) | (obtain ⟨_, ⟨_, _, rfl, _⟩, _⟩ := h <;> rfl) | (obtain ⟨_, ⟨_, _, _, rfl, _⟩, _⟩ := h <;> rfl) | (obtain ⟨_, ⟨_, rfl, _⟩ | ⟨_, rfl, _⟩, _⟩ := h <;> rfl)) (fun cdv A outer s H E hr => (pssd_one (psd_ret (pd_callTy cd_tuple (by rfl) z_tuple (by decide +kernel) (pad_cons (pd_lc (g := (gN 1)) (own := [("statement", 1)]) rfl sc_reverse.nd (pid_rev (by rfl) z_reversed (pd_var (pv 0))) (blkOk_by (N := N_reverse) (sc := defScope s_reverse) (by decide +kernel)) mono_gN (tg_name (i := 1) (by decide)) (fun _ _ _ _ _ => pg_name (i := 1) sc_reverse.nd rfl (Or.inl rfl)) (fun _ _ _ _ _ => ptsd_nil) (fun _ _ _ _ _ => (pd_callH h__reverse_of (hr.mono (by first | decide | omega)) (pad_cons (pd_var (pv 1)) pad_nil)))) pad_nil))))) (main_reverse n) (mono_reverse_ n)).imp (fun _ _ _ _ h => h) (mono_reverse_ n)
    case g__reverse_of => exact (Has.mk' (k := 2 + n) (c := c__reverse_of (sp_reverse_ n) (sp__reverse_of_ n)) gm__reverse_of F__reverse_of b__reverse_of sc__reverse_of (fun ds M k E h => by first | (obtain ⟨_, _, rfl | ⟨_, rfl, _⟩, _⟩ := h <;> rfl) | (obtain ⟨_, _, _, _, _, rfl, _⟩ := h; rfl) | (obtain ⟨_, ⟨_, _, _, _, rfl, _⟩, _⟩ := h; rfl) | (obtain ⟨_, ⟨_, _, _, _, _, rfl, _⟩, _⟩ := h; rfl) | (obtain ⟨_, rfl, _⟩ := h <;> rfl) | (obtain ⟨_, _, rfl, _⟩ := h <;> rfl) | (obtain ⟨_, _, _, rfl, _⟩ := h <;> rfl) | (obtain ⟨_, _, _, _, rfl, _⟩ := h <;> rfl) | (obtain ⟨_, ⟨_, rfl, _⟩, _⟩ := h <;> rfl) | (obtain ⟨_, ⟨_, _, rfl, _⟩, _⟩ := h <;> rfl) | (obtain ⟨_, ⟨_, _, _, rfl, _⟩, _⟩ := h <;> rfl) | (obtain ⟨_, ⟨_, rfl, _⟩ | ⟨_, rfl, _⟩, _⟩ := h <;> rfl)) (fun cdv A outer s H E hr => (pssd_cons (psd_set (i := 1) sc__reverse_of.nd rfl (Or.inl rfl) (pd_ix xd_seq (pd_var (pv 0)) pd_int (fun _ _ => rfl)))
      (pssd_cons (psd_if (ptd_cmp od_eq (pd_var (pv 1)) pd_str (nomark _)) (pssd_one (psd_ret (pd_tup (pad_cons pd_str (pad_cons (pd_callH h_opposite (hr.mono (by first | decide | omega)) (pad_cons (pd_ix xd_seq (pd_var (pv 0)) pd_int (fun _ _ => rfl)) pad_nil)) pad_nil))))) pssd_nil)
      (pssd_cons (psd_if (ptd_cmp od_eq (pd_var (pv 1)) pd_str (nomark _)) (pssd_one (psd_ret (pd_tup (pad_cons pd_str (pad_cons (pd_un ud_neg (pd_ix xd_seq (pd_var (pv 0)) pd_int (fun _ _ => rfl))) pad_nil))))) pssd_nil)
      (pssd_cons (psd_if (ptd_cmp od_eq (pd_var (pv 1)) pd_str (nomark _)) (pssd_one (psd_ret (pd_tup (pad_cons pd_str (pad_cons (pd_ix xd_seq (pd_var (pv 0)) pd_int (fun _ _ => rfl)) pad_nil))))) pssd_nil)
      (pssd_cons (psd_if (ptd_cmp od_eq (pd_var (pv 1)) pd_str (nomark _)) (pssd_one (psd_ret (pd_tup (pad_cons pd_str (pad_cons (pd_ix xd_seq (pd_var (pv 0)) pd_int (fun _ _ => rfl)) pad_nil))))) pssd_nil)
      (pssd_one (psd_ret (pd_tup (pad_cons pd_str (pad_cons (pd_ix xd_seq (pd_var (pv 0)) pd_int (fun _ _ => rfl)) (pad_cons (pd_callH h_reverse (hr.mono (by first | decide | omega)) (pad_cons (pd_ix xd_seq (pd_var (pv 0)) pd_int (fun _ _ => rfl)) pad_nil)) pad_nil)))))))))))) (main__reverse_of n) (mono__reverse_of_ n)).imp (fun _ _ _ _ h => h) (mono__reverse_of_ n)
/-! counted -/
mutual
def cntS : St → Option Int
  | .rep _ b => some (b.length + (cntL b).sum)
  | _ => none
def cntL : List St → List Int
  | [] => []
  | s :: b => (cntS s).toList ++ cntL b
end
def count (b : List St) : Int := b.length + (cntL b).sum
theorem cnt_map : ∀ b : List St, b.filterMap (fun s => (cntS s).map D.int) = (cntL b).map D.int
  | [] => by simp [cntL]
  | s :: b => by
    cases e : cntS s with
    | none => rw [List.filterMap_cons_none (by rw [e]; rfl), cnt_map b]; simp [cntL, e]
    | some i => rw [List.filterMap_cons_some (b := .int i) (by rw [e]; rfl), cnt_map b]; simp [cntL, e]
def spCount : Nat → SpD := spN fun n => spP fun ds r => ∃ (b : List St) (L m : Nat), ds = [.tup (St.ds b)] ∧ OkB (fun _ => True) L m b ∧ L ≤ 1000 ∧ m + 1 ≤ n ∧ r = .int (count b)
abbrev sp_statements_ := spCount
abbrev sp__law_count_ := spCount
abbrev mono_statements_ (n : Nat) : MonoS (sp_statements_ (n + 1)) := mono_P
abbrev mono__law_count_ (n : Nat) : MonoS (sp__law_count_ (n + 1)) := mono_P
def c_statements (sp_statements : SpD) : CS :=
  (cSeq (cAsg (cLc (ciSeq (cVar 0)) (gN 2) (cTest (cBin ρEq (cBin ρIx (cVar 2) (cC (.int 0))) (cC (.str "repeat")))) (cCall (NoX sp_statements) (cCons (cBin ρIx (cVar 2) (cC (.int 2))) cNil)) [2]) (gN 1))
    (cRet (cBin ρAdd (cCB ρLen (cCons (cVar 0) cNil)) (cCB ρSum (cCons (cVar 1) cNil)))))
def c__law_count (sp__law_count : SpD) : CS :=
  (cRet (cBin ρAdd (cCB ρLen (cCons (cVar 0) cNil)) (cCB ρSum (cCons (cLc (ciSeq (cVar 0)) (gN 1) (cTest (cBin ρEq (cBin ρIx (cVar 1) (cC (.int 0))) (cC (.str "repeat")))) (cCall (NoX sp__law_count) (cCons (cBin ρIx (cVar 1) (cC (.int 2))) cNil)) [1]) cNil))))
theorem main_statements (n : Nat) : ∀ ds M k, sp_statements_ (n + 1) ds M k (fun _ _ _ => False) → c_statements (sp_statements_ n) { nx := fun _ M' => k .non M', rt := k } (startD 3 ds) M := by
  rintro ds M k ⟨r, ⟨b, L, m, rfl, hb, hL, hm, rfl⟩, q⟩
  show c_statements _ _ [some (.tup (St.ds b)), none, none] M
  unfold c_statements
  (try simp only [z_seq, z_next, z_brk, z_cont, z_asg, z_asgK, z_gN, z_gSeq, z_gSeqL, z_gcons, z_gconsK, z_gnil, z_gsub, z_subK1, z_subK2, z_subK3, z_set, z_set1, z_set2, z_ret, z_retN, z_drop, z_dropK, z_if, z_brT, z_brF, z_for, z_forK, z_loop0, z_loop1, z_loopK, z_var0, z_varS, z_c, z_bin, z_binK1, z_binK2, z_test, z_asB, z_and, z_andT, z_andF, z_or, z_orT, z_orF, z_not, z_notK, z_andV, z_andVT, z_andVF, z_orV, z_orVT, z_orVF, z_notV, z_notVK, z_ifE, z_ifT, z_ifF, z_nil, z_cons, z_consK, z_consK2, z_tup, z_tupK, z_lst, z_lstK, z_un, z_unK, z_neg, z_cb, z_cbK, z_call, z_callK, z_star, z_starK, z_starK2, z_seqL, z_seqT, z_seqR, z_I, z_I0, z_mul, z_mulT, z_mulL, z_tupleR, z_tupM, z_lenP, z_lenM, z_add, z_addS, z_addL, z_addT, z_eqI, z_neI, z_eqB, z_neB, z_eqS, z_neS, z_isN, z_notN, z_ixL, z_ixT, z_ixR, z_ixM, z_atK, z_lenL, z_lenT, z_lenR, z_lenS, z_listL, z_listR, z_listT, z_tupleL, z_tupleT, z_sl, z_slK1, z_slK2, z_slK3, z_oNone, z_oSome, z_oK, z_slT, z_slL, z_slR, z_r1, z_r1K, z_r2, z_r2K, z_zip, z_zipL, z_zipT, z_iseq, z_meth, z_methK, z_methK2, z_app, z_appM, z_lc, isNon, Bool.not_true, Bool.not_false, z_at0, z_at1, z_at2, z_at3, z_mulS, z_okStr, z_join, z_intB, z_intI, z_dnew, z_setD, z_setD1, z_listD, z_listD1, z_par, z_parK, z_rev, z_revK, z_sum, z_max, z_disp2, z_back, z_backK, z_backK2, z_maxD, z_maxK, z_maxK2, z_dg, z_dgK, z_dgK2, z_dgM, List.set_cons_zero, List.set_cons_succ])
  have hl : b.length ≤ 1000 := by have := hb.1; omega
  rw [ds_map b]
  refine lc_mapF (f := fun s => (cntS s).map D.int) (by omega) (fun s hs M q1 q0 h1 h0 => ?_) ?_
  · cases s with
    | rep i bb =>
      unfold St.d
      (try simp only [z_seq, z_next, z_brk, z_cont, z_asg, z_asgK, z_gN, z_gSeq, z_gSeqL, z_gcons, z_gconsK, z_gnil, z_gsub, z_subK1, z_subK2, z_subK3, z_set, z_set1, z_set2, z_ret, z_retN, z_drop, z_dropK, z_if, z_brT, z_brF, z_for, z_forK, z_loop0, z_loop1, z_loopK, z_var0, z_varS, z_c, z_bin, z_binK1, z_binK2, z_test, z_asB, z_and, z_andT, z_andF, z_or, z_orT, z_orF, z_not, z_notK, z_andV, z_andVT, z_andVF, z_orV, z_orVT, z_orVF, z_notV, z_notVK, z_ifE, z_ifT, z_ifF, z_nil, z_cons, z_consK, z_consK2, z_tup, z_tupK, z_lst, z_lstK, z_un, z_unK, z_neg, z_cb, z_cbK, z_call, z_callK, z_star, z_starK, z_starK2, z_seqL, z_seqT, z_seqR, z_I, z_I0, z_mul, z_mulT, z_mulL, z_tupleR, z_tupM, z_lenP, z_lenM, z_add, z_addS, z_addL, z_addT, z_eqI, z_neI, z_eqB, z_neB, z_eqS, z_neS, z_isN, z_notN, z_ixL, z_ixT, z_ixR, z_ixM, z_atK, z_lenL, z_lenT, z_lenR, z_lenS, z_listL, z_listR, z_listT, z_tupleL, z_tupleT, z_sl, z_slK1, z_slK2, z_slK3, z_oNone, z_oSome, z_oK, z_slT, z_slL, z_slR, z_r1, z_r1K, z_r2, z_r2K, z_zip, z_zipL, z_zipT, z_iseq, z_meth, z_methK, z_methK2, z_app, z_appM, z_lc, isNon, Bool.not_true, Bool.not_false, z_at0, z_at1, z_at2, z_at3, z_mulS, z_okStr, z_join, z_intB, z_intI, z_dnew, z_setD, z_setD1, z_listD, z_listD1, z_par, z_parK, z_rev, z_revK, z_sum, z_max, z_disp2, z_back, z_backK, z_backK2, z_maxD, z_maxK, z_maxK2, z_dg, z_dgK, z_dgK2, z_dgM, List.set_cons_zero, List.set_cons_succ, wipeD, reduceIte, show ((("repeat" : Str) == ("repeat" : Str)) = true) from by decide +kernel])
      cases m with
      | zero => exact (hb.2 _ hs).elim
      | succ m =>
        obtain ⟨n, rfl⟩ : ∃ j, n = j + 1 := ⟨n - 1, by omega⟩
        exact ⟨_, ⟨bb, L, m, rfl, hb.2 _ hs, hL, by omega, rfl⟩, h1 _ rfl⟩
    | go v =>
      unfold St.d
      (try simp only [z_seq, z_next, z_brk, z_cont, z_asg, z_asgK, z_gN, z_gSeq, z_gSeqL, z_gcons, z_gconsK, z_gnil, z_gsub, z_subK1, z_subK2, z_subK3, z_set, z_set1, z_set2, z_ret, z_retN, z_drop, z_dropK, z_if, z_brT, z_brF, z_for, z_forK, z_loop0, z_loop1, z_loopK, z_var0, z_varS, z_c, z_bin, z_binK1, z_binK2, z_test, z_asB, z_and, z_andT, z_andF, z_or, z_orT, z_orF, z_not, z_notK, z_andV, z_andVT, z_andVF, z_orV, z_orVT, z_orVF, z_notV, z_notVK, z_ifE, z_ifT, z_ifF, z_nil, z_cons, z_consK, z_consK2, z_tup, z_tupK, z_lst, z_lstK, z_un, z_unK, z_neg, z_cb, z_cbK, z_call, z_callK, z_star, z_starK, z_starK2, z_seqL, z_seqT, z_seqR, z_I, z_I0, z_mul, z_mulT, z_mulL, z_tupleR, z_tupM, z_lenP, z_lenM, z_add, z_addS, z_addL, z_addT, z_eqI, z_neI, z_eqB, z_neB, z_eqS, z_neS, z_isN, z_notN, z_ixL, z_ixT, z_ixR, z_ixM, z_atK, z_lenL, z_lenT, z_lenR, z_lenS, z_listL, z_listR, z_listT, z_tupleL, z_tupleT, z_sl, z_slK1, z_slK2, z_slK3, z_oNone, z_oSome, z_oK, z_slT, z_slL, z_slR, z_r1, z_r1K, z_r2, z_r2K, z_zip, z_zipL, z_zipT, z_iseq, z_meth, z_methK, z_methK2, z_app, z_appM, z_lc, isNon, Bool.not_true, Bool.not_false, z_at0, z_at1, z_at2, z_at3, z_mulS, z_okStr, z_join, z_intB, z_intI, z_dnew, z_setD, z_setD1, z_listD, z_listD1, z_par, z_parK, z_rev, z_revK, z_sum, z_max, z_disp2, z_back, z_backK, z_backK2, z_maxD, z_maxK, z_maxK2, z_dg, z_dgK, z_dgK2, z_dgM, List.set_cons_zero, List.set_cons_succ, wipeD, reduceIte, Bool.false_eq_true, show ((("go" : Str) == ("repeat" : Str)) = false) from by decide +kernel])
      exact h0 rfl
    | put v =>
      unfold St.d
      (try simp only [z_seq, z_next, z_brk, z_cont, z_asg, z_asgK, z_gN, z_gSeq, z_gSeqL, z_gcons, z_gconsK, z_gnil, z_gsub, z_subK1, z_subK2, z_subK3, z_set, z_set1, z_set2, z_ret, z_retN, z_drop, z_dropK, z_if, z_brT, z_brF, z_for, z_forK, z_loop0, z_loop1, z_loopK, z_var0, z_varS, z_c, z_bin, z_binK1, z_binK2, z_test, z_asB, z_and, z_andT, z_andF, z_or, z_orT, z_orF, z_not, z_notK, z_andV, z_andVT, z_andVF, z_orV, z_orVT, z_orVF, z_notV, z_notVK, z_ifE, z_ifT, z_ifF, z_nil, z_cons, z_consK, z_consK2, z_tup, z_tupK, z_lst, z_lstK, z_un, z_unK, z_neg, z_cb, z_cbK, z_call, z_callK, z_star, z_starK, z_starK2, z_seqL, z_seqT, z_seqR, z_I, z_I0, z_mul, z_mulT, z_mulL, z_tupleR, z_tupM, z_lenP, z_lenM, z_add, z_addS, z_addL, z_addT, z_eqI, z_neI, z_eqB, z_neB, z_eqS, z_neS, z_isN, z_notN, z_ixL, z_ixT, z_ixR, z_ixM, z_atK, z_lenL, z_lenT, z_lenR, z_lenS, z_listL, z_listR, z_listT, z_tupleL, z_tupleT, z_sl, z_slK1, z_slK2, z_slK3, z_oNone, z_oSome, z_oK, z_slT, z_slL, z_slR, z_r1, z_r1K, z_r2, z_r2K, z_zip, z_zipL, z_zipT, z_iseq, z_meth, z_methK, z_methK2, z_app, z_appM, z_lc, isNon, Bool.not_true, Bool.not_false, z_at0, z_at1, z_at2, z_at3, z_mulS, z_okStr, z_join, z_intB, z_intI, z_dnew, z_setD, z_setD1, z_listD, z_listD1, z_par, z_parK, z_rev, z_revK, z_sum, z_max, z_disp2, z_back, z_backK, z_backK2, z_maxD, z_maxK, z_maxK2, z_dg, z_dgK, z_dgK2, z_dgM, List.set_cons_zero, List.set_cons_succ, wipeD, reduceIte, Bool.false_eq_true, show ((("put" : Str) == ("repeat" : Str)) = false) from by decide +kernel])
      exact h0 rfl
    | call u nm =>
      have eu : (callW u == ("repeat" : Str)) = false := by cases u <;> decide +kernel
      unfold St.d
      (try simp only [z_seq, z_next, z_brk, z_cont, z_asg, z_asgK, z_gN, z_gSeq, z_gSeqL, z_gcons, z_gconsK, z_gnil, z_gsub, z_subK1, z_subK2, z_subK3, z_set, z_set1, z_set2, z_ret, z_retN, z_drop, z_dropK, z_if, z_brT, z_brF, z_for, z_forK, z_loop0, z_loop1, z_loopK, z_var0, z_varS, z_c, z_bin, z_binK1, z_binK2, z_test, z_asB, z_and, z_andT, z_andF, z_or, z_orT, z_orF, z_not, z_notK, z_andV, z_andVT, z_andVF, z_orV, z_orVT, z_orVF, z_notV, z_notVK, z_ifE, z_ifT, z_ifF, z_nil, z_cons, z_consK, z_consK2, z_tup, z_tupK, z_lst, z_lstK, z_un, z_unK, z_neg, z_cb, z_cbK, z_call, z_callK, z_star, z_starK, z_starK2, z_seqL, z_seqT, z_seqR, z_I, z_I0, z_mul, z_mulT, z_mulL, z_tupleR, z_tupM, z_lenP, z_lenM, z_add, z_addS, z_addL, z_addT, z_eqI, z_neI, z_eqB, z_neB, z_eqS, z_neS, z_isN, z_notN, z_ixL, z_ixT, z_ixR, z_ixM, z_atK, z_lenL, z_lenT, z_lenR, z_lenS, z_listL, z_listR, z_listT, z_tupleL, z_tupleT, z_sl, z_slK1, z_slK2, z_slK3, z_oNone, z_oSome, z_oK, z_slT, z_slL, z_slR, z_r1, z_r1K, z_r2, z_r2K, z_zip, z_zipL, z_zipT, z_iseq, z_meth, z_methK, z_methK2, z_app, z_appM, z_lc, isNon, Bool.not_true, Bool.not_false, z_at0, z_at1, z_at2, z_at3, z_mulS, z_okStr, z_join, z_intB, z_intI, z_dnew, z_setD, z_setD1, z_listD, z_listD1, z_par, z_parK, z_rev, z_revK, z_sum, z_max, z_disp2, z_back, z_backK, z_backK2, z_maxD, z_maxK, z_maxK2, z_dg, z_dgK, z_dgK2, z_dgM, List.set_cons_zero, List.set_cons_succ, wipeD, reduceIte, Bool.false_eq_true, eu])
      exact h0 rfl
  · rw [cnt_map]
    (try simp only [z_seq, z_next, z_brk, z_cont, z_asg, z_asgK, z_gN, z_gSeq, z_gSeqL, z_gcons, z_gconsK, z_gnil, z_gsub, z_subK1, z_subK2, z_subK3, z_set, z_set1, z_set2, z_ret, z_retN, z_drop, z_dropK, z_if, z_brT, z_brF, z_for, z_forK, z_loop0, z_loop1, z_loopK, z_var0, z_varS, z_c, z_bin, z_binK1, z_binK2, z_test, z_asB, z_and, z_andT, z_andF, z_or, z_orT, z_orF, z_not, z_notK, z_andV, z_andVT, z_andVF, z_orV, z_orVT, z_orVF, z_notV, z_notVK, z_ifE, z_ifT, z_ifF, z_nil, z_cons, z_consK, z_consK2, z_tup, z_tupK, z_lst, z_lstK, z_un, z_unK, z_neg, z_cb, z_cbK, z_call, z_callK, z_star, z_starK, z_starK2, z_seqL, z_seqT, z_seqR, z_I, z_I0, z_mul, z_mulT, z_mulL, z_tupleR, z_tupM, z_lenP, z_lenM, z_add, z_addS, z_addL, z_addT, z_eqI, z_neI, z_eqB, z_neB, z_eqS, z_neS, z_isN, z_notN, z_ixL, z_ixT, z_ixR, z_ixM, z_atK, z_lenL, z_lenT, z_lenR, z_lenS, z_listL, z_listR, z_listT, z_tupleL, z_tupleT, z_sl, z_slK1, z_slK2, z_slK3, z_oNone, z_oSome, z_oK, z_slT, z_slL, z_slR, z_r1, z_r1K, z_r2, z_r2K, z_zip, z_zipL, z_zipT, z_iseq, z_meth, z_methK, z_methK2, z_app, z_appM, z_lc, isNon, Bool.not_true, Bool.not_false, z_at0, z_at1, z_at2, z_at3, z_mulS, z_okStr, z_join, z_intB, z_intI, z_dnew, z_setD, z_setD1, z_listD, z_listD1, z_par, z_parK, z_rev, z_revK, z_sum, z_max, z_disp2, z_back, z_backK, z_backK2, z_maxD, z_maxK, z_maxK2, z_dg, z_dgK, z_dgK2, z_dgM, List.set_cons_zero, List.set_cons_succ])
    rw [List.length_map]
    exact ⟨size1M (by omega), _, rfl, q⟩
theorem main__law_count (n : Nat) : ∀ ds M k, sp__law_count_ (n + 1) ds M k (fun _ _ _ => False) → c__law_count (sp__law_count_ n) { nx := fun _ M' => k .non M', rt := k } (startD 2 ds) M := by
  rintro ds M k ⟨r, ⟨b, L, m, rfl, hb, hL, hm, rfl⟩, q⟩
  show c__law_count _ _ [some (.tup (St.ds b)), none] M
  unfold c__law_count
  (try simp only [z_seq, z_next, z_brk, z_cont, z_asg, z_asgK, z_gN, z_gSeq, z_gSeqL, z_gcons, z_gconsK, z_gnil, z_gsub, z_subK1, z_subK2, z_subK3, z_set, z_set1, z_set2, z_ret, z_retN, z_drop, z_dropK, z_if, z_brT, z_brF, z_for, z_forK, z_loop0, z_loop1, z_loopK, z_var0, z_varS, z_c, z_bin, z_binK1, z_binK2, z_test, z_asB, z_and, z_andT, z_andF, z_or, z_orT, z_orF, z_not, z_notK, z_andV, z_andVT, z_andVF, z_orV, z_orVT, z_orVF, z_notV, z_notVK, z_ifE, z_ifT, z_ifF, z_nil, z_cons, z_consK, z_consK2, z_tup, z_tupK, z_lst, z_lstK, z_un, z_unK, z_neg, z_cb, z_cbK, z_call, z_callK, z_star, z_starK, z_starK2, z_seqL, z_seqT, z_seqR, z_I, z_I0, z_mul, z_mulT, z_mulL, z_tupleR, z_tupM, z_lenP, z_lenM, z_add, z_addS, z_addL, z_addT, z_eqI, z_neI, z_eqB, z_neB, z_eqS, z_neS, z_isN, z_notN, z_ixL, z_ixT, z_ixR, z_ixM, z_atK, z_lenL, z_lenT, z_lenR, z_lenS, z_listL, z_listR, z_listT, z_tupleL, z_tupleT, z_sl, z_slK1, z_slK2, z_slK3, z_oNone, z_oSome, z_oK, z_slT, z_slL, z_slR, z_r1, z_r1K, z_r2, z_r2K, z_zip, z_zipL, z_zipT, z_iseq, z_meth, z_methK, z_methK2, z_app, z_appM, z_lc, isNon, Bool.not_true, Bool.not_false, z_at0, z_at1, z_at2, z_at3, z_mulS, z_okStr, z_join, z_intB, z_intI, z_dnew, z_setD, z_setD1, z_listD, z_listD1, z_par, z_parK, z_rev, z_revK, z_sum, z_max, z_disp2, z_back, z_backK, z_backK2, z_maxD, z_maxK, z_maxK2, z_dg, z_dgK, z_dgK2, z_dgM, List.set_cons_zero, List.set_cons_succ])
  have hl : b.length ≤ 1000 := by have := hb.1; omega
  rw [ds_map b, List.length_map]
  refine ⟨size1M (by omega), ?_⟩
  refine lc_mapF (f := fun s => (cntS s).map D.int) (by omega) (fun s hs M q1 q0 h1 h0 => ?_) ?_
  · cases s with
    | rep i bb =>
      unfold St.d
      (try simp only [z_seq, z_next, z_brk, z_cont, z_asg, z_asgK, z_gN, z_gSeq, z_gSeqL, z_gcons, z_gconsK, z_gnil, z_gsub, z_subK1, z_subK2, z_subK3, z_set, z_set1, z_set2, z_ret, z_retN, z_drop, z_dropK, z_if, z_brT, z_brF, z_for, z_forK, z_loop0, z_loop1, z_loopK, z_var0, z_varS, z_c, z_bin, z_binK1, z_binK2, z_test, z_asB, z_and, z_andT, z_andF, z_or, z_orT, z_orF, z_not, z_notK, z_andV, z_andVT, z_andVF, z_orV, z_orVT, z_orVF, z_notV, z_notVK, z_ifE, z_ifT, z_ifF, z_nil, z_cons, z_consK, z_consK2, z_tup, z_tupK, z_lst, z_lstK, z_un, z_unK, z_neg, z_cb, z_cbK, z_call, z_callK, z_star, z_starK, z_starK2, z_seqL, z_seqT, z_seqR, z_I, z_I0, z_mul, z_mulT, z_mulL, z_tupleR, z_tupM, z_lenP, z_lenM, z_add, z_addS, z_addL, z_addT, z_eqI, z_neI, z_eqB, z_neB, z_eqS, z_neS, z_isN, z_notN, z_ixL, z_ixT, z_ixR, z_ixM, z_atK, z_lenL, z_lenT, z_lenR, z_lenS, z_listL, z_listR, z_listT, z_tupleL, z_tupleT, z_sl, z_slK1, z_slK2, z_slK3, z_oNone, z_oSome, z_oK, z_slT, z_slL, z_slR, z_r1, z_r1K, z_r2, z_r2K, z_zip, z_zipL, z_zipT, z_iseq, z_meth, z_methK, z_methK2, z_app, z_appM, z_lc, isNon, Bool.not_true, Bool.not_false, z_at0, z_at1, z_at2, z_at3, z_mulS, z_okStr, z_join, z_intB, z_intI, z_dnew, z_setD, z_setD1, z_listD, z_listD1, z_par, z_parK, z_rev, z_revK, z_sum, z_max, z_disp2, z_back, z_backK, z_backK2, z_maxD, z_maxK, z_maxK2, z_dg, z_dgK, z_dgK2, z_dgM, List.set_cons_zero, List.set_cons_succ, wipeD, reduceIte, show ((("repeat" : Str) == ("repeat" : Str)) = true) from by decide +kernel])
      cases m with
      | zero => exact (hb.2 _ hs).elim
      | succ m =>
        obtain ⟨n, rfl⟩ : ∃ j, n = j + 1 := ⟨n - 1, by omega⟩
        exact ⟨_, ⟨bb, L, m, rfl, hb.2 _ hs, hL, by omega, rfl⟩, h1 _ rfl⟩
    | go v =>
      unfold St.d
      (try simp only [z_seq, z_next, z_brk, z_cont, z_asg, z_asgK, z_gN, z_gSeq, z_gSeqL, z_gcons, z_gconsK, z_gnil, z_gsub, z_subK1, z_subK2, z_subK3, z_set, z_set1, z_set2, z_ret, z_retN, z_drop, z_dropK, z_if, z_brT, z_brF, z_for, z_forK, z_loop0, z_loop1, z_loopK, z_var0, z_varS, z_c, z_bin, z_binK1, z_binK2, z_test, z_asB, z_and, z_andT, z_andF, z_or, z_orT, z_orF, z_not, z_notK, z_andV, z_andVT, z_andVF, z_orV, z_orVT, z_orVF, z_notV, z_notVK, z_ifE, z_ifT, z_ifF, z_nil, z_cons, z_consK, z_consK2, z_tup, z_tupK, z_lst, z_lstK, z_un, z_unK, z_neg, z_cb, z_cbK, z_call, z_callK, z_star, z_starK, z_starK2, z_seqL, z_seqT, z_seqR, z_I, z_I0, z_mul, z_mulT, z_mulL, z_tupleR, z_tupM, z_lenP, z_lenM, z_add, z_addS, z_addL, z_addT, z_eqI, z_neI, z_eqB, z_neB, z_eqS, z_neS, z_isN, z_notN, z_ixL, z_ixT, z_ixR, z_ixM, z_atK, z_lenL, z_lenT, z_lenR, z_lenS, z_listL, z_listR, z_listT, z_tupleL, z_tupleT, z_sl, z_slK1, z_slK2, z_slK3, z_oNone, z_oSome, z_oK, z_slT, z_slL, z_slR, z_r1, z_r1K, z_r2, z_r2K, z_zip, z_zipL, z_zipT, z_iseq, z_meth, z_methK, z_methK2, z_app, z_appM, z_lc, isNon, Bool.not_true, Bool.not_false, z_at0, z_at1, z_at2, z_at3, z_mulS, z_okStr, z_join, z_intB, z_intI, z_dnew, z_setD, z_setD1, z_listD, z_listD1, z_par, z_parK, z_rev, z_revK, z_sum, z_max, z_disp2, z_back, z_backK, z_backK2, z_maxD, z_maxK, z_maxK2, z_dg, z_dgK, z_dgK2, z_dgM, List.set_cons_zero, List.set_cons_succ, wipeD, reduceIte, Bool.false_eq_true, show ((("go" : Str) == ("repeat" : Str)) = false) from by decide +kernel])
      exact h0 rfl
    | put v =>
      unfold St.d
      (try simp only [z_seq, z_next, z_brk, z_cont, z_asg, z_asgK, z_gN, z_gSeq, z_gSeqL, z_gcons, z_gconsK, z_gnil, z_gsub, z_subK1, z_subK2, z_subK3, z_set, z_set1, z_set2, z_ret, z_retN, z_drop, z_dropK, z_if, z_brT, z_brF, z_for, z_forK, z_loop0, z_loop1, z_loopK, z_var0, z_varS, z_c, z_bin, z_binK1, z_binK2, z_test, z_asB, z_and, z_andT, z_andF, z_or, z_orT, z_orF, z_not, z_notK, z_andV, z_andVT, z_andVF, z_orV, z_orVT, z_orVF, z_notV, z_notVK, z_ifE, z_ifT, z_ifF, z_nil, z_cons, z_consK, z_consK2, z_tup, z_tupK, z_lst, z_lstK, z_un, z_unK, z_neg, z_cb, z_cbK, z_call, z_callK, z_star, z_starK, z_starK2, z_seqL, z_seqT, z_seqR, z_I, z_I0, z_mul, z_mulT, z_mulL, z_tupleR, z_tupM, z_lenP, z_lenM, z_add, z_addS, z_addL, z_addT, z_eqI, z_neI, z_eqB, z_neB, z_eqS, z_neS, z_isN, z_notN, z_ixL, z_ixT, z_ixR, z_ixM, z_atK, z_lenL, z_lenT, z_lenR, z_lenS, z_listL, z_listR, z_listT, z_tupleL, z_tupleT, z_sl, z_slK1, z_slK2, z_slK3, z_oNone, z_oSome, z_oK, z_slT, z_slL, z_slR, z_r1, z_r1K, z_r2, z_r2K, z_zip, z_zipL, z_zipT, z_iseq, z_meth, z_methK, z_methK2, z_app, z_appM, z_lc, isNon, Bool.not_true, Bool.not_false, z_at0, z_at1, z_at2, z_at3, z_mulS, z_okStr, z_join, z_intB, z_intI, z_dnew, z_setD, z_setD1, z_listD, z_listD1, z_par, z_parK, z_rev, z_revK, z_sum, z_max, z_disp2, z_back, z_backK, z_backK2, z_maxD, z_maxK, z_maxK2, z_dg, z_dgK, z_dgK2, z_dgM, List.set_cons_zero, List.set_cons_succ, wipeD, reduceIte, Bool.false_eq_true, show ((("put" : Str) == ("repeat" : Str)) = false) from by decide +kernel])
      exact h0 rfl
    | call u nm =>
      have eu : (callW u == ("repeat" : Str)) = false := by cases u <;> decide +kernel
      unfold St.d
      (try simp only [z_seq, z_next, z_brk, z_cont, z_asg, z_asgK, z_gN, z_gSeq, z_gSeqL, z_gcons, z_gconsK, z_gnil, z_gsub, z_subK1, z_subK2, z_subK3, z_set, z_set1, z_set2, z_ret, z_retN, z_drop, z_dropK, z_if, z_brT, z_brF, z_for, z_forK, z_loop0, z_loop1, z_loopK, z_var0, z_varS, z_c, z_bin, z_binK1, z_binK2, z_test, z_asB, z_and, z_andT, z_andF, z_or, z_orT, z_orF, z_not, z_notK, z_andV, z_andVT, z_andVF, z_orV, z_orVT, z_orVF, z_notV, z_notVK, z_ifE, z_ifT, z_ifF, z_nil, z_cons, z_consK, z_consK2, z_tup, z_tupK, z_lst, z_lstK, z_un, z_unK, z_neg, z_cb, z_cbK, z_call, z_callK, z_star, z_starK, z_starK2, z_seqL, z_seqT, z_seqR, z_I, z_I0, z_mul, z_mulT, z_mulL, z_tupleR, z_tupM, z_lenP, z_lenM, z_add, z_addS, z_addL, z_addT, z_eqI, z_neI, z_eqB, z_neB, z_eqS, z_neS, z_isN, z_notN, z_ixL, z_ixT, z_ixR, z_ixM, z_atK, z_lenL, z_lenT, z_lenR, z_lenS, z_listL, z_listR, z_listT, z_tupleL, z_tupleT, z_sl, z_slK1, z_slK2, z_slK3, z_oNone, z_oSome, z_oK, z_slT, z_slL, z_slR, z_r1, z_r1K, z_r2, z_r2K, z_zip, z_zipL, z_zipT, z_iseq, z_meth, z_methK, z_methK2, z_app, z_appM, z_lc, isNon, Bool.not_true, Bool.not_false, z_at0, z_at1, z_at2, z_at3, z_mulS, z_okStr, z_join, z_intB, z_intI, z_dnew, z_setD, z_setD1, z_listD, z_listD1, z_par, z_parK, z_rev, z_revK, z_sum, z_max, z_disp2, z_back, z_backK, z_backK2, z_maxD, z_maxK, z_maxK2, z_dg, z_dgK, z_dgK2, z_dgM, List.set_cons_zero, List.set_cons_succ, wipeD, reduceIte, Bool.false_eq_true, eu])
      exact h0 rfl
  · rw [cnt_map]
    (try simp only [z_seq, z_next, z_brk, z_cont, z_asg, z_asgK, z_gN, z_gSeq, z_gSeqL, z_gcons, z_gconsK, z_gnil, z_gsub, z_subK1, z_subK2, z_subK3, z_set, z_set1, z_set2, z_ret, z_retN, z_drop, z_dropK, z_if, z_brT, z_brF, z_for, z_forK, z_loop0, z_loop1, z_loopK, z_var0, z_varS, z_c, z_bin, z_binK1, z_binK2, z_test, z_asB, z_and, z_andT, z_andF, z_or, z_orT, z_orF, z_not, z_notK, z_andV, z_andVT, z_andVF, z_orV, z_orVT, z_orVF, z_notV, z_notVK, z_ifE, z_ifT, z_ifF, z_nil, z_cons, z_consK, z_consK2, z_tup, z_tupK, z_lst, z_lstK, z_un, z_unK, z_neg, z_cb, z_cbK, z_call, z_callK, z_star, z_starK, z_starK2, z_seqL, z_seqT, z_seqR, z_I, z_I0, z_mul, z_mulT, z_mulL, z_tupleR, z_tupM, z_lenP, z_lenM, z_add, z_addS, z_addL, z_addT, z_eqI, z_neI, z_eqB, z_neB, z_eqS, z_neS, z_isN, z_notN, z_ixL, z_ixT, z_ixR, z_ixM, z_atK, z_lenL, z_lenT, z_lenR, z_lenS, z_listL, z_listR, z_listT, z_tupleL, z_tupleT, z_sl, z_slK1, z_slK2, z_slK3, z_oNone, z_oSome, z_oK, z_slT, z_slL, z_slR, z_r1, z_r1K, z_r2, z_r2K, z_zip, z_zipL, z_zipT, z_iseq, z_meth, z_methK, z_methK2, z_app, z_appM, z_lc, isNon, Bool.not_true, Bool.not_false, z_at0, z_at1, z_at2, z_at3, z_mulS, z_okStr, z_join, z_intB, z_intI, z_dnew, z_setD, z_setD1, z_listD, z_listD1, z_par, z_parK, z_rev, z_revK, z_sum, z_max, z_disp2, z_back, z_backK, z_backK2, z_maxD, z_maxK, z_maxK2, z_dg, z_dgK, z_dgK2, z_dgM, List.set_cons_zero, List.set_cons_succ])
    exact ⟨_, rfl, q⟩
theorem okg_statements {P : Program} {w : World} {K : PySem.W.Frag} {mg : Str → Option Value} {base : Heap} {f_statements : Addr} {fd_statements : FuncData} (F_statements : L2.Fun K "statements" "statements" s_statements f_statements fd_statements) (gm_statements : mg "statements" = some (.ref f_statements)) (b_statements : Binds K fd_statements ["block"] []) (z_len : mg "len" = none) (z_sum : mg "sum" = none) : ∀ n : Nat, Has P w K mg base (0 + n) "statements" (sp_statements_ n)
  | 0 => ⟨⟨f_statements, gm_statements, F_statements.kp, fun A outer s H us vs Q E _ _ _ h => by obtain ⟨_, _, _, _, _, q⟩ := h; exact q.elim⟩, fun _ _ _ _ _ _ _ _ h => h.elim⟩
  | n + 1 => by
    have h_statements := okg_statements (P := P) (w := w) (base := base) F_statements gm_statements b_statements z_len z_sum n
    exact (Has.mk' (k := 0 + n) (c := c_statements (sp_statements_ n)) gm_statements F_statements b_statements sc_statements (fun ds M k E h => by first | (obtain ⟨_, _, rfl | ⟨_, rfl, _⟩, _⟩ := h <;> rfl) | (obtain ⟨_, _, _, _, _, rfl, _⟩ := h; rfl) | (obtain ⟨_, ⟨_, _, _, _, rfl, _⟩, _⟩ := h; rfl) | (obtain ⟨_, ⟨_, _, _, _, _, rfl, _⟩, _⟩ := h; rfl) | (obtain ⟨_, rfl, _⟩ := h <;> rfl) | (obtain ⟨_, _, rfl, _⟩ := h <;> rfl) | (obtain ⟨_, _, _, rfl, _⟩ := h <;> rfl) | (obtain ⟨_, _, _, _, rfl, _⟩ := h <;> rfl) | (obtain ⟨_, ⟨_, rfl, _⟩, _⟩ := h <;> rfl) | (obtain ⟨_, ⟨_, _, rfl, _⟩, _⟩ := h <;> rfl) | (obtain ⟨_, ⟨_, _, _, rfl, _⟩, _⟩ := h <;> rfl) | (obtain ⟨_, ⟨_, rfl, _⟩ | ⟨_, rfl, _⟩, _⟩ := h <;> rfl)) (fun cdv A outer s H E hr => (pssd_cons (psd_setLc (i := 1) (g := (gN 2)) (own := [("statement", 2)]) rfl sc_statements.nd rfl rfl (sw_true rfl rfl rfl (by decide +kernel)) (pid_seq (pd_var (pv 0))) (blkOk_by (N := N_statements) (sc := defScope s_statements) (by decide +kernel)) mono_gN (tg_name (i := 2) (by decide)) (fun _ _ _ _ _ => pg_name (i := 2) sc_statements.nd rfl (Or.inl rfl)) (fun _ _ _ _ _ => ptsd_one (ptd_cmp od_eq (pd_ix xd_seq (pd_var (pv 2)) pd_int (fun _ _ => rfl)) pd_str (nomark _))) (fun _ _ _ _ _ => (pd_callH h_statements (hr.mono (by first | decide | omega)) (pad_cons (pd_ix xd_seq (pd_var (pv 2)) pd_int (fun _ _ => rfl)) pad_nil))))
      (pssd_one (psd_ret (pd_bin od_add (pd_callB cd_len (by rfl) z_len (by decide +kernel) (pad_cons (pd_var (pv 0)) pad_nil)) (pd_callB (cd_sum rfl) (by rfl) z_sum (by decide +kernel) (pad_cons (pd_var (pv 1)) pad_nil))))))) (main_statements n) (mono_statements_ n)).imp (fun _ _ _ _ h => h) (mono_statements_ n)
theorem okg__law_count {P : Program} {w : World} {K : PySem.W.Frag} {mg : Str → Option Value} {base : Heap} {f__law_count : Addr} {fd__law_count : FuncData} (F__law_count : L2.Fun K "_law_count" "_law_count" s__law_count f__law_count fd__law_count) (gm__law_count : mg "_law_count" = some (.ref f__law_count)) (b__law_count : Binds K fd__law_count ["_law_block"] []) (z_len : mg "len" = none) (z_sum : mg "sum" = none) : ∀ n : Nat, Has P w K mg base (0 + n) "_law_count" (sp__law_count_ n)
  | 0 => ⟨⟨f__law_count, gm__law_count, F__law_count.kp, fun A outer s H us vs Q E _ _ _ h => by obtain ⟨_, _, _, _, _, q⟩ := h; exact q.elim⟩, fun _ _ _ _ _ _ _ _ h => h.elim⟩
  | n + 1 => by
    have h__law_count := okg__law_count (P := P) (w := w) (base := base) F__law_count gm__law_count b__law_count z_len z_sum n
    exact (Has.mk' (k := 0 + n) (c := c__law_count (sp__law_count_ n)) gm__law_count F__law_count b__law_count sc__law_count (fun ds M k E h => by first | (obtain ⟨_, _, rfl | ⟨_, rfl, _⟩, _⟩ := h <;> rfl) | (obtain ⟨_, _, _, _, _, rfl, _⟩ := h; rfl) | (obtain ⟨_, ⟨_, _, _, _, rfl, _⟩, _⟩ := h; rfl) | (obtain ⟨_, ⟨_, _, _, _, _, rfl, _⟩, _⟩ := h; rfl) | (obtain ⟨_, rfl, _⟩ := h <;> rfl) | (obtain ⟨_, _, rfl, _⟩ := h <;> rfl) | (obtain ⟨_, _, _, rfl, _⟩ := h <;> rfl) | (obtain ⟨_, _, _, _, rfl, _⟩ := h <;> rfl) | (obtain ⟨_, ⟨_, rfl, _⟩, _⟩ := h <;> rfl) | (obtain ⟨_, ⟨_, _, rfl, _⟩, _⟩ := h <;> rfl) | (obtain ⟨_, ⟨_, _, _, rfl, _⟩, _⟩ := h <;> rfl) | (obtain ⟨_, ⟨_, rfl, _⟩ | ⟨_, rfl, _⟩, _⟩ := h <;> rfl)) (fun cdv A outer s H E hr => (pssd_one (psd_ret (pd_bin od_add (pd_callB cd_len (by rfl) z_len (by decide +kernel) (pad_cons (pd_var (pv 0)) pad_nil)) (pd_callB (cd_sum rfl) (by rfl) z_sum (by decide +kernel) (pad_cons (pd_lc (g := (gN 1)) (own := [("_law_one", 1)]) rfl sc__law_count.nd (pid_seq (pd_var (pv 0))) (blkOk_by (N := N__law_count) (sc := defScope s__law_count) (by decide +kernel)) mono_gN (tg_name (i := 1) (by decide)) (fun _ _ _ _ _ => pg_name (i := 1) sc__law_count.nd rfl (Or.inl rfl)) (fun _ _ _ _ _ => ptsd_one (ptd_cmp od_eq (pd_ix xd_seq (pd_var (pv 1)) pd_int (fun _ _ => rfl)) pd_str (nomark _))) (fun _ _ _ _ _ => (pd_callH h__law_count (hr.mono (by first | decide | omega)) (pad_cons (pd_ix xd_seq (pd_var (pv 1)) pd_int (fun _ _ => rfl)) pad_nil)))) pad_nil)))))) (main__law_count n) (mono__law_count_ n)).imp (fun _ _ _ _ h => h) (mono__law_count_ n)
/-! how deep -/
mutual
def dpS : St → Option Int
  | .rep _ b => some (mostD 0 (dpL b) + 1)
  | _ => none
def dpL : List St → List Int
  | [] => []
  | s :: b => (dpS s).toList ++ dpL b
end
theorem dp_map : ∀ b : List St, b.filterMap (fun s => (dpS s).map D.int) = (dpL b).map D.int
  | [] => by simp [dpL]
  | s :: b => by
    cases e : dpS s with
    | none => rw [List.filterMap_cons_none (by rw [e]; rfl), dp_map b]; simp [dpL, e]
    | some i => rw [List.filterMap_cons_some (b := .int i) (by rw [e]; rfl), dp_map b]; simp [dpL, e]
def spDeep : Nat → SpD := spN fun n => spP fun ds r => ∃ (b : List St) (L m : Nat), ds = [.tup (St.ds b)] ∧ OkB (fun _ => True) L m b ∧ L ≤ 1000 ∧ m + 1 ≤ n ∧ r = .int (mostD 0 (dpL b))
abbrev sp_depth_ := spDeep
abbrev sp__law_a_deep_ := spDeep
abbrev mono_depth_ (n : Nat) : MonoS (sp_depth_ (n + 1)) := mono_P
abbrev mono__law_a_deep_ (n : Nat) : MonoS (sp__law_a_deep_ (n + 1)) := mono_P
def c_depth (sp_depth : SpD) : CS :=
  (cSeq (cAsg (cLc (ciSeq (cVar 0)) (gN 2) (cTest (cBin ρEq (cBin ρIx (cVar 2) (cC (.int 0))) (cC (.str "repeat")))) (cBin ρAdd (cCall (NoX sp_depth) (cCons (cBin ρIx (cVar 2) (cC (.int 2))) cNil)) (cC (.int 1))) [2]) (gN 1))
    (cRet (cMaxD (cVar 1) (cC (.int 0)))))
def c__law_a_deep (sp__law_a_deep : SpD) : CS :=
  (cSeq (cAsg (cC (.int 0)) (gN 1))
    (cSeq (cFor (ciSeq (cVar 0)) (gN 2) (cIf (cTest (cBin ρEq (cBin ρIx (cVar 2) (cC (.int 0))) (cC (.str "repeat")))) (cAsg (cCB ρMax (cCons (cVar 1) (cCons (cBin ρAdd (cC (.int 1)) (cCall (NoX sp__law_a_deep) (cCons (cBin ρIx (cVar 2) (cC (.int 2))) cNil))) cNil))) (gN 1)) cNext))
    (cRet (cVar 1))))
theorem main_depth (n : Nat) : ∀ ds M k, sp_depth_ (n + 1) ds M k (fun _ _ _ => False) → c_depth (sp_depth_ n) { nx := fun _ M' => k .non M', rt := k } (startD 3 ds) M := by
  rintro ds M k ⟨r, ⟨b, L, m, rfl, hb, hL, hm, rfl⟩, q⟩
  show c_depth _ _ [some (.tup (St.ds b)), none, none] M
  unfold c_depth
  (try simp only [z_seq, z_next, z_brk, z_cont, z_asg, z_asgK, z_gN, z_gSeq, z_gSeqL, z_gcons, z_gconsK, z_gnil, z_gsub, z_subK1, z_subK2, z_subK3, z_set, z_set1, z_set2, z_ret, z_retN, z_drop, z_dropK, z_if, z_brT, z_brF, z_for, z_forK, z_loop0, z_loop1, z_loopK, z_var0, z_varS, z_c, z_bin, z_binK1, z_binK2, z_test, z_asB, z_and, z_andT, z_andF, z_or, z_orT, z_orF, z_not, z_notK, z_andV, z_andVT, z_andVF, z_orV, z_orVT, z_orVF, z_notV, z_notVK, z_ifE, z_ifT, z_ifF, z_nil, z_cons, z_consK, z_consK2, z_tup, z_tupK, z_lst, z_lstK, z_un, z_unK, z_neg, z_cb, z_cbK, z_call, z_callK, z_star, z_starK, z_starK2, z_seqL, z_seqT, z_seqR, z_I, z_I0, z_mul, z_mulT, z_mulL, z_tupleR, z_tupM, z_lenP, z_lenM, z_add, z_addS, z_addL, z_addT, z_eqI, z_neI, z_eqB, z_neB, z_eqS, z_neS, z_isN, z_notN, z_ixL, z_ixT, z_ixR, z_ixM, z_atK, z_lenL, z_lenT, z_lenR, z_lenS, z_listL, z_listR, z_listT, z_tupleL, z_tupleT, z_sl, z_slK1, z_slK2, z_slK3, z_oNone, z_oSome, z_oK, z_slT, z_slL, z_slR, z_r1, z_r1K, z_r2, z_r2K, z_zip, z_zipL, z_zipT, z_iseq, z_meth, z_methK, z_methK2, z_app, z_appM, z_lc, isNon, Bool.not_true, Bool.not_false, z_at0, z_at1, z_at2, z_at3, z_mulS, z_okStr, z_join, z_intB, z_intI, z_dnew, z_setD, z_setD1, z_listD, z_listD1, z_par, z_parK, z_rev, z_revK, z_sum, z_max, z_disp2, z_back, z_backK, z_backK2, z_maxD, z_maxK, z_maxK2, z_dg, z_dgK, z_dgK2, z_dgM, List.set_cons_zero, List.set_cons_succ])
  have hl : b.length ≤ 1000 := by have := hb.1; omega
  rw [ds_map b]
  refine lc_mapF (f := fun s => (dpS s).map D.int) (by omega) (fun s hs M q1 q0 h1 h0 => ?_) ?_
  · cases s with
    | rep i bb =>
      unfold St.d
      (try simp only [z_seq, z_next, z_brk, z_cont, z_asg, z_asgK, z_gN, z_gSeq, z_gSeqL, z_gcons, z_gconsK, z_gnil, z_gsub, z_subK1, z_subK2, z_subK3, z_set, z_set1, z_set2, z_ret, z_retN, z_drop, z_dropK, z_if, z_brT, z_brF, z_for, z_forK, z_loop0, z_loop1, z_loopK, z_var0, z_varS, z_c, z_bin, z_binK1, z_binK2, z_test, z_asB, z_and, z_andT, z_andF, z_or, z_orT, z_orF, z_not, z_notK, z_andV, z_andVT, z_andVF, z_orV, z_orVT, z_orVF, z_notV, z_notVK, z_ifE, z_ifT, z_ifF, z_nil, z_cons, z_consK, z_consK2, z_tup, z_tupK, z_lst, z_lstK, z_un, z_unK, z_neg, z_cb, z_cbK, z_call, z_callK, z_star, z_starK, z_starK2, z_seqL, z_seqT, z_seqR, z_I, z_I0, z_mul, z_mulT, z_mulL, z_tupleR, z_tupM, z_lenP, z_lenM, z_add, z_addS, z_addL, z_addT, z_eqI, z_neI, z_eqB, z_neB, z_eqS, z_neS, z_isN, z_notN, z_ixL, z_ixT, z_ixR, z_ixM, z_atK, z_lenL, z_lenT, z_lenR, z_lenS, z_listL, z_listR, z_listT, z_tupleL, z_tupleT, z_sl, z_slK1, z_slK2, z_slK3, z_oNone, z_oSome, z_oK, z_slT, z_slL, z_slR, z_r1, z_r1K, z_r2, z_r2K, z_zip, z_zipL, z_zipT, z_iseq, z_meth, z_methK, z_methK2, z_app, z_appM, z_lc, isNon, Bool.not_true, Bool.not_false, z_at0, z_at1, z_at2, z_at3, z_mulS, z_okStr, z_join, z_intB, z_intI, z_dnew, z_setD, z_setD1, z_listD, z_listD1, z_par, z_parK, z_rev, z_revK, z_sum, z_max, z_disp2, z_back, z_backK, z_backK2, z_maxD, z_maxK, z_maxK2, z_dg, z_dgK, z_dgK2, z_dgM, List.set_cons_zero, List.set_cons_succ, wipeD, reduceIte, show ((("repeat" : Str) == ("repeat" : Str)) = true) from by decide +kernel])
      cases m with
      | zero => exact (hb.2 _ hs).elim
      | succ m =>
        obtain ⟨n, rfl⟩ : ∃ j, n = j + 1 := ⟨n - 1, by omega⟩
        refine ⟨_, ⟨bb, L, m, rfl, hb.2 _ hs, hL, by omega, rfl⟩, ?_⟩
        (try simp only [z_seq, z_next, z_brk, z_cont, z_asg, z_asgK, z_gN, z_gSeq, z_gSeqL, z_gcons, z_gconsK, z_gnil, z_gsub, z_subK1, z_subK2, z_subK3, z_set, z_set1, z_set2, z_ret, z_retN, z_drop, z_dropK, z_if, z_brT, z_brF, z_for, z_forK, z_loop0, z_loop1, z_loopK, z_var0, z_varS, z_c, z_bin, z_binK1, z_binK2, z_test, z_asB, z_and, z_andT, z_andF, z_or, z_orT, z_orF, z_not, z_notK, z_andV, z_andVT, z_andVF, z_orV, z_orVT, z_orVF, z_notV, z_notVK, z_ifE, z_ifT, z_ifF, z_nil, z_cons, z_consK, z_consK2, z_tup, z_tupK, z_lst, z_lstK, z_un, z_unK, z_neg, z_cb, z_cbK, z_call, z_callK, z_star, z_starK, z_starK2, z_seqL, z_seqT, z_seqR, z_I, z_I0, z_mul, z_mulT, z_mulL, z_tupleR, z_tupM, z_lenP, z_lenM, z_add, z_addS, z_addL, z_addT, z_eqI, z_neI, z_eqB, z_neB, z_eqS, z_neS, z_isN, z_notN, z_ixL, z_ixT, z_ixR, z_ixM, z_atK, z_lenL, z_lenT, z_lenR, z_lenS, z_listL, z_listR, z_listT, z_tupleL, z_tupleT, z_sl, z_slK1, z_slK2, z_slK3, z_oNone, z_oSome, z_oK, z_slT, z_slL, z_slR, z_r1, z_r1K, z_r2, z_r2K, z_zip, z_zipL, z_zipT, z_iseq, z_meth, z_methK, z_methK2, z_app, z_appM, z_lc, isNon, Bool.not_true, Bool.not_false, z_at0, z_at1, z_at2, z_at3, z_mulS, z_okStr, z_join, z_intB, z_intI, z_dnew, z_setD, z_setD1, z_listD, z_listD1, z_par, z_parK, z_rev, z_revK, z_sum, z_max, z_disp2, z_back, z_backK, z_backK2, z_maxD, z_maxK, z_maxK2, z_dg, z_dgK, z_dgK2, z_dgM, List.set_cons_zero, List.set_cons_succ])
        exact h1 _ rfl
    | go v =>
      unfold St.d
      (try simp only [z_seq, z_next, z_brk, z_cont, z_asg, z_asgK, z_gN, z_gSeq, z_gSeqL, z_gcons, z_gconsK, z_gnil, z_gsub, z_subK1, z_subK2, z_subK3, z_set, z_set1, z_set2, z_ret, z_retN, z_drop, z_dropK, z_if, z_brT, z_brF, z_for, z_forK, z_loop0, z_loop1, z_loopK, z_var0, z_varS, z_c, z_bin, z_binK1, z_binK2, z_test, z_asB, z_and, z_andT, z_andF, z_or, z_orT, z_orF, z_not, z_notK, z_andV, z_andVT, z_andVF, z_orV, z_orVT, z_orVF, z_notV, z_notVK, z_ifE, z_ifT, z_ifF, z_nil, z_cons, z_consK, z_consK2, z_tup, z_tupK, z_lst, z_lstK, z_un, z_unK, z_neg, z_cb, z_cbK, z_call, z_callK, z_star, z_starK, z_starK2, z_seqL, z_seqT, z_seqR, z_I, z_I0, z_mul, z_mulT, z_mulL, z_tupleR, z_tupM, z_lenP, z_lenM, z_add, z_addS, z_addL, z_addT, z_eqI, z_neI, z_eqB, z_neB, z_eqS, z_neS, z_isN, z_notN, z_ixL, z_ixT, z_ixR, z_ixM, z_atK, z_lenL, z_lenT, z_lenR, z_lenS, z_listL, z_listR, z_listT, z_tupleL, z_tupleT, z_sl, z_slK1, z_slK2, z_slK3, z_oNone, z_oSome, z_oK, z_slT, z_slL, z_slR, z_r1, z_r1K, z_r2, z_r2K, z_zip, z_zipL, z_zipT, z_iseq, z_meth, z_methK, z_methK2, z_app, z_appM, z_lc, isNon, Bool.not_true, Bool.not_false, z_at0, z_at1, z_at2, z_at3, z_mulS, z_okStr, z_join, z_intB, z_intI, z_dnew, z_setD, z_setD1, z_listD, z_listD1, z_par, z_parK, z_rev, z_revK, z_sum, z_max, z_disp2, z_back, z_backK, z_backK2, z_maxD, z_maxK, z_maxK2, z_dg, z_dgK, z_dgK2, z_dgM, List.set_cons_zero, List.set_cons_succ, wipeD, reduceIte, Bool.false_eq_true, show ((("go" : Str) == ("repeat" : Str)) = false) from by decide +kernel])
      exact h0 rfl
    | put v =>
      unfold St.d
      (try simp only [z_seq, z_next, z_brk, z_cont, z_asg, z_asgK, z_gN, z_gSeq, z_gSeqL, z_gcons, z_gconsK, z_gnil, z_gsub, z_subK1, z_subK2, z_subK3, z_set, z_set1, z_set2, z_ret, z_retN, z_drop, z_dropK, z_if, z_brT, z_brF, z_for, z_forK, z_loop0, z_loop1, z_loopK, z_var0, z_varS, z_c, z_bin, z_binK1, z_binK2, z_test, z_asB, z_and, z_andT, z_andF, z_or, z_orT, z_orF, z_not, z_notK, z_andV, z_andVT, z_andVF, z_orV, z_orVT, z_orVF, z_notV, z_notVK, z_ifE, z_ifT, z_ifF, z_nil, z_cons, z_consK, z_consK2, z_tup, z_tupK, z_lst, z_lstK, z_un, z_unK, z_neg, z_cb, z_cbK, z_call, z_callK, z_star, z_starK, z_starK2, z_seqL, z_seqT, z_seqR, z_I, z_I0, z_mul, z_mulT, z_mulL, z_tupleR, z_tupM, z_lenP, z_lenM, z_add, z_addS, z_addL, z_addT, z_eqI, z_neI, z_eqB, z_neB, z_eqS, z_neS, z_isN, z_notN, z_ixL, z_ixT, z_ixR, z_ixM, z_atK, z_lenL, z_lenT, z_lenR, z_lenS, z_listL, z_listR, z_listT, z_tupleL, z_tupleT, z_sl, z_slK1, z_slK2, z_slK3, z_oNone, z_oSome, z_oK, z_slT, z_slL, z_slR, z_r1, z_r1K, z_r2, z_r2K, z_zip, z_zipL, z_zipT, z_iseq, z_meth, z_methK, z_methK2, z_app, z_appM, z_lc, isNon, Bool.not_true, Bool.not_false, z_at0, z_at1, z_at2, z_at3, z_mulS, z_okStr, z_join, z_intB, z_intI, z_dnew, z_setD, z_setD1, z_listD, z_listD1, z_par, z_parK, z_rev, z_revK, z_sum, z_max, z_disp2, z_back, z_backK, z_backK2, z_maxD, z_maxK, z_maxK2, z_dg, z_dgK, z_dgK2, z_dgM, List.set_cons_zero, List.set_cons_succ, wipeD, reduceIte, Bool.false_eq_true, show ((("put" : Str) == ("repeat" : Str)) = false) from by decide +kernel])
      exact h0 rfl
    | call u nm =>
      have eu : (callW u == ("repeat" : Str)) = false := by cases u <;> decide +kernel
      unfold St.d
      (try simp only [z_seq, z_next, z_brk, z_cont, z_asg, z_asgK, z_gN, z_gSeq, z_gSeqL, z_gcons, z_gconsK, z_gnil, z_gsub, z_subK1, z_subK2, z_subK3, z_set, z_set1, z_set2, z_ret, z_retN, z_drop, z_dropK, z_if, z_brT, z_brF, z_for, z_forK, z_loop0, z_loop1, z_loopK, z_var0, z_varS, z_c, z_bin, z_binK1, z_binK2, z_test, z_asB, z_and, z_andT, z_andF, z_or, z_orT, z_orF, z_not, z_notK, z_andV, z_andVT, z_andVF, z_orV, z_orVT, z_orVF, z_notV, z_notVK, z_ifE, z_ifT, z_ifF, z_nil, z_cons, z_consK, z_consK2, z_tup, z_tupK, z_lst, z_lstK, z_un, z_unK, z_neg, z_cb, z_cbK, z_call, z_callK, z_star, z_starK, z_starK2, z_seqL, z_seqT, z_seqR, z_I, z_I0, z_mul, z_mulT, z_mulL, z_tupleR, z_tupM, z_lenP, z_lenM, z_add, z_addS, z_addL, z_addT, z_eqI, z_neI, z_eqB, z_neB, z_eqS, z_neS, z_isN, z_notN, z_ixL, z_ixT, z_ixR, z_ixM, z_atK, z_lenL, z_lenT, z_lenR, z_lenS, z_listL, z_listR, z_listT, z_tupleL, z_tupleT, z_sl, z_slK1, z_slK2, z_slK3, z_oNone, z_oSome, z_oK, z_slT, z_slL, z_slR, z_r1, z_r1K, z_r2, z_r2K, z_zip, z_zipL, z_zipT, z_iseq, z_meth, z_methK, z_methK2, z_app, z_appM, z_lc, isNon, Bool.not_true, Bool.not_false, z_at0, z_at1, z_at2, z_at3, z_mulS, z_okStr, z_join, z_intB, z_intI, z_dnew, z_setD, z_setD1, z_listD, z_listD1, z_par, z_parK, z_rev, z_revK, z_sum, z_max, z_disp2, z_back, z_backK, z_backK2, z_maxD, z_maxK, z_maxK2, z_dg, z_dgK, z_dgK2, z_dgM, List.set_cons_zero, List.set_cons_succ, wipeD, reduceIte, Bool.false_eq_true, eu])
      exact h0 rfl
  · rw [dp_map]
    (try simp only [z_seq, z_next, z_brk, z_cont, z_asg, z_asgK, z_gN, z_gSeq, z_gSeqL, z_gcons, z_gconsK, z_gnil, z_gsub, z_subK1, z_subK2, z_subK3, z_set, z_set1, z_set2, z_ret, z_retN, z_drop, z_dropK, z_if, z_brT, z_brF, z_for, z_forK, z_loop0, z_loop1, z_loopK, z_var0, z_varS, z_c, z_bin, z_binK1, z_binK2, z_test, z_asB, z_and, z_andT, z_andF, z_or, z_orT, z_orF, z_not, z_notK, z_andV, z_andVT, z_andVF, z_orV, z_orVT, z_orVF, z_notV, z_notVK, z_ifE, z_ifT, z_ifF, z_nil, z_cons, z_consK, z_consK2, z_tup, z_tupK, z_lst, z_lstK, z_un, z_unK, z_neg, z_cb, z_cbK, z_call, z_callK, z_star, z_starK, z_starK2, z_seqL, z_seqT, z_seqR, z_I, z_I0, z_mul, z_mulT, z_mulL, z_tupleR, z_tupM, z_lenP, z_lenM, z_add, z_addS, z_addL, z_addT, z_eqI, z_neI, z_eqB, z_neB, z_eqS, z_neS, z_isN, z_notN, z_ixL, z_ixT, z_ixR, z_ixM, z_atK, z_lenL, z_lenT, z_lenR, z_lenS, z_listL, z_listR, z_listT, z_tupleL, z_tupleT, z_sl, z_slK1, z_slK2, z_slK3, z_oNone, z_oSome, z_oK, z_slT, z_slL, z_slR, z_r1, z_r1K, z_r2, z_r2K, z_zip, z_zipL, z_zipT, z_iseq, z_meth, z_methK, z_methK2, z_app, z_appM, z_lc, isNon, Bool.not_true, Bool.not_false, z_at0, z_at1, z_at2, z_at3, z_mulS, z_okStr, z_join, z_intB, z_intI, z_dnew, z_setD, z_setD1, z_listD, z_listD1, z_par, z_parK, z_rev, z_revK, z_sum, z_max, z_disp2, z_back, z_backK, z_backK2, z_maxD, z_maxK, z_maxK2, z_dg, z_dgK, z_dgK2, z_dgM, List.set_cons_zero, List.set_cons_succ])
    exact ⟨_, rfl, q⟩
theorem okg_depth {P : Program} {w : World} {K : PySem.W.Frag} {mg : Str → Option Value} {base : Heap} {f_depth : Addr} {fd_depth : FuncData} (F_depth : L2.Fun K "depth" "depth" s_depth f_depth fd_depth) (gm_depth : mg "depth" = some (.ref f_depth)) (b_depth : Binds K fd_depth ["block"] []) (z_max : mg "max" = none) : ∀ n : Nat, Has P w K mg base (0 + n) "depth" (sp_depth_ n)
  | 0 => ⟨⟨f_depth, gm_depth, F_depth.kp, fun A outer s H us vs Q E _ _ _ h => by obtain ⟨_, _, _, _, _, q⟩ := h; exact q.elim⟩, fun _ _ _ _ _ _ _ _ h => h.elim⟩
  | n + 1 => by
    have h_depth := okg_depth (P := P) (w := w) (base := base) F_depth gm_depth b_depth z_max n
    exact (Has.mk' (k := 0 + n) (c := c_depth (sp_depth_ n)) gm_depth F_depth b_depth sc_depth (fun ds M k E h => by first | (obtain ⟨_, _, rfl | ⟨_, rfl, _⟩, _⟩ := h <;> rfl) | (obtain ⟨_, _, _, _, _, rfl, _⟩ := h; rfl) | (obtain ⟨_, ⟨_, _, _, _, rfl, _⟩, _⟩ := h; rfl) | (obtain ⟨_, ⟨_, _, _, _, _, rfl, _⟩, _⟩ := h; rfl) | (obtain ⟨_, rfl, _⟩ := h <;> rfl) | (obtain ⟨_, _, rfl, _⟩ := h <;> rfl) | (obtain ⟨_, _, _, rfl, _⟩ := h <;> rfl) | (obtain ⟨_, _, _, _, rfl, _⟩ := h <;> rfl) | (obtain ⟨_, ⟨_, rfl, _⟩, _⟩ := h <;> rfl) | (obtain ⟨_, ⟨_, _, rfl, _⟩, _⟩ := h <;> rfl) | (obtain ⟨_, ⟨_, _, _, rfl, _⟩, _⟩ := h <;> rfl) | (obtain ⟨_, ⟨_, rfl, _⟩ | ⟨_, rfl, _⟩, _⟩ := h <;> rfl)) (fun cdv A outer s H E hr => (pssd_cons (psd_setLc (i := 1) (g := (gN 2)) (own := [("statement", 2)]) rfl sc_depth.nd rfl rfl (sw_true rfl rfl rfl (by decide +kernel)) (pid_seq (pd_var (pv 0))) (blkOk_by (N := N_depth) (sc := defScope s_depth) (by decide +kernel)) mono_gN (tg_name (i := 2) (by decide)) (fun _ _ _ _ _ => pg_name (i := 2) sc_depth.nd rfl (Or.inl rfl)) (fun _ _ _ _ _ => ptsd_one (ptd_cmp od_eq (pd_ix xd_seq (pd_var (pv 2)) pd_int (fun _ _ => rfl)) pd_str (nomark _))) (fun _ _ _ _ _ => (pd_bin od_add (pd_callH h_depth (hr.mono (by first | decide | omega)) (pad_cons (pd_ix xd_seq (pd_var (pv 2)) pd_int (fun _ _ => rfl)) pad_nil)) pd_int)))
      (pssd_one (psd_ret (pd_maxD rfl (by rfl) z_max (pd_var (pv 1)) pd_int))))) (main_depth n) (mono_depth_ n)).imp (fun _ _ _ _ h => h) (mono_depth_ n)
theorem most_nonneg : ∀ {xs : List Int} {x : Int}, 0 ≤ x → 0 ≤ xs.foldl max x
  | [], x, h => h
  | y :: ys, x, h => by rw [List.foldl_cons]; exact most_nonneg (by omega)
theorem dpS_pos {s : St} {i : Int} (e : dpS s = some i) (h : ∀ bb j, s = .rep j bb → 0 ≤ mostD 0 (dpL bb)) : 0 ≤ i := by
  cases s with
  | rep j bb =>
    have e2 : mostD 0 (dpL bb) + 1 = i := by injection e
    have := h bb j rfl
    omega
  | _ => cases e
theorem dp_pos {N : Str → Prop} {L : Nat} : ∀ {n : Nat} {s : St}, OkS N L n s → ∀ i, dpS s = some i → 0 ≤ i := by
  have ofL : ∀ b : List St, (∀ s, s ∈ b → ∀ i, dpS s = some i → 0 ≤ i) → 0 ≤ mostD 0 (dpL b) := by
    intro b h
    have hx : ∀ x, x ∈ dpL b → 0 ≤ x := by
      induction b with
      | nil => intro x hx; cases hx
      | cons s b ih =>
        intro x hx
        have hx' : x ∈ (dpS s).toList ++ dpL b := hx
        rcases List.mem_append.mp hx' with h1 | h1
        · cases e : dpS s with
          | none => rw [e] at h1; cases h1
          | some i =>
            rw [e] at h1
            have : x = i := by simpa using h1
            rw [this]; exact h s List.mem_cons_self i e
        · exact ih (fun s hs => h s (List.mem_cons_of_mem _ hs)) x h1
    cases e : dpL b with
    | nil => exact Int.le_refl _
    | cons x xs => exact most_nonneg (hx x (by rw [e]; simp))
  intro n
  induction n with
  | zero =>
    intro s h i e
    cases s with
    | rep j bb => exact h.elim
    | _ => cases e
  | succ n ih =>
    intro s h i e
    refine dpS_pos e fun bb j es => ?_
    subst es
    exact ofL bb fun s hs => ih (h.2 s hs)
theorem fold_most : ∀ (xs : List Int) (x : Int), xs.foldl (fun i j => if j > i then j else i) x = xs.foldl max x
  | [], _ => rfl
  | y :: ys, x => by
    rw [List.foldl_cons, List.foldl_cons, fold_most ys]
    have : (if y > x then y else x) = max x y := by split <;> omega
    rw [this]
theorem most_fold {xs : List Int} (h : ∀ x, x ∈ xs → 0 ≤ x) : xs.foldl (fun i j => if j > i then j else i) 0 = mostD 0 xs := by
  rw [fold_most]
  cases xs with
  | nil => rfl
  | cons x xs =>
    have e : max 0 x = x := by have := h x (by simp); omega
    show (x :: xs).foldl max 0 = xs.foldl max x
    rw [List.foldl_cons, e]
theorem dpL_pos {N : Str → Prop} {L n : Nat} {b : List St} (h : OkB N L n b) : ∀ x, x ∈ dpL b → 0 ≤ x := by
  have h2 := h.2
  clear h
  induction b with
  | nil => intro x hx; cases hx
  | cons s b ih =>
    intro x hx
    have hx' : x ∈ (dpS s).toList ++ dpL b := hx
    rcases List.mem_append.mp hx' with h1 | h1
    · cases e : dpS s with
      | none => rw [e] at h1; cases h1
      | some i =>
        rw [e] at h1
        have : x = i := by simpa using h1
        rw [this]; exact dp_pos (h2 s List.mem_cons_self) i e
    · exact ih (fun s hs => h2 s (List.mem_cons_of_mem _ hs)) x h1
theorem dpL_app : ∀ {a b : List St}, dpL (a ++ b) = dpL a ++ dpL b
  | [], _ => rfl
  | s :: a, b => by
    show (dpS s).toList ++ dpL (a ++ b) = ((dpS s).toList ++ dpL a) ++ dpL b
    rw [dpL_app, List.append_assoc]
theorem main__law_a_deep (n : Nat) : ∀ ds M k, sp__law_a_deep_ (n + 1) ds M k (fun _ _ _ => False) → c__law_a_deep (sp__law_a_deep_ n) { nx := fun _ M' => k .non M', rt := k } (startD 3 ds) M := by
  rintro ds M k ⟨r, ⟨b, L, m, rfl, hb, hL, hm, rfl⟩, q⟩
  show c__law_a_deep _ _ [some (.tup (St.ds b)), none, none] M
  unfold c__law_a_deep
  (try simp only [z_seq, z_next, z_brk, z_cont, z_asg, z_asgK, z_gN, z_gSeq, z_gSeqL, z_gcons, z_gconsK, z_gnil, z_gsub, z_subK1, z_subK2, z_subK3, z_set, z_set1, z_set2, z_ret, z_retN, z_drop, z_dropK, z_if, z_brT, z_brF, z_for, z_forK, z_loop0, z_loop1, z_loopK, z_var0, z_varS, z_c, z_bin, z_binK1, z_binK2, z_test, z_asB, z_and, z_andT, z_andF, z_or, z_orT, z_orF, z_not, z_notK, z_andV, z_andVT, z_andVF, z_orV, z_orVT, z_orVF, z_notV, z_notVK, z_ifE, z_ifT, z_ifF, z_nil, z_cons, z_consK, z_consK2, z_tup, z_tupK, z_lst, z_lstK, z_un, z_unK, z_neg, z_cb, z_cbK, z_call, z_callK, z_star, z_starK, z_starK2, z_seqL, z_seqT, z_seqR, z_I, z_I0, z_mul, z_mulT, z_mulL, z_tupleR, z_tupM, z_lenP, z_lenM, z_add, z_addS, z_addL, z_addT, z_eqI, z_neI, z_eqB, z_neB, z_eqS, z_neS, z_isN, z_notN, z_ixL, z_ixT, z_ixR, z_ixM, z_atK, z_lenL, z_lenT, z_lenR, z_lenS, z_listL, z_listR, z_listT, z_tupleL, z_tupleT, z_sl, z_slK1, z_slK2, z_slK3, z_oNone, z_oSome, z_oK, z_slT, z_slL, z_slR, z_r1, z_r1K, z_r2, z_r2K, z_zip, z_zipL, z_zipT, z_iseq, z_meth, z_methK, z_methK2, z_app, z_appM, z_lc, isNon, Bool.not_true, Bool.not_false, z_at0, z_at1, z_at2, z_at3, z_mulS, z_okStr, z_join, z_intB, z_intI, z_dnew, z_setD, z_setD1, z_listD, z_listD1, z_par, z_parK, z_rev, z_revK, z_sum, z_max, z_disp2, z_back, z_backK, z_backK2, z_maxD, z_maxK, z_maxK2, z_dg, z_dgK, z_dgK2, z_dgM, List.set_cons_zero, List.set_cons_succ])
  rw [← most_fold (dpL_pos hb)] at q
  refine loop_inv (fun r τ M' => ∃ (dn b' : List St) (o2 : Option D), r = St.ds b' ∧ b = dn ++ b' ∧ M' = M ∧ τ = [some (.tup (St.ds b)), some (.int ((dpL dn).foldl (fun i j => if j > i then j else i) 0)), o2]) ?_ ⟨[], b, none, rfl, rfl, rfl, rfl⟩ ?_
  · rintro d r _ M' E' ⟨dn, b', o2, e1, e2, eM, rfl⟩ - - hnx -
    subst eM
    cases b' with
    | nil => cases e1
    | cons s b' =>
      obtain ⟨rfl, rfl⟩ : d = s.d ∧ r = St.ds b' := by
        unfold St.ds at e1; cases e1; exact ⟨rfl, rfl⟩
      have hs : OkS (fun _ => True) L m s := hb.2 s (by rw [e2]; simp)
      have nx : ∀ (o2 : Option D), E'.nx [some (.tup (St.ds b)), some (.int ((dpL (dn ++ [s])).foldl (fun i j => if j > i then j else i) 0)), o2] M' := fun o2 => hnx _ _ ⟨dn ++ [s], b', _, rfl, by rw [e2, List.append_assoc]; rfl, rfl, rfl⟩
      rw [dpL_app, List.foldl_append] at nx
      cases s with
      | rep i bb =>
        unfold St.d
        (try simp only [z_seq, z_next, z_brk, z_cont, z_asg, z_asgK, z_gN, z_gSeq, z_gSeqL, z_gcons, z_gconsK, z_gnil, z_gsub, z_subK1, z_subK2, z_subK3, z_set, z_set1, z_set2, z_ret, z_retN, z_drop, z_dropK, z_if, z_brT, z_brF, z_for, z_forK, z_loop0, z_loop1, z_loopK, z_var0, z_varS, z_c, z_bin, z_binK1, z_binK2, z_test, z_asB, z_and, z_andT, z_andF, z_or, z_orT, z_orF, z_not, z_notK, z_andV, z_andVT, z_andVF, z_orV, z_orVT, z_orVF, z_notV, z_notVK, z_ifE, z_ifT, z_ifF, z_nil, z_cons, z_consK, z_consK2, z_tup, z_tupK, z_lst, z_lstK, z_un, z_unK, z_neg, z_cb, z_cbK, z_call, z_callK, z_star, z_starK, z_starK2, z_seqL, z_seqT, z_seqR, z_I, z_I0, z_mul, z_mulT, z_mulL, z_tupleR, z_tupM, z_lenP, z_lenM, z_add, z_addS, z_addL, z_addT, z_eqI, z_neI, z_eqB, z_neB, z_eqS, z_neS, z_isN, z_notN, z_ixL, z_ixT, z_ixR, z_ixM, z_atK, z_lenL, z_lenT, z_lenR, z_lenS, z_listL, z_listR, z_listT, z_tupleL, z_tupleT, z_sl, z_slK1, z_slK2, z_slK3, z_oNone, z_oSome, z_oK, z_slT, z_slL, z_slR, z_r1, z_r1K, z_r2, z_r2K, z_zip, z_zipL, z_zipT, z_iseq, z_meth, z_methK, z_methK2, z_app, z_appM, z_lc, isNon, Bool.not_true, Bool.not_false, z_at0, z_at1, z_at2, z_at3, z_mulS, z_okStr, z_join, z_intB, z_intI, z_dnew, z_setD, z_setD1, z_listD, z_listD1, z_par, z_parK, z_rev, z_revK, z_sum, z_max, z_disp2, z_back, z_backK, z_backK2, z_maxD, z_maxK, z_maxK2, z_dg, z_dgK, z_dgK2, z_dgM, List.set_cons_zero, List.set_cons_succ, show ((("repeat" : Str) == ("repeat" : Str)) = true) from by decide +kernel])
        cases m with
        | zero => exact hs.elim
        | succ m =>
          obtain ⟨n, rfl⟩ : ∃ j, n = j + 1 := ⟨n - 1, by omega⟩
          refine ⟨_, ⟨bb, L, m, rfl, hs, hL, by omega, rfl⟩, ?_⟩
          (try simp only [z_seq, z_next, z_brk, z_cont, z_asg, z_asgK, z_gN, z_gSeq, z_gSeqL, z_gcons, z_gconsK, z_gnil, z_gsub, z_subK1, z_subK2, z_subK3, z_set, z_set1, z_set2, z_ret, z_retN, z_drop, z_dropK, z_if, z_brT, z_brF, z_for, z_forK, z_loop0, z_loop1, z_loopK, z_var0, z_varS, z_c, z_bin, z_binK1, z_binK2, z_test, z_asB, z_and, z_andT, z_andF, z_or, z_orT, z_orF, z_not, z_notK, z_andV, z_andVT, z_andVF, z_orV, z_orVT, z_orVF, z_notV, z_notVK, z_ifE, z_ifT, z_ifF, z_nil, z_cons, z_consK, z_consK2, z_tup, z_tupK, z_lst, z_lstK, z_un, z_unK, z_neg, z_cb, z_cbK, z_call, z_callK, z_star, z_starK, z_starK2, z_seqL, z_seqT, z_seqR, z_I, z_I0, z_mul, z_mulT, z_mulL, z_tupleR, z_tupM, z_lenP, z_lenM, z_add, z_addS, z_addL, z_addT, z_eqI, z_neI, z_eqB, z_neB, z_eqS, z_neS, z_isN, z_notN, z_ixL, z_ixT, z_ixR, z_ixM, z_atK, z_lenL, z_lenT, z_lenR, z_lenS, z_listL, z_listR, z_listT, z_tupleL, z_tupleT, z_sl, z_slK1, z_slK2, z_slK3, z_oNone, z_oSome, z_oK, z_slT, z_slL, z_slR, z_r1, z_r1K, z_r2, z_r2K, z_zip, z_zipL, z_zipT, z_iseq, z_meth, z_methK, z_methK2, z_app, z_appM, z_lc, isNon, Bool.not_true, Bool.not_false, z_at0, z_at1, z_at2, z_at3, z_mulS, z_okStr, z_join, z_intB, z_intI, z_dnew, z_setD, z_setD1, z_listD, z_listD1, z_par, z_parK, z_rev, z_revK, z_sum, z_max, z_disp2, z_back, z_backK, z_backK2, z_maxD, z_maxK, z_maxK2, z_dg, z_dgK, z_dgK2, z_dgM, List.set_cons_zero, List.set_cons_succ])
          have e : (dpL [St.rep i bb]) = [1 + mostD 0 (dpL bb)] := by
            show [mostD 0 (dpL bb) + 1] ++ [] = _
            rw [List.append_nil, Int.add_comm]
          rw [e] at nx
          exact nx _
      | go v =>
        unfold St.d
        (try simp only [z_seq, z_next, z_brk, z_cont, z_asg, z_asgK, z_gN, z_gSeq, z_gSeqL, z_gcons, z_gconsK, z_gnil, z_gsub, z_subK1, z_subK2, z_subK3, z_set, z_set1, z_set2, z_ret, z_retN, z_drop, z_dropK, z_if, z_brT, z_brF, z_for, z_forK, z_loop0, z_loop1, z_loopK, z_var0, z_varS, z_c, z_bin, z_binK1, z_binK2, z_test, z_asB, z_and, z_andT, z_andF, z_or, z_orT, z_orF, z_not, z_notK, z_andV, z_andVT, z_andVF, z_orV, z_orVT, z_orVF, z_notV, z_notVK, z_ifE, z_ifT, z_ifF, z_nil, z_cons, z_consK, z_consK2, z_tup, z_tupK, z_lst, z_lstK, z_un, z_unK, z_neg, z_cb, z_cbK, z_call, z_callK, z_star, z_starK, z_starK2, z_seqL, z_seqT, z_seqR, z_I, z_I0, z_mul, z_mulT, z_mulL, z_tupleR, z_tupM, z_lenP, z_lenM, z_add, z_addS, z_addL, z_addT, z_eqI, z_neI, z_eqB, z_neB, z_eqS, z_neS, z_isN, z_notN, z_ixL, z_ixT, z_ixR, z_ixM, z_atK, z_lenL, z_lenT, z_lenR, z_lenS, z_listL, z_listR, z_listT, z_tupleL, z_tupleT, z_sl, z_slK1, z_slK2, z_slK3, z_oNone, z_oSome, z_oK, z_slT, z_slL, z_slR, z_r1, z_r1K, z_r2, z_r2K, z_zip, z_zipL, z_zipT, z_iseq, z_meth, z_methK, z_methK2, z_app, z_appM, z_lc, isNon, Bool.not_true, Bool.not_false, z_at0, z_at1, z_at2, z_at3, z_mulS, z_okStr, z_join, z_intB, z_intI, z_dnew, z_setD, z_setD1, z_listD, z_listD1, z_par, z_parK, z_rev, z_revK, z_sum, z_max, z_disp2, z_back, z_backK, z_backK2, z_maxD, z_maxK, z_maxK2, z_dg, z_dgK, z_dgK2, z_dgM, List.set_cons_zero, List.set_cons_succ, show ((("go" : Str) == ("repeat" : Str)) = false) from by decide +kernel])
        exact nx _
      | put v =>
        unfold St.d
        (try simp only [z_seq, z_next, z_brk, z_cont, z_asg, z_asgK, z_gN, z_gSeq, z_gSeqL, z_gcons, z_gconsK, z_gnil, z_gsub, z_subK1, z_subK2, z_subK3, z_set, z_set1, z_set2, z_ret, z_retN, z_drop, z_dropK, z_if, z_brT, z_brF, z_for, z_forK, z_loop0, z_loop1, z_loopK, z_var0, z_varS, z_c, z_bin, z_binK1, z_binK2, z_test, z_asB, z_and, z_andT, z_andF, z_or, z_orT, z_orF, z_not, z_notK, z_andV, z_andVT, z_andVF, z_orV, z_orVT, z_orVF, z_notV, z_notVK, z_ifE, z_ifT, z_ifF, z_nil, z_cons, z_consK, z_consK2, z_tup, z_tupK, z_lst, z_lstK, z_un, z_unK, z_neg, z_cb, z_cbK, z_call, z_callK, z_star, z_starK, z_starK2, z_seqL, z_seqT, z_seqR, z_I, z_I0, z_mul, z_mulT, z_mulL, z_tupleR, z_tupM, z_lenP, z_lenM, z_add, z_addS, z_addL, z_addT, z_eqI, z_neI, z_eqB, z_neB, z_eqS, z_neS, z_isN, z_notN, z_ixL, z_ixT, z_ixR, z_ixM, z_atK, z_lenL, z_lenT, z_lenR, z_lenS, z_listL, z_listR, z_listT, z_tupleL, z_tupleT, z_sl, z_slK1, z_slK2, z_slK3, z_oNone, z_oSome, z_oK, z_slT, z_slL, z_slR, z_r1, z_r1K, z_r2, z_r2K, z_zip, z_zipL, z_zipT, z_iseq, z_meth, z_methK, z_methK2, z_app, z_appM, z_lc, isNon, Bool.not_true, Bool.not_false, z_at0, z_at1, z_at2, z_at3, z_mulS, z_okStr, z_join, z_intB, z_intI, z_dnew, z_setD, z_setD1, z_listD, z_listD1, z_par, z_parK, z_rev, z_revK, z_sum, z_max, z_disp2, z_back, z_backK, z_backK2, z_maxD, z_maxK, z_maxK2, z_dg, z_dgK, z_dgK2, z_dgM, List.set_cons_zero, List.set_cons_succ, show ((("put" : Str) == ("repeat" : Str)) = false) from by decide +kernel])
        exact nx _
      | call u nm =>
        have eu : (callW u == ("repeat" : Str)) = false := by cases u <;> decide +kernel
        unfold St.d
        (try simp only [z_seq, z_next, z_brk, z_cont, z_asg, z_asgK, z_gN, z_gSeq, z_gSeqL, z_gcons, z_gconsK, z_gnil, z_gsub, z_subK1, z_subK2, z_subK3, z_set, z_set1, z_set2, z_ret, z_retN, z_drop, z_dropK, z_if, z_brT, z_brF, z_for, z_forK, z_loop0, z_loop1, z_loopK, z_var0, z_varS, z_c, z_bin, z_binK1, z_binK2, z_test, z_asB, z_and, z_andT, z_andF, z_or, z_orT, z_orF, z_not, z_notK, z_andV, z_andVT, z_andVF, z_orV, z_orVT, z_orVF, z_notV, z_notVK, z_ifE, z_ifT, z_ifF, z_nil, z_cons, z_consK, z_consK2, z_tup, z_tupK, z_lst, z_lstK, z_un, z_unK, z_neg, z_cb, z_cbK, z_call, z_callK, z_star, z_starK, z_starK2, z_seqL, z_seqT, z_seqR, z_I, z_I0, z_mul, z_mulT, z_mulL, z_tupleR, z_tupM, z_lenP, z_lenM, z_add, z_addS, z_addL, z_addT, z_eqI, z_neI, z_eqB, z_neB, z_eqS, z_neS, z_isN, z_notN, z_ixL, z_ixT, z_ixR, z_ixM, z_atK, z_lenL, z_lenT, z_lenR, z_lenS, z_listL, z_listR, z_listT, z_tupleL, z_tupleT, z_sl, z_slK1, z_slK2, z_slK3, z_oNone, z_oSome, z_oK, z_slT, z_slL, z_slR, z_r1, z_r1K, z_r2, z_r2K, z_zip, z_zipL, z_zipT, z_iseq, z_meth, z_methK, z_methK2, z_app, z_appM, z_lc, isNon, Bool.not_true, Bool.not_false, z_at0, z_at1, z_at2, z_at3, z_mulS, z_okStr, z_join, z_intB, z_intI, z_dnew, z_setD, z_setD1, z_listD, z_listD1, z_par, z_parK, z_rev, z_revK, z_sum, z_max, z_disp2, z_back, z_backK, z_backK2, z_maxD, z_maxK, z_maxK2, z_dg, z_dgK, z_dgK2, z_dgM, List.set_cons_zero, List.set_cons_succ, eu])
        exact nx _
  · rintro τ' M' ⟨dn, b', o2, e1, e2, eM, rfl⟩
    cases b' with
    | cons s b' => unfold St.ds at e1; cases e1
    | nil =>
      rw [List.append_nil] at e2
      subst e2 eM
      (try simp only [z_seq, z_next, z_brk, z_cont, z_asg, z_asgK, z_gN, z_gSeq, z_gSeqL, z_gcons, z_gconsK, z_gnil, z_gsub, z_subK1, z_subK2, z_subK3, z_set, z_set1, z_set2, z_ret, z_retN, z_drop, z_dropK, z_if, z_brT, z_brF, z_for, z_forK, z_loop0, z_loop1, z_loopK, z_var0, z_varS, z_c, z_bin, z_binK1, z_binK2, z_test, z_asB, z_and, z_andT, z_andF, z_or, z_orT, z_orF, z_not, z_notK, z_andV, z_andVT, z_andVF, z_orV, z_orVT, z_orVF, z_notV, z_notVK, z_ifE, z_ifT, z_ifF, z_nil, z_cons, z_consK, z_consK2, z_tup, z_tupK, z_lst, z_lstK, z_un, z_unK, z_neg, z_cb, z_cbK, z_call, z_callK, z_star, z_starK, z_starK2, z_seqL, z_seqT, z_seqR, z_I, z_I0, z_mul, z_mulT, z_mulL, z_tupleR, z_tupM, z_lenP, z_lenM, z_add, z_addS, z_addL, z_addT, z_eqI, z_neI, z_eqB, z_neB, z_eqS, z_neS, z_isN, z_notN, z_ixL, z_ixT, z_ixR, z_ixM, z_atK, z_lenL, z_lenT, z_lenR, z_lenS, z_listL, z_listR, z_listT, z_tupleL, z_tupleT, z_sl, z_slK1, z_slK2, z_slK3, z_oNone, z_oSome, z_oK, z_slT, z_slL, z_slR, z_r1, z_r1K, z_r2, z_r2K, z_zip, z_zipL, z_zipT, z_iseq, z_meth, z_methK, z_methK2, z_app, z_appM, z_lc, isNon, Bool.not_true, Bool.not_false, z_at0, z_at1, z_at2, z_at3, z_mulS, z_okStr, z_join, z_intB, z_intI, z_dnew, z_setD, z_setD1, z_listD, z_listD1, z_par, z_parK, z_rev, z_revK, z_sum, z_max, z_disp2, z_back, z_backK, z_backK2, z_maxD, z_maxK, z_maxK2, z_dg, z_dgK, z_dgK2, z_dgM, List.set_cons_zero, List.set_cons_succ])
      exact q
theorem okg__law_a_deep {P : Program} {w : World} {K : PySem.W.Frag} {mg : Str → Option Value} {base : Heap} {f__law_a_deep : Addr} {fd__law_a_deep : FuncData} (F__law_a_deep : L2.Fun K "_law_a_deep" "_law_a_deep" s__law_a_deep f__law_a_deep fd__law_a_deep) (gm__law_a_deep : mg "_law_a_deep" = some (.ref f__law_a_deep)) (b__law_a_deep : Binds K fd__law_a_deep ["_law_block"] []) (z_max : mg "max" = none) : ∀ n : Nat, Has P w K mg base (0 + n) "_law_a_deep" (sp__law_a_deep_ n)
  | 0 => ⟨⟨f__law_a_deep, gm__law_a_deep, F__law_a_deep.kp, fun A outer s H us vs Q E _ _ _ h => by obtain ⟨_, _, _, _, _, q⟩ := h; exact q.elim⟩, fun _ _ _ _ _ _ _ _ h => h.elim⟩
  | n + 1 => by
    have h__law_a_deep := okg__law_a_deep (P := P) (w := w) (base := base) F__law_a_deep gm__law_a_deep b__law_a_deep z_max n
    exact (Has.mk' (k := 0 + n) (c := c__law_a_deep (sp__law_a_deep_ n)) gm__law_a_deep F__law_a_deep b__law_a_deep sc__law_a_deep (fun ds M k E h => by first | (obtain ⟨_, _, rfl | ⟨_, rfl, _⟩, _⟩ := h <;> rfl) | (obtain ⟨_, _, _, _, _, rfl, _⟩ := h; rfl) | (obtain ⟨_, ⟨_, _, _, _, rfl, _⟩, _⟩ := h; rfl) | (obtain ⟨_, ⟨_, _, _, _, _, rfl, _⟩, _⟩ := h; rfl) | (obtain ⟨_, rfl, _⟩ := h <;> rfl) | (obtain ⟨_, _, rfl, _⟩ := h <;> rfl) | (obtain ⟨_, _, _, rfl, _⟩ := h <;> rfl) | (obtain ⟨_, _, _, _, rfl, _⟩ := h <;> rfl) | (obtain ⟨_, ⟨_, rfl, _⟩, _⟩ := h <;> rfl) | (obtain ⟨_, ⟨_, _, rfl, _⟩, _⟩ := h <;> rfl) | (obtain ⟨_, ⟨_, _, _, rfl, _⟩, _⟩ := h <;> rfl) | (obtain ⟨_, ⟨_, rfl, _⟩ | ⟨_, rfl, _⟩, _⟩ := h <;> rfl)) (fun cdv A outer s H E hr => (pssd_cons (psd_set (i := 1) sc__law_a_deep.nd rfl (Or.inl rfl) pd_int)
      (pssd_cons (psd_for PassesOwn.never rfl (pid_seq (pd_var (pv 0))) (pgd_name (i := 2) sc__law_a_deep.nd rfl (Or.inl rfl)) (pssd_one (psd_if (ptd_cmp od_eq (pd_ix xd_seq (pd_var (pv 2)) pd_int (fun _ _ => rfl)) pd_str (nomark _)) (pssd_one (psd_set (i := 1) sc__law_a_deep.nd rfl (Or.inl rfl) (pd_callB (cd_max rfl) (by rfl) z_max (by decide +kernel) (pad_cons (pd_var (pv 1)) (pad_cons (pd_bin od_add pd_int (pd_callH h__law_a_deep (hr.mono (by first | decide | omega)) (pad_cons (pd_ix xd_seq (pd_var (pv 2)) pd_int (fun _ _ => rfl)) pad_nil))) pad_nil))))) pssd_nil)))
      (pssd_one (psd_ret (pd_var (pv 1))))))) (main__law_a_deep n) (mono__law_a_deep_ n)).imp (fun _ _ _ _ h => h) (mono__law_a_deep_ n)
/-! the law's own reversing -/
def sp__law_reverse_ : Nat → SpD := spN fun n => spP fun ds r => ∃ (b : List St) (L m : Nat), ds = [.tup (St.ds b)] ∧ OkB (fun _ => True) L m b ∧ L ≤ 1000 ∧ m + 1 ≤ n ∧ r = .tup (St.ds (revL b))
abbrev mono__law_reverse_ (n : Nat) : MonoS (sp__law_reverse_ (n + 1)) := mono_P
def c__law_reverse (sp__law_reverse : SpD) : CS :=
  (cSeq (cAsg (cLst cNil) (gN 1))
    (cSeq (cFor (ciSeq (cBack (cVar 0) (cUn ρNeg (cC (.int 1))))) (gN 2) (cIf (cTest (cBin ρEq (cBin ρIx (cVar 2) (cC (.int 0))) (cC (.str "repeat")))) (cDrop (cMeth okL ρApp (cVar 1) (cCons (cTup (cCons (cC (.str "repeat")) (cCons (cBin ρIx (cVar 2) (cC (.int 1))) (cCons (cCall (NoX sp__law_reverse) (cCons (cBin ρIx (cVar 2) (cC (.int 2))) cNil)) cNil)))) cNil))) (cIf (cTest (cBin ρEq (cBin ρIx (cVar 2) (cC (.int 0))) (cC (.str "go")))) (cDrop (cMeth okL ρApp (cVar 1) (cCons (cTup (cCons (cC (.str "go")) (cCons (cCB ρTuple (cCons (cLc (ciSeq (cBin ρIx (cVar 2) (cC (.int 1)))) (gN 3) cYes (cUn ρNeg (cVar 3)) [3]) cNil)) cNil))) cNil))) (cIf (cTest (cBin ρEq (cBin ρIx (cVar 2) (cC (.int 0))) (cC (.str "put")))) (cDrop (cMeth okL ρApp (cVar 1) (cCons (cTup (cCons (cC (.str "put")) (cCons (cUn ρNeg (cBin ρIx (cVar 2) (cC (.int 1)))) cNil))) cNil))) (cDrop (cMeth okL ρApp (cVar 1) (cCons (cTup (cCons (cDGet (cDisp2 "do" "undo" "undo" "do") (cBin ρIx (cVar 2) (cC (.int 0)))) (cCons (cBin ρIx (cVar 2) (cC (.int 1))) cNil))) cNil)))))))
    (cRet (cCB ρTuple (cCons (cVar 1) cNil)))))
theorem neg_lc {τ : StD} {i : Nat} {M : MS} {k : KD} {v : List Int} {ce : DE} (hl : v.length ≤ 1000) (h : ∀ (x : Int) (M : MS) (q : KD), q (.int (-x)) M → gN i (.int x) (wipeD τ [i]) M (fun τ2 M2 => ce noX τ2 M2 q)) (hk : k (.lst ((v.map fun x => -x).map D.int)) M) : lcK (gN i) cYes ce [i] τ k (v.map D.int) M :=
  lc_map (f := fun x : Int => D.int (-x)) (by omega) (fun x _ M q hq => h x M q hq) (by rw [List.map_map] at hk; exact hk)
theorem main__law_reverse (n : Nat) : ∀ ds M k, sp__law_reverse_ (n + 1) ds M k (fun _ _ _ => False) → c__law_reverse (sp__law_reverse_ n) { nx := fun _ M' => k .non M', rt := frzR k } (startD 4 ds) M := by
  rintro ds M k ⟨r, ⟨b, L, m, rfl, hb, hL, hm, rfl⟩, q⟩
  show c__law_reverse _ _ [some (.tup (St.ds b)), none, none, none] M
  unfold c__law_reverse
  (try simp only [z_seq, z_next, z_brk, z_cont, z_asg, z_asgK, z_gN, z_gSeq, z_gSeqL, z_gcons, z_gconsK, z_gnil, z_gsub, z_subK1, z_subK2, z_subK3, z_set, z_set1, z_set2, z_ret, z_retN, z_drop, z_dropK, z_if, z_brT, z_brF, z_for, z_forK, z_loop0, z_loop1, z_loopK, z_var0, z_varS, z_c, z_bin, z_binK1, z_binK2, z_test, z_asB, z_and, z_andT, z_andF, z_or, z_orT, z_orF, z_not, z_notK, z_andV, z_andVT, z_andVF, z_orV, z_orVT, z_orVF, z_notV, z_notVK, z_ifE, z_ifT, z_ifF, z_nil, z_cons, z_consK, z_consK2, z_tup, z_tupK, z_lst, z_lstK, z_un, z_unK, z_neg, z_cb, z_cbK, z_call, z_callK, z_star, z_starK, z_starK2, z_seqL, z_seqT, z_seqR, z_I, z_I0, z_mul, z_mulT, z_mulL, z_tupleR, z_tupM, z_lenP, z_lenM, z_add, z_addS, z_addL, z_addT, z_eqI, z_neI, z_eqB, z_neB, z_eqS, z_neS, z_isN, z_notN, z_ixL, z_ixT, z_ixR, z_ixM, z_atK, z_lenL, z_lenT, z_lenR, z_lenS, z_listL, z_listR, z_listT, z_tupleL, z_tupleT, z_sl, z_slK1, z_slK2, z_slK3, z_oNone, z_oSome, z_oK, z_slT, z_slL, z_slR, z_r1, z_r1K, z_r2, z_r2K, z_zip, z_zipL, z_zipT, z_iseq, z_meth, z_methK, z_methK2, z_app, z_appM, z_lc, isNon, Bool.not_true, Bool.not_false, z_at0, z_at1, z_at2, z_at3, z_mulS, z_okStr, z_join, z_intB, z_intI, z_dnew, z_setD, z_setD1, z_listD, z_listD1, z_par, z_parK, z_rev, z_revK, z_sum, z_max, z_disp2, z_back, z_backK, z_backK2, z_maxD, z_maxK, z_maxK2, z_dg, z_dgK, z_dgK2, z_dgM, List.set_cons_zero, List.set_cons_succ])
  refine ⟨(size1M (Nat.le_of_ble_eq_true rfl)), .inr fun p np => ?_⟩
  (try simp only [z_seq, z_next, z_brk, z_cont, z_asg, z_asgK, z_gN, z_gSeq, z_gSeqL, z_gcons, z_gconsK, z_gnil, z_gsub, z_subK1, z_subK2, z_subK3, z_set, z_set1, z_set2, z_ret, z_retN, z_drop, z_dropK, z_if, z_brT, z_brF, z_for, z_forK, z_loop0, z_loop1, z_loopK, z_var0, z_varS, z_c, z_bin, z_binK1, z_binK2, z_test, z_asB, z_and, z_andT, z_andF, z_or, z_orT, z_orF, z_not, z_notK, z_andV, z_andVT, z_andVF, z_orV, z_orVT, z_orVF, z_notV, z_notVK, z_ifE, z_ifT, z_ifF, z_nil, z_cons, z_consK, z_consK2, z_tup, z_tupK, z_lst, z_lstK, z_un, z_unK, z_neg, z_cb, z_cbK, z_call, z_callK, z_star, z_starK, z_starK2, z_seqL, z_seqT, z_seqR, z_I, z_I0, z_mul, z_mulT, z_mulL, z_tupleR, z_tupM, z_lenP, z_lenM, z_add, z_addS, z_addL, z_addT, z_eqI, z_neI, z_eqB, z_neB, z_eqS, z_neS, z_isN, z_notN, z_ixL, z_ixT, z_ixR, z_ixM, z_atK, z_lenL, z_lenT, z_lenR, z_lenS, z_listL, z_listR, z_listT, z_tupleL, z_tupleT, z_sl, z_slK1, z_slK2, z_slK3, z_oNone, z_oSome, z_oK, z_slT, z_slL, z_slR, z_r1, z_r1K, z_r2, z_r2K, z_zip, z_zipL, z_zipT, z_iseq, z_meth, z_methK, z_methK2, z_app, z_appM, z_lc, isNon, Bool.not_true, Bool.not_false, z_at0, z_at1, z_at2, z_at3, z_mulS, z_okStr, z_join, z_intB, z_intI, z_dnew, z_setD, z_setD1, z_listD, z_listD1, z_par, z_parK, z_rev, z_revK, z_sum, z_max, z_disp2, z_back, z_backK, z_backK2, z_maxD, z_maxK, z_maxK2, z_dg, z_dgK, z_dgK2, z_dgM, List.set_cons_zero, List.set_cons_succ])
  refine ⟨by decide, ?_⟩
  rw [ds_rev]
  refine loop_inv (fun r τ M' => ∃ (dn b' : List St) (o2 o3 : Option D), r = b'.map St.d ∧ b.reverse = dn ++ b' ∧ M' p = some (.lst ((dn.map revS).map St.d)) ∧ (∀ a m, M a = some m → M' a = some m) ∧ τ = [some (.tup (St.ds b)), some (.ref p), o2, o3]) ?_ ⟨[], b.reverse, none, none, rfl, rfl, updM_same, fun a m h => by rw [updM_ne (mne_of_none h np)]; exact h, rfl⟩ ?_
  · rintro d r _ M' E' ⟨dn, b', o2, o3, e1, e2, hp, hM, rfl⟩ - - hnx -
    cases b' with
    | nil => cases e1
    | cons s b' =>
      cases e1
      have hsb : s ∈ b := List.mem_reverse.mp (by rw [e2]; simp)
      have hs : OkS (fun _ => True) L m s := hb.2 s hsb
      have hdl : dn.length ≤ 1000 := by
        have h1 := hb.1
        have h2 : b.reverse.length = b.length := List.length_reverse
        rw [e2, List.length_append] at h2
        omega
      have nx : ∀ (o2 o3 : Option D) (M2 : MS), M2 p = some (.lst ((dn.map revS).map St.d)) → (∀ a m, M a = some m → M2 a = some m) → ((dn.map revS).map St.d).length < sizeLine ∧ E'.nx [some (.tup (St.ds b)), some (.ref p), o2, o3] (updM M2 p (.lst ((dn.map revS).map St.d ++ [(revS s).d]))) := fun o2 o3 M2 h1 h2 => by
        refine ⟨by rw [List.length_map, List.length_map]; exact size1ML (by omega), hnx _ _ ⟨dn ++ [s], b', _, _, rfl, by rw [e2, List.append_assoc]; rfl, ?_, fun a m h => ?_, rfl⟩⟩
        · rw [updM_same, List.map_append, List.map_append]; rfl
        · rw [updM_ne (mne_of_none h np)]; exact h2 a m h
      cases s with
      | rep i bb =>
        unfold St.d
        (try simp only [z_seq, z_next, z_brk, z_cont, z_asg, z_asgK, z_gN, z_gSeq, z_gSeqL, z_gcons, z_gconsK, z_gnil, z_gsub, z_subK1, z_subK2, z_subK3, z_set, z_set1, z_set2, z_ret, z_retN, z_drop, z_dropK, z_if, z_brT, z_brF, z_for, z_forK, z_loop0, z_loop1, z_loopK, z_var0, z_varS, z_c, z_bin, z_binK1, z_binK2, z_test, z_asB, z_and, z_andT, z_andF, z_or, z_orT, z_orF, z_not, z_notK, z_andV, z_andVT, z_andVF, z_orV, z_orVT, z_orVF, z_notV, z_notVK, z_ifE, z_ifT, z_ifF, z_nil, z_cons, z_consK, z_consK2, z_tup, z_tupK, z_lst, z_lstK, z_un, z_unK, z_neg, z_cb, z_cbK, z_call, z_callK, z_star, z_starK, z_starK2, z_seqL, z_seqT, z_seqR, z_I, z_I0, z_mul, z_mulT, z_mulL, z_tupleR, z_tupM, z_lenP, z_lenM, z_add, z_addS, z_addL, z_addT, z_eqI, z_neI, z_eqB, z_neB, z_eqS, z_neS, z_isN, z_notN, z_ixL, z_ixT, z_ixR, z_ixM, z_atK, z_lenL, z_lenT, z_lenR, z_lenS, z_listL, z_listR, z_listT, z_tupleL, z_tupleT, z_sl, z_slK1, z_slK2, z_slK3, z_oNone, z_oSome, z_oK, z_slT, z_slL, z_slR, z_r1, z_r1K, z_r2, z_r2K, z_zip, z_zipL, z_zipT, z_iseq, z_meth, z_methK, z_methK2, z_app, z_appM, z_lc, isNon, Bool.not_true, Bool.not_false, z_at0, z_at1, z_at2, z_at3, z_mulS, z_okStr, z_join, z_intB, z_intI, z_dnew, z_setD, z_setD1, z_listD, z_listD1, z_par, z_parK, z_rev, z_revK, z_sum, z_max, z_disp2, z_back, z_backK, z_backK2, z_maxD, z_maxK, z_maxK2, z_dg, z_dgK, z_dgK2, z_dgM, List.set_cons_zero, List.set_cons_succ, show ((("repeat" : Str) == ("repeat" : Str)) = true) from by decide +kernel, z_okL, hp])
        cases m with
        | zero => exact hs.elim
        | succ m =>
          obtain ⟨n, rfl⟩ : ∃ j, n = j + 1 := ⟨n - 1, by omega⟩
          refine ⟨⟨_, rfl⟩, _, ⟨bb, L, m, rfl, hs, hL, by omega, rfl⟩, ?_⟩
          (try simp only [z_seq, z_next, z_brk, z_cont, z_asg, z_asgK, z_gN, z_gSeq, z_gSeqL, z_gcons, z_gconsK, z_gnil, z_gsub, z_subK1, z_subK2, z_subK3, z_set, z_set1, z_set2, z_ret, z_retN, z_drop, z_dropK, z_if, z_brT, z_brF, z_for, z_forK, z_loop0, z_loop1, z_loopK, z_var0, z_varS, z_c, z_bin, z_binK1, z_binK2, z_test, z_asB, z_and, z_andT, z_andF, z_or, z_orT, z_orF, z_not, z_notK, z_andV, z_andVT, z_andVF, z_orV, z_orVT, z_orVF, z_notV, z_notVK, z_ifE, z_ifT, z_ifF, z_nil, z_cons, z_consK, z_consK2, z_tup, z_tupK, z_lst, z_lstK, z_un, z_unK, z_neg, z_cb, z_cbK, z_call, z_callK, z_star, z_starK, z_starK2, z_seqL, z_seqT, z_seqR, z_I, z_I0, z_mul, z_mulT, z_mulL, z_tupleR, z_tupM, z_lenP, z_lenM, z_add, z_addS, z_addL, z_addT, z_eqI, z_neI, z_eqB, z_neB, z_eqS, z_neS, z_isN, z_notN, z_ixL, z_ixT, z_ixR, z_ixM, z_atK, z_lenL, z_lenT, z_lenR, z_lenS, z_listL, z_listR, z_listT, z_tupleL, z_tupleT, z_sl, z_slK1, z_slK2, z_slK3, z_oNone, z_oSome, z_oK, z_slT, z_slL, z_slR, z_r1, z_r1K, z_r2, z_r2K, z_zip, z_zipL, z_zipT, z_iseq, z_meth, z_methK, z_methK2, z_app, z_appM, z_lc, isNon, Bool.not_true, Bool.not_false, z_at0, z_at1, z_at2, z_at3, z_mulS, z_okStr, z_join, z_intB, z_intI, z_dnew, z_setD, z_setD1, z_listD, z_listD1, z_par, z_parK, z_rev, z_revK, z_sum, z_max, z_disp2, z_back, z_backK, z_backK2, z_maxD, z_maxK, z_maxK2, z_dg, z_dgK, z_dgK2, z_dgM, List.set_cons_zero, List.set_cons_succ])
          refine ⟨(size1M (Nat.le_of_ble_eq_true rfl)), ?_⟩
          (try simp only [z_seq, z_next, z_brk, z_cont, z_asg, z_asgK, z_gN, z_gSeq, z_gSeqL, z_gcons, z_gconsK, z_gnil, z_gsub, z_subK1, z_subK2, z_subK3, z_set, z_set1, z_set2, z_ret, z_retN, z_drop, z_dropK, z_if, z_brT, z_brF, z_for, z_forK, z_loop0, z_loop1, z_loopK, z_var0, z_varS, z_c, z_bin, z_binK1, z_binK2, z_test, z_asB, z_and, z_andT, z_andF, z_or, z_orT, z_orF, z_not, z_notK, z_andV, z_andVT, z_andVF, z_orV, z_orVT, z_orVF, z_notV, z_notVK, z_ifE, z_ifT, z_ifF, z_nil, z_cons, z_consK, z_consK2, z_tup, z_tupK, z_lst, z_lstK, z_un, z_unK, z_neg, z_cb, z_cbK, z_call, z_callK, z_star, z_starK, z_starK2, z_seqL, z_seqT, z_seqR, z_I, z_I0, z_mul, z_mulT, z_mulL, z_tupleR, z_tupM, z_lenP, z_lenM, z_add, z_addS, z_addL, z_addT, z_eqI, z_neI, z_eqB, z_neB, z_eqS, z_neS, z_isN, z_notN, z_ixL, z_ixT, z_ixR, z_ixM, z_atK, z_lenL, z_lenT, z_lenR, z_lenS, z_listL, z_listR, z_listT, z_tupleL, z_tupleT, z_sl, z_slK1, z_slK2, z_slK3, z_oNone, z_oSome, z_oK, z_slT, z_slL, z_slR, z_r1, z_r1K, z_r2, z_r2K, z_zip, z_zipL, z_zipT, z_iseq, z_meth, z_methK, z_methK2, z_app, z_appM, z_lc, isNon, Bool.not_true, Bool.not_false, z_at0, z_at1, z_at2, z_at3, z_mulS, z_okStr, z_join, z_intB, z_intI, z_dnew, z_setD, z_setD1, z_listD, z_listD1, z_par, z_parK, z_rev, z_revK, z_sum, z_max, z_disp2, z_back, z_backK, z_backK2, z_maxD, z_maxK, z_maxK2, z_dg, z_dgK, z_dgK2, z_dgM, List.set_cons_zero, List.set_cons_succ, hp])
          exact nx _ _ _ hp hM
      | go v =>
        have hv : v.length ≤ 1000 := by cases m <;> exact hs
        unfold St.d pl
        (try simp only [z_seq, z_next, z_brk, z_cont, z_asg, z_asgK, z_gN, z_gSeq, z_gSeqL, z_gcons, z_gconsK, z_gnil, z_gsub, z_subK1, z_subK2, z_subK3, z_set, z_set1, z_set2, z_ret, z_retN, z_drop, z_dropK, z_if, z_brT, z_brF, z_for, z_forK, z_loop0, z_loop1, z_loopK, z_var0, z_varS, z_c, z_bin, z_binK1, z_binK2, z_test, z_asB, z_and, z_andT, z_andF, z_or, z_orT, z_orF, z_not, z_notK, z_andV, z_andVT, z_andVF, z_orV, z_orVT, z_orVF, z_notV, z_notVK, z_ifE, z_ifT, z_ifF, z_nil, z_cons, z_consK, z_consK2, z_tup, z_tupK, z_lst, z_lstK, z_un, z_unK, z_neg, z_cb, z_cbK, z_call, z_callK, z_star, z_starK, z_starK2, z_seqL, z_seqT, z_seqR, z_I, z_I0, z_mul, z_mulT, z_mulL, z_tupleR, z_tupM, z_lenP, z_lenM, z_add, z_addS, z_addL, z_addT, z_eqI, z_neI, z_eqB, z_neB, z_eqS, z_neS, z_isN, z_notN, z_ixL, z_ixT, z_ixR, z_ixM, z_atK, z_lenL, z_lenT, z_lenR, z_lenS, z_listL, z_listR, z_listT, z_tupleL, z_tupleT, z_sl, z_slK1, z_slK2, z_slK3, z_oNone, z_oSome, z_oK, z_slT, z_slL, z_slR, z_r1, z_r1K, z_r2, z_r2K, z_zip, z_zipL, z_zipT, z_iseq, z_meth, z_methK, z_methK2, z_app, z_appM, z_lc, isNon, Bool.not_true, Bool.not_false, z_at0, z_at1, z_at2, z_at3, z_mulS, z_okStr, z_join, z_intB, z_intI, z_dnew, z_setD, z_setD1, z_listD, z_listD1, z_par, z_parK, z_rev, z_revK, z_sum, z_max, z_disp2, z_back, z_backK, z_backK2, z_maxD, z_maxK, z_maxK2, z_dg, z_dgK, z_dgK2, z_dgM, List.set_cons_zero, List.set_cons_succ, show ((("go" : Str) == ("repeat" : Str)) = false) from by decide +kernel, show ((("go" : Str) == ("go" : Str)) = true) from by decide +kernel, z_okL, hp])
        refine ⟨⟨_, rfl⟩, neg_lc hv (fun x M q hq => ?_) ?_⟩
        · (try simp only [z_seq, z_next, z_brk, z_cont, z_asg, z_asgK, z_gN, z_gSeq, z_gSeqL, z_gcons, z_gconsK, z_gnil, z_gsub, z_subK1, z_subK2, z_subK3, z_set, z_set1, z_set2, z_ret, z_retN, z_drop, z_dropK, z_if, z_brT, z_brF, z_for, z_forK, z_loop0, z_loop1, z_loopK, z_var0, z_varS, z_c, z_bin, z_binK1, z_binK2, z_test, z_asB, z_and, z_andT, z_andF, z_or, z_orT, z_orF, z_not, z_notK, z_andV, z_andVT, z_andVF, z_orV, z_orVT, z_orVF, z_notV, z_notVK, z_ifE, z_ifT, z_ifF, z_nil, z_cons, z_consK, z_consK2, z_tup, z_tupK, z_lst, z_lstK, z_un, z_unK, z_neg, z_cb, z_cbK, z_call, z_callK, z_star, z_starK, z_starK2, z_seqL, z_seqT, z_seqR, z_I, z_I0, z_mul, z_mulT, z_mulL, z_tupleR, z_tupM, z_lenP, z_lenM, z_add, z_addS, z_addL, z_addT, z_eqI, z_neI, z_eqB, z_neB, z_eqS, z_neS, z_isN, z_notN, z_ixL, z_ixT, z_ixR, z_ixM, z_atK, z_lenL, z_lenT, z_lenR, z_lenS, z_listL, z_listR, z_listT, z_tupleL, z_tupleT, z_sl, z_slK1, z_slK2, z_slK3, z_oNone, z_oSome, z_oK, z_slT, z_slL, z_slR, z_r1, z_r1K, z_r2, z_r2K, z_zip, z_zipL, z_zipT, z_iseq, z_meth, z_methK, z_methK2, z_app, z_appM, z_lc, isNon, Bool.not_true, Bool.not_false, z_at0, z_at1, z_at2, z_at3, z_mulS, z_okStr, z_join, z_intB, z_intI, z_dnew, z_setD, z_setD1, z_listD, z_listD1, z_par, z_parK, z_rev, z_revK, z_sum, z_max, z_disp2, z_back, z_backK, z_backK2, z_maxD, z_maxK, z_maxK2, z_dg, z_dgK, z_dgK2, z_dgM, List.set_cons_zero, List.set_cons_succ, wipeD])
          exact hq
        · (try simp only [z_seq, z_next, z_brk, z_cont, z_asg, z_asgK, z_gN, z_gSeq, z_gSeqL, z_gcons, z_gconsK, z_gnil, z_gsub, z_subK1, z_subK2, z_subK3, z_set, z_set1, z_set2, z_ret, z_retN, z_drop, z_dropK, z_if, z_brT, z_brF, z_for, z_forK, z_loop0, z_loop1, z_loopK, z_var0, z_varS, z_c, z_bin, z_binK1, z_binK2, z_test, z_asB, z_and, z_andT, z_andF, z_or, z_orT, z_orF, z_not, z_notK, z_andV, z_andVT, z_andVF, z_orV, z_orVT, z_orVF, z_notV, z_notVK, z_ifE, z_ifT, z_ifF, z_nil, z_cons, z_consK, z_consK2, z_tup, z_tupK, z_lst, z_lstK, z_un, z_unK, z_neg, z_cb, z_cbK, z_call, z_callK, z_star, z_starK, z_starK2, z_seqL, z_seqT, z_seqR, z_I, z_I0, z_mul, z_mulT, z_mulL, z_tupleR, z_tupM, z_lenP, z_lenM, z_add, z_addS, z_addL, z_addT, z_eqI, z_neI, z_eqB, z_neB, z_eqS, z_neS, z_isN, z_notN, z_ixL, z_ixT, z_ixR, z_ixM, z_atK, z_lenL, z_lenT, z_lenR, z_lenS, z_listL, z_listR, z_listT, z_tupleL, z_tupleT, z_sl, z_slK1, z_slK2, z_slK3, z_oNone, z_oSome, z_oK, z_slT, z_slL, z_slR, z_r1, z_r1K, z_r2, z_r2K, z_zip, z_zipL, z_zipT, z_iseq, z_meth, z_methK, z_methK2, z_app, z_appM, z_lc, isNon, Bool.not_true, Bool.not_false, z_at0, z_at1, z_at2, z_at3, z_mulS, z_okStr, z_join, z_intB, z_intI, z_dnew, z_setD, z_setD1, z_listD, z_listD1, z_par, z_parK, z_rev, z_revK, z_sum, z_max, z_disp2, z_back, z_backK, z_backK2, z_maxD, z_maxK, z_maxK2, z_dg, z_dgK, z_dgK2, z_dgM, List.set_cons_zero, List.set_cons_succ])
          refine ⟨(size1M (Nat.le_of_ble_eq_true rfl)), ?_⟩
          (try simp only [z_seq, z_next, z_brk, z_cont, z_asg, z_asgK, z_gN, z_gSeq, z_gSeqL, z_gcons, z_gconsK, z_gnil, z_gsub, z_subK1, z_subK2, z_subK3, z_set, z_set1, z_set2, z_ret, z_retN, z_drop, z_dropK, z_if, z_brT, z_brF, z_for, z_forK, z_loop0, z_loop1, z_loopK, z_var0, z_varS, z_c, z_bin, z_binK1, z_binK2, z_test, z_asB, z_and, z_andT, z_andF, z_or, z_orT, z_orF, z_not, z_notK, z_andV, z_andVT, z_andVF, z_orV, z_orVT, z_orVF, z_notV, z_notVK, z_ifE, z_ifT, z_ifF, z_nil, z_cons, z_consK, z_consK2, z_tup, z_tupK, z_lst, z_lstK, z_un, z_unK, z_neg, z_cb, z_cbK, z_call, z_callK, z_star, z_starK, z_starK2, z_seqL, z_seqT, z_seqR, z_I, z_I0, z_mul, z_mulT, z_mulL, z_tupleR, z_tupM, z_lenP, z_lenM, z_add, z_addS, z_addL, z_addT, z_eqI, z_neI, z_eqB, z_neB, z_eqS, z_neS, z_isN, z_notN, z_ixL, z_ixT, z_ixR, z_ixM, z_atK, z_lenL, z_lenT, z_lenR, z_lenS, z_listL, z_listR, z_listT, z_tupleL, z_tupleT, z_sl, z_slK1, z_slK2, z_slK3, z_oNone, z_oSome, z_oK, z_slT, z_slL, z_slR, z_r1, z_r1K, z_r2, z_r2K, z_zip, z_zipL, z_zipT, z_iseq, z_meth, z_methK, z_methK2, z_app, z_appM, z_lc, isNon, Bool.not_true, Bool.not_false, z_at0, z_at1, z_at2, z_at3, z_mulS, z_okStr, z_join, z_intB, z_intI, z_dnew, z_setD, z_setD1, z_listD, z_listD1, z_par, z_parK, z_rev, z_revK, z_sum, z_max, z_disp2, z_back, z_backK, z_backK2, z_maxD, z_maxK, z_maxK2, z_dg, z_dgK, z_dgK2, z_dgM, List.set_cons_zero, List.set_cons_succ, hp])
          exact nx _ _ _ hp hM
      | put v =>
        unfold St.d
        (try simp only [z_seq, z_next, z_brk, z_cont, z_asg, z_asgK, z_gN, z_gSeq, z_gSeqL, z_gcons, z_gconsK, z_gnil, z_gsub, z_subK1, z_subK2, z_subK3, z_set, z_set1, z_set2, z_ret, z_retN, z_drop, z_dropK, z_if, z_brT, z_brF, z_for, z_forK, z_loop0, z_loop1, z_loopK, z_var0, z_varS, z_c, z_bin, z_binK1, z_binK2, z_test, z_asB, z_and, z_andT, z_andF, z_or, z_orT, z_orF, z_not, z_notK, z_andV, z_andVT, z_andVF, z_orV, z_orVT, z_orVF, z_notV, z_notVK, z_ifE, z_ifT, z_ifF, z_nil, z_cons, z_consK, z_consK2, z_tup, z_tupK, z_lst, z_lstK, z_un, z_unK, z_neg, z_cb, z_cbK, z_call, z_callK, z_star, z_starK, z_starK2, z_seqL, z_seqT, z_seqR, z_I, z_I0, z_mul, z_mulT, z_mulL, z_tupleR, z_tupM, z_lenP, z_lenM, z_add, z_addS, z_addL, z_addT, z_eqI, z_neI, z_eqB, z_neB, z_eqS, z_neS, z_isN, z_notN, z_ixL, z_ixT, z_ixR, z_ixM, z_atK, z_lenL, z_lenT, z_lenR, z_lenS, z_listL, z_listR, z_listT, z_tupleL, z_tupleT, z_sl, z_slK1, z_slK2, z_slK3, z_oNone, z_oSome, z_oK, z_slT, z_slL, z_slR, z_r1, z_r1K, z_r2, z_r2K, z_zip, z_zipL, z_zipT, z_iseq, z_meth, z_methK, z_methK2, z_app, z_appM, z_lc, isNon, Bool.not_true, Bool.not_false, z_at0, z_at1, z_at2, z_at3, z_mulS, z_okStr, z_join, z_intB, z_intI, z_dnew, z_setD, z_setD1, z_listD, z_listD1, z_par, z_parK, z_rev, z_revK, z_sum, z_max, z_disp2, z_back, z_backK, z_backK2, z_maxD, z_maxK, z_maxK2, z_dg, z_dgK, z_dgK2, z_dgM, List.set_cons_zero, List.set_cons_succ, show ((("put" : Str) == ("repeat" : Str)) = false) from by decide +kernel, show ((("put" : Str) == ("go" : Str)) = false) from by decide +kernel, show ((("put" : Str) == ("put" : Str)) = true) from by decide +kernel, z_okL, hp])
        refine ⟨⟨_, rfl⟩, (size1M (Nat.le_of_ble_eq_true rfl)), ?_⟩
        (try simp only [z_seq, z_next, z_brk, z_cont, z_asg, z_asgK, z_gN, z_gSeq, z_gSeqL, z_gcons, z_gconsK, z_gnil, z_gsub, z_subK1, z_subK2, z_subK3, z_set, z_set1, z_set2, z_ret, z_retN, z_drop, z_dropK, z_if, z_brT, z_brF, z_for, z_forK, z_loop0, z_loop1, z_loopK, z_var0, z_varS, z_c, z_bin, z_binK1, z_binK2, z_test, z_asB, z_and, z_andT, z_andF, z_or, z_orT, z_orF, z_not, z_notK, z_andV, z_andVT, z_andVF, z_orV, z_orVT, z_orVF, z_notV, z_notVK, z_ifE, z_ifT, z_ifF, z_nil, z_cons, z_consK, z_consK2, z_tup, z_tupK, z_lst, z_lstK, z_un, z_unK, z_neg, z_cb, z_cbK, z_call, z_callK, z_star, z_starK, z_starK2, z_seqL, z_seqT, z_seqR, z_I, z_I0, z_mul, z_mulT, z_mulL, z_tupleR, z_tupM, z_lenP, z_lenM, z_add, z_addS, z_addL, z_addT, z_eqI, z_neI, z_eqB, z_neB, z_eqS, z_neS, z_isN, z_notN, z_ixL, z_ixT, z_ixR, z_ixM, z_atK, z_lenL, z_lenT, z_lenR, z_lenS, z_listL, z_listR, z_listT, z_tupleL, z_tupleT, z_sl, z_slK1, z_slK2, z_slK3, z_oNone, z_oSome, z_oK, z_slT, z_slL, z_slR, z_r1, z_r1K, z_r2, z_r2K, z_zip, z_zipL, z_zipT, z_iseq, z_meth, z_methK, z_methK2, z_app, z_appM, z_lc, isNon, Bool.not_true, Bool.not_false, z_at0, z_at1, z_at2, z_at3, z_mulS, z_okStr, z_join, z_intB, z_intI, z_dnew, z_setD, z_setD1, z_listD, z_listD1, z_par, z_parK, z_rev, z_revK, z_sum, z_max, z_disp2, z_back, z_backK, z_backK2, z_maxD, z_maxK, z_maxK2, z_dg, z_dgK, z_dgK2, z_dgM, List.set_cons_zero, List.set_cons_succ, hp])
        exact nx _ _ _ hp hM
      | call u nm =>
        have eu : (callW u == ("repeat" : Str)) = false := by cases u <;> decide +kernel
        have eg : (callW u == ("go" : Str)) = false := by cases u <;> decide +kernel
        have ep : (callW u == ("put" : Str)) = false := by cases u <;> decide +kernel
        have ev : valD [((.inr ("do" : Str) : Key), D.str "undo"), (.inr ("undo" : Str), D.str "do")] (.inr (callW u)) = some (.str (callW (!u))) := by
          cases u
          · unfold valD callW
            rw [List.find?_cons_of_pos (by decide +kernel)]; rfl
          · unfold valD callW
            rw [List.find?_cons_of_neg (by decide +kernel), List.find?_cons_of_pos (by decide +kernel)]; rfl
        unfold St.d
        (try simp only [z_seq, z_next, z_brk, z_cont, z_asg, z_asgK, z_gN, z_gSeq, z_gSeqL, z_gcons, z_gconsK, z_gnil, z_gsub, z_subK1, z_subK2, z_subK3, z_set, z_set1, z_set2, z_ret, z_retN, z_drop, z_dropK, z_if, z_brT, z_brF, z_for, z_forK, z_loop0, z_loop1, z_loopK, z_var0, z_varS, z_c, z_bin, z_binK1, z_binK2, z_test, z_asB, z_and, z_andT, z_andF, z_or, z_orT, z_orF, z_not, z_notK, z_andV, z_andVT, z_andVF, z_orV, z_orVT, z_orVF, z_notV, z_notVK, z_ifE, z_ifT, z_ifF, z_nil, z_cons, z_consK, z_consK2, z_tup, z_tupK, z_lst, z_lstK, z_un, z_unK, z_neg, z_cb, z_cbK, z_call, z_callK, z_star, z_starK, z_starK2, z_seqL, z_seqT, z_seqR, z_I, z_I0, z_mul, z_mulT, z_mulL, z_tupleR, z_tupM, z_lenP, z_lenM, z_add, z_addS, z_addL, z_addT, z_eqI, z_neI, z_eqB, z_neB, z_eqS, z_neS, z_isN, z_notN, z_ixL, z_ixT, z_ixR, z_ixM, z_atK, z_lenL, z_lenT, z_lenR, z_lenS, z_listL, z_listR, z_listT, z_tupleL, z_tupleT, z_sl, z_slK1, z_slK2, z_slK3, z_oNone, z_oSome, z_oK, z_slT, z_slL, z_slR, z_r1, z_r1K, z_r2, z_r2K, z_zip, z_zipL, z_zipT, z_iseq, z_meth, z_methK, z_methK2, z_app, z_appM, z_lc, isNon, Bool.not_true, Bool.not_false, z_at0, z_at1, z_at2, z_at3, z_mulS, z_okStr, z_join, z_intB, z_intI, z_dnew, z_setD, z_setD1, z_listD, z_listD1, z_par, z_parK, z_rev, z_revK, z_sum, z_max, z_disp2, z_back, z_backK, z_backK2, z_maxD, z_maxK, z_maxK2, z_dg, z_dgK, z_dgK2, z_dgM, List.set_cons_zero, List.set_cons_succ, eu, eg, ep, z_okL, hp])
        refine ⟨⟨_, rfl⟩, fun z nz => ?_⟩
        have hpz : p ≠ z := mne_of_none hp nz
        (try simp only [z_seq, z_next, z_brk, z_cont, z_asg, z_asgK, z_gN, z_gSeq, z_gSeqL, z_gcons, z_gconsK, z_gnil, z_gsub, z_subK1, z_subK2, z_subK3, z_set, z_set1, z_set2, z_ret, z_retN, z_drop, z_dropK, z_if, z_brT, z_brF, z_for, z_forK, z_loop0, z_loop1, z_loopK, z_var0, z_varS, z_c, z_bin, z_binK1, z_binK2, z_test, z_asB, z_and, z_andT, z_andF, z_or, z_orT, z_orF, z_not, z_notK, z_andV, z_andVT, z_andVF, z_orV, z_orVT, z_orVF, z_notV, z_notVK, z_ifE, z_ifT, z_ifF, z_nil, z_cons, z_consK, z_consK2, z_tup, z_tupK, z_lst, z_lstK, z_un, z_unK, z_neg, z_cb, z_cbK, z_call, z_callK, z_star, z_starK, z_starK2, z_seqL, z_seqT, z_seqR, z_I, z_I0, z_mul, z_mulT, z_mulL, z_tupleR, z_tupM, z_lenP, z_lenM, z_add, z_addS, z_addL, z_addT, z_eqI, z_neI, z_eqB, z_neB, z_eqS, z_neS, z_isN, z_notN, z_ixL, z_ixT, z_ixR, z_ixM, z_atK, z_lenL, z_lenT, z_lenR, z_lenS, z_listL, z_listR, z_listT, z_tupleL, z_tupleT, z_sl, z_slK1, z_slK2, z_slK3, z_oNone, z_oSome, z_oK, z_slT, z_slL, z_slR, z_r1, z_r1K, z_r2, z_r2K, z_zip, z_zipL, z_zipT, z_iseq, z_meth, z_methK, z_methK2, z_app, z_appM, z_lc, isNon, Bool.not_true, Bool.not_false, z_at0, z_at1, z_at2, z_at3, z_mulS, z_okStr, z_join, z_intB, z_intI, z_dnew, z_setD, z_setD1, z_listD, z_listD1, z_par, z_parK, z_rev, z_revK, z_sum, z_max, z_disp2, z_back, z_backK, z_backK2, z_maxD, z_maxK, z_maxK2, z_dg, z_dgK, z_dgK2, z_dgM, List.set_cons_zero, List.set_cons_succ, updM_same, ev])
        refine ⟨(size1M (Nat.le_of_ble_eq_true rfl)), ?_⟩
        have hp2 : updM M' z (.dic [(.inr "do", .str "undo"), (.inr "undo", .str "do")]) p = some (.lst ((dn.map revS).map St.d)) := by rw [updM_ne hpz]; exact hp
        (try simp only [z_seq, z_next, z_brk, z_cont, z_asg, z_asgK, z_gN, z_gSeq, z_gSeqL, z_gcons, z_gconsK, z_gnil, z_gsub, z_subK1, z_subK2, z_subK3, z_set, z_set1, z_set2, z_ret, z_retN, z_drop, z_dropK, z_if, z_brT, z_brF, z_for, z_forK, z_loop0, z_loop1, z_loopK, z_var0, z_varS, z_c, z_bin, z_binK1, z_binK2, z_test, z_asB, z_and, z_andT, z_andF, z_or, z_orT, z_orF, z_not, z_notK, z_andV, z_andVT, z_andVF, z_orV, z_orVT, z_orVF, z_notV, z_notVK, z_ifE, z_ifT, z_ifF, z_nil, z_cons, z_consK, z_consK2, z_tup, z_tupK, z_lst, z_lstK, z_un, z_unK, z_neg, z_cb, z_cbK, z_call, z_callK, z_star, z_starK, z_starK2, z_seqL, z_seqT, z_seqR, z_I, z_I0, z_mul, z_mulT, z_mulL, z_tupleR, z_tupM, z_lenP, z_lenM, z_add, z_addS, z_addL, z_addT, z_eqI, z_neI, z_eqB, z_neB, z_eqS, z_neS, z_isN, z_notN, z_ixL, z_ixT, z_ixR, z_ixM, z_atK, z_lenL, z_lenT, z_lenR, z_lenS, z_listL, z_listR, z_listT, z_tupleL, z_tupleT, z_sl, z_slK1, z_slK2, z_slK3, z_oNone, z_oSome, z_oK, z_slT, z_slL, z_slR, z_r1, z_r1K, z_r2, z_r2K, z_zip, z_zipL, z_zipT, z_iseq, z_meth, z_methK, z_methK2, z_app, z_appM, z_lc, isNon, Bool.not_true, Bool.not_false, z_at0, z_at1, z_at2, z_at3, z_mulS, z_okStr, z_join, z_intB, z_intI, z_dnew, z_setD, z_setD1, z_listD, z_listD1, z_par, z_parK, z_rev, z_revK, z_sum, z_max, z_disp2, z_back, z_backK, z_backK2, z_maxD, z_maxK, z_maxK2, z_dg, z_dgK, z_dgK2, z_dgM, List.set_cons_zero, List.set_cons_succ, hp2])
        exact nx _ _ _ hp2 fun a m h => by rw [updM_ne (mne_of_none (hM a m h) nz)]; exact hM a m h
  · rintro τ' M' ⟨dn, b', o2, o3, e1, e2, hp, hM, rfl⟩
    cases b' with
    | cons s b' => cases e1
    | nil =>
      rw [List.append_nil] at e2
      (try simp only [z_seq, z_next, z_brk, z_cont, z_asg, z_asgK, z_gN, z_gSeq, z_gSeqL, z_gcons, z_gconsK, z_gnil, z_gsub, z_subK1, z_subK2, z_subK3, z_set, z_set1, z_set2, z_ret, z_retN, z_drop, z_dropK, z_if, z_brT, z_brF, z_for, z_forK, z_loop0, z_loop1, z_loopK, z_var0, z_varS, z_c, z_bin, z_binK1, z_binK2, z_test, z_asB, z_and, z_andT, z_andF, z_or, z_orT, z_orF, z_not, z_notK, z_andV, z_andVT, z_andVF, z_orV, z_orVT, z_orVF, z_notV, z_notVK, z_ifE, z_ifT, z_ifF, z_nil, z_cons, z_consK, z_consK2, z_tup, z_tupK, z_lst, z_lstK, z_un, z_unK, z_neg, z_cb, z_cbK, z_call, z_callK, z_star, z_starK, z_starK2, z_seqL, z_seqT, z_seqR, z_I, z_I0, z_mul, z_mulT, z_mulL, z_tupleR, z_tupM, z_lenP, z_lenM, z_add, z_addS, z_addL, z_addT, z_eqI, z_neI, z_eqB, z_neB, z_eqS, z_neS, z_isN, z_notN, z_ixL, z_ixT, z_ixR, z_ixM, z_atK, z_lenL, z_lenT, z_lenR, z_lenS, z_listL, z_listR, z_listT, z_tupleL, z_tupleT, z_sl, z_slK1, z_slK2, z_slK3, z_oNone, z_oSome, z_oK, z_slT, z_slL, z_slR, z_r1, z_r1K, z_r2, z_r2K, z_zip, z_zipL, z_zipT, z_iseq, z_meth, z_methK, z_methK2, z_app, z_appM, z_lc, isNon, Bool.not_true, Bool.not_false, z_at0, z_at1, z_at2, z_at3, z_mulS, z_okStr, z_join, z_intB, z_intI, z_dnew, z_setD, z_setD1, z_listD, z_listD1, z_par, z_parK, z_rev, z_revK, z_sum, z_max, z_disp2, z_back, z_backK, z_backK2, z_maxD, z_maxK, z_maxK2, z_dg, z_dgK, z_dgK2, z_dgM, List.set_cons_zero, List.set_cons_succ, hp])
      rw [ds_map, rev_map, e2] at q
      exact .inr (.inr ⟨M, hM, q⟩)
theorem okg__law_reverse {P : Program} {w : World} {K : PySem.W.Frag} {mg : Str → Option Value} {base : Heap} {f__law_reverse : Addr} {fd__law_reverse : FuncData} (F__law_reverse : L2.Fun K "_law_reverse" "_law_reverse" s__law_reverse f__law_reverse fd__law_reverse) (gm__law_reverse : mg "_law_reverse" = some (.ref f__law_reverse)) (b__law_reverse : Binds K fd__law_reverse ["_law_block"] []) (z_tuple : mg "tuple" = none) : ∀ n : Nat, Has P w K mg base (0 + n) "_law_reverse" (sp__law_reverse_ n)
  | 0 => ⟨⟨f__law_reverse, gm__law_reverse, F__law_reverse.kp, fun A outer s H us vs Q E _ _ _ h => by obtain ⟨_, _, _, _, _, q⟩ := h; exact q.elim⟩, fun _ _ _ _ _ _ _ _ h => h.elim⟩
  | n + 1 => by
    have h__law_reverse := okg__law_reverse (P := P) (w := w) (base := base) F__law_reverse gm__law_reverse b__law_reverse z_tuple n
    exact (Has.mkF (k := 0 + n) (c := c__law_reverse (sp__law_reverse_ n)) gm__law_reverse F__law_reverse b__law_reverse sc__law_reverse (fun ds M k E h => by first | (obtain ⟨_, _, rfl | ⟨_, rfl, _⟩, _⟩ := h <;> rfl) | (obtain ⟨_, _, _, _, _, rfl, _⟩ := h; rfl) | (obtain ⟨_, ⟨_, _, _, _, rfl, _⟩, _⟩ := h; rfl) | (obtain ⟨_, ⟨_, _, _, _, _, rfl, _⟩, _⟩ := h; rfl) | (obtain ⟨_, rfl, _⟩ := h <;> rfl) | (obtain ⟨_, _, rfl, _⟩ := h <;> rfl) | (obtain ⟨_, _, _, rfl, _⟩ := h <;> rfl) | (obtain ⟨_, _, _, _, rfl, _⟩ := h <;> rfl) | (obtain ⟨_, ⟨_, rfl, _⟩, _⟩ := h <;> rfl) | (obtain ⟨_, ⟨_, _, rfl, _⟩, _⟩ := h <;> rfl) | (obtain ⟨_, ⟨_, _, _, rfl, _⟩, _⟩ := h <;> rfl) | (obtain ⟨_, ⟨_, rfl, _⟩ | ⟨_, rfl, _⟩, _⟩ := h <;> rfl)) (fun cdv A outer s H E hr => (pssd_cons (psd_set (i := 1) sc__law_reverse.nd rfl (Or.inl rfl) (pd_lst pad_nil))
      (pssd_cons (psd_for PassesOwn.never rfl (pid_seq (pd_back (pd_var (pv 0)) (pd_un ud_neg pd_int))) (pgd_name (i := 2) sc__law_reverse.nd rfl (Or.inl rfl)) (pssd_one (psd_if (ptd_cmp od_eq (pd_ix xd_seq (pd_var (pv 2)) pd_int (fun _ _ => rfl)) pd_str (nomark _)) (pssd_one (psd_expr (pd_app (pd_var (pv 1)) (pd_tup (pad_cons pd_str (pad_cons (pd_ix xd_seq (pd_var (pv 2)) pd_int (fun _ _ => rfl)) (pad_cons (pd_callH h__law_reverse (hr.mono (by first | decide | omega)) (pad_cons (pd_ix xd_seq (pd_var (pv 2)) pd_int (fun _ _ => rfl)) pad_nil)) pad_nil))))))) (pssd_one (psd_if (ptd_cmp od_eq (pd_ix xd_seq (pd_var (pv 2)) pd_int (fun _ _ => rfl)) pd_str (nomark _)) (pssd_one (psd_expr (pd_app (pd_var (pv 1)) (pd_tup (pad_cons pd_str (pad_cons (pd_callTy cd_tuple (by rfl) z_tuple (by decide +kernel) (pad_cons (pd_lc (g := (gN 3)) (own := [("_law_a", 3)]) rfl sc__law_reverse.nd (pid_seq (pd_ix xd_seq (pd_var (pv 2)) pd_int (fun _ _ => rfl))) (blkOk_by (N := N__law_reverse) (sc := defScope s__law_reverse) (by decide +kernel)) mono_gN (tg_name (i := 3) (by decide)) (fun _ _ _ _ _ => pg_name (i := 3) sc__law_reverse.nd rfl (Or.inl rfl)) (fun _ _ _ _ _ => ptsd_nil) (fun _ _ _ _ _ => (pd_un ud_neg (pd_var (pv 3))))) pad_nil)) pad_nil)))))) (pssd_one (psd_if (ptd_cmp od_eq (pd_ix xd_seq (pd_var (pv 2)) pd_int (fun _ _ => rfl)) pd_str (nomark _)) (pssd_one (psd_expr (pd_app (pd_var (pv 1)) (pd_tup (pad_cons pd_str (pad_cons (pd_un ud_neg (pd_ix xd_seq (pd_var (pv 2)) pd_int (fun _ _ => rfl))) pad_nil)))))) (pssd_one (psd_expr (pd_app (pd_var (pv 1)) (pd_tup (pad_cons (pd_dget hr.units (pd_disp2 (by decide +kernel)) (pd_ix xd_seq (pd_var (pv 2)) pd_int (fun _ _ => rfl)) (fun _ _ => rfl)) (pad_cons (pd_ix xd_seq (pd_var (pv 2)) pd_int (fun _ _ => rfl)) pad_nil)))))))))))))
      (pssd_one (psd_ret (pd_callTy cd_tuple (by rfl) z_tuple (by decide +kernel) (pad_cons (pd_var (pv 1)) pad_nil))))))) (main__law_reverse n) (mono__law_reverse_ n)).imp (fun _ _ _ _ h => h) (mono__law_reverse_ n)
/-! each def keeps its promise -/
abbrev c__law_a_box : CS := c_box 3814 67
theorem main__law_a_box : ∀ ds M k, sp__law_a_box ds M k (fun _ _ _ => False) → c__law_a_box { nx := fun _ M' => k .non M', rt := k } (startD 4 ds) M := main__law_box 3814 67 ⟨by decide, by decide⟩
theorem ok_scale {P : Program} {w : World} {K : PySem.W.Frag} {mg : Str → Option Value} {base : Heap} {f : Addr} {fd : FuncData} (F : L2.Fun K "scale" "scale" s_scale f fd) (gm : mg "scale" = some (.ref f)) (b : Binds K fd ["number", "place"] []) (z_tuple : mg "tuple" = none) :
    Has P w K mg base 1 "scale" sp_scale :=
  (Has.mk' (k := 0) (c := c_scale) gm F b sc_scale (fun ds M k E h => by first | (obtain ⟨_, _, rfl | ⟨_, rfl, _⟩, _⟩ := h <;> rfl) | (obtain ⟨_, _, _, _, _, rfl, _⟩ := h; rfl) | (obtain ⟨_, ⟨_, _, _, _, rfl, _⟩, _⟩ := h; rfl) | (obtain ⟨_, ⟨_, _, _, _, _, rfl, _⟩, _⟩ := h; rfl) | (obtain ⟨_, rfl, _⟩ := h <;> rfl) | (obtain ⟨_, _, rfl, _⟩ := h <;> rfl) | (obtain ⟨_, _, _, rfl, _⟩ := h <;> rfl) | (obtain ⟨_, _, _, _, rfl, _⟩ := h <;> rfl) | (obtain ⟨_, ⟨_, rfl, _⟩, _⟩ := h <;> rfl) | (obtain ⟨_, ⟨_, _, rfl, _⟩, _⟩ := h <;> rfl) | (obtain ⟨_, ⟨_, _, _, rfl, _⟩, _⟩ := h <;> rfl) | (obtain ⟨_, ⟨_, rfl, _⟩ | ⟨_, rfl, _⟩, _⟩ := h <;> rfl)) (fun cdv A outer s H E hr => (pssd_one (psd_ret (pd_callTy cd_tuple (by rfl) z_tuple (by decide +kernel) (pad_cons (pd_lc (g := (gN 2)) (own := [("item", 2)]) rfl sc_scale.nd (pid_seq (pd_var (pv 1))) (blkOk_by (N := N_scale) (sc := defScope s_scale) (by decide +kernel)) mono_gN (tg_name (i := 2) (by decide)) (fun _ _ _ _ _ => pg_name (i := 2) sc_scale.nd rfl (Or.inl rfl)) (fun _ _ _ _ _ => ptsd_nil) (fun _ _ _ _ _ => (pd_bin od_mul (pd_var (pv 0)) (pd_var (pv 2))))) pad_nil))))) main_scale mono_scale).imp (fun _ _ _ _ h => h) mono_scale
theorem ok_opposite {P : Program} {w : World} {K : PySem.W.Frag} {mg : Str → Option Value} {base : Heap} {f : Addr} {fd : FuncData} (F : L2.Fun K "opposite" "opposite" s_opposite f fd) (gm : mg "opposite" = some (.ref f)) (b : Binds K fd ["place"] []) (h_scale : Has P w K mg base 1 "scale" sp_scale) :
    Has P w K mg base 2 "opposite" sp_opposite :=
  (Has.mk' (k := 1) (c := c_opposite) gm F b sc_opposite (fun ds M k E h => by first | (obtain ⟨_, _, rfl | ⟨_, rfl, _⟩, _⟩ := h <;> rfl) | (obtain ⟨_, _, _, _, _, rfl, _⟩ := h; rfl) | (obtain ⟨_, ⟨_, _, _, _, rfl, _⟩, _⟩ := h; rfl) | (obtain ⟨_, ⟨_, _, _, _, _, rfl, _⟩, _⟩ := h; rfl) | (obtain ⟨_, rfl, _⟩ := h <;> rfl) | (obtain ⟨_, _, rfl, _⟩ := h <;> rfl) | (obtain ⟨_, _, _, rfl, _⟩ := h <;> rfl) | (obtain ⟨_, _, _, _, rfl, _⟩ := h <;> rfl) | (obtain ⟨_, ⟨_, rfl, _⟩, _⟩ := h <;> rfl) | (obtain ⟨_, ⟨_, _, rfl, _⟩, _⟩ := h <;> rfl) | (obtain ⟨_, ⟨_, _, _, rfl, _⟩, _⟩ := h <;> rfl) | (obtain ⟨_, ⟨_, rfl, _⟩ | ⟨_, rfl, _⟩, _⟩ := h <;> rfl)) (fun cdv A outer s H E hr => (pssd_one (psd_ret (pd_callH h_scale (hr.mono (by first | decide | omega)) (pad_cons (pd_un ud_neg pd_int) (pad_cons (pd_var (pv 0)) pad_nil)))))) main_opposite mono_opposite).imp (fun _ _ _ _ h => h) mono_opposite
theorem ok__law_draw {P : Program} {w : World} {K : PySem.W.Frag} {mg : Str → Option Value} {base : Heap} {f : Addr} {fd : FuncData} (F : L2.Fun K "_law_draw" "_law_draw" s__law_draw f fd) (gm : mg "_law_draw" = some (.ref f)) (b : Binds K fd ["_law_box", "_law_many"] []) (z_len : mg "len" = none) :
    Has P w K mg base 1 "_law_draw" sp__law_draw :=
  (Has.mk' (k := 0) (c := c__law_draw) gm F b sc__law_draw (fun ds M k E h => by first | (obtain ⟨_, _, rfl | ⟨_, rfl, _⟩, _⟩ := h <;> rfl) | (obtain ⟨_, _, _, _, _, rfl, _⟩ := h; rfl) | (obtain ⟨_, ⟨_, _, _, _, rfl, _⟩, _⟩ := h; rfl) | (obtain ⟨_, ⟨_, _, _, _, _, rfl, _⟩, _⟩ := h; rfl) | (obtain ⟨_, rfl, _⟩ := h <;> rfl) | (obtain ⟨_, _, rfl, _⟩ := h <;> rfl) | (obtain ⟨_, _, _, rfl, _⟩ := h <;> rfl) | (obtain ⟨_, _, _, _, rfl, _⟩ := h <;> rfl) | (obtain ⟨_, ⟨_, rfl, _⟩, _⟩ := h <;> rfl) | (obtain ⟨_, ⟨_, _, rfl, _⟩, _⟩ := h <;> rfl) | (obtain ⟨_, ⟨_, _, _, rfl, _⟩, _⟩ := h <;> rfl) | (obtain ⟨_, ⟨_, rfl, _⟩ | ⟨_, rfl, _⟩, _⟩ := h <;> rfl)) (fun cdv A outer s H E hr => (pssd_cons (psd_if (ptd_cmp od_lt (pd_ix xd_seq (pd_var (pv 0)) pd_int (fun _ _ => rfl)) pd_int (nomark _)) (pssd_cons (psd_asg (pd_bin od_add (pd_ix xd_seq (pd_var (pv 0)) pd_int (fun _ _ => rfl)) pd_int) (pgd_sub (W := W0) (pd_var (pv 0)) pd_int sd_list))
      (pssd_cons (psd_set (i := 3) sc__law_draw.nd rfl (Or.inl rfl) (pd_bin od_add (pd_ix xd_seq (pd_var (pv 0)) pd_int (fun _ _ => rfl)) (pd_bin od_mul (pd_ix xd_seq (pd_var (pv 0)) pd_int (fun _ _ => rfl)) pd_int)))
      (pssd_cons (psd_if (ptd_cmp od_le (pd_ix xd_seq (pd_var (pv 0)) pd_int (fun _ _ => rfl)) (pd_callB cd_len (by rfl) z_len (by decide +kernel) (pad_cons (pd_ix xd_seq (pd_var (pv 0)) pd_int (fun _ _ => rfl)) pad_nil)) (nomark _)) (pssd_one (psd_set (i := 3) sc__law_draw.nd rfl (Or.inl rfl) (pd_ix xd_seq (pd_ix xd_seq (pd_var (pv 0)) pd_int (fun _ _ => rfl)) (pd_bin od_sub (pd_ix xd_seq (pd_var (pv 0)) pd_int (fun _ _ => rfl)) pd_int) (fun _ _ => rfl)))) pssd_nil)
      (pssd_cons (psd_if (PWd.pt (pwd_or (ptd_cmp od_gt (pd_ix xd_seq (pd_var (pv 0)) pd_int (fun _ _ => rfl)) (pd_callB cd_len (by rfl) z_len (by decide +kernel) (pad_cons (pd_ix xd_seq (pd_var (pv 0)) pd_int (fun _ _ => rfl)) pad_nil)) (nomark _)) (pwd_or1 (ptd_cmp od_lt (pd_var (pv 3)) (pd_bin od_pow pd_int pd_int) (nomark _))))) (pssd_cons (psd_set (i := 4) sc__law_draw.nd rfl (Or.inl rfl) (pd_bin od_mod (pd_bin od_add (pd_bin od_add (pd_bin od_mul (pd_var (pv 3)) pd_int) (pd_bin od_mul (pd_ix xd_seq (pd_var (pv 0)) pd_int (fun _ _ => rfl)) pd_int)) (pd_ix xd_seq (pd_var (pv 0)) pd_int (fun _ _ => rfl))) pd_int))
      (pssd_cons (psd_set (i := 5) sc__law_draw.nd rfl (Or.inl rfl) (pd_bin od_mod (pd_bin od_add (pd_bin od_mul (pd_var (pv 4)) (pd_var (pv 4))) (pd_ix xd_seq (pd_var (pv 0)) pd_int (fun _ _ => rfl))) pd_int))
      (pssd_one (psd_ret (pd_bin od_mod (pd_bin od_fdiv (pd_bin od_mod (pd_bin od_add (pd_bin od_mul (pd_var (pv 5)) pd_int) (pd_var (pv 4))) pd_int) pd_int) (pd_var (pv 1))))))) pssd_nil)
      (pssd_one (psd_asg (pd_var (pv 3)) (pgd_sub (W := W0) (pd_var (pv 0)) pd_int sd_list))))))) pssd_nil)
      (pssd_cons (psd_set (i := 2) sc__law_draw.nd rfl (Or.inl rfl) (pd_bin od_mod (pd_ix xd_seq (pd_var (pv 0)) pd_int (fun _ _ => rfl)) (pd_var (pv 1))))
      (pssd_cons (psd_asg (pd_bin od_fdiv (pd_ix xd_seq (pd_var (pv 0)) pd_int (fun _ _ => rfl)) (pd_var (pv 1))) (pgd_sub (W := W0) (pd_var (pv 0)) pd_int sd_list))
      (pssd_one (psd_ret (pd_var (pv 2)))))))) main__law_draw mono__law_draw).imp (fun _ _ _ _ h => h) mono__law_draw
theorem ok__law_any {P : Program} {w : World} {K : PySem.W.Frag} {mg : Str → Option Value} {base : Heap} {f : Addr} {fd : FuncData} (F : L2.Fun K "_law_any" "_law_any" s__law_any f fd) (gm : mg "_law_any" = some (.ref f)) (b : Binds K fd ["_law_box", "_law_row"] []) (h__law_draw : Has P w K mg base 1 "_law_draw" sp__law_draw) (z_len : mg "len" = none) :
    Has P w K mg base 2 "_law_any" sp__law_any :=
  (Has.mk' (k := 1) (c := c__law_any) gm F b sc__law_any (fun ds M k E h => by first | (obtain ⟨_, _, rfl | ⟨_, rfl, _⟩, _⟩ := h <;> rfl) | (obtain ⟨_, _, _, _, _, rfl, _⟩ := h; rfl) | (obtain ⟨_, ⟨_, _, _, _, rfl, _⟩, _⟩ := h; rfl) | (obtain ⟨_, ⟨_, _, _, _, _, rfl, _⟩, _⟩ := h; rfl) | (obtain ⟨_, rfl, _⟩ := h <;> rfl) | (obtain ⟨_, _, rfl, _⟩ := h <;> rfl) | (obtain ⟨_, _, _, rfl, _⟩ := h <;> rfl) | (obtain ⟨_, _, _, _, rfl, _⟩ := h <;> rfl) | (obtain ⟨_, ⟨_, rfl, _⟩, _⟩ := h <;> rfl) | (obtain ⟨_, ⟨_, _, rfl, _⟩, _⟩ := h <;> rfl) | (obtain ⟨_, ⟨_, _, _, rfl, _⟩, _⟩ := h <;> rfl) | (obtain ⟨_, ⟨_, rfl, _⟩ | ⟨_, rfl, _⟩, _⟩ := h <;> rfl)) (fun cdv A outer s H E hr => (pssd_one (psd_ret (pd_ix xd_seq (pd_var (pv 1)) (pd_callH h__law_draw (hr.mono (by first | decide | omega)) (pad_cons (pd_var (pv 0)) (pad_cons (pd_callB cd_len (by rfl) z_len (by decide +kernel) (pad_cons (pd_var (pv 1)) pad_nil)) pad_nil))) (fun _ _ => rfl))))) main__law_any mono__law_any).imp (fun _ _ _ _ h => h) mono__law_any
theorem ok__law_whole {P : Program} {w : World} {K : PySem.W.Frag} {mg : Str → Option Value} {base : Heap} {f : Addr} {fd : FuncData} (F : L2.Fun K "_law_whole" "_law_whole" s__law_whole f fd) (gm : mg "_law_whole" = some (.ref f)) (b : Binds K fd ["_law_found"] []) (z_bool : mg "bool" = none) (z_int : mg "int" = none) (z_isinstance : mg "isinstance" = none) :
    Has P w K mg base 1 "_law_whole" sp__law_whole :=
  (Has.mk' (k := 0) (c := c__law_whole) gm F b sc__law_whole (fun ds M k E h => by first | (obtain ⟨_, _, rfl | ⟨_, rfl, _⟩, _⟩ := h <;> rfl) | (obtain ⟨_, _, _, _, _, rfl, _⟩ := h; rfl) | (obtain ⟨_, ⟨_, _, _, _, rfl, _⟩, _⟩ := h; rfl) | (obtain ⟨_, ⟨_, _, _, _, _, rfl, _⟩, _⟩ := h; rfl) | (obtain ⟨_, rfl, _⟩ := h <;> rfl) | (obtain ⟨_, _, rfl, _⟩ := h <;> rfl) | (obtain ⟨_, _, _, rfl, _⟩ := h <;> rfl) | (obtain ⟨_, _, _, _, rfl, _⟩ := h <;> rfl) | (obtain ⟨_, ⟨_, rfl, _⟩, _⟩ := h <;> rfl) | (obtain ⟨_, ⟨_, _, rfl, _⟩, _⟩ := h <;> rfl) | (obtain ⟨_, ⟨_, _, _, rfl, _⟩, _⟩ := h <;> rfl) | (obtain ⟨_, ⟨_, rfl, _⟩ | ⟨_, rfl, _⟩, _⟩ := h <;> rfl)) (fun cdv A outer s H E hr => (pssd_one (psd_ret (pd_and (pd_callB cd_isi (by rfl) z_isinstance (by decide +kernel) (pad_cons (pd_var (pv 0)) (pad_cons (pd_ty z_int (by decide +kernel)) pad_nil))) (pd_one (pd_not (pd_callB cd_isi (by rfl) z_isinstance (by decide +kernel) (pad_cons (pd_var (pv 0)) (pad_cons (pd_ty z_bool (by decide +kernel)) pad_nil))))))))) main__law_whole mono__law_whole).imp (fun _ _ _ _ h => h) mono__law_whole
theorem ok__law_num {P : Program} {w : World} {K : PySem.W.Frag} {mg : Str → Option Value} {base : Heap} {f : Addr} {fd : FuncData} (F : L2.Fun K "_law_num" "_law_num" s__law_num f fd) (gm : mg "_law_num" = some (.ref f)) (b : Binds K fd ["_law_box"] []) (h__law_draw : Has P w K mg base 1 "_law_draw" sp__law_draw) :
    Has P w K mg base 2 "_law_num" sp__law_num :=
  (Has.mk' (k := 1) (c := c__law_num) gm F b sc__law_num (fun ds M k E h => by first | (obtain ⟨_, _, rfl | ⟨_, rfl, _⟩, _⟩ := h <;> rfl) | (obtain ⟨_, _, _, _, _, rfl, _⟩ := h; rfl) | (obtain ⟨_, ⟨_, _, _, _, rfl, _⟩, _⟩ := h; rfl) | (obtain ⟨_, ⟨_, _, _, _, _, rfl, _⟩, _⟩ := h; rfl) | (obtain ⟨_, rfl, _⟩ := h <;> rfl) | (obtain ⟨_, _, rfl, _⟩ := h <;> rfl) | (obtain ⟨_, _, _, rfl, _⟩ := h <;> rfl) | (obtain ⟨_, _, _, _, rfl, _⟩ := h <;> rfl) | (obtain ⟨_, ⟨_, rfl, _⟩, _⟩ := h <;> rfl) | (obtain ⟨_, ⟨_, _, rfl, _⟩, _⟩ := h <;> rfl) | (obtain ⟨_, ⟨_, _, _, rfl, _⟩, _⟩ := h <;> rfl) | (obtain ⟨_, ⟨_, rfl, _⟩ | ⟨_, rfl, _⟩, _⟩ := h <;> rfl)) (fun cdv A outer s H E hr => (pssd_cons (psd_set (i := 1) sc__law_num.nd rfl (Or.inl rfl) (pd_callH h__law_draw (hr.mono (by first | decide | omega)) (pad_cons (pd_var (pv 0)) (pad_cons pd_int pad_nil))))
      (pssd_cons (psd_if (ptd_cmp od_lt (pd_var (pv 1)) pd_int (nomark _)) (pssd_one (psd_ret (pd_ix xd_seq (pd_lst (pad_cons pd_int (pad_cons pd_int (pad_cons (pd_un ud_neg pd_int) (pad_cons pd_int pad_nil))))) (pd_var (pv 1)) (fun _ _ => rfl)))) pssd_nil)
      (pssd_cons (psd_if (ptd_cmp od_lt (pd_var (pv 1)) pd_int (nomark _)) (pssd_one (psd_ret (pd_bin od_sub (pd_callH h__law_draw (hr.mono (by first | decide | omega)) (pad_cons (pd_var (pv 0)) (pad_cons pd_int pad_nil))) pd_int))) pssd_nil)
      (pssd_one (psd_ret (pd_bin od_sub (pd_callH h__law_draw (hr.mono (by first | decide | omega)) (pad_cons (pd_var (pv 0)) (pad_cons (pd_bin od_add (pd_bin od_mul pd_int (pd_bin od_pow pd_int pd_int)) pd_int) pad_nil))) (pd_bin od_pow pd_int pd_int)))))))) main__law_num mono__law_num).imp (fun _ _ _ _ h => h) mono__law_num
theorem ok__law_arrow {P : Program} {w : World} {K : PySem.W.Frag} {mg : Str → Option Value} {base : Heap} {f : Addr} {fd : FuncData} (F : L2.Fun K "_law_arrow" "_law_arrow" s__law_arrow f fd) (gm : mg "_law_arrow" = some (.ref f)) (b : Binds K fd ["_law_box", "_law_ways"] []) (h__law_draw : Has P w K mg base 1 "_law_draw" sp__law_draw) (z_range : mg "range" = none) (z_tuple : mg "tuple" = none) :
    Has P w K mg base 2 "_law_arrow" sp__law_arrow :=
  (Has.mk' (k := 1) (c := c__law_arrow) gm F b sc__law_arrow (fun ds M k E h => by first | (obtain ⟨_, _, rfl | ⟨_, rfl, _⟩, _⟩ := h <;> rfl) | (obtain ⟨_, _, _, _, _, rfl, _⟩ := h; rfl) | (obtain ⟨_, ⟨_, _, _, _, rfl, _⟩, _⟩ := h; rfl) | (obtain ⟨_, ⟨_, _, _, _, _, rfl, _⟩, _⟩ := h; rfl) | (obtain ⟨_, rfl, _⟩ := h <;> rfl) | (obtain ⟨_, _, rfl, _⟩ := h <;> rfl) | (obtain ⟨_, _, _, rfl, _⟩ := h <;> rfl) | (obtain ⟨_, _, _, _, rfl, _⟩ := h <;> rfl) | (obtain ⟨_, ⟨_, rfl, _⟩, _⟩ := h <;> rfl) | (obtain ⟨_, ⟨_, _, rfl, _⟩, _⟩ := h <;> rfl) | (obtain ⟨_, ⟨_, _, _, rfl, _⟩, _⟩ := h <;> rfl) | (obtain ⟨_, ⟨_, rfl, _⟩ | ⟨_, rfl, _⟩, _⟩ := h <;> rfl)) (fun cdv A outer s H E hr => (pssd_cons (psd_set (i := 2) sc__law_arrow.nd rfl (Or.inr rfl) (pd_ix xd_seq (pd_lst (pad_cons pd_int (pad_cons pd_int (pad_cons pd_int (pad_cons pd_int pad_nil))))) (pd_callH h__law_draw (hr.mono (by first | decide | omega)) (pad_cons (pd_var (pv 0)) (pad_cons pd_int pad_nil))) (fun _ _ => rfl)))
      (pssd_one (psd_ret (pd_callTy cd_tuple (by rfl) z_tuple (by decide +kernel) (pad_cons (pd_lc (g := (gN 3)) (own := [("_law_k", 3)]) rfl sc__law_arrow.nd (pid_range1 (by rfl) z_range (pad_cons (pd_var (pv 1)) pad_nil)) (blkOk_by (N := N__law_arrow) (sc := defScope s__law_arrow) (by decide +kernel)) mono_gN (tg_name (i := 3) (by decide)) (fun _ _ _ _ _ => pg_name (i := 3) sc__law_arrow.nd rfl (Or.inl rfl)) (fun _ _ _ _ _ => ptsd_nil) (fun _ _ _ _ _ => (pd_bin od_sub (pd_callH h__law_draw (hr.mono (by first | decide | omega)) (pad_cons (pd_var (pv 0)) (pad_cons (pd_var (pv 2)) pad_nil))) (pd_bin od_fdiv (pd_var (pv 2)) pd_int)))) pad_nil)))))) main__law_arrow mono__law_arrow).imp (fun _ _ _ _ h => h) mono__law_arrow
theorem ok__law_label {P : Program} {w : World} {K : PySem.W.Frag} {mg : Str → Option Value} {base : Heap} {f : Addr} {fd : FuncData} (F : L2.Fun K "_law_label" "_law_label" s__law_label f fd) (gm : mg "_law_label" = some (.ref f)) (b : Binds K fd ["_law_box"] []) (h__law_any : Has P w K mg base 2 "_law_any" sp__law_any) (h__law_draw : Has P w K mg base 1 "_law_draw" sp__law_draw) (z_range : mg "range" = none) :
    Has P w K mg base 3 "_law_label" sp__law_label :=
  (Has.mk' (k := 2) (c := c__law_label) gm F b sc__law_label (fun ds M k E h => by first | (obtain ⟨_, _, rfl | ⟨_, rfl, _⟩, _⟩ := h <;> rfl) | (obtain ⟨_, _, _, _, _, rfl, _⟩ := h; rfl) | (obtain ⟨_, ⟨_, _, _, _, rfl, _⟩, _⟩ := h; rfl) | (obtain ⟨_, ⟨_, _, _, _, _, rfl, _⟩, _⟩ := h; rfl) | (obtain ⟨_, rfl, _⟩ := h <;> rfl) | (obtain ⟨_, _, rfl, _⟩ := h <;> rfl) | (obtain ⟨_, _, _, rfl, _⟩ := h <;> rfl) | (obtain ⟨_, _, _, _, rfl, _⟩ := h <;> rfl) | (obtain ⟨_, ⟨_, rfl, _⟩, _⟩ := h <;> rfl) | (obtain ⟨_, ⟨_, _, rfl, _⟩, _⟩ := h <;> rfl) | (obtain ⟨_, ⟨_, _, _, rfl, _⟩, _⟩ := h <;> rfl) | (obtain ⟨_, ⟨_, rfl, _⟩ | ⟨_, rfl, _⟩, _⟩ := h <;> rfl)) (fun cdv A outer s H E hr => (pssd_one (psd_ret (pd_join pd_str (pd_lc (g := (gN 1)) (own := [("_law_k", 1)]) rfl sc__law_label.nd (pid_range1 (by rfl) z_range (pad_cons (pd_bin od_add pd_int (pd_callH h__law_draw (hr.mono (by first | decide | omega)) (pad_cons (pd_var (pv 0)) (pad_cons pd_int pad_nil)))) pad_nil)) (blkOk_by (N := N__law_label) (sc := defScope s__law_label) (by decide +kernel)) mono_gN (tg_name (i := 1) (by decide)) (fun _ _ _ _ _ => pg_name (i := 1) sc__law_label.nd rfl (Or.inl rfl)) (fun _ _ _ _ _ => ptsd_nil) (fun _ _ _ _ _ => (pd_callH h__law_any (hr.mono (by first | decide | omega)) (pad_cons (pd_var (pv 0)) (pad_cons pd_str pad_nil))))))))) main__law_label mono__law_label).imp (fun _ _ _ _ h => h) mono__law_label
theorem ok__law_labels {P : Program} {w : World} {K : PySem.W.Frag} {mg : Str → Option Value} {base : Heap} {f : Addr} {fd : FuncData} (F : L2.Fun K "_law_labels" "_law_labels" s__law_labels f fd) (gm : mg "_law_labels" = some (.ref f)) (b : Binds K fd ["_law_box", "_law_many"] []) (h__law_label : Has P w K mg base 3 "_law_label" sp__law_label) (z_range : mg "range" = none) :
    Has P w K mg base 4 "_law_labels" sp__law_labels :=
  (Has.mkF (k := 3) (c := c__law_labels) gm F b sc__law_labels (fun ds M k E h => by first | (obtain ⟨_, _, rfl | ⟨_, rfl, _⟩, _⟩ := h <;> rfl) | (obtain ⟨_, _, _, _, _, rfl, _⟩ := h; rfl) | (obtain ⟨_, ⟨_, _, _, _, rfl, _⟩, _⟩ := h; rfl) | (obtain ⟨_, ⟨_, _, _, _, _, rfl, _⟩, _⟩ := h; rfl) | (obtain ⟨_, rfl, _⟩ := h <;> rfl) | (obtain ⟨_, _, rfl, _⟩ := h <;> rfl) | (obtain ⟨_, _, _, rfl, _⟩ := h <;> rfl) | (obtain ⟨_, _, _, _, rfl, _⟩ := h <;> rfl) | (obtain ⟨_, ⟨_, rfl, _⟩, _⟩ := h <;> rfl) | (obtain ⟨_, ⟨_, _, rfl, _⟩, _⟩ := h <;> rfl) | (obtain ⟨_, ⟨_, _, _, rfl, _⟩, _⟩ := h <;> rfl) | (obtain ⟨_, ⟨_, rfl, _⟩ | ⟨_, rfl, _⟩, _⟩ := h <;> rfl)) (fun cdv A outer s H E hr => (pssd_cons (psd_set (i := 2) sc__law_labels.nd rfl (Or.inl rfl) (pd_lst pad_nil))
      (pssd_cons (psd_for PassesOwn.never rfl (pid_range1 (by rfl) z_range (pad_cons (pd_var (pv 1)) pad_nil)) (pgd_name (i := 3) sc__law_labels.nd rfl (Or.inl rfl)) (pssd_cons (psd_set (i := 4) sc__law_labels.nd rfl (Or.inl rfl) (pd_callH h__law_label (hr.mono (by first | decide | omega)) (pad_cons (pd_var (pv 0)) pad_nil)))
      (pssd_cons (psd_set (i := 5) sc__law_labels.nd rfl (Or.inl rfl) (pd_bin od_mulS (pd_ix xd_seq pd_str (pd_var (pv 3)) (fun _ _ => rfl)) pd_int))
      (pssd_one (psd_if (ptd_cmp (od_notIn hr.units) (pd_var (pv 4)) (pd_var (pv 2)) (by rfl)) (pssd_one (psd_expr (pd_app (pd_var (pv 2)) (pd_var (pv 4))))) (pssd_one (psd_if (ptd_cmp (od_notIn hr.units) (pd_var (pv 5)) (pd_var (pv 2)) (by rfl)) (pssd_one (psd_expr (pd_app (pd_var (pv 2)) (pd_var (pv 5))))) pssd_nil)))))))
      (pssd_one (psd_ret (pd_var (pv 2))))))) main__law_labels mono__law_labels).imp (fun _ _ _ _ h => h) mono__law_labels
theorem ok__law_a_box {P : Program} {w : World} {K : PySem.W.Frag} {mg : Str → Option Value} {base : Heap} {f : Addr} {fd : FuncData} (F : L2.Fun K "_law_a_box" "_law_a_box" s__law_a_box f fd) (gm : mg "_law_a_box" = some (.ref f)) (b : Binds K fd ["_law_script"] []) (z_len : mg "len" = none) (z_list : mg "list" = none) :
    Has P w K mg base 1 "_law_a_box" sp__law_a_box :=
  (Has.mk' (k := 0) (c := c__law_a_box) gm F b sc__law_a_box (fun ds M k E h => by first | (obtain ⟨_, _, rfl | ⟨_, rfl, _⟩, _⟩ := h <;> rfl) | (obtain ⟨_, _, _, _, _, rfl, _⟩ := h; rfl) | (obtain ⟨_, ⟨_, _, _, _, rfl, _⟩, _⟩ := h; rfl) | (obtain ⟨_, ⟨_, _, _, _, _, rfl, _⟩, _⟩ := h; rfl) | (obtain ⟨_, rfl, _⟩ := h <;> rfl) | (obtain ⟨_, _, rfl, _⟩ := h <;> rfl) | (obtain ⟨_, _, _, rfl, _⟩ := h <;> rfl) | (obtain ⟨_, _, _, _, rfl, _⟩ := h <;> rfl) | (obtain ⟨_, ⟨_, rfl, _⟩, _⟩ := h <;> rfl) | (obtain ⟨_, ⟨_, _, rfl, _⟩, _⟩ := h <;> rfl) | (obtain ⟨_, ⟨_, _, _, rfl, _⟩, _⟩ := h <;> rfl) | (obtain ⟨_, ⟨_, rfl, _⟩ | ⟨_, rfl, _⟩, _⟩ := h <;> rfl)) (fun cdv A outer s H E hr => (pssd_cons (psd_set (i := 1) sc__law_a_box.nd rfl (Or.inl rfl) (pd_callTy cd_list (by rfl) z_list (by decide +kernel) (pad_cons (pd_slice (pd_var (pv 0)) pod_none (pod_some pd_int)) pad_nil)))
      (pssd_cons (psd_set (i := 2) sc__law_a_box.nd rfl (Or.inl rfl) (pd_bin od_add pd_int (pd_bin od_mul pd_int (pd_callB cd_len (by rfl) z_len (by decide +kernel) (pad_cons (pd_var (pv 1)) pad_nil)))))
      (pssd_cons (psd_for PassesOwn.never rfl (pid_seq (pd_var (pv 1))) (pgd_name (i := 3) sc__law_a_box.nd rfl (Or.inl rfl)) (pssd_one (psd_set (i := 2) sc__law_a_box.nd rfl (Or.inl rfl) (pd_bin od_mod (pd_bin od_add (pd_bin od_mul (pd_var (pv 2)) pd_int) (pd_var (pv 3))) pd_int))))
      (pssd_one (psd_ret (pd_lst (pad_cons (pd_var (pv 1)) (pad_cons pd_int (pad_cons pd_int (pad_cons (pd_var (pv 2)) pad_nil))))))))))) main__law_a_box mono__law_a_box).imp (fun _ _ _ _ h => h) mono__law_a_box

theorem ok_same {P : Program} {w : World} {K : PySem.W.Frag} {mg : Str → Option Value} {base : Heap} {f : Addr} {fd : FuncData} (F : L2.Fun K "_law_same" "_law_same" s__law_same f fd) (gm : mg "_law_same" = some (.ref f)) (b : Binds K fd ["_law_found", "_law_due"] []) (h__law_whole : Has P w K mg base 1 "_law_whole" sp__law_whole) (z_all : mg "all" = none) (z_bool : mg "bool" = none) (z_int : mg "int" = none) (z_isinstance : mg "isinstance" = none) (z_len : mg "len" = none) (z_list : mg "list" = none) (z_str : mg "str" = none) (z_tuple : mg "tuple" = none) (z_zip : mg "zip" = none) :
    ∀ n : Nat, Has P w K mg base (n + 1) "_law_same" (sp__law_same_ n)
  | 0 => ⟨⟨f, gm, F.kp, fun A outer s H us vs Q E _ _ _ h => by obtain ⟨_, _, _, _, _, q⟩ := h; exact q.elim⟩, fun _ _ _ _ _ _ _ _ h => h.elim⟩
  | n + 1 => by
    have h__law_same := ok_same F gm b h__law_whole z_all z_bool z_int z_isinstance z_len z_list z_str z_tuple z_zip n
    exact (Has.mk' (k := n + 1) (c := c__law_same (sp__law_same_ n)) gm F b sc__law_same (fun ds M k E h => by first | (obtain ⟨_, _, rfl | ⟨_, rfl, _⟩, _⟩ := h <;> rfl) | (obtain ⟨_, _, _, _, _, rfl, _⟩ := h; rfl) | (obtain ⟨_, ⟨_, _, _, _, rfl, _⟩, _⟩ := h; rfl) | (obtain ⟨_, ⟨_, _, _, _, _, rfl, _⟩, _⟩ := h; rfl) | (obtain ⟨_, rfl, _⟩ := h <;> rfl) | (obtain ⟨_, _, rfl, _⟩ := h <;> rfl) | (obtain ⟨_, _, _, rfl, _⟩ := h <;> rfl) | (obtain ⟨_, _, _, _, rfl, _⟩ := h <;> rfl) | (obtain ⟨_, ⟨_, rfl, _⟩, _⟩ := h <;> rfl) | (obtain ⟨_, ⟨_, _, rfl, _⟩, _⟩ := h <;> rfl) | (obtain ⟨_, ⟨_, _, _, rfl, _⟩, _⟩ := h <;> rfl) | (obtain ⟨_, ⟨_, rfl, _⟩ | ⟨_, rfl, _⟩, _⟩ := h <;> rfl)) (fun cdv A outer s H E hr => (pssd_cons (psd_if (ptd_cmp od_isN (pd_var (pv 1)) pd_non (nomark _)) (pssd_one (psd_ret (pd_cmp od_isN (pd_var (pv 0)) pd_non (nomark _)))) pssd_nil)
      (pssd_cons (psd_if (ptd_val (pd_callB cd_isi (by rfl) z_isinstance (by decide +kernel) (pad_cons (pd_var (pv 1)) (pad_cons (pd_ty z_bool (by decide +kernel)) pad_nil)))) (pssd_one (psd_ret (pd_and (pd_callB cd_isi (by rfl) z_isinstance (by decide +kernel) (pad_cons (pd_var (pv 0)) (pad_cons (pd_ty z_bool (by decide +kernel)) pad_nil))) (pd_one (pd_cmp od_eq (pd_var (pv 0)) (pd_var (pv 1)) (nomark _)))))) pssd_nil)
      (pssd_cons (psd_if (ptd_val (pd_callB cd_isi (by rfl) z_isinstance (by decide +kernel) (pad_cons (pd_var (pv 1)) (pad_cons (pd_ty z_int (by decide +kernel)) pad_nil)))) (pssd_one (psd_ret (pd_and (pd_callH h__law_whole (hr.mono (by first | decide | omega)) (pad_cons (pd_var (pv 0)) pad_nil)) (pd_one (pd_cmp od_eq (pd_var (pv 0)) (pd_var (pv 1)) (nomark _)))))) pssd_nil)
      (pssd_cons (psd_if (ptd_val (pd_callB cd_isi (by rfl) z_isinstance (by decide +kernel) (pad_cons (pd_var (pv 1)) (pad_cons (pd_ty z_str (by decide +kernel)) pad_nil)))) (pssd_one (psd_ret (pd_and (pd_callB cd_isi (by rfl) z_isinstance (by decide +kernel) (pad_cons (pd_var (pv 0)) (pad_cons (pd_ty z_str (by decide +kernel)) pad_nil))) (pd_one (pd_cmp od_eq (pd_var (pv 0)) (pd_var (pv 1)) (nomark _)))))) pssd_nil)
      (pssd_cons (psd_if (PWd.pt (pwd_or (ptd_cmp od_ne (pd_callB cd_isi (by rfl) z_isinstance (by decide +kernel) (pad_cons (pd_var (pv 1)) (pad_cons (pd_ty z_list (by decide +kernel)) pad_nil))) (pd_callB cd_isi (by rfl) z_isinstance (by decide +kernel) (pad_cons (pd_var (pv 0)) (pad_cons (pd_ty z_list (by decide +kernel)) pad_nil))) (nomark _)) (pwd_or1 (ptd_cmp od_ne (pd_callB cd_isi (by rfl) z_isinstance (by decide +kernel) (pad_cons (pd_var (pv 1)) (pad_cons (pd_ty z_tuple (by decide +kernel)) pad_nil))) (pd_callB cd_isi (by rfl) z_isinstance (by decide +kernel) (pad_cons (pd_var (pv 0)) (pad_cons (pd_ty z_tuple (by decide +kernel)) pad_nil))) (nomark _))))) (pssd_one (psd_ret pd_bl)) pssd_nil)
      (pssd_cons (psd_if (ptd_cmp od_ne (pd_callB cd_len (by rfl) z_len (by decide +kernel) (pad_cons (pd_var (pv 0)) pad_nil)) (pd_callB cd_len (by rfl) z_len (by decide +kernel) (pad_cons (pd_var (pv 1)) pad_nil)) (nomark _)) (pssd_one (psd_ret pd_bl)) pssd_nil)
      (pssd_one (psd_ret (pd_callB (cd_all rfl) (by rfl) z_all (by decide +kernel) (pad_cons (pd_lc (g := (gSeq 2 (gCons' (gN 2) (gCons' (gN 3) gNil')))) (own := [("_law_one", 2), ("_law_other", 3)]) rfl sc__law_same.nd (pid_zip (by rfl) z_zip (pad_cons (pd_var (pv 0)) (pad_cons (pd_var (pv 1)) pad_nil))) (blkOk_by (N := N__law_same) (sc := defScope s__law_same) (by decide +kernel)) mono_g2 (tg_two (i := 2) (j := 3) (by decide) (by decide)) (fun _ _ _ _ _ => pg_tup rfl (pgs_cons (pg_name (i := 2) sc__law_same.nd rfl (Or.inl rfl)) (pgs_cons (pg_name (i := 3) sc__law_same.nd rfl (Or.inl rfl)) pgs_nil))) (fun _ _ _ _ _ => ptsd_nil) (fun _ _ _ _ _ => (pd_callH h__law_same (hr.mono (by first | decide | omega)) (pad_cons (pd_var (pv 2)) (pad_cons (pd_var (pv 3)) pad_nil))))) pad_nil))))))))))) (main__law_same n) mono_P).imp (fun _ _ _ _ h => h) mono_P
def sp__law_same : SpD := spF (sp__law_same_ 15)
theorem ok__law_same {P : Program} {w : World} {K : PySem.W.Frag} {mg : Str → Option Value} {base : Heap} {f : Addr} {fd : FuncData} (F : L2.Fun K "_law_same" "_law_same" s__law_same f fd) (gm : mg "_law_same" = some (.ref f)) (b : Binds K fd ["_law_found", "_law_due"] []) (h__law_whole : Has P w K mg base 1 "_law_whole" sp__law_whole) (z_all : mg "all" = none) (z_bool : mg "bool" = none) (z_int : mg "int" = none) (z_isinstance : mg "isinstance" = none) (z_len : mg "len" = none) (z_list : mg "list" = none) (z_str : mg "str" = none) (z_tuple : mg "tuple" = none) (z_zip : mg "zip" = none) : Has P w K mg base 16 "_law_same" sp__law_same := (ok_same F gm b h__law_whole z_all z_bool z_int z_isinstance z_len z_list z_str z_tuple z_zip 15).frz
end DL

set_option maxHeartbeats 4000000
namespace DL
open PySem PySem.Spec PyProof.Rows L2
abbrev sp__law_a_statement : SpD := sp__law_a_statement_ 12
abbrev sp__law_code : SpD := sp__law_code_ 12
abbrev sp_reverse : SpD := sp_reverse_ 24
abbrev sp__reverse_of : SpD := sp__reverse_of_ 24
abbrev sp_statements : SpD := sp_statements_ 24
abbrev sp_depth : SpD := sp_depth_ 24
abbrev sp__law_reverse : SpD := sp__law_reverse_ 24
abbrev sp__law_count : SpD := sp__law_count_ 24
abbrev sp__law_a_deep : SpD := sp__law_a_deep_ 24
/-! the law -/
def c_law : CS :=
  (cSeq (cAsg (cCall (NoX sp__law_a_box) (cCons (cVar 0) cNil)) (gN 1))
    (cSeq (cFor (ciR1 (cCons (cC (.int 5)) cNil)) (gN 2) (cSeq (cAsg (cBin ρAdd (cC (.int 1)) (cCall (NoX sp__law_draw) (cCons (cVar 1) (cCons (cC (.int 3)) cNil)))) (gN 3))
    (cSeq (cAsg (cCall (NoX sp__law_code) (cCons (cVar 1) (cCons (cVar 3) (cCons (cCall (NoX sp__law_labels) (cCons (cVar 1) (cCons (cC (.int 3)) cNil))) (cCons (cC (.int 3)) (cCons (cC (.int 5)) cNil)))))) (gN 4))
    (cSeq (cAsg (cCall (NoX sp_reverse) (cCons (cVar 4) cNil)) (gN 5))
    (cSeq (cIf (cOr (cNot (cTest (cCall (NoX sp__law_same) (cCons (cVar 5) (cCons (cCall (NoX sp__law_reverse) (cCons (cVar 4) cNil)) cNil))))) (cNot (cTest (cCall (NoX sp__law_same) (cCons (cCall (NoX sp_reverse) (cCons (cVar 5) cNil)) (cCons (cVar 4) cNil)))))) (cRet (cC (.bl false))) cNext)
    (cSeq (cIf (cNot (cTest (cCall (NoX sp__law_same) (cCons (cLst (cCons (cCall (NoX sp_statements) (cCons (cVar 4) cNil)) (cCons (cCall (NoX sp_depth) (cCons (cVar 4) cNil)) cNil))) (cCons (cLst (cCons (cCall (NoX sp__law_count) (cCons (cVar 4) cNil)) (cCons (cCall (NoX sp__law_a_deep) (cCons (cVar 4) cNil)) cNil))) cNil))))) (cRet (cC (.bl false))) cNext)
    (cSeq (cAsg (cVar 4) (gN 6))
    (cSeq (cFor (ciR1 (cCons (cCall (NoX sp__law_draw) (cCons (cVar 1) (cCons (cC (.int 9)) cNil))) cNil)) (gN 7) (cAsg (cTup (cCons (cTup (cCons (cC (.str "repeat")) (cCons (cVar 7) (cCons (cVar 6) cNil)))) cNil)) (gN 6)))
    (cIf (cNot (cTest (cCall (NoX sp__law_same) (cCons (cLst (cCons (cCall (NoX sp_statements) (cCons (cVar 6) cNil)) (cCons (cCall (NoX sp_depth) (cCons (cVar 6) cNil)) cNil))) (cCons (cLst (cCons (cCall (NoX sp__law_count) (cCons (cVar 6) cNil)) (cCons (cCall (NoX sp__law_a_deep) (cCons (cVar 6) cNil)) cNil))) cNil))))) (cRet (cC (.bl false))) cNext)))))))))
    (cRet (cC (.bl true)))))
theorem main_law : ∀ ds M k, sp_law ds M k (fun _ _ _ => False) → c_law { nx := fun _ M' => k .non M', rt := k } (startD 8 ds) M := by
  rintro ds M k ⟨ns, rfl, hl, q⟩
  show c_law _ [some (.rd (ns.map D.int)), none, none, none, none, none, none, none] M
  unfold c_law
  (try simp only [z_seq, z_next, z_brk, z_cont, z_asg, z_asgK, z_gN, z_gSeq, z_gSeqL, z_gcons, z_gconsK, z_gnil, z_gsub, z_subK1, z_subK2, z_subK3, z_set, z_set1, z_set2, z_ret, z_retN, z_drop, z_dropK, z_if, z_brT, z_brF, z_for, z_forK, z_loop0, z_loop1, z_loopK, z_var0, z_varS, z_c, z_bin, z_binK1, z_binK2, z_test, z_asB, z_and, z_andT, z_andF, z_or, z_orT, z_orF, z_not, z_notK, z_andV, z_andVT, z_andVF, z_orV, z_orVT, z_orVF, z_notV, z_notVK, z_ifE, z_ifT, z_ifF, z_nil, z_cons, z_consK, z_consK2, z_tup, z_tupK, z_lst, z_lstK, z_un, z_unK, z_neg, z_cb, z_cbK, z_call, z_callK, z_star, z_starK, z_starK2, z_seqL, z_seqT, z_seqR, z_I, z_I0, z_mul, z_mulT, z_mulL, z_tupleR, z_tupM, z_lenP, z_lenM, z_add, z_addS, z_addL, z_addT, z_eqI, z_neI, z_eqB, z_neB, z_eqS, z_neS, z_isN, z_notN, z_ixL, z_ixT, z_ixR, z_ixM, z_atK, z_lenL, z_lenT, z_lenR, z_lenS, z_listL, z_listR, z_listT, z_tupleL, z_tupleT, z_sl, z_slK1, z_slK2, z_slK3, z_oNone, z_oSome, z_oK, z_slT, z_slL, z_slR, z_r1, z_r1K, z_r2, z_r2K, z_zip, z_zipL, z_zipT, z_iseq, z_meth, z_methK, z_methK2, z_app, z_appM, z_lc, isNon, Bool.not_true, Bool.not_false, z_at0, z_at1, z_at2, z_at3, z_mulS, z_okStr, z_join, z_intB, z_intI, z_dnew, z_setD, z_setD1, z_listD, z_listD1, z_par, z_parK, z_rev, z_revK, z_sum, z_max, z_disp2, z_back, z_backK, z_backK2, z_maxD, z_maxK, z_maxK2, z_dg, z_dgK, z_dgK2, z_dgM, List.set_cons_zero, List.set_cons_succ])
  refine ⟨ns, rfl, hl, fun b M1 nb hb hr => ?_⟩
  (try simp only [z_seq, z_next, z_brk, z_cont, z_asg, z_asgK, z_gN, z_gSeq, z_gSeqL, z_gcons, z_gconsK, z_gnil, z_gsub, z_subK1, z_subK2, z_subK3, z_set, z_set1, z_set2, z_ret, z_retN, z_drop, z_dropK, z_if, z_brT, z_brF, z_for, z_forK, z_loop0, z_loop1, z_loopK, z_var0, z_varS, z_c, z_bin, z_binK1, z_binK2, z_test, z_asB, z_and, z_andT, z_andF, z_or, z_orT, z_orF, z_not, z_notK, z_andV, z_andVT, z_andVF, z_orV, z_orVT, z_orVF, z_notV, z_notVK, z_ifE, z_ifT, z_ifF, z_nil, z_cons, z_consK, z_consK2, z_tup, z_tupK, z_lst, z_lstK, z_un, z_unK, z_neg, z_cb, z_cbK, z_call, z_callK, z_star, z_starK, z_starK2, z_seqL, z_seqT, z_seqR, z_I, z_I0, z_mul, z_mulT, z_mulL, z_tupleR, z_tupM, z_lenP, z_lenM, z_add, z_addS, z_addL, z_addT, z_eqI, z_neI, z_eqB, z_neB, z_eqS, z_neS, z_isN, z_notN, z_ixL, z_ixT, z_ixR, z_ixM, z_atK, z_lenL, z_lenT, z_lenR, z_lenS, z_listL, z_listR, z_listT, z_tupleL, z_tupleT, z_sl, z_slK1, z_slK2, z_slK3, z_oNone, z_oSome, z_oK, z_slT, z_slL, z_slR, z_r1, z_r1K, z_r2, z_r2K, z_zip, z_zipL, z_zipT, z_iseq, z_meth, z_methK, z_methK2, z_app, z_appM, z_lc, isNon, Bool.not_true, Bool.not_false, z_at0, z_at1, z_at2, z_at3, z_mulS, z_okStr, z_join, z_intB, z_intI, z_dnew, z_setD, z_setD1, z_listD, z_listD1, z_par, z_parK, z_rev, z_revK, z_sum, z_max, z_disp2, z_back, z_backK, z_backK2, z_maxD, z_maxK, z_maxK2, z_dg, z_dgK, z_dgK2, z_dgM, List.set_cons_zero, List.set_cons_succ])
  refine ⟨by decide, by decide, ?_⟩
  refine loop_inv' (fun τ M => BoxAt M b ∧ ∃ o2 o3 o4 o5 o6 o7 : Option D, τ = [some (.rd (ns.map D.int)), some (.ref b), o2, o3, o4, o5, o6, o7]) ?_ ⟨hb, _, _, _, _, _, _, rfl⟩ ?_
  · rintro d _ _ M E' ⟨hb, o2, o3, o4, o5, o6, o7, rfl⟩ - hnx -
    (try simp only [z_seq, z_next, z_brk, z_cont, z_asg, z_asgK, z_gN, z_gSeq, z_gSeqL, z_gcons, z_gconsK, z_gnil, z_gsub, z_subK1, z_subK2, z_subK3, z_set, z_set1, z_set2, z_ret, z_retN, z_drop, z_dropK, z_if, z_brT, z_brF, z_for, z_forK, z_loopK, z_var0, z_varS, z_c, z_bin, z_binK1, z_binK2, z_test, z_asB, z_and, z_andT, z_andF, z_or, z_orT, z_orF, z_not, z_notK, z_andV, z_andVT, z_andVF, z_orV, z_orVT, z_orVF, z_notV, z_notVK, z_ifE, z_ifT, z_ifF, z_nil, z_cons, z_consK, z_consK2, z_tup, z_tupK, z_lst, z_lstK, z_un, z_unK, z_neg, z_cb, z_cbK, z_call, z_callK, z_star, z_starK, z_starK2, z_seqL, z_seqT, z_seqR, z_I, z_I0, z_mul, z_mulT, z_mulL, z_tupleR, z_tupM, z_lenP, z_lenM, z_add, z_addS, z_addL, z_addT, z_eqI, z_neI, z_eqB, z_neB, z_eqS, z_neS, z_isN, z_notN, z_ixL, z_ixT, z_ixR, z_ixM, z_atK, z_lenL, z_lenT, z_lenR, z_lenS, z_listL, z_listR, z_listT, z_tupleL, z_tupleT, z_sl, z_slK1, z_slK2, z_slK3, z_oNone, z_oSome, z_oK, z_slT, z_slL, z_slR, z_r1, z_r1K, z_r2, z_r2K, z_zip, z_zipL, z_zipT, z_iseq, z_meth, z_methK, z_methK2, z_app, z_appM, z_lc, isNon, Bool.not_true, Bool.not_false, z_at0, z_at1, z_at2, z_at3, z_mulS, z_okStr, z_join, z_intB, z_intI, z_dnew, z_setD, z_setD1, z_listD, z_listD1, z_par, z_parK, z_rev, z_revK, z_sum, z_max, z_disp2, z_back, z_backK, z_backK2, z_maxD, z_maxK, z_maxK2, z_dg, z_dgK, z_dgK2, z_dgM, List.set_cons_zero, List.set_cons_succ])
    refine draw_go hb (by decide) (by decide) fun r M2 h0 h1 d1 => ?_
    (try simp only [z_seq, z_next, z_brk, z_cont, z_asg, z_asgK, z_gN, z_gSeq, z_gSeqL, z_gcons, z_gconsK, z_gnil, z_gsub, z_subK1, z_subK2, z_subK3, z_set, z_set1, z_set2, z_ret, z_retN, z_drop, z_dropK, z_if, z_brT, z_brF, z_for, z_forK, z_loopK, z_var0, z_varS, z_c, z_bin, z_binK1, z_binK2, z_test, z_asB, z_and, z_andT, z_andF, z_or, z_orT, z_orF, z_not, z_notK, z_andV, z_andVT, z_andVF, z_orV, z_orVT, z_orVF, z_notV, z_notVK, z_ifE, z_ifT, z_ifF, z_nil, z_cons, z_consK, z_consK2, z_tup, z_tupK, z_lst, z_lstK, z_un, z_unK, z_neg, z_cb, z_cbK, z_call, z_callK, z_star, z_starK, z_starK2, z_seqL, z_seqT, z_seqR, z_I, z_I0, z_mul, z_mulT, z_mulL, z_tupleR, z_tupM, z_lenP, z_lenM, z_add, z_addS, z_addL, z_addT, z_eqI, z_neI, z_eqB, z_neB, z_eqS, z_neS, z_isN, z_notN, z_ixL, z_ixT, z_ixR, z_ixM, z_atK, z_lenL, z_lenT, z_lenR, z_lenS, z_listL, z_listR, z_listT, z_tupleL, z_tupleT, z_sl, z_slK1, z_slK2, z_slK3, z_oNone, z_oSome, z_oK, z_slT, z_slL, z_slR, z_r1, z_r1K, z_r2, z_r2K, z_zip, z_zipL, z_zipT, z_iseq, z_meth, z_methK, z_methK2, z_app, z_appM, z_lc, isNon, Bool.not_true, Bool.not_false, z_at0, z_at1, z_at2, z_at3, z_mulS, z_okStr, z_join, z_intB, z_intI, z_dnew, z_setD, z_setD1, z_listD, z_listD1, z_par, z_parK, z_rev, z_revK, z_sum, z_max, z_disp2, z_back, z_backK, z_backK2, z_maxD, z_maxK, z_maxK2, z_dg, z_dgK, z_dgK2, z_dgM, List.set_cons_zero, List.set_cons_succ])
    refine ⟨b, 3, rfl, d1.1, by decide, by decide, fun d M3 hd d2 => ?_⟩
    obtain ⟨xs, rfl, xne, xl, hx⟩ := hd
    (try simp only [z_seq, z_next, z_brk, z_cont, z_asg, z_asgK, z_gN, z_gSeq, z_gSeqL, z_gcons, z_gconsK, z_gnil, z_gsub, z_subK1, z_subK2, z_subK3, z_set, z_set1, z_set2, z_ret, z_retN, z_drop, z_dropK, z_if, z_brT, z_brF, z_for, z_forK, z_loopK, z_var0, z_varS, z_c, z_bin, z_binK1, z_binK2, z_test, z_asB, z_and, z_andT, z_andF, z_or, z_orT, z_orF, z_not, z_notK, z_andV, z_andVT, z_andVF, z_orV, z_orVT, z_orVF, z_notV, z_notVK, z_ifE, z_ifT, z_ifF, z_nil, z_cons, z_consK, z_consK2, z_tup, z_tupK, z_lst, z_lstK, z_un, z_unK, z_neg, z_cb, z_cbK, z_call, z_callK, z_star, z_starK, z_starK2, z_seqL, z_seqT, z_seqR, z_I, z_I0, z_mul, z_mulT, z_mulL, z_tupleR, z_tupM, z_lenP, z_lenM, z_add, z_addS, z_addL, z_addT, z_eqI, z_neI, z_eqB, z_neB, z_eqS, z_neS, z_isN, z_notN, z_ixL, z_ixT, z_ixR, z_ixM, z_atK, z_lenL, z_lenT, z_lenR, z_lenS, z_listL, z_listR, z_listT, z_tupleL, z_tupleT, z_sl, z_slK1, z_slK2, z_slK3, z_oNone, z_oSome, z_oK, z_slT, z_slL, z_slR, z_r1, z_r1K, z_r2, z_r2K, z_zip, z_zipL, z_zipT, z_iseq, z_meth, z_methK, z_methK2, z_app, z_appM, z_lc, isNon, Bool.not_true, Bool.not_false, z_at0, z_at1, z_at2, z_at3, z_mulS, z_okStr, z_join, z_intB, z_intI, z_dnew, z_setD, z_setD1, z_listD, z_listD1, z_par, z_parK, z_rev, z_revK, z_sum, z_max, z_disp2, z_back, z_backK, z_backK2, z_maxD, z_maxK, z_maxK2, z_dg, z_dgK, z_dgK2, z_dgM, List.set_cons_zero, List.set_cons_succ])
    refine ⟨b, 1 + r, 3, 5, xs, rfl, d2.1, by omega, by omega, hx, by omega, by decide, by decide, by decide, by decide, fun d M4 hd d3 => ?_⟩
    obtain ⟨bl, rfl, hbl⟩ := hd
    have hbl2 : OkB (fun _ => True) 5 3 bl := ⟨hbl.1, fun s hs => (hbl.2 s hs).imp fun _ _ => trivial⟩
    have hrl : OkB (fun _ => True) 5 3 (revL bl) := revL_ok (fun _ _ => trivial) hbl2
    have up5 : ∀ {d : D}, Plain 9 d → Plain 14 d := fun h => h.up.up.up.up.up
    have err : revL (revL bl) = bl := by
      have := rev_rev (n := 4) (s := .rep 0 bl) hbl
      have e : St.rep 0 (revL (revL bl)) = St.rep 0 bl := this
      injection e
    (try simp only [z_seq, z_next, z_brk, z_cont, z_asg, z_asgK, z_gN, z_gSeq, z_gSeqL, z_gcons, z_gconsK, z_gnil, z_gsub, z_subK1, z_subK2, z_subK3, z_set, z_set1, z_set2, z_ret, z_retN, z_drop, z_dropK, z_if, z_brT, z_brF, z_for, z_forK, z_loopK, z_var0, z_varS, z_c, z_bin, z_binK1, z_binK2, z_test, z_asB, z_and, z_andT, z_andF, z_or, z_orT, z_orF, z_not, z_notK, z_andV, z_andVT, z_andVF, z_orV, z_orVT, z_orVF, z_notV, z_notVK, z_ifE, z_ifT, z_ifF, z_nil, z_cons, z_consK, z_consK2, z_tup, z_tupK, z_lst, z_lstK, z_un, z_unK, z_neg, z_cb, z_cbK, z_call, z_callK, z_star, z_starK, z_starK2, z_seqL, z_seqT, z_seqR, z_I, z_I0, z_mul, z_mulT, z_mulL, z_tupleR, z_tupM, z_lenP, z_lenM, z_add, z_addS, z_addL, z_addT, z_eqI, z_neI, z_eqB, z_neB, z_eqS, z_neS, z_isN, z_notN, z_ixL, z_ixT, z_ixR, z_ixM, z_atK, z_lenL, z_lenT, z_lenR, z_lenS, z_listL, z_listR, z_listT, z_tupleL, z_tupleT, z_sl, z_slK1, z_slK2, z_slK3, z_oNone, z_oSome, z_oK, z_slT, z_slL, z_slR, z_r1, z_r1K, z_r2, z_r2K, z_zip, z_zipL, z_zipT, z_iseq, z_meth, z_methK, z_methK2, z_app, z_appM, z_lc, isNon, Bool.not_true, Bool.not_false, z_at0, z_at1, z_at2, z_at3, z_mulS, z_okStr, z_join, z_intB, z_intI, z_dnew, z_setD, z_setD1, z_listD, z_listD1, z_par, z_parK, z_rev, z_revK, z_sum, z_max, z_disp2, z_back, z_backK, z_backK2, z_maxD, z_maxK, z_maxK2, z_dg, z_dgK, z_dgK2, z_dgM, List.set_cons_zero, List.set_cons_succ])
    refine ⟨_, ⟨bl, 5, 3, rfl, hbl2, by decide, by decide, rfl⟩, ?_⟩
    (try simp only [z_seq, z_next, z_brk, z_cont, z_asg, z_asgK, z_gN, z_gSeq, z_gSeqL, z_gcons, z_gconsK, z_gnil, z_gsub, z_subK1, z_subK2, z_subK3, z_set, z_set1, z_set2, z_ret, z_retN, z_drop, z_dropK, z_if, z_brT, z_brF, z_for, z_forK, z_loopK, z_var0, z_varS, z_c, z_bin, z_binK1, z_binK2, z_test, z_asB, z_and, z_andT, z_andF, z_or, z_orT, z_orF, z_not, z_notK, z_andV, z_andVT, z_andVF, z_orV, z_orVT, z_orVF, z_notV, z_notVK, z_ifE, z_ifT, z_ifF, z_nil, z_cons, z_consK, z_consK2, z_tup, z_tupK, z_lst, z_lstK, z_un, z_unK, z_neg, z_cb, z_cbK, z_call, z_callK, z_star, z_starK, z_starK2, z_seqL, z_seqT, z_seqR, z_I, z_I0, z_mul, z_mulT, z_mulL, z_tupleR, z_tupM, z_lenP, z_lenM, z_add, z_addS, z_addL, z_addT, z_eqI, z_neI, z_eqB, z_neB, z_eqS, z_neS, z_isN, z_notN, z_ixL, z_ixT, z_ixR, z_ixM, z_atK, z_lenL, z_lenT, z_lenR, z_lenS, z_listL, z_listR, z_listT, z_tupleL, z_tupleT, z_sl, z_slK1, z_slK2, z_slK3, z_oNone, z_oSome, z_oK, z_slT, z_slL, z_slR, z_r1, z_r1K, z_r2, z_r2K, z_zip, z_zipL, z_zipT, z_iseq, z_meth, z_methK, z_methK2, z_app, z_appM, z_lc, isNon, Bool.not_true, Bool.not_false, z_at0, z_at1, z_at2, z_at3, z_mulS, z_okStr, z_join, z_intB, z_intI, z_dnew, z_setD, z_setD1, z_listD, z_listD1, z_par, z_parK, z_rev, z_revK, z_sum, z_max, z_disp2, z_back, z_backK, z_backK2, z_maxD, z_maxK, z_maxK2, z_dg, z_dgK, z_dgK2, z_dgM, List.set_cons_zero, List.set_cons_succ])
    refine ⟨_, ⟨bl, 5, 3, rfl, hbl2, by decide, by decide, rfl⟩, ?_⟩
    (try simp only [z_seq, z_next, z_brk, z_cont, z_asg, z_asgK, z_gN, z_gSeq, z_gSeqL, z_gcons, z_gconsK, z_gnil, z_gsub, z_subK1, z_subK2, z_subK3, z_set, z_set1, z_set2, z_ret, z_retN, z_drop, z_dropK, z_if, z_brT, z_brF, z_for, z_forK, z_loopK, z_var0, z_varS, z_c, z_bin, z_binK1, z_binK2, z_test, z_asB, z_and, z_andT, z_andF, z_or, z_orT, z_orF, z_not, z_notK, z_andV, z_andVT, z_andVF, z_orV, z_orVT, z_orVF, z_notV, z_notVK, z_ifE, z_ifT, z_ifF, z_nil, z_cons, z_consK, z_consK2, z_tup, z_tupK, z_lst, z_lstK, z_un, z_unK, z_neg, z_cb, z_cbK, z_call, z_callK, z_star, z_starK, z_starK2, z_seqL, z_seqT, z_seqR, z_I, z_I0, z_mul, z_mulT, z_mulL, z_tupleR, z_tupM, z_lenP, z_lenM, z_add, z_addS, z_addL, z_addT, z_eqI, z_neI, z_eqB, z_neB, z_eqS, z_neS, z_isN, z_notN, z_ixL, z_ixT, z_ixR, z_ixM, z_atK, z_lenL, z_lenT, z_lenR, z_lenS, z_listL, z_listR, z_listT, z_tupleL, z_tupleT, z_sl, z_slK1, z_slK2, z_slK3, z_oNone, z_oSome, z_oK, z_slT, z_slL, z_slR, z_r1, z_r1K, z_r2, z_r2K, z_zip, z_zipL, z_zipT, z_iseq, z_meth, z_methK, z_methK2, z_app, z_appM, z_lc, isNon, Bool.not_true, Bool.not_false, z_at0, z_at1, z_at2, z_at3, z_mulS, z_okStr, z_join, z_intB, z_intI, z_dnew, z_setD, z_setD1, z_listD, z_listD1, z_par, z_parK, z_rev, z_revK, z_sum, z_max, z_disp2, z_back, z_backK, z_backK2, z_maxD, z_maxK, z_maxK2, z_dg, z_dgK, z_dgK2, z_dgM, List.set_cons_zero, List.set_cons_succ])
    refine same_go rfl (up5 (plain_b (L := 5) (n := 3) (by decide) hrl)) ?_
    (try simp only [z_seq, z_next, z_brk, z_cont, z_asg, z_asgK, z_gN, z_gSeq, z_gSeqL, z_gcons, z_gconsK, z_gnil, z_gsub, z_subK1, z_subK2, z_subK3, z_set, z_set1, z_set2, z_ret, z_retN, z_drop, z_dropK, z_if, z_brT, z_brF, z_for, z_forK, z_loopK, z_var0, z_varS, z_c, z_bin, z_binK1, z_binK2, z_test, z_asB, z_and, z_andT, z_andF, z_or, z_orT, z_orF, z_not, z_notK, z_andV, z_andVT, z_andVF, z_orV, z_orVT, z_orVF, z_notV, z_notVK, z_ifE, z_ifT, z_ifF, z_nil, z_cons, z_consK, z_consK2, z_tup, z_tupK, z_lst, z_lstK, z_un, z_unK, z_neg, z_cb, z_cbK, z_call, z_callK, z_star, z_starK, z_starK2, z_seqL, z_seqT, z_seqR, z_I, z_I0, z_mul, z_mulT, z_mulL, z_tupleR, z_tupM, z_lenP, z_lenM, z_add, z_addS, z_addL, z_addT, z_eqI, z_neI, z_eqB, z_neB, z_eqS, z_neS, z_isN, z_notN, z_ixL, z_ixT, z_ixR, z_ixM, z_atK, z_lenL, z_lenT, z_lenR, z_lenS, z_listL, z_listR, z_listT, z_tupleL, z_tupleT, z_sl, z_slK1, z_slK2, z_slK3, z_oNone, z_oSome, z_oK, z_slT, z_slL, z_slR, z_r1, z_r1K, z_r2, z_r2K, z_zip, z_zipL, z_zipT, z_iseq, z_meth, z_methK, z_methK2, z_app, z_appM, z_lc, isNon, Bool.not_true, Bool.not_false, z_at0, z_at1, z_at2, z_at3, z_mulS, z_okStr, z_join, z_intB, z_intI, z_dnew, z_setD, z_setD1, z_listD, z_listD1, z_par, z_parK, z_rev, z_revK, z_sum, z_max, z_disp2, z_back, z_backK, z_backK2, z_maxD, z_maxK, z_maxK2, z_dg, z_dgK, z_dgK2, z_dgM, List.set_cons_zero, List.set_cons_succ])
    refine ⟨_, ⟨revL bl, 5, 3, rfl, hrl, by decide, by decide, rfl⟩, ?_⟩
    (try simp only [z_seq, z_next, z_brk, z_cont, z_asg, z_asgK, z_gN, z_gSeq, z_gSeqL, z_gcons, z_gconsK, z_gnil, z_gsub, z_subK1, z_subK2, z_subK3, z_set, z_set1, z_set2, z_ret, z_retN, z_drop, z_dropK, z_if, z_brT, z_brF, z_for, z_forK, z_loopK, z_var0, z_varS, z_c, z_bin, z_binK1, z_binK2, z_test, z_asB, z_and, z_andT, z_andF, z_or, z_orT, z_orF, z_not, z_notK, z_andV, z_andVT, z_andVF, z_orV, z_orVT, z_orVF, z_notV, z_notVK, z_ifE, z_ifT, z_ifF, z_nil, z_cons, z_consK, z_consK2, z_tup, z_tupK, z_lst, z_lstK, z_un, z_unK, z_neg, z_cb, z_cbK, z_call, z_callK, z_star, z_starK, z_starK2, z_seqL, z_seqT, z_seqR, z_I, z_I0, z_mul, z_mulT, z_mulL, z_tupleR, z_tupM, z_lenP, z_lenM, z_add, z_addS, z_addL, z_addT, z_eqI, z_neI, z_eqB, z_neB, z_eqS, z_neS, z_isN, z_notN, z_ixL, z_ixT, z_ixR, z_ixM, z_atK, z_lenL, z_lenT, z_lenR, z_lenS, z_listL, z_listR, z_listT, z_tupleL, z_tupleT, z_sl, z_slK1, z_slK2, z_slK3, z_oNone, z_oSome, z_oK, z_slT, z_slL, z_slR, z_r1, z_r1K, z_r2, z_r2K, z_zip, z_zipL, z_zipT, z_iseq, z_meth, z_methK, z_methK2, z_app, z_appM, z_lc, isNon, Bool.not_true, Bool.not_false, z_at0, z_at1, z_at2, z_at3, z_mulS, z_okStr, z_join, z_intB, z_intI, z_dnew, z_setD, z_setD1, z_listD, z_listD1, z_par, z_parK, z_rev, z_revK, z_sum, z_max, z_disp2, z_back, z_backK, z_backK2, z_maxD, z_maxK, z_maxK2, z_dg, z_dgK, z_dgK2, z_dgM, List.set_cons_zero, List.set_cons_succ])
    refine same_go (by rw [err]) (up5 (plain_b (L := 5) (n := 3) (by decide) (by rw [err]; exact hbl2))) ?_
    (try simp only [z_seq, z_next, z_brk, z_cont, z_asg, z_asgK, z_gN, z_gSeq, z_gSeqL, z_gcons, z_gconsK, z_gnil, z_gsub, z_subK1, z_subK2, z_subK3, z_set, z_set1, z_set2, z_ret, z_retN, z_drop, z_dropK, z_if, z_brT, z_brF, z_for, z_forK, z_loopK, z_var0, z_varS, z_c, z_bin, z_binK1, z_binK2, z_test, z_asB, z_and, z_andT, z_andF, z_or, z_orT, z_orF, z_not, z_notK, z_andV, z_andVT, z_andVF, z_orV, z_orVT, z_orVF, z_notV, z_notVK, z_ifE, z_ifT, z_ifF, z_nil, z_cons, z_consK, z_consK2, z_tup, z_tupK, z_lst, z_lstK, z_un, z_unK, z_neg, z_cb, z_cbK, z_call, z_callK, z_star, z_starK, z_starK2, z_seqL, z_seqT, z_seqR, z_I, z_I0, z_mul, z_mulT, z_mulL, z_tupleR, z_tupM, z_lenP, z_lenM, z_add, z_addS, z_addL, z_addT, z_eqI, z_neI, z_eqB, z_neB, z_eqS, z_neS, z_isN, z_notN, z_ixL, z_ixT, z_ixR, z_ixM, z_atK, z_lenL, z_lenT, z_lenR, z_lenS, z_listL, z_listR, z_listT, z_tupleL, z_tupleT, z_sl, z_slK1, z_slK2, z_slK3, z_oNone, z_oSome, z_oK, z_slT, z_slL, z_slR, z_r1, z_r1K, z_r2, z_r2K, z_zip, z_zipL, z_zipT, z_iseq, z_meth, z_methK, z_methK2, z_app, z_appM, z_lc, isNon, Bool.not_true, Bool.not_false, z_at0, z_at1, z_at2, z_at3, z_mulS, z_okStr, z_join, z_intB, z_intI, z_dnew, z_setD, z_setD1, z_listD, z_listD1, z_par, z_parK, z_rev, z_revK, z_sum, z_max, z_disp2, z_back, z_backK, z_backK2, z_maxD, z_maxK, z_maxK2, z_dg, z_dgK, z_dgK2, z_dgM, List.set_cons_zero, List.set_cons_succ])
    have two : ∀ x y : Int, Plain 14 (.lst [.int x, .int y]) := fun x y => .lst (n := 13) (Nat.le_of_ble_eq_true rfl) fun z hz => by
      have : z = .int x ∨ z = .int y := by simpa using hz
      rcases this with rfl | rfl <;> exact .int _
    refine ⟨_, ⟨bl, 5, 3, rfl, hbl2, by decide, by decide, rfl⟩, ?_⟩
    (try simp only [z_seq, z_next, z_brk, z_cont, z_asg, z_asgK, z_gN, z_gSeq, z_gSeqL, z_gcons, z_gconsK, z_gnil, z_gsub, z_subK1, z_subK2, z_subK3, z_set, z_set1, z_set2, z_ret, z_retN, z_drop, z_dropK, z_if, z_brT, z_brF, z_for, z_forK, z_loopK, z_var0, z_varS, z_c, z_bin, z_binK1, z_binK2, z_test, z_asB, z_and, z_andT, z_andF, z_or, z_orT, z_orF, z_not, z_notK, z_andV, z_andVT, z_andVF, z_orV, z_orVT, z_orVF, z_notV, z_notVK, z_ifE, z_ifT, z_ifF, z_nil, z_cons, z_consK, z_consK2, z_tup, z_tupK, z_lst, z_lstK, z_un, z_unK, z_neg, z_cb, z_cbK, z_call, z_callK, z_star, z_starK, z_starK2, z_seqL, z_seqT, z_seqR, z_I, z_I0, z_mul, z_mulT, z_mulL, z_tupleR, z_tupM, z_lenP, z_lenM, z_add, z_addS, z_addL, z_addT, z_eqI, z_neI, z_eqB, z_neB, z_eqS, z_neS, z_isN, z_notN, z_ixL, z_ixT, z_ixR, z_ixM, z_atK, z_lenL, z_lenT, z_lenR, z_lenS, z_listL, z_listR, z_listT, z_tupleL, z_tupleT, z_sl, z_slK1, z_slK2, z_slK3, z_oNone, z_oSome, z_oK, z_slT, z_slL, z_slR, z_r1, z_r1K, z_r2, z_r2K, z_zip, z_zipL, z_zipT, z_iseq, z_meth, z_methK, z_methK2, z_app, z_appM, z_lc, isNon, Bool.not_true, Bool.not_false, z_at0, z_at1, z_at2, z_at3, z_mulS, z_okStr, z_join, z_intB, z_intI, z_dnew, z_setD, z_setD1, z_listD, z_listD1, z_par, z_parK, z_rev, z_revK, z_sum, z_max, z_disp2, z_back, z_backK, z_backK2, z_maxD, z_maxK, z_maxK2, z_dg, z_dgK, z_dgK2, z_dgM, List.set_cons_zero, List.set_cons_succ])
    refine ⟨_, ⟨bl, 5, 3, rfl, hbl2, by decide, by decide, rfl⟩, ?_⟩
    (try simp only [z_seq, z_next, z_brk, z_cont, z_asg, z_asgK, z_gN, z_gSeq, z_gSeqL, z_gcons, z_gconsK, z_gnil, z_gsub, z_subK1, z_subK2, z_subK3, z_set, z_set1, z_set2, z_ret, z_retN, z_drop, z_dropK, z_if, z_brT, z_brF, z_for, z_forK, z_loopK, z_var0, z_varS, z_c, z_bin, z_binK1, z_binK2, z_test, z_asB, z_and, z_andT, z_andF, z_or, z_orT, z_orF, z_not, z_notK, z_andV, z_andVT, z_andVF, z_orV, z_orVT, z_orVF, z_notV, z_notVK, z_ifE, z_ifT, z_ifF, z_nil, z_cons, z_consK, z_consK2, z_tup, z_tupK, z_lst, z_lstK, z_un, z_unK, z_neg, z_cb, z_cbK, z_call, z_callK, z_star, z_starK, z_starK2, z_seqL, z_seqT, z_seqR, z_I, z_I0, z_mul, z_mulT, z_mulL, z_tupleR, z_tupM, z_lenP, z_lenM, z_add, z_addS, z_addL, z_addT, z_eqI, z_neI, z_eqB, z_neB, z_eqS, z_neS, z_isN, z_notN, z_ixL, z_ixT, z_ixR, z_ixM, z_atK, z_lenL, z_lenT, z_lenR, z_lenS, z_listL, z_listR, z_listT, z_tupleL, z_tupleT, z_sl, z_slK1, z_slK2, z_slK3, z_oNone, z_oSome, z_oK, z_slT, z_slL, z_slR, z_r1, z_r1K, z_r2, z_r2K, z_zip, z_zipL, z_zipT, z_iseq, z_meth, z_methK, z_methK2, z_app, z_appM, z_lc, isNon, Bool.not_true, Bool.not_false, z_at0, z_at1, z_at2, z_at3, z_mulS, z_okStr, z_join, z_intB, z_intI, z_dnew, z_setD, z_setD1, z_listD, z_listD1, z_par, z_parK, z_rev, z_revK, z_sum, z_max, z_disp2, z_back, z_backK, z_backK2, z_maxD, z_maxK, z_maxK2, z_dg, z_dgK, z_dgK2, z_dgM, List.set_cons_zero, List.set_cons_succ])
    refine ⟨(size1M (Nat.le_of_ble_eq_true rfl)), .inl ?_⟩
    (try simp only [z_seq, z_next, z_brk, z_cont, z_asg, z_asgK, z_gN, z_gSeq, z_gSeqL, z_gcons, z_gconsK, z_gnil, z_gsub, z_subK1, z_subK2, z_subK3, z_set, z_set1, z_set2, z_ret, z_retN, z_drop, z_dropK, z_if, z_brT, z_brF, z_for, z_forK, z_loopK, z_var0, z_varS, z_c, z_bin, z_binK1, z_binK2, z_test, z_asB, z_and, z_andT, z_andF, z_or, z_orT, z_orF, z_not, z_notK, z_andV, z_andVT, z_andVF, z_orV, z_orVT, z_orVF, z_notV, z_notVK, z_ifE, z_ifT, z_ifF, z_nil, z_cons, z_consK, z_consK2, z_tup, z_tupK, z_lst, z_lstK, z_un, z_unK, z_neg, z_cb, z_cbK, z_call, z_callK, z_star, z_starK, z_starK2, z_seqL, z_seqT, z_seqR, z_I, z_I0, z_mul, z_mulT, z_mulL, z_tupleR, z_tupM, z_lenP, z_lenM, z_add, z_addS, z_addL, z_addT, z_eqI, z_neI, z_eqB, z_neB, z_eqS, z_neS, z_isN, z_notN, z_ixL, z_ixT, z_ixR, z_ixM, z_atK, z_lenL, z_lenT, z_lenR, z_lenS, z_listL, z_listR, z_listT, z_tupleL, z_tupleT, z_sl, z_slK1, z_slK2, z_slK3, z_oNone, z_oSome, z_oK, z_slT, z_slL, z_slR, z_r1, z_r1K, z_r2, z_r2K, z_zip, z_zipL, z_zipT, z_iseq, z_meth, z_methK, z_methK2, z_app, z_appM, z_lc, isNon, Bool.not_true, Bool.not_false, z_at0, z_at1, z_at2, z_at3, z_mulS, z_okStr, z_join, z_intB, z_intI, z_dnew, z_setD, z_setD1, z_listD, z_listD1, z_par, z_parK, z_rev, z_revK, z_sum, z_max, z_disp2, z_back, z_backK, z_backK2, z_maxD, z_maxK, z_maxK2, z_dg, z_dgK, z_dgK2, z_dgM, List.set_cons_zero, List.set_cons_succ])
    refine ⟨_, ⟨bl, 5, 3, rfl, hbl2, by decide, by decide, rfl⟩, ?_⟩
    (try simp only [z_seq, z_next, z_brk, z_cont, z_asg, z_asgK, z_gN, z_gSeq, z_gSeqL, z_gcons, z_gconsK, z_gnil, z_gsub, z_subK1, z_subK2, z_subK3, z_set, z_set1, z_set2, z_ret, z_retN, z_drop, z_dropK, z_if, z_brT, z_brF, z_for, z_forK, z_loopK, z_var0, z_varS, z_c, z_bin, z_binK1, z_binK2, z_test, z_asB, z_and, z_andT, z_andF, z_or, z_orT, z_orF, z_not, z_notK, z_andV, z_andVT, z_andVF, z_orV, z_orVT, z_orVF, z_notV, z_notVK, z_ifE, z_ifT, z_ifF, z_nil, z_cons, z_consK, z_consK2, z_tup, z_tupK, z_lst, z_lstK, z_un, z_unK, z_neg, z_cb, z_cbK, z_call, z_callK, z_star, z_starK, z_starK2, z_seqL, z_seqT, z_seqR, z_I, z_I0, z_mul, z_mulT, z_mulL, z_tupleR, z_tupM, z_lenP, z_lenM, z_add, z_addS, z_addL, z_addT, z_eqI, z_neI, z_eqB, z_neB, z_eqS, z_neS, z_isN, z_notN, z_ixL, z_ixT, z_ixR, z_ixM, z_atK, z_lenL, z_lenT, z_lenR, z_lenS, z_listL, z_listR, z_listT, z_tupleL, z_tupleT, z_sl, z_slK1, z_slK2, z_slK3, z_oNone, z_oSome, z_oK, z_slT, z_slL, z_slR, z_r1, z_r1K, z_r2, z_r2K, z_zip, z_zipL, z_zipT, z_iseq, z_meth, z_methK, z_methK2, z_app, z_appM, z_lc, isNon, Bool.not_true, Bool.not_false, z_at0, z_at1, z_at2, z_at3, z_mulS, z_okStr, z_join, z_intB, z_intI, z_dnew, z_setD, z_setD1, z_listD, z_listD1, z_par, z_parK, z_rev, z_revK, z_sum, z_max, z_disp2, z_back, z_backK, z_backK2, z_maxD, z_maxK, z_maxK2, z_dg, z_dgK, z_dgK2, z_dgM, List.set_cons_zero, List.set_cons_succ])
    refine ⟨_, ⟨bl, 5, 3, rfl, hbl2, by decide, by decide, rfl⟩, ?_⟩
    (try simp only [z_seq, z_next, z_brk, z_cont, z_asg, z_asgK, z_gN, z_gSeq, z_gSeqL, z_gcons, z_gconsK, z_gnil, z_gsub, z_subK1, z_subK2, z_subK3, z_set, z_set1, z_set2, z_ret, z_retN, z_drop, z_dropK, z_if, z_brT, z_brF, z_for, z_forK, z_loopK, z_var0, z_varS, z_c, z_bin, z_binK1, z_binK2, z_test, z_asB, z_and, z_andT, z_andF, z_or, z_orT, z_orF, z_not, z_notK, z_andV, z_andVT, z_andVF, z_orV, z_orVT, z_orVF, z_notV, z_notVK, z_ifE, z_ifT, z_ifF, z_nil, z_cons, z_consK, z_consK2, z_tup, z_tupK, z_lst, z_lstK, z_un, z_unK, z_neg, z_cb, z_cbK, z_call, z_callK, z_star, z_starK, z_starK2, z_seqL, z_seqT, z_seqR, z_I, z_I0, z_mul, z_mulT, z_mulL, z_tupleR, z_tupM, z_lenP, z_lenM, z_add, z_addS, z_addL, z_addT, z_eqI, z_neI, z_eqB, z_neB, z_eqS, z_neS, z_isN, z_notN, z_ixL, z_ixT, z_ixR, z_ixM, z_atK, z_lenL, z_lenT, z_lenR, z_lenS, z_listL, z_listR, z_listT, z_tupleL, z_tupleT, z_sl, z_slK1, z_slK2, z_slK3, z_oNone, z_oSome, z_oK, z_slT, z_slL, z_slR, z_r1, z_r1K, z_r2, z_r2K, z_zip, z_zipL, z_zipT, z_iseq, z_meth, z_methK, z_methK2, z_app, z_appM, z_lc, isNon, Bool.not_true, Bool.not_false, z_at0, z_at1, z_at2, z_at3, z_mulS, z_okStr, z_join, z_intB, z_intI, z_dnew, z_setD, z_setD1, z_listD, z_listD1, z_par, z_parK, z_rev, z_revK, z_sum, z_max, z_disp2, z_back, z_backK, z_backK2, z_maxD, z_maxK, z_maxK2, z_dg, z_dgK, z_dgK2, z_dgM, List.set_cons_zero, List.set_cons_succ])
    refine ⟨(size1M (Nat.le_of_ble_eq_true rfl)), .inl ?_⟩
    (try simp only [z_seq, z_next, z_brk, z_cont, z_asg, z_asgK, z_gN, z_gSeq, z_gSeqL, z_gcons, z_gconsK, z_gnil, z_gsub, z_subK1, z_subK2, z_subK3, z_set, z_set1, z_set2, z_ret, z_retN, z_drop, z_dropK, z_if, z_brT, z_brF, z_for, z_forK, z_loopK, z_var0, z_varS, z_c, z_bin, z_binK1, z_binK2, z_test, z_asB, z_and, z_andT, z_andF, z_or, z_orT, z_orF, z_not, z_notK, z_andV, z_andVT, z_andVF, z_orV, z_orVT, z_orVF, z_notV, z_notVK, z_ifE, z_ifT, z_ifF, z_nil, z_cons, z_consK, z_consK2, z_tup, z_tupK, z_lst, z_lstK, z_un, z_unK, z_neg, z_cb, z_cbK, z_call, z_callK, z_star, z_starK, z_starK2, z_seqL, z_seqT, z_seqR, z_I, z_I0, z_mul, z_mulT, z_mulL, z_tupleR, z_tupM, z_lenP, z_lenM, z_add, z_addS, z_addL, z_addT, z_eqI, z_neI, z_eqB, z_neB, z_eqS, z_neS, z_isN, z_notN, z_ixL, z_ixT, z_ixR, z_ixM, z_atK, z_lenL, z_lenT, z_lenR, z_lenS, z_listL, z_listR, z_listT, z_tupleL, z_tupleT, z_sl, z_slK1, z_slK2, z_slK3, z_oNone, z_oSome, z_oK, z_slT, z_slL, z_slR, z_r1, z_r1K, z_r2, z_r2K, z_zip, z_zipL, z_zipT, z_iseq, z_meth, z_methK, z_methK2, z_app, z_appM, z_lc, isNon, Bool.not_true, Bool.not_false, z_at0, z_at1, z_at2, z_at3, z_mulS, z_okStr, z_join, z_intB, z_intI, z_dnew, z_setD, z_setD1, z_listD, z_listD1, z_par, z_parK, z_rev, z_revK, z_sum, z_max, z_disp2, z_back, z_backK, z_backK2, z_maxD, z_maxK, z_maxK2, z_dg, z_dgK, z_dgK2, z_dgM, List.set_cons_zero, List.set_cons_succ])
    refine same_go rfl (two _ _) ?_
    (try simp only [z_seq, z_next, z_brk, z_cont, z_asg, z_asgK, z_gN, z_gSeq, z_gSeqL, z_gcons, z_gconsK, z_gnil, z_gsub, z_subK1, z_subK2, z_subK3, z_set, z_set1, z_set2, z_ret, z_retN, z_drop, z_dropK, z_if, z_brT, z_brF, z_for, z_forK, z_loopK, z_var0, z_varS, z_c, z_bin, z_binK1, z_binK2, z_test, z_asB, z_and, z_andT, z_andF, z_or, z_orT, z_orF, z_not, z_notK, z_andV, z_andVT, z_andVF, z_orV, z_orVT, z_orVF, z_notV, z_notVK, z_ifE, z_ifT, z_ifF, z_nil, z_cons, z_consK, z_consK2, z_tup, z_tupK, z_lst, z_lstK, z_un, z_unK, z_neg, z_cb, z_cbK, z_call, z_callK, z_star, z_starK, z_starK2, z_seqL, z_seqT, z_seqR, z_I, z_I0, z_mul, z_mulT, z_mulL, z_tupleR, z_tupM, z_lenP, z_lenM, z_add, z_addS, z_addL, z_addT, z_eqI, z_neI, z_eqB, z_neB, z_eqS, z_neS, z_isN, z_notN, z_ixL, z_ixT, z_ixR, z_ixM, z_atK, z_lenL, z_lenT, z_lenR, z_lenS, z_listL, z_listR, z_listT, z_tupleL, z_tupleT, z_sl, z_slK1, z_slK2, z_slK3, z_oNone, z_oSome, z_oK, z_slT, z_slL, z_slR, z_r1, z_r1K, z_r2, z_r2K, z_zip, z_zipL, z_zipT, z_iseq, z_meth, z_methK, z_methK2, z_app, z_appM, z_lc, isNon, Bool.not_true, Bool.not_false, z_at0, z_at1, z_at2, z_at3, z_mulS, z_okStr, z_join, z_intB, z_intI, z_dnew, z_setD, z_setD1, z_listD, z_listD1, z_par, z_parK, z_rev, z_revK, z_sum, z_max, z_disp2, z_back, z_backK, z_backK2, z_maxD, z_maxK, z_maxK2, z_dg, z_dgK, z_dgK2, z_dgM, List.set_cons_zero, List.set_cons_succ])
    refine draw_go d3.1 (by decide) (by decide) fun r2 M5 h2 h3 d4 => ?_
    (try simp only [z_seq, z_next, z_brk, z_cont, z_asg, z_asgK, z_gN, z_gSeq, z_gSeqL, z_gcons, z_gconsK, z_gnil, z_gsub, z_subK1, z_subK2, z_subK3, z_set, z_set1, z_set2, z_ret, z_retN, z_drop, z_dropK, z_if, z_brT, z_brF, z_for, z_forK, z_loopK, z_var0, z_varS, z_c, z_bin, z_binK1, z_binK2, z_test, z_asB, z_and, z_andT, z_andF, z_or, z_orT, z_orF, z_not, z_notK, z_andV, z_andVT, z_andVF, z_orV, z_orVT, z_orVF, z_notV, z_notVK, z_ifE, z_ifT, z_ifF, z_nil, z_cons, z_consK, z_consK2, z_tup, z_tupK, z_lst, z_lstK, z_un, z_unK, z_neg, z_cb, z_cbK, z_call, z_callK, z_star, z_starK, z_starK2, z_seqL, z_seqT, z_seqR, z_I, z_I0, z_mul, z_mulT, z_mulL, z_tupleR, z_tupM, z_lenP, z_lenM, z_add, z_addS, z_addL, z_addT, z_eqI, z_neI, z_eqB, z_neB, z_eqS, z_neS, z_isN, z_notN, z_ixL, z_ixT, z_ixR, z_ixM, z_atK, z_lenL, z_lenT, z_lenR, z_lenS, z_listL, z_listR, z_listT, z_tupleL, z_tupleT, z_sl, z_slK1, z_slK2, z_slK3, z_oNone, z_oSome, z_oK, z_slT, z_slL, z_slR, z_r1, z_r1K, z_r2, z_r2K, z_zip, z_zipL, z_zipT, z_iseq, z_meth, z_methK, z_methK2, z_app, z_appM, z_lc, isNon, Bool.not_true, Bool.not_false, z_at0, z_at1, z_at2, z_at3, z_mulS, z_okStr, z_join, z_intB, z_intI, z_dnew, z_setD, z_setD1, z_listD, z_listD1, z_par, z_parK, z_rev, z_revK, z_sum, z_max, z_disp2, z_back, z_backK, z_backK2, z_maxD, z_maxK, z_maxK2, z_dg, z_dgK, z_dgK2, z_dgM, List.set_cons_zero, List.set_cons_succ])
    refine ⟨by omega, by omega, ?_⟩
    refine loop_inv (fun rr τ M' => M' = M5 ∧ ∃ (b' : List St) (m : Nat) (o7 : Option D), OkB (fun _ => True) 5 m b' ∧ m + rr.length ≤ 11 ∧ (∀ x, x ∈ rr → ∃ j : Int, x = .int j) ∧ τ = [some (.rd (ns.map D.int)), some (.ref b), some d, some (.int (1 + r)), some (.tup (St.ds bl)), some (.tup (St.ds (revL bl))), some (.tup (St.ds b')), o7]) ?_ ⟨rfl, bl, 3, _, hbl2, by rw [rangeD_len]; omega, fun x hx => by
      obtain ⟨j, _, rfl⟩ := List.mem_map.mp hx
      exact ⟨_, rfl⟩, rfl⟩ ?_
    · rintro x r3 _ M' E2 ⟨eM, b', m, o7, hb', hm, hr3, rfl⟩ - - hnx2 -
      obtain ⟨j, rfl⟩ := hr3 x List.mem_cons_self
      rw [List.length_cons] at hm
      (try simp only [z_seq, z_next, z_brk, z_cont, z_asg, z_asgK, z_gN, z_gSeq, z_gSeqL, z_gcons, z_gconsK, z_gnil, z_gsub, z_subK1, z_subK2, z_subK3, z_set, z_set1, z_set2, z_ret, z_retN, z_drop, z_dropK, z_if, z_brT, z_brF, z_for, z_forK, z_loopK, z_var0, z_varS, z_c, z_bin, z_binK1, z_binK2, z_test, z_asB, z_and, z_andT, z_andF, z_or, z_orT, z_orF, z_not, z_notK, z_andV, z_andVT, z_andVF, z_orV, z_orVT, z_orVF, z_notV, z_notVK, z_ifE, z_ifT, z_ifF, z_nil, z_cons, z_consK, z_consK2, z_tup, z_tupK, z_lst, z_lstK, z_un, z_unK, z_neg, z_cb, z_cbK, z_call, z_callK, z_star, z_starK, z_starK2, z_seqL, z_seqT, z_seqR, z_I, z_I0, z_mul, z_mulT, z_mulL, z_tupleR, z_tupM, z_lenP, z_lenM, z_add, z_addS, z_addL, z_addT, z_eqI, z_neI, z_eqB, z_neB, z_eqS, z_neS, z_isN, z_notN, z_ixL, z_ixT, z_ixR, z_ixM, z_atK, z_lenL, z_lenT, z_lenR, z_lenS, z_listL, z_listR, z_listT, z_tupleL, z_tupleT, z_sl, z_slK1, z_slK2, z_slK3, z_oNone, z_oSome, z_oK, z_slT, z_slL, z_slR, z_r1, z_r1K, z_r2, z_r2K, z_zip, z_zipL, z_zipT, z_iseq, z_meth, z_methK, z_methK2, z_app, z_appM, z_lc, isNon, Bool.not_true, Bool.not_false, z_at0, z_at1, z_at2, z_at3, z_mulS, z_okStr, z_join, z_intB, z_intI, z_dnew, z_setD, z_setD1, z_listD, z_listD1, z_par, z_parK, z_rev, z_revK, z_sum, z_max, z_disp2, z_back, z_backK, z_backK2, z_maxD, z_maxK, z_maxK2, z_dg, z_dgK, z_dgK2, z_dgM, List.set_cons_zero, List.set_cons_succ])
      refine ⟨(size1M (Nat.le_of_ble_eq_true rfl)), (size1M (Nat.le_of_ble_eq_true rfl)), hnx2 _ _ ⟨eM, [.rep j b'], m + 1, _, ⟨Nat.le_of_ble_eq_true rfl, fun s hs => ?_⟩, by omega, fun x hx => hr3 x (List.mem_cons_of_mem _ hx), rfl⟩⟩
      have : s = .rep j b' := by simpa using hs
      rw [this]
      exact hb'
    · rintro _ M' ⟨eM, b', m, o7, hb', hm, _, rfl⟩
      subst eM
      have hm2 : m + 1 ≤ 23 := by have : ([] : List D).length = 0 := rfl; omega
      (try simp only [z_seq, z_next, z_brk, z_cont, z_asg, z_asgK, z_gN, z_gSeq, z_gSeqL, z_gcons, z_gconsK, z_gnil, z_gsub, z_subK1, z_subK2, z_subK3, z_set, z_set1, z_set2, z_ret, z_retN, z_drop, z_dropK, z_if, z_brT, z_brF, z_for, z_forK, z_loopK, z_var0, z_varS, z_c, z_bin, z_binK1, z_binK2, z_test, z_asB, z_and, z_andT, z_andF, z_or, z_orT, z_orF, z_not, z_notK, z_andV, z_andVT, z_andVF, z_orV, z_orVT, z_orVF, z_notV, z_notVK, z_ifE, z_ifT, z_ifF, z_nil, z_cons, z_consK, z_consK2, z_tup, z_tupK, z_lst, z_lstK, z_un, z_unK, z_neg, z_cb, z_cbK, z_call, z_callK, z_star, z_starK, z_starK2, z_seqL, z_seqT, z_seqR, z_I, z_I0, z_mul, z_mulT, z_mulL, z_tupleR, z_tupM, z_lenP, z_lenM, z_add, z_addS, z_addL, z_addT, z_eqI, z_neI, z_eqB, z_neB, z_eqS, z_neS, z_isN, z_notN, z_ixL, z_ixT, z_ixR, z_ixM, z_atK, z_lenL, z_lenT, z_lenR, z_lenS, z_listL, z_listR, z_listT, z_tupleL, z_tupleT, z_sl, z_slK1, z_slK2, z_slK3, z_oNone, z_oSome, z_oK, z_slT, z_slL, z_slR, z_r1, z_r1K, z_r2, z_r2K, z_zip, z_zipL, z_zipT, z_iseq, z_meth, z_methK, z_methK2, z_app, z_appM, z_lc, isNon, Bool.not_true, Bool.not_false, z_at0, z_at1, z_at2, z_at3, z_mulS, z_okStr, z_join, z_intB, z_intI, z_dnew, z_setD, z_setD1, z_listD, z_listD1, z_par, z_parK, z_rev, z_revK, z_sum, z_max, z_disp2, z_back, z_backK, z_backK2, z_maxD, z_maxK, z_maxK2, z_dg, z_dgK, z_dgK2, z_dgM, List.set_cons_zero, List.set_cons_succ])
      refine ⟨_, ⟨b', 5, m, rfl, hb', by decide, hm2, rfl⟩, ?_⟩
      (try simp only [z_seq, z_next, z_brk, z_cont, z_asg, z_asgK, z_gN, z_gSeq, z_gSeqL, z_gcons, z_gconsK, z_gnil, z_gsub, z_subK1, z_subK2, z_subK3, z_set, z_set1, z_set2, z_ret, z_retN, z_drop, z_dropK, z_if, z_brT, z_brF, z_for, z_forK, z_loopK, z_var0, z_varS, z_c, z_bin, z_binK1, z_binK2, z_test, z_asB, z_and, z_andT, z_andF, z_or, z_orT, z_orF, z_not, z_notK, z_andV, z_andVT, z_andVF, z_orV, z_orVT, z_orVF, z_notV, z_notVK, z_ifE, z_ifT, z_ifF, z_nil, z_cons, z_consK, z_consK2, z_tup, z_tupK, z_lst, z_lstK, z_un, z_unK, z_neg, z_cb, z_cbK, z_call, z_callK, z_star, z_starK, z_starK2, z_seqL, z_seqT, z_seqR, z_I, z_I0, z_mul, z_mulT, z_mulL, z_tupleR, z_tupM, z_lenP, z_lenM, z_add, z_addS, z_addL, z_addT, z_eqI, z_neI, z_eqB, z_neB, z_eqS, z_neS, z_isN, z_notN, z_ixL, z_ixT, z_ixR, z_ixM, z_atK, z_lenL, z_lenT, z_lenR, z_lenS, z_listL, z_listR, z_listT, z_tupleL, z_tupleT, z_sl, z_slK1, z_slK2, z_slK3, z_oNone, z_oSome, z_oK, z_slT, z_slL, z_slR, z_r1, z_r1K, z_r2, z_r2K, z_zip, z_zipL, z_zipT, z_iseq, z_meth, z_methK, z_methK2, z_app, z_appM, z_lc, isNon, Bool.not_true, Bool.not_false, z_at0, z_at1, z_at2, z_at3, z_mulS, z_okStr, z_join, z_intB, z_intI, z_dnew, z_setD, z_setD1, z_listD, z_listD1, z_par, z_parK, z_rev, z_revK, z_sum, z_max, z_disp2, z_back, z_backK, z_backK2, z_maxD, z_maxK, z_maxK2, z_dg, z_dgK, z_dgK2, z_dgM, List.set_cons_zero, List.set_cons_succ])
      refine ⟨_, ⟨b', 5, m, rfl, hb', by decide, hm2, rfl⟩, ?_⟩
      (try simp only [z_seq, z_next, z_brk, z_cont, z_asg, z_asgK, z_gN, z_gSeq, z_gSeqL, z_gcons, z_gconsK, z_gnil, z_gsub, z_subK1, z_subK2, z_subK3, z_set, z_set1, z_set2, z_ret, z_retN, z_drop, z_dropK, z_if, z_brT, z_brF, z_for, z_forK, z_loopK, z_var0, z_varS, z_c, z_bin, z_binK1, z_binK2, z_test, z_asB, z_and, z_andT, z_andF, z_or, z_orT, z_orF, z_not, z_notK, z_andV, z_andVT, z_andVF, z_orV, z_orVT, z_orVF, z_notV, z_notVK, z_ifE, z_ifT, z_ifF, z_nil, z_cons, z_consK, z_consK2, z_tup, z_tupK, z_lst, z_lstK, z_un, z_unK, z_neg, z_cb, z_cbK, z_call, z_callK, z_star, z_starK, z_starK2, z_seqL, z_seqT, z_seqR, z_I, z_I0, z_mul, z_mulT, z_mulL, z_tupleR, z_tupM, z_lenP, z_lenM, z_add, z_addS, z_addL, z_addT, z_eqI, z_neI, z_eqB, z_neB, z_eqS, z_neS, z_isN, z_notN, z_ixL, z_ixT, z_ixR, z_ixM, z_atK, z_lenL, z_lenT, z_lenR, z_lenS, z_listL, z_listR, z_listT, z_tupleL, z_tupleT, z_sl, z_slK1, z_slK2, z_slK3, z_oNone, z_oSome, z_oK, z_slT, z_slL, z_slR, z_r1, z_r1K, z_r2, z_r2K, z_zip, z_zipL, z_zipT, z_iseq, z_meth, z_methK, z_methK2, z_app, z_appM, z_lc, isNon, Bool.not_true, Bool.not_false, z_at0, z_at1, z_at2, z_at3, z_mulS, z_okStr, z_join, z_intB, z_intI, z_dnew, z_setD, z_setD1, z_listD, z_listD1, z_par, z_parK, z_rev, z_revK, z_sum, z_max, z_disp2, z_back, z_backK, z_backK2, z_maxD, z_maxK, z_maxK2, z_dg, z_dgK, z_dgK2, z_dgM, List.set_cons_zero, List.set_cons_succ])
      refine ⟨(size1M (Nat.le_of_ble_eq_true rfl)), .inl ?_⟩
      (try simp only [z_seq, z_next, z_brk, z_cont, z_asg, z_asgK, z_gN, z_gSeq, z_gSeqL, z_gcons, z_gconsK, z_gnil, z_gsub, z_subK1, z_subK2, z_subK3, z_set, z_set1, z_set2, z_ret, z_retN, z_drop, z_dropK, z_if, z_brT, z_brF, z_for, z_forK, z_loopK, z_var0, z_varS, z_c, z_bin, z_binK1, z_binK2, z_test, z_asB, z_and, z_andT, z_andF, z_or, z_orT, z_orF, z_not, z_notK, z_andV, z_andVT, z_andVF, z_orV, z_orVT, z_orVF, z_notV, z_notVK, z_ifE, z_ifT, z_ifF, z_nil, z_cons, z_consK, z_consK2, z_tup, z_tupK, z_lst, z_lstK, z_un, z_unK, z_neg, z_cb, z_cbK, z_call, z_callK, z_star, z_starK, z_starK2, z_seqL, z_seqT, z_seqR, z_I, z_I0, z_mul, z_mulT, z_mulL, z_tupleR, z_tupM, z_lenP, z_lenM, z_add, z_addS, z_addL, z_addT, z_eqI, z_neI, z_eqB, z_neB, z_eqS, z_neS, z_isN, z_notN, z_ixL, z_ixT, z_ixR, z_ixM, z_atK, z_lenL, z_lenT, z_lenR, z_lenS, z_listL, z_listR, z_listT, z_tupleL, z_tupleT, z_sl, z_slK1, z_slK2, z_slK3, z_oNone, z_oSome, z_oK, z_slT, z_slL, z_slR, z_r1, z_r1K, z_r2, z_r2K, z_zip, z_zipL, z_zipT, z_iseq, z_meth, z_methK, z_methK2, z_app, z_appM, z_lc, isNon, Bool.not_true, Bool.not_false, z_at0, z_at1, z_at2, z_at3, z_mulS, z_okStr, z_join, z_intB, z_intI, z_dnew, z_setD, z_setD1, z_listD, z_listD1, z_par, z_parK, z_rev, z_revK, z_sum, z_max, z_disp2, z_back, z_backK, z_backK2, z_maxD, z_maxK, z_maxK2, z_dg, z_dgK, z_dgK2, z_dgM, List.set_cons_zero, List.set_cons_succ])
      refine ⟨_, ⟨b', 5, m, rfl, hb', by decide, hm2, rfl⟩, ?_⟩
      (try simp only [z_seq, z_next, z_brk, z_cont, z_asg, z_asgK, z_gN, z_gSeq, z_gSeqL, z_gcons, z_gconsK, z_gnil, z_gsub, z_subK1, z_subK2, z_subK3, z_set, z_set1, z_set2, z_ret, z_retN, z_drop, z_dropK, z_if, z_brT, z_brF, z_for, z_forK, z_loopK, z_var0, z_varS, z_c, z_bin, z_binK1, z_binK2, z_test, z_asB, z_and, z_andT, z_andF, z_or, z_orT, z_orF, z_not, z_notK, z_andV, z_andVT, z_andVF, z_orV, z_orVT, z_orVF, z_notV, z_notVK, z_ifE, z_ifT, z_ifF, z_nil, z_cons, z_consK, z_consK2, z_tup, z_tupK, z_lst, z_lstK, z_un, z_unK, z_neg, z_cb, z_cbK, z_call, z_callK, z_star, z_starK, z_starK2, z_seqL, z_seqT, z_seqR, z_I, z_I0, z_mul, z_mulT, z_mulL, z_tupleR, z_tupM, z_lenP, z_lenM, z_add, z_addS, z_addL, z_addT, z_eqI, z_neI, z_eqB, z_neB, z_eqS, z_neS, z_isN, z_notN, z_ixL, z_ixT, z_ixR, z_ixM, z_atK, z_lenL, z_lenT, z_lenR, z_lenS, z_listL, z_listR, z_listT, z_tupleL, z_tupleT, z_sl, z_slK1, z_slK2, z_slK3, z_oNone, z_oSome, z_oK, z_slT, z_slL, z_slR, z_r1, z_r1K, z_r2, z_r2K, z_zip, z_zipL, z_zipT, z_iseq, z_meth, z_methK, z_methK2, z_app, z_appM, z_lc, isNon, Bool.not_true, Bool.not_false, z_at0, z_at1, z_at2, z_at3, z_mulS, z_okStr, z_join, z_intB, z_intI, z_dnew, z_setD, z_setD1, z_listD, z_listD1, z_par, z_parK, z_rev, z_revK, z_sum, z_max, z_disp2, z_back, z_backK, z_backK2, z_maxD, z_maxK, z_maxK2, z_dg, z_dgK, z_dgK2, z_dgM, List.set_cons_zero, List.set_cons_succ])
      refine ⟨_, ⟨b', 5, m, rfl, hb', by decide, hm2, rfl⟩, ?_⟩
      (try simp only [z_seq, z_next, z_brk, z_cont, z_asg, z_asgK, z_gN, z_gSeq, z_gSeqL, z_gcons, z_gconsK, z_gnil, z_gsub, z_subK1, z_subK2, z_subK3, z_set, z_set1, z_set2, z_ret, z_retN, z_drop, z_dropK, z_if, z_brT, z_brF, z_for, z_forK, z_loopK, z_var0, z_varS, z_c, z_bin, z_binK1, z_binK2, z_test, z_asB, z_and, z_andT, z_andF, z_or, z_orT, z_orF, z_not, z_notK, z_andV, z_andVT, z_andVF, z_orV, z_orVT, z_orVF, z_notV, z_notVK, z_ifE, z_ifT, z_ifF, z_nil, z_cons, z_consK, z_consK2, z_tup, z_tupK, z_lst, z_lstK, z_un, z_unK, z_neg, z_cb, z_cbK, z_call, z_callK, z_star, z_starK, z_starK2, z_seqL, z_seqT, z_seqR, z_I, z_I0, z_mul, z_mulT, z_mulL, z_tupleR, z_tupM, z_lenP, z_lenM, z_add, z_addS, z_addL, z_addT, z_eqI, z_neI, z_eqB, z_neB, z_eqS, z_neS, z_isN, z_notN, z_ixL, z_ixT, z_ixR, z_ixM, z_atK, z_lenL, z_lenT, z_lenR, z_lenS, z_listL, z_listR, z_listT, z_tupleL, z_tupleT, z_sl, z_slK1, z_slK2, z_slK3, z_oNone, z_oSome, z_oK, z_slT, z_slL, z_slR, z_r1, z_r1K, z_r2, z_r2K, z_zip, z_zipL, z_zipT, z_iseq, z_meth, z_methK, z_methK2, z_app, z_appM, z_lc, isNon, Bool.not_true, Bool.not_false, z_at0, z_at1, z_at2, z_at3, z_mulS, z_okStr, z_join, z_intB, z_intI, z_dnew, z_setD, z_setD1, z_listD, z_listD1, z_par, z_parK, z_rev, z_revK, z_sum, z_max, z_disp2, z_back, z_backK, z_backK2, z_maxD, z_maxK, z_maxK2, z_dg, z_dgK, z_dgK2, z_dgM, List.set_cons_zero, List.set_cons_succ])
      refine ⟨(size1M (Nat.le_of_ble_eq_true rfl)), .inl ?_⟩
      (try simp only [z_seq, z_next, z_brk, z_cont, z_asg, z_asgK, z_gN, z_gSeq, z_gSeqL, z_gcons, z_gconsK, z_gnil, z_gsub, z_subK1, z_subK2, z_subK3, z_set, z_set1, z_set2, z_ret, z_retN, z_drop, z_dropK, z_if, z_brT, z_brF, z_for, z_forK, z_loopK, z_var0, z_varS, z_c, z_bin, z_binK1, z_binK2, z_test, z_asB, z_and, z_andT, z_andF, z_or, z_orT, z_orF, z_not, z_notK, z_andV, z_andVT, z_andVF, z_orV, z_orVT, z_orVF, z_notV, z_notVK, z_ifE, z_ifT, z_ifF, z_nil, z_cons, z_consK, z_consK2, z_tup, z_tupK, z_lst, z_lstK, z_un, z_unK, z_neg, z_cb, z_cbK, z_call, z_callK, z_star, z_starK, z_starK2, z_seqL, z_seqT, z_seqR, z_I, z_I0, z_mul, z_mulT, z_mulL, z_tupleR, z_tupM, z_lenP, z_lenM, z_add, z_addS, z_addL, z_addT, z_eqI, z_neI, z_eqB, z_neB, z_eqS, z_neS, z_isN, z_notN, z_ixL, z_ixT, z_ixR, z_ixM, z_atK, z_lenL, z_lenT, z_lenR, z_lenS, z_listL, z_listR, z_listT, z_tupleL, z_tupleT, z_sl, z_slK1, z_slK2, z_slK3, z_oNone, z_oSome, z_oK, z_slT, z_slL, z_slR, z_r1, z_r1K, z_r2, z_r2K, z_zip, z_zipL, z_zipT, z_iseq, z_meth, z_methK, z_methK2, z_app, z_appM, z_lc, isNon, Bool.not_true, Bool.not_false, z_at0, z_at1, z_at2, z_at3, z_mulS, z_okStr, z_join, z_intB, z_intI, z_dnew, z_setD, z_setD1, z_listD, z_listD1, z_par, z_parK, z_rev, z_revK, z_sum, z_max, z_disp2, z_back, z_backK, z_backK2, z_maxD, z_maxK, z_maxK2, z_dg, z_dgK, z_dgK2, z_dgM, List.set_cons_zero, List.set_cons_succ])
      refine same_go rfl (two _ _) ?_
      (try simp only [z_seq, z_next, z_brk, z_cont, z_asg, z_asgK, z_gN, z_gSeq, z_gSeqL, z_gcons, z_gconsK, z_gnil, z_gsub, z_subK1, z_subK2, z_subK3, z_set, z_set1, z_set2, z_ret, z_retN, z_drop, z_dropK, z_if, z_brT, z_brF, z_for, z_forK, z_loopK, z_var0, z_varS, z_c, z_bin, z_binK1, z_binK2, z_test, z_asB, z_and, z_andT, z_andF, z_or, z_orT, z_orF, z_not, z_notK, z_andV, z_andVT, z_andVF, z_orV, z_orVT, z_orVF, z_notV, z_notVK, z_ifE, z_ifT, z_ifF, z_nil, z_cons, z_consK, z_consK2, z_tup, z_tupK, z_lst, z_lstK, z_un, z_unK, z_neg, z_cb, z_cbK, z_call, z_callK, z_star, z_starK, z_starK2, z_seqL, z_seqT, z_seqR, z_I, z_I0, z_mul, z_mulT, z_mulL, z_tupleR, z_tupM, z_lenP, z_lenM, z_add, z_addS, z_addL, z_addT, z_eqI, z_neI, z_eqB, z_neB, z_eqS, z_neS, z_isN, z_notN, z_ixL, z_ixT, z_ixR, z_ixM, z_atK, z_lenL, z_lenT, z_lenR, z_lenS, z_listL, z_listR, z_listT, z_tupleL, z_tupleT, z_sl, z_slK1, z_slK2, z_slK3, z_oNone, z_oSome, z_oK, z_slT, z_slL, z_slR, z_r1, z_r1K, z_r2, z_r2K, z_zip, z_zipL, z_zipT, z_iseq, z_meth, z_methK, z_methK2, z_app, z_appM, z_lc, isNon, Bool.not_true, Bool.not_false, z_at0, z_at1, z_at2, z_at3, z_mulS, z_okStr, z_join, z_intB, z_intI, z_dnew, z_setD, z_setD1, z_listD, z_listD1, z_par, z_parK, z_rev, z_revK, z_sum, z_max, z_disp2, z_back, z_backK, z_backK2, z_maxD, z_maxK, z_maxK2, z_dg, z_dgK, z_dgK2, z_dgM, List.set_cons_zero, List.set_cons_succ])
      exact hnx _ _ ⟨d4.1, _, _, _, _, _, _, rfl⟩
  · rintro _ M ⟨_, o2, o3, o4, o5, o6, o7, rfl⟩
    (try simp only [z_seq, z_next, z_brk, z_cont, z_asg, z_asgK, z_gN, z_gSeq, z_gSeqL, z_gcons, z_gconsK, z_gnil, z_gsub, z_subK1, z_subK2, z_subK3, z_set, z_set1, z_set2, z_ret, z_retN, z_drop, z_dropK, z_if, z_brT, z_brF, z_for, z_forK, z_loop0, z_loop1, z_loopK, z_var0, z_varS, z_c, z_bin, z_binK1, z_binK2, z_test, z_asB, z_and, z_andT, z_andF, z_or, z_orT, z_orF, z_not, z_notK, z_andV, z_andVT, z_andVF, z_orV, z_orVT, z_orVF, z_notV, z_notVK, z_ifE, z_ifT, z_ifF, z_nil, z_cons, z_consK, z_consK2, z_tup, z_tupK, z_lst, z_lstK, z_un, z_unK, z_neg, z_cb, z_cbK, z_call, z_callK, z_star, z_starK, z_starK2, z_seqL, z_seqT, z_seqR, z_I, z_I0, z_mul, z_mulT, z_mulL, z_tupleR, z_tupM, z_lenP, z_lenM, z_add, z_addS, z_addL, z_addT, z_eqI, z_neI, z_eqB, z_neB, z_eqS, z_neS, z_isN, z_notN, z_ixL, z_ixT, z_ixR, z_ixM, z_atK, z_lenL, z_lenT, z_lenR, z_lenS, z_listL, z_listR, z_listT, z_tupleL, z_tupleT, z_sl, z_slK1, z_slK2, z_slK3, z_oNone, z_oSome, z_oK, z_slT, z_slL, z_slR, z_r1, z_r1K, z_r2, z_r2K, z_zip, z_zipL, z_zipT, z_iseq, z_meth, z_methK, z_methK2, z_app, z_appM, z_lc, isNon, Bool.not_true, Bool.not_false, z_at0, z_at1, z_at2, z_at3, z_mulS, z_okStr, z_join, z_intB, z_intI, z_dnew, z_setD, z_setD1, z_listD, z_listD1, z_par, z_parK, z_rev, z_revK, z_sum, z_max, z_disp2, z_back, z_backK, z_backK2, z_maxD, z_maxK, z_maxK2, z_dg, z_dgK, z_dgK2, z_dgM, List.set_cons_zero, List.set_cons_succ])
    exact q _
end DL

set_option maxHeartbeats 4000000
namespace DL
open PySem PySem.Spec PyProof.Rows L2
theorem ok_law {P : Program} {w : World} {K : PySem.W.Frag} {mg : Str → Option Value} {base : Heap} {f : Addr} {fd : FuncData} (F : L2.Fun K "law" "law" s_law f fd) (h__law_a_box : Has P w K mg base 1 "_law_a_box" sp__law_a_box) (h__law_a_deep : Has P w K mg base 24 "_law_a_deep" sp__law_a_deep) (h__law_code : Has P w K mg base 14 "_law_code" sp__law_code) (h__law_count : Has P w K mg base 24 "_law_count" sp__law_count) (h__law_draw : Has P w K mg base 1 "_law_draw" sp__law_draw) (h__law_labels : Has P w K mg base 4 "_law_labels" sp__law_labels) (h__law_reverse : Has P w K mg base 24 "_law_reverse" sp__law_reverse) (h__law_same : Has P w K mg base 16 "_law_same" sp__law_same) (h_depth : Has P w K mg base 24 "depth" sp_depth) (h_reverse : Has P w K mg base 26 "reverse" sp_reverse) (h_statements : Has P w K mg base 24 "statements" sp_statements) (z_range : mg "range" = none) :
    FnOk P w K mg base CX0 27 f fd ["_law_script"] (spLaw K) :=
  law_imp (Fun.okD (k := 26) (c := c_law) F sc_law (fun ds M k E h => by first | (obtain ⟨_, _, rfl | ⟨_, rfl, _⟩, _⟩ := h <;> rfl) | (obtain ⟨_, _, _, _, _, rfl, _⟩ := h; rfl) | (obtain ⟨_, ⟨_, _, _, _, rfl, _⟩, _⟩ := h; rfl) | (obtain ⟨_, ⟨_, _, _, _, _, rfl, _⟩, _⟩ := h; rfl) | (obtain ⟨_, rfl, _⟩ := h <;> rfl) | (obtain ⟨_, _, rfl, _⟩ := h <;> rfl) | (obtain ⟨_, _, _, rfl, _⟩ := h <;> rfl) | (obtain ⟨_, _, _, _, rfl, _⟩ := h <;> rfl) | (obtain ⟨_, ⟨_, rfl, _⟩, _⟩ := h <;> rfl) | (obtain ⟨_, ⟨_, _, rfl, _⟩, _⟩ := h <;> rfl) | (obtain ⟨_, ⟨_, _, _, rfl, _⟩, _⟩ := h <;> rfl) | (obtain ⟨_, ⟨_, rfl, _⟩ | ⟨_, rfl, _⟩, _⟩ := h <;> rfl)) (fun cdv A outer s H E hr => (pssd_cons (psd_set (i := 1) sc_law.nd rfl (Or.inl rfl) (pd_callH h__law_a_box (hr.mono (by first | decide | omega)) (pad_cons (pd_var (pv 0)) pad_nil)))
      (pssd_cons (psd_for PassesOwn.never rfl (pid_range1 (by rfl) z_range (pad_cons pd_int pad_nil)) (pgd_name (i := 2) sc_law.nd rfl (Or.inl rfl)) (pssd_cons (psd_set (i := 3) sc_law.nd rfl (Or.inl rfl) (pd_bin od_add pd_int (pd_callH h__law_draw (hr.mono (by first | decide | omega)) (pad_cons (pd_var (pv 1)) (pad_cons pd_int pad_nil)))))
      (pssd_cons (psd_set (i := 4) sc_law.nd rfl (Or.inl rfl) (pd_callH h__law_code (hr.mono (by first | decide | omega)) (pad_cons (pd_var (pv 1)) (pad_cons (pd_var (pv 3)) (pad_cons (pd_callH h__law_labels (hr.mono (by first | decide | omega)) (pad_cons (pd_var (pv 1)) (pad_cons pd_int pad_nil))) (pad_cons pd_int (pad_cons pd_int pad_nil)))))))
      (pssd_cons (psd_set (i := 5) sc_law.nd rfl (Or.inl rfl) (pd_callH h_reverse (hr.mono (by first | decide | omega)) (pad_cons (pd_var (pv 4)) pad_nil)))
      (pssd_cons (psd_if (PWd.pt (pwd_or (ptd_not (ptd_val (pd_callH h__law_same (hr.mono (by first | decide | omega)) (pad_cons (pd_var (pv 5)) (pad_cons (pd_callH h__law_reverse (hr.mono (by first | decide | omega)) (pad_cons (pd_var (pv 4)) pad_nil)) pad_nil))))) (pwd_or1 (ptd_not (ptd_val (pd_callH h__law_same (hr.mono (by first | decide | omega)) (pad_cons (pd_callH h_reverse (hr.mono (by first | decide | omega)) (pad_cons (pd_var (pv 5)) pad_nil)) (pad_cons (pd_var (pv 4)) pad_nil)))))))) (pssd_one (psd_ret pd_bl)) pssd_nil)
      (pssd_cons (psd_if (ptd_not (ptd_val (pd_callH h__law_same (hr.mono (by first | decide | omega)) (pad_cons (pd_lst (pad_cons (pd_callH h_statements (hr.mono (by first | decide | omega)) (pad_cons (pd_var (pv 4)) pad_nil)) (pad_cons (pd_callH h_depth (hr.mono (by first | decide | omega)) (pad_cons (pd_var (pv 4)) pad_nil)) pad_nil))) (pad_cons (pd_lst (pad_cons (pd_callH h__law_count (hr.mono (by first | decide | omega)) (pad_cons (pd_var (pv 4)) pad_nil)) (pad_cons (pd_callH h__law_a_deep (hr.mono (by first | decide | omega)) (pad_cons (pd_var (pv 4)) pad_nil)) pad_nil))) pad_nil))))) (pssd_one (psd_ret pd_bl)) pssd_nil)
      (pssd_cons (psd_set (i := 6) sc_law.nd rfl (Or.inl rfl) (pd_var (pv 4)))
      (pssd_cons (psd_for PassesOwn.never rfl (pid_range1 (by rfl) z_range (pad_cons (pd_callH h__law_draw (hr.mono (by first | decide | omega)) (pad_cons (pd_var (pv 1)) (pad_cons pd_int pad_nil))) pad_nil)) (pgd_name (i := 7) sc_law.nd rfl (Or.inl rfl)) (pssd_one (psd_set (i := 6) sc_law.nd rfl (Or.inl rfl) (pd_tup (pad_cons (pd_tup (pad_cons pd_str (pad_cons (pd_var (pv 7)) (pad_cons (pd_var (pv 6)) pad_nil)))) pad_nil)))))
      (pssd_one (psd_if (ptd_not (ptd_val (pd_callH h__law_same (hr.mono (by first | decide | omega)) (pad_cons (pd_lst (pad_cons (pd_callH h_statements (hr.mono (by first | decide | omega)) (pad_cons (pd_var (pv 6)) pad_nil)) (pad_cons (pd_callH h_depth (hr.mono (by first | decide | omega)) (pad_cons (pd_var (pv 6)) pad_nil)) pad_nil))) (pad_cons (pd_lst (pad_cons (pd_callH h__law_count (hr.mono (by first | decide | omega)) (pad_cons (pd_var (pv 6)) pad_nil)) (pad_cons (pd_callH h__law_a_deep (hr.mono (by first | decide | omega)) (pad_cons (pd_var (pv 6)) pad_nil)) pad_nil))) pad_nil))))) (pssd_one (psd_ret pd_bl)) pssd_nil))))))))))
      (pssd_one (psd_ret pd_bl))))) main_law mono_law)
theorem all_mk {l : PySem.W.OpenLaw} {w : World} {K : PySem.W.Frag} {h : Heap} {mg : Str → Option Value} {fa f0 f1 f2 f3 f4 f5 f6 f7 f8 f9 f10 f11 f12 f13 f14 f15 f16 f17 f18 f19 f20 : Addr} (X : K.In h) (G : h.Ns mainGlobals mg) (hfa : mg "law" = some (.ref fa))
    {od0 an0 od1 an1 od2 an2 od3 an3 od4 an4 od5 an5 od6 an6 od7 an7 od8 an8 od9 an9 od10 an10 od11 an11 od12 an12 od13 an13 od14 an14 od15 an15 od16 an16 od17 an17 od18 an18 od19 an19 od20 an20 : Option Addr} {sl0 sl1 sl2 sl3 sl4 sl5 sl6 sl7 sl8 sl9 sl10 sl11 sl12 sl13 sl14 sl15 sl16 sl17 sl18 sl19 sl20 : Array (Option Value)} {oc0 kV0 dc0 pm0 cd0 ct0 oc1 kV1 dc1 pm1 cd1 ct1 oc2 kV2 dc2 pm2 cd2 ct2 oc3 kV3 dc3 pm3 cd3 ct3 oc4 kV4 dc4 pm4 cd4 ct4 oc5 kV5 dc5 pm5 cd5 ct5 oc6 kV6 dc6 pm6 cd6 ct6 oc7 kV7 dc7 pm7 cd7 ct7 oc8 kV8 dc8 pm8 cd8 ct8 oc9 kV9 dc9 pm9 cd9 ct9 oc10 kV10 dc10 pm10 cd10 ct10 oc11 kV11 dc11 pm11 cd11 ct11 oc12 kV12 dc12 pm12 cd12 ct12 oc13 kV13 dc13 pm13 cd13 ct13 oc14 kV14 dc14 pm14 cd14 ct14 oc15 kV15 dc15 pm15 cd15 ct15 oc16 kV16 dc16 pm16 cd16 ct16 oc17 kV17 dc17 pm17 cd17 ct17 oc18 kV18 dc18 pm18 cd18 ct18 oc19 kV19 dc19 pm19 cd19 ct19 oc20 kV20 dc20 pm20 cd20 ct20 : Value}
    (a0 : PySem.W.nsIn K mainGlobals "scale" = some (some (.ref f0))) (l0 : K.lookup f0 = some ⟨oc0, od0, .func (PySem.W.fnOf "scale" "scale" (defArgs s_scale) (defBody s_scale) (defScope s_scale) .none kV0 dc0 pm0 an0 cd0 ct0), sl0⟩) (q0 : PySem.W.codeIn K cd0 "scale" = true) (k0 : PySem.W.keepIn K (.ref f0) = true)
    (a1 : PySem.W.nsIn K mainGlobals "opposite" = some (some (.ref f1))) (l1 : K.lookup f1 = some ⟨oc1, od1, .func (PySem.W.fnOf "opposite" "opposite" (defArgs s_opposite) (defBody s_opposite) (defScope s_opposite) .none kV1 dc1 pm1 an1 cd1 ct1), sl1⟩) (q1 : PySem.W.codeIn K cd1 "opposite" = true) (k1 : PySem.W.keepIn K (.ref f1) = true)
    (a2 : PySem.W.nsIn K mainGlobals "reverse" = some (some (.ref f2))) (l2 : K.lookup f2 = some ⟨oc2, od2, .func (PySem.W.fnOf "reverse" "reverse" (defArgs s_reverse) (defBody s_reverse) (defScope s_reverse) .none kV2 dc2 pm2 an2 cd2 ct2), sl2⟩) (q2 : PySem.W.codeIn K cd2 "reverse" = true) (k2 : PySem.W.keepIn K (.ref f2) = true)
    (a3 : PySem.W.nsIn K mainGlobals "_reverse_of" = some (some (.ref f3))) (l3 : K.lookup f3 = some ⟨oc3, od3, .func (PySem.W.fnOf "_reverse_of" "_reverse_of" (defArgs s__reverse_of) (defBody s__reverse_of) (defScope s__reverse_of) .none kV3 dc3 pm3 an3 cd3 ct3), sl3⟩) (q3 : PySem.W.codeIn K cd3 "_reverse_of" = true) (k3 : PySem.W.keepIn K (.ref f3) = true)
    (a4 : PySem.W.nsIn K mainGlobals "statements" = some (some (.ref f4))) (l4 : K.lookup f4 = some ⟨oc4, od4, .func (PySem.W.fnOf "statements" "statements" (defArgs s_statements) (defBody s_statements) (defScope s_statements) .none kV4 dc4 pm4 an4 cd4 ct4), sl4⟩) (q4 : PySem.W.codeIn K cd4 "statements" = true) (k4 : PySem.W.keepIn K (.ref f4) = true)
    (a5 : PySem.W.nsIn K mainGlobals "depth" = some (some (.ref f5))) (l5 : K.lookup f5 = some ⟨oc5, od5, .func (PySem.W.fnOf "depth" "depth" (defArgs s_depth) (defBody s_depth) (defScope s_depth) .none kV5 dc5 pm5 an5 cd5 ct5), sl5⟩) (q5 : PySem.W.codeIn K cd5 "depth" = true) (k5 : PySem.W.keepIn K (.ref f5) = true)
    (a6 : PySem.W.nsIn K mainGlobals "_law_a_box" = some (some (.ref f6))) (l6 : K.lookup f6 = some ⟨oc6, od6, .func (PySem.W.fnOf "_law_a_box" "_law_a_box" (defArgs s__law_a_box) (defBody s__law_a_box) (defScope s__law_a_box) .none kV6 dc6 pm6 an6 cd6 ct6), sl6⟩) (q6 : PySem.W.codeIn K cd6 "_law_a_box" = true) (k6 : PySem.W.keepIn K (.ref f6) = true)
    (a7 : PySem.W.nsIn K mainGlobals "_law_draw" = some (some (.ref f7))) (l7 : K.lookup f7 = some ⟨oc7, od7, .func (PySem.W.fnOf "_law_draw" "_law_draw" (defArgs s__law_draw) (defBody s__law_draw) (defScope s__law_draw) .none kV7 dc7 pm7 an7 cd7 ct7), sl7⟩) (q7 : PySem.W.codeIn K cd7 "_law_draw" = true) (k7 : PySem.W.keepIn K (.ref f7) = true)
    (a8 : PySem.W.nsIn K mainGlobals "_law_any" = some (some (.ref f8))) (l8 : K.lookup f8 = some ⟨oc8, od8, .func (PySem.W.fnOf "_law_any" "_law_any" (defArgs s__law_any) (defBody s__law_any) (defScope s__law_any) .none kV8 dc8 pm8 an8 cd8 ct8), sl8⟩) (q8 : PySem.W.codeIn K cd8 "_law_any" = true) (k8 : PySem.W.keepIn K (.ref f8) = true)
    (a9 : PySem.W.nsIn K mainGlobals "_law_whole" = some (some (.ref f9))) (l9 : K.lookup f9 = some ⟨oc9, od9, .func (PySem.W.fnOf "_law_whole" "_law_whole" (defArgs s__law_whole) (defBody s__law_whole) (defScope s__law_whole) .none kV9 dc9 pm9 an9 cd9 ct9), sl9⟩) (q9 : PySem.W.codeIn K cd9 "_law_whole" = true) (k9 : PySem.W.keepIn K (.ref f9) = true)
    (a10 : PySem.W.nsIn K mainGlobals "_law_same" = some (some (.ref f10))) (l10 : K.lookup f10 = some ⟨oc10, od10, .func (PySem.W.fnOf "_law_same" "_law_same" (defArgs s__law_same) (defBody s__law_same) (defScope s__law_same) .none kV10 dc10 pm10 an10 cd10 ct10), sl10⟩) (q10 : PySem.W.codeIn K cd10 "_law_same" = true) (k10 : PySem.W.keepIn K (.ref f10) = true)
    (a11 : PySem.W.nsIn K mainGlobals "_law_num" = some (some (.ref f11))) (l11 : K.lookup f11 = some ⟨oc11, od11, .func (PySem.W.fnOf "_law_num" "_law_num" (defArgs s__law_num) (defBody s__law_num) (defScope s__law_num) .none kV11 dc11 pm11 an11 cd11 ct11), sl11⟩) (q11 : PySem.W.codeIn K cd11 "_law_num" = true) (k11 : PySem.W.keepIn K (.ref f11) = true)
    (a12 : PySem.W.nsIn K mainGlobals "_law_arrow" = some (some (.ref f12))) (l12 : K.lookup f12 = some ⟨oc12, od12, .func (PySem.W.fnOf "_law_arrow" "_law_arrow" (defArgs s__law_arrow) (defBody s__law_arrow) (defScope s__law_arrow) .none kV12 dc12 pm12 an12 cd12 ct12), sl12⟩) (q12 : PySem.W.codeIn K cd12 "_law_arrow" = true) (k12 : PySem.W.keepIn K (.ref f12) = true)
    (a13 : PySem.W.nsIn K mainGlobals "_law_label" = some (some (.ref f13))) (l13 : K.lookup f13 = some ⟨oc13, od13, .func (PySem.W.fnOf "_law_label" "_law_label" (defArgs s__law_label) (defBody s__law_label) (defScope s__law_label) .none kV13 dc13 pm13 an13 cd13 ct13), sl13⟩) (q13 : PySem.W.codeIn K cd13 "_law_label" = true) (k13 : PySem.W.keepIn K (.ref f13) = true)
    (a14 : PySem.W.nsIn K mainGlobals "_law_labels" = some (some (.ref f14))) (l14 : K.lookup f14 = some ⟨oc14, od14, .func (PySem.W.fnOf "_law_labels" "_law_labels" (defArgs s__law_labels) (defBody s__law_labels) (defScope s__law_labels) .none kV14 dc14 pm14 an14 cd14 ct14), sl14⟩) (q14 : PySem.W.codeIn K cd14 "_law_labels" = true) (k14 : PySem.W.keepIn K (.ref f14) = true)
    (a15 : PySem.W.nsIn K mainGlobals "_law_a_statement" = some (some (.ref f15))) (l15 : K.lookup f15 = some ⟨oc15, od15, .func (PySem.W.fnOf "_law_a_statement" "_law_a_statement" (defArgs s__law_a_statement) (defBody s__law_a_statement) (defScope s__law_a_statement) .none kV15 dc15 pm15 an15 cd15 ct15), sl15⟩) (q15 : PySem.W.codeIn K cd15 "_law_a_statement" = true) (k15 : PySem.W.keepIn K (.ref f15) = true)
    (a16 : PySem.W.nsIn K mainGlobals "_law_code" = some (some (.ref f16))) (l16 : K.lookup f16 = some ⟨oc16, od16, .func (PySem.W.fnOf "_law_code" "_law_code" (defArgs s__law_code) (defBody s__law_code) (defScope s__law_code) .none kV16 dc16 pm16 an16 cd16 ct16), sl16⟩) (q16 : PySem.W.codeIn K cd16 "_law_code" = true) (k16 : PySem.W.keepIn K (.ref f16) = true)
    (a17 : PySem.W.nsIn K mainGlobals "_law_reverse" = some (some (.ref f17))) (l17 : K.lookup f17 = some ⟨oc17, od17, .func (PySem.W.fnOf "_law_reverse" "_law_reverse" (defArgs s__law_reverse) (defBody s__law_reverse) (defScope s__law_reverse) .none kV17 dc17 pm17 an17 cd17 ct17), sl17⟩) (q17 : PySem.W.codeIn K cd17 "_law_reverse" = true) (k17 : PySem.W.keepIn K (.ref f17) = true)
    (a18 : PySem.W.nsIn K mainGlobals "_law_count" = some (some (.ref f18))) (l18 : K.lookup f18 = some ⟨oc18, od18, .func (PySem.W.fnOf "_law_count" "_law_count" (defArgs s__law_count) (defBody s__law_count) (defScope s__law_count) .none kV18 dc18 pm18 an18 cd18 ct18), sl18⟩) (q18 : PySem.W.codeIn K cd18 "_law_count" = true) (k18 : PySem.W.keepIn K (.ref f18) = true)
    (a19 : PySem.W.nsIn K mainGlobals "_law_a_deep" = some (some (.ref f19))) (l19 : K.lookup f19 = some ⟨oc19, od19, .func (PySem.W.fnOf "_law_a_deep" "_law_a_deep" (defArgs s__law_a_deep) (defBody s__law_a_deep) (defScope s__law_a_deep) .none kV19 dc19 pm19 an19 cd19 ct19), sl19⟩) (q19 : PySem.W.codeIn K cd19 "_law_a_deep" = true) (k19 : PySem.W.keepIn K (.ref f19) = true)
    (a20 : PySem.W.nsIn K mainGlobals "law" = some (some (.ref f20))) (l20 : K.lookup f20 = some ⟨oc20, od20, .func (PySem.W.fnOf "law" "law" (defArgs s_law) (defBody s_law) (defScope s_law) .none kV20 dc20 pm20 an20 cd20 ct20), sl20⟩) (q20 : PySem.W.codeIn K cd20 "law" = true) (k20 : PySem.W.keepIn K (.ref f20) = true)
    (y_all : PySem.W.nsIn K mainGlobals "all" = some none)
    (y_bool : PySem.W.nsIn K mainGlobals "bool" = some none)
    (y_int : PySem.W.nsIn K mainGlobals "int" = some none)
    (y_isinstance : PySem.W.nsIn K mainGlobals "isinstance" = some none)
    (y_len : PySem.W.nsIn K mainGlobals "len" = some none)
    (y_list : PySem.W.nsIn K mainGlobals "list" = some none)
    (y_max : PySem.W.nsIn K mainGlobals "max" = some none)
    (y_range : PySem.W.nsIn K mainGlobals "range" = some none)
    (y_reversed : PySem.W.nsIn K mainGlobals "reversed" = some none)
    (y_str : PySem.W.nsIn K mainGlobals "str" = some none)
    (y_sum : PySem.W.nsIn K mainGlobals "sum" = some none)
    (y_tuple : PySem.W.nsIn K mainGlobals "tuple" = some none)
    (y_zip : PySem.W.nsIn K mainGlobals "zip" = some none) :
    ∃ fd : FuncData, (∀ (s : Shared) (v : Value), BindsTo s fd ⟨[v], []⟩ [("_law_script", v)]) ∧ ∀ base : Heap, K.In base → base.Ns mainGlobals mg → FnOk l.prog w K mg base CX0 27 fa fd ["_law_script"] (spLaw K) := by
  have e := hfa.symm.trans (PySem.W.mg_of X G a20)
  cases e
  have z_all := PySem.W.mg_none_of X G y_all
  have z_bool := PySem.W.mg_none_of X G y_bool
  have z_int := PySem.W.mg_none_of X G y_int
  have z_isinstance := PySem.W.mg_none_of X G y_isinstance
  have z_len := PySem.W.mg_none_of X G y_len
  have z_list := PySem.W.mg_none_of X G y_list
  have z_max := PySem.W.mg_none_of X G y_max
  have z_range := PySem.W.mg_none_of X G y_range
  have z_reversed := PySem.W.mg_none_of X G y_reversed
  have z_str := PySem.W.mg_none_of X G y_str
  have z_sum := PySem.W.mg_none_of X G y_sum
  have z_tuple := PySem.W.mg_none_of X G y_tuple
  have z_zip := PySem.W.mg_none_of X G y_zip
  have F0 := fun_mk (st := s_scale) l0 q0 k0
  have b0 := F0.binds (ps := ["number", "place"]) fun _ _ _ _ _ _ us hl => match us, hl with | [_, _], _ => rfl
  have F1 := fun_mk (st := s_opposite) l1 q1 k1
  have b1 := F1.binds (ps := ["place"]) fun _ _ _ _ _ _ us hl => match us, hl with | [_], _ => rfl
  have F2 := fun_mk (st := s_reverse) l2 q2 k2
  have b2 := F2.binds (ps := ["block"]) fun _ _ _ _ _ _ us hl => match us, hl with | [_], _ => rfl
  have F3 := fun_mk (st := s__reverse_of) l3 q3 k3
  have b3 := F3.binds (ps := ["statement"]) fun _ _ _ _ _ _ us hl => match us, hl with | [_], _ => rfl
  have F4 := fun_mk (st := s_statements) l4 q4 k4
  have b4 := F4.binds (ps := ["block"]) fun _ _ _ _ _ _ us hl => match us, hl with | [_], _ => rfl
  have F5 := fun_mk (st := s_depth) l5 q5 k5
  have b5 := F5.binds (ps := ["block"]) fun _ _ _ _ _ _ us hl => match us, hl with | [_], _ => rfl
  have F6 := fun_mk (st := s__law_a_box) l6 q6 k6
  have b6 := F6.binds (ps := ["_law_script"]) fun _ _ _ _ _ _ us hl => match us, hl with | [_], _ => rfl
  have F7 := fun_mk (st := s__law_draw) l7 q7 k7
  have b7 := F7.binds (ps := ["_law_box", "_law_many"]) fun _ _ _ _ _ _ us hl => match us, hl with | [_, _], _ => rfl
  have F8 := fun_mk (st := s__law_any) l8 q8 k8
  have b8 := F8.binds (ps := ["_law_box", "_law_row"]) fun _ _ _ _ _ _ us hl => match us, hl with | [_, _], _ => rfl
  have F9 := fun_mk (st := s__law_whole) l9 q9 k9
  have b9 := F9.binds (ps := ["_law_found"]) fun _ _ _ _ _ _ us hl => match us, hl with | [_], _ => rfl
  have F10 := fun_mk (st := s__law_same) l10 q10 k10
  have b10 := F10.binds (ps := ["_law_found", "_law_due"]) fun _ _ _ _ _ _ us hl => match us, hl with | [_, _], _ => rfl
  have F11 := fun_mk (st := s__law_num) l11 q11 k11
  have b11 := F11.binds (ps := ["_law_box"]) fun _ _ _ _ _ _ us hl => match us, hl with | [_], _ => rfl
  have F12 := fun_mk (st := s__law_arrow) l12 q12 k12
  have b12 := F12.binds (ps := ["_law_box", "_law_ways"]) fun _ _ _ _ _ _ us hl => match us, hl with | [_, _], _ => rfl
  have F13 := fun_mk (st := s__law_label) l13 q13 k13
  have b13 := F13.binds (ps := ["_law_box"]) fun _ _ _ _ _ _ us hl => match us, hl with | [_], _ => rfl
  have F14 := fun_mk (st := s__law_labels) l14 q14 k14
  have b14 := F14.binds (ps := ["_law_box", "_law_many"]) fun _ _ _ _ _ _ us hl => match us, hl with | [_, _], _ => rfl
  have F15 := fun_mk (st := s__law_a_statement) l15 q15 k15
  have b15 := F15.binds (ps := ["_law_box", "_law_ways", "_law_names", "_law_deep", "_law_most"]) fun _ _ _ _ _ _ us hl => match us, hl with | [_, _, _, _, _], _ => rfl
  have F16 := fun_mk (st := s__law_code) l16 q16 k16
  have b16 := F16.binds (ps := ["_law_box", "_law_ways", "_law_names", "_law_deep", "_law_most"]) fun _ _ _ _ _ _ us hl => match us, hl with | [_, _, _, _, _], _ => rfl
  have F17 := fun_mk (st := s__law_reverse) l17 q17 k17
  have b17 := F17.binds (ps := ["_law_block"]) fun _ _ _ _ _ _ us hl => match us, hl with | [_], _ => rfl
  have F18 := fun_mk (st := s__law_count) l18 q18 k18
  have b18 := F18.binds (ps := ["_law_block"]) fun _ _ _ _ _ _ us hl => match us, hl with | [_], _ => rfl
  have F19 := fun_mk (st := s__law_a_deep) l19 q19 k19
  have b19 := F19.binds (ps := ["_law_block"]) fun _ _ _ _ _ _ us hl => match us, hl with | [_], _ => rfl
  have F20 := fun_mk (st := s_law) l20 q20 k20
  have b20 := F20.binds (ps := ["_law_script"]) fun _ _ _ _ _ _ us hl => match us, hl with | [_], _ => rfl
  refine ⟨PySem.W.fnOf "law" "law" (defArgs s_law) (defBody s_law) (defScope s_law) .none kV20 dc20 pm20 an20 cd20 ct20, fun s v => .of_eq rfl, fun base _ _ => ?_⟩
  have h_scale := ok_scale (P := l.prog) (w := w) (base := base) F0 (PySem.W.mg_of X G a0) b0 z_tuple
  have h_opposite := ok_opposite (P := l.prog) (w := w) (base := base) F1 (PySem.W.mg_of X G a1) b1 h_scale
  obtain ⟨h_reverse, h__reverse_of⟩ := okg_reverse (P := l.prog) (w := w) (base := base) F2 (PySem.W.mg_of X G a2) b2 F3 (PySem.W.mg_of X G a3) b3 h_opposite z_reversed z_tuple 24
  obtain h_statements := okg_statements (P := l.prog) (w := w) (base := base) F4 (PySem.W.mg_of X G a4) b4 z_len z_sum 24
  obtain h_depth := okg_depth (P := l.prog) (w := w) (base := base) F5 (PySem.W.mg_of X G a5) b5 z_max 24
  have h__law_a_box := ok__law_a_box (P := l.prog) (w := w) (base := base) F6 (PySem.W.mg_of X G a6) b6 z_len z_list
  have h__law_draw := ok__law_draw (P := l.prog) (w := w) (base := base) F7 (PySem.W.mg_of X G a7) b7 z_len
  have h__law_any := ok__law_any (P := l.prog) (w := w) (base := base) F8 (PySem.W.mg_of X G a8) b8 h__law_draw z_len
  have h__law_whole := ok__law_whole (P := l.prog) (w := w) (base := base) F9 (PySem.W.mg_of X G a9) b9 z_bool z_int z_isinstance
  have h__law_same := ok__law_same (P := l.prog) (w := w) (base := base) F10 (PySem.W.mg_of X G a10) b10 h__law_whole z_all z_bool z_int z_isinstance z_len z_list z_str z_tuple z_zip
  have h__law_num := ok__law_num (P := l.prog) (w := w) (base := base) F11 (PySem.W.mg_of X G a11) b11 h__law_draw
  have h__law_arrow := ok__law_arrow (P := l.prog) (w := w) (base := base) F12 (PySem.W.mg_of X G a12) b12 h__law_draw z_range z_tuple
  have h__law_label := ok__law_label (P := l.prog) (w := w) (base := base) F13 (PySem.W.mg_of X G a13) b13 h__law_any h__law_draw z_range
  have h__law_labels := ok__law_labels (P := l.prog) (w := w) (base := base) F14 (PySem.W.mg_of X G a14) b14 h__law_label z_range
  obtain ⟨h__law_a_statement, h__law_code⟩ := okg__law_a_statement (P := l.prog) (w := w) (base := base) F15 (PySem.W.mg_of X G a15) b15 F16 (PySem.W.mg_of X G a16) b16 h__law_any h__law_arrow h__law_draw h__law_num z_range z_tuple 12
  obtain h__law_reverse := okg__law_reverse (P := l.prog) (w := w) (base := base) F17 (PySem.W.mg_of X G a17) b17 z_tuple 24
  obtain h__law_count := okg__law_count (P := l.prog) (w := w) (base := base) F18 (PySem.W.mg_of X G a18) b18 z_len z_sum 24
  obtain h__law_a_deep := okg__law_a_deep (P := l.prog) (w := w) (base := base) F19 (PySem.W.mg_of X G a19) b19 z_max 24
  exact (ok_law (P := l.prog) (w := w) (base := base) F20 h__law_a_box h__law_a_deep h__law_code h__law_count h__law_draw h__law_labels h__law_reverse h__law_same h_depth h_reverse h_statements z_range)
end DL
open PySem PySem.W PyProof.Rows
set_option maxRecDepth 100000 in
set_option maxHeartbeats 0 in
theorem PySem.Challenge.cw_strewfar_k04_blocks_reversed_holds : PySem.Challenge.rw_strewfar_k04_blocks_reversed.Holds := by
  w_on; o_law; k_head; (case hw => w_witness2)
  k_fill
  refine L2.walk_of (l := PySem.Challenge.rw_strewfar_k04_blocks_reversed) (n := 63) (k := 27) (x := "_law_script") (CX := fun _ => L2.CX0) (sp := fun w => DL.spLaw _) rfl (by decide) rfl ⟨rfl, by decide, by decide⟩ (fun w h Y => PySem.W.kIn_of Y) ?F (fun _ _ a ns hl _ hS => ⟨a, ns, rfl, hS, hl, fun _ => rfl⟩) (fun _ _ _ _ _ h => h)
  case F =>
    intro w mg fa h KX G hmg
    refine' DL.all_mk KX G hmg ?a0 ?l0 ?q0 ?k0 ?a1 ?l1 ?q1 ?k1 ?a2 ?l2 ?q2 ?k2 ?a3 ?l3 ?q3 ?k3 ?a4 ?l4 ?q4 ?k4 ?a5 ?l5 ?q5 ?k5 ?a6 ?l6 ?q6 ?k6 ?a7 ?l7 ?q7 ?k7 ?a8 ?l8 ?q8 ?k8 ?a9 ?l9 ?q9 ?k9 ?a10 ?l10 ?q10 ?k10 ?a11 ?l11 ?q11 ?k11 ?a12 ?l12 ?q12 ?k12 ?a13 ?l13 ?q13 ?k13 ?a14 ?l14 ?q14 ?k14 ?a15 ?l15 ?q15 ?k15 ?a16 ?l16 ?q16 ?k16 ?a17 ?l17 ?q17 ?k17 ?a18 ?l18 ?q18 ?k18 ?a19 ?l19 ?q19 ?k19 ?a20 ?l20 ?q20 ?k20 ?y_all ?y_bool ?y_int ?y_isinstance ?y_len ?y_list ?y_max ?y_range ?y_reversed ?y_str ?y_sum ?y_tuple ?y_zip
    (case a0 => k_is)
    (case l0 => k_is)
    (case q0 => k_is)
    (case k0 => k_is)
    (case a1 => k_is)
    (case l1 => k_is)
    (case q1 => k_is)
    (case k1 => k_is)
    (case a2 => k_is)
    (case l2 => k_is)
    (case q2 => k_is)
    (case k2 => k_is)
    (case a3 => k_is)
    (case l3 => k_is)
    (case q3 => k_is)
    (case k3 => k_is)
    (case a4 => k_is)
    (case l4 => k_is)
    (case q4 => k_is)
    (case k4 => k_is)
    (case a5 => k_is)
    (case l5 => k_is)
    (case q5 => k_is)
    (case k5 => k_is)
    (case a6 => k_is)
    (case l6 => k_is)
    (case q6 => k_is)
    (case k6 => k_is)
    (case a7 => k_is)
    (case l7 => k_is)
    (case q7 => k_is)
    (case k7 => k_is)
    (case a8 => k_is)
    (case l8 => k_is)
    (case q8 => k_is)
    (case k8 => k_is)
    (case a9 => k_is)
    (case l9 => k_is)
    (case q9 => k_is)
    (case k9 => k_is)
    (case a10 => k_is)
    (case l10 => k_is)
    (case q10 => k_is)
    (case k10 => k_is)
    (case a11 => k_is)
    (case l11 => k_is)
    (case q11 => k_is)
    (case k11 => k_is)
    (case a12 => k_is)
    (case l12 => k_is)
    (case q12 => k_is)
    (case k12 => k_is)
    (case a13 => k_is)
    (case l13 => k_is)
    (case q13 => k_is)
    (case k13 => k_is)
    (case a14 => k_is)
    (case l14 => k_is)
    (case q14 => k_is)
    (case k14 => k_is)
    (case a15 => k_is)
    (case l15 => k_is)
    (case q15 => k_is)
    (case k15 => k_is)
    (case a16 => k_is)
    (case l16 => k_is)
    (case q16 => k_is)
    (case k16 => k_is)
    (case a17 => k_is)
    (case l17 => k_is)
    (case q17 => k_is)
    (case k17 => k_is)
    (case a18 => k_is)
    (case l18 => k_is)
    (case q18 => k_is)
    (case k18 => k_is)
    (case a19 => k_is)
    (case l19 => k_is)
    (case q19 => k_is)
    (case k19 => k_is)
    (case a20 => k_is)
    (case l20 => k_is)
    (case q20 => k_is)
    (case k20 => k_is)
    (case y_all => k_is)
    (case y_bool => k_is)
    (case y_int => k_is)
    (case y_isinstance => k_is)
    (case y_len => k_is)
    (case y_list => k_is)
    (case y_max => k_is)
    (case y_range => k_is)
    (case y_reversed => k_is)
    (case y_str => k_is)
    (case y_sum => k_is)
    (case y_tuple => k_is)
    (case y_zip => k_is)


