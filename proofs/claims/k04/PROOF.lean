import PyProof.Rows.All
import Wide.All
import OpenK.AllK
import Wide.FinOn
import HandS.ForMost
import HandS.TupAny
import HandS.TupMul
import HandS.Conv
import HandS.Deep
import HandS.WordsExc
import HandS.TryOnly
import HandS.Style
import HandS.Strs
import HandS.IsInst
import HandS.Iter
import HandS.Exc
import HandS.ExcOwn
import HandS.ExcIs
import HandS.RaiseMore
import HandS.FStr
import HandS.FStrTup
import KE.KDictKeyed
import KE.KDictDisplayH
import HandS.Dict
import KE.SortData
import PySem.Challenge.RW_caseslive_k04_processes_are_checked
set_option Elab.async false
set_option linter.all false
set_option maxRecDepth 100000
set_option maxHeartbeats 4000000
namespace Sx
open PySem PySem.Spec PyProof.Rows L2

/-! ### heaps -/
/-- a tuple: nobody writes it -/
def IsT : HO → Prop
  | .tup _ => True
  | _ => False
structure Grow (F H F' H' : Hp) : Prop where
  f : Same F F'
  h : Same H H'
  s : Same F' H'
  n : ∀ p o, F' p = some o → F p = none → H p = none ∨ IsT o
theorem Grow.refl {F H : Hp} (s : Same F H) : Grow F H F H := ⟨Same.refl _, Same.refl _, s, fun p o e n => by rw [n] at e; cases e⟩
theorem Grow.trans {F H F1 H1 F2 H2 : Hp} (a : Grow F H F1 H1) (b : Grow F1 H1 F2 H2) : Grow F H F2 H2 :=
  ⟨a.f.trans b.f, a.h.trans b.h, b.s, fun p o e n => by
    cases q : F1 p with
    | some o' =>
      have e2 := b.f p o' q
      rw [e] at e2
      cases e2
      exact a.n p _ q n
    | none => exact (b.n p o e q).imp a.h.free id⟩
theorem same_new {H : Hp} {p : Addr} {o : HO} (h : H p = none) : Same H (upd H p o) := fun b x e => by
  rw [upd_ne (ne_of_none e h)]
  exact e
theorem Grow.new {F H : Hp} {p : Addr} {o : HO} (s : Same F H) (h : H p = none) : Grow F H F (upd H p o) :=
  ⟨Same.refl _, same_new h, s.trans (same_new h), fun p o e n => by rw [n] at e; cases e⟩
theorem SqL.same {K : PySem.W.Frag} {H H' : Hp} {a : Addr} {xs : List V} (e : Same H H') (h : SqL K H a xs) : SqL K H' a xs := e.seq h
theorem SqT.same {K : PySem.W.Frag} {H H' : Hp} {a : Addr} {xs : List V} (e : Same H H') (h : SqT K H a xs) : SqT K H' a xs := by
  rcases h with (h | ⟨o, h⟩) | h
  · exact .inl (.inl (e _ _ h))
  · exact .inl (.inr ⟨o, e _ _ h⟩)
  · exact .inr h

/-! ### what is known of a value, of an object -/
structure S where
  r : Hp → V → Prop
  mono : ∀ {F F' : Hp} {v : V}, Same F F' → r F v → r F' v
/-- an object of our own: F what is known, h its cells, p where it begins -/
structure O where
  r : Hp → Hp → Addr → Prop
  mono : ∀ {F F' h : Hp} {p : Addr}, Same F F' → r F h p → r F' h p
structure R where
  r : Hp → Hp → V → Prop
  mono : ∀ {F H F' H' : Hp} {v : V}, Same F F' → Same H H' → r F H v → r F' H' v
def sv (s : S) : R := ⟨fun F _ v => s.r F v, fun a _ h => s.mono a h⟩
def bO (o : O) : R := ⟨fun F H v => ∃ p h, v = .ref p ∧ Same h H ∧ o.r F h p, fun a b ⟨p, h, e, k, q⟩ => ⟨p, h, e, k.trans b, o.mono a q⟩⟩
def sO (o : O) : S := ⟨fun F v => ∃ p h, v = .ref p ∧ Same h F ∧ o.r F h p, fun a ⟨p, h, e, k, q⟩ => ⟨p, h, e, k.trans a, o.mono a q⟩⟩
def sC (x : V) : S := ⟨fun _ v => v = x, fun _ h => h⟩
def sInt (i : Int) : S := ⟨fun _ v => v = .int i, fun _ h => h⟩
def sBool (b : Bool) : S := ⟨fun _ v => v = .bl b, fun _ h => h⟩
def sNone : S := ⟨fun _ v => v = .non, fun _ h => h⟩
def sStr (x : Str) : S := ⟨fun _ v => v = .str x ∧ PyData.strOk x = true, fun _ h => h⟩
def sEx {α : Type} (P : α → Prop) (T : α → S) : S := ⟨fun F v => ∃ a, P a ∧ (T a).r F v, fun e ⟨a, p, h⟩ => ⟨a, p, (T a).mono e h⟩⟩
/-- items, one by one -/
theorem pr_get {α β : Type} {G : α → β → Prop} : ∀ {xs : List α} {vs : List β} {i : Nat} {v : β}, Paired G xs vs → vs[i]? = some v → ∃ x, xs[i]? = some x ∧ G x v
  | _, _, _, _, .nil, e => by simp at e
  | _, _, 0, _, .cons r _, e => by simp at e; subst e; exact ⟨_, rfl, r⟩
  | _, _, i + 1, v, .cons _ t, e => by
    obtain ⟨x, h1, h2⟩ := pr_get (i := i) (v := v) t (by simpa using e)
    exact ⟨x, by simpa using h1, h2⟩
theorem pr_at {α β : Type} {G : α → β → Prop} : ∀ {xs : List α} {vs : List β} {i : Nat} {x : α}, Paired G xs vs → xs[i]? = some x → ∃ v, vs[i]? = some v ∧ G x v
  | _, _, _, _, .nil, e => by simp at e
  | _, _, 0, _, .cons r _, e => by simp at e; subst e; exact ⟨_, rfl, r⟩
  | _, _, i + 1, x, .cons _ t, e => by
    obtain ⟨v, h1, h2⟩ := pr_at (i := i) (x := x) t (by simpa using e)
    exact ⟨v, by simpa using h1, h2⟩
theorem pr_app {α β : Type} {G : α → β → Prop} : ∀ {xs ys : List α} {vs ws : List β}, Paired G xs vs → Paired G ys ws → Paired G (xs ++ ys) (vs ++ ws)
  | _, _, _, _, .nil, h => h
  | _, _, _, _, .cons r t, h => .cons r (pr_app t h)
theorem pr_take {α β : Type} {G : α → β → Prop} : ∀ {xs : List α} {vs : List β} (n : Nat), Paired G xs vs → Paired G (xs.take n) (vs.take n)
  | _, _, 0, _ => .nil
  | _, _, _ + 1, .nil => .nil
  | _, _, n + 1, .cons r t => .cons r (pr_take n t)
theorem pr_drop {α β : Type} {G : α → β → Prop} : ∀ {xs : List α} {vs : List β} (n : Nat), Paired G xs vs → Paired G (xs.drop n) (vs.drop n)
  | _, _, 0, h => h
  | _, _, _ + 1, .nil => .nil
  | _, _, n + 1, .cons _ t => pr_drop n t
theorem pr_rev {α β : Type} {G : α → β → Prop} : ∀ {xs : List α} {vs : List β}, Paired G xs vs → Paired G xs.reverse vs.reverse
  | _, _, .nil => .nil
  | _, _, .cons r t => by
    rw [List.reverse_cons, List.reverse_cons]
    exact pr_app (pr_rev t) (.cons r .nil)
theorem pr_map {α β γ : Type} {G : α → β → Prop} {G' : γ → β → Prop} {f : γ → α} (hf : ∀ c v, G' c v → G (f c) v) : ∀ {xs : List γ} {vs : List β}, Paired G' xs vs → Paired G (xs.map f) vs
  | _, _, .nil => .nil
  | _, _, .cons r t => .cons (hf _ _ r) (pr_map hf t)
theorem pr_unmap {α β γ : Type} {G : α → β → Prop} {G' : γ → β → Prop} {f : γ → α} (hf : ∀ c v, G (f c) v → G' c v) : ∀ {xs : List γ} {vs : List β}, Paired G (xs.map f) vs → Paired G' xs vs
  | [], _, h => by
    cases h
    exact .nil
  | x :: xs, _, h => by
    cases h with
    | cons r t => exact .cons (hf _ _ r) (pr_unmap hf t)
theorem pr_set {α β : Type} {G : α → β → Prop} {x : α} {v : β} (r : G x v) : ∀ {xs : List α} {vs : List β} (i : Nat), Paired G xs vs → Paired G (xs.set i x) (vs.set i v)
  | _, _, _, .nil => .nil
  | _, _, 0, .cons _ t => .cons r t
  | _, _, i + 1, .cons q t => .cons q (pr_set r i t)
def Its {α : Type} (T : α → S) (F : Hp) (xs : List α) (vs : List V) : Prop := Paired (fun x v => (T x).r F v) xs vs
theorem Its.mono {α : Type} {T : α → S} {F F' : Hp} {xs : List α} {vs : List V} (e : Same F F') (h : Its T F xs vs) : Its T F' xs vs := Paired.mapP h fun _ _ q => (T _).mono e q
def oLst {α : Type} (T : α → S) (xs : List α) : O := ⟨fun F h p => ∃ vs, h p = some (.lst vs) ∧ Its T F xs vs, fun e ⟨vs, q, h⟩ => ⟨vs, q, h.mono e⟩⟩
def oTup {α : Type} (T : α → S) (xs : List α) : O := ⟨fun F h p => ∃ vs, h p = some (.tup vs) ∧ Its T F xs vs, fun e ⟨vs, q, h⟩ => ⟨vs, q, h.mono e⟩⟩
/-- a list or a tuple -/
def oSq {α : Type} (T : α → S) (xs : List α) : O := ⟨fun F h p => ∃ vs, (h p = some (.lst vs) ∨ h p = some (.tup vs)) ∧ Its T F xs vs, fun e ⟨vs, q, h⟩ => ⟨vs, q, h.mono e⟩⟩
abbrev sLst {α : Type} (T : α → S) (xs : List α) : S := sO (oLst T xs)
abbrev sTup {α : Type} (T : α → S) (xs : List α) : S := sO (oTup T xs)
abbrev sSq {α : Type} (T : α → S) (xs : List α) : S := sO (oSq T xs)
/-- a list or a tuple that is read, whatever it is -/
def bSq {α : Type} (K : PySem.W.Frag) (T : α → S) (xs : List α) : R :=
  ⟨fun F H v => ∃ p vs, v = .ref p ∧ (SqL K H p vs ∨ SqT K H p vs) ∧ Its T F xs vs, fun a b ⟨p, vs, e, h, q⟩ => ⟨p, vs, e, h.imp (SqL.same b) (SqT.same b), q.mono a⟩⟩

section
variable {α β : Type} {T : α → S} {U : β → S} {F : Hp} {xs ys : List α} {vs ws : List V} {i : Nat} {x : α} {v : V}
theorem Its.len (h : Its T F xs vs) : vs.length = xs.length := (Paired.length h).symm
theorem Its.nil : Its T F [] [] := Paired.nil
theorem Its.cons (r : (T x).r F v) (h : Its T F xs vs) : Its T F (x :: xs) (v :: vs) := Paired.cons r h
theorem Its.get (h : Its T F xs vs) (e : vs[i]? = some v) : ∃ x, xs[i]? = some x ∧ (T x).r F v := pr_get (G := fun x v => (T x).r F v) h e
theorem Its.at (h : Its T F xs vs) (e : xs[i]? = some x) : ∃ v, vs[i]? = some v ∧ (T x).r F v := pr_at (G := fun x v => (T x).r F v) h e
theorem Its.app (h : Its T F xs vs) (k : Its T F ys ws) : Its T F (xs ++ ys) (vs ++ ws) := pr_app h k
theorem Its.snoc (h : Its T F xs vs) (r : (T x).r F v) : Its T F (xs ++ [x]) (vs ++ [v]) := h.app (Its.cons r Its.nil)
theorem Its.take (n : Nat) (h : Its T F xs vs) : Its T F (xs.take n) (vs.take n) := pr_take n h
theorem Its.drop (n : Nat) (h : Its T F xs vs) : Its T F (xs.drop n) (vs.drop n) := pr_drop n h
theorem Its.rev (h : Its T F xs vs) : Its T F xs.reverse vs.reverse := pr_rev h
theorem Its.set (i : Nat) (h : Its T F xs vs) (r : (T x).r F v) : Its T F (xs.set i x) (vs.set i v) := pr_set (G := fun x v => (T x).r F v) r i h
theorem Its.map {f : β → α} {bs : List β} (hf : ∀ b v, (U b).r F v → (T (f b)).r F v) (h : Its U F bs vs) : Its T F (bs.map f) vs := pr_map hf h
theorem Its.unmap {f : β → α} {bs : List β} (hf : ∀ b v, (T (f b)).r F v → (U b).r F v) (h : Its T F (bs.map f) vs) : Its U F bs vs := pr_unmap hf h
theorem Its.atI {i : Int} (h : Its T F xs vs) (e : atI xs i = some x) : ∃ v, L2.atI vs i = some v ∧ (T x).r F v := by
  unfold L2.atI at e ⊢
  rw [h.len]
  cases q : ixN xs.length i with
  | none => rw [q] at e; cases e
  | some j =>
    rw [q] at e
    exact h.at e
/-- the items of a slice -/
def cutL {γ : Type} (xs : List γ) (lo hi : Option Int) : List γ := (xs.drop (HT.sIx xs.length 0 lo)).take (HT.sIx xs.length xs.length hi - HT.sIx xs.length 0 lo)
theorem Its.cut {lo hi : Option Int} (h : Its T F xs vs) : Its T F (cutL xs lo hi) (cutV vs lo hi) := by
  unfold cutL cutV
  rw [h.len]
  exact (h.drop _).take _
end

/-! ### the state -/
structure Bs where
  F : Hp
  H : Hp
inductive Sl where
  | any
  | val (s : S)
  | own (o : O)
def SlOk (F h : Hp) : Sl → Option V → Prop
  | .any, _ => True
  | .val s, v => ∃ x, v = some x ∧ s.r F x
  | .own o, v => ∃ p, v = some (.ref p) ∧ o.r F h p
theorem SlOk.mono {F F' h : Hp} (e : Same F F') : ∀ {x : Sl} {v : Option V}, SlOk F h x v → SlOk F' h x v
  | .any, _, _ => trivial
  | .val s, _, ⟨x, q, k⟩ => ⟨x, q, s.mono e k⟩
  | .own o, _, ⟨p, q, k⟩ => ⟨p, q, o.mono e k⟩
/-- the cells of our own, slot by slot -/
structure Own (B : Bs) (F H : Hp) (fp : Nat → Hp) : Prop where
  at_ : ∀ i a ob, fp i a = some ob → H a = some ob ∧ B.H a = none ∧ (F a = none ∨ IsT ob)
  ap : ∀ i j a o1 o2, fp i a = some o1 → fp j a = some o2 → i = j
theorem Own.grow {B : Bs} {F H F' H' : Hp} {fp : Nat → Hp} (h : Own B F H fp) (g : Grow F H F' H') : Own B F' H' fp where
  at_ := fun i a ob e => by
    obtain ⟨h1, h2, h3⟩ := h.at_ i a ob e
    refine ⟨g.h _ _ h1, h2, ?_⟩
    rcases h3 with h3 | h3
    · cases z : F' a with
      | none => exact .inl rfl
      | some o' =>
        rcases g.n a o' z h3 with q | q
        · rw [h1] at q
          cases q
        · have e1 := g.s a o' z
          rw [g.h _ _ h1] at e1
          cases e1
          exact .inr q
    · exact .inr h3
  ap := h.ap
structure Sat (B : Bs) (F H : Hp) (σ : L2.St) (ss : List Sl) : Prop where
  g : Grow B.F B.H F H
  len : ss.length = σ.length
  fp : ∃ fp : Nat → Hp, (∀ (i : Nat) x v, ss[i]? = some x → σ[i]? = some v → SlOk F (fp i) x v) ∧ Own B F H fp
/-- nothing -/
def hp0 : Hp := fun _ => none
/-- one cell -/
def hp1 (p : Addr) (o : HO) : Hp := fun a => if a = p then some o else none
theorem hp1_same {p : Addr} {o : HO} : hp1 p o p = some o := by unfold hp1; rw [if_pos rfl]
theorem hp1_some {p a : Addr} {o ob : HO} (h : hp1 p o a = some ob) : a = p ∧ ob = o := by
  unfold hp1 at h
  by_cases e : a = p
  · rw [if_pos e] at h; cases h; exact ⟨e, rfl⟩
  · rw [if_neg e] at h; cases h
def fpSet (fp : Nat → Hp) (i : Nat) (h : Hp) : Nat → Hp := fun j => if j = i then h else fp j
theorem fpSet_same {fp : Nat → Hp} {i : Nat} {h : Hp} : fpSet fp i h i = h := by unfold fpSet; rw [if_pos rfl]
theorem fpSet_ne {fp : Nat → Hp} {i j : Nat} {h : Hp} (e : j ≠ i) : fpSet fp i h j = fp j := by unfold fpSet; rw [if_neg e]
theorem set_len {α : Type} {l : List α} {i j : Nat} {x y : α} (h : (l.set i x)[j]? = some y) : j < l.length := by
  have := (List.getElem?_eq_some_iff.mp h).1
  rwa [List.length_set] at this
section
variable {B : Bs} {F H F' H' : Hp} {σ : L2.St} {ss : List Sl}
theorem Sat.grow (h : Sat B F H σ ss) (g : Grow F H F' H') : Sat B F' H' σ ss := ⟨h.g.trans g, h.len, by
  obtain ⟨fp, h1, h2⟩ := h.fp
  exact ⟨fp, fun i x v e1 e2 => (h1 i x v e1 e2).mono g.f, h2.grow g⟩⟩
theorem Sat.there (h : Sat B F H σ ss) {i : Nat} {x : Sl} (e : ss[i]? = some x) : ∃ v, σ[i]? = some v := by
  have hi : i < σ.length := by
    rw [← h.len]
    exact (List.getElem?_eq_some_iff.mp e).1
  exact ⟨σ[i], List.getElem?_eq_getElem hi⟩
theorem Sat.val (h : Sat B F H σ ss) {i : Nat} {s : S} (e : ss[i]? = some (.val s)) : ∃ v, σ[i]? = some (some v) ∧ s.r F v := by
  obtain ⟨v, e1⟩ := h.there e
  obtain ⟨fp, h1, _⟩ := h.fp
  obtain ⟨x, e2, q⟩ := h1 i _ _ e e1
  subst e2
  exact ⟨x, e1, q⟩
theorem Sat.own (h : Sat B F H σ ss) {i : Nat} {o : O} (e : ss[i]? = some (.own o)) : ∃ p k, σ[i]? = some (some (.ref p)) ∧ (∀ a ob, k a = some ob → H a = some ob ∧ B.H a = none ∧ (F a = none ∨ IsT ob)) ∧ o.r F k p := by
  obtain ⟨v, e1⟩ := h.there e
  obtain ⟨fp, h1, h2⟩ := h.fp
  obtain ⟨p, e2, q⟩ := h1 i _ _ e e1
  subst e2
  exact ⟨p, fp i, e1, h2.at_ i, q⟩
theorem Sat.s (h : Sat B F H σ ss) : Same F H := h.g.s
/-- a slot is stored -/
theorem Sat.set (h : Sat B F H σ ss) {i : Nat} {v : V} {s : S} (r : s.r F v) : Sat B F H (σ.set i (some v)) (ss.set i (.val s)) := by
  obtain ⟨fp, h1, h2⟩ := h.fp
  refine ⟨h.g, by rw [List.length_set, List.length_set]; exact h.len, fpSet fp i hp0, fun j x w e1 e2 => ?_, fun j a ob e => ?_, fun j k a o1 o2 e1 e2 => ?_⟩
  · by_cases hj : j = i
    · subst hj
      rw [List.getElem?_set_self (set_len e1)] at e1
      rw [List.getElem?_set_self (set_len e2)] at e2
      cases e1; cases e2
      exact ⟨v, rfl, r⟩
    · rw [List.getElem?_set_ne (Ne.symm hj)] at e1 e2
      rw [fpSet_ne hj]
      exact h1 j x w e1 e2
  · by_cases hj : j = i
    · subst hj
      rw [fpSet_same] at e
      cases e
    · rw [fpSet_ne hj] at e
      exact h2.at_ j a ob e
  · by_cases hj : j = i
    · subst hj
      rw [fpSet_same] at e1
      cases e1
    · by_cases hk : k = i
      · subst hk
        rw [fpSet_same] at e2
        cases e2
      · rw [fpSet_ne hj] at e1
        rw [fpSet_ne hk] at e2
        exact h2.ap j k a o1 o2 e1 e2
theorem Sat.any (h : Sat B F H σ ss) {i : Nat} : Sat B F H σ (ss.set i .any) := by
  obtain ⟨fp, h1, h2⟩ := h.fp
  refine ⟨h.g, by rw [List.length_set]; exact h.len, fp, fun j x w e1 e2 => ?_, h2⟩
  by_cases hj : j = i
  · subst hj
    rw [List.getElem?_set_self (set_len e1)] at e1
    cases e1
    trivial
  · rw [List.getElem?_set_ne (Ne.symm hj)] at e1
    exact h1 j x w e1 e2
theorem Sat.wipe1 (h : Sat B F H σ ss) {i : Nat} : Sat B F H (σ.set i none) (ss.set i .any) := by
  obtain ⟨fp, h1, h2⟩ := h.fp
  refine ⟨h.g, by rw [List.length_set, List.length_set]; exact h.len, fp, fun j x w e1 e2 => ?_, h2⟩
  by_cases hj : j = i
  · subst hj
    rw [List.getElem?_set_self (set_len e1)] at e1
    cases e1
    trivial
  · rw [List.getElem?_set_ne (Ne.symm hj)] at e1 e2
    exact h1 j x w e1 e2
/-- a new object is stored as an own one -/
theorem Sat.setO (h : Sat B F H σ ss) (g : Grow F H F' H') {i : Nat} {p : Addr} {k : Hp} {o : O} (n : ∀ a ob, k a = some ob → H a = none ∧ (F' a = none ∨ IsT ob) ∧ H' a = some ob) (r : o.r F' k p) :
    Sat B F' H' (σ.set i (some (.ref p))) (ss.set i (.own o)) := by
  obtain ⟨fp, h1, h2⟩ := h.fp
  have h2' := h2.grow g
  refine ⟨h.g.trans g, by rw [List.length_set, List.length_set]; exact h.len, fpSet fp i k, fun j x w e1 e2 => ?_, fun j a ob e => ?_, fun j l a o1 o2 e1 e2 => ?_⟩
  · by_cases hj : j = i
    · subst hj
      rw [List.getElem?_set_self (set_len e1)] at e1
      rw [List.getElem?_set_self (set_len e2)] at e2
      cases e1; cases e2
      rw [fpSet_same]
      exact ⟨p, rfl, r⟩
    · rw [List.getElem?_set_ne (Ne.symm hj)] at e1 e2
      rw [fpSet_ne hj]
      exact (h1 j x w e1 e2).mono g.f
  · by_cases hj : j = i
    · subst hj
      rw [fpSet_same] at e
      obtain ⟨n1, n2, n3⟩ := n a ob e
      exact ⟨n3, h.g.h.free n1, n2⟩
    · rw [fpSet_ne hj] at e
      exact h2'.at_ j a ob e
  · by_cases hj : j = i
    · subst hj
      by_cases hl : l = j
      · exact hl.symm
      · rw [fpSet_same] at e1
        rw [fpSet_ne hl] at e2
        have q1 := (n a o1 e1).1
        rw [(h2.at_ l a o2 e2).1] at q1
        cases q1
    · by_cases hl : l = i
      · subst hl
        rw [fpSet_same] at e2
        rw [fpSet_ne hj] at e1
        have q1 := (n a o2 e2).1
        rw [(h2.at_ j a o1 e1).1] at q1
        cases q1
      · rw [fpSet_ne hj] at e1
        rw [fpSet_ne hl] at e2
        exact h2.ap j l a o1 o2 e1 e2
/-- an own object is written: its cells k become k' -/
theorem Sat.write (h : Sat B F H σ ss) {i : Nat} {o : O} (e : ss[i]? = some (.own o)) : ∃ p k, σ[i]? = some (some (.ref p)) ∧ (∀ a ob, k a = some ob → H a = some ob ∧ B.H a = none ∧ (F a = none ∨ IsT ob)) ∧ o.r F k p ∧
    ∀ (o' : O) (k' H' : Hp), (∀ a ob, IsT ob → k a = some ob → H' a = some ob) → (∀ a ob, k' a = some ob → H' a = some ob) → (∀ a ob, k a = none → H a = some ob → H' a = some ob) → (∀ a ob, k' a = some ob → k a = none → H a = none) → o'.r F k' p → Sat B F H' σ (ss.set i (.own o')) := by
  obtain ⟨v, e0⟩ := h.there e
  obtain ⟨fp, h1, h2⟩ := h.fp
  obtain ⟨p, ep, hr⟩ := h1 i _ _ e e0
  subst ep
  refine ⟨p, fp i, e0, h2.at_ i, hr, fun o' k' H' c0 c1 c2 c3 r' => ?_⟩
  have sF : Same F H' := fun a ob ea => by
    cases q : fp i a with
    | none => exact c2 a ob q (h.s a ob ea)
    | some o1 =>
      obtain ⟨b1, _, b3⟩ := h2.at_ i a o1 q
      rcases b3 with b3 | b3
      · rw [b3] at ea
        cases ea
      · have e1 := h.s a ob ea
        rw [b1] at e1
        cases e1
        exact c0 a _ b3 q
  have sB : Same B.H H' := fun a ob ea => c2 a ob (by
    cases q : fp i a with
    | none => rfl
    | some o1 =>
      rw [(h2.at_ i a o1 q).2.1] at ea
      cases ea) (h.g.h a ob ea)
  refine ⟨⟨h.g.f, sB, sF, h.g.n⟩, by rw [List.length_set]; exact h.len, fpSet fp i k', fun j x w e1 e2 => ?_, fun j a ob e3 => ?_, fun j l a o1 o2 e1 e2 => ?_⟩
  · by_cases hj : j = i
    · subst hj
      rw [List.getElem?_set_self (set_len e1)] at e1
      rw [e0] at e2
      cases e1; cases e2
      rw [fpSet_same]
      exact ⟨p, rfl, r'⟩
    · rw [List.getElem?_set_ne (Ne.symm hj)] at e1
      rw [fpSet_ne hj]
      exact h1 j x w e1 e2
  · by_cases hj : j = i
    · subst hj
      rw [fpSet_same] at e3
      cases q : fp j a with
      | some o1 =>
        obtain ⟨_, b2, b3⟩ := h2.at_ j a o1 q
        refine ⟨c1 a ob e3, b2, b3.imp id fun z => ?_⟩
        have e1 := c0 a o1 z q
        rw [c1 a ob e3] at e1
        cases e1
        exact z
      | none =>
        have n := c3 a ob e3 q
        exact ⟨c1 a ob e3, h.g.h.free n, .inl (h.s.free n)⟩
    · rw [fpSet_ne hj] at e3
      obtain ⟨b1, b2, b3⟩ := h2.at_ j a ob e3
      refine ⟨c2 a ob ?_ b1, b2, b3⟩
      cases q : fp i a with
      | none => rfl
      | some o1 => exact absurd (h2.ap j i a ob o1 e3 q) hj
  · have away : ∀ (l : Nat) (a : Addr) o1 o2, l ≠ i → k' a = some o1 → fp l a = some o2 → False := fun l a o1 o2 hl q1 q2 => by
      cases q : fp i a with
      | some o3 => exact hl (h2.ap l i a o2 o3 q2 q)
      | none =>
        have n := c3 a o1 q1 q
        rw [(h2.at_ l a o2 q2).1] at n
        cases n
    by_cases hj : j = i
    · by_cases hl : l = i
      · rw [hj, hl]
      · rw [hj, fpSet_same] at e1
        rw [fpSet_ne hl] at e2
        exact (away l a o1 o2 hl e1 e2).elim
    · by_cases hl : l = i
      · rw [fpSet_ne hj] at e1
        rw [hl, fpSet_same] at e2
        exact (away j a o2 o1 hj e2 e1).elim
      · rw [fpSet_ne hj] at e1
        rw [fpSet_ne hl] at e2
        exact h2.ap j l a o1 o2 e1 e2
/-- two heaps that lie apart, as one -/
def hpU (h k : Hp) : Hp := fun a => match h a with
  | some o => some o
  | none => k a
theorem hpU_l {h k : Hp} {a : Addr} {o : HO} (e : h a = some o) : hpU h k a = some o := by unfold hpU; rw [e]
theorem hpU_r {h k : Hp} {a : Addr} (e : h a = none) : hpU h k a = k a := by unfold hpU; rw [e]
/-- an own object is handed out: from here on it is read alone -/
theorem Sat.pub (h : Sat B F H σ ss) {i : Nat} {o : O} (e : ss[i]? = some (.own o)) : ∃ F', Same F F' ∧ Sat B F' H σ (ss.set i (.val (sO o))) := by
  obtain ⟨v, e0⟩ := h.there e
  obtain ⟨fp, h1, h2⟩ := h.fp
  obtain ⟨p, ep, hr⟩ := h1 i _ _ e e0
  subst ep
  have sF : Same F (hpU (fp i) F) := fun a ob ea => by
    cases q : fp i a with
    | none =>
      rw [hpU_r q]
      exact ea
    | some o1 =>
      have e1 := h.s a ob ea
      rw [(h2.at_ i a o1 q).1] at e1
      cases e1
      exact hpU_l q
  have sK : Same (fp i) (hpU (fp i) F) := fun a ob ea => hpU_l ea
  refine ⟨hpU (fp i) F, sF, ⟨h.g.f.trans sF, h.g.h, fun a ob ea => ?_, fun a ob ea na => ?_⟩, by rw [List.length_set]; exact h.len, fpSet fp i hp0, fun j x w e1 e2 => ?_, fun j a ob e3 => ?_, fun j l a o1 o2 e1 e2 => ?_⟩
  · cases q : fp i a with
    | some o1 =>
      rw [hpU_l q] at ea
      cases ea
      exact (h2.at_ i a _ q).1
    | none =>
      rw [hpU_r q] at ea
      exact h.s a ob ea
  · cases q : fp i a with
    | some o1 => exact .inl (h2.at_ i a _ q).2.1
    | none =>
      rw [hpU_r q] at ea
      exact h.g.n a ob ea na
  · by_cases hj : j = i
    · subst hj
      rw [List.getElem?_set_self (set_len e1)] at e1
      rw [e0] at e2
      cases e1; cases e2
      exact ⟨.ref p, rfl, p, fp j, rfl, sK, o.mono sF hr⟩
    · rw [List.getElem?_set_ne (Ne.symm hj)] at e1
      rw [fpSet_ne hj]
      exact (h1 j x w e1 e2).mono sF
  · by_cases hj : j = i
    · subst hj
      rw [fpSet_same] at e3
      cases e3
    · rw [fpSet_ne hj] at e3
      obtain ⟨b1, b2, b3⟩ := h2.at_ j a ob e3
      refine ⟨b1, b2, b3.imp (fun z => ?_) id⟩
      rw [hpU_r]
      · exact z
      · cases q : fp i a with
        | none => rfl
        | some o1 => exact absurd (h2.ap j i a ob o1 e3 q) hj
  · by_cases hj : j = i
    · subst hj
      rw [fpSet_same] at e1
      cases e1
    · by_cases hl : l = i
      · subst hl
        rw [fpSet_same] at e2
        cases e2
      · rw [fpSet_ne hj] at e1
        rw [fpSet_ne hl] at e2
        exact h2.ap j l a o1 o2 e1 e2
/-- a slot says less -/
theorem Sat.weak (h : Sat B F H σ ss) {i : Nat} {s s' : S} (e : ss[i]? = some (.val s)) (w : ∀ v, s.r F v → s'.r F v) : Sat B F H σ (ss.set i (.val s')) := by
  obtain ⟨v, ev, r⟩ := h.val e
  have := h.set (i := i) (w v r)
  have q : σ.set i (some v) = σ := by
    obtain ⟨hl, hv⟩ := List.getElem?_eq_some_iff.mp ev
    rw [← hv]
    exact List.set_getElem_self hl
  rwa [q] at this
/-- .. of an own one -/
theorem Sat.weakO (h : Sat B F H σ ss) {i : Nat} {o o' : O} (e : ss[i]? = some (.own o)) (w : ∀ k p, o.r F k p → o'.r F k p) : Sat B F H σ (ss.set i (.own o')) := by
  obtain ⟨p, k, _, hk, hr, c⟩ := h.write e
  exact c o' k H (fun a ob _ q => (hk a ob q).1) (fun a ob q => (hk a ob q).1) (fun a ob _ q => q) (fun a ob q n => by rw [q] at n; cases n) (w k p hr)
end
end Sx
namespace Sx
open PySem PySem.Spec PyProof.Rows L2

/-- an argument without a star -/
def noStar : Expr → Bool
  | .Starred _ _ => false
  | _ => true
theorem star_ok {e : Expr} {es : List Expr} {env : Env} (h : noStar e = true) : starEach (e :: es) env = (false, eval e env) :: starEach es env := by
  cases e <;> first
    | (exact absurd h (by unfold noStar; exact Bool.false_ne_true))
    | (rw [starEach]; intro _ _ q; cases q)
theorem star_nil {env : Env} : starEach [] env = [] := by rw [starEach]
theorem star_one {e : Expr} {env : Env} (h : noStar e = true) : starEach [e] env = [(false, eval e env)] := by rw [star_ok h, star_nil]
/-! ### the machine's own readings -/
def wpE (X : Cx) (e : Expr) : TE := fun σ H Q => ∀ pins s, Inv X pins σ H s → wpAny (model X.prog X.w) X.A (eval e X.env) (EP X pins σ Q) X.xe s
def wpT (X : Cx) (e : Expr) : TT := fun σ H Q => ∀ pins s, Inv X pins σ H s → wpAny (model X.prog X.w) X.A (isTrue e X.env (eval e X.env)) (TP X pins σ Q) X.xe s
def wpA (X : Cx) (es : List Expr) : TA := fun σ H Q => ∀ pos pins s, Inv X pins σ H s → wpAny (model X.prog X.w) X.A (spliced (backTo pos (starEach es X.env))) (AP X pins σ Q) X.xe s
def wpS (X : Cx) (st : Stmt) : TS := fun D σ H => ∀ pins s, Inv X pins σ H s → wpAny (model X.prog X.w) X.A (exec st X.env) (SP X pins D) X.xe s
def wpSs (X : Cx) (sts : List Stmt) : TS := fun D σ H => ∀ pins s, Inv X pins σ H s → wpAny (model X.prog X.w) X.A (execs sts X.env) (SP X pins D) X.xe s
def wpI (X : Cx) (tg iter : Expr) : TI := fun σ H Rr => ∀ pins s, Inv X pins σ H s →
  wpAny (model X.prog X.w) X.A (eval iter X.env) (fun v s1 => wpAny (model X.prog X.w) X.A (pyIter v) (PIE X pins σ tg Rr) X.xe s1) X.xe s
def wpTs (X : Cx) (ifs : List Expr) : TT := fun σ H Q => ∀ pins s, Inv X pins σ H s →
    wpAny (model X.prog X.w) X.A (forIn ifs true fun c r => if r = true then do let ok ← isTrue c X.env (eval c X.env); pure (ForInStep.yield ok) else pure (ForInStep.yield r)) (TP X pins σ Q) X.xe s
section
variable {X : Cx} {e tg iter : Expr} {es ifs : List Expr} {st : Stmt} {sts : List Stmt}
theorem PEw : PE X e (wpE X e) := ⟨fun pins s _ _ _ I h => h pins s I⟩
theorem PTw : PT X e (wpT X e) := ⟨fun pins s _ _ _ I h => h pins s I⟩
theorem PAw : PA X es (wpA X es) := ⟨fun pos pins s _ _ _ I h => h pos pins s I⟩
theorem PSw : PS X st (wpS X st) := ⟨fun pins s _ _ _ I h => h pins s I⟩
theorem PSsw : PSs X sts (wpSs X sts) := ⟨fun pins s _ _ _ I h => h pins s I⟩
theorem PIw : PI X tg iter (wpI X tg iter) := ⟨fun pins s _ _ _ I h => h pins s I⟩
theorem PTsw : PTs X ifs (wpTs X ifs) := ⟨fun pins s _ _ _ I h => h pins s I⟩
theorem toE {t : TE} (h : PE X e t) {σ : L2.St} {H : Hp} {Q : VK} (q : t σ H Q) : wpE X e σ H Q := fun pins s I => h.run pins s σ H Q I q
theorem toT {t : TT} (h : PT X e t) {σ : L2.St} {H : Hp} {Q : Bool → Hp → Prop} (q : t σ H Q) : wpT X e σ H Q := fun pins s I => h.run pins s σ H Q I q
theorem toA {t : TA} (h : PA X es t) {σ : L2.St} {H : Hp} {Q : List V → Hp → Prop} (q : t σ H Q) : wpA X es σ H Q := fun pos pins s I => h.run pos pins s σ H Q I q
theorem toS {t : TS} (h : PS X st t) {σ : L2.St} {H : Hp} {D : Ends} (q : t D σ H) : wpS X st D σ H := fun pins s I => h.run pins s σ H D I q
theorem toSs {t : TS} (h : PSs X sts t) {σ : L2.St} {H : Hp} {D : Ends} (q : t D σ H) : wpSs X sts D σ H := fun pins s I => h.run pins s σ H D I q
theorem toI {t : TI} (h : PI X tg iter t) {σ : L2.St} {H : Hp} {Q : It → Hp → Prop} (q : t σ H Q) : wpI X tg iter σ H Q := fun pins s I => h.run pins s σ H Q I q
theorem toTs {t : TT} (h : PTs X ifs t) {σ : L2.St} {H : Hp} {Q : Bool → Hp → Prop} (q : t σ H Q) : wpTs X ifs σ H Q := fun pins s I => h.run pins s σ H Q I q
theorem wpE_mono {σ : L2.St} {H : Hp} {Q Q' : VK} (h : wpE X e σ H Q) (k : ∀ v H', Q v H' → Q' v H') : wpE X e σ H Q' := fun pins s I =>
  thn (h pins s I) fun u s' ⟨v, H', I', r, q⟩ => ⟨v, H', I', r, k v H' q⟩
theorem SP_mono {pins : List (Addr × Obj)} {D D' : Ends} {f : Flow} {s' : Shared} (h : SP X pins D f s') (n : ∀ σ H, D.nx σ H → D'.nx σ H) (r : ∀ v H, D.rt v H → D'.rt v H) (b : ∀ σ H, D.bk σ H → D'.bk σ H) (c : ∀ σ H, D.ct σ H → D'.ct σ H) : SP X pins D' f s' := by
  cases f with
  | next => obtain ⟨σ, H, I, q⟩ := h; exact ⟨σ, H, I, n _ _ q⟩
  | brk => obtain ⟨σ, H, I, q⟩ := h; exact ⟨σ, H, I, b _ _ q⟩
  | cont => obtain ⟨σ, H, I, q⟩ := h; exact ⟨σ, H, I, c _ _ q⟩
  | ret u => obtain ⟨v, σ, H, I, k, q⟩ := h; exact ⟨v, σ, H, I, k, r _ _ q⟩
theorem wpSs_mono {σ : L2.St} {H : Hp} {D D' : Ends} (h : wpSs X sts D σ H) (n : ∀ σ H, D.nx σ H → D'.nx σ H) (r : ∀ v H, D.rt v H → D'.rt v H) (b : ∀ σ H, D.bk σ H → D'.bk σ H) (c : ∀ σ H, D.ct σ H → D'.ct σ H) : wpSs X sts D' σ H := fun pins s I =>
  thn (h pins s I) fun _ _ q => SP_mono q n r b c
end

/-! ### the judgements -/
structure EvE (X : Cx) (ss : List Sl) (e : Expr) (ρ : R) : Prop where
  go : ∀ (B : Bs) (F H : Hp) (σ : L2.St), Sat B F H σ ss → ∀ Q : VK, (∀ v F' H', Grow F H F' H' → ρ.r F' H' v → Q v H') → wpE X e σ H Q
instance {X : Cx} {ss : List Sl} {e : Expr} {ρ : R} : CoeFun (EvE X ss e ρ) (fun _ => ∀ (B : Bs) (F H : Hp) (σ : L2.St), Sat B F H σ ss → ∀ Q : VK, (∀ v F' H', Grow F H F' H' → ρ.r F' H' v → Q v H') → wpE X e σ H Q) := ⟨EvE.go⟩
/-- a new object -/
structure EvN (X : Cx) (ss : List Sl) (e : Expr) (o : O) : Prop where
  go : ∀ (B : Bs) (F H : Hp) (σ : L2.St), Sat B F H σ ss → ∀ Q : VK,
    (∀ p F' H' k, Grow F H F' H' → (∀ a ob, k a = some ob → H a = none ∧ (F' a = none ∨ IsT ob) ∧ H' a = some ob) → o.r F' k p → Q (.ref p) H') → wpE X e σ H Q
instance {X : Cx} {ss : List Sl} {e : Expr} {o : O} : CoeFun (EvN X ss e o) (fun _ => ∀ (B : Bs) (F H : Hp) (σ : L2.St), Sat B F H σ ss → ∀ Q : VK,
    (∀ p F' H' k, Grow F H F' H' → (∀ a ob, k a = some ob → H a = none ∧ (F' a = none ∨ IsT ob) ∧ H' a = some ob) → o.r F' k p → Q (.ref p) H') → wpE X e σ H Q) := ⟨EvN.go⟩
theorem fresh1 {F H F1 H1 : Hp} {o : O} {p : Addr} {ob : HO} {Q : VK} (q : ∀ p F' H' k, Grow F H F' H' → (∀ a ob, k a = some ob → H a = none ∧ (F' a = none ∨ IsT ob) ∧ H' a = some ob) → o.r F' k p → Q (.ref p) H')
    (g : Grow F H F1 H1) (np : H1 p = none) (r : o.r F1 (hp1 p ob) p) : Q (.ref p) (upd H1 p ob) := q p F1 _ (hp1 p ob) (g.trans (.new g.s np)) (fun a ob' e => by
  obtain ⟨rfl, rfl⟩ := hp1_some e
  exact ⟨g.h.free np, .inl (g.s.free np), upd_same⟩) r
structure EvT (X : Cx) (ss : List Sl) (e : Expr) (b : Bool) : Prop where
  go : ∀ (B : Bs) (F H : Hp) (σ : L2.St), Sat B F H σ ss → ∀ Q : Bool → Hp → Prop, (∀ F' H', Grow F H F' H' → Q b H') → wpT X e σ H Q
instance {X : Cx} {ss : List Sl} {e : Expr} {b : Bool} : CoeFun (EvT X ss e b) (fun _ => ∀ (B : Bs) (F H : Hp) (σ : L2.St), Sat B F H σ ss → ∀ Q : Bool → Hp → Prop, (∀ F' H', Grow F H F' H' → Q b H') → wpT X e σ H Q) := ⟨EvT.go⟩
structure EvA (X : Cx) (ss : List Sl) (es : List Expr) (as : List R) : Prop where
  go : ∀ (B : Bs) (F H : Hp) (σ : L2.St), Sat B F H σ ss → ∀ Q : List V → Hp → Prop,
    (∀ vs F' H', Grow F H F' H' → Paired (fun (a : R) v => a.r F' H' v) as vs → Q vs H') → wpA X es σ H Q
instance {X : Cx} {ss : List Sl} {es : List Expr} {as : List R} : CoeFun (EvA X ss es as) (fun _ => ∀ (B : Bs) (F H : Hp) (σ : L2.St), Sat B F H σ ss → ∀ Q : List V → Hp → Prop,
    (∀ vs F' H', Grow F H F' H' → Paired (fun (a : R) v => a.r F' H' v) as vs → Q vs H') → wpA X es σ H Q) := ⟨EvA.go⟩
/-- an exception: its class, the attributes of its own -/
structure Xo where
  cls : Value
  fs : Option (List (Str × S)) := none
def XoR (x : Xo) (F : Hp) (cls : Value) (d : Option Addr) : Prop := cls = x.cls ∧ (match x.fs with
  | none => d = none
  | some fs => ∃ a vs, d = some a ∧ F a = some (.xd vs) ∧ Paired (fun (a : Str × S) (b : Str × V) => a.1 = b.1 ∧ a.2.r F b.2) fs vs)
/-- what is wanted behind a statement -/
structure Ds where
  nx : List Sl → Prop
  rt : S → Prop
  bk : List Sl → Prop := fun _ => False
  ct : List Sl → Prop := fun _ => False
  ex : Xo → List Sl → Prop := fun _ _ => False
  rn : O → Prop := fun _ => False
  rb : O → S → Prop := fun _ _ => False
  rbn : O → O → Prop := fun _ _ => False
/-- what may be raised, B: the ground -/
def wX (B : Bs) (ex : Xo → List Sl → Prop) : WX := fun cls d σ H => ∃ x F ss, ex x ss ∧ Sat B F H σ ss ∧ XoR x F cls d
def Tk (X : Cx) (B : Bs) (ex : Xo → List Sl → Prop) : Prop := Takes X (wX B ex)
theorem tk0 {X : Cx} {B : Bs} : Tk X B (fun _ _ => False) := Takes.imp (takes0 (X := X)) fun _ _ _ _ ⟨_, _, _, h, _⟩ => h
theorem Tk.imp {X : Cx} {B : Bs} {ex ex' : Xo → List Sl → Prop} (t : Tk X B ex') (h : ∀ x ss, ex x ss → ex' x ss) : Tk X B ex := Takes.imp t fun _ _ _ _ ⟨x, F, ss, a, b⟩ => ⟨x, F, ss, h x ss a, b⟩
/-- the cells k are our own -/
def OwnC (B : Bs) (F H k : Hp) : Prop := ∀ a ob, k a = some ob → H a = some ob ∧ B.H a = none ∧ (F a = none ∨ IsT ob)
/-- what is handed back: known, or new and nobody else's; perhaps an object o that was lent to us goes back with it -/
def RtP (B : Bs) (D : Ds) (v : V) (H : Hp) : Prop := (∃ (F : Hp) (s : S), Grow B.F B.H F H ∧ s.r F v ∧ D.rt s) ∨
  (∃ (F k : Hp) (p : Addr) (o : O), v = .ref p ∧ Grow B.F B.H F H ∧ OwnC B F H k ∧ o.r F k p ∧ D.rn o) ∨
  (∃ (F k : Hp) (p : Addr) (o : O) (s : S), Grow B.F B.H F H ∧ s.r F v ∧ OwnC B F H k ∧ o.r F k p ∧ D.rb o s) ∨
  ∃ (F k : Hp) (p : Addr) (o : O) (k2 : Hp) (p2 : Addr) (o2 : O), v = .ref p2 ∧ Grow B.F B.H F H ∧ OwnC B F H k ∧ o.r F k p ∧ OwnC B F H k2 ∧ o2.r F k2 p2 ∧ (∀ a ob, k a = some ob → k2 a = none) ∧ D.rbn o o2
section
variable {B : Bs} {D : Ds} {v : V} {H : Hp}
theorem RtP.known (F : Hp) (s : S) (g : Grow B.F B.H F H) (r : s.r F v) (d : D.rt s) : RtP B D v H := .inl ⟨F, s, g, r, d⟩
theorem RtP.fresh (F k : Hp) (p : Addr) (o : O) (e : v = .ref p) (g : Grow B.F B.H F H) (c : OwnC B F H k) (r : o.r F k p) (d : D.rn o) : RtP B D v H := .inr (.inl ⟨F, k, p, o, e, g, c, r, d⟩)
theorem RtP.lent (F k : Hp) (p : Addr) (o : O) (s : S) (g : Grow B.F B.H F H) (r : s.r F v) (c : OwnC B F H k) (q : o.r F k p) (d : D.rb o s) : RtP B D v H := .inr (.inr (.inl ⟨F, k, p, o, s, g, r, c, q, d⟩))
theorem RtP.lentN (F k : Hp) (p : Addr) (o : O) (k2 : Hp) (p2 : Addr) (o2 : O) (e : v = .ref p2) (g : Grow B.F B.H F H) (c : OwnC B F H k) (q : o.r F k p) (c2 : OwnC B F H k2) (q2 : o2.r F k2 p2) (ap : ∀ a ob, k a = some ob → k2 a = none) (d : D.rbn o o2) : RtP B D v H := .inr (.inr (.inr ⟨F, k, p, o, k2, p2, o2, e, g, c, q, c2, q2, ap, d⟩))
theorem RtP.two (h : RtP B D v H) (hb : ∀ o s, ¬ D.rb o s) (hbn : ∀ o o2, ¬ D.rbn o o2) : (∃ (F : Hp) (s : S), Grow B.F B.H F H ∧ s.r F v ∧ D.rt s) ∨ ∃ (F k : Hp) (p : Addr) (o : O), v = .ref p ∧ Grow B.F B.H F H ∧ OwnC B F H k ∧ o.r F k p ∧ D.rn o := by
  rcases h with h | h | ⟨_, _, _, o, s, _, _, _, _, z⟩ | ⟨_, _, _, o, _, _, o2, _, _, _, _, _, _, _, z⟩
  · exact .inl h
  · exact .inr h
  · exact (hb o s z).elim
  · exact (hbn o o2 z).elim
end
def dn (B : Bs) (D : Ds) : Ends where
  nx := fun σ H => ∃ F ss, Sat B F H σ ss ∧ D.nx ss
  rt := fun v H => RtP B D v H
  bk := fun σ H => ∃ F ss, Sat B F H σ ss ∧ D.bk ss
  ct := fun σ H => ∃ F ss, Sat B F H σ ss ∧ D.ct ss
structure EvS (X : Cx) (ss : List Sl) (st : Stmt) (D : Ds) : Prop where
  go : ∀ (B : Bs) (F H : Hp) (σ : L2.St), Sat B F H σ ss → Tk X B D.ex → wpS X st (dn B D) σ H
instance {X : Cx} {ss : List Sl} {st : Stmt} {D : Ds} : CoeFun (EvS X ss st D) (fun _ => ∀ (B : Bs) (F H : Hp) (σ : L2.St), Sat B F H σ ss → Tk X B D.ex → wpS X st (dn B D) σ H) := ⟨EvS.go⟩
structure EvSs (X : Cx) (ss : List Sl) (sts : List Stmt) (D : Ds) : Prop where
  go : ∀ (B : Bs) (F H : Hp) (σ : L2.St), Sat B F H σ ss → Tk X B D.ex → wpSs X sts (dn B D) σ H
instance {X : Cx} {ss : List Sl} {sts : List Stmt} {D : Ds} : CoeFun (EvSs X ss sts D) (fun _ => ∀ (B : Bs) (F H : Hp) (σ : L2.St), Sat B F H σ ss → Tk X B D.ex → wpSs X sts (dn B D) σ H) := ⟨EvSs.go⟩
section
variable {X : Cx} {ss : List Sl} {e a b c : Expr} {es : List Expr} {ρ τ κ : R} {s t : S} {o : O} {pos : Pos}
theorem EvN.toE (h : EvN X ss e o) : EvE X ss e (sv (sO o)) := .mk fun B F H σ hs Q q => h B F H σ hs Q fun p F' H' k g n r => by
  have sF : Same F' (hpU k F') := fun a ob ea => by
    cases z : k a with
    | none =>
      rw [hpU_r z]
      exact ea
    | some o1 =>
      have e1 := g.s a ob ea
      rw [(n a o1 z).2.2] at e1
      cases e1
      exact hpU_l z
  refine q _ (hpU k F') H' ⟨g.f.trans sF, g.h, fun x y ex => ?_, fun x y ex nx => ?_⟩ ⟨p, k, rfl, fun a ob ea => hpU_l ea, o.mono sF r⟩
  · cases z : k x with
    | some o1 =>
      rw [hpU_l z] at ex
      cases ex
      exact (n x _ z).2.2
    | none =>
      rw [hpU_r z] at ex
      exact g.s x y ex
  · cases z : k x with
    | some o1 => exact .inl (n x _ z).1
    | none =>
      rw [hpU_r z] at ex
      exact g.n x y ex nx
theorem EvE.imp (h : EvE X ss e ρ) (w : ∀ F H v, Same F H → ρ.r F H v → τ.r F H v) : EvE X ss e τ := .mk fun B F H σ hs Q q => h B F H σ hs Q fun v F' H' g r => q v F' H' g (w F' H' v g.s r)
theorem EvE.impS (h : EvE X ss e (sv s)) (w : ∀ F v, s.r F v → t.r F v) : EvE X ss e (sv t) := h.imp fun F _ v _ r => w F v r
theorem EvE.to (h : EvE X ss e ρ) (w : ρ = τ) : EvE X ss e τ := w ▸ h
theorem EvN.to {o' : O} (h : EvN X ss e o) (w : o = o') : EvN X ss e o' := w ▸ h
theorem EvN.imp {o' : O} (h : EvN X ss e o) (w : ∀ F k p, o.r F k p → o'.r F k p) : EvN X ss e o' := .mk fun B F H σ hs Q q => h B F H σ hs Q fun p F' H' k g n r => q p F' H' k g n (w _ _ _ r)
theorem EvT.to {b b' : Bool} (h : EvT X ss e b) (w : b = b') : EvT X ss e b' := w ▸ h
/-! ### names, constants -/
theorem ev_var (i : Nat) {x : Str} (hs : ss[i]? = some (.val s)) (hN : X.N[i]? = some x := by rfl) (hv : Vis X.env.scope x := by first | exact Or.inl rfl | exact Or.inr (Or.inl rfl) | exact Or.inr (Or.inr rfl))
    (hd : (x == ("__debug__" : Str)) = false := by decide) (hcd : (x == ("__classdict__" : Str)) = false := by decide) : EvE X ss (.Name x pos) (sv s) := .mk fun B F H σ h Q q => by
  obtain ⟨v, e1, r⟩ := h.val hs
  exact toE (pe_var (i := i) hN hv hd hcd) ⟨v, e1, q v F H (.refl h.s) r⟩
/-- an own object, read here and now -/
theorem ev_own (i : Nat) {x : Str} (hs : ss[i]? = some (.own o)) (hN : X.N[i]? = some x := by rfl) (hv : Vis X.env.scope x := by first | exact Or.inl rfl | exact Or.inr (Or.inl rfl) | exact Or.inr (Or.inr rfl))
    (hd : (x == ("__debug__" : Str)) = false := by decide) (hcd : (x == ("__classdict__" : Str)) = false := by decide) : EvE X ss (.Name x pos) (bO o) := .mk fun B F H σ h Q q => by
  obtain ⟨p, k, e1, hk, r⟩ := h.own hs
  exact toE (pe_var (i := i) hN hv hd hcd) ⟨_, e1, q _ F H (.refl h.s) ⟨p, k, rfl, fun a ob ea => (hk a ob ea).1, r⟩⟩
theorem ev_int {i : Int} {j} : EvE X ss (.Constant (.int i) j pos) (sv (sInt i)) := .mk fun B F H σ h Q q => toE pe_int (q _ F H (.refl h.s) rfl)
theorem ev_bl {i : Bool} {j} : EvE X ss (.Constant (.bool i) j pos) (sv (sBool i)) := .mk fun B F H σ h Q q => toE pe_bl (q _ F H (.refl h.s) rfl)
theorem ev_non {j} : EvE X ss (.Constant .none j pos) (sv sNone) := .mk fun B F H σ h Q q => toE pe_non (q _ F H (.refl h.s) rfl)
theorem ev_str {x} {j} (ok : PyData.strOk x = true := by decide +kernel) : EvE X ss (.Constant (.str x) j pos) (sv (sStr x)) := .mk fun B F H σ h Q q => toE pe_str (q _ F H (.refl h.s) ⟨rfl, ok⟩)
/-- a name of the module -/
theorem ev_glob {x : Str} {v : V} {u : Value} (hg : Gl X x) (hm : X.mg x = some u) (r : RelV v u) (hr : s.r (fun _ => none) v) (hd : (x == ("__debug__" : Str)) = false := by decide) : EvE X ss (.Name x pos) (sv s) := .mk fun B F H σ h Q q =>
  toE (pe_glob hg hm r hd) (q v F H (.refl h.s) (s.mono (fun _ _ z => by cases z) hr))
/-! ### two at a time -/
theorem ev_bin {op : Operator} {r : R2} (ho : OpR X (binaryOp op) r) (ha : EvE X ss a ρ) (hb : EvE X ss b τ)
    (hr : ∀ F H x y (Q : VK), Same F H → ρ.r F H x → τ.r F H y → (∀ v F' H', Grow F H F' H' → κ.r F' H' v → Q v H') → r x y H Q) : EvE X ss (.BinOp a op b pos) κ := .mk fun B F H σ h Q q =>
  toE (pe_op ho PEw PEw) (ha B F H σ h _ fun x F1 H1 g1 rx => hb B F1 H1 σ (h.grow g1) _ fun y F2 H2 g2 ry => hr F2 H2 x y Q g2.s (ρ.mono g2.f g2.h rx) ry fun v F' H' g3 k => q v F' H' ((g1.trans g2).trans g3) k)
theorem ev_binN {op : Operator} {r : R2} (ho : OpR X (binaryOp op) r) (ha : EvE X ss a ρ) (hb : EvE X ss b τ)
    (hr : ∀ F H x y (Q : VK), Same F H → ρ.r F H x → τ.r F H y → (∀ p ob, H p = none → o.r F (hp1 p ob) p → Q (.ref p) (upd H p ob)) → r x y H Q) : EvN X ss (.BinOp a op b pos) o := .mk fun B F H σ h Q q =>
  toE (pe_op ho PEw PEw) (ha B F H σ h _ fun x F1 H1 g1 rx => hb B F1 H1 σ (h.grow g1) _ fun y F2 H2 g2 ry => hr F2 H2 x y Q g2.s (ρ.mono g2.f g2.h rx) ry fun p ob n k => fresh1 q (g1.trans g2) n k)
theorem ev_cmp {op : CmpOp} {r : R2} (ho : OpR X (compareOp op) r) (ha : EvE X ss a ρ) (hb : EvE X ss b τ)
    (hr : ∀ F H x y (Q : VK), Same F H → ρ.r F H x → τ.r F H y → (∀ v F' H', Grow F H F' H' → κ.r F' H' v → Q v H') → r x y H Q) (hm : behindInMarks op b = false) : EvE X ss (.Compare a [op] [b] pos) κ := .mk fun B F H σ h Q q =>
  toE (pe_cmpR ho PEw PEw hm) (ha B F H σ h _ fun x F1 H1 g1 rx => hb B F1 H1 σ (h.grow g1) _ fun y F2 H2 g2 ry => hr F2 H2 x y Q g2.s (ρ.mono g2.f g2.h rx) ry fun v F' H' g3 k => q v F' H' ((g1.trans g2).trans g3) k)
theorem ev_cmpT {op : CmpOp} {r : R2} {k : Bool} (ho : OpR X (compareOp op) r) (ha : EvE X ss a ρ) (hb : EvE X ss b τ)
    (hr : ∀ F H x y (Q : VK), Same F H → ρ.r F H x → τ.r F H y → (Q (.bl k) H) → r x y H Q) (hm : behindInMarks op b = false) : EvT X ss (.Compare a [op] [b] pos) k := .mk fun B F H σ h Q q =>
  toT (pt_cmpR ho PEw PEw hm) (ha B F H σ h _ fun x F1 H1 g1 rx => hb B F1 H1 σ (h.grow g1) _ fun y F2 H2 g2 ry => hr F2 H2 x y _ g2.s (ρ.mono g2.f g2.h rx) ry ⟨k, rfl, q F2 H2 (g1.trans g2)⟩)
/-- ints -/
theorem ev_I {op : Operator} {C : Int → Int → Prop} {g : Int → Int → Int} {i j : Int} (ho : OpR X (binaryOp op) (rI C fun i j => .int (g i j))) (ha : EvE X ss a (sv (sInt i))) (hb : EvE X ss b (sv (sInt j))) (hc : C i j) : EvE X ss (.BinOp a op b pos) (sv (sInt (g i j))) :=
  ev_bin ho ha hb fun F H x y Q sF ex ey q => ⟨i, j, ex, ey, hc, q _ F H (.refl sF) rfl⟩
theorem ev_I0 {op : Operator} {g : Int → Int → Int} {i j : Int} (ho : OpR X (binaryOp op) (rI0 fun i j => .int (g i j))) (ha : EvE X ss a (sv (sInt i))) (hb : EvE X ss b (sv (sInt j))) : EvE X ss (.BinOp a op b pos) (sv (sInt (g i j))) :=
  ev_bin ho ha hb fun F H x y Q sF ex ey q => ⟨i, j, ex, ey, q _ F H (.refl sF) rfl⟩
variable {i j : Int}
theorem ev_add (ha : EvE X ss a (sv (sInt i))) (hb : EvE X ss b (sv (sInt j))) : EvE X ss (.BinOp a .Add b pos) (sv (sInt (i + j))) := ev_I0 op_add ha hb
theorem ev_sub (ha : EvE X ss a (sv (sInt i))) (hb : EvE X ss b (sv (sInt j))) : EvE X ss (.BinOp a .Sub b pos) (sv (sInt (i - j))) := ev_I0 op_sub ha hb
theorem ev_mul (ha : EvE X ss a (sv (sInt i))) (hb : EvE X ss b (sv (sInt j))) (hc : CMul i j) : EvE X ss (.BinOp a .Mult b pos) (sv (sInt (i * j))) := ev_I op_mul ha hb hc
theorem ev_div (ha : EvE X ss a (sv (sInt i))) (hb : EvE X ss b (sv (sInt j))) (hc : CDiv i j) : EvE X ss (.BinOp a .FloorDiv b pos) (sv (sInt (i / j))) := ev_I op_fdiv ha hb hc
theorem ev_mod (ha : EvE X ss a (sv (sInt i))) (hb : EvE X ss b (sv (sInt j))) (hc : 0 < j) : EvE X ss (.BinOp a .Mod b pos) (sv (sInt (i % j))) := ev_I (C := fun _ j => 0 < j) op_mod ha hb hc
theorem ev_pow (ha : EvE X ss a (sv (sInt i))) (hb : EvE X ss b (sv (sInt j))) (hc : CPow i j) : EvE X ss (.BinOp a .Pow b pos) (sv (sInt (i ^ j.toNat))) := ev_I op_pow ha hb hc
theorem ev_neg (ha : EvE X ss a (sv (sInt i))) : EvE X ss (.UnaryOp .USub a pos) (sv (sInt (-i))) := .mk fun B F H σ h Q q =>
  toE (pe_un un_neg PEw) (ha B F H σ h _ fun x F1 H1 g1 rx => ⟨i, rx, q _ F1 H1 g1 rfl⟩)
theorem ev_B0 {op : CmpOp} {g : Int → Int → Bool} (ho : OpR X (compareOp op) (rI0 fun i j => .bl (g i j))) (ha : EvE X ss a (sv (sInt i))) (hb : EvE X ss b (sv (sInt j))) (hm : behindInMarks op b = false) : EvE X ss (.Compare a [op] [b] pos) (sv (sBool (g i j))) :=
  ev_cmp ho ha hb (fun F H x y Q sF ex ey q => ⟨i, j, ex, ey, q _ F H (.refl sF) rfl⟩) hm
theorem ev_lt (ha : EvE X ss a (sv (sInt i))) (hb : EvE X ss b (sv (sInt j))) : EvE X ss (.Compare a [.Lt] [b] pos) (sv (sBool (decide (i < j)))) := ev_B0 op_lt ha hb (nomark _)
theorem ev_le (ha : EvE X ss a (sv (sInt i))) (hb : EvE X ss b (sv (sInt j))) : EvE X ss (.Compare a [.LtE] [b] pos) (sv (sBool (decide (i ≤ j)))) := ev_B0 op_le ha hb (nomark _)
theorem ev_gt (ha : EvE X ss a (sv (sInt i))) (hb : EvE X ss b (sv (sInt j))) : EvE X ss (.Compare a [.Gt] [b] pos) (sv (sBool (decide (j < i)))) := ev_B0 op_gt ha hb (nomark _)
theorem ev_ge (ha : EvE X ss a (sv (sInt i))) (hb : EvE X ss b (sv (sInt j))) : EvE X ss (.Compare a [.GtE] [b] pos) (sv (sBool (decide (j ≤ i)))) := ev_B0 op_ge ha hb (nomark _)
/-- a comparison of ints as a test -/
theorem et_B0 {op : CmpOp} {g : Int → Int → Bool} (ho : OpR X (compareOp op) (rI0 fun i j => .bl (g i j))) (ha : EvE X ss a (sv (sInt i))) (hb : EvE X ss b (sv (sInt j))) (hm : behindInMarks op b = false) : EvT X ss (.Compare a [op] [b] pos) (g i j) :=
  ev_cmpT ho ha hb (fun F H x y Q sF ex ey q => ⟨i, j, ex, ey, q⟩) hm
theorem et_lt (ha : EvE X ss a (sv (sInt i))) (hb : EvE X ss b (sv (sInt j))) : EvT X ss (.Compare a [.Lt] [b] pos) (decide (i < j)) := et_B0 op_lt ha hb (nomark _)
theorem et_le (ha : EvE X ss a (sv (sInt i))) (hb : EvE X ss b (sv (sInt j))) : EvT X ss (.Compare a [.LtE] [b] pos) (decide (i ≤ j)) := et_B0 op_le ha hb (nomark _)
theorem et_gt (ha : EvE X ss a (sv (sInt i))) (hb : EvE X ss b (sv (sInt j))) : EvT X ss (.Compare a [.Gt] [b] pos) (decide (j < i)) := et_B0 op_gt ha hb (nomark _)
theorem et_ge (ha : EvE X ss a (sv (sInt i))) (hb : EvE X ss b (sv (sInt j))) : EvT X ss (.Compare a [.GtE] [b] pos) (decide (j ≤ i)) := et_B0 op_ge ha hb (nomark _)
end

/-! ### equality of data -/
/-- values of T are data -/
class TyD {α : Type} (T : α → S) where
  d : α → PyData
  dep : Nat
  ok : ∀ {K : PySem.W.Frag} {F : Hp} {v : V} {x : α}, (T x).r F v → Dp K F v (d x) ∧ (d x).canLay0 = true ∧ (d x).depth ≤ dep
/-- == tells them apart -/
class TyQ {α : Type} [DecidableEq α] (T : α → S) extends TyD T where
  q : ∀ x y : α, PyData.eqv (TyD.d T x) (TyD.d T y) = decide (x = y)
mutual
theorem dp_same {K : PySem.W.Frag} {H H' : Hp} (e : Same H H') : ∀ {v : V} {d : PyData}, Dp K H v d → Dp K H' v d
  | _, _, .non => .non
  | _, _, .bl b => .bl b
  | _, _, .int i => .int i
  | _, _, .str x => .str x
  | _, _, .lst h t => .lst (SqL.same e h) (dps_same e t)
  | _, _, .tup h t => .tup (SqT.same e h) (dps_same e t)
theorem dps_same {K : PySem.W.Frag} {H H' : Hp} (e : Same H H') : ∀ {vs : List V} {ds : List PyData}, DpAll K H vs ds → DpAll K H' vs ds
  | _, _, .nil => .nil
  | _, _, .cons h t => .cons (dp_same e h) (dps_same e t)
end
instance : TyQ sInt where
  d := .int
  dep := 0
  ok := fun {K F v x} h => by
    have e : v = .int x := h
    subst e
    exact ⟨.int x, by simp [PyData.canLay0], by simp [PyData.depth]⟩
  q := fun x y => by simp [PyData.eqv, Bool.beq_eq_decide_eq]
instance : TyQ sBool where
  d := .bool
  dep := 0
  ok := fun {K F v x} h => by
    have e : v = .bl x := h
    subst e
    exact ⟨.bl x, by simp [PyData.canLay0], by simp [PyData.depth]⟩
  q := fun x y => by simp [PyData.eqv, Bool.beq_eq_decide_eq]
instance : TyQ sStr where
  d := .str
  dep := 0
  ok := fun {K F v x} h => by
    obtain ⟨e, k⟩ := h
    subst e
    exact ⟨.str x, by simp [PyData.canLay0, k], by simp [PyData.depth]⟩
  q := fun x y => by simp [PyData.eqv, Bool.beq_eq_decide_eq]
instance : TyQ (fun _ : Unit => sNone) where
  d := fun _ => .none
  dep := 0
  ok := fun {K F v x} h => by
    have e : v = .non := h
    subst e
    exact ⟨.non, by simp [PyData.canLay0], by simp [PyData.depth]⟩
  q := fun x y => by simp [PyData.eqv]
section
variable {α : Type} {T : α → S}
theorem its_dp [TyD T] {K : PySem.W.Frag} {F : Hp} : ∀ {xs : List α} {vs : List V}, Its T F xs vs → DpAll K F vs (xs.map (TyD.d T)) ∧ PyData.canLayAll0 (xs.map (TyD.d T)) = true ∧ PyData.depthAll (xs.map (TyD.d T)) ≤ TyD.dep T
  | [], vs, h => by
    have e : vs = [] := List.eq_nil_of_length_eq_zero h.len
    subst e
    exact ⟨.nil, by simp [PyData.canLayAll0], by simp [PyData.depthAll]⟩
  | x :: xs, vs, h => by
    have h' : Paired (fun x v => (T x).r F v) (x :: xs) vs := h
    cases h' with
    | cons r t =>
      obtain ⟨a1, a2, a3⟩ := TyD.ok (T := T) (K := K) r
      obtain ⟨b1, b2, b3⟩ := its_dp (show Its T F _ _ from t)
      refine ⟨.cons a1 b1, ?_, ?_⟩
      · rw [List.map_cons, PyData.canLayAll0, a2, b2]
        rfl
      · rw [List.map_cons, PyData.depthAll]
        exact Nat.max_le.mpr ⟨a3, b3⟩
theorem eqv_alls [DecidableEq α] [TyQ T] : ∀ xs ys : List α, PyData.eqvAll (xs.map (TyD.d T)) (ys.map (TyD.d T)) = decide (xs = ys)
  | [], [] => by simp [PyData.eqvAll]
  | [], y :: ys => by simp [PyData.eqvAll]
  | x :: xs, [] => by simp [PyData.eqvAll]
  | x :: xs, y :: ys => by
    rw [List.map_cons, List.map_cons, PyData.eqvAll, TyQ.q, eqv_alls xs ys, ← Bool.decide_and]
    exact decide_eq_decide.mpr ⟨fun ⟨a, b⟩ => by rw [a, b], fun h => by injection h with a b; exact ⟨a, b⟩⟩
instance [TyD T] : TyD (fun xs => sO (oLst T xs)) where
  d := fun xs => .list (xs.map (TyD.d T))
  dep := TyD.dep T + 1
  ok := fun {K F v x} h => by
    obtain ⟨p, k, e, hk, vs, hp, hi⟩ := h
    subst e
    obtain ⟨a, b, c⟩ := its_dp (T := T) (K := K) hi
    exact ⟨.lst (SqL.of (hk _ _ hp)) a, by rw [PyData.canLay0]; exact b, by rw [PyData.depth]; exact Nat.succ_le_succ c⟩
instance [DecidableEq α] [TyQ T] : TyQ (fun xs => sO (oLst T xs)) where
  q := fun xs ys => by
    show PyData.eqv (.list _) (.list _) = _
    rw [PyData.eqv]
    exact eqv_alls xs ys
instance [TyD T] : TyD (fun xs => sO (oTup T xs)) where
  d := fun xs => .tuple (xs.map (TyD.d T))
  dep := TyD.dep T + 1
  ok := fun {K F v x} h => by
    obtain ⟨p, k, e, hk, vs, hp, hi⟩ := h
    subst e
    obtain ⟨a, b, c⟩ := its_dp (T := T) (K := K) hi
    exact ⟨.tup (SqT.of (hk _ _ hp)) a, by rw [PyData.canLay0]; exact b, by rw [PyData.depth]; exact Nat.succ_le_succ c⟩
instance [DecidableEq α] [TyQ T] : TyQ (fun xs => sO (oTup T xs)) where
  q := fun xs ys => by
    show PyData.eqv (.tuple _) (.tuple _) = _
    rw [PyData.eqv]
    exact eqv_alls xs ys
end
end Sx
namespace Sx
open PySem PySem.Spec PyProof.Rows L2

section
variable {X : Cx} {ss : List Sl} {e a b c : Expr} {es : List Expr} {ρ τ κ : R} {s t : S} {o : O} {pos : Pos} {k : Nat}
/-! ### == -/
theorem shaped_of {α : Type} {T : α → S} [TyD T] (hd : TyD.dep T ≤ 64) {K : PySem.W.Frag} {F H : Hp} {v : V} {x : α} (e : Same F H) (r : (T x).r F v) : Dp K H v (TyD.d T x) ∧ SeqAt.shaped (TyD.d T x) = true := by
  obtain ⟨a, b, c⟩ := TyD.ok (K := K) r
  refine ⟨dp_same e a, ?_⟩
  unfold SeqAt.shaped
  rw [b, Bool.true_and]
  exact decide_eq_true (Nat.le_trans c hd)
theorem room64 (hr : Room k X.A) : X.A.units + 64 < cLine := hr.units
theorem room65 (hr : Room k X.A) : X.A.units + 65 < cLine := Nat.lt_of_le_of_lt (Nat.add_le_add_left (by decide : 65 ≤ 200) _) (Nat.lt_of_le_of_lt (Nat.add_le_add_right (Nat.le_add_right _ (16 * k)) 200) hr.un)
theorem ev_eqD {α β : Type} {T : α → S} {U : β → S} [TyD T] [TyD U] {x : α} {y : β} (hr : Room k X.A) (ha : EvE X ss a (sv (T x))) (hb : EvE X ss b (sv (U y))) (h1 : TyD.dep T ≤ 64 := by decide) (h2 : TyD.dep U ≤ 64 := by decide) :
    EvE X ss (.Compare a [.Eq] [b] pos) (sv (sBool (PyData.eqv (TyD.d T x) (TyD.d U y)))) :=
  ev_cmp (op_eqD (room64 hr)) ha hb (fun F H v w Q sF rx ry q => by
    obtain ⟨d1, s1⟩ := shaped_of h1 sF rx
    obtain ⟨d2, s2⟩ := shaped_of h2 sF ry
    exact ⟨_, _, d1, d2, s1, s2, q _ F H (.refl sF) rfl⟩) (nomark _)
theorem et_eqD {α β : Type} {T : α → S} {U : β → S} [TyD T] [TyD U] {x : α} {y : β} (hr : Room k X.A) (ha : EvE X ss a (sv (T x))) (hb : EvE X ss b (sv (U y))) (h1 : TyD.dep T ≤ 64 := by decide) (h2 : TyD.dep U ≤ 64 := by decide) :
    EvT X ss (.Compare a [.Eq] [b] pos) (PyData.eqv (TyD.d T x) (TyD.d U y)) :=
  ev_cmpT (op_eqD (room64 hr)) ha hb (fun F H v w Q sF rx ry q => by
    obtain ⟨d1, s1⟩ := shaped_of h1 sF rx
    obtain ⟨d2, s2⟩ := shaped_of h2 sF ry
    exact ⟨_, _, d1, d2, s1, s2, q⟩) (nomark _)
theorem ev_neD {α β : Type} {T : α → S} {U : β → S} [TyD T] [TyD U] {x : α} {y : β} (hr : Room k X.A) (ha : EvE X ss a (sv (T x))) (hb : EvE X ss b (sv (U y))) (h1 : TyD.dep T ≤ 64 := by decide) (h2 : TyD.dep U ≤ 64 := by decide) :
    EvE X ss (.Compare a [.NotEq] [b] pos) (sv (sBool (!PyData.eqv (TyD.d T x) (TyD.d U y)))) :=
  ev_cmp (op_neD (room64 hr)) ha hb (fun F H v w Q sF rx ry q => by
    obtain ⟨d1, s1⟩ := shaped_of h1 sF rx
    obtain ⟨d2, s2⟩ := shaped_of h2 sF ry
    exact ⟨_, _, d1, d2, s1, s2, q _ F H (.refl sF) rfl⟩) (nomark _)
theorem et_neD {α β : Type} {T : α → S} {U : β → S} [TyD T] [TyD U] {x : α} {y : β} (hr : Room k X.A) (ha : EvE X ss a (sv (T x))) (hb : EvE X ss b (sv (U y))) (h1 : TyD.dep T ≤ 64 := by decide) (h2 : TyD.dep U ≤ 64 := by decide) :
    EvT X ss (.Compare a [.NotEq] [b] pos) (!PyData.eqv (TyD.d T x) (TyD.d U y)) :=
  ev_cmpT (op_neD (room64 hr)) ha hb (fun F H v w Q sF rx ry q => by
    obtain ⟨d1, s1⟩ := shaped_of h1 sF rx
    obtain ⟨d2, s2⟩ := shaped_of h2 sF ry
    exact ⟨_, _, d1, d2, s1, s2, q⟩) (nomark _)
variable {α : Type} [DecidableEq α] {T : α → S} [TyQ T] {x y : α} {xs : List α}
theorem ev_eq (T : α → S) [TyQ T] (hr : Room k X.A) (ha : EvE X ss a (sv (T x))) (hb : EvE X ss b (sv (T y))) (h1 : TyD.dep T ≤ 64 := by decide) : EvE X ss (.Compare a [.Eq] [b] pos) (sv (sBool (decide (x = y)))) := by
  rw [← TyQ.q (T := T)]
  exact ev_eqD hr ha hb h1 h1
theorem et_eq (T : α → S) [TyQ T] (hr : Room k X.A) (ha : EvE X ss a (sv (T x))) (hb : EvE X ss b (sv (T y))) (h1 : TyD.dep T ≤ 64 := by decide) : EvT X ss (.Compare a [.Eq] [b] pos) (decide (x = y)) := by
  rw [← TyQ.q (T := T)]
  exact et_eqD hr ha hb h1 h1
theorem ev_ne (T : α → S) [TyQ T] (hr : Room k X.A) (ha : EvE X ss a (sv (T x))) (hb : EvE X ss b (sv (T y))) (h1 : TyD.dep T ≤ 64 := by decide) : EvE X ss (.Compare a [.NotEq] [b] pos) (sv (sBool (!decide (x = y)))) := by
  rw [← TyQ.q (T := T)]
  exact ev_neD hr ha hb h1 h1
theorem et_ne (T : α → S) [TyQ T] (hr : Room k X.A) (ha : EvE X ss a (sv (T x))) (hb : EvE X ss b (sv (T y))) (h1 : TyD.dep T ≤ 64 := by decide) : EvT X ss (.Compare a [.NotEq] [b] pos) (!decide (x = y)) := by
  rw [← TyQ.q (T := T)]
  exact et_neD hr ha hb h1 h1
/-! ### in -/
theorem any_eqv (y : α) : ∀ xs : List α, ((xs.map (TyD.d T)).any fun z => PyData.eqv z (TyD.d T y)) = decide (y ∈ xs)
  | [] => by simp
  | x :: xs => by
    rw [List.map_cons, List.any_cons, TyQ.q, any_eqv y xs]
    by_cases h : x = y
    · subst h; simp
    · have h2 : ¬ y = x := fun z => h z.symm
      simp [h, h2]
omit [DecidableEq α] [TyQ T] in
theorem lst_shaped [TyD T] (h1 : TyD.dep T ≤ 63) {K : PySem.W.Frag} {F H : Hp} {v : V} (e : Same F H) (r : (bO (oLst T xs)).r F H v) : Dp K H v (.list (xs.map (TyD.d T))) ∧ SeqAt.shaped (.list (xs.map (TyD.d T))) = true := by
  obtain ⟨p, k, e1, hk, vs, hp, hi⟩ := r
  subst e1
  obtain ⟨a, b, c⟩ := its_dp (T := T) (K := K) hi
  refine ⟨.lst (SqL.of (hk _ _ hp)) (dps_same e a), ?_⟩
  unfold SeqAt.shaped
  rw [PyData.canLay0, b, Bool.true_and, PyData.depth]
  exact decide_eq_true (Nat.succ_le_succ (Nat.le_trans c h1))
/-- what may be read as an object -/
theorem EvE.toB (h : EvE X ss e (sv (sO o))) : EvE X ss e (bO o) := h.imp fun F H v sF ⟨p, k, e, hk, r⟩ => ⟨p, k, e, hk.trans sF, r⟩
/-- in a list, data of any depth -/
theorem ev_in (T : α → S) [TyQ T] (hr : Room k X.A) (ha : EvE X ss a (sv (T y))) (hb : EvE X ss b (bO (oLst T xs))) (hm : behindInMarks .In b = false := by rfl) (h1 : TyD.dep T ≤ 63 := by decide) : EvE X ss (.Compare a [.In] [b] pos) (sv (sBool (decide (y ∈ xs)))) :=
  ev_cmp (op_inD (room65 hr)) ha hb (fun F H v w Q sF rx ry q => by
    obtain ⟨d1, s1⟩ := shaped_of (Nat.le_trans h1 (by decide)) sF rx
    obtain ⟨d2, s2⟩ := lst_shaped h1 sF ry
    refine ⟨_, _, d1, d2, s1, s2, ?_⟩
    rw [any_eqv]
    exact q _ F H (.refl sF) rfl) hm
theorem et_in (T : α → S) [TyQ T] (hr : Room k X.A) (ha : EvE X ss a (sv (T y))) (hb : EvE X ss b (bO (oLst T xs))) (hm : behindInMarks .In b = false := by rfl) (h1 : TyD.dep T ≤ 63 := by decide) : EvT X ss (.Compare a [.In] [b] pos) (decide (y ∈ xs)) :=
  ev_cmpT (op_inD (room65 hr)) ha hb (fun F H v w Q sF rx ry q => by
    obtain ⟨d1, s1⟩ := shaped_of (Nat.le_trans h1 (by decide)) sF rx
    obtain ⟨d2, s2⟩ := lst_shaped h1 sF ry
    refine ⟨_, _, d1, d2, s1, s2, ?_⟩
    rw [any_eqv]
    exact q) hm
theorem ev_nin (T : α → S) [TyQ T] (hr : Room k X.A) (ha : EvE X ss a (sv (T y))) (hb : EvE X ss b (bO (oLst T xs))) (hm : behindInMarks .NotIn b = false := by rfl) (h1 : TyD.dep T ≤ 63 := by decide) : EvE X ss (.Compare a [.NotIn] [b] pos) (sv (sBool (!decide (y ∈ xs)))) :=
  ev_cmp (op_notInD (room65 hr)) ha hb (fun F H v w Q sF rx ry q => by
    obtain ⟨d1, s1⟩ := shaped_of (Nat.le_trans h1 (by decide)) sF rx
    obtain ⟨d2, s2⟩ := lst_shaped h1 sF ry
    refine ⟨_, _, d1, d2, s1, s2, ?_⟩
    rw [any_eqv]
    exact q _ F H (.refl sF) rfl) hm
theorem et_nin (T : α → S) [TyQ T] (hr : Room k X.A) (ha : EvE X ss a (sv (T y))) (hb : EvE X ss b (bO (oLst T xs))) (hm : behindInMarks .NotIn b = false := by rfl) (h1 : TyD.dep T ≤ 63 := by decide) : EvT X ss (.Compare a [.NotIn] [b] pos) (!decide (y ∈ xs)) :=
  ev_cmpT (op_notInD (room65 hr)) ha hb (fun F H v w Q sF rx ry q => by
    obtain ⟨d1, s1⟩ := shaped_of (Nat.le_trans h1 (by decide)) sF rx
    obtain ⟨d2, s2⟩ := lst_shaped h1 sF ry
    refine ⟨_, _, d1, d2, s1, s2, ?_⟩
    rw [any_eqv]
    exact q) hm
end

/-! ### tests -/
section
variable {X : Cx} {ss : List Sl} {e a b c : Expr} {es rest : List Expr} {pos : Pos} {x y z : Bool} {i : Int} {w : Str} {o : O} {α : Type} {T : α → S} {xs : List α}
theorem et_val (h : EvE X ss e (sv (sBool x))) (he : ∀ whole, isTrue e X.env whole = (do let v ← whole; standAt e.pos; holding [v] (truthy v)) := by intro _; rfl) : EvT X ss e x := .mk fun B F H σ hs Q q =>
  toT (pt_val PEw he) (h B F H σ hs _ fun v F' H' g r => ⟨x, r, q F' H' g⟩)
/-- and, or: the tail -/
def EvW (X : Cx) (ss : List Sl) (e : Expr) (x : Bool) : Prop := ∃ t : TT, PW X e t ∧ ∀ (B : Bs) (F H : Hp) (σ : L2.St), Sat B F H σ ss → ∀ Q : Bool → Hp → Prop, (∀ F' H', Grow F H F' H' → Q x H') → t σ H Q
theorem EvW.t (h : EvW X ss e x) : EvT X ss e x := .mk fun B F H σ hs Q q => by
  obtain ⟨t, hp, ht⟩ := h
  exact toT hp.pt (ht B F H σ hs Q q)
theorem ew_and1 (h : EvT X ss a x) : EvW X ss (.BoolOp .And [a] pos) x := ⟨_, pw_and1 PTw, h⟩
theorem ew_or1 (h : EvT X ss a x) : EvW X ss (.BoolOp .Or [a] pos) x := ⟨_, pw_or1 PTw, h⟩
theorem ew_and (h : EvT X ss a x) (hk : x = true → EvW X ss (.BoolOp .And (b :: rest) pos) y) : EvW X ss (.BoolOp .And (a :: b :: rest) pos) (x && y) := by
  cases x with
  | true =>
    obtain ⟨t, hp, ht⟩ := hk rfl
    exact ⟨_, pw_and PTw hp, fun B F H σ hs Q q => h B F H σ hs _ fun F1 H1 g1 => iteT (ht B F1 H1 σ (hs.grow g1) Q fun F2 H2 g2 => q F2 H2 (g1.trans g2))⟩
  | false =>
    have pw : ∀ (l : List Expr) (q : Expr), PW X (.BoolOp .And (q :: l) pos) (fun σ H Q => ∀ whole pins s, Inv X pins σ H s → wpAny (model X.prog X.w) X.A (isTrue (.BoolOp .And (q :: l) pos) X.env whole) (TP X pins σ Q) X.xe s) := fun l q => ⟨fun whole pins s _ _ _ I h => h whole pins s I⟩
    exact ⟨_, pw_and PTw (pw _ _), fun B F H σ hs Q q => h B F H σ hs _ fun F1 H1 g1 => iteF (q F1 H1 g1)⟩
theorem ew_or (h : EvT X ss a x) (hk : x = false → EvW X ss (.BoolOp .Or (b :: rest) pos) y) : EvW X ss (.BoolOp .Or (a :: b :: rest) pos) (x || y) := by
  cases x with
  | false =>
    obtain ⟨t, hp, ht⟩ := hk rfl
    exact ⟨_, pw_or PTw hp, fun B F H σ hs Q q => h B F H σ hs _ fun F1 H1 g1 => iteF (ht B F1 H1 σ (hs.grow g1) Q fun F2 H2 g2 => q F2 H2 (g1.trans g2))⟩
  | true =>
    have pw : ∀ (l : List Expr) (q : Expr), PW X (.BoolOp .Or (q :: l) pos) (fun σ H Q => ∀ whole pins s, Inv X pins σ H s → wpAny (model X.prog X.w) X.A (isTrue (.BoolOp .Or (q :: l) pos) X.env whole) (TP X pins σ Q) X.xe s) := fun l q => ⟨fun whole pins s _ _ _ I h => h whole pins s I⟩
    exact ⟨_, pw_or PTw (pw _ _), fun B F H σ hs Q q => h B F H σ hs _ fun F1 H1 g1 => iteT (q F1 H1 g1)⟩
theorem et_not (h : EvT X ss a x) : EvT X ss (.UnaryOp .Not a pos) (!x) := .mk fun B F H σ hs Q q => toT (pt_not PTw) (h B F H σ hs _ fun F1 H1 g1 => q F1 H1 g1)
/-- .. as values -/
theorem ev_and1 (h : EvE X ss a (sv (sBool x))) {op} : EvE X ss (.BoolOp op [a] pos) (sv (sBool x)) := .mk fun B F H σ hs Q q => toE (pe_one PEw) (h B F H σ hs Q q)
theorem ev_and (h : EvE X ss a (sv (sBool x))) (hk : x = true → EvE X ss (.BoolOp .And (b :: rest) pos) (sv (sBool y))) : EvE X ss (.BoolOp .And (a :: b :: rest) pos) (sv (sBool (x && y))) := .mk fun B F H σ hs Q q =>
  toE (pe_and PEw PEw) (h B F H σ hs _ fun v F1 H1 g1 r => ⟨x, r, by
    cases x with
    | true => exact iteT (hk rfl B F1 H1 σ (hs.grow g1) Q fun v F2 H2 g2 r2 => q v F2 H2 (g1.trans g2) r2)
    | false => exact iteF (q _ F1 H1 g1 rfl)⟩)
theorem ev_or (h : EvE X ss a (sv (sBool x))) (hk : x = false → EvE X ss (.BoolOp .Or (b :: rest) pos) (sv (sBool y))) : EvE X ss (.BoolOp .Or (a :: b :: rest) pos) (sv (sBool (x || y))) := .mk fun B F H σ hs Q q =>
  toE (pe_or PEw PEw) (h B F H σ hs _ fun v F1 H1 g1 r => ⟨x, r, by
    cases x with
    | false => exact iteF (hk rfl B F1 H1 σ (hs.grow g1) Q fun v F2 H2 g2 r2 => q v F2 H2 (g1.trans g2) r2)
    | true => exact iteT (q _ F1 H1 g1 rfl)⟩)
theorem ev_not (h : EvE X ss a (sv (sBool x))) : EvE X ss (.UnaryOp .Not a pos) (sv (sBool (!x))) := .mk fun B F H σ hs Q q =>
  toE (pe_not PEw) (h B F H σ hs _ fun v F1 H1 g1 r => ⟨x, r, q _ F1 H1 g1 rfl⟩)
theorem ev_ifExp {ρ : R} (h : EvT X ss c x) (h1 : x = true → EvE X ss a ρ) (h2 : x = false → EvE X ss b ρ) : EvE X ss (.IfExp c a b pos) ρ := .mk fun B F H σ hs Q q =>
  toE (pe_ifExp PTw PEw PEw) (h B F H σ hs _ fun F1 H1 g1 => by
    cases x with
    | true => exact iteT (h1 rfl B F1 H1 σ (hs.grow g1) Q fun v F2 H2 g2 r2 => q v F2 H2 (g1.trans g2) r2)
    | false => exact iteF (h2 rfl B F1 H1 σ (hs.grow g1) Q fun v F2 H2 g2 r2 => q v F2 H2 (g1.trans g2) r2))
/-- a < b < c, a <= b <= c .. of ints -/
theorem ev_chain {op op' : CmpOp} {g g' : Int → Int → Bool} {i j k : Int} (ho : OpR X (compareOp op) (rI0 fun i j => .bl (g i j))) (ho' : OpR X (compareOp op') (rI0 fun i j => .bl (g' i j))) (ha : EvE X ss a (sv (sInt i))) (hb : EvE X ss b (sv (sInt j))) (hc : EvE X ss c (sv (sInt k)))
    (hm : lastMarks [op, op'] [b, c] = false := by with_unfolding_all rfl) : EvE X ss (.Compare a [op, op'] [b, c] pos) (sv (sBool (g i j && g' j k))) := .mk fun B F H σ hs Q q =>
  toE (pe_chain ho ho' PEw PEw PEw hm) (ha B F H σ hs _ fun v F1 H1 g1 r1 => hb B F1 H1 σ (hs.grow g1) _ fun u F2 H2 g2 r2 => ⟨i, j, r1, r2, g i j, rfl, by
    cases q1 : g i j with
    | true => exact iteT (hc B F2 H2 σ ((hs.grow g1).grow g2) _ fun u F3 H3 g3 r3 => ⟨j, k, r2, r3, q _ F3 H3 ((g1.trans g2).trans g3) (by rw [q1]; rfl)⟩)
    | false => exact iteF (q _ F2 H2 (g1.trans g2) (by rw [q1]; rfl))⟩)
/-- the truth of a list, of a tuple -/
theorem et_seq (h : EvE X ss e (bSq X.K T xs)) (he : ∀ whole, isTrue e X.env whole = (do let v ← whole; standAt e.pos; holding [v] (truthy v)) := by intro _; rfl) : EvT X ss e (!xs.isEmpty) := .mk fun B F H σ hs Q q =>
  toT (pt_truth PEw he) (h B F H σ hs _ fun v F' H' g ⟨p, vs, ev, hq, hi⟩ => ⟨!xs.isEmpty, by
    subst ev
    have ee : (!xs.isEmpty) = !vs.isEmpty := by
      have := hi.len
      cases xs with
      | nil =>
        cases vs with
        | nil => rfl
        | cons _ _ => cases this
      | cons _ _ =>
        cases vs with
        | nil => cases this
        | cons _ _ => rfl
    rcases hq with hq | hq
    · exact .inl ⟨vs, hq, ee⟩
    · exact .inr (.inl ⟨vs, hq, ee⟩), q F' H' g⟩)
end
end Sx
namespace Sx
open PySem PySem.Spec PyProof.Rows L2

/-! ### what may be read as a list, as a tuple, as either -/
class AsLs {α : outParam Type} (K : PySem.W.Frag) (ρ : R) (T : outParam (α → S)) (xs : outParam (List α)) : Prop where
  w : ∀ F H v, Same F H → ρ.r F H v → ∃ p vs, v = .ref p ∧ SqL K H p vs ∧ Its T F xs vs
class AsTp {α : outParam Type} (K : PySem.W.Frag) (ρ : R) (T : outParam (α → S)) (xs : outParam (List α)) : Prop where
  w : ∀ F H v, Same F H → ρ.r F H v → ∃ p vs, v = .ref p ∧ SqT K H p vs ∧ Its T F xs vs
class AsSq {α : outParam Type} (K : PySem.W.Frag) (ρ : R) (T : outParam (α → S)) (xs : outParam (List α)) : Prop where
  w : ∀ F H v, Same F H → ρ.r F H v → (bSq K T xs).r F H v
/-- a list as it lies (the script) -/
def sLq {α : Type} (K : PySem.W.Frag) (T : α → S) (xs : List α) : S :=
  ⟨fun F v => ∃ p vs, v = .ref p ∧ SqL K F p vs ∧ Its T F xs vs, fun a ⟨p, vs, e, h, q⟩ => ⟨p, vs, e, SqL.same a h, q.mono a⟩⟩
section
variable {α : Type} {K : PySem.W.Frag} {T : α → S} {xs : List α} {ρ : R}
instance : AsLs K (sv (sO (oLst T xs))) T xs := ⟨fun F H v e ⟨p, k, e1, hk, vs, hp, hi⟩ => ⟨p, vs, e1, SqL.of (e _ _ (hk _ _ hp)), hi⟩⟩
instance : AsLs K (bO (oLst T xs)) T xs := ⟨fun F H v e ⟨p, k, e1, hk, vs, hp, hi⟩ => ⟨p, vs, e1, SqL.of (hk _ _ hp), hi⟩⟩
instance : AsLs K (sv (sLq K T xs)) T xs := ⟨fun F H v e ⟨p, vs, e1, hp, hi⟩ => ⟨p, vs, e1, SqL.same e hp, hi⟩⟩
instance : AsTp K (sv (sO (oTup T xs))) T xs := ⟨fun F H v e ⟨p, k, e1, hk, vs, hp, hi⟩ => ⟨p, vs, e1, SqT.of (e _ _ (hk _ _ hp)), hi⟩⟩
instance : AsTp K (bO (oTup T xs)) T xs := ⟨fun F H v e ⟨p, k, e1, hk, vs, hp, hi⟩ => ⟨p, vs, e1, SqT.of (hk _ _ hp), hi⟩⟩
instance : AsSq K (sv (sO (oSq T xs))) T xs := ⟨fun F H v e ⟨p, k, e1, hk, vs, hp, hi⟩ => ⟨p, vs, e1, hp.imp (fun q => SqL.of (e _ _ (hk _ _ q))) (fun q => SqT.of (e _ _ (hk _ _ q))), hi⟩⟩
instance [h : AsLs K ρ T xs] : AsSq K ρ T xs := ⟨fun F H v e r => by
  obtain ⟨p, vs, e1, hq, hi⟩ := h.w F H v e r
  exact ⟨p, vs, e1, .inl hq, hi⟩⟩
instance [h : AsTp K ρ T xs] : AsSq K ρ T xs := ⟨fun F H v e r => by
  obtain ⟨p, vs, e1, hq, hi⟩ := h.w F H v e r
  exact ⟨p, vs, e1, .inr hq, hi⟩⟩
end

section
variable {X : Cx} {ss : List Sl} {e a b c : Expr} {es : List Expr} {ρ τ κ : R} {s t : S} {o : O} {pos p p2 : Pos} {k : Nat} {α β : Type} {T : α → S} {U : β → S} {xs ys : List α} {x y : α} {i j : Int}
theorem EvE.sq [h : AsSq X.K ρ T xs] (he : EvE X ss e ρ) : EvE X ss e (bSq X.K T xs) := he.imp h.w
theorem EvE.lsq (he : EvE X ss e (sv (sO (oLst T xs)))) : EvE X ss e (sv (sO (oSq T xs))) := he.impS fun F v ⟨p, k, e1, hk, vs, hp, hi⟩ => ⟨p, k, e1, hk, vs, .inl hp, hi⟩
theorem EvE.tsq (he : EvE X ss e (sv (sO (oTup T xs)))) : EvE X ss e (sv (sO (oSq T xs))) := he.impS fun F v ⟨p, k, e1, hk, vs, hp, hi⟩ => ⟨p, k, e1, hk, vs, .inr hp, hi⟩
theorem EvE.lq {K : PySem.W.Frag} (he : EvE X ss e (sv (sLq K T xs))) (hK : X.K = K := by rfl) : EvE X ss e (sv (sLq X.K T xs)) := by
  subst hK
  exact he
/-! ### arguments -/
theorem ea_nil : EvA X ss [] [] := .mk fun B F H σ h Q q => toA pa_nil (q [] F H (.refl h.s) .nil)
theorem ea_cons {as : List R} (ha : EvE X ss e ρ) (hr : EvA X ss es as) (hs : starEach (e :: es) X.env = (false, eval e X.env) :: starEach es X.env := by exact star_ok rfl) : EvA X ss (e :: es) (ρ :: as) := .mk fun B F H σ h Q q =>
  toA (pa_cons PEw PAw hs) (ha B F H σ h _ fun v F1 H1 g1 r1 => hr B F1 H1 σ (h.grow g1) _ fun vs F2 H2 g2 rs => q (v :: vs) F2 H2 (g1.trans g2) (.cons (ρ.mono g2.f g2.h r1) rs))
/-- one built-in function -/
theorem ev_cb {id : String} {x : Str} {r : List V → Hp → VK → Prop} {as : List R} (hc : CallR X (.builtin id) r) (hm : X.mg x = none) (hb : bootBuiltins x = some (.builtin id)) (ha : EvA X ss (e :: es) as)
    (hr : ∀ F H vs (Q : VK), Same F H → Paired (fun (a : R) v => a.r F H v) as vs → (∀ v F' H', Grow F H F' H' → κ.r F' H' v → Q v H') → r vs H Q) (hg : Gl X x := by rfl)
    (hn : x ≠ "__name__" := by decide) (hdb : (x == ("__debug__" : Str)) = false := by decide) (he : starEach (e :: es) X.env = (false, eval e X.env) :: starEach es X.env := by exact star_ok rfl) (hpl : (backTo pos (starEach es X.env)).any (·.1) = false := by rfl) : EvE X ss (.Call (.Name x p) (e :: es) [] pos) κ := .mk fun B F H σ h Q q =>
  toE (pe_callB hc hg hm hb PAw hn hdb he hpl) (ha B F H σ h _ fun vs F1 H1 g1 rs => hr F1 H1 vs Q g1.s rs fun v F2 H2 g2 r2 => q v F2 H2 (g1.trans g2) r2)
theorem ev_ct {id : String} {x : Str} {r : List V → Hp → VK → Prop} {as : List R} (hc : CallR X (.type id) r) (hm : X.mg x = none) (hb : bootBuiltins x = some (.type id)) (ha : EvA X ss (e :: es) as)
    (hr : ∀ F H vs (Q : VK), Same F H → Paired (fun (a : R) v => a.r F H v) as vs → (∀ v F' H', Grow F H F' H' → κ.r F' H' v → Q v H') → r vs H Q) (hg : Gl X x := by rfl)
    (hn : x ≠ "__name__" := by decide) (hdb : (x == ("__debug__" : Str)) = false := by decide) (he : starEach (e :: es) X.env = (false, eval e X.env) :: starEach es X.env := by exact star_ok rfl) (hpl : (backTo pos (starEach es X.env)).any (·.1) = false := by rfl) : EvE X ss (.Call (.Name x p) (e :: es) [] pos) κ := .mk fun B F H σ h Q q =>
  toE (pe_callTy hc hg hm hb PAw hn hdb he hpl) (ha B F H σ h _ fun vs F1 H1 g1 rs => hr F1 H1 vs Q g1.s rs fun v F2 H2 g2 r2 => q v F2 H2 (g1.trans g2) r2)
theorem ev_ctN {id : String} {x : Str} {r : List V → Hp → VK → Prop} {as : List R} (hc : CallR X (.type id) r) (hm : X.mg x = none) (hb : bootBuiltins x = some (.type id)) (ha : EvA X ss (e :: es) as)
    (hr : ∀ F H vs (Q : VK), Same F H → Paired (fun (a : R) v => a.r F H v) as vs → (∀ p ob, H p = none → o.r F (hp1 p ob) p → Q (.ref p) (upd H p ob)) → r vs H Q) (hg : Gl X x := by rfl)
    (hn : x ≠ "__name__" := by decide) (hdb : (x == ("__debug__" : Str)) = false := by decide) (he : starEach (e :: es) X.env = (false, eval e X.env) :: starEach es X.env := by exact star_ok rfl) (hpl : (backTo pos (starEach es X.env)).any (·.1) = false := by rfl) : EvN X ss (.Call (.Name x p) (e :: es) [] pos) o := .mk fun B F H σ h Q q =>
  toE (pe_callTy hc hg hm hb PAw hn hdb he hpl) (ha B F H σ h _ fun vs F1 H1 g1 rs => hr F1 H1 vs Q g1.s rs fun p ob n k => fresh1 q g1 n k)
theorem ev_len [hq : AsSq X.K ρ T xs] (hm : X.mg "len" = none) (ha : EvE X ss a ρ) (hg : Gl X "len" := by rfl) (he : starEach [a] X.env = (false, eval a X.env) :: starEach [] X.env := by exact star_ok rfl) (hpl : (backTo pos (starEach [] X.env)).any (·.1) = false := by rfl) :
    EvE X ss (.Call (.Name "len" p) [a] [] pos) (sv (sInt (xs.length : Int))) :=
  ev_cb call_len_seq hm PySem.boot_len (ea_cons ha ea_nil he) (fun F H vs Q sF rs q => by
    cases rs with
    | cons r rr =>
      cases rr
      obtain ⟨p, ws, e1, hw, hi⟩ := hq.w F H _ sF r
      subst e1
      refine ⟨p, ws, rfl, hw, ?_⟩
      rw [hi.len]
      exact q _ F H (.refl sF) rfl) hg (he := he) (hpl := hpl)
theorem ev_lenS {z : Str} (hm : X.mg "len" = none) (ha : EvE X ss a (sv (sStr z))) (hz : z.length ≤ sizeLine) (hg : Gl X "len" := by rfl) (he : starEach [a] X.env = (false, eval a X.env) :: starEach [] X.env := by exact star_ok rfl) (hpl : (backTo pos (starEach [] X.env)).any (·.1) = false := by rfl) :
    EvE X ss (.Call (.Name "len" p) [a] [] pos) (sv (sInt (z.length : Int))) :=
  ev_cb call_len_str hm PySem.boot_len (ea_cons ha ea_nil he) (fun F H vs Q sF rs q => by
    cases rs with
    | cons r rr =>
      cases rr
      exact ⟨z, by rw [r.1], hz, q _ F H (.refl sF) rfl⟩) hg (he := he) (hpl := hpl)
theorem ev_intI (hm : X.mg "int" = none) (ha : EvE X ss a (sv (sInt i))) (hg : Gl X "int" := by rfl) (he : starEach [a] X.env = (false, eval a X.env) :: starEach [] X.env := by exact star_ok rfl) (hpl : (backTo pos (starEach [] X.env)).any (·.1) = false := by rfl) :
    EvE X ss (.Call (.Name "int" p) [a] [] pos) (sv (sInt i)) :=
  ev_ct call_int1 hm (by decide +kernel) (ea_cons ha ea_nil he) (fun F H vs Q sF rs q => by
    cases rs with
    | cons r rr =>
      cases rr
      have e1 : _ = V.int i := r
      subst e1
      exact .inl ⟨i, rfl, q _ F H (.refl sF) rfl⟩) hg (he := he) (hpl := hpl)
theorem ev_intB {x : Bool} (hm : X.mg "int" = none) (ha : EvE X ss a (sv (sBool x))) (hg : Gl X "int" := by rfl) (he : starEach [a] X.env = (false, eval a X.env) :: starEach [] X.env := by exact star_ok rfl) (hpl : (backTo pos (starEach [] X.env)).any (·.1) = false := by rfl) :
    EvE X ss (.Call (.Name "int" p) [a] [] pos) (sv (sInt (if x then 1 else 0))) :=
  ev_ct call_int1 hm (by decide +kernel) (ea_cons ha ea_nil he) (fun F H vs Q sF rs q => by
    cases rs with
    | cons r rr =>
      cases rr
      have e1 : _ = V.bl x := r
      subst e1
      exact .inr ⟨x, rfl, q _ F H (.refl sF) rfl⟩) hg (he := he) (hpl := hpl)
theorem ev_list [hq : AsSq X.K ρ T xs] (hm : X.mg "list" = none) (ha : EvE X ss a ρ) (hg : Gl X "list" := by rfl) (he : starEach [a] X.env = (false, eval a X.env) :: starEach [] X.env := by exact star_ok rfl) (hpl : (backTo pos (starEach [] X.env)).any (·.1) = false := by rfl) :
    EvN X ss (.Call (.Name "list" p) [a] [] pos) (oLst T xs) :=
  ev_ctN call_list_of hm (by decide +kernel) (ea_cons ha ea_nil he) (fun F H vs Q sF rs q => by
    cases rs with
    | cons r rr =>
      cases rr
      obtain ⟨p, ws, e1, hw, hi⟩ := hq.w F H _ sF r
      subst e1
      exact ⟨p, ws, rfl, hw, fun l hl => q l _ hl ⟨ws, hp1_same, hi⟩⟩) hg (he := he) (hpl := hpl)
/-- tuple(list): a new one -/
theorem ev_tupN [hq : AsLs X.K ρ T xs] (hm : X.mg "tuple" = none) (ha : EvE X ss a ρ) (hg : Gl X "tuple" := by rfl) (he : starEach [a] X.env = (false, eval a X.env) :: starEach [] X.env := by exact star_ok rfl) (hpl : (backTo pos (starEach [] X.env)).any (·.1) = false := by rfl) :
    EvN X ss (.Call (.Name "tuple" p) [a] [] pos) (oTup T xs) :=
  ev_ctN call_tuple_of hm (by decide +kernel) (ea_cons ha ea_nil he) (fun F H vs Q sF rs q => by
    cases rs with
    | cons r rr =>
      cases rr
      obtain ⟨p, ws, e1, hw, hi⟩ := hq.w F H _ sF r
      subst e1
      exact ⟨p, ws, rfl, .inl ⟨hw, fun l hl => q l _ hl ⟨ws, hp1_same, hi⟩⟩⟩) hg (he := he) (hpl := hpl)
/-- tuple(tuple): itself -/
theorem ev_tupT (hm : X.mg "tuple" = none) (ha : EvE X ss a (sv (sO (oTup T xs)))) (hg : Gl X "tuple" := by rfl) (he : starEach [a] X.env = (false, eval a X.env) :: starEach [] X.env := by exact star_ok rfl) (hpl : (backTo pos (starEach [] X.env)).any (·.1) = false := by rfl) :
    EvE X ss (.Call (.Name "tuple" p) [a] [] pos) (sv (sO (oTup T xs))) :=
  ev_ct call_tupleT hm (by decide +kernel) (ea_cons ha ea_nil he) (fun F H vs Q sF rs q => by
    cases rs with
    | cons r rr =>
      cases rr
      obtain ⟨p, k, e1, hk, ws, hp, hi⟩ := r
      subst e1
      exact ⟨p, ws, rfl, SqT.of (sF _ _ (hk _ _ hp)), q _ F H (.refl sF) ⟨p, k, rfl, hk, ws, hp, hi⟩⟩) hg (he := he) (hpl := hpl)
/-! ### items, slices -/
theorem ev_ix [hq : AsSq X.K ρ T xs] (ha : EvE X ss a ρ) (hb : EvE X ss b (sv (sInt i))) (hx : atI xs i = some x) (hp : PlainIx b := by exact fun _ _ => rfl) : EvE X ss (.Subscript a b pos) (sv (T x)) := .mk fun B F H σ h Q q =>
  toE (pe_ix (IxR.or ix_list ix_tup) PEw PEw hp) (ha B F H σ h _ fun v F1 H1 g1 r1 => hb B F1 H1 σ (h.grow g1) _ fun w F2 H2 g2 r2 => by
    obtain ⟨p, vs, e1, hw, hi⟩ := hq.w F2 H2 v g2.s (ρ.mono g2.f g2.h r1)
    have e2 : w = .int i := r2
    subst e1 e2
    obtain ⟨u, hu, ru⟩ := hi.atI hx
    have k := q u F2 H2 (g1.trans g2) ru
    rcases hw with hw | hw
    · exact .inl ⟨p, vs, i, u, rfl, rfl, hw, hu, k⟩
    · exact .inr ⟨p, vs, i, u, rfl, rfl, hw, hu, k⟩)
theorem ev_ixS {z : Str} {n : Nat} (ha : EvE X ss a (sv (sStr z))) (hb : EvE X ss b (sv (sInt i))) (hz : z.length ≤ sizeLine) (hx : atI z.cps.toList i = some n) (hp : PlainIx b := by exact fun _ _ => rfl) : EvE X ss (.Subscript a b pos) (sv (sStr ⟨#[n]⟩)) := .mk fun B F H σ h Q q =>
  toE (pe_ix ix_str PEw PEw hp) (ha B F H σ h _ fun v F1 H1 g1 r1 => hb B F1 H1 σ (h.grow g1) _ fun w F2 H2 g2 r2 => by
    refine ⟨z, i, n, r1.1, r2, hz, hx, q _ F2 H2 (g1.trans g2) ⟨rfl, ?_⟩⟩
    have ok := r1.2
    unfold PyData.strOk at ok ⊢
    obtain ⟨j, hj, hjn, _⟩ := atI_get hx
    have hm : n ∈ z.cps := by
      have := List.mem_of_getElem? hjn
      simpa using this
    have hall := Array.all_eq_true'.mp ok n hm
    simpa using hall)
theorem grow_new1 {F H : Hp} {p : Addr} {ob : HO} (s : Same F H) (np : H p = none) : Grow F H (upd F p ob) (upd H p ob) := ⟨same_new (s.free np), same_new np, fun x y ex => by
  by_cases hx : x = p
  · subst hx; rw [upd_same] at ex ⊢; exact ex
  · rw [upd_ne hx] at ex ⊢; exact s _ _ ex, fun x y ex nx => by
  by_cases hx : x = p
  · subst hx; exact .inl np
  · rw [upd_ne hx, nx] at ex; cases ex⟩
theorem hp1_in {F : Hp} {p : Addr} {ob : HO} : Same (hp1 p ob) (upd F p ob) := fun a o e => by
  obtain ⟨rfl, rfl⟩ := hp1_some e
  exact upd_same
/-- a slice's bound -/
def EvO (X : Cx) (ss : List Sl) (e : Option Expr) (i : Option Int) : Prop := ∃ t : TO, PO X e t ∧ ∀ (B : Bs) (F H : Hp) (σ : L2.St), Sat B F H σ ss → ∀ Q : Option Int → Hp → Prop, (∀ F' H', Grow F H F' H' → Q i H') → t σ H Q
theorem eo_none : EvO X ss none none := ⟨_, po_none, fun B F H σ h Q q => q F H (.refl h.s)⟩
theorem eo_some (ha : EvE X ss a (sv (sInt i))) : EvO X ss (some a) (some i) := ⟨_, po_some PEw, fun B F H σ h Q q => ha B F H σ h _ fun v F1 H1 g1 r => ⟨i, r, q F1 H1 g1⟩⟩
theorem ev_slL {lo hi : Option Expr} {l u : Option Int} [hq : AsLs X.K ρ T xs] (ha : EvE X ss a ρ) (hl : EvO X ss lo l) (hu : EvO X ss hi u) : EvN X ss (.Subscript a (.Slice lo hi none p2) pos) (oLst T (cutL xs l u)) := .mk fun B F H σ h Q q => by
  obtain ⟨tl, pl, kl⟩ := hl
  obtain ⟨tu, pu, ku⟩ := hu
  exact toE (pe_slice sl_list PEw pl pu) (ha B F H σ h _ fun v F1 H1 g1 r1 => kl B F1 H1 σ (h.grow g1) _ fun F2 H2 g2 => ku B F2 H2 σ ((h.grow g1).grow g2) _ fun F3 H3 g3 => by
    obtain ⟨p, vs, e1, hw, hi⟩ := hq.w F3 H3 v g3.s (ρ.mono (g2.f.trans g3.f) (g2.h.trans g3.h) r1)
    have g := (g1.trans g2).trans g3
    exact ⟨p, vs, e1, hw, fun p np => fresh1 q g np ⟨_, hp1_same, hi.cut⟩⟩)
theorem ev_slT {lo hi : Option Expr} {l u : Option Int} (ha : EvE X ss a (sv (sO (oTup T xs)))) (hl : EvO X ss lo l) (hu : EvO X ss hi u) : EvE X ss (.Subscript a (.Slice lo hi none p2) pos) (sv (sO (oTup T (cutL xs l u)))) := .mk fun B F H σ h Q q => by
  obtain ⟨tl, pl, kl⟩ := hl
  obtain ⟨tu, pu, ku⟩ := hu
  exact toE (pe_slice sl_tupA PEw pl pu) (ha B F H σ h _ fun v F1 H1 g1 r1 => kl B F1 H1 σ (h.grow g1) _ fun F2 H2 g2 => ku B F2 H2 σ ((h.grow g1).grow g2) _ fun F3 H3 g3 => by
    obtain ⟨p, k, e1, hk, vs, hp, hi⟩ := (sO (oTup T xs)).mono (g2.f.trans g3.f) r1
    subst e1
    have g := (g1.trans g2).trans g3
    refine ⟨p, vs, rfl, SqT.of (g3.s _ _ (hk _ _ hp)), fun hw => ?_, fun hw p np => ?_⟩
    · refine q _ F3 H3 g ⟨p, k, rfl, hk, vs, hp, ?_⟩
      have hc : cutL xs l u = xs := by
        unfold cutL
        rw [← hi.len, hw.1, hw.2]
        simp only [List.drop_zero, Nat.sub_zero]
        rw [hi.len]
        exact List.take_length
      rw [hc]
      exact hi
    · have gn := grow_new1 (ob := .tup (cutV vs l u)) g.s np
      exact q _ _ _ (g.trans gn) ⟨p, hp1 p _, rfl, hp1_in, _, hp1_same, (hi.cut).mono gn.f⟩)
/-- xs[::-1] -/
theorem ev_rev {n : Nat} {p1 p3 : Pos} [hq : AsLs X.K ρ T xs] (ha : EvE X ss a ρ) : EvN X ss (.Subscript a (.Slice none none (some (.UnaryOp .USub (.Constant (.int 1) n p1) p2)) p3) pos) (oLst T xs.reverse) := .mk fun B F H σ h Q q =>
  toE (pe_revL PEw) (ha B F H σ h _ fun v F1 H1 g1 r1 => by
    obtain ⟨p, vs, e1, hw, hi⟩ := hq.w F1 H1 v g1.s r1
    exact ⟨p, vs, e1, hw, fun p np => fresh1 q g1 np ⟨_, hp1_same, hi.rev⟩⟩)
/-! ### displays, + -/
/-- items of one kind -/
structure EvM (X : Cx) (ss : List Sl) (es : List Expr) {α : Type} (T : α → S) (xs : List α) : Prop where
  go : EvA X ss es (xs.map fun x => sv (T x))
theorem em_nil : EvM X ss [] T [] := ⟨ea_nil⟩
theorem em_cons (ha : EvE X ss e (sv (T x))) (hr : EvM X ss es T xs) (hs : starEach (e :: es) X.env = (false, eval e X.env) :: starEach es X.env := by exact star_ok rfl) : EvM X ss (e :: es) T (x :: xs) := ⟨ea_cons ha hr.go hs⟩
theorem its_of {F H : Hp} : ∀ {xs : List α} {vs : List V}, Paired (fun (a : R) v => a.r F H v) (xs.map fun x => sv (T x)) vs → Its T F xs vs
  | [], _, h => by
    cases h
    exact .nil
  | x :: xs, _, h => by
    cases h with
    | cons r t => exact .cons r (its_of t)
theorem ev_lst (ha : EvM X ss es T xs) (hl : xs.length ≤ sizeLine) : EvN X ss (.List es pos) (oLst T xs) := .mk fun B F H σ h Q q =>
  toE (pe_lst PAw) (ha.go B F H σ h _ fun vs F1 H1 g1 rs => ⟨by rw [(its_of rs).len]; exact hl, fun p np => fresh1 q g1 np ⟨vs, hp1_same, its_of rs⟩⟩)
theorem ev_tup {n : Nat} (ha : EvM X ss es T xs) (hl : xs.length ≤ sizeLine) : EvN X ss (.Tuple es n pos) (oTup T xs) := .mk fun B F H σ h Q q =>
  toE (pe_tup PAw) (ha.go B F H σ h _ fun vs F1 H1 g1 rs => ⟨by rw [(its_of rs).len]; exact hl, fun p np => fresh1 q g1 np ⟨vs, hp1_same, its_of rs⟩⟩)
theorem ev_catL (ha : EvE X ss a (bO (oLst T xs))) (hb : EvE X ss b (bO (oLst T ys))) (hl : xs.length + ys.length ≤ sizeLine) : EvN X ss (.BinOp a .Add b pos) (oLst T (xs ++ ys)) :=
  ev_binN op_cat ha hb fun F H v w Q sF ⟨p1, k1, e1, h1, vs, e3, i1⟩ ⟨p2, k2, e2, h2, ws, e4, i2⟩ q => by
    subst e1 e2
    exact ⟨p1, p2, vs, ws, rfl, rfl, h1 _ _ e3, h2 _ _ e4, by rw [i1.len, i2.len]; exact hl, fun p np => q p _ np ⟨_, hp1_same, i1.app i2⟩⟩
theorem ev_catT (ha : EvE X ss a (sv (sO (oTup T xs)))) (hb : EvE X ss b (sv (sO (oTup T ys)))) (hl : xs.length + ys.length ≤ sizeLine) : EvE X ss (.BinOp a .Add b pos) (sv (sO (oTup T (xs ++ ys)))) :=
  ev_bin op_catA ha hb fun F H v w Q sF ⟨p1, k1, e1, h1, vs, e3, i1⟩ ⟨p2, k2, e2, h2, ws, e4, i2⟩ q => by
    subst e1 e2
    refine ⟨p1, p2, vs, ws, rfl, rfl, SqT.of (sF _ _ (h1 _ _ e3)), SqT.of (sF _ _ (h2 _ _ e4)), by rw [i1.len, i2.len]; exact hl, fun ev => ?_, fun _ ew => ?_, fun _ _ p np => ?_⟩
    · subst ev
      have e0 : xs = [] := List.eq_nil_of_length_eq_zero i1.len.symm
      subst e0
      exact q _ F H (.refl sF) ⟨p2, k2, rfl, h2, ws, e4, i2⟩
    · subst ew
      have e0 : ys = [] := List.eq_nil_of_length_eq_zero i2.len.symm
      subst e0
      refine q _ F H (.refl sF) ⟨p1, k1, rfl, h1, vs, e3, ?_⟩
      rw [List.append_nil]
      exact i1
    · have gn := grow_new1 (ob := .tup (vs ++ ws)) sF np
      exact q _ _ _ gn ⟨p, hp1 p _, rfl, hp1_in, _, hp1_same, (i1.app i2).mono gn.f⟩
/-! ### texts -/
theorem strOk_app {x y : Str} (hx : PyData.strOk x = true) (hy : PyData.strOk y = true) : PyData.strOk (x ++ y) = true := by
  unfold PyData.strOk at *
  show (x.cps ++ y.cps).all _ = true
  rw [Array.all_append, hx, hy]
  rfl
theorem ev_catS {x y : Str} (ha : EvE X ss a (sv (sStr x))) (hb : EvE X ss b (sv (sStr y))) (hl : x.length + y.length ≤ sizeLine) : EvE X ss (.BinOp a .Add b pos) (sv (sStr (x ++ y))) :=
  ev_bin op_add_str ha hb fun F H v w Q sF ⟨e1, k1⟩ ⟨e2, k2⟩ q => ⟨x, y, e1, e2, hl, q _ F H (.refl sF) ⟨rfl, strOk_app k1 k2⟩⟩
theorem strOk_sub {z : Str} {l : List Nat} (h : PyData.strOk z = true) (hs : ∀ n ∈ l, n ∈ z.cps.toList) : PyData.strOk ⟨l.toArray⟩ = true := by
  unfold PyData.strOk at *
  rw [Array.all_eq_true'] at h ⊢
  intro n hn
  exact h n (by simpa using hs n (by simpa using hn))
end
end Sx
namespace Sx
open PySem PySem.Spec PyProof.Rows L2

section
variable {X : Cx} {ss ss' : List Sl} {e a b c : Expr} {es : List Expr} {st : Stmt} {sts rest body orelse : List Stmt} {D : Ds} {ρ τ κ : R} {s t : S} {o o' : O} {pos p p2 : Pos} {k : Nat} {α β : Type} {T : α → S} {U : β → S} {xs ys : List α} {x y : α}
/-! ### blocks -/
theorem r_nil (h : D.nx ss) : EvSs X ss [] D := .mk fun B F H σ hs tk => toSs pss_nil ⟨F, ss, hs, h⟩
theorem r_cons (h : EvS X ss st { D with nx := fun ss' => EvSs X ss' rest D }) : EvSs X ss (st :: rest) D := .mk fun B F H σ hs tk =>
  toSs (pss_cons PSw PSsw) (fun pins s I => thn (h B F H σ hs tk pins s I) fun f s' q => SP_mono q (fun σ' H' ⟨F', ss', hs', q⟩ => q B F' H' σ' hs' tk) (fun _ _ z => z) (fun _ _ z => z) (fun _ _ z => z))
theorem r_one (h : EvS X ss st D) : EvSs X ss [st] D := .mk fun B F H σ hs tk => toSs (pss_one PSw) (h B F H σ hs tk)
/-- Mid: what is shown once for all that follows -/
theorem r_cut (Mid : List Sl → Prop) (h : EvS X ss st { D with nx := Mid }) (k : ∀ ss', Mid ss' → EvSs X ss' rest D) : EvSs X ss (st :: rest) D := r_cons (.mk fun B F H σ hs tk pins s I =>
  thn (h B F H σ hs tk pins s I) fun f s' q => SP_mono q (fun σ' H' ⟨F', ss', hs', q⟩ => ⟨F', ss', hs', k ss' q⟩) (fun _ _ z => z) (fun _ _ z => z) (fun _ _ z => z))
/-- an own object is handed out -/
theorem r_pub (i : Nat) (hi : ss[i]? = some (.own o)) (h : EvSs X (ss.set i (.val (sO o))) sts D) : EvSs X ss sts D := .mk fun B F H σ hs tk => by
  obtain ⟨F', _, hs'⟩ := hs.pub hi
  exact h B F' H σ hs' tk
theorem r_weak (i : Nat) (hi : ss[i]? = some (.val s)) (w : ∀ F v, s.r F v → t.r F v) (h : EvSs X (ss.set i (.val t)) sts D) : EvSs X ss sts D := .mk fun B F H σ hs tk => h B F H σ (hs.weak hi (w F)) tk
theorem r_any (i : Nat) (h : EvSs X (ss.set i .any) sts D) : EvSs X ss sts D := .mk fun B F H σ hs tk => h B F H σ hs.any tk
/-- what is only known to be there -/
theorem r_ex {γ : Type} {P : γ → Prop} {f : γ → S} (i : Nat) (hi : ss[i]? = some (.val (sEx P f))) (h : ∀ g, P g → EvSs X (ss.set i (.val (f g))) sts D) : EvSs X ss sts D := .mk fun B F H σ hs tk => by
  obtain ⟨v, ev, g, hp, hr⟩ := hs.val hi
  have k := hs.set (i := i) (v := v) (s := f g) hr
  have q : σ.set i (some v) = σ := by
    obtain ⟨hl, hv⟩ := List.getElem?_eq_some_iff.mp ev
    rw [← hv]
    exact List.set_getElem_self hl
  rw [q] at k
  exact h g hp B F H σ k tk
theorem RtP.imp {B : Bs} {D D' : Ds} {v : V} {H : Hp} (h : RtP B D v H) (r : ∀ s, D.rt s → D'.rt s) (n : ∀ o, D.rn o → D'.rn o) (b : ∀ o s, D.rb o s → D'.rb o s) (bn : ∀ o o2, D.rbn o o2 → D'.rbn o o2) : RtP B D' v H := by
  rcases h with ⟨F, s, g, q, k⟩ | ⟨F, k, p, o, e, g, f, q, z⟩ | ⟨F, k, p, o, s, g, q, c, q2, z⟩ | ⟨F, k, p, o, k2, p2, o2, e, g, c, q, c2, q2, ap, z⟩
  · exact .known F s g q (r _ k)
  · exact .fresh F k p o e g f q (n _ z)
  · exact .lent F k p o s g q c q2 (b _ _ z)
  · exact .lentN F k p o k2 p2 o2 e g c q c2 q2 ap (bn _ _ z)
theorem r_imp {D' : Ds} (h : EvSs X ss sts D) (n : ∀ ss, D.nx ss → D'.nx ss) (r : ∀ s, D.rt s → D'.rt s) (b : ∀ ss, D.bk ss → D'.bk ss) (c : ∀ ss, D.ct ss → D'.ct ss) (x : ∀ x ss, D.ex x ss → D'.ex x ss := by exact fun _ _ h => h) (rn : ∀ o, D.rn o → D'.rn o := by exact fun _ h => h)
    (rb : ∀ o s, D.rb o s → D'.rb o s := by exact fun _ _ h => h) (rbn : ∀ o o2, D.rbn o o2 → D'.rbn o o2 := by exact fun _ _ h => h) : EvSs X ss sts D' := .mk fun B F H σ hs tk =>
  wpSs_mono (h B F H σ hs (tk.imp x)) (fun _ _ ⟨F', s', h', q⟩ => ⟨F', s', h', n _ q⟩) (fun _ _ z => RtP.imp z r rn rb rbn) (fun _ _ ⟨F', s', h', q⟩ => ⟨F', s', h', b _ q⟩) (fun _ _ ⟨F', s', h', q⟩ => ⟨F', s', h', c _ q⟩)
/-! ### statements -/
theorem s_asg (i : Nat) {x : Str} {pos' : Pos} (hN : X.N.Nodup) (he : EvE X ss e (sv s)) (k : D.nx (ss.set i (.val s))) (hi : X.N[i]? = some x := by rfl) (hx : Loc X.env.scope x := by first | exact Or.inl rfl | exact Or.inr rfl)
    (hs : swapsWith e (some (.Name x pos')) pos.line X.env = pure false := by rfl) (hf : X.fn x = true ∨ X.env.scope.names.lookup x = some .local := by first | exact .inl rfl | exact .inr rfl) : EvS X ss (.Assign [.Name x pos'] e pos) D := .mk fun B F H σ h tk =>
  toS (ps_set hN hi hx PEw hs hf) (he B F H σ h _ fun v F' H' g r => ⟨F', _, (h.grow g).set r, k⟩)
theorem s_asgN (i : Nat) {x : Str} {pos' : Pos} (hN : X.N.Nodup) (he : EvN X ss e o) (k : D.nx (ss.set i (.own o))) (hi : X.N[i]? = some x := by rfl) (hx : Loc X.env.scope x := by first | exact Or.inl rfl | exact Or.inr rfl)
    (hs : swapsWith e (some (.Name x pos')) pos.line X.env = pure false := by rfl) (hf : X.fn x = true ∨ X.env.scope.names.lookup x = some .local := by first | exact .inl rfl | exact .inr rfl) : EvS X ss (.Assign [.Name x pos'] e pos) D := .mk fun B F H σ h tk =>
  toS (ps_set hN hi hx PEw hs hf) (he B F H σ h _ fun p F' H' c g n r => ⟨F', _, h.setO g n r, k⟩)
theorem s_if {q : Bool} (hc : EvT X ss c q) (h1 : q = true → EvSs X ss body D) (h2 : q = false → EvSs X ss orelse D) : EvS X ss (.If c body orelse pos) D := .mk fun B F H σ h tk =>
  toS (ps_if PTw PSsw PSsw) (hc B F H σ h _ fun F' H' g => by
    cases q with
    | true => exact iteT (h1 rfl B F' H' σ (h.grow g) tk)
    | false => exact iteF (h2 rfl B F' H' σ (h.grow g) tk))
theorem s_ret (he : EvE X ss e (sv s)) (k : D.rt s) : EvS X ss (.Return (some e) pos) D := .mk fun B F H σ h tk =>
  toS (ps_ret PEw) (he B F H σ h _ fun v F' H' g r => .known F' s (h.g.trans g) r k)
/-- a new object is handed back -/
theorem s_retN (he : EvN X ss e o) (k : D.rn o) : EvS X ss (.Return (some e) pos) D := .mk fun B F H σ h tk =>
  toS (ps_ret PEw) (he B F H σ h _ fun p F' H' c g n r => .fresh F' c p o rfl (h.g.trans g) (fun a ob e => ⟨(n a ob e).2.2, h.g.h.free (n a ob e).1, (n a ob e).2.1⟩) r k)
/-- .. an own one, by its name -/
theorem s_retO (i : Nat) {x : Str} (hs : ss[i]? = some (.own o)) (k : D.rn o) (hN : X.N[i]? = some x := by rfl) (hv : Vis X.env.scope x := by first | exact Or.inl rfl | exact Or.inr (Or.inl rfl) | exact Or.inr (Or.inr rfl))
    (hd : (x == ("__debug__" : Str)) = false := by decide) (hcd : (x == ("__classdict__" : Str)) = false := by decide) : EvS X ss (.Return (some (.Name x p)) pos) D := .mk fun B F H σ h tk => by
  obtain ⟨a, c, e1, hk, r⟩ := h.own hs
  exact toS (ps_ret PEw) (toE (pe_var (i := i) hN hv hd hcd) ⟨_, e1, .fresh F c a o rfl h.g hk r k⟩)
theorem s_pass (k : D.nx ss) : EvS X ss (.Pass pos) D := .mk fun B F H σ h tk => toS ps_pass ⟨F, ss, h, k⟩
theorem s_break (k : D.bk ss) : EvS X ss (.Break pos) D := .mk fun B F H σ h tk => toS ps_break ⟨F, ss, h, k⟩
theorem s_cont (k : D.ct ss) : EvS X ss (.Continue pos) D := .mk fun B F H σ h tk => toS ps_continue ⟨F, ss, h, k⟩
theorem s_drop (he : EvE X ss e ρ) (k : D.nx ss) (hs : swapsWith e none pos.line X.env = pure false := by rfl) : EvS X ss (.Expr e pos) D := .mk fun B F H σ h tk =>
  toS (ps_expr PEw hs) (he B F H σ h _ fun v F' H' g r => ⟨F', ss, h.grow g, k⟩)
/-- name += e -/
theorem s_aug (i : Nat) {x : Str} {pos' : Pos} {u w : Int} (hN : X.N.Nodup) (hi : ss[i]? = some (.val (sInt u))) (he : EvE X ss e (sv (sInt w))) (k : D.nx (ss.set i (.val (sInt (u + w))))) (hn : X.N[i]? = some x := by rfl) (hx : Loc X.env.scope x := by first | exact Or.inl rfl | exact Or.inr rfl)
    (hf : X.fn x = true ∨ X.env.scope.names.lookup x = some .local := by first | exact .inl rfl | exact .inr rfl) : EvS X ss (.AugAssign (.Name x pos') .Add e pos) D := .mk fun B F H σ h tk => by
  obtain ⟨v, ev, r⟩ := h.val hi
  exact toS (ps_aug hN hn hx PEw ip_add hf) ⟨v, ev, he B F H σ h _ fun w' F' H' g r' => ⟨u, w, r, r', F', _, (h.grow g).set (s := sInt (u + w)) rfl, k⟩⟩
/-- row.append(e) of an own list -/
theorem s_app (i : Nat) {x : Str} {p1 apos cpos : Pos} (hi : ss[i]? = some (.own (oLst T xs))) (he : EvE X ss e (sv (T y))) (hl : xs.length < sizeLine) (k : D.nx (ss.set i (.own (oLst T (xs ++ [y]))))) (hN : X.N[i]? = some x := by rfl)
    (hv : Vis X.env.scope x := by first | exact Or.inl rfl | exact Or.inr (Or.inl rfl) | exact Or.inr (Or.inr rfl)) (hd : (x == ("__debug__" : Str)) = false := by decide) (hcd : (x == ("__classdict__" : Str)) = false := by decide)
    (hbase : attributeBase (.Name x p1) "append" X.env (eval (.Name x p1) X.env) = eval (.Name x p1) X.env := by rfl)
    (hfew : ((backTo cpos (starEach [e] X.env)).all (fun x => !x.1) && (backToKw cpos (keywordEach [] X.env)).all (fun x => x.1.isSome) && decide ([e].length + ([] : List Keyword).length + (if ([] : List Keyword).isEmpty then 0 else 1) < 30)) = true := by rfl)
    (hline : (apos.endLine == cpos.line) = true := by rfl) (hs : starEach [e] X.env = (false, eval e X.env) :: starEach [] X.env := by exact star_ok rfl) (hplain : (backTo cpos (starEach [] X.env)).any (·.1) = false := by rfl)
    (hsw : swapsWith (.Call (.Attribute (.Name x p1) "append" apos) [e] [] cpos) none pos.line X.env = pure false := by rfl) : EvS X ss (.Expr (.Call (.Attribute (.Name x p1) "append" apos) [e] [] cpos) pos) D := .mk fun B F H σ h tk => by
  obtain ⟨p, c, e1, hc, vs, e2, hi'⟩ := h.own hi
  have hh := (hc _ _ e2).1
  refine toS (ps_expr (pe_bm PySem.F.plainAttrs_list PySem.F.slot_list_append PySem.F.type_list_append mt_append (pe_var hN hv hd hcd) (pa_cons PEw pa_nil hs) hbase hfew hline hs hplain) hsw) ?_
  refine ⟨_, e1, .inl ⟨rfl, vs, SqL.of hh⟩, ?_⟩
  refine he B F H σ h _ fun v F' H' g r => ?_
  refine ⟨p, vs, v, rfl, rfl, g.h _ _ hh, by rw [hi'.len]; exact hl, ?_⟩
  obtain ⟨p', c', e1', hc', ⟨vs', e2', hi2⟩, wr⟩ := (h.grow g).write hi
  rw [e1] at e1'
  injection e1' with e1'
  injection e1' with e1'
  injection e1' with e1'
  subst e1'
  have ev : vs' = vs := by
    have q1 := (hc' _ _ e2').1
    rw [g.h _ _ hh] at q1
    injection q1 with q1
    injection q1 with q1
    exact q1.symm
  subst ev
  refine ⟨F', _, wr (oLst T (xs ++ [y])) (upd c' p (.lst (vs' ++ [v]))) _ (fun a ob za ea => ?_) (fun a ob ea => ?_) (fun a ob na ea => ?_) (fun a ob ea na => ?_) ⟨_, upd_same, hi2.snoc r⟩, k⟩
  · have ha : a ≠ p := fun z => by
      subst z
      rw [e2'] at ea
      cases ea
      exact za.elim
    rw [upd_ne ha]
    exact (hc' _ _ ea).1
  · by_cases ha : a = p
    · subst ha
      rw [upd_same] at ea ⊢
      exact ea
    · rw [upd_ne ha] at ea ⊢
      exact (hc' _ _ ea).1
  · rw [upd_ne (fun z => by subst z; rw [e2'] at na; cases na)]
    exact ea
  · by_cases ha : a = p
    · subst ha
      rw [e2'] at na
      cases na
    · rw [upd_ne ha, na] at ea
      cases ea
/-! ### loops -/
theorem grow_base {B : Bs} {F1 H1 F H : Hp} (h : Grow B.F B.H F1 H1) (g : Grow F1 B.H F H) : Grow B.F B.H F H := ⟨h.f.trans g.f, g.h, g.s, fun p o e n => by
  cases q : F1 p with
  | some o' =>
    have e2 := g.f p o' q
    rw [e] at e2
    cases e2
    exact h.n p _ q n
  | none => exact g.n p o e q⟩
theorem RtP.base {B : Bs} {D : Ds} {F1 H1 : Hp} {v : V} {H : Hp} (h : Grow B.F B.H F1 H1) (z : RtP ⟨F1, B.H⟩ D v H) : RtP B D v H := by
  rcases z with ⟨F, s, g, q, k⟩ | ⟨F, k, p, o, e, g, f, q, z⟩ | ⟨F, k, p, o, s, g, q, c, q2, z⟩ | ⟨F, k, p, o, k2, p2, o2, e, g, c, q, c2, q2, ap, z⟩
  · exact .known F s (grow_base h g) q k
  · exact .fresh F k p o e (grow_base h g) f q z
  · exact .lent F k p o s (grow_base h g) q c q2 z
  · exact .lentN F k p o k2 p2 o2 e (grow_base h g) c q c2 q2 ap z
theorem Tk.lift {X : Cx} {B : Bs} {F1 H1 : Hp} {ex : Xo → List Sl → Prop} (g : Grow B.F B.H F1 H1) (t : Tk X B ex) : Tk X ⟨F1, B.H⟩ ex := Takes.imp t fun _ _ _ _ ⟨x, F, ss, a, h, b⟩ => ⟨x, F, ss, a, ⟨grow_base g h.g, h.len, by
  obtain ⟨fp, k1, k2⟩ := h.fp
  exact ⟨fp, k1, k2.at_, k2.ap⟩⟩, b⟩
theorem sat_base {B : Bs} {F1 H1 F H : Hp} {σ σ1 : L2.St} (h1 : Sat B F1 H1 σ1 ss) (h : Sat ⟨F1, B.H⟩ F H σ ss') : Sat B F H σ ss' := ⟨grow_base h1.g h.g, h.len, by
  obtain ⟨fp, k1, k2⟩ := h.fp
  exact ⟨fp, k1, k2.at_, k2.ap⟩⟩
theorem sat_lift {B : Bs} {F1 H1 : Hp} {σ : L2.St} (h : Sat B F1 H1 σ ss) : Sat ⟨F1, B.H⟩ F1 H1 σ ss := ⟨⟨Same.refl _, h.g.h, h.g.s, fun p o e n => by
  have n' : F1 p = none := n
  rw [n'] at e
  cases e⟩, h.len, by
  obtain ⟨fp, k1, k2⟩ := h.fp
  exact ⟨fp, k1, k2.at_, k2.ap⟩⟩
/-- for x in a list or tuple that stands still; I: what holds of the slots at each turn -/
theorem s_for (i : Nat) {x : Str} {px : Pos} {iter : Expr} (hp : PassesOwn (model X.prog X.w) X.A X.env X.xe) (hc : X.calm = true) (hN : X.N.Nodup) (I : Nat → List Sl → Prop) [hq : AsSq X.K (sv s) T xs] (hi : EvE X ss iter (sv s)) (h0 : I 0 ss)
    (hs : ∀ k (y : α) ss', xs[k]? = some y → I k ss' → EvSs X (ss'.set i (.val (T y))) body { D with nx := I (k + 1), ct := I (k + 1), bk := D.nx }) (hd : ∀ ss', I xs.length ss' → D.nx ss')
    (hn : X.N[i]? = some x := by rfl) (hx : Loc X.env.scope x := by first | exact Or.inl rfl | exact Or.inr rfl) (hf : X.fn x = true ∨ X.env.scope.names.lookup x = some .local := by first | exact .inl rfl | exact .inr rfl) (hfs : ∀ x, foldedSetIterable iter X.env x = pure x := by intro _; rfl) :
    EvS X ss (.For (.Name x px) iter body [] pos) D := .mk fun B F H σ h tk => by
  have pg : PG X (.Name x px) (gName i) := pg_name hN hn hx hf
  have turn : ∀ {F1 H1 : Hp} (h1 : Sat B F1 H1 σ ss) (k : Nat) (v : V) (σ' : L2.St) (H' : Hp) (y : α), xs[k]? = some y → (T y).r F1 v → (∃ F' ss', Sat ⟨F1, B.H⟩ F' H' σ' ss' ∧ I k ss') →
      wpSs X body { (dn B D) with nx := fun σ H => ∃ F ss, Sat ⟨F1, B.H⟩ F H σ ss ∧ I (k + 1) ss, ct := fun σ H => ∃ F ss, Sat ⟨F1, B.H⟩ F H σ ss ∧ I (k + 1) ss, bk := (dn B D).nx } (σ'.set i (some v)) H' := fun h1 k v σ' H' y hy r ⟨F', ss', hs', hI⟩ =>
    wpSs_mono (hs k y ss' hy hI ⟨_, B.H⟩ F' H' _ (hs'.set ((T y).mono hs'.g.f r)) (tk.lift h1.g)) (fun _ _ q => q) (fun v H z => RtP.base h1.g z) (fun _ _ ⟨F2, s2, g2, q2⟩ => ⟨F2, s2, sat_base h1 g2, q2⟩) (fun _ _ q => q)
  have fin : ∀ {F1 H1 : Hp} (h1 : Sat B F1 H1 σ ss) (σ' : L2.St) (H' : Hp), (∃ F' ss', Sat ⟨F1, B.H⟩ F' H' σ' ss' ∧ I xs.length ss') → (dn B D).nx σ' H' := fun h1 σ' H' ⟨F', ss', hs', hI⟩ => ⟨F', ss', sat_base h1 hs', hd ss' hI⟩
  intro pins sh inv
  refine (toS (ps_for hp hc (PIw) pg PSsw hfs) (D := dn B D) (σ := σ) (H := H) ?_) pins sh inv
  intro pins s2 inv2
  refine thn (hi B F H σ h (fun v H' => ∃ F', Grow F H F' H' ∧ s.r F' v) (fun v F' H' g r => ⟨F', g, r⟩) pins s2 inv2) fun u s3 ⟨v, H1, I3, rv, F1, g1, r1⟩ => ?_
  obtain ⟨p1, vs, ev, hk, hits⟩ := hq.w F1 F1 v (Same.refl _) r1
  subst ev
  cases rv
  have h1 := h.grow g1
  rcases hk with hk | hk
  · have hL : SqL X.K H1 p1 vs := SqL.same g1.s hk
    obtain ⟨its, rvs, pl, hz⟩ := I3.list hL
    refine wpAny_pyIter_list pl.isList ?_
    refine ⟨s3.heap.objs.size, [s3.heap.objs.size], _, _, H1, rfl, I3.kept (t' := s3.toks) fun b o e => Heap.get?_push_of_some _ e, turn_list p1 _, ⟨_, Heap.get?_push_size _ rfl, rfl, rfl⟩, fun b hb => ?_, ?_⟩
    · have e : b = s3.heap.objs.size := by simpa using hb
      subst e
      exact I3.fpOk (Nat.le_refl _) (I3.hok.fresh (Nat.le_refl _))
    · refine for_list (xs := vs) (fun k σ' H' => ∃ F' ss', Sat ⟨F1, B.H⟩ F' H' σ' ss' ∧ I k ss') ⟨F1, ss, sat_lift h1, h0⟩ (fun k σ' H' _ ⟨F', ss', hs', _⟩ => SqL.same (hs'.g.f.trans hs'.s) hk) (fun k v σ' H' hv hI => ?_) (fun σ' H' hI => ?_)
      · obtain ⟨y, hy, ry⟩ := hits.get hv
        exact turn h1 k v σ' H' y hy ry hI
      · rw [hits.len] at hI
        exact fin h1 σ' H' hI
  · have hL : SqT X.K H1 p1 vs := SqT.same g1.s hk
    obtain ⟨its, rvs, pl, hz⟩ := I3.tuple hL
    refine wpAny_pyIter_tuple (show s3.heap.IsTuple p1 its.toArray from pl) ?_
    refine ⟨s3.heap.objs.size, [s3.heap.objs.size], _, _, H1, rfl, I3.kept (t' := s3.toks) fun b o e => Heap.get?_push_of_some _ e, turn_tuple p1 _, ⟨_, Heap.get?_push_size _ rfl, rfl, rfl⟩, fun b hb => ?_, ?_⟩
    · have e : b = s3.heap.objs.size := by simpa using hb
      subst e
      exact I3.fpOk (Nat.le_refl _) (I3.hok.fresh (Nat.le_refl _))
    · refine for_tup (xs := vs) (fun k σ' H' => ∃ F' ss', Sat ⟨F1, B.H⟩ F' H' σ' ss' ∧ I k ss') ⟨F1, ss, sat_lift h1, h0⟩ (fun k σ' H' _ ⟨F', ss', hs', _⟩ => SqT.same (hs'.g.f.trans hs'.s) hk) (fun k v σ' H' hv hI => ?_) (fun σ' H' hI => ?_)
      · obtain ⟨y, hy, ry⟩ := hits.get hv
        exact turn h1 k v σ' H' y hy ry hI
      · rw [hits.len] at hI
        exact fin h1 σ' H' hI
/-- for x in range(n) -/
theorem s_forR (i : Nat) {x : Str} {px pr : Pos} {n : Int} (hp : PassesOwn (model X.prog X.w) X.A X.env X.xe) (hc : X.calm = true) (hN : X.N.Nodup) (hm : X.mg "range" = none) (I : Nat → List Sl → Prop) (hi : EvE X ss a (sv (sInt n))) (hb : -(2 ^ 62) ≤ n ∧ n < 2 ^ 62) (h0 : I 0 ss)
    (hs : ∀ (k : Nat) ss', (k : Int) < n → I k ss' → EvSs X (ss'.set i (.val (sInt (k : Int)))) body { D with nx := I (k + 1), ct := I (k + 1), bk := D.nx }) (hd : ∀ ss', I n.toNat ss' → D.nx ss')
    (hn : X.N[i]? = some x := by rfl) (hx : Loc X.env.scope x := by first | exact Or.inl rfl | exact Or.inr rfl) (hf : X.fn x = true ∨ X.env.scope.names.lookup x = some .local := by first | exact .inl rfl | exact .inr rfl)
    (hg : Gl X "range" := by rfl) (hst : starEach [a] X.env = [(false, eval a X.env)] := by exact star_one rfl) (hfs : ∀ x, foldedSetIterable (.Call (.Name "range" pr) [a] [] p) X.env x = pure x := by intro _; rfl) :
    EvS X ss (.For (.Name x px) (.Call (.Name "range" pr) [a] [] p) body [] pos) D := .mk fun B F H σ h tk => by
  have ha : PA X [a] (tCons (wpE X a) tNil) := pa_cons PEw pa_nil (by rw [hst]; rfl)
  refine toS (ps_for hp hc (pi_range1 hg hm ha hst) (pg_name hN hn hx hf) PSsw hfs) ?_
  refine hi B F H σ h _ fun v F1 H1 g1 r1 => ?_
  have ev : v = .int n := r1
  subst ev
  refine ⟨n, rfl, hb.1, hb.2, ?_⟩
  have h1 := h.grow g1
  refine for_range (lo := 0) (n := n.toNat) (fun k σ' H' => ∃ F' ss', Sat B F' H' σ' ss' ∧ I k ss') ⟨F1, ss, h1, h0⟩ (fun k σ' H' hk ⟨F', ss', hs', hI⟩ => ?_) (fun σ' H' ⟨F', ss', hs', hI⟩ => ⟨F', ss', hs', hd ss' hI⟩)
  rw [Int.zero_add]
  exact hs k ss' (by omega) hI B F' H' _ (hs'.set (s := sInt (k : Int)) rfl) tk
/-- while c: I the word, μ what falls -/
theorem s_while (hp : PassesOwn (model X.prog X.w) X.A X.env X.xe) {γ : Type} (I : γ → List Sl → Prop) (μ : γ → Nat) (g0 : γ) (h0 : I g0 ss)
    (hs : ∀ g ss', I g ss' → ∃ q, EvT X ss' c q ∧ (q = true → EvSs X ss' body { D with nx := fun ss2 => ∃ g', μ g' < μ g ∧ I g' ss2, ct := fun ss2 => ∃ g', μ g' < μ g ∧ I g' ss2, bk := D.nx }) ∧ (q = false → D.nx ss')) :
    EvS X ss (.While c body [] pos) D := .mk fun B F H σ h tk => by
  refine toS (ps_while hp PTw PSsw) ?_
  refine ⟨fun m σ H => ∃ g F ss, μ g = m ∧ Sat B F H σ ss ∧ I g ss, ⟨μ g0, g0, F, ss, rfl, h, h0⟩, ?_⟩
  rintro m σ' H' ⟨g, F', ss', em, hs', hI⟩
  obtain ⟨q, hc, k1, k2⟩ := hs g ss' hI
  refine hc B F' H' σ' hs' _ fun F2 H2 g2 => ?_
  cases q with
  | true =>
    rw [if_pos rfl]
    refine ⟨fun σ H => ∃ F ss, Sat B F H σ ss ∧ ∃ g', μ g' < μ g ∧ I g' ss, fun σ3 H3 ⟨F3, ss3, hs3, g', lt, i3⟩ => ⟨μ g', by omega, g', F3, ss3, rfl, hs3, i3⟩, ?_⟩
    exact k1 rfl B F2 H2 σ' (hs'.grow g2) tk
  | false =>
    rw [if_neg Bool.false_ne_true]
    exact ⟨F2, ss', hs'.grow g2, k2 rfl⟩
end
end Sx
namespace Sx
open PySem PySem.Spec PyProof.Rows L2

/-! ### comprehensions -/
def teB (X : Cx) (scope : Scope) (e : Expr) : TE := fun σ H Q => ∀ (s : Shared) (H0 : Hp) (C : Addr) (cl : List (Str × Addr)) (fp : List Addr), wpE (X.blk s H0 scope (compEnvC scope cl C X.env) fp) e σ H Q
def ttB (X : Cx) (scope : Scope) (ifs : List Expr) : TT := fun σ H Q => ∀ (s : Shared) (H0 : Hp) (C : Addr) (cl : List (Str × Addr)) (fp : List Addr), wpTs (X.blk s H0 scope (compEnvC scope cl C X.env) fp) ifs σ H Q
structure EvTs (X : Cx) (ss : List Sl) (ifs : List Expr) (b : Bool) : Prop where
  go : ∀ (B : Bs) (F H : Hp) (σ : L2.St), Sat B F H σ ss → ∀ Q : Bool → Hp → Prop, (∀ F' H', Grow F H F' H' → Q b H') → wpTs X ifs σ H Q
instance {X : Cx} {ss : List Sl} {ifs : List Expr} {b : Bool} : CoeFun (EvTs X ss ifs b) (fun _ => ∀ (B : Bs) (F H : Hp) (σ : L2.St), Sat B F H σ ss → ∀ Q : Bool → Hp → Prop, (∀ F' H', Grow F H F' H' → Q b H') → wpTs X ifs σ H Q) := ⟨EvTs.go⟩
/-- within the block -/
def BlkE (X : Cx) (scope : Scope) (ss : List Sl) (e : Expr) (ρ : R) : Prop := ∀ (s : Shared) (H0 : Hp) (C : Addr) (cl : List (Str × Addr)) (fp : List Addr), EvE (X.blk s H0 scope (compEnvC scope cl C X.env) fp) ss e ρ
def BlkT (X : Cx) (scope : Scope) (ss : List Sl) (ifs : List Expr) (b : Bool) : Prop := ∀ (s : Shared) (H0 : Hp) (C : Addr) (cl : List (Str × Addr)) (fp : List Addr), EvTs (X.blk s H0 scope (compEnvC scope cl C X.env) fp) ss ifs b
section
variable {X : Cx} {ss : List Sl} {e c elt : Expr} {ifs : List Expr} {scope : Scope} {α β : Type} {T : α → S} {U : β → S} {xs : List α} {s : S} {o : O} {pos : Pos}
theorem ets_nil : EvTs X ss [] true := .mk fun B F H σ h Q q => toTs pts_nil (q F H (.refl h.s))
theorem ets_one {b : Bool} (hc : EvT X ss c b) : EvTs X ss [c] b := .mk fun B F H σ h Q q => toTs (pts_one PTw) (hc B F H σ h Q q)
theorem bt_nil : BlkT X scope ss [] true := fun _ _ _ _ _ => ets_nil
theorem PEb (s : Shared) (H0 : Hp) (C : Addr) (cl : List (Str × Addr)) (fp : List Addr) : PE (X.blk s H0 scope (compEnvC scope cl C X.env) fp) e (teB X scope e) := ⟨fun pins s σ H Q I h => h _ _ _ _ _ pins s I⟩
theorem PTsb (s : Shared) (H0 : Hp) (C : Addr) (cl : List (Str × Addr)) (fp : List Addr) : PTs (X.blk s H0 scope (compEnvC scope cl C X.env) fp) ifs (ttB X scope ifs) := ⟨fun pins s σ H Q I h => h _ _ _ _ _ pins s I⟩
/-- the list so far, at D -/
def LcPv (U : β → S) (F1 H1 : Hp) (D : Addr) (r : List β) (H : Hp) : Prop := ∃ F acc, Grow F1 H1 F H ∧ F D = none ∧ H D = some (.lst acc) ∧ Its U F r acc
theorem lcpv_0 {F1 H1 : Hp} {D : Addr} (sF : Same F1 H1) (n : H1 D = none) : LcPv U F1 H1 D [] (upd H1 D (.lst [])) := ⟨F1, [], .new sF n, sF.free n, upd_same, Its.nil⟩
theorem lc_step {B : Bs} {F1 H1 : Hp} {σ : L2.St} {D : Addr} {j : Nat} {b : Bool} {y : β} {r0 r1 : List β} {v : V} {H : Hp} (h1 : Sat B F1 H1 σ ss) (nD : H1 D = none) (ht : BlkT X scope (ss.set j (.val s)) ifs b) (he : b = true → BlkE X scope (ss.set j (.val s)) elt (sv (U y)))
    (hr : r1 = if b = true then r0 ++ [y] else r0) (hl : r0.length < sizeLine) (r : s.r F1 v) (hp : LcPv U F1 H1 D r0 H) :
    gName j v (wipe σ [j]) H fun σ2 H2 => wipe σ2 [j] = wipe σ [j] ∧ ttB X scope ifs σ2 H2 fun b H3 =>
      if b = true then teB X scope elt σ2 H3 fun y H4 => ∃ acc, H4 D = some (.lst acc) ∧ acc.length < sizeLine ∧ LcPv U F1 H1 D r1 (upd H4 D (.lst (acc ++ [y]))) else LcPv U F1 H1 D r1 H3 := by
  obtain ⟨F, acc, g, fD, hD, hi⟩ := hp
  have hw : wipe σ [j] = σ.set j none := rfl
  have hs2 : Sat B F H ((wipe σ [j]).set j (some v)) (ss.set j (.val s)) := by
    have k := ((h1.grow g).wipe1 (i := j)).set (i := j) (s.mono g.f r)
    rw [show (ss.set j Sl.any).set j (Sl.val s) = ss.set j (.val s) from List.set_set _] at k
    exact k
  show _ ∧ _
  refine ⟨?_, fun s0 H0 C cl fp => ht s0 H0 C cl fp B F H _ hs2 _ fun F2 H2 g2 => ?_⟩
  · show ((wipe σ [j]).set j (some v)).set j none = σ.set j none
    rw [hw, List.set_set, List.set_set]
  have fD2 : F2 D = none := by
    cases q : F2 D with
    | none => rfl
    | some o' =>
      exfalso
      rcases g2.n D o' q fD with z | z
      · rw [hD] at z
        cases z
      · have e1 := g2.s D o' q
        rw [g2.h _ _ hD] at e1
        cases e1
        exact z
  cases b with
  | false =>
    rw [if_neg Bool.false_ne_true] at hr ⊢
    subst hr
    exact ⟨F2, acc, g.trans g2, fD2, g2.h _ _ hD, hi.mono g2.f⟩
  | true =>
    rw [if_pos rfl] at hr ⊢
    subst hr
    refine fun s0 H0 C cl fp => he rfl s0 H0 C cl fp B F2 H2 _ (hs2.grow g2) _ fun u F3 H3 g3 ru => ?_
    have g4 := (g.trans g2).trans g3
    have fD3 : F3 D = none := by
      cases q : F3 D with
      | none => rfl
      | some o' =>
        exfalso
        rcases g3.n D o' q fD2 with z | z
        · rw [g2.h _ _ hD] at z
          cases z
        · have e1 := g3.s D o' q
          rw [g3.h _ _ (g2.h _ _ hD)] at e1
          cases e1
          exact z
    refine ⟨acc, g3.h _ _ (g2.h _ _ hD), by rw [hi.len]; exact hl, F3, acc ++ [u], ⟨g4.f, fun a o ea => ?_, fun a o ea => ?_, g4.n⟩, fD3, upd_same, ((hi.mono g2.f).mono g3.f).snoc ru⟩
    · rw [upd_ne (ne_of_none ea nD)]
      exact g4.h a o ea
    · rw [upd_ne (ne_of_none ea fD3)]
      exact g4.s a o ea
/-- what a comprehension makes -/
structure Lc (X : Cx) (ss : List Sl) (elt tg iter : Expr) (ifs : List Expr) (scope : Scope) (j : Nat) (o : O) : Prop where
  go : ∀ (B : Bs) (F H : Hp) (σ : L2.St), Sat B F H σ ss → ∀ Q : VK,
    (∀ p F' H' k, Grow F H F' H' → (∀ a ob, k a = some ob → H a = none ∧ (F' a = none ∨ IsT ob) ∧ H' a = some ob) → o.r F' k p → Q (.ref p) H') → tLc (wpI X tg iter) (gName j) (ttB X scope ifs) (teB X scope elt) [j] σ H Q
instance {X : Cx} {ss : List Sl} {elt tg iter : Expr} {ifs : List Expr} {scope : Scope} {j : Nat} {o : O} : CoeFun (Lc X ss elt tg iter ifs scope j o) (fun _ => ∀ (B : Bs) (F H : Hp) (σ : L2.St), Sat B F H σ ss → ∀ Q : VK,
    (∀ p F' H' k, Grow F H F' H' → (∀ a ob, k a = some ob → H a = none ∧ (F' a = none ∨ IsT ob) ∧ H' a = some ob) → o.r F' k p → Q (.ref p) H') → tLc (wpI X tg iter) (gName j) (ttB X scope ifs) (teB X scope elt) [j] σ H Q) := ⟨Lc.go⟩
theorem filter_take {p : α → Bool} {f : α → β} {i : Nat} {x : α} (h : xs[i]? = some x) : ((xs.take (i + 1)).filter p).map f = if p x = true then ((xs.take i).filter p).map f ++ [f x] else ((xs.take i).filter p).map f := by
  rw [List.take_add_one, h, Option.toList_some, List.filter_append, List.map_append]
  cases q : p x with
  | true => simp [q]
  | false => simp [q]
theorem lc_seq {iter : Expr} {tg : Expr} {ρ : R} (j : Nat) (p : α → Bool) (f : α → β) [hq : AsSq X.K ρ T xs] (hi : EvE X ss iter ρ) (hl : xs.length ≤ sizeLine)
    (ht : ∀ (i : Nat) x, xs[i]? = some x → BlkT X scope (ss.set j (.val (T x))) ifs (p x)) (he : ∀ (i : Nat) x, xs[i]? = some x → p x = true → BlkE X scope (ss.set j (.val (T x))) elt (sv (U (f x)))) :
    Lc X ss elt tg iter ifs scope j (oLst U ((xs.filter p).map f)) := .mk fun B F H σ h Q q => by
  show wpI X tg iter σ H _
  intro pins s1 inv
  refine thn (hi B F H σ h (fun v H' => ∃ F', Grow F H F' H' ∧ ρ.r F' H' v) (fun v F' H' g r => ⟨F', g, r⟩) pins s1 inv) fun u s3 ⟨v, H1, I3, rv, F1, g1, r1⟩ => ?_
  obtain ⟨p1, vs, ev, hk, hits⟩ := hq.w F1 H1 v g1.s r1
  subst ev
  cases rv
  have h1 := h.grow g1
  have stepS : ∀ (D : Addr), H1 D = none → ∀ (i : Nat) (v : V) (H' : Hp), vs[i]? = some v → LcPv U F1 H1 D (((xs.take i).filter p).map f) H' →
      gName j v (wipe σ [j]) H' fun σ2 H2 => wipe σ2 [j] = wipe σ [j] ∧ ttB X scope ifs σ2 H2 fun b H3 =>
        if b = true then teB X scope elt σ2 H3 fun y H4 => ∃ acc, H4 D = some (.lst acc) ∧ acc.length < sizeLine ∧ LcPv U F1 H1 D (((xs.take (i + 1)).filter p).map f) (upd H4 D (.lst (acc ++ [y]))) else LcPv U F1 H1 D (((xs.take (i + 1)).filter p).map f) H3 := fun D nD i v H' hv hP => by
    obtain ⟨x, hx, rx⟩ := hits.get hv
    refine lc_step h1 nD (ht i x hx) (fun b => he i x hx b) (filter_take hx) ?_ rx hP
    rw [List.length_map]
    refine Nat.lt_of_le_of_lt (List.length_filter_le _ _) ?_
    rw [List.length_take]
    have := (List.getElem?_eq_some_iff.mp hx).1
    omega
  have fin : ∀ (D : Addr), H1 D = none → ∀ H', LcPv U F1 H1 D (((xs.take vs.length).filter p).map f) H' → Q (.ref D) H' := fun D nD H' ⟨F', acc, g, fD, hD, hi'⟩ => by
    rw [hits.len, List.take_length] at hi'
    exact q D F' H' (hp1 D (.lst acc)) (g1.trans g) (fun a ob ea => by
      obtain ⟨rfl, rfl⟩ := hp1_some ea
      exact ⟨g1.h.free nD, .inl fD, hD⟩) ⟨acc, hp1_same, hi'⟩
  rcases hk with hL | hL
  · obtain ⟨its, rvs, pl, hz⟩ := I3.list hL
    refine wpAny_pyIter_list pl.isList ?_
    refine ⟨s3.heap.objs.size, [s3.heap.objs.size], _, _, H1, rfl, I3.kept (t' := s3.toks) fun b o e => Heap.get?_push_of_some _ e, turn_list p1 _, ⟨_, Heap.get?_push_size _ rfl, rfl, rfl⟩, fun b hb => ?_, fun D nD => ?_⟩
    · have e : b = s3.heap.objs.size := by simpa using hb
      subst e
      exact I3.fpOk (Nat.le_refl _) (I3.hok.fresh (Nat.le_refl _))
    · exact lc_list (xs := vs) (fun i H' => LcPv U F1 H1 D (((xs.take i).filter p).map f) H') (lcpv_0 g1.s nD) (fun i H' _ ⟨F', acc, g, _⟩ => SqL.same g.h hL) (fun i v H' hv hP => stepS D nD i v H' hv hP) (fun H' hP => fin D nD H' hP)
  · obtain ⟨its, rvs, pl, hz⟩ := I3.tuple hL
    refine wpAny_pyIter_tuple (show s3.heap.IsTuple p1 its.toArray from pl) ?_
    refine ⟨s3.heap.objs.size, [s3.heap.objs.size], _, _, H1, rfl, I3.kept (t' := s3.toks) fun b o e => Heap.get?_push_of_some _ e, turn_tuple p1 _, ⟨_, Heap.get?_push_size _ rfl, rfl, rfl⟩, fun b hb => ?_, fun D nD => ?_⟩
    · have e : b = s3.heap.objs.size := by simpa using hb
      subst e
      exact I3.fpOk (Nat.le_refl _) (I3.hok.fresh (Nat.le_refl _))
    · exact lc_tup (xs := vs) (fun i H' => LcPv U F1 H1 D (((xs.take i).filter p).map f) H') (lcpv_0 g1.s nD) (fun i H' _ ⟨F', acc, g, _⟩ => SqT.same g.h hL) (fun i v H' hv hP => stepS D nD i v H' hv hP) (fun H' hP => fin D nD H' hP)
/-- over range(n) -/
theorem lc_rng {a tg : Expr} {pr p2 : Pos} {n : Int} (j : Nat) (p : Nat → Bool) (f : Nat → β) (hm : X.mg "range" = none) (hi : EvE X ss a (sv (sInt n))) (hl : n ≤ 16777216) (hl0 : -(2 ^ 62) ≤ n)
    (ht : ∀ (i : Nat), (i : Int) < n → BlkT X scope (ss.set j (.val (sInt (i : Int)))) ifs (p i)) (he : ∀ (i : Nat), (i : Int) < n → p i = true → BlkE X scope (ss.set j (.val (sInt (i : Int)))) elt (sv (U (f i))))
    (hg : Gl X "range" := by rfl) (hst : starEach [a] X.env = [(false, eval a X.env)] := by exact star_one rfl) :
    Lc X ss elt tg (.Call (.Name "range" pr) [a] [] p2) ifs scope j (oLst U (((List.range n.toNat).filter p).map f)) := .mk fun B F H σ h Q q => by
  have ha : PA X [a] (tCons (wpE X a) tNil) := pa_cons PEw pa_nil (by rw [hst]; rfl)
  refine toI (pi_range1 hg hm ha hst) ?_
  refine hi B F H σ h _ fun v F1 H1 g1 r1 => ?_
  have ev : v = .int n := r1
  subst ev
  refine ⟨n, rfl, hl0, by omega, fun D nD => ?_⟩
  have h1 := h.grow g1
  have z : sizeLine = 16777216 := sizeLine_eq
  refine lc_range (lo := 0) (n := n.toNat) (fun i H' => LcPv U F1 H1 D ((((List.range n.toNat).take i).filter p).map f) H') (lcpv_0 g1.s nD) (fun i H' hin hP => ?_) (fun H' hP => ?_)
  · have hx : (List.range n.toNat)[i]? = some i := by
      rw [List.getElem?_range hin]
    rw [Int.zero_add]
    refine lc_step h1 nD (ht i (by omega)) (fun b => he i (by omega) b) (filter_take hx) ?_ rfl hP
    rw [List.length_map]
    refine Nat.lt_of_le_of_lt (List.length_filter_le _ _) ?_
    rw [List.length_take, List.length_range]
    omega
  · obtain ⟨F', acc, g, fD, hD, hi'⟩ := hP
    rw [List.take_of_length_le (by rw [List.length_range]; exact Nat.le_refl _)] at hi'
    exact q D F' H' (hp1 D (.lst acc)) (g1.trans g) (fun a ob ea => by
      obtain ⟨rfl, rfl⟩ := hp1_some ea
      exact ⟨g1.h.free nD, .inl fD, hD⟩) ⟨acc, hp1_same, hi'⟩
theorem ev_lc {iter : Expr} {x : Str} {px : Pos} {j : Nat} (hc : X.calm = true) (hN : X.N.Nodup) (h : Lc X ss elt (.Name x px) iter ifs scope j o) (ok : blkC X.N X.env.scope scope [(x, j)] = true := by kernel_rfl)
    (hj : X.N[j]? = some x := by rfl) (hx : ∀ (s : Shared) (H : Hp) (C : Addr) (cl : List (Str × Addr)) (fp : List Addr), Loc (X.blk s H scope (compEnvC scope cl C X.env) fp).env.scope x ∧ ((X.blk s H scope (compEnvC scope cl C X.env) fp).fn x = true ∨ (X.blk s H scope (compEnvC scope cl C X.env) fp).env.scope.names.lookup x = some .local) := by
      exact fun _ _ _ _ _ => ⟨by first | exact Or.inl rfl | exact Or.inr rfl, by first | exact Or.inl rfl | exact Or.inr rfl⟩)
    (hs : ∀ x, foldedSetIterable iter X.env x = pure x := by intro _; rfl) : EvN X ss (.ListComp elt [⟨.Name x px, iter, ifs, 0⟩] scope pos) o := .mk fun B F H σ hS Q q =>
  toE (pe_lc (own := [(x, j)]) (g := gName j) (tt := ttB X scope ifs) (te := teB X scope elt) hc hN PIw (blkOk_by ok) (fun s H C cl fp => pg_name hN hj (hx s H C cl fp).1 (hx s H C cl fp).2) PTsb PEb hs) (h B F H σ hS Q q)
/-- name = [..] -/
theorem s_asgLc {iter : Expr} {x y : Str} {px py spos : Pos} {j : Nat} {D : Ds} (i : Nat) (hc : X.calm = true) (hN : X.N.Nodup) (h : Lc X ss elt (.Name x px) iter ifs scope j o) (k : D.nx (ss.set i (.own o))) (hy : X.N[i]? = some y := by rfl) (hyl : X.env.scope.names.lookup y = some .local := by rfl)
    (hsw : swapsWith (.ListComp elt [⟨.Name x px, iter, ifs, 0⟩] scope pos) (some (.Name y py)) spos.line X.env = pure true := by exact sw_true rfl rfl rfl (by decide +kernel)) (ok : blkC X.N X.env.scope scope [(x, j)] = true := by kernel_rfl)
    (hj : X.N[j]? = some x := by rfl) (hx : ∀ (s : Shared) (H : Hp) (C : Addr) (cl : List (Str × Addr)) (fp : List Addr), Loc (X.blk s H scope (compEnvC scope cl C X.env) fp).env.scope x ∧ ((X.blk s H scope (compEnvC scope cl C X.env) fp).fn x = true ∨ (X.blk s H scope (compEnvC scope cl C X.env) fp).env.scope.names.lookup x = some .local) := by
      exact fun _ _ _ _ _ => ⟨by first | exact Or.inl rfl | exact Or.inr rfl, by first | exact Or.inl rfl | exact Or.inr rfl⟩)
    (hs : ∀ x, foldedSetIterable iter X.env x = pure x := by intro _; rfl) : EvS X ss (.Assign [.Name y py] (.ListComp elt [⟨.Name x px, iter, ifs, 0⟩] scope pos) spos) D := .mk fun B F H σ hS tk =>
  toS (ps_setLc (i := i) (own := [(x, j)]) (g := gName j) (tt := ttB X scope ifs) (te := teB X scope elt) hc hN hy hyl hsw PIw (blkOk_by ok) (fun s H C cl fp => pg_name hN hj (hx s H C cl fp).1 (hx s H C cl fp).2) PTsb PEb hs)
    (h B F H σ hS _ fun p F' H' c g n r => ⟨F', _, hS.setO g n r, k⟩)
end

/-! ### a def as it stands behind the top, with defaults or without -/
structure FunE (K : PySem.W.Frag) (x qual : Str) (st : Stmt) (f : Addr) (fd : FuncData) : Prop where
  ex : ∃ (oc : Value) (od : Option Addr) (dV kV doc pm : Value) (an : Option Addr) (cdv ct : Value) (osl : Array (Option Value)),
    fd = PySem.W.fnOf x qual (defArgs st) (defBody st) (defScope st) dV kV doc pm an cdv ct ∧ K.lookup f = some ⟨oc, od, .func fd, osl⟩ ∧ PySem.W.codeIn K cdv qual = true
theorem fun_e {K : PySem.W.Frag} {x qual : Str} {st : Stmt} {f : Addr} {fd : FuncData} (F : Fun K x qual st f fd) : FunE K x qual st f fd :=
  let ⟨oc, od, kV, doc, pm, an, cdv, ct, osl, e, l, c⟩ := F.ex
  ⟨oc, od, .none, kV, doc, pm, an, cdv, ct, osl, e, l, c⟩
section
variable {P : Program} {w : World} {K : PySem.W.Frag} {mg : Str → Option Value} {base : Heap} {x qual : Str} {st : Stmt} {f : Addr} {fd : FuncData} {N ps : List Str} {k : Nat} {sp : Sp}
theorem FunE.ok (F : FunE K x qual st f fd) (S : FnScope N ps (defScope st)) (len : ∀ vs H Q E, sp vs H Q E → vs.length = ps.length)
    (body : ∀ (cdv : Value) (A : Around) (outer : List Env) (s : Shared) (H : Hp) (vs : List V) (Q : VK) (E : XK), Room k (A.deeper (envOfC qual (defScope st) s.heap.objs.size f cdv)) → sp vs H Q E →
      ∃ t, PSs (cxOf CX0 P w K mg base N qual (defScope st) f cdv A outer s H E).nox (defBody st) t ∧ t { nx := fun _ H' => Q .non H', rt := Q } (L2.start N vs) H) : FnOk P w K mg base CX0 (k + 1) f fd ps sp := by
  obtain ⟨oc, od, dV, kV, doc, pm, an, cdv, ct, osl, rfl, lk, hcd⟩ := F.ex
  refine fn_of lk hcd S len fun A outer s H vs Q E hr hsp => ?_
  obtain ⟨t, h, q⟩ := body cdv A outer s H vs Q E hr hsp
  exact ⟨t, h.nox, q⟩
end
/-! ### calls -/
/-- as: what is known of the arguments; s: what is promised of the answer -/
def spOf (Φ : List S → S → Prop) : Sp := fun vs H Q _ => ∃ (F : Hp) (as : List S) (s : S), Same F H ∧ Paired (fun (a : S) v => a.r F v) as vs ∧ Φ as s ∧ ∀ v F' H', Grow F H F' H' → s.r F' v → Q v H'
structure Callee (P : Program) (w : World) (K : PySem.W.Frag) (mg : Str → Option Value) (base : Heap) (k : Nat) (x : Str) (Φ : List S → S → Prop) : Prop where
  ex : ∃ (f : Addr) (fd : FuncData) (ps : List Str), FnOk P w K mg base CX0 k f fd ps (spOf Φ) ∧ mg x = some (.ref f) ∧ PySem.W.keepIn K (.ref f) = true ∧ Binds K fd ps []
section
variable {X : Cx} {ss : List Sl} {e : Expr} {es : List Expr} {as : List S} {s : S} {Φ : List S → S → Prop} {x : Str} {p pos : Pos} {j k : Nat}
theorem paired_sv {F H : Hp} : ∀ {as : List S} {vs : List V}, Paired (fun (a : R) v => a.r F H v) (as.map sv) vs → Paired (fun (a : S) v => a.r F v) as vs
  | [], _, h => by
    cases h
    exact .nil
  | a :: as, _, h => by
    cases h with
    | cons r t => exact .cons r (paired_sv t)
structure EvAs (X : Cx) (ss : List Sl) (es : List Expr) (as : List S) : Prop where
  go : EvA X ss es (as.map sv)
theorem eas_nil : EvAs X ss [] [] := ⟨ea_nil⟩
theorem eas_cons {a : S} (ha : EvE X ss e (sv a)) (hr : EvAs X ss es as) (hs : starEach (e :: es) X.env = (false, eval e X.env) :: starEach es X.env := by exact star_ok rfl) : EvAs X ss (e :: es) (a :: as) := ⟨ea_cons ha hr.go hs⟩
theorem ev_call (C : Callee X.prog X.w X.K X.mg X.base j x Φ) (hr : Room k X.A) (ha : EvAs X ss (e :: es) as) (hΦ : Φ as s) (hj : j ≤ k := by decide) (hg : Gl X x := by rfl)
    (hdb : (x == ("__debug__" : Str)) = false := by decide) (he : starEach (e :: es) X.env = (false, eval e X.env) :: starEach es X.env := by exact star_ok rfl) (hpl : (backTo pos (starEach es X.env)).any (·.1) = false := by rfl) :
    EvE X ss (.Call (.Name x p) (e :: es) [] pos) (sv s) := .mk fun B F H σ h Q q => by
  obtain ⟨f, fd, ps, G, hm, hk, hb⟩ := C.ex
  refine toE (pe_call G (hr.mono hj) hg hm hk hb .nil pass0 PAw hdb he hpl) ?_
  refine ha.go B F H σ h _ fun vs F1 H1 g1 rs => ?_
  rw [List.append_nil]
  exact ⟨F1, as, s, g1.s, paired_sv rs, hΦ, fun v F2 H2 g2 r => q v F2 H2 (g1.trans g2) r⟩
end
theorem own0 {B : Bs} {F H : Hp} : Own B F H (fun _ => hp0) where
  at_ := fun i a ob e => by
    have e' : (none : Option HO) = some ob := e
    cases e'
  ap := fun i j a o1 o2 e => by
    have e' : (none : Option HO) = some o1 := e
    cases e'
/-- a def by its body -/
theorem fn_ok {P : Program} {w : World} {K : PySem.W.Frag} {mg : Str → Option Value} {base : Heap} {x qual : Str} {st : Stmt} {f : Addr} {fd : FuncData} {N ps : List Str} {k : Nat} {Φ : List S → S → Prop} (F : FunE K x qual st f fd) (Sc : FnScope N ps (defScope st)) (len : ∀ as s, Φ as s → as.length = ps.length)
    (body : ∀ (cdv : Value) (A : Around) (outer : List Env) (s0 : Shared) (H0 : Hp) (E : XK) (as : List S) (s : S), Room k (A.deeper (envOfC qual (defScope st) s0.heap.objs.size f cdv)) → Φ as s →
      EvSs (cxOf CX0 P w K mg base N qual (defScope st) f cdv A outer s0 H0 E).nox (as.map Sl.val ++ List.replicate (N.length - as.length) .any) (defBody st) { nx := fun _ => ∀ F : Hp, s.r F .non, rt := fun s' => ∀ F v, s'.r F v → s.r F v }) :
    FnOk P w K mg base CX0 (k + 1) f fd ps (spOf Φ) := by
  refine F.ok Sc (fun vs H Q E ⟨F, as, s, _, hp, hΦ, _⟩ => by rw [← Paired.length hp]; exact len as s hΦ) (fun cdv A outer s0 H0 vs Q E hr h => ?_)
  obtain ⟨F, as, s, sF, hp, hΦ, q⟩ := h
  refine ⟨_, PSsw, ?_⟩
  have hlen : vs.length = as.length := (Paired.length hp).symm
  have hsat : Sat ⟨F, H0⟩ F H0 (L2.start N vs) (as.map Sl.val ++ List.replicate (N.length - as.length) .any) := by
    refine ⟨.refl sF, ?_, fun _ => hp0, fun i x v e1 e2 => ?_, own0⟩
    · unfold L2.start
      rw [List.length_append, List.length_append, List.length_map, List.length_map, List.length_replicate, List.length_replicate, hlen]
    · by_cases hi : i < as.length
      · rw [List.getElem?_append_left (by rw [List.length_map]; exact hi), List.getElem?_map] at e1
        unfold L2.start at e2
        rw [List.getElem?_append_left (by rw [List.length_map, hlen]; exact hi), List.getElem?_map] at e2
        cases q1 : as[i]? with
        | none => rw [q1] at e1; cases e1
        | some a =>
          obtain ⟨u, hu, ru⟩ := pr_at hp q1
          rw [q1] at e1
          rw [hu] at e2
          cases e1; cases e2
          exact ⟨u, rfl, ru⟩
      · rw [List.getElem?_append_right (by rw [List.length_map]; omega), List.length_map] at e1
        have : x = .any := by
          obtain ⟨_, h2⟩ := List.getElem?_eq_some_iff.mp e1
          rw [← h2, List.getElem_replicate]
        subst this
        trivial
  refine wpSs_mono (body cdv A outer s0 H0 E as s hr hΦ ⟨F, H0⟩ F H0 _ hsat tk0) (fun σ' H' ⟨F', ss', hs', k⟩ => q _ F' H' hs'.g (k F')) (fun v H' z => by rcases RtP.two z (fun _ _ q => q) (fun _ _ q => q) with ⟨F', s', g, r, k⟩ | ⟨_, _, _, _, _, _, _, _, z⟩ <;> first | exact q v F' H' g (k F' v r) | exact z.elim) (fun _ _ ⟨_, _, _, z⟩ => z) (fun _ _ ⟨_, _, _, z⟩ => z)
theorem callee_mk {P : Program} {w : World} {K : PySem.W.Frag} {mg : Str → Option Value} {base : Heap} {k : Nat} {x : Str} {f : Addr} {fd : FuncData} {ps : List Str} {Φ : List S → S → Prop} (G : FnOk P w K mg base CX0 k f fd ps (spOf Φ)) (hm : mg x = some (.ref f)) (hk : PySem.W.keepIn K (.ref f) = true) (hb : Binds K fd ps []) :
    Callee P w K mg base k x Φ := ⟨f, fd, ps, G, hm, hk, hb⟩
end Sx
namespace Sx
open PySem PySem.Spec PyProof.Rows L2

/-! ### instances -/
def Fds (F : Hp) (fs : List (Str × S)) (vs : List (Str × V)) : Prop := Paired (fun (a : Str × S) (b : Str × V) => a.1 = b.1 ∧ a.2.r F b.2) fs vs
theorem Fds.mono {F F' : Hp} {fs : List (Str × S)} {vs : List (Str × V)} (e : Same F F') (h : Fds F fs vs) : Fds F' fs vs := Paired.mapP h fun _ _ q => ⟨q.1, S.mono _ e q.2⟩
theorem fds_get {F : Hp} {f : Str} {s : S} : ∀ {fs : List (Str × S)} {vs : List (Str × V)}, Fds F fs vs → fs.lookup f = some s → ∃ v, vs.lookup f = some v ∧ s.r F v
  | [], _, _, e => by cases e
  | (g, t) :: fs, vs, h, e => by
    have h' : Paired (fun (a : Str × S) (b : Str × V) => a.1 = b.1 ∧ a.2.r F b.2) ((g, t) :: fs) vs := h
    cases h' with
    | @cons _ b _ vs' r tl =>
      obtain ⟨g', v⟩ := b
      have eg : g = g' := r.1
      subst eg
      rw [List.lookup_cons] at e ⊢
      cases q : f == g with
      | true =>
        rw [q] at e
        cases e
        exact ⟨v, rfl, r.2⟩
      | false =>
        rw [q] at e
        exact fds_get (fs := fs) (vs := vs') tl e
def putS (f : Str) (s : S) : List (Str × S) → List (Str × S)
  | [] => [(f, s)]
  | (g, x) :: r => if g = f then (g, s) :: r else (g, x) :: putS f s r
theorem fds_put {F : Hp} {f : Str} {s : S} {v : V} (r : s.r F v) : ∀ {fs : List (Str × S)} {vs : List (Str × V)}, Fds F fs vs → Fds F (putS f s fs) (putF f v vs)
  | [], vs, h => by
    have h' : Paired (fun (a : Str × S) (b : Str × V) => a.1 = b.1 ∧ a.2.r F b.2) [] vs := h
    cases h'
    exact .cons ⟨rfl, r⟩ .nil
  | (g, t) :: fs, vs, h => by
    have h' : Paired (fun (a : Str × S) (b : Str × V) => a.1 = b.1 ∧ a.2.r F b.2) ((g, t) :: fs) vs := h
    cases h' with
    | @cons _ b _ vs' q tl =>
      obtain ⟨g', u⟩ := b
      have eg : g = g' := q.1
      subst eg
      unfold putS putF
      by_cases z : g = f
      · rw [if_pos z, if_pos z]
        exact .cons ⟨rfl, r⟩ tl
      · rw [if_neg z, if_neg z]
        exact .cons ⟨rfl, q.2⟩ (fds_put r (fs := fs) (vs := vs') tl)
theorem Fds.len {F : Hp} {fs : List (Str × S)} {vs : List (Str × V)} (h : Fds F fs vs) : vs.length = fs.length := (Paired.length h).symm
/-- an instance of the class at C, at an address of which q holds -/
def oIns (C : Addr) (q : Addr → Prop) (fs : List (Str × S)) : O := ⟨fun F h p => q p ∧ ∃ dx vs, h p = some (.ins C dx vs) ∧ Fds F fs vs, fun e ⟨z, dx, vs, k, h⟩ => ⟨z, dx, vs, k, h.mono e⟩⟩
abbrev sIns (C : Addr) (fs : List (Str × S)) : S := sO (oIns C (fun _ => True) fs)
section
variable {X : Cx} {ss : List Sl} {e a b c : Expr} {es : List Expr} {ρ τ κ : R} {s t : S} {o : O} {pos p p2 : Pos} {k : Nat} {α β : Type} {T : α → S} {U : β → S} {xs ys : List α} {x y : α} {i j : Int} {C : Addr} {q : Addr → Prop} {fs : List (Str × S)} {D : Ds} {f : Str}
theorem ev_fld (he : EvE X ss e (bO (oIns C q fs))) (hl : fs.lookup f = some s) (hc : Cls X.K C) (hn : NoAttr X.K C f) (hb : attributeBase e f X.env (eval e X.env) = eval e X.env := by rfl) : EvE X ss (.Attribute e f pos) (sv s) := .mk fun B F H σ h Q z =>
  toE (pe_fld PEw hb) (he B F H σ h _ fun v F' H' g ⟨p, k, e1, hk, _, dx, vs, hp, hf⟩ => by
    obtain ⟨u, hu, ru⟩ := fds_get hf hl
    exact ⟨p, C, dx, vs, u, e1, hk _ _ hp, hc, hn, hu, z u F' H' g ru⟩)
/-- x.f = e, x an own instance -/
theorem s_fld (i : Nat) {x : Str} {px pa : Pos} (hi : ss[i]? = some (.own (oIns C q fs))) (he : EvE X ss e (sv s)) (hc : Cls X.K C) (hn : NoAttr X.K C f) (k : D.nx (ss.set i (.own (oIns C q (putS f s fs))))) (hN : X.N[i]? = some x := by rfl)
    (hv : Vis X.env.scope x := by first | exact Or.inl rfl | exact Or.inr (Or.inl rfl) | exact Or.inr (Or.inr rfl)) (hd : (x == ("__debug__" : Str)) = false := by decide) (hcd : (x == ("__classdict__" : Str)) = false := by decide) (hl : fs.length < 1000 := by exact Nat.le_of_ble_eq_true rfl)
    (hs : swapsWith e (some (.Attribute (.Name x px) f pa)) pos.line X.env = pure false := by rfl) : EvS X ss (.Assign [.Attribute (.Name x px) f pa] e pos) D := .mk fun B F H σ h tk =>
  toS (ps_fld (pe_var hN hv hd hcd) PEw hs) (he B F H σ h _ fun v F' H' g r => by
    obtain ⟨p, c, e1, hc', ⟨hq, dx, vs, hp, hf⟩, wr⟩ := (h.grow g).write hi
    refine ⟨_, e1, p, C, dx, vs, rfl, (hc' _ _ hp).1, hc, hn, by rw [hf.len]; exact hl, ?_⟩
    refine ⟨F', _, wr (oIns C q (putS f s fs)) (upd c p (.ins C dx (putF f v vs))) _ (fun a ob za ea => ?_) (fun a ob ea => ?_) (fun a ob na ea => ?_) (fun a ob ea na => ?_) ⟨hq, dx, _, upd_same, fds_put r hf⟩, k⟩
    · have ha : a ≠ p := fun z => by
        subst z
        rw [hp] at ea
        cases ea
        exact za.elim
      rw [upd_ne ha]
      exact (hc' _ _ ea).1
    · by_cases ha : a = p
      · subst ha
        rw [upd_same] at ea ⊢
        exact ea
      · rw [upd_ne ha] at ea ⊢
        exact (hc' _ _ ea).1
    · rw [upd_ne (fun z => by subst z; rw [hp] at na; cases na)]
      exact ea
    · by_cases ha : a = p
      · subst ha
        rw [hp] at na
        cases na
      · rw [upd_ne ha, na] at ea
        cases ea)
end
/-- H without what stands at x -/
def hid (x : Addr) (H : Hp) : Hp := fun a => if a = x then none else H a
theorem hid_some {x a : Addr} {H : Hp} {o : HO} (h : hid x H a = some o) : a ≠ x ∧ H a = some o := by
  unfold hid at h
  by_cases e : a = x
  · rw [if_pos e] at h; cases h
  · rw [if_neg e] at h; exact ⟨e, h⟩
theorem hid_ne {x a : Addr} {H : Hp} (h : a ≠ x) : hid x H a = H a := by unfold hid; rw [if_neg h]
theorem hid_same {x : Addr} {H : Hp} : hid x H x = none := by unfold hid; rw [if_pos rfl]
/-- an __init__: the attributes that it makes -/
def spIn (C : Addr) (Φ : List S → List (Str × S) → Prop) : Sp := fun vs H Q _ => ∃ (F : Hp) (x dx : Addr) (ws : List V) (as : List S) (fs : List (Str × S)), vs = .ref x :: ws ∧ Same F H ∧ F x = none ∧ H x = some (.ins C dx []) ∧ Paired (fun (a : S) v => a.r F v) as ws ∧ Φ as fs ∧
  ∀ F' H' k, Grow F (hid x H) F' H' → (∀ a ob, k a = some ob → H' a = some ob ∧ hid x H a = none ∧ (F' a = none ∨ IsT ob)) → (oIns C (fun p => p = x) fs).r F' k x → Q .non H'
structure CalleeC (P : Program) (w : World) (K : PySem.W.Frag) (mg : Str → Option Value) (base : Heap) (k : Nat) (x : Str) (C : Addr) (Φ : List S → List (Str × S) → Prop) : Prop where
  ex : ∃ (f : Addr) (fd : FuncData) (ps : List Str), Mk K C f ∧ FnOk P w K mg base CX0 k f fd ps (spIn C Φ) ∧ mg x = some (.ref C) ∧ Binds K fd ps []
/-- the slots at an __init__'s entry -/
theorem init_ok {P : Program} {w : World} {K : PySem.W.Frag} {mg : Str → Option Value} {base : Heap} {x qual : Str} {st : Stmt} {f C : Addr} {fd : FuncData} {N ps : List Str} {k : Nat} {Φ : List S → List (Str × S) → Prop} (F : FunE K x qual st f fd) (Sc : FnScope N ps (defScope st)) (len : ∀ as s, Φ as s → as.length + 1 = ps.length)
    (body : ∀ (cdv : Value) (A : Around) (outer : List Env) (s0 : Shared) (H0 : Hp) (E : XK) (y : Addr) (as : List S) (fs : List (Str × S)), Room k (A.deeper (envOfC qual (defScope st) s0.heap.objs.size f cdv)) → Φ as fs →
      EvSs (cxOf CX0 P w K mg base N qual (defScope st) f cdv A outer s0 H0 E).nox (.own (oIns C (fun p => p = y) []) :: (as.map Sl.val ++ List.replicate (N.length - (as.length + 1)) .any)) (defBody st) { nx := fun ss' => ss'[0]? = some (.own (oIns C (fun p => p = y) fs)), rt := fun s' => False }) :
    FnOk P w K mg base CX0 (k + 1) f fd ps (spIn C Φ) := by
  refine F.ok Sc (fun vs H Q E ⟨F, x, dx, ws, as, fs, ev, _, _, _, hp, hΦ, _⟩ => by rw [ev, List.length_cons, ← Paired.length hp]; exact len as fs hΦ) (fun cdv A outer s0 H0 vs Q E hr h => ?_)
  obtain ⟨F, y, dx, ws, as, fs, rfl, sF, nF, hy, hp, hΦ, q⟩ := h
  refine ⟨_, PSsw, ?_⟩
  have hlen : ws.length = as.length := (Paired.length hp).symm
  have g0 : Grow F (hid y H0) F H0 := ⟨Same.refl _, fun a o e => (hid_some e).2, sF, fun p o e n => by rw [n] at e; cases e⟩
  have hsat : Sat ⟨F, hid y H0⟩ F H0 (L2.start N (.ref y :: ws)) (.own (oIns C (fun p => p = y) []) :: (as.map Sl.val ++ List.replicate (N.length - (as.length + 1)) .any)) := by
    refine ⟨g0, ?_, fun i => if i = 0 then hp1 y (.ins C dx []) else hp0, fun i x v e1 e2 => ?_, ⟨fun i a ob e => ?_, fun i j a o1 o2 e1 e2 => ?_⟩⟩
    · unfold L2.start
      simp only [List.length_cons, List.length_append, List.length_map, List.length_replicate, hlen]
      omega
    · cases i with
      | zero =>
        rw [List.getElem?_cons_zero] at e1
        unfold L2.start at e2
        rw [List.map_cons, List.cons_append, List.getElem?_cons_zero] at e2
        cases e1; cases e2
        exact ⟨y, rfl, rfl, dx, [], hp1_same, .nil⟩
      | succ i =>
        rw [List.getElem?_cons_succ] at e1
        unfold L2.start at e2
        rw [List.map_cons, List.cons_append, List.getElem?_cons_succ] at e2
        by_cases hi : i < as.length
        · rw [List.getElem?_append_left (by rw [List.length_map]; exact hi), List.getElem?_map] at e1
          rw [List.getElem?_append_left (by rw [List.length_map, hlen]; exact hi), List.getElem?_map] at e2
          cases q1 : as[i]? with
          | none => rw [q1] at e1; cases e1
          | some a =>
            obtain ⟨u, hu, ru⟩ := pr_at hp q1
            rw [q1] at e1
            rw [hu] at e2
            cases e1; cases e2
            exact ⟨u, rfl, ru⟩
        · rw [List.getElem?_append_right (by rw [List.length_map]; omega), List.length_map] at e1
          have : x = .any := by
            obtain ⟨_, h2⟩ := List.getElem?_eq_some_iff.mp e1
            rw [← h2, List.getElem_replicate]
          subst this
          trivial
    · by_cases hi : i = 0
      · subst hi
        have e' : hp1 y (.ins C dx []) a = some ob := e
        obtain ⟨rfl, rfl⟩ := hp1_some e'
        exact ⟨hy, hid_same, .inl nF⟩
      · have e' : (if i = 0 then hp1 y (.ins C dx []) else hp0) a = some ob := e
        rw [if_neg hi] at e'
        cases (show (none : Option HO) = some ob from e')
    · by_cases hi : i = 0
      · by_cases hj : j = 0
        · rw [hi, hj]
        · have e' : (if j = 0 then hp1 y (.ins C dx []) else hp0) a = some o2 := e2
          rw [if_neg hj] at e'
          cases (show (none : Option HO) = some o2 from e')
      · have e' : (if i = 0 then hp1 y (.ins C dx []) else hp0) a = some o1 := e1
        rw [if_neg hi] at e'
        cases (show (none : Option HO) = some o1 from e')
  refine wpSs_mono (body cdv A outer s0 H0 E y as fs hr hΦ ⟨F, hid y H0⟩ F H0 _ hsat tk0) (fun σ' H' ⟨F', ss', hs', z⟩ => ?_) (fun v H' z => by rcases RtP.two z (fun _ _ q => q) (fun _ _ q => q) with ⟨_, _, _, _, z⟩ | ⟨_, _, _, _, _, _, _, _, z⟩ <;> exact z.elim) (fun _ _ ⟨_, _, _, z⟩ => z) (fun _ _ ⟨_, _, _, z⟩ => z)
  obtain ⟨p, c, _, hc, hr'⟩ := hs'.own z
  have ep : p = y := hr'.1
  subst ep
  exact q F' H' c hs'.g hc hr'
theorem ev_make {X : Cx} {ss : List Sl} {e : Expr} {es : List Expr} {p pos : Pos} {x : Str} {C : Addr} {Φ : List S → List (Str × S) → Prop} {as : List S} {fs : List (Str × S)} {j k : Nat} (G : CalleeC X.prog X.w X.K X.mg X.base j x C Φ) (hr : Room k X.A) (ha : EvAs X ss (e :: es) as) (hΦ : Φ as fs) (hj : j + 1 ≤ k := by decide) (hg : Gl X x := by rfl)
    (hdb : (x == ("__debug__" : Str)) = false := by decide) (he : starEach (e :: es) X.env = (false, eval e X.env) :: starEach es X.env := by exact star_ok rfl) (hpl : (backTo pos (starEach es X.env)).any (·.1) = false := by rfl) :
    EvN X ss (.Call (.Name x p) (e :: es) [] pos) (oIns C (fun _ => True) fs) := .mk fun B F H σ h Q q => by
  obtain ⟨f, fd, ps, M, G, hm, hb⟩ := G.ex
  refine toE (pe_make M G (hr.mono hj) hg hm hb .nil pass0 PAw hdb he hpl) ?_
  refine ha.go B F H σ h _ fun vs F1 H1 g1 rs x dx nx nd nex => ?_
  rw [List.append_nil]
  have sm : Same H1 (upd (upd H1 dx (.own x)) x (.ins C dx [])) := fun a o ea => by
    rw [upd_ne (ne_of_none ea nx), upd_ne (ne_of_none ea nd)]
    exact ea
  have sh : Same H1 (hid x (upd (upd H1 dx (.own x)) x (.ins C dx []))) := fun a o ea => by
    rw [hid_ne (ne_of_none ea nx)]
    exact sm a o ea
  refine ⟨F1, x, dx, vs, as, fs, rfl, g1.s.trans sm, g1.s.free nx, upd_same, paired_sv rs, hΦ, fun F2 H2 c g2 hc hr => ⟨rfl, ?_⟩⟩
  have g3 : Grow F1 H1 F2 H2 := ⟨g2.f, sh.trans g2.h, g2.s, fun a o e1 e2 => (g2.n a o e1 e2).imp sh.free id⟩
  exact q x F2 H2 c (g1.trans g3) (fun a ob ea => ⟨g1.h.free (sh.free (hc a ob ea).2.1), (hc a ob ea).2.2, (hc a ob ea).1⟩) ⟨trivial, hr.2⟩
end Sx
namespace Sx
open PySem PySem.Spec PyProof.Rows L2

/-! ### tuple * 0, tuple * 1 -/
theorem tuple_mul1 (l : Addr) (items : Array Value) (n : Nat) (dd : Option Addr) (sl : Array (Option Value)) (u : Tok) :
    Meets (Builtin.«tuple.__mul__» ⟨[.ref l, .int 1 u], []⟩) (fun _ R s => s.heap.get? l = some { cls := .type "tuple", dict := dd, data := .seq items n, slots := sl } ∧ R (.ok (.ret (Value.ref l))) s) :=
  .of_wp fun prog w A R s h => by
    obtain ⟨hp, g, d, tk, os⟩ := s
    obtain ⟨hl, h⟩ := h
    have f1 := AutoSeq1.idx_int
    wp_walk using wpAny_loadPart' hl
    repeat (first
      | (refine wpAny_ite_false (by decide) ?_; wp_walk using wpAny_loadPart' hl)
      | (refine wpAny_ite_true (by simp) ?_; wp_walk using wpAny_loadPart' hl))
    exact ⟨_, rfl, h⟩
theorem tuple_mul0 (l : Addr) (items : Array Value) (n : Nat) (dd : Option Addr) (sl : Array (Option Value)) (u : Tok) (ne : items.isEmpty = false) :
    Meets (Builtin.«tuple.__mul__» ⟨[.ref l, .int 0 u], []⟩) (fun _ R s => s.heap.get? l = some { cls := .type "tuple", dict := dd, data := .seq items n, slots := sl } ∧ R (.ok (.ret (Value.ref s.heap.objs.size))) { s with heap := s.heap.push { cls := Value.type "tuple", data := Data.seq #[] } }) :=
  .of_wp fun prog w A R s h => by
    obtain ⟨hp, g, d, tk, os⟩ := s
    obtain ⟨hl, h⟩ := h
    have f1 := AutoSeq1.idx_int
    wp_walk using wpAny_loadPart' hl
    repeat (first
      | (refine wpAny_ite_false (by decide) ?_; wp_walk using wpAny_loadPart' hl)
      | (refine wpAny_ite_false (by rw [ne]; decide) ?_; wp_walk using wpAny_loadPart' hl)
      | (refine wpAny_ite_true (by simp) ?_; wp_walk using wpAny_loadPart' hl))
    exact ⟨_, rfl, h⟩
def rRepA (K : PySem.W.Frag) : R2 := fun x y H Q => ∃ l k xs, x = .ref l ∧ y = .int k ∧ SqT K H l xs ∧ xs ≠ [] ∧ 0 ≤ k ∧ k ≤ 1000 ∧ xs.length ≤ 1000 ∧ (k = 1 → Q (.ref l) H) ∧ (k ≠ 1 → ∀ p, H p = none → Q (.ref p) (upd H p (.tup (List.replicate k.toNat xs).flatten)))
theorem op_repA {X : Cx} : OpR X (binaryOp .Mult) (rRepA X.K) := by
  intro pins s σ H x y v u Q I rx ry h
  obtain ⟨l, k, xs, rfl, rfl, hT, hne, h1, h2, hz, q1, q2⟩ := h
  by_cases hk2 : 2 ≤ k
  · exact op_repT pins s σ H _ _ v u Q I rx ry ⟨l, k, xs, rfl, rfl, hT, hne, hk2, h2, hz, q2 (by omega)⟩
  · cases rx
    obtain ⟨t, rfl⟩ := ry
    obtain ⟨its, r, ⟨⟨cls, dd, data, sl⟩, ho, hc, n, hd⟩, hs⟩ := I.tuple hT
    simp only at hc hd
    subst hc hd
    have hi : its.toArray.isEmpty = false := by
      cases its with
      | nil =>
        have := r.length
        exact absurd (List.eq_nil_of_length_eq_zero this) hne
      | cons a b => rfl
    by_cases hk1 : k = 1
    · subst hk1
      exact wpAny_binaryOp_repeat_ref (T := "tuple") (U := "int") (by decide) ⟨_, ho, rfl⟩ (fun s' => typeIs_int s' 1 t) noFill_tuple_mul F.fills_int_mul F.slot_int_rmul repeat_tuple F.slot_int_index.lookup
        (call_meets F.slot_int_rmul (typeIs_int s 1 t) F.entry_int_rmul (F.args_int_rmul_2 _ _) (int_rmul_tuple 1 t l its.toArray n dd sl)
          ⟨ho, rfl, ⟨_, ho, rfl⟩, call_meets F.slot_tuple_mul ⟨_, ho, rfl⟩ F.entry_tuple_mul (F.args_tuple_mul_2 _ _) (tuple_mul1 l its.toArray n dd sl t) ⟨ho, ⟨.ref l, H, I, rfl, q1 rfl⟩⟩⟩)
    · have hk0 : k = 0 := by omega
      subst hk0
      refine wpAny_binaryOp_repeat_ref (T := "tuple") (U := "int") (by decide) ⟨_, ho, rfl⟩ (fun s' => typeIs_int s' 0 t) noFill_tuple_mul F.fills_int_mul F.slot_int_rmul repeat_tuple F.slot_int_index.lookup
        (call_meets F.slot_int_rmul (typeIs_int s 0 t) F.entry_int_rmul (F.args_int_rmul_2 _ _) (int_rmul_tuple 0 t l its.toArray n dd sl)
          ⟨ho, rfl, ⟨_, ho, rfl⟩, call_meets F.slot_tuple_mul ⟨_, ho, rfl⟩ F.entry_tuple_mul (F.args_tuple_mul_2 _ _) (tuple_mul0 l its.toArray n dd sl t hi) ⟨ho, ?_⟩⟩)
      refine ⟨.ref s.heap.objs.size, _, I.laid (t' := s.toks) (o := .tup (List.replicate (0 : Int).toNat xs).flatten) (fun b ob q => Heap.get?_push_of_some _ q) (Nat.le_refl _) ?_, rfl, q2 (by decide) _ (I.hok.fresh (Nat.le_refl _))⟩
      exact ⟨Nat.zero_le _, _, .nil, IsTup.new _ _⟩
section
variable {X : Cx} {ss : List Sl} {e a b c : Expr} {es : List Expr} {ρ τ κ : R} {s t : S} {o : O} {pos p p2 : Pos} {k : Nat} {α β : Type} {T : α → S} {U : β → S} {xs ys : List α} {x y : α} {i j : Int}
theorem its_rep {F : Hp} {vs : List V} (h : Its T F xs vs) : ∀ n : Nat, Its T F (List.replicate n xs).flatten (List.replicate n vs).flatten
  | 0 => Its.nil
  | n + 1 => by
    rw [List.replicate_succ, List.replicate_succ, List.flatten_cons, List.flatten_cons]
    exact h.app (its_rep h n)
/-- t * n, t a written display or another tuple -/
theorem ev_repT (ha : EvE X ss a (sv (sO (oTup T xs)))) (hb : EvE X ss b (sv (sInt i))) (hne : xs ≠ []) (h0 : 0 ≤ i) (h1 : i ≤ 1000) (hl : xs.length ≤ 1000) : EvE X ss (.BinOp a .Mult b pos) (sv (sO (oTup T (List.replicate i.toNat xs).flatten))) :=
  ev_bin op_repA ha hb fun F H v w Q sF ⟨p1, k1, e1, h1', vs, e3, i1⟩ e2 q => by
    have e2' : w = .int i := e2
    subst e1 e2'
    refine ⟨p1, i, vs, rfl, rfl, SqT.of (sF _ _ (h1' _ _ e3)), fun z => ?_, h0, h1, by rw [i1.len]; exact hl, fun z => ?_, fun z p np => ?_⟩
    · subst z
      exact hne (List.eq_nil_of_length_eq_zero i1.len.symm)
    · subst z
      refine q _ F H (.refl sF) ⟨p1, k1, rfl, h1', vs, e3, ?_⟩
      simpa using i1
    · have gn := grow_new1 (ob := .tup (List.replicate i.toNat vs).flatten) sF np
      exact q _ _ _ gn ⟨p, hp1 p _, rfl, hp1_in, _, hp1_same, (its_rep i1 _).mono gn.f⟩
/-- z[lo:hi] of a text -/
theorem ev_slS {lo hi : Option Expr} {l u : Option Int} {z : Str} (ha : EvE X ss a (sv (sStr z))) (hl : EvO X ss lo l) (hu : EvO X ss hi u) (hz : z.length ≤ sizeLine) : EvE X ss (.Subscript a (.Slice lo hi none p2) pos) (sv (sStr (cutS z l u))) := .mk fun B F H σ h Q q => by
  obtain ⟨tl, pl, kl⟩ := hl
  obtain ⟨tu, pu, ku⟩ := hu
  exact toE (pe_slice sl_str PEw pl pu) (ha B F H σ h _ fun v F1 H1 g1 r1 => kl B F1 H1 σ (h.grow g1) _ fun F2 H2 g2 => ku B F2 H2 σ ((h.grow g1).grow g2) _ fun F3 H3 g3 =>
    ⟨z, r1.1, hz, q _ F3 H3 ((g1.trans g2).trans g3) ⟨rfl, strOk_sub r1.2 fun n hn => List.mem_of_mem_drop (List.mem_of_mem_take hn)⟩⟩)
theorem ev_ltS {x y : Str} (ha : EvE X ss a (sv (sStr x))) (hb : EvE X ss b (sv (sStr y))) : EvE X ss (.Compare a [.Lt] [b] pos) (sv (sBool (decide (x.cps.toList < y.cps.toList)))) :=
  ev_cmp op_lt_str ha hb (fun F H v w Q sF e1 e2 q => ⟨x, y, e1.1, e2.1, q _ F H (.refl sF) rfl⟩) (nomark _)
theorem ev_gtS {x y : Str} (ha : EvE X ss a (sv (sStr x))) (hb : EvE X ss b (sv (sStr y))) : EvE X ss (.Compare a [.Gt] [b] pos) (sv (sBool (decide (y.cps.toList < x.cps.toList)))) :=
  ev_cmp op_gt_str ha hb (fun F H v w Q sF e1 e2 q => ⟨x, y, e1.1, e2.1, q _ F H (.refl sF) rfl⟩) (nomark _)
theorem et_ltS {x y : Str} (ha : EvE X ss a (sv (sStr x))) (hb : EvE X ss b (sv (sStr y))) : EvT X ss (.Compare a [.Lt] [b] pos) (decide (x.cps.toList < y.cps.toList)) :=
  ev_cmpT op_lt_str ha hb (fun F H v w Q sF e1 e2 q => ⟨x, y, e1.1, e2.1, q⟩) (nomark _)
theorem et_gtS {x y : Str} (ha : EvE X ss a (sv (sStr x))) (hb : EvE X ss b (sv (sStr y))) : EvT X ss (.Compare a [.Gt] [b] pos) (decide (y.cps.toList < x.cps.toList)) :=
  ev_cmpT op_gt_str ha hb (fun F H v w Q sF e1 e2 q => ⟨x, y, e1.1, e2.1, q⟩) (nomark _)
/-- x in (texts ..), a tuple or a list -/
theorem inV_strs {F : Hp} {z : Str} : ∀ {xs : List Str} {vs : List V}, Its sStr F xs vs → inV (.str z) vs = decide (z ∈ xs) ∧ vs.all flatV = true
  | [], vs, h => by
    have e : vs = [] := List.eq_nil_of_length_eq_zero h.len
    subst e
    exact ⟨by simp [inV], rfl⟩
  | x :: xs, vs, h => by
    have h' : Paired (fun x v => (sStr x).r F v) (x :: xs) vs := h
    cases h' with
    | cons r t =>
      obtain ⟨e, _⟩ := r
      subst e
      obtain ⟨a1, a2⟩ := inV_strs (F := F) (z := z) (show Its sStr F _ _ from t)
      refine ⟨?_, by rw [List.all_cons, a2]; rfl⟩
      unfold inV at a1 ⊢
      rw [List.any_cons, a1]
      by_cases hz : x = z
      · subst hz
        simp [eqV]
      · have hz' : ¬ z = x := fun q => hz q.symm
        simp [eqV, hz, hz']
theorem ev_inS {z : Str} {xs : List Str} [hq : AsSq X.K ρ sStr xs] (ha : EvE X ss a (sv (sStr z))) (hb : EvE X ss b ρ) (hm : behindInMarks .In b = false := by rfl) : EvE X ss (.Compare a [.In] [b] pos) (sv (sBool (decide (z ∈ xs)))) :=
  ev_cmp op_in_seq ha hb (fun F H v w Q sF e1 e2 q => by
    obtain ⟨p, vs, e3, hs, hi⟩ := hq.w F H w sF e2
    obtain ⟨a1, a2⟩ := inV_strs (z := z) hi
    rw [e1.1]
    refine ⟨p, vs, e3, hs, rfl, a2, ?_⟩
    rw [if_neg Bool.false_ne_true, a1]
    exact q _ F H (.refl sF) rfl) hm
theorem et_inS {z : Str} {xs : List Str} [hq : AsSq X.K ρ sStr xs] (ha : EvE X ss a (sv (sStr z))) (hb : EvE X ss b ρ) (hm : behindInMarks .In b = false := by rfl) : EvT X ss (.Compare a [.In] [b] pos) (decide (z ∈ xs)) :=
  ev_cmpT op_in_seq ha hb (fun F H v w Q sF e1 e2 q => by
    obtain ⟨p, vs, e3, hs, hi⟩ := hq.w F H w sF e2
    obtain ⟨a1, a2⟩ := inV_strs (z := z) hi
    rw [e1.1]
    refine ⟨p, vs, e3, hs, rfl, a2, ?_⟩
    rw [if_neg Bool.false_ne_true, a1]
    exact q) hm
theorem et_ninS {z : Str} {xs : List Str} [hq : AsSq X.K ρ sStr xs] (ha : EvE X ss a (sv (sStr z))) (hb : EvE X ss b ρ) (hm : behindInMarks .NotIn b = false := by rfl) : EvT X ss (.Compare a [.NotIn] [b] pos) (!decide (z ∈ xs)) :=
  ev_cmpT op_notIn_seq ha hb (fun F H v w Q sF e1 e2 q => by
    obtain ⟨p, vs, e3, hs, hi⟩ := hq.w F H w sF e2
    obtain ⟨a1, a2⟩ := inV_strs (z := z) hi
    rw [e1.1]
    refine ⟨p, vs, e3, hs, rfl, a2, ?_⟩
    rw [if_pos rfl, a1]
    exact q) hm
/-- all(xs), any(xs) of a list of bools -/
theorem its_bls {F : Hp} : ∀ {bs : List Bool} {vs : List V}, Its sBool F bs vs → vs = bs.map V.bl
  | [], vs, h => List.eq_nil_of_length_eq_zero h.len
  | x :: xs, vs, h => by
    have h' : Paired (fun x v => (sBool x).r F v) (x :: xs) vs := h
    cases h' with
    | cons r t =>
      have e : _ = V.bl x := r
      subst e
      rw [List.map_cons, its_bls (F := F) (show Its sBool F _ _ from t)]
theorem ev_all {bs : List Bool} (hc : X.calm = true) [hq : AsLs X.K ρ sBool bs] (hm : X.mg "all" = none) (ha : EvE X ss a ρ) (hg : Gl X "all" := by rfl) (he : starEach [a] X.env = (false, eval a X.env) :: starEach [] X.env := by exact star_ok rfl) (hpl : (backTo pos (starEach [] X.env)).any (·.1) = false := by rfl) :
    EvE X ss (.Call (.Name "all" p) [a] [] pos) (sv (sBool (bs.all id))) :=
  ev_cb (cr_all hc) hm PyProof.Rows.boot_all (ea_cons ha ea_nil he) (fun F H vs Q sF rs q => by
    cases rs with
    | cons r rr =>
      cases rr
      obtain ⟨p, ws, e1, hw, hi⟩ := hq.w F H _ sF r
      rw [its_bls hi] at hw
      subst e1
      exact ⟨p, bs, rfl, hw, q _ F H (.refl sF) rfl⟩) hg (he := he) (hpl := hpl)
theorem ev_any {bs : List Bool} (hc : X.calm = true) [hq : AsLs X.K ρ sBool bs] (hm : X.mg "any" = none) (ha : EvE X ss a ρ) (hg : Gl X "any" := by rfl) (he : starEach [a] X.env = (false, eval a X.env) :: starEach [] X.env := by exact star_ok rfl) (hpl : (backTo pos (starEach [] X.env)).any (·.1) = false := by rfl) :
    EvE X ss (.Call (.Name "any" p) [a] [] pos) (sv (sBool (bs.any id))) :=
  ev_cb (cr_any hc) hm PyProof.Rows.boot_any (ea_cons ha ea_nil he) (fun F H vs Q sF rs q => by
    cases rs with
    | cons r rr =>
      cases rr
      obtain ⟨p, ws, e1, hw, hi⟩ := hq.w F H _ sF r
      rw [its_bls hi] at hw
      subst e1
      exact ⟨p, bs, rfl, hw, q _ F H (.refl sF) rfl⟩) hg (he := he) (hpl := hpl)
/-! ### a tuple whose object is known (its methods can be called) -/
def ExT (ob : HO) (vs : List V) : Prop := ∃ o, ob = .frz o (.tup vs) ∧ o.cls = .type "tuple" ∧ o.dict = none
def oTupX {α : Type} (T : α → S) (xs : List α) : O := ⟨fun F h p => ∃ ob vs, h p = some ob ∧ ExT ob vs ∧ Its T F xs vs, fun e ⟨ob, vs, q, z, h⟩ => ⟨ob, vs, q, z, h.mono e⟩⟩
/-- a list, or such a tuple -/
def oNm {α : Type} (T : α → S) (xs : List α) : O := ⟨fun F h p => ∃ ob vs, h p = some ob ∧ (ob = .lst vs ∨ ExT ob vs) ∧ Its T F xs vs, fun e ⟨ob, vs, q, z, h⟩ => ⟨ob, vs, q, z, h.mono e⟩⟩
theorem ExT.sq {K : PySem.W.Frag} {H : Hp} {p : Addr} {ob : HO} {vs : List V} (h : H p = some ob) (x : ExT ob vs) : SqT K H p vs := by
  obtain ⟨o, rfl, _⟩ := x
  exact .inl (.inr ⟨o, h⟩)
instance {K : PySem.W.Frag} : AsTp K (sv (sO (oTupX T xs))) T xs := ⟨fun F H v e ⟨p, k, e1, hk, ob, vs, hp, hx, hi⟩ => ⟨p, vs, e1, hx.sq (e _ _ (hk _ _ hp)), hi⟩⟩
instance {K : PySem.W.Frag} : AsSq K (sv (sO (oNm T xs))) T xs := ⟨fun F H v e ⟨p, k, e1, hk, ob, vs, hp, hx, hi⟩ => ⟨p, vs, e1, by
  rcases hx with rfl | hx
  · exact .inl (SqL.of (e _ _ (hk _ _ hp)))
  · exact .inr (hx.sq (e _ _ (hk _ _ hp))), hi⟩⟩
instance [TyD T] : TyD (fun xs => sO (oTupX T xs)) where
  d := fun xs => .tuple (xs.map (TyD.d T))
  dep := TyD.dep T + 1
  ok := fun {K F v x} h => by
    obtain ⟨p, k, e, hk, ob, vs, hp, hx, hi⟩ := h
    subst e
    obtain ⟨a, b, c⟩ := its_dp (T := T) (K := K) hi
    exact ⟨.tup (hx.sq (hk _ _ hp)) a, by rw [PyData.canLay0]; exact b, by rw [PyData.depth]; exact Nat.succ_le_succ c⟩
instance [DecidableEq α] [TyQ T] : TyQ (fun xs => sO (oTupX T xs)) where
  q := fun xs ys => by
    show PyData.eqv (.tuple _) (.tuple _) = _
    rw [PyData.eqv]
    exact eqv_alls xs ys
theorem EvE.lnm (he : EvE X ss e (sv (sO (oLst T xs)))) : EvE X ss e (sv (sO (oNm T xs))) := he.impS fun F v ⟨p, k, e1, hk, vs, hp, hi⟩ => ⟨p, k, e1, hk, _, vs, hp, .inl rfl, hi⟩
theorem EvE.tnm (he : EvE X ss e (sv (sO (oTupX T xs)))) : EvE X ss e (sv (sO (oNm T xs))) := he.impS fun F v ⟨p, k, e1, hk, ob, vs, hp, hx, hi⟩ => ⟨p, k, e1, hk, ob, vs, hp, .inr hx, hi⟩
theorem call_tuple_ofX : CallR X (.type "tuple") (fun xs H Q => ∃ p ys, xs = [.ref p] ∧ SqL X.K H p ys ∧ ∀ l ob, H l = none → ExT ob ys → Q (.ref l) (upd H l ob)) := by
  intro pins s σ H xs us Q I r h
  obtain ⟨p, ys, rfl, hq, q⟩ := h
  obtain ⟨u, rfl, rx⟩ := vals1 r
  cases rx
  obtain ⟨its, r', pl, hz⟩ := I.list hq
  have hlen := r'.length
  refine call_tuple_list pl.isList (fun h' kp => ?_) (by simp only [List.size_toArray] <;> omega)
  have I1 : Inv X pins σ H { s with heap := h' } := I.kept (t' := s.toks) kp
  have I2 : Inv X pins σ (upd H h'.objs.size (.frz { cls := .type "tuple", data := .seq its.toArray } (.tup ys))) { s with heap := h'.push { cls := .type "tuple", data := .seq its.toArray } } :=
    I1.laid (t' := s.toks) (fun b o e => Heap.get?_push_of_some _ e) (Nat.le_refl _) ⟨Heap.get?_push_size _ rfl, hz, its, r', IsTup.new _ _⟩
  exact ⟨.ref h'.objs.size, _, I2, rfl, q _ _ (I1.hok.fresh (Nat.le_refl _)) ⟨_, rfl, rfl, rfl⟩⟩
theorem ev_tupX [hq : AsLs X.K ρ T xs] (hm : X.mg "tuple" = none) (ha : EvE X ss a ρ) (hg : Gl X "tuple" := by rfl) (he : starEach [a] X.env = (false, eval a X.env) :: starEach [] X.env := by exact star_ok rfl) (hpl : (backTo pos (starEach [] X.env)).any (·.1) = false := by rfl) :
    EvN X ss (.Call (.Name "tuple" p) [a] [] pos) (oTupX T xs) :=
  ev_ctN call_tuple_ofX hm (by decide +kernel) (ea_cons ha ea_nil he) (fun F H vs Q sF rs q => by
    cases rs with
    | cons r rr =>
      cases rr
      obtain ⟨p, ws, e1, hw, hi⟩ := hq.w F H _ sF r
      subst e1
      exact ⟨p, ws, rfl, hw, fun l ob hl hx => q l _ hl ⟨_, ws, hp1_same, hx, hi⟩⟩) hg (he := he) (hpl := hpl)
/-- names.index(x), a list or such a tuple of texts -/
theorem its_strs {F : Hp} : ∀ {xs : List Str} {vs : List V}, Its sStr F xs vs → vs = xs.map V.str
  | [], vs, h => List.eq_nil_of_length_eq_zero h.len
  | x :: xs, vs, h => by
    have h' : Paired (fun x v => (sStr x).r F v) (x :: xs) vs := h
    cases h' with
    | cons r t =>
      obtain ⟨e, _⟩ := r
      subst e
      rw [List.map_cons, its_strs (F := F) (show Its sStr F _ _ from t)]
theorem ev_index {xs : List Str} {z : Str} {n : Nat} {apos cpos : Pos} (ha : EvE X ss a (sv (sO (oNm sStr xs)))) (hb : EvE X ss b (sv (sStr z))) (hz : xs[n]? = some z) (hno : ∀ m, m < n → xs[m]? ≠ some z)
    (hbase : attributeBase a "index" X.env (eval a X.env) = eval a X.env := by rfl)
    (hfew : ((backTo cpos (starEach [b] X.env)).all (fun x => !x.1) && (backToKw cpos (keywordEach [] X.env)).all (fun x => x.1.isSome)
      && decide ([b].length + ([] : List Keyword).length + (if ([] : List Keyword).isEmpty then 0 else 1) < 30)) = true := by rfl)
    (hline : (apos.endLine == cpos.line) = true := by rfl) (hs : starEach [b] X.env = (false, eval b X.env) :: starEach [] X.env := by exact star_ok rfl) (hplain : (backTo cpos (starEach [] X.env)).any (·.1) = false := by rfl) :
    EvE X ss (.Call (.Attribute a "index" apos) [b] [] cpos) (sv (sInt (n : Int))) := .mk fun B F H σ h Q q => by
  intro pins s I
  refine wpAny_Call_method_late hbase hfew hline rfl (thn (ha B F H σ h (fun v H' => ∃ F', Grow F H F' H' ∧ (sO (oNm sStr xs)).r F' v) (fun v F' H' g r => ⟨F', g, r⟩) pins s I) fun v s1 ⟨x, H1, I1, r1, F1, g1, p, k, e1, hk, ob, vs, hp, hx, hi⟩ => ?_)
  subst e1
  cases r1
  have ev := its_strs hi
  subst ev
  have h1 := h.grow g1
  have hA := (pa_cons (PEw (e := b)) pa_nil hs).run cpos pins s1 σ H1 (fun vs' H2 => ∃ F2, Grow F1 H1 F2 H2 ∧ vs' = [V.str z]) I1 (hb B F1 H1 σ h1 _ fun w F2 H2 g2 r2 => ⟨F2, g2, by rw [r2.1]⟩)
  rw [hs] at hA
  have hp1' : H1 p = some ob := g1.s _ _ (hk _ _ hp)
  rcases hx with rfl | hx
  · obtain ⟨its, _, pl, _⟩ := I1.list (SqL.of (K := X.K) hp1')
    refine ⟨"list", "list.index", PySem.F.plainAttrs_list, PySem.F.slot_list_index, PySem.F.type_list_index, pl.isList.typeIs, fun a e => ?_, ?_⟩
    · cases e
      obtain ⟨o, n, e, c, hd, _⟩ := pl
      exact ⟨o, e, hd⟩
    · rw [hs]
      refine Calls.callWith_builtin (by show (false || (backTo cpos (starEach [] X.env)).any (·.1)) = false; rw [hplain] <;> rfl) (Calls.evalArgs_plain ?_)
      refine thn hA fun us s2 ⟨vs', H2, I2, rs, F2, g2, e2⟩ => ?_
      subst e2
      refine mt_index pins s2 σ H2 (.ref p) [.str z] (.ref p) us Q I2 rfl rs ⟨p, xs.map V.str, .str z, n, .str z, rfl, rfl, SqL.of (g2.h _ _ hp1'), rfl, flat_strs xs, by rw [List.getElem?_map, hz]; rfl, by simp [eqV], fun m z' hm hz' => ?_, q _ F2 H2 (g1.trans g2) rfl⟩
      rw [List.getElem?_map] at hz'
      cases q1 : xs[m]? with
      | none => rw [q1] at hz'; cases hz'
      | some y =>
        rw [q1] at hz'
        cases hz'
        have : y ≠ z := fun e => hno m hm (by rw [q1, e])
        simp [eqV, this]
  · obtain ⟨o, rfl, hc, hd⟩ := hx
    obtain ⟨ho, _⟩ := I1.hok p _ hp1'
    refine ⟨"tuple", "tuple.index", PySem.F.plainAttrs_tuple, PySem.F.slot_tuple_index, PySem.F.type_tuple_index, ⟨o, ho, hc⟩, fun a e => ?_, ?_⟩
    · cases e
      exact ⟨o, ho, hd⟩
    · rw [hs]
      refine Calls.callWith_builtin (by show (false || (backTo cpos (starEach [] X.env)).any (·.1)) = false; rw [hplain] <;> rfl) (Calls.evalArgs_plain ?_)
      refine thn hA fun us s2 ⟨vs', H2, I2, rs, F2, g2, e2⟩ => ?_
      subst e2
      exact mt_tup_index pins s2 σ H2 (.ref p) [.str z] (.ref p) us Q I2 rfl rs ⟨p, xs, z, n, rfl, rfl, .inl (.inr ⟨o, g2.h _ _ hp1'⟩), hz, hno, q _ F2 H2 (g1.trans g2) rfl⟩
end
end Sx
namespace Sx
open PySem PySem.Spec PyProof.Rows L2
/-- a natural number -/
def sNat (n : Nat) : S := sInt (n : Int)
instance : TyQ sNat where
  d := fun n => .int n
  dep := 0
  ok := fun {K F v x} h => by
    have e : v = .int x := h
    subst e
    exact ⟨.int x, by simp [PyData.canLay0], by simp [PyData.depth]⟩
  q := fun x y => by
    show PyData.eqv (.int x) (.int y) = _
    rw [PyData.eqv, Bool.beq_eq_decide_eq]
    exact decide_eq_decide.mpr ⟨fun h => by omega, fun h => by rw [h]⟩
instance {α : Type} {T : α → S} [TyD T] : TyD (sLst T) := inferInstanceAs (TyD (fun xs => sO (oLst T xs)))
instance {α : Type} {T : α → S} [TyD T] : TyD (sTup T) := inferInstanceAs (TyD (fun xs => sO (oTup T xs)))
instance {α : Type} {T : α → S} [DecidableEq α] [TyQ T] : TyQ (sLst T) := inferInstanceAs (TyQ (fun xs => sO (oLst T xs)))
instance {α : Type} {T : α → S} [DecidableEq α] [TyQ T] : TyQ (sTup T) := inferInstanceAs (TyQ (fun xs => sO (oTup T xs)))
section
variable {X : Cx} {ss : List Sl} {e a b c : Expr} {es : List Expr} {ρ τ κ : R} {s t : S} {o : O} {pos p p2 : Pos} {k : Nat} {α β : Type} {T T' : α → S} {U : β → S} {xs ys : List α} {x y : α} {i j : Int}
/-- items read otherwise -/
theorem Its.as {F : Hp} {vs : List V} (w : ∀ x v, (T x).r F v → (T' x).r F v) (h : Its T F xs vs) : Its T' F xs vs := Paired.mapP h fun x v q => w x v q
theorem lst_as {F : Hp} {v : V} (w : ∀ x v, (T x).r F v → (T' x).r F v) (h : (sLst T xs).r F v) : (sLst T' xs).r F v := by
  obtain ⟨p, k, e, hk, vs, hp, hi⟩ := h
  exact ⟨p, k, e, hk, vs, hp, hi.as w⟩
theorem tup_as {F : Hp} {v : V} (w : ∀ x v, (T x).r F v → (T' x).r F v) (h : (sTup T xs).r F v) : (sTup T' xs).r F v := by
  obtain ⟨p, k, e, hk, vs, hp, hi⟩ := h
  exact ⟨p, k, e, hk, vs, hp, hi.as w⟩
theorem lst_sq {F : Hp} {v : V} (w : ∀ x v, (T x).r F v → (T' x).r F v) (h : (sLst T xs).r F v) : (sSq T' xs).r F v := by
  obtain ⟨p, k, e, hk, vs, hp, hi⟩ := h
  exact ⟨p, k, e, hk, vs, .inl hp, hi.as w⟩
theorem tup_sq {F : Hp} {v : V} (w : ∀ x v, (T x).r F v → (T' x).r F v) (h : (sTup T xs).r F v) : (sSq T' xs).r F v := by
  obtain ⟨p, k, e, hk, vs, hp, hi⟩ := h
  exact ⟨p, k, e, hk, vs, .inr hp, hi.as w⟩
/-- tuple(x) of a list or a tuple -/
theorem ev_tupQ (hm : X.mg "tuple" = none) (ha : EvE X ss a (sv (sO (oSq T xs)))) (hg : Gl X "tuple" := by rfl) (na : starEach [a] X.env = (false, eval a X.env) :: starEach [] X.env := by exact star_ok rfl) : EvE X ss (.Call (.Name "tuple" p) [a] [] pos) (sv (sO (oTup T xs))) := .mk fun B F H σ h Q q =>
  toE (pe_tupleOf hg hm PEw na) (ha B F H σ h _ fun v F1 H1 g1 ⟨p1, k1, e1, hk, vs, hp, hi⟩ => by
    subst e1
    rcases hp with hp | hp
    · refine .inl ⟨p1, vs, rfl, SqL.of (g1.s _ _ (hk _ _ hp)), fun l np => ?_⟩
      have gn := grow_new1 (ob := .tup vs) g1.s np
      exact q _ _ _ (g1.trans gn) ⟨l, hp1 l _, rfl, hp1_in, _, hp1_same, hi.mono gn.f⟩
    · exact .inr ⟨p1, vs, rfl, SqT.of (g1.s _ _ (hk _ _ hp)), q _ F1 H1 g1 ⟨p1, k1, rfl, hk, vs, hp, hi⟩⟩)
/-- xs * n -/
theorem ev_repL (ha : EvE X ss a (bO (oLst T xs))) (hb : EvE X ss b (sv (sInt i))) (h0 : -(2 ^ 63) ≤ i) (h1 : i < 2 ^ 63) (hl : xs.length * i.toNat ≤ sizeLine) : EvN X ss (.BinOp a .Mult b pos) (oLst T (List.replicate i.toNat xs).flatten) :=
  ev_binN op_rep ha hb fun F H v w Q sF ⟨p1, k1, e1, hk, vs, e3, i1⟩ e2 q => by
    have e2' : w = .int i := e2
    subst e1 e2'
    exact ⟨p1, i, vs, rfl, rfl, hk _ _ e3, h0, h1, by rw [i1.len]; exact hl, fun p np => q p _ np ⟨_, hp1_same, its_rep i1 _⟩⟩
end
/-! ### sorted -/
def insI (x : Int) : List Int → List Int
  | [] => [x]
  | y :: r => if x ≤ y then x :: y :: r else y :: insI x r
def sortI : List Int → List Int
  | [] => []
  | x :: r => insI x (sortI r)
theorem insI_perm (x : Int) : ∀ r, (insI x r).Perm (x :: r)
  | [] => .refl _
  | y :: r => by
    unfold insI
    by_cases h : x ≤ y
    · rw [if_pos h]
    · rw [if_neg h]
      exact ((insI_perm x r).cons y).trans (.swap x y r)
theorem sortI_perm : ∀ r, (sortI r).Perm r
  | [] => .refl _
  | x :: r => (insI_perm x (sortI r)).trans ((sortI_perm r).cons x)
theorem insI_sorted (x : Int) : ∀ {r : List Int}, r.Pairwise (· ≤ ·) → (insI x r).Pairwise (· ≤ ·)
  | [], _ => by unfold insI; exact List.pairwise_singleton _ _
  | y :: r, h => by
    unfold insI
    rw [List.pairwise_cons] at h
    by_cases hx : x ≤ y
    · rw [if_pos hx, List.pairwise_cons, List.pairwise_cons]
      exact ⟨fun z hz => by
        rcases List.mem_cons.mp hz with e | e
        · rw [e]; exact hx
        · have := h.1 z e
          omega, h⟩
    · rw [if_neg hx, List.pairwise_cons]
      refine ⟨fun z hz => ?_, insI_sorted x h.2⟩
      rcases List.mem_cons.mp ((insI_perm x r).mem_iff.mp hz) with e | e
      · omega
      · exact h.1 z e
theorem sortI_sorted : ∀ r, (sortI r).Pairwise (· ≤ ·)
  | [] => .nil
  | x :: r => insI_sorted x (sortI_sorted r)
theorem sorted_eq : ∀ {l m : List Int}, l.Perm m → l.Pairwise (· ≤ ·) → m.Pairwise (· ≤ ·) → l = m
  | [], m, p, _, _ => (List.nil_perm.mp p).symm
  | x :: l, m, p, hl, hm => by
    cases m with
    | nil => exact absurd p.symm (by intro q; have := q.length_eq; simp at this)
    | cons y m =>
      rw [List.pairwise_cons] at hl hm
      have e : x = y := by
        have h1 : x ∈ y :: m := p.mem_iff.mp List.mem_cons_self
        have h2 : y ∈ x :: l := p.mem_iff.mpr List.mem_cons_self
        rcases List.mem_cons.mp h1 with e | e
        · exact e
        · rcases List.mem_cons.mp h2 with e2 | e2
          · exact e2.symm
          · have a1 := hm.1 x e
            have a2 := hl.1 y e2
            omega
      subst e
      rw [sorted_eq (List.Perm.cons_inv p) hl.2 hm.2]
section
variable {X : Cx} {ss : List Sl} {a : Expr} {ρ : R} {pos p : Pos} {ns : List Int}
theorem its_ints {F : Hp} : ∀ {xs : List Int} {vs : List V}, Its sInt F xs vs → vs = xs.map V.int
  | [], vs, h => List.eq_nil_of_length_eq_zero h.len
  | x :: xs, vs, h => by
    have h' : Paired (fun x v => (sInt x).r F v) (x :: xs) vs := h
    cases h' with
    | cons r t =>
      have e : _ = V.int x := r
      subst e
      rw [List.map_cons, its_ints (F := F) (show Its sInt F _ _ from t)]
theorem ints_its {F : Hp} : ∀ (xs : List Int), Its sInt F xs (xs.map V.int)
  | [] => Its.nil
  | x :: xs => Its.cons (T := sInt) (x := x) rfl (ints_its xs)
theorem ev_sorted (hm : X.mg "sorted" = none) [hq : AsLs X.K ρ sInt ns] (ha : EvE X ss a ρ) (hl : ns.length < 64) (hg : Gl X "sorted" := by rfl) (he : starEach [a] X.env = (false, eval a X.env) :: starEach [] X.env := by exact star_ok rfl) (hpl : (backTo pos (starEach [] X.env)).any (·.1) = false := by rfl) :
    EvN X ss (.Call (.Name "sorted" p) [a] [] pos) (oLst sInt (sortI ns)) := .mk fun B F H σ h Q q =>
  toE (pe_callB cr_sorted hg hm (by decide +kernel) PAw (by decide) (by decide) he hpl) (ea_cons ha ea_nil he B F H σ h _ fun vs F1 H1 g1 rs => by
    cases rs with
    | cons r rr =>
      cases rr
      obtain ⟨p1, ws, e1, hw, hi⟩ := hq.w F1 H1 _ g1.s r
      rw [its_ints hi] at hw
      subst e1
      refine ⟨p1, ns, rfl, hw, hl, fun ns' l hp hs nl => ?_⟩
      have e2 : ns' = sortI ns := sorted_eq (hp.trans (sortI_perm ns).symm) hs (sortI_sorted ns)
      subst e2
      exact fresh1 q g1 nl ⟨_, hp1_same, ints_its _⟩)
end
end Sx
namespace Sx
open PySem PySem.Spec PyProof.Rows L2
section
variable {X : Cx} {ss : List Sl} {e a b c : Expr} {es : List Expr} {ρ τ κ : R} {s t : S} {o : O} {pos p p2 : Pos} {k : Nat} {α β : Type} {T T' : α → S} {U : β → S} {xs ys : List α} {x y : α} {i j : Int}
theorem ev_nat (h : EvE X ss e (sv (sInt i))) (h0 : 0 ≤ i) : EvE X ss e (sv (sNat i.toNat)) := h.impS fun F v r => by
  have e1 : v = .int i := r
  show v = .int ((i.toNat : Nat) : Int)
  rw [e1, Int.toNat_of_nonneg h0]
/-- an item of a list or tuple whose items are told one by one -/
theorem ev_at {xs : List S} (n : Nat) {j : Nat} {ρ : R} {p1 : Pos} [hq : AsSq X.K ρ id xs] (ha : EvE X ss a ρ) (hx : xs[n]? = some s) (hp : PlainIx (.Constant (.int (n : Int)) j p1) := by exact fun _ _ => rfl) : EvE X ss (.Subscript a (.Constant (.int (n : Int)) j p1) pos) (sv s) := ev_ix (T := id) (x := s) ha ev_int (atI_nat hx) hp
/-- a built-in type, as a value -/
theorem ev_ty {x : Str} {n : String} (hm : X.mg x = none) (hb : bootBuiltins x = some (.type n) := by decide +kernel) (hg : Gl X x := by rfl) (hn : x ≠ "__name__" := by decide) (hd : (x == ("__debug__" : Str)) = false := by decide) : EvE X ss (.Name x pos) (sv (sC (.ty n))) := .mk fun B F H σ h Q q =>
  toE (pe_bltn (v := .ty n) hg hm hb rfl hn hd) (q _ F H (.refl h.s) rfl)
/-- isinstance(a, T), T a built-in type -/
theorem ev_isi {n : String} {w : String} {r : Bool} (hm : X.mg "isinstance" = none) (ha : EvE X ss a ρ) (hb : EvE X ss b (sv (sC (.ty n)))) (ht : ∀ F H v, Same F H → ρ.r F H v → TyX X.K H v (.type w)) (hk : kitB w n = some r := by decide +kernel) (hg : Gl X "isinstance" := by rfl)
    (he : starEach [a, b] X.env = (false, eval a X.env) :: starEach [b] X.env := by exact star_ok rfl) (he2 : starEach [b] X.env = (false, eval b X.env) :: starEach [] X.env := by exact star_ok rfl) (hpl : (backTo pos (starEach [b] X.env)).any (·.1) = false := by rfl) :
    EvE X ss (.Call (.Name "isinstance" p) [a, b] [] pos) (sv (sBool r)) :=
  ev_cb call_isi hm PyProof.Rows.boot_isinstance (ea_cons ha (ea_cons hb ea_nil he2) he) (fun F H vs Q sF rs q => by
    cases rs with
    | cons r1 rr =>
      cases rr with
      | cons r2 rr =>
        cases rr
        have e2 : _ = V.ty n := r2
        subst e2
        exact ⟨_, _, .type w, .type n, r, rfl, .ty n, ht F H _ sF r1, kit_ty hk, q _ F H (.refl sF) rfl⟩) hg (he := he) (hpl := hpl)
theorem ty_bool {K : PySem.W.Frag} {F H : Hp} {v : V} {b : Bool} (r : (sv (sBool b)).r F H v) : TyX K H v (.type "bool") := by
  have e : v = .bl b := r
  subst e
  exact .base (.bl b)
theorem ty_int {K : PySem.W.Frag} {F H : Hp} {v : V} {b : Int} (r : (sv (sInt b)).r F H v) : TyX K H v (.type "int") := by
  have e : v = .int b := r
  subst e
  exact .base (.int b)
theorem ty_str {K : PySem.W.Frag} {F H : Hp} {v : V} {b : Str} (r : (sv (sStr b)).r F H v) : TyX K H v (.type "str") := by
  obtain ⟨e, _⟩ := r
  subst e
  exact .base (.str b)
theorem filt_true {γ : Type} (l : List γ) : l.filter (fun _ => true) = l := by simp
/-- comprehensions without a test -/
theorem lc_seqT {elt iter tg : Expr} {scope : Scope} (j : Nat) (f : α → β) [hq : AsSq X.K ρ T xs] (hi : EvE X ss iter ρ) (hl : xs.length ≤ sizeLine) (he : ∀ (i : Nat) x, xs[i]? = some x → BlkE X scope (ss.set j (.val (T x))) elt (sv (U (f x)))) :
    Lc X ss elt tg iter [] scope j (oLst U (xs.map f)) := by
  have h := lc_seq (U := U) (tg := tg) j (fun _ => true) f hi hl (fun _ _ _ => bt_nil (scope := scope)) (fun i x hx _ => he i x hx)
  rwa [filt_true] at h
theorem lc_rngT {elt a tg : Expr} {scope : Scope} {pr p2 : Pos} {n : Int} (j : Nat) (f : Nat → β) (hm : X.mg "range" = none) (hi : EvE X ss a (sv (sInt n))) (hl : n ≤ 16777216) (hl0 : -(2 ^ 62) ≤ n) (he : ∀ (i : Nat), (i : Int) < n → BlkE X scope (ss.set j (.val (sInt (i : Int)))) elt (sv (U (f i))))
    (hg : Gl X "range" := by rfl) (hst : starEach [a] X.env = [(false, eval a X.env)] := by exact star_one rfl) :
    Lc X ss elt tg (.Call (.Name "range" pr) [a] [] p2) [] scope j (oLst U ((List.range n.toNat).map f)) := by
  have h := lc_rng (U := U) (tg := tg) (pr := pr) (p2 := p2) j (fun _ => true) f hm hi hl hl0 (fun _ _ => bt_nil (scope := scope)) (fun i hi _ => he i hi) hg hst
  rwa [filt_true] at h
theorem cutL_nat {γ : Type} {l : List γ} {a b : Nat} (h : a ≤ b) (hb : b ≤ l.length) : cutL l (some (a : Int)) (some (b : Int)) = (l.drop a).take (b - a) := by
  unfold cutL
  rw [HT.sIx_nat, HT.sIx_nat, Nat.min_eq_left (Nat.le_trans h hb), Nat.min_eq_left hb]
theorem cutL_pre {γ : Type} {l : List γ} {b : Nat} : cutL l none (some (b : Int)) = l.take b := by
  unfold cutL
  rw [HT.sIx_nat, HT.sIx_none, List.drop_zero, Nat.sub_zero]
  by_cases h : b ≤ l.length
  · rw [Nat.min_eq_left h]
  · rw [Nat.min_eq_right (by omega), List.take_length, List.take_of_length_le (by omega)]
theorem cutL_suf {γ : Type} {l : List γ} {a : Nat} : cutL l (some (a : Int)) none = l.drop a := by
  unfold cutL
  rw [HT.sIx_nat, HT.sIx_none]
  by_cases h : a ≤ l.length
  · rw [Nat.min_eq_left h, List.take_of_length_le (by rw [List.length_drop]; exact Nat.le_refl _)]
  · rw [Nat.min_eq_right (by omega), List.drop_of_length_le (Nat.le_refl _), List.drop_of_length_le (by omega), List.take_nil]
theorem cutL_mem {γ : Type} {l : List γ} {a b : Option Int} {x : γ} (h : x ∈ cutL l a b) : x ∈ l := List.mem_of_mem_drop (List.mem_of_mem_take h)
theorem cutL_le {γ : Type} {l : List γ} {a b : Option Int} : (cutL l a b).length ≤ l.length := by
  unfold cutL
  rw [List.length_take, List.length_drop]
  omega
/-- xs[:n], xs[n:] -/
theorem ev_slPre {hi : Option Expr} {n : Nat} [hq : AsLs X.K ρ T xs] (ha : EvE X ss a ρ) (hu : EvO X ss hi (some (n : Int))) : EvN X ss (.Subscript a (.Slice none hi none p2) pos) (oLst T (xs.take n)) := (ev_slL ha eo_none hu).to (by rw [cutL_pre])
theorem ev_slSuf {lo : Option Expr} {n : Nat} [hq : AsLs X.K ρ T xs] (ha : EvE X ss a ρ) (hu : EvO X ss lo (some (n : Int))) : EvN X ss (.Subscript a (.Slice lo none none p2) pos) (oLst T (xs.drop n)) := (ev_slL ha hu eo_none).to (by rw [cutL_suf])
/-! ### sorted naturals -/
theorem its_nat {F : Hp} : ∀ {l : List Int} {vs : List V}, Its sInt F l vs → (∀ i ∈ l, 0 ≤ i) → Its sNat F (l.map Int.toNat) vs
  | [], vs, h, _ => by
    have e : vs = [] := List.eq_nil_of_length_eq_zero h.len
    subst e
    exact Its.nil
  | x :: xs, vs, h, hn => by
    have h' : Paired (fun x v => (sInt x).r F v) (x :: xs) vs := h
    cases h' with
    | @cons _ v _ vs' r t =>
      have r' : v = .int x := r
      have e : (sNat x.toNat).r F v := by
        show v = .int ((x.toNat : Nat) : Int)
        rw [r', Int.toNat_of_nonneg (hn x List.mem_cons_self)]
      exact Its.cons e (its_nat (show Its sInt F xs vs' from t) fun i hi => hn i (List.mem_cons_of_mem _ hi))
theorem its_int {F : Hp} : ∀ {l : List Nat} {vs : List V}, Its sNat F l vs → Its sInt F (l.map fun n : Nat => (n : Int)) vs
  | [], vs, h => by
    have e : vs = [] := List.eq_nil_of_length_eq_zero h.len
    subst e
    exact Its.nil
  | x :: xs, vs, h => by
    have h' : Paired (fun x v => (sNat x).r F v) (x :: xs) vs := h
    cases h' with
    | @cons _ v _ vs' r t => exact Its.cons (T := sInt) r (its_int (show Its sNat F xs vs' from t))
def sortN (l : List Nat) : List Nat := (sortI (l.map fun n : Nat => (n : Int))).map Int.toNat
theorem mem_sortN {l : List Nat} {x : Nat} : x ∈ sortN l ↔ x ∈ l := by
  unfold sortN
  rw [List.mem_map]
  constructor
  · rintro ⟨i, hi, rfl⟩
    have := (sortI_perm _).mem_iff.mp hi
    obtain ⟨n, hn, rfl⟩ := List.mem_map.mp this
    simpa using hn
  · intro h
    exact ⟨(x : Int), (sortI_perm _).mem_iff.mpr (List.mem_map.mpr ⟨x, h, rfl⟩), by simp⟩
theorem sortN_len (l : List Nat) : (sortN l).length = l.length := by
  unfold sortN
  rw [List.length_map, (sortI_perm _).length_eq, List.length_map]
theorem ev_sortedN {ns : List Nat} (hm : X.mg "sorted" = none) (ha : EvE X ss a (sv (sO (oLst sNat ns)))) (hl : ns.length < 64) (hg : Gl X "sorted" := by rfl) (he : starEach [a] X.env = (false, eval a X.env) :: starEach [] X.env := by exact star_ok rfl) (hpl : (backTo pos (starEach [] X.env)).any (·.1) = false := by rfl) :
    EvN X ss (.Call (.Name "sorted" p) [a] [] pos) (oLst sNat (sortN ns)) := by
  have h1 : EvE X ss a (sv (sO (oLst sInt (ns.map fun n : Nat => (n : Int))))) := ha.impS fun F v ⟨p, k, e1, hk, vs, hp, hi⟩ => ⟨p, k, e1, hk, vs, hp, its_int hi⟩
  have h2 := ev_sorted (pos := pos) (p := p) hm h1 (by rw [List.length_map]; exact hl) hg he hpl
  exact h2.imp fun F k p ⟨vs, hp, hi⟩ => ⟨vs, hp, its_nat hi fun i hi' => by
    have := (sortI_perm _).mem_iff.mp hi'
    obtain ⟨n, _, rfl⟩ := List.mem_map.mp this
    omega⟩
end
end Sx
namespace Sx
open PySem PySem.Spec PyProof.Rows L2
/-! ### dicts whose keys are tuples -/
section
variable {κ α : Type} [DecidableEq κ]
def gK (kvs : List (κ × α)) (k : κ) : Option α := (kvs.find? fun kv => decide (kv.1 = k)).map (·.2)
def pK (kvs : List (κ × α)) (k : κ) (v : α) : List (κ × α) :=
  if (kvs.any fun kv => decide (kv.1 = k)) = true then kvs.map (fun kv => if kv.1 = k then (kv.1, v) else kv) else kvs ++ [(k, v)]
theorem gK_none {kvs : List (κ × α)} {k : κ} (h : ∀ kv ∈ kvs, kv.1 ≠ k) : gK kvs k = none := by
  unfold gK
  rw [List.find?_eq_none.mpr (fun kv hkv => by simp [h kv hkv])]
  rfl
theorem gK_isSome {kvs : List (κ × α)} {k : κ} : (gK kvs k).isSome = decide (k ∈ kvs.map (·.1)) := by
  unfold gK
  rw [Option.isSome_map]
  by_cases h : k ∈ kvs.map (·.1)
  · rw [decide_eq_true h]
    obtain ⟨kv, h1, h2⟩ := List.mem_map.mp h
    exact List.find?_isSome.mpr ⟨kv, h1, decide_eq_true h2⟩
  · rw [decide_eq_false h]
    rw [List.find?_eq_none.mpr (fun kv hkv => by
      have : kv.1 ≠ k := fun e => h (List.mem_map.mpr ⟨kv, hkv, e⟩)
      simp [this])]
    rfl
theorem pK_new {kvs : List (κ × α)} {k : κ} {v : α} (h : k ∉ kvs.map (·.1)) : pK kvs k v = kvs ++ [(k, v)] := by
  unfold pK
  rw [if_neg]
  intro q
  obtain ⟨kv, h1, h2⟩ := List.any_eq_true.mp q
  exact h (List.mem_map.mpr ⟨kv, h1, of_decide_eq_true h2⟩)
theorem pK_keys (kvs : List (κ × α)) (k : κ) (v : α) : (pK kvs k v).map (·.1) = if k ∈ kvs.map (·.1) then kvs.map (·.1) else kvs.map (·.1) ++ [k] := by
  by_cases h : k ∈ kvs.map (·.1)
  · rw [if_pos h]
    unfold pK
    rw [if_pos]
    · rw [List.map_map]
      refine List.map_congr_left fun kv _ => ?_
      show (if kv.1 = k then (kv.1, v) else kv).1 = kv.1
      split <;> rfl
    · obtain ⟨kv, h1, h2⟩ := List.mem_map.mp h
      exact List.any_eq_true.mpr ⟨kv, h1, decide_eq_true h2⟩
  · rw [if_neg h, pK_new h, List.map_append]
    rfl
theorem pK_len (kvs : List (κ × α)) (k : κ) (v : α) : (pK kvs k v).length ≤ kvs.length + 1 := by
  have h := congrArg List.length (pK_keys kvs k v)
  rw [List.length_map] at h
  rw [h]
  split <;> simp
end
class KeyT (κ : Type) where
  enc : κ → List Key
  inj : ∀ a b, enc a = enc b → a = b
  good : κ → Prop
class KeyS {κ : Type} [KeyT κ] (U : κ → S) : Prop where
  to_ : ∀ {F : Hp} {v : V} {k : κ}, (U k).r F v → ∃ p, v = .ref p ∧ F p = some (.tup ((KeyT.enc k).map kV)) ∧ KeyT.good k
  of_ : ∀ {F : Hp} {p : Addr} {k : κ}, F p = some (.tup ((KeyT.enc k).map kV)) → KeyT.good k → (U k).r F (.ref p)
theorem map_inr_inj : ∀ a b : List Str, a.map (Sum.inr : Str → Key) = b.map Sum.inr → a = b
  | [], [], _ => rfl
  | [], _ :: _, h => by cases h
  | _ :: _, [], h => by cases h
  | x :: a, y :: b, h => by
    rw [List.map_cons, List.map_cons] at h
    obtain ⟨h1, h2⟩ := List.cons.inj h
    rw [Sum.inr.inj h1, map_inr_inj a b h2]
instance : KeyT (List Str) where
  enc := fun k => k.map Sum.inr
  inj := fun a b h => map_inr_inj a b h
  good := fun k => ∀ x ∈ k, PyData.strOk x = true
theorem encS (k : List Str) : ((KeyT.enc k : List Key).map kV) = k.map V.str := by
  show (k.map Sum.inr).map kV = _
  rw [List.map_map]
  rfl
theorem its_ok {F : Hp} : ∀ {xs : List Str} {vs : List V}, Its sStr F xs vs → ∀ x ∈ xs, PyData.strOk x = true
  | [], vs, _, x, hx => by cases hx
  | y :: xs, vs, h, x, hx => by
    have h' : Paired (fun x v => (sStr x).r F v) (y :: xs) vs := h
    cases h' with
    | @cons _ v _ vs' r t =>
      rcases List.mem_cons.mp hx with e | e
      · rw [e]; exact r.2
      · exact its_ok (show Its sStr F xs vs' from t) x e
theorem strs_its {F : Hp} : ∀ {xs : List Str}, (∀ x ∈ xs, PyData.strOk x = true) → Its sStr F xs (xs.map V.str)
  | [], _ => Its.nil
  | x :: xs, h => Its.cons (T := sStr) (x := x) ⟨rfl, h x List.mem_cons_self⟩ (strs_its fun y hy => h y (List.mem_cons_of_mem _ hy))
instance : KeyS (fun k : List Str => sO (oTup sStr k)) where
  to_ := fun {F v k} ⟨p, c, e, hk, vs, hp, hi⟩ => ⟨p, e, by
    rw [hk _ _ hp, encS, its_strs hi], its_ok hi⟩
  of_ := fun {F p k} e g => ⟨p, F, rfl, Same.refl _, k.map V.str, by rw [e, encS], strs_its g⟩
instance : KeyS (sTup sStr) := inferInstanceAs (KeyS (fun k : List Str => sO (oTup sStr k)))
section
variable {κ α : Type} [DecidableEq κ] [KeyT κ] {T : α → S}
def KvR (T : α → S) (F : Hp) (kvs : List (κ × α)) (ws : List (List Key × V)) : Prop := Paired (fun (a : κ × α) (b : List Key × V) => (b.1 = KeyT.enc a.1 ∧ KeyT.good a.1) ∧ (T a.2).r F b.2) kvs ws
theorem KvR.mono {F F' : Hp} {kvs : List (κ × α)} {ws : List (List Key × V)} (e : Same F F') (h : KvR T F kvs ws) : KvR T F' kvs ws := Paired.mapP h fun _ _ q => ⟨q.1, (T _).mono e q.2⟩
theorem KvR.len {F : Hp} {kvs : List (κ × α)} {ws : List (List Key × V)} (h : KvR T F kvs ws) : ws.length = kvs.length := (Paired.length h).symm
theorem KvR.get {F : Hp} {k : κ} : ∀ {kvs : List (κ × α)} {ws : List (List Key × V)}, KvR T F kvs ws → (match gK kvs k with
    | none => valV ws (KeyT.enc k) = none
    | some x => ∃ v, valV ws (KeyT.enc k) = some v ∧ (T x).r F v)
  | [], ws, h => by
    have h' : Paired (fun (a : κ × α) (b : List Key × V) => (b.1 = KeyT.enc a.1 ∧ KeyT.good a.1) ∧ (T a.2).r F b.2) [] ws := h
    cases h'
    rfl
  | (j, x) :: kvs, ws, h => by
    have h' : Paired (fun (a : κ × α) (b : List Key × V) => (b.1 = KeyT.enc a.1 ∧ KeyT.good a.1) ∧ (T a.2).r F b.2) ((j, x) :: kvs) ws := h
    cases h' with
    | @cons _ b _ ws' r t =>
      have ih := KvR.get (k := k) (show KvR T F kvs ws' from t)
      by_cases e : j = k
      · have e1 : gK ((j, x) :: kvs) k = some x := by simp [gK, List.find?_cons, e]
        rw [e1]
        exact ⟨b.2, valV_pos (by rw [r.1.1, e]), r.2⟩
      · have e1 : gK ((j, x) :: kvs) k = gK kvs k := by simp [gK, List.find?_cons, e]
        rw [e1]
        have e2 : valV (b :: ws') (KeyT.enc k) = valV ws' (KeyT.enc k) := valV_neg fun z => e (KeyT.inj _ _ (r.1.1.symm.trans z))
        rw [e2]
        exact ih
theorem KvR.any {F : Hp} {k : κ} : ∀ {kvs : List (κ × α)} {ws : List (List Key × V)}, KvR T F kvs ws → (ws.any fun kv => decide (kv.1 = KeyT.enc k)) = kvs.any fun kv => decide (kv.1 = k)
  | [], ws, h => by
    have h' : Paired (fun (a : κ × α) (b : List Key × V) => (b.1 = KeyT.enc a.1 ∧ KeyT.good a.1) ∧ (T a.2).r F b.2) [] ws := h
    cases h'
    rfl
  | (j, x) :: kvs, ws, h => by
    have h' : Paired (fun (a : κ × α) (b : List Key × V) => (b.1 = KeyT.enc a.1 ∧ KeyT.good a.1) ∧ (T a.2).r F b.2) ((j, x) :: kvs) ws := h
    cases h' with
    | @cons _ b _ ws' r t =>
      rw [List.any_cons, List.any_cons, KvR.any (k := k) (show KvR T F kvs ws' from t)]
      by_cases e : j = k
      · rw [decide_eq_true (show b.1 = KeyT.enc k by rw [r.1.1, e]), decide_eq_true (show (j, x).1 = k from e)]
      · rw [decide_eq_false (show ¬ b.1 = KeyT.enc k from fun z => e (KeyT.inj _ _ (r.1.1.symm.trans z))), decide_eq_false (show ¬ (j, x).1 = k from e)]
theorem KvR.put {F : Hp} {k : κ} {x : α} {v : V} (g : KeyT.good k) (r : (T x).r F v) {kvs : List (κ × α)} {ws : List (List Key × V)} (h : KvR T F kvs ws) : KvR T F (pK kvs k x) (putK ws (KeyT.enc k) v) := by
  unfold pK putK
  rw [KvR.any h (k := k)]
  by_cases e : (kvs.any fun kv => decide (kv.1 = k)) = true
  · rw [if_pos e, if_pos e]
    clear e
    have h' : Paired (fun (a : κ × α) (b : List Key × V) => (b.1 = KeyT.enc a.1 ∧ KeyT.good a.1) ∧ (T a.2).r F b.2) kvs ws := h
    show Paired _ _ _
    clear h
    induction h' with
    | nil => exact .nil
    | @cons a b as bs q t ih =>
      rw [List.map_cons, List.map_cons]
      refine .cons ?_ ih
      by_cases e : a.1 = k
      · rw [if_pos e, if_pos (show b.1 = KeyT.enc k by rw [q.1.1, e])]
        exact ⟨q.1, r⟩
      · rw [if_neg e, if_neg (fun z => e (KeyT.inj _ _ (q.1.1.symm.trans z)))]
        exact q
  · rw [if_neg e, if_neg e]
    exact pr_app h (.cons ⟨⟨rfl, g⟩, r⟩ .nil)
def oDT (T : α → S) (kvs : List (κ × α)) : O := ⟨fun F h p => ∃ ws, h p = some (.dT ws) ∧ KvR T F kvs ws, fun e ⟨ws, q, h⟩ => ⟨ws, q, h.mono e⟩⟩
end
section
variable {X : Cx} {ss : List Sl} {e a b c : Expr} {es : List Expr} {ρ τ : R} {s t : S} {o : O} {pos pos' p p2 : Pos} {k : Nat} {κ α β : Type} [DecidableEq κ] [KeyT κ] {T : α → S} {U : κ → S} {kvs : List (κ × α)} {key : κ} {x : α} {D : Ds}
theorem ev_dnewT : EvN X ss (.Dict [] [] pos) (oDT T ([] : List (κ × α))) := .mk fun B F H σ h Q q => toE pe_dnewT fun p np => fresh1 q (.refl h.s) np ⟨[], hp1_same, .nil⟩
theorem ev_din [hU : KeyS U] (hr : Room k X.A) (ha : EvE X ss a (sv (U key))) (hb : EvE X ss b (bO (oDT T kvs))) (hm : behindInMarks .In b = false := by rfl) : EvE X ss (.Compare a [.In] [b] pos) (sv (sBool (decide (key ∈ kvs.map (·.1))))) := .mk fun B F H σ h Q q =>
  toE (pe_cmp (pc_din (hu_of hr) PEw PEw) hm) (ha B F H σ h _ fun v F1 H1 g1 r1 => hb B F1 H1 σ (h.grow g1) _ fun w F2 H2 g2 ⟨d, k2, e2, hk2, ws, hd, hr2⟩ => by
    obtain ⟨p, e1, hp, _⟩ := hU.to_ r1
    subst e1 e2
    refine ⟨d, _, rfl, DGet.t (hk2 _ _ hd) (g2.s _ _ (g2.f _ _ hp)), ?_⟩
    have e3 : (valV ws (KeyT.enc key)).isSome = decide (key ∈ kvs.map (·.1)) := by
      rw [← gK_isSome]
      have := hr2.get (k := key)
      cases z : gK kvs key with
      | none => rw [z] at this; rw [this]; rfl
      | some y => rw [z] at this; obtain ⟨v, hv, _⟩ := this; rw [hv]; rfl
    rw [e3]
    exact q _ F2 H2 (g1.trans g2) rfl)
theorem et_din [hU : KeyS U] (hr : Room k X.A) (ha : EvE X ss a (sv (U key))) (hb : EvE X ss b (bO (oDT T kvs))) (hm : behindInMarks .In b = false := by rfl) : EvT X ss (.Compare a [.In] [b] pos) (decide (key ∈ kvs.map (·.1))) := .mk fun B F H σ h Q q =>
  toT (pt_cmp (pc_din (hu_of hr) PEw PEw) hm) (ha B F H σ h _ fun v F1 H1 g1 r1 => hb B F1 H1 σ (h.grow g1) _ fun w F2 H2 g2 ⟨d, k2, e2, hk2, ws, hd, hr2⟩ => by
    obtain ⟨p, e1, hp, _⟩ := hU.to_ r1
    subst e1 e2
    refine ⟨d, _, rfl, DGet.t (hk2 _ _ hd) (g2.s _ _ (g2.f _ _ hp)), _, rfl, ?_⟩
    have e3 : (valV ws (KeyT.enc key)).isSome = decide (key ∈ kvs.map (·.1)) := by
      rw [← gK_isSome]
      have := hr2.get (k := key)
      cases z : gK kvs key with
      | none => rw [z] at this; rw [this]; rfl
      | some y => rw [z] at this; obtain ⟨v, hv, _⟩ := this; rw [hv]; rfl
    rw [e3]
    exact q F2 H2 (g1.trans g2))
theorem et_dnin [hU : KeyS U] (hr : Room k X.A) (ha : EvE X ss a (sv (U key))) (hb : EvE X ss b (bO (oDT T kvs))) (hm : behindInMarks .NotIn b = false := by rfl) : EvT X ss (.Compare a [.NotIn] [b] pos) (!decide (key ∈ kvs.map (·.1))) := .mk fun B F H σ h Q q =>
  toT (pt_cmp (pc_dnotin (hu_of hr) PEw PEw) hm) (ha B F H σ h _ fun v F1 H1 g1 r1 => hb B F1 H1 σ (h.grow g1) _ fun w F2 H2 g2 ⟨d, k2, e2, hk2, ws, hd, hr2⟩ => by
    obtain ⟨p, e1, hp, _⟩ := hU.to_ r1
    subst e1 e2
    refine ⟨d, _, rfl, DGet.t (hk2 _ _ hd) (g2.s _ _ (g2.f _ _ hp)), _, rfl, ?_⟩
    have e3 : (valV ws (KeyT.enc key)).isSome = decide (key ∈ kvs.map (·.1)) := by
      rw [← gK_isSome]
      have := hr2.get (k := key)
      cases z : gK kvs key with
      | none => rw [z] at this; rw [this]; rfl
      | some y => rw [z] at this; obtain ⟨v, hv, _⟩ := this; rw [hv]; rfl
    rw [e3]
    exact q F2 H2 (g1.trans g2))
/-- d[k] -/
theorem ev_dget [hU : KeyS U] (hr : Room k X.A) (hb : EvE X ss b (bO (oDT T kvs))) (ha : EvE X ss a (sv (U key))) (hx : gK kvs key = some x) (hp : NoSl a := by exact fun _ _ => rfl) : EvE X ss (.Subscript b a pos) (sv (T x)) := .mk fun B F H σ h Q q =>
  toE (pe_dget (hu_of hr) PEw PEw hp) (hb B F H σ h _ fun w F1 H1 g1 ⟨d, k2, e2, hk2, ws, hd, hr2⟩ => ha B F1 H1 σ (h.grow g1) _ fun v F2 H2 g2 r1 => by
    obtain ⟨p, e1, hp, _⟩ := hU.to_ r1
    subst e1 e2
    have := hr2.get (k := key)
    rw [hx] at this
    obtain ⟨u, hu, ru⟩ := this
    exact ⟨d, u, rfl, by rw [← hu]; exact DGet.t (g2.h _ _ (hk2 _ _ hd)) (g2.s _ _ hp), q u F2 H2 (g1.trans g2) ((T x).mono g2.f ru)⟩)
/-- the cells of d = .. -/
theorem dput_wr {H : Hp} {c : Hp} {d : Addr} {ws : List (List Key × V)} {v : V} (hd : c d = some (.dT ws)) (hc : ∀ a ob, c a = some ob → H a = some ob) :
    (∀ a ob, IsT ob → c a = some ob → upd H d (.dT (putK ws (KeyT.enc key) v)) a = some ob) ∧ (∀ a ob, upd c d (.dT (putK ws (KeyT.enc key) v)) a = some ob → upd H d (.dT (putK ws (KeyT.enc key) v)) a = some ob) ∧
    (∀ a ob, c a = none → H a = some ob → upd H d (.dT (putK ws (KeyT.enc key) v)) a = some ob) ∧ (∀ a ob, upd c d (.dT (putK ws (KeyT.enc key) v)) a = some ob → c a = none → H a = none) := by
  refine ⟨fun a ob za ea => ?_, fun a ob ea => ?_, fun a ob na ea => ?_, fun a ob ea na => ?_⟩
  · have ha : a ≠ d := fun z => by
      subst z
      rw [hd] at ea
      cases ea
      exact za.elim
    rw [upd_ne ha]
    exact hc _ _ ea
  · by_cases ha : a = d
    · subst ha
      rw [upd_same] at ea ⊢
      exact ea
    · rw [upd_ne ha] at ea ⊢
      exact hc _ _ ea
  · rw [upd_ne (fun z => by subst z; rw [hd] at na; cases na)]
    exact ea
  · by_cases ha : a = d
    · subst ha
      rw [hd] at na
      cases na
    · rw [upd_ne ha, na] at ea
      cases ea
/-- d[k] = v, d an own dict -/
theorem s_dput (i : Nat) {z : Str} {p1 : Pos} [hU : KeyS U] (hr : Room k X.A) (hi : ss[i]? = some (.own (oDT T kvs))) (hv : EvE X ss e (sv (T x))) (ha : EvE X ss a (sv (U key))) (hl : kvs.length < sizeLine) (kk : D.nx (ss.set i (.own (oDT T (pK kvs key x))))) (hN : X.N[i]? = some z := by rfl)
    (hvs : Vis X.env.scope z := by first | exact Or.inl rfl | exact Or.inr (Or.inl rfl) | exact Or.inr (Or.inr rfl)) (hd : (z == ("__debug__" : Str)) = false := by decide) (hcd : (z == ("__classdict__" : Str)) = false := by decide)
    (hs : swapsWith e (some (.Subscript (.Name z p1) a pos')) pos.line X.env = pure false := by rfl) : EvS X ss (.Assign [.Subscript (.Name z p1) a pos'] e pos) D := .mk fun B F H σ h tk =>
  toS (ps_dput (hu_of hr) (pe_var hN hvs hd hcd) PEw PEw hs) (hv B F H σ h _ fun v F1 H1 g1 r1 => by
    obtain ⟨d0, c0, e0, _⟩ := (h.grow g1).own hi
    refine ⟨_, e0, ha B F1 H1 σ (h.grow g1) _ fun w F2 H2 g2 r2 => ?_⟩
    obtain ⟨d, c, e1, hc, ⟨ws, hd, hk⟩, wr⟩ := ((h.grow g1).grow g2).write hi
    rw [e0] at e1
    cases e1
    obtain ⟨b, eb, hb, gb⟩ := hU.to_ r2
    subst eb
    obtain ⟨w0, w1, w2, w3⟩ := dput_wr (key := key) (v := v) hd (fun a ob ea => (hc a ob ea).1)
    exact ⟨d0, _, rfl, DPut.t (hc _ _ hd).1 (g2.s _ _ hb) (by rw [hk.len]; exact hl), F2, _, wr (oDT T (pK kvs key x)) _ _ w0 w1 w2 w3 ⟨_, upd_same, hk.put gb ((T x).mono g2.f r1)⟩, kk⟩)
end
end Sx
namespace Sx
open PySem PySem.Spec PyProof.Rows L2
/-! ### tuples are known to all -/
theorem pub_tups {F H : Hp} (s : Same F H) (bs : List Addr) (h : ∀ b ∈ bs, ∃ vs, H b = some (.tup vs)) : ∃ F2, Grow F H F2 H ∧ ∀ b ∈ bs, F2 b = H b := by
  refine ⟨fun a => match F a with
    | some o => some o
    | none => if a ∈ bs then H a else none, ⟨fun a o e => ?_, Same.refl _, fun a o e => ?_, fun a o e n => ?_⟩, fun b hb => ?_⟩
  · show (match F a with
      | some o => some o
      | none => if a ∈ bs then H a else none) = some o
    rw [e]
  · have e' : (match F a with
      | some o => some o
      | none => if a ∈ bs then H a else none) = some o := e
    cases q : F a with
    | some o' =>
      rw [q] at e'
      cases e'
      exact s _ _ q
    | none =>
      rw [q] at e'
      by_cases ha : a ∈ bs
      · simpa [ha] using e'
      · simp [ha] at e'
  · have e' : (match F a with
      | some o => some o
      | none => if a ∈ bs then H a else none) = some o := e
    rw [n] at e'
    by_cases ha : a ∈ bs
    · obtain ⟨vs, hv⟩ := h a ha
      have e2 : H a = some o := by simpa [ha] using e'
      rw [hv] at e2
      cases e2
      exact .inr trivial
    · simp [ha] at e'
  · show (match F b with
      | some o => some o
      | none => if b ∈ bs then H b else none) = H b
    cases q : F b with
    | some o' => exact (s _ _ q).symm
    | none => simp [hb]
section
variable {X : Cx} {ss : List Sl} {e a b c : Expr} {es : List Expr} {ρ τ : R} {s t : S} {o : O} {pos pos' p p2 : Pos} {k : Nat} {κ α β : Type} [DecidableEq κ] [KeyT κ] {T : α → S} {U : κ → S} {kvs : List (κ × α)} {key : κ} {x : α} {D : Ds}
theorem isKeys_mem {H : Hp} : ∀ {ws : List (List Key × V)} {bs : List Addr}, IsKeys H ws bs → ∀ b ∈ bs, ∃ vs, H b = some (.tup vs)
  | [], bs, h, b, hb => by
    have h' : Paired (fun (p : List Key × V) b => H b = some (.tup (p.1.map kV))) [] bs := h
    cases h'
    cases hb
  | w :: ws, bs, h, b, hb => by
    have h' : Paired (fun (p : List Key × V) b => H b = some (.tup (p.1.map kV))) (w :: ws) bs := h
    cases h' with
    | @cons _ b0 _ bs' r t =>
      rcases List.mem_cons.mp hb with e | e
      · rw [e]; exact ⟨_, r⟩
      · exact isKeys_mem (show IsKeys H ws bs' from t) b e
theorem its_keys [hU : KeyS U] {F H : Hp} : ∀ {kvs : List (κ × α)} {ws : List (List Key × V)} {bs : List Addr}, KvR T F kvs ws → IsKeys H ws bs → (∀ b ∈ bs, F b = H b) → Its U F (kvs.map (·.1)) (bs.map V.ref)
  | [], ws, bs, h, hk, hb => by
    have h' : Paired (fun (a : κ × α) (b : List Key × V) => (b.1 = KeyT.enc a.1 ∧ KeyT.good a.1) ∧ (T a.2).r F b.2) [] ws := h
    cases h'
    have k' : Paired (fun (p : List Key × V) b => H b = some (.tup (p.1.map kV))) [] bs := hk
    cases k'
    exact Its.nil
  | kv :: kvs, ws, bs, h, hk, hb => by
    have h' : Paired (fun (a : κ × α) (b : List Key × V) => (b.1 = KeyT.enc a.1 ∧ KeyT.good a.1) ∧ (T a.2).r F b.2) (kv :: kvs) ws := h
    cases h' with
    | @cons _ w _ ws' r t =>
      have k' : Paired (fun (p : List Key × V) b => H b = some (.tup (p.1.map kV))) (w :: ws') bs := hk
      cases k' with
      | @cons _ b _ bs' r2 t2 =>
        rw [List.map_cons, List.map_cons]
        refine Its.cons (hU.of_ ?_ r.1.2) (its_keys (show KvR T F kvs ws' from t) (show IsKeys H ws' bs' from t2) fun b hb' => hb b (List.mem_cons_of_mem _ hb'))
        rw [hb b List.mem_cons_self, r2, r.1.1]
/-- list(d) -/
theorem ev_listDT (U : κ → S) [hU : KeyS U] (hc : X.calm = true) (hm : X.mg "list" = none) (ha : EvE X ss a (bO (oDT T kvs))) (hg : Gl X "list" := by rfl) (he : starEach [a] X.env = (false, eval a X.env) :: starEach [] X.env := by exact star_ok rfl) (hpl : (backTo pos (starEach [] X.env)).any (·.1) = false := by rfl) :
    EvN X ss (.Call (.Name "list" p) [a] [] pos) (oLst U (kvs.map (·.1))) := .mk fun B F H σ h Q q =>
  toE (pe_callTy (call_list_dT hc) hg hm (by decide +kernel) PAw (by decide) (by decide) he hpl) (ea_cons ha ea_nil he B F H σ h _ fun vs F1 H1 g1 rs => by
    cases rs with
    | cons r rr =>
      cases rr
      obtain ⟨d, c, e1, hk, ws, hd, hw⟩ := r
      subst e1
      refine ⟨d, ws, rfl, .inl (hk _ _ hd), fun p bs np hks => ?_⟩
      obtain ⟨F2, g2, h2⟩ := pub_tups g1.s bs (isKeys_mem hks)
      exact fresh1 q (g1.trans g2) np ⟨_, hp1_same, its_keys (hw.mono g2.f) hks h2⟩)
end
/-- an own object is written, with cells that are new since H -/
theorem Sat.writeG {B : Bs} {F H F' H' : Hp} {σ : L2.St} {ss : List Sl} (h : Sat B F H σ ss) (g : Grow F H F' H') {i : Nat} {o : O} (e : ss[i]? = some (.own o)) : ∃ p k, σ[i]? = some (some (.ref p)) ∧ (∀ a ob, k a = some ob → (H a = some ob ∧ H' a = some ob) ∧ B.H a = none ∧ (F' a = none ∨ IsT ob)) ∧ o.r F' k p ∧
    ∀ (o' : O) (k' H2 : Hp), (∀ a ob, IsT ob → k a = some ob → H2 a = some ob) → (∀ a ob, k' a = some ob → H2 a = some ob) → (∀ a ob, k a = none → H' a = some ob → H2 a = some ob) → (∀ a ob, k' a = some ob → k a = none → H a = none ∧ (F' a = none ∨ IsT ob)) → o'.r F' k' p → Sat B F' H2 σ (ss.set i (.own o')) := by
  obtain ⟨v, e0⟩ := h.there e
  obtain ⟨fp, h1, h0⟩ := h.fp
  have h2 := h0.grow g
  have hg := h.grow g
  obtain ⟨p, ep, hr⟩ := h1 i _ _ e e0
  subst ep
  refine ⟨p, fp i, e0, fun a ob q => ⟨⟨(h0.at_ i a ob q).1, (h2.at_ i a ob q).1⟩, (h2.at_ i a ob q).2⟩, o.mono g.f hr, fun o' k' H2 c0 c1 c2 c3 r' => ?_⟩
  have sF : Same F' H2 := fun a ob ea => by
    cases q : fp i a with
    | none => exact c2 a ob q (g.s a ob ea)
    | some o1 =>
      obtain ⟨b1, _, b3⟩ := h2.at_ i a o1 q
      rcases b3 with b3 | b3
      · rw [b3] at ea
        cases ea
      · have e1 := g.s a ob ea
        rw [b1] at e1
        cases e1
        exact c0 a _ b3 q
  have sB : Same B.H H2 := fun a ob ea => c2 a ob (by
    cases q : fp i a with
    | none => rfl
    | some o1 =>
      rw [(h2.at_ i a o1 q).2.1] at ea
      cases ea) (hg.g.h a ob ea)
  refine ⟨⟨hg.g.f, sB, sF, hg.g.n⟩, by rw [List.length_set]; exact h.len, fpSet fp i k', fun j x w e1 e2 => ?_, fun j a ob e3 => ?_, fun j l a o1 o2 e1 e2 => ?_⟩
  · by_cases hj : j = i
    · subst hj
      rw [List.getElem?_set_self (set_len e1)] at e1
      rw [e0] at e2
      cases e1; cases e2
      rw [fpSet_same]
      exact ⟨p, rfl, r'⟩
    · rw [List.getElem?_set_ne (Ne.symm hj)] at e1
      rw [fpSet_ne hj]
      exact (h1 j x w e1 e2).mono g.f
  · by_cases hj : j = i
    · subst hj
      rw [fpSet_same] at e3
      cases q : fp j a with
      | some o1 =>
        obtain ⟨_, b2, b3⟩ := h2.at_ j a o1 q
        refine ⟨c1 a ob e3, b2, b3.imp id fun z => ?_⟩
        have e1 := c0 a o1 z q
        rw [c1 a ob e3] at e1
        cases e1
        exact z
      | none =>
        obtain ⟨n1, n2⟩ := c3 a ob e3 q
        exact ⟨c1 a ob e3, h.g.h.free n1, n2⟩
    · rw [fpSet_ne hj] at e3
      obtain ⟨b1, b2, b3⟩ := h2.at_ j a ob e3
      refine ⟨c2 a ob ?_ b1, b2, b3⟩
      cases q : fp i a with
      | none => rfl
      | some o1 => exact absurd (h2.ap j i a ob o1 e3 q) hj
  · have away : ∀ (l : Nat) (a : Addr) o1 o2, l ≠ i → k' a = some o1 → fp l a = some o2 → False := fun l a o1 o2 hl q1 q2 => by
      cases q : fp i a with
      | some o3 => exact hl (h2.ap l i a o2 o3 q2 q)
      | none =>
        have n := (c3 a o1 q1 q).1
        rw [(h0.at_ l a o2 q2).1] at n
        cases n
    by_cases hj : j = i
    · by_cases hl : l = i
      · rw [hj, hl]
      · rw [hj, fpSet_same] at e1
        rw [fpSet_ne hl] at e2
        exact (away l a o1 o2 hl e1 e2).elim
    · by_cases hl : l = i
      · rw [fpSet_ne hj] at e1
        rw [hl, fpSet_same] at e2
        exact (away j a o2 o1 hj e2 e1).elim
      · rw [fpSet_ne hj] at e1
        rw [fpSet_ne hl] at e2
        exact h2.ap j l a o1 o2 e1 e2
/-! ### instances whose fields may be objects of their own -/
def Fdg (F : Hp) (fp : Str → Hp) (fs : List (Str × Sl)) (vs : List (Str × V)) : Prop := Paired (fun (a : Str × Sl) (b : Str × V) => a.1 = b.1 ∧ SlOk F (fp a.1) a.2 (some b.2)) fs vs
theorem Fdg.mono {F F' : Hp} {fp : Str → Hp} {fs : List (Str × Sl)} {vs : List (Str × V)} (e : Same F F') (h : Fdg F fp fs vs) : Fdg F' fp fs vs := Paired.mapP h fun _ _ q => ⟨q.1, SlOk.mono e q.2⟩
theorem Fdg.len {F : Hp} {fp : Str → Hp} {fs : List (Str × Sl)} {vs : List (Str × V)} (h : Fdg F fp fs vs) : vs.length = fs.length := (Paired.length h).symm
theorem fdg_get {F : Hp} {fp : Str → Hp} {f : Str} {s : Sl} : ∀ {fs : List (Str × Sl)} {vs : List (Str × V)}, Fdg F fp fs vs → fs.lookup f = some s → ∃ v, vs.lookup f = some v ∧ SlOk F (fp f) s (some v)
  | [], _, _, e => by cases e
  | (g, t) :: fs, vs, h, e => by
    have h' : Paired (fun (a : Str × Sl) (b : Str × V) => a.1 = b.1 ∧ SlOk F (fp a.1) a.2 (some b.2)) ((g, t) :: fs) vs := h
    cases h' with
    | @cons _ b _ vs' r tl =>
      obtain ⟨g', v⟩ := b
      have eg : g = g' := r.1
      subst eg
      rw [List.lookup_cons] at e ⊢
      cases q : f == g with
      | true =>
        rw [q] at e
        cases e
        have ef : f = g := by simpa using q
        subst ef
        exact ⟨v, rfl, r.2⟩
      | false =>
        rw [q] at e
        exact fdg_get (fs := fs) (vs := vs') tl e
theorem fdg_none {F : Hp} {fp : Str → Hp} {f : Str} : ∀ {fs : List (Str × Sl)} {vs : List (Str × V)}, Fdg F fp fs vs → fs.lookup f = none → vs.lookup f = none
  | [], vs, h, _ => by
    have h' : Paired (fun (a : Str × Sl) (b : Str × V) => a.1 = b.1 ∧ SlOk F (fp a.1) a.2 (some b.2)) [] vs := h
    cases h'
    rfl
  | (g, t) :: fs, vs, h, e => by
    have h' : Paired (fun (a : Str × Sl) (b : Str × V) => a.1 = b.1 ∧ SlOk F (fp a.1) a.2 (some b.2)) ((g, t) :: fs) vs := h
    cases h' with
    | @cons _ b _ vs' r tl =>
      obtain ⟨g', v⟩ := b
      have eg : g = g' := r.1
      subst eg
      rw [List.lookup_cons] at e ⊢
      cases q : f == g with
      | true =>
        rw [q] at e
        cases e
      | false =>
        rw [q] at e
        exact fdg_none (fs := fs) (vs := vs') tl e
def putG (f : Str) (s : Sl) : List (Str × Sl) → List (Str × Sl)
  | [] => [(f, s)]
  | (g, x) :: r => if g = f then (g, s) :: r else (g, x) :: putG f s r
/-- no name twice -/
def ndG : List (Str × Sl) → Prop
  | [] => True
  | (g, _) :: r => r.lookup g = none ∧ ndG r
theorem putG_lookup {f g : Str} {s : Sl} (h : g ≠ f) : ∀ {fs : List (Str × Sl)}, (putG f s fs).lookup g = fs.lookup g
  | [] => by
    have e : (g == f) = false := by simpa using h
    show List.lookup g [(f, s)] = none
    rw [List.lookup_cons, e]
    rfl
  | (k, x) :: r => by
    unfold putG
    by_cases z : k = f
    · rw [if_pos z, List.lookup_cons, List.lookup_cons]
      have e : (g == k) = false := by rw [z]; simpa using h
      rw [e]
    · rw [if_neg z, List.lookup_cons, List.lookup_cons, putG_lookup h]
theorem ndG_put {f : Str} {s : Sl} : ∀ {fs : List (Str × Sl)}, ndG fs → ndG (putG f s fs)
  | [], _ => ⟨rfl, trivial⟩
  | (k, x) :: r, h => by
    unfold putG
    by_cases z : k = f
    · rw [if_pos z]; exact h
    · rw [if_neg z]
      exact ⟨by rw [putG_lookup z]; exact h.1, ndG_put h.2⟩
theorem fdg_fp {F : Hp} {fp fp' : Str → Hp} : ∀ {fs : List (Str × Sl)} {vs : List (Str × V)}, Fdg F fp fs vs → (∀ g, fs.lookup g ≠ none → fp' g = fp g) → Fdg F fp' fs vs
  | [], _, h, _ => by
    have h' : Paired (fun (a : Str × Sl) (b : Str × V) => a.1 = b.1 ∧ SlOk F (fp a.1) a.2 (some b.2)) [] _ := h
    cases h'
    exact .nil
  | (g, t) :: fs, vs, h, e => by
    have h' : Paired (fun (a : Str × Sl) (b : Str × V) => a.1 = b.1 ∧ SlOk F (fp a.1) a.2 (some b.2)) ((g, t) :: fs) vs := h
    cases h' with
    | @cons _ b _ vs' r tl =>
      refine .cons ⟨r.1, ?_⟩ (fdg_fp (fs := fs) (vs := vs') tl fun k hk => e k ?_)
      · rw [e g (by rw [List.lookup_cons]; simp)]
        exact r.2
      · rw [List.lookup_cons]
        split
        · intro q; cases q
        · exact hk
theorem fdg_put {F : Hp} {fp fp' : Str → Hp} {f : Str} {s : Sl} {v : V} (r : SlOk F (fp' f) s (some v)) (hf : ∀ g, g ≠ f → fp' g = fp g) : ∀ {fs : List (Str × Sl)} {vs : List (Str × V)}, ndG fs → Fdg F fp fs vs → Fdg F fp' (putG f s fs) (putF f v vs)
  | [], vs, _, h => by
    have h' : Paired (fun (a : Str × Sl) (b : Str × V) => a.1 = b.1 ∧ SlOk F (fp a.1) a.2 (some b.2)) [] vs := h
    cases h'
    exact .cons ⟨rfl, r⟩ .nil
  | (g, t) :: fs, vs, n, h => by
    have h' : Paired (fun (a : Str × Sl) (b : Str × V) => a.1 = b.1 ∧ SlOk F (fp a.1) a.2 (some b.2)) ((g, t) :: fs) vs := h
    cases h' with
    | @cons _ b _ vs' q tl =>
      obtain ⟨g', u⟩ := b
      have eg : g = g' := q.1
      subst eg
      unfold putG putF
      by_cases z : g = f
      · rw [if_pos z, if_pos z]
        subst z
        exact .cons ⟨rfl, r⟩ (fdg_fp (show Fdg F fp fs vs' from tl) fun k hk => hf k fun e => hk (by rw [e]; exact n.1))
      · rw [if_neg z, if_neg z]
        exact .cons ⟨rfl, by rw [hf g z]; exact q.2⟩ (fdg_put r hf n.2 (show Fdg F fp fs vs' from tl))
/-- an instance, its fields: what is known, or what is their own -/
def oInsG (C : Addr) (q : Addr → Prop) (fs : List (Str × Sl)) : O :=
  ⟨fun F h p => (q p ∧ ndG fs) ∧ ∃ dx vs, ∃ fp : Str → Hp, h p = some (.ins C dx vs) ∧ Fdg F fp fs vs ∧ (∀ f a ob, fp f a = some ob → a ≠ p ∧ h a = some ob) ∧ (∀ f g a o1 o2, fp f a = some o1 → fp g a = some o2 → f = g),
   fun e ⟨z, dx, vs, fp, k, h, d⟩ => ⟨z, dx, vs, fp, k, h.mono e, d⟩⟩
abbrev sInsG (C : Addr) (fs : List (Str × Sl)) : S := sO (oInsG C (fun _ => True) fs)
def slS : Sl → S
  | .any => ⟨fun _ _ => True, fun _ _ => trivial⟩
  | .val s => s
  | .own o => sO o
/-- the cells of x.f, rewritten -/
def hpW (h k k' : Hp) : Hp := fun a => match k' a with
  | some o => some o
  | none => match k a with
    | some _ => none
    | none => h a
theorem hpW_new {h k k' : Hp} {a : Addr} {o : HO} (e : k' a = some o) : hpW h k k' a = some o := by unfold hpW; rw [e]
theorem hpW_old {h k k' : Hp} {a : Addr} (e : k' a = none) (n : k a = none) : hpW h k k' a = h a := by unfold hpW; rw [e, n]
theorem hpW_some {h k k' : Hp} {a : Addr} {o : HO} (e : hpW h k k' a = some o) : k' a = some o ∨ (k' a = none ∧ k a = none ∧ h a = some o) := by
  unfold hpW at e
  cases q : k' a with
  | some o' => rw [q] at e; exact .inl e
  | none =>
    rw [q] at e
    cases z : k a with
    | some o' => rw [z] at e; cases e
    | none => rw [z] at e; exact .inr ⟨rfl, rfl, e⟩
theorem putF_same {f : Str} {v : V} : ∀ {vs : List (Str × V)}, vs.lookup f = some v → putF f v vs = vs
  | [], h => by cases h
  | (g, u) :: vs, h => by
    rw [List.lookup_cons] at h
    unfold putF
    by_cases z : g = f
    · subst z
      rw [if_pos rfl]
      simp at h
      rw [h]
    · rw [if_neg z]
      have e : (f == g) = false := by simpa using fun q => z q.symm
      rw [e] at h
      rw [putF_same (vs := vs) h]
section
variable {X : Cx} {ss : List Sl} {e a b c : Expr} {es : List Expr} {ρ τ κ : R} {s t : S} {o : O} {pos p p2 : Pos} {k : Nat} {C : Addr} {q : Addr → Prop} {fs : List (Str × Sl)} {D : Ds} {f : Str}
/-- x.f, known -/
theorem ev_gfld (he : EvE X ss e (bO (oInsG C q fs))) (hl : fs.lookup f = some (.val s)) (hc : Cls X.K C) (hn : NoAttr X.K C f) (hb : attributeBase e f X.env (eval e X.env) = eval e X.env := by rfl) : EvE X ss (.Attribute e f pos) (sv s) := .mk fun B F H σ h Q z =>
  toE (pe_fld PEw hb) (he B F H σ h _ fun v F' H' g ⟨p, k, e1, hk, _, dx, vs, fp, hp, hf, _⟩ => by
    obtain ⟨u, hu, x, ex, ru⟩ := fdg_get hf hl
    cases ex
    exact ⟨p, C, dx, vs, u, e1, hk _ _ hp, hc, hn, hu, z u F' H' g ru⟩)
/-- x.f, the instance's own, here and now -/
theorem ev_gown (he : EvE X ss e (bO (oInsG C q fs))) (hl : fs.lookup f = some (.own o)) (hc : Cls X.K C) (hn : NoAttr X.K C f) (hb : attributeBase e f X.env (eval e X.env) = eval e X.env := by rfl) : EvE X ss (.Attribute e f pos) (bO o) := .mk fun B F H σ h Q z =>
  toE (pe_fld PEw hb) (he B F H σ h _ fun v F' H' g ⟨p, k, e1, hk, _, dx, vs, fp, hp, hf, hs, _⟩ => by
    obtain ⟨u, hu, d, ex, ru⟩ := fdg_get hf hl
    cases ex
    exact ⟨p, C, dx, vs, _, e1, hk _ _ hp, hc, hn, hu, z _ F' H' g ⟨d, fp f, rfl, fun a ob ea => hk _ _ (hs f a ob ea).2, ru⟩⟩)
/-- x.f of an instance that is known whole -/
theorem ev_gpub {sl : Sl} (he : EvE X ss e (sv (sO (oInsG C q fs)))) (hl : fs.lookup f = some sl) (hc : Cls X.K C) (hn : NoAttr X.K C f) (hb : attributeBase e f X.env (eval e X.env) = eval e X.env := by rfl) : EvE X ss (.Attribute e f pos) (sv (slS sl)) := .mk fun B F H σ h Q z =>
  toE (pe_fld PEw hb) (he B F H σ h _ fun v F' H' g ⟨p, k, e1, hk, _, dx, vs, fp, hp, hf, hs, _⟩ => by
    obtain ⟨u, hu, ru⟩ := fdg_get hf hl
    refine ⟨p, C, dx, vs, u, e1, g.s _ _ (hk _ _ hp), hc, hn, hu, z u F' H' g ?_⟩
    cases sl with
    | any => exact trivial
    | val s =>
      obtain ⟨x, ex, r⟩ := ru
      cases ex
      exact r
    | own o =>
      obtain ⟨d, ex, r⟩ := ru
      cases ex
      exact ⟨d, fp f, rfl, fun a ob ea => hk _ _ (hs f a ob ea).2, r⟩)
/-- x.f = e -/
theorem s_gset (i : Nat) {x : Str} {px pa : Pos} (hi : ss[i]? = some (.own (oInsG C q fs))) (he : EvE X ss e (sv s)) (hc : Cls X.K C) (hn : NoAttr X.K C f) (k : D.nx (ss.set i (.own (oInsG C q (putG f (.val s) fs))))) (hN : X.N[i]? = some x := by rfl)
    (hv : Vis X.env.scope x := by first | exact Or.inl rfl | exact Or.inr (Or.inl rfl) | exact Or.inr (Or.inr rfl)) (hd : (x == ("__debug__" : Str)) = false := by decide) (hcd : (x == ("__classdict__" : Str)) = false := by decide) (hl : fs.length < 1000 := by exact Nat.le_of_ble_eq_true rfl)
    (hs : swapsWith e (some (.Attribute (.Name x px) f pa)) pos.line X.env = pure false := by rfl) : EvS X ss (.Assign [.Attribute (.Name x px) f pa] e pos) D := .mk fun B F H σ h tk =>
  toS (ps_fld (pe_var hN hv hd hcd) PEw hs) (he B F H σ h _ fun v F' H' g r => by
    obtain ⟨p, c, e1, hc', ⟨⟨hq, hnd⟩, dx, vs, fp, hp, hf, hfp, hdj⟩, wr⟩ := (h.grow g).write hi
    refine ⟨_, e1, p, C, dx, vs, rfl, (hc' _ _ hp).1, hc, hn, by rw [hf.len]; exact hl, ?_⟩
    refine ⟨F', _, wr (oInsG C q (putG f (.val s) fs)) (upd c p (.ins C dx (putF f v vs))) _ (fun a ob za ea => ?_) (fun a ob ea => ?_) (fun a ob na ea => ?_) (fun a ob ea na => ?_)
      ⟨⟨hq, ndG_put hnd⟩, dx, _, (fun g => if g = f then hp0 else fp g), upd_same, fdg_put (fp := fp) (s := .val s) ⟨v, rfl, r⟩ (fun g hg => if_neg hg) hnd hf, fun g a ob ea => ?_, fun g1 g2 a o1 o2 e1 e2 => ?_⟩, k⟩
    · have ha : a ≠ p := fun z => by
        subst z
        rw [hp] at ea
        cases ea
        exact za.elim
      rw [upd_ne ha]
      exact (hc' _ _ ea).1
    · by_cases ha : a = p
      · subst ha
        rw [upd_same] at ea ⊢
        exact ea
      · rw [upd_ne ha] at ea ⊢
        exact (hc' _ _ ea).1
    · rw [upd_ne (fun z => by subst z; rw [hp] at na; cases na)]
      exact ea
    · by_cases ha : a = p
      · subst ha
        rw [hp] at na
        cases na
      · rw [upd_ne ha, na] at ea
        cases ea
    · by_cases hg : g = f
      · have ea' : (if g = f then hp0 else fp g) a = some ob := ea
        rw [if_pos hg] at ea'
        cases (show (none : Option HO) = some ob from ea')
      · have ea' : (if g = f then hp0 else fp g) a = some ob := ea
        rw [if_neg hg] at ea'
        obtain ⟨h1, h2⟩ := hfp g a ob ea'
        exact ⟨h1, by rw [upd_ne h1]; exact h2⟩
    · have e1' : (if g1 = f then hp0 else fp g1) a = some o1 := e1
      have e2' : (if g2 = f then hp0 else fp g2) a = some o2 := e2
      by_cases z1 : g1 = f
      · rw [if_pos z1] at e1'
        cases (show (none : Option HO) = some o1 from e1')
      · by_cases z2 : g2 = f
        · rw [if_pos z2] at e2'
          cases (show (none : Option HO) = some o2 from e2')
        · rw [if_neg z1] at e1'
          rw [if_neg z2] at e2'
          exact hdj g1 g2 a o1 o2 e1' e2')
/-- x.f = a new object -/
theorem s_gnew (i : Nat) {x : Str} {px pa : Pos} (hi : ss[i]? = some (.own (oInsG C q fs))) (he : EvN X ss e o) (hc : Cls X.K C) (hn : NoAttr X.K C f) (k : D.nx (ss.set i (.own (oInsG C q (putG f (.own o) fs))))) (hN : X.N[i]? = some x := by rfl)
    (hv : Vis X.env.scope x := by first | exact Or.inl rfl | exact Or.inr (Or.inl rfl) | exact Or.inr (Or.inr rfl)) (hd : (x == ("__debug__" : Str)) = false := by decide) (hcd : (x == ("__classdict__" : Str)) = false := by decide) (hl : fs.length < 1000 := by exact Nat.le_of_ble_eq_true rfl)
    (hs : swapsWith e (some (.Attribute (.Name x px) f pa)) pos.line X.env = pure false := by rfl) : EvS X ss (.Assign [.Attribute (.Name x px) f pa] e pos) D := .mk fun B F H σ h tk =>
  toS (ps_fld (pe_var hN hv hd hcd) PEw hs) (he B F H σ h _ fun d F' H' kk g nn r => by
    obtain ⟨p, c, e1, hc', ⟨⟨hq, hnd⟩, dx, vs, fp, hp, hf, hfp, hdj⟩, wr⟩ := h.writeG g hi
    have nkk : ∀ a ob, c a = some ob → kk a = none := fun a ob z => by
      cases y : kk a with
      | none => rfl
      | some o' =>
        have e2 := (hc' a ob z).1.1
        rw [(nn a o' y).1] at e2
        cases e2
    have kkc : ∀ a ob, kk a = some ob → c a = none := fun a ob z => by
      cases y : c a with
      | none => rfl
      | some o' =>
        rw [nkk a o' y] at z
        cases z
    refine ⟨_, e1, p, C, dx, vs, rfl, (hc' _ _ hp).1.2, hc, hn, by rw [hf.len]; exact hl, ?_⟩
    have cp : ∀ a, a = p → (hpU kk (upd c p (.ins C dx (putF f (.ref d) vs)))) a = some (.ins C dx (putF f (.ref d) vs)) := fun a z => by
      subst z
      rw [hpU_r (nkk _ _ hp)]
      exact upd_same
    refine ⟨F', _, wr (oInsG C q (putG f (.own o) fs)) (hpU kk (upd c p (.ins C dx (putF f (.ref d) vs)))) _ (fun a ob za ea => ?_) (fun a ob ea => ?_) (fun a ob na ea => ?_) (fun a ob ea na => ?_)
      ⟨⟨hq, ndG_put hnd⟩, dx, _, (fun g => if g = f then kk else fp g), cp p rfl, fdg_put (fp := fp) (s := .own o) ⟨d, rfl, by rw [if_pos rfl]; exact r⟩ (fun g hg => if_neg hg) hnd hf, fun g a ob ea => ?_, fun g1 g2 a o1 o2 e1 e2 => ?_⟩, k⟩
    · have ha : a ≠ p := fun z => by
        subst z
        rw [hp] at ea
        cases ea
        exact za.elim
      rw [upd_ne ha]
      exact (hc' _ _ ea).1.2
    · by_cases ha : a = p
      · rw [cp a ha] at ea
        rw [ha, upd_same]
        exact ea
      · rw [upd_ne ha]
        cases y : kk a with
        | some o' =>
          rw [hpU_l y] at ea
          cases ea
          exact (nn a _ y).2.2
        | none =>
          rw [hpU_r y, upd_ne ha] at ea
          exact (hc' _ _ ea).1.2
    · rw [upd_ne (fun z => by subst z; rw [hp] at na; cases na)]
      exact ea
    · have ha : a ≠ p := fun z => by
        subst z
        rw [hp] at na
        cases na
      cases y : kk a with
      | some o' =>
        rw [hpU_l y] at ea
        cases ea
        exact ⟨(nn a _ y).1, (nn a _ y).2.1⟩
      | none =>
        rw [hpU_r y, upd_ne ha, na] at ea
        cases ea
    · have ea' : (if g = f then kk else fp g) a = some ob := ea
      by_cases hg : g = f
      · rw [if_pos hg] at ea'
        have ha : a ≠ p := fun z => by
          subst z
          rw [nkk _ _ hp] at ea'
          cases ea'
        exact ⟨ha, hpU_l ea'⟩
      · rw [if_neg hg] at ea'
        obtain ⟨h1, h2⟩ := hfp g a ob ea'
        exact ⟨h1, by rw [hpU_r (nkk _ _ h2), upd_ne h1]; exact h2⟩
    · have e1' : (if g1 = f then kk else fp g1) a = some o1 := e1
      have e2' : (if g2 = f then kk else fp g2) a = some o2 := e2
      by_cases z1 : g1 = f
      · by_cases z2 : g2 = f
        · rw [z1, z2]
        · rw [if_pos z1] at e1'
          rw [if_neg z2] at e2'
          have := kkc a o1 e1'
          rw [(hfp g2 a o2 e2').2] at this
          cases this
      · by_cases z2 : g2 = f
        · rw [if_neg z1] at e1'
          rw [if_pos z2] at e2'
          have := kkc a o2 e2'
          rw [(hfp g1 a o1 e1').2] at this
          cases this
        · rw [if_neg z1] at e1'
          rw [if_neg z2] at e2'
          exact hdj g1 g2 a o1 o2 e1' e2')
/-- the cells of an own field, rewritten -/
theorem ins_write {F H H' h : Hp} {p : Addr} {o' : O} {k' : Hp} {f : Str} {dx : Addr} {vs : List (Str × V)} {fp : Str → Hp} {d : Addr} (hnd : ndG fs) (hq : q p) (hh : ∀ a ob, h a = some ob → H a = some ob) (hp : h p = some (.ins C dx vs)) (hf : Fdg F fp fs vs) (hfp : ∀ f a ob, fp f a = some ob → a ≠ p ∧ h a = some ob)
    (hdj : ∀ f g a o1 o2, fp f a = some o1 → fp g a = some o2 → f = g) (hl : fs.lookup f = some (.own o)) (hv : vs.lookup f = some (.ref d))
    (c0 : ∀ a ob, IsT ob → fp f a = some ob → H' a = some ob) (c1 : ∀ a ob, k' a = some ob → H' a = some ob) (c2 : ∀ a ob, fp f a = none → H a = some ob → H' a = some ob) (c3 : ∀ a ob, k' a = some ob → fp f a = none → H a = none) (r' : o'.r F k' d) :
    (∀ a ob, IsT ob → h a = some ob → H' a = some ob) ∧ (∀ a ob, hpW h (fp f) k' a = some ob → H' a = some ob) ∧ (∀ a ob, h a = none → H a = some ob → H' a = some ob) ∧ (∀ a ob, hpW h (fp f) k' a = some ob → h a = none → H a = none) ∧
      (oInsG C q (putG f (.own o') fs)).r F (hpW h (fp f) k') p := by
  have nk : ∀ a, h a = none → fp f a = none := fun a z => by
    cases y : fp f a with
    | none => rfl
    | some o1 =>
      rw [(hfp f a o1 y).2] at z
      cases z
  have np : fp f p = none := by
    cases y : fp f p with
    | none => rfl
    | some o1 => exact absurd rfl (hfp f p o1 y).1
  have nk' : k' p = none := by
    cases y : k' p with
    | none => rfl
    | some o1 =>
      have := c3 p o1 y np
      rw [hh _ _ hp] at this
      cases this
  have nkg : ∀ g a o1, g ≠ f → fp g a = some o1 → fp f a = none ∧ k' a = none := fun g a o1 hg e => by
    have z : fp f a = none := by
      cases y : fp f a with
      | none => rfl
      | some o2 => exact absurd (hdj g f a o1 o2 e y) hg
    refine ⟨z, ?_⟩
    cases y : k' a with
    | none => rfl
    | some o2 =>
      have := c3 a o2 y z
      rw [hh _ _ (hfp g a o1 e).2] at this
      cases this
  refine ⟨fun a ob za ea => ?_, fun a ob ea => ?_, fun a ob na ea => c2 a ob (nk a na) ea, fun a ob ea na => ?_, ⟨hq, ndG_put hnd⟩, dx, vs, (fun g => if g = f then k' else fp g), ?_, ?_, fun g a ob ea => ?_, fun g1 g2 a o1 o2 e1 e2 => ?_⟩
  · cases y : fp f a with
    | none => exact c2 a ob y (hh _ _ ea)
    | some o1 =>
      have e1 := (hfp f a o1 y).2
      rw [ea] at e1
      cases e1
      exact c0 a _ za y
  · rcases hpW_some ea with z | ⟨_, z2, z3⟩
    · exact c1 a ob z
    · exact c2 a ob z2 (hh _ _ z3)
  · rcases hpW_some ea with z | ⟨_, _, z3⟩
    · exact c3 a ob z (nk a na)
    · rw [na] at z3
      cases z3
  · rw [hpW_old nk' np]
    exact hp
  · have e := fdg_put (F := F) (fp := fp) (fp' := fun g => if g = f then k' else fp g) (f := f) (s := .own o') (v := .ref d) ⟨d, rfl, by rw [if_pos rfl]; exact r'⟩ (fun g hg => if_neg hg) hnd hf
    have ev : putF f (.ref d) vs = vs := putF_same hv
    rw [ev] at e
    exact e
  · have ea' : (if g = f then k' else fp g) a = some ob := ea
    by_cases hg : g = f
    · rw [if_pos hg] at ea'
      have ha : a ≠ p := fun z => by
        subst z
        rw [nk'] at ea'
        cases ea'
      exact ⟨ha, hpW_new ea'⟩
    · rw [if_neg hg] at ea'
      obtain ⟨h1, h2⟩ := hfp g a ob ea'
      obtain ⟨z1, z2⟩ := nkg g a ob hg ea'
      exact ⟨h1, by rw [hpW_old z2 z1]; exact h2⟩
  · have e1' : (if g1 = f then k' else fp g1) a = some o1 := e1
    have e2' : (if g2 = f then k' else fp g2) a = some o2 := e2
    by_cases z1 : g1 = f
    · by_cases z2 : g2 = f
      · rw [z1, z2]
      · rw [if_pos z1] at e1'
        rw [if_neg z2] at e2'
        rw [(nkg g2 a o2 z2 e2').2] at e1'
        cases e1'
    · by_cases z2 : g2 = f
      · rw [if_neg z1] at e1'
        rw [if_pos z2] at e2'
        rw [(nkg g1 a o1 z1 e1').2] at e2'
        cases e2'
      · rw [if_neg z1] at e1'
        rw [if_neg z2] at e2'
        exact hdj g1 g2 a o1 o2 e1' e2'
/-- x.f[k] = v, x an own instance, x.f its own dict -/
theorem s_gput {κ α : Type} [DecidableEq κ] [KeyT κ] {T : α → S} {U : κ → S} {kvs : List (κ × α)} {key : κ} {x : α} (i : Nat) {z : Str} {p1 pa pos' : Pos} [hU : KeyS U] (hr : Room k X.A) (hi : ss[i]? = some (.own (oInsG C q fs))) (hl : fs.lookup f = some (.own (oDT T kvs))) (hc : Cls X.K C) (hn : NoAttr X.K C f)
    (hv : EvE X ss e (sv (T x))) (ha : EvE X ss a (sv (U key))) (hlen : kvs.length < sizeLine) (kk : D.nx (ss.set i (.own (oInsG C q (putG f (.own (oDT T (pK kvs key x))) fs))))) (hN : X.N[i]? = some z := by rfl)
    (hvs : Vis X.env.scope z := by first | exact Or.inl rfl | exact Or.inr (Or.inl rfl) | exact Or.inr (Or.inr rfl)) (hd : (z == ("__debug__" : Str)) = false := by decide) (hcd : (z == ("__classdict__" : Str)) = false := by decide)
    (hb : attributeBase (.Name z p1) f X.env (eval (.Name z p1) X.env) = eval (.Name z p1) X.env := by rfl)
    (hs : swapsWith e (some (.Subscript (.Attribute (.Name z p1) f pa) a pos')) pos.line X.env = pure false := by rfl) : EvS X ss (.Assign [.Subscript (.Attribute (.Name z p1) f pa) a pos'] e pos) D := .mk fun B F H σ h tk =>
  toS (ps_dput (hu_of hr) (pe_fld (pe_var hN hvs hd hcd) hb) PEw PEw hs) (hv B F H σ h _ fun v F1 H1 g1 r1 => by
    obtain ⟨p0, c0, e0, hc0, ⟨_, dx0, vs0, fp0, hp0, hf0, hfp0, _⟩⟩ := (h.grow g1).own hi
    obtain ⟨u0, hu0, d0, ed0, _⟩ := fdg_get hf0 hl
    cases ed0
    refine ⟨_, e0, p0, C, dx0, vs0, _, rfl, (hc0 _ _ hp0).1, hc, hn, hu0, ha B F1 H1 σ (h.grow g1) _ fun w F2 H2 g2 r2 => ?_⟩
    obtain ⟨p, c, e1, hc', ⟨⟨hq, hnd⟩, dx, vs, fp, hp, hf, hfp, hdj⟩, wr⟩ := ((h.grow g1).grow g2).write hi
    rw [e0] at e1
    cases e1
    have eI : HO.ins C dx0 vs0 = HO.ins C dx vs := by
      have z1 := g2.h _ _ (hc0 _ _ hp0).1
      rw [(hc' _ _ hp).1] at z1
      exact (Option.some.inj z1).symm
    injection eI with _ edx evs
    subst evs
    obtain ⟨u1, hu1, d1, ed1, ws, hd1, hk1⟩ := fdg_get hf hl
    rw [hu0] at hu1
    cases hu1
    cases ed1
    obtain ⟨b, eb, hb, gb⟩ := hU.to_ r2
    subst eb
    have hcd' : ∀ a ob, fp f a = some ob → H2 a = some ob := fun a ob ea => (hc' _ _ (hfp f a ob ea).2).1
    obtain ⟨w0, w1, w2, w3⟩ := dput_wr (key := key) (v := v) hd1 hcd'
    obtain ⟨v0, v1, v2, v3, v4⟩ := ins_write (F := F2) (H := H2) (h := c) (p := p0) (C := C) (q := q) (o := oDT T kvs) (o' := oDT T (pK kvs key x)) hnd hq (fun a ob ea => (hc' _ _ ea).1) hp hf hfp hdj hl hu0 w0 w1 w2 w3 ⟨_, upd_same, hk1.put gb ((T x).mono g2.f r1)⟩
    exact ⟨d0, _, rfl, DPut.t (hcd' _ _ hd1) (g2.s _ _ hb) (by rw [hk1.len]; exact hlen), F2, _, wr _ _ _ v0 v1 v2 v3 v4, kk⟩)
end
end Sx
namespace Sx
open PySem PySem.Spec PyProof.Rows L2
/-! ### defs that hand back a new object -/
def spOfN (Φ : List S → O → Prop) : Sp := fun vs H Q _ => ∃ (F : Hp) (as : List S) (o : O), Same F H ∧ Paired (fun (a : S) v => a.r F v) as vs ∧ Φ as o ∧
  ∀ p F' H' k, Grow F H F' H' → (∀ a ob, k a = some ob → H a = none ∧ (F' a = none ∨ IsT ob) ∧ H' a = some ob) → o.r F' k p → Q (.ref p) H'
structure CalleeN (P : Program) (w : World) (K : PySem.W.Frag) (mg : Str → Option Value) (base : Heap) (k : Nat) (x : Str) (Φ : List S → O → Prop) : Prop where
  ex : ∃ (f : Addr) (fd : FuncData) (ps : List Str), FnOk P w K mg base CX0 k f fd ps (spOfN Φ) ∧ mg x = some (.ref f) ∧ PySem.W.keepIn K (.ref f) = true ∧ Binds K fd ps []
theorem sat_start {F H0 : Hp} {N : List Str} {as : List S} {vs : List V} (sF : Same F H0) (hp : Paired (fun (a : S) v => a.r F v) as vs) : Sat ⟨F, H0⟩ F H0 (L2.start N vs) (as.map Sl.val ++ List.replicate (N.length - as.length) .any) := by
  have hlen : vs.length = as.length := (Paired.length hp).symm
  refine ⟨.refl sF, ?_, fun _ => hp0, fun i x v e1 e2 => ?_, own0⟩
  · unfold L2.start
    rw [List.length_append, List.length_append, List.length_map, List.length_map, List.length_replicate, List.length_replicate, hlen]
  · by_cases hi : i < as.length
    · rw [List.getElem?_append_left (by rw [List.length_map]; exact hi), List.getElem?_map] at e1
      unfold L2.start at e2
      rw [List.getElem?_append_left (by rw [List.length_map, hlen]; exact hi), List.getElem?_map] at e2
      cases q1 : as[i]? with
      | none => rw [q1] at e1; cases e1
      | some a =>
        obtain ⟨u, hu, ru⟩ := pr_at hp q1
        rw [q1] at e1
        rw [hu] at e2
        cases e1; cases e2
        exact ⟨u, rfl, ru⟩
    · rw [List.getElem?_append_right (by rw [List.length_map]; omega), List.length_map] at e1
      have : x = .any := by
        obtain ⟨_, h2⟩ := List.getElem?_eq_some_iff.mp e1
        rw [← h2, List.getElem_replicate]
      subst this
      trivial
theorem fn_okN {P : Program} {w : World} {K : PySem.W.Frag} {mg : Str → Option Value} {base : Heap} {x qual : Str} {st : Stmt} {f : Addr} {fd : FuncData} {N ps : List Str} {k : Nat} {Φ : List S → O → Prop} (F : FunE K x qual st f fd) (Sc : FnScope N ps (defScope st)) (len : ∀ as o, Φ as o → as.length = ps.length)
    (body : ∀ (cdv : Value) (A : Around) (outer : List Env) (s0 : Shared) (H0 : Hp) (E : XK) (as : List S) (o : O), Room k (A.deeper (envOfC qual (defScope st) s0.heap.objs.size f cdv)) → Φ as o →
      EvSs (cxOf CX0 P w K mg base N qual (defScope st) f cdv A outer s0 H0 E).nox (as.map Sl.val ++ List.replicate (N.length - as.length) .any) (defBody st) { nx := fun _ => False, rt := fun _ => False, rn := fun o' => ∀ F k p, o'.r F k p → o.r F k p }) :
    FnOk P w K mg base CX0 (k + 1) f fd ps (spOfN Φ) := by
  refine F.ok Sc (fun vs H Q E ⟨F, as, o, _, hp, hΦ, _⟩ => by rw [← Paired.length hp]; exact len as o hΦ) (fun cdv A outer s0 H0 vs Q E hr h => ?_)
  obtain ⟨F, as, o, sF, hp, hΦ, q⟩ := h
  refine ⟨_, PSsw, ?_⟩
  refine wpSs_mono (body cdv A outer s0 H0 E as o hr hΦ ⟨F, H0⟩ F H0 _ (sat_start sF hp) tk0) (fun σ' H' ⟨F', ss', hs', k⟩ => k.elim) (fun v H' z => ?_) (fun _ _ ⟨_, _, _, z⟩ => z) (fun _ _ ⟨_, _, _, z⟩ => z)
  rcases RtP.two z (fun _ _ q => q) (fun _ _ q => q) with ⟨_, _, _, _, z⟩ | ⟨F', c, p, o', rfl, g, n, r, z⟩
  · exact z.elim
  · exact q p F' H' c g (fun a ob e => ⟨(n a ob e).2.1, (n a ob e).2.2, (n a ob e).1⟩) (z _ _ _ r)
theorem callee_mkN {P : Program} {w : World} {K : PySem.W.Frag} {mg : Str → Option Value} {base : Heap} {k : Nat} {x : Str} {f : Addr} {fd : FuncData} {ps : List Str} {Φ : List S → O → Prop} (G : FnOk P w K mg base CX0 k f fd ps (spOfN Φ)) (hm : mg x = some (.ref f)) (hk : PySem.W.keepIn K (.ref f) = true) (hb : Binds K fd ps []) :
    CalleeN P w K mg base k x Φ := ⟨f, fd, ps, G, hm, hk, hb⟩
section
variable {X : Cx} {ss : List Sl} {e a b c : Expr} {es : List Expr} {ρ τ κ : R} {s t : S} {o : O} {pos p p2 : Pos} {j k : Nat} {α β : Type} {T : α → S} {xs : List α} {as : List S} {D : Ds} {x : Str}
theorem ev_callN {Φ : List S → O → Prop} (C : CalleeN X.prog X.w X.K X.mg X.base j x Φ) (hr : Room k X.A) (ha : EvAs X ss (e :: es) as) (hΦ : Φ as o) (hj : j ≤ k := by decide) (hg : Gl X x := by rfl)
    (hdb : (x == ("__debug__" : Str)) = false := by decide) (he : starEach (e :: es) X.env = (false, eval e X.env) :: starEach es X.env := by exact star_ok rfl) (hpl : (backTo pos (starEach es X.env)).any (·.1) = false := by rfl) :
    EvN X ss (.Call (.Name x p) (e :: es) [] pos) o := .mk fun B F H σ h Q q => by
  obtain ⟨f, fd, ps, G, hm, hk, hb⟩ := C.ex
  refine toE (pe_call G (hr.mono hj) hg hm hk hb .nil pass0 PAw hdb he hpl) ?_
  refine ha.go B F H σ h _ fun vs F1 H1 g1 rs => ?_
  rw [List.append_nil]
  exact ⟨F1, as, o, g1.s, paired_sv rs, hΦ, fun p F2 H2 c g2 n r => q p F2 H2 c (g1.trans g2) (fun a ob e => ⟨g1.h.free (n a ob e).1, (n a ob e).2⟩) r⟩
/-- new().append(e), dropped -/
theorem ev_appN {apos cpos : Pos} (ha : EvN X ss a (oLst T xs)) (he : EvE X ss e ρ) (hl : xs.length < sizeLine)
    (hbase : attributeBase a "append" X.env (eval a X.env) = eval a X.env := by rfl)
    (hfew : ((backTo cpos (starEach [e] X.env)).all (fun x => !x.1) && (backToKw cpos (keywordEach [] X.env)).all (fun x => x.1.isSome) && decide ([e].length + ([] : List Keyword).length + (if ([] : List Keyword).isEmpty then 0 else 1) < 30)) = true := by rfl)
    (hline : (apos.endLine == cpos.line) = true := by rfl) (hs : starEach [e] X.env = (false, eval e X.env) :: starEach [] X.env := by exact star_ok rfl) (hplain : (backTo cpos (starEach [] X.env)).any (·.1) = false := by rfl) :
    EvE X ss (.Call (.Attribute a "append" apos) [e] [] cpos) (sv sNone) := .mk fun B F H σ h Q q => by
  refine toE (pe_bm PySem.F.plainAttrs_list PySem.F.slot_list_append PySem.F.type_list_append mt_append PEw (pa_cons PEw pa_nil hs) hbase hfew hline hs hplain) ?_
  refine ha B F H σ h _ fun p F1 H1 c g1 n1 r1 => ?_
  obtain ⟨vs, e2, hi⟩ := r1
  refine ⟨.inl ⟨rfl, vs, SqL.of (n1 _ _ e2).2.2⟩, ?_⟩
  refine he B F1 H1 σ (h.grow g1) _ fun v F2 H2 g2 r2 => ?_
  have hp : H2 p = some (.lst vs) := g2.h _ _ (n1 _ _ e2).2.2
  have g := g1.trans g2
  have nH : H p = none := (n1 _ _ e2).1
  have nF : F2 p = none := by
    cases z : F2 p with
    | none => rfl
    | some o' =>
      have e3 := g2.s p o' z
      rw [hp] at e3
      cases e3
      rcases (n1 _ _ e2).2.1 with y | y
      · rcases g2.n p _ z y with y | y
        · rw [(n1 _ _ e2).2.2] at y
          cases y
        · exact y.elim
      · exact y.elim
  refine ⟨p, vs, v, rfl, rfl, hp, by rw [hi.len]; exact hl, ?_⟩
  refine q .non F2 _ ⟨g.f, fun x y ex => ?_, fun x y ex => ?_, fun x y ex nx => g.n x y ex nx⟩ rfl
  · rw [upd_ne (fun z => by subst z; rw [nH] at ex; cases ex)]
    exact g.h x y ex
  · rw [upd_ne (fun z => by subst z; rw [nF] at ex; cases ex)]
    exact g.s x y ex
end
/-! ### methods -/
structure CalleeM (P : Program) (w : World) (K : PySem.W.Frag) (mg : Str → Option Value) (base : Heap) (k : Nat) (C : Addr) (m : Str) (Φ : List S → S → Prop) : Prop where
  ex : ∃ (f : Addr) (fd : FuncData) (ps : List Str), Meth K C m f ∧ FnOk P w K mg base CX0 k f fd ps (spOf Φ) ∧ Binds K fd ps []
section
variable {X : Cx} {ss : List Sl} {e o a b c : Expr} {es : List Expr} {ρ τ κ : R} {s t : S} {pos p p2 apos : Pos} {j k : Nat} {as : List S} {D : Ds} {x m : Str} {C : Addr} {q : Addr → Prop} {fs : List (Str × Sl)}
theorem fdg_lk {F : Hp} {fp : Str → Hp} {fs : List (Str × Sl)} {vs : List (Str × V)} {m : Str} (h : Fdg F fp fs vs) (hl : fs.lookup m = none) : vs.lookup m = none := fdg_none h hl
theorem ev_meth {Φ : List S → S → Prop} {pl : Sem Bool} (G : CalleeM X.prog X.w X.K X.mg X.base j C m Φ) (hc : Cls X.K C) (hr : Room k X.A) (ho : EvE X ss o (sv (sO (oInsG C q fs)))) (hl : fs.lookup m = none) (ha : EvAs X ss (e :: es) as) (hΦ : Φ (sO (oInsG C q fs) :: as) s) (hj : j ≤ k := by decide)
    (he : starEach (e :: es) X.env = (false, eval e X.env) :: starEach es X.env := by exact star_ok rfl) (hpl : (backTo pos (starEach es X.env)).any (·.1) = false := by rfl)
    (ht : eval (.Call (.Attribute o m apos) (e :: es) [] pos) X.env = (do
      let ov ← eval o X.env
      standAt apos.atName
      let (f, first) ← holding [ov] (getMethod ov m pl)
      callWith pos f first (backTo pos (starEach (e :: es) X.env)) (backToKw pos (keywordEach [] X.env))) := by rfl) :
    EvE X ss (.Call (.Attribute o m apos) (e :: es) [] pos) (sv s) := .mk fun B F H σ h Q z => by
  obtain ⟨f, fd, ps, M, G, hb⟩ := G.ex
  refine toE (pe_meth PEw hc M G (hr.mono hj) hb .nil pass0 PAw he hpl ht) ?_
  refine ho B F H σ h _ fun v F1 H1 g1 r1 => ?_
  obtain ⟨y, c, ev, hk, hq, dx, vs, fp, hp, hf, hrest⟩ := id r1
  refine ⟨y, dx, vs, ev, g1.s _ _ (hk _ _ hp), fdg_none hf hl, ?_⟩
  refine ha.go B F1 H1 σ (h.grow g1) _ fun ws F2 H2 g2 rs => ?_
  rw [List.append_nil]
  exact ⟨F2, _ :: as, s, g2.s, .cons ((sO (oInsG C q fs)).mono g2.f r1) (paired_sv rs), hΦ, fun v F3 H3 g3 r => z v F3 H3 ((g1.trans g2).trans g3) r⟩
end
/-! ### an __init__ whose fields may be objects of their own -/
def spInG (C : Addr) (Φ : List S → List (Str × Sl) → Prop) : Sp := fun vs H Q _ => ∃ (F : Hp) (x dx : Addr) (ws : List V) (as : List S) (fs : List (Str × Sl)), vs = .ref x :: ws ∧ Same F H ∧ F x = none ∧ H x = some (.ins C dx []) ∧ Paired (fun (a : S) v => a.r F v) as ws ∧ Φ as fs ∧
  ∀ F' H' k, Grow F (hid x H) F' H' → (∀ a ob, k a = some ob → H' a = some ob ∧ hid x H a = none ∧ (F' a = none ∨ IsT ob)) → (oInsG C (fun p => p = x) fs).r F' k x → Q .non H'
structure CalleeG (P : Program) (w : World) (K : PySem.W.Frag) (mg : Str → Option Value) (base : Heap) (k : Nat) (x : Str) (C : Addr) (Φ : List S → List (Str × Sl) → Prop) : Prop where
  ex : ∃ (f : Addr) (fd : FuncData) (ps : List Str), Mk K C f ∧ FnOk P w K mg base CX0 k f fd ps (spInG C Φ) ∧ mg x = some (.ref C) ∧ Binds K fd ps []
theorem insG_start {C y dx : Addr} {F : Hp} : (oInsG C (fun p => p = y) []).r F (hp1 y (.ins C dx [])) y :=
  ⟨⟨rfl, by trivial⟩, dx, [], fun _ => hp0, hp1_same, .nil, (fun f a ob e => nomatch (show (none : Option HO) = some ob from e)), (fun f g a o1 o2 e => nomatch (show (none : Option HO) = some o1 from e))⟩
theorem sat_startI {F H0 : Hp} {N : List Str} {as : List S} {ws : List V} {C y dx : Addr} (sF : Same F H0) (nF : F y = none) (hy : H0 y = some (.ins C dx [])) (hp : Paired (fun (a : S) v => a.r F v) as ws) :
    Sat ⟨F, hid y H0⟩ F H0 (L2.start N (.ref y :: ws)) (.own (oInsG C (fun p => p = y) []) :: (as.map Sl.val ++ List.replicate (N.length - (as.length + 1)) .any)) := by
  have hlen : ws.length = as.length := (Paired.length hp).symm
  have g0 : Grow F (hid y H0) F H0 := ⟨Same.refl _, fun a o e => (hid_some e).2, sF, fun p o e n => by rw [n] at e; cases e⟩
  refine ⟨g0, ?_, fun i => if i = 0 then hp1 y (.ins C dx []) else hp0, fun i x v e1 e2 => ?_, ⟨fun i a ob e => ?_, fun i j a o1 o2 e1 e2 => ?_⟩⟩
  · unfold L2.start
    simp only [List.length_cons, List.length_append, List.length_map, List.length_replicate, hlen]
    omega
  · cases i with
    | zero =>
      rw [List.getElem?_cons_zero] at e1
      unfold L2.start at e2
      rw [List.map_cons, List.cons_append, List.getElem?_cons_zero] at e2
      cases e1; cases e2
      exact ⟨y, rfl, insG_start⟩
    | succ i =>
      rw [List.getElem?_cons_succ] at e1
      unfold L2.start at e2
      rw [List.map_cons, List.cons_append, List.getElem?_cons_succ] at e2
      by_cases hi : i < as.length
      · rw [List.getElem?_append_left (by rw [List.length_map]; exact hi), List.getElem?_map] at e1
        rw [List.getElem?_append_left (by rw [List.length_map, hlen]; exact hi), List.getElem?_map] at e2
        cases q1 : as[i]? with
        | none => rw [q1] at e1; cases e1
        | some a =>
          obtain ⟨u, hu, ru⟩ := pr_at hp q1
          rw [q1] at e1
          rw [hu] at e2
          cases e1; cases e2
          exact ⟨u, rfl, ru⟩
      · rw [List.getElem?_append_right (by rw [List.length_map]; omega), List.length_map] at e1
        have : x = .any := by
          obtain ⟨_, h2⟩ := List.getElem?_eq_some_iff.mp e1
          rw [← h2, List.getElem_replicate]
        subst this
        trivial
  · by_cases hi : i = 0
    · subst hi
      have e' : hp1 y (.ins C dx []) a = some ob := e
      obtain ⟨rfl, rfl⟩ := hp1_some e'
      exact ⟨hy, hid_same, .inl nF⟩
    · have e' : (if i = 0 then hp1 y (.ins C dx []) else hp0) a = some ob := e
      rw [if_neg hi] at e'
      cases (show (none : Option HO) = some ob from e')
  · by_cases hi : i = 0
    · by_cases hj : j = 0
      · rw [hi, hj]
      · have e' : (if j = 0 then hp1 y (.ins C dx []) else hp0) a = some o2 := e2
        rw [if_neg hj] at e'
        cases (show (none : Option HO) = some o2 from e')
    · have e' : (if i = 0 then hp1 y (.ins C dx []) else hp0) a = some o1 := e1
      rw [if_neg hi] at e'
      cases (show (none : Option HO) = some o1 from e')
theorem initG_ok {P : Program} {w : World} {K : PySem.W.Frag} {mg : Str → Option Value} {base : Heap} {x qual : Str} {st : Stmt} {f C : Addr} {fd : FuncData} {N ps : List Str} {k : Nat} {Φ : List S → List (Str × Sl) → Prop} (F : FunE K x qual st f fd) (Sc : FnScope N ps (defScope st)) (len : ∀ as s, Φ as s → as.length + 1 = ps.length)
    (body : ∀ (cdv : Value) (A : Around) (outer : List Env) (s0 : Shared) (H0 : Hp) (E : XK) (y : Addr) (as : List S) (fs : List (Str × Sl)), Room k (A.deeper (envOfC qual (defScope st) s0.heap.objs.size f cdv)) → Φ as fs →
      EvSs (cxOf CX0 P w K mg base N qual (defScope st) f cdv A outer s0 H0 E).nox (.own (oInsG C (fun p => p = y) []) :: (as.map Sl.val ++ List.replicate (N.length - (as.length + 1)) .any)) (defBody st) { nx := fun ss' => ss'[0]? = some (.own (oInsG C (fun p => p = y) fs)), rt := fun s' => False }) :
    FnOk P w K mg base CX0 (k + 1) f fd ps (spInG C Φ) := by
  refine F.ok Sc (fun vs H Q E ⟨F, x, dx, ws, as, fs, ev, _, _, _, hp, hΦ, _⟩ => by rw [ev, List.length_cons, ← Paired.length hp]; exact len as fs hΦ) (fun cdv A outer s0 H0 vs Q E hr h => ?_)
  obtain ⟨F, y, dx, ws, as, fs, rfl, sF, nF, hy, hp, hΦ, q⟩ := h
  refine ⟨_, PSsw, ?_⟩
  refine wpSs_mono (body cdv A outer s0 H0 E y as fs hr hΦ ⟨F, hid y H0⟩ F H0 _ (sat_startI sF nF hy hp) tk0) (fun σ' H' ⟨F', ss', hs', z⟩ => ?_) (fun v H' z => by rcases RtP.two z (fun _ _ q => q) (fun _ _ q => q) with ⟨_, _, _, _, z⟩ | ⟨_, _, _, _, _, _, _, _, z⟩ <;> exact z.elim) (fun _ _ ⟨_, _, _, z⟩ => z) (fun _ _ ⟨_, _, _, z⟩ => z)
  obtain ⟨p, c, _, hc, hr'⟩ := hs'.own z
  have ep : p = y := hr'.1.1
  subst ep
  exact q F' H' c hs'.g hc hr'
theorem insG_any {C : Addr} {q : Addr → Prop} {fs : List (Str × Sl)} {F k : Hp} {p : Addr} (h : (oInsG C q fs).r F k p) : (oInsG C (fun _ => True) fs).r F k p := ⟨⟨trivial, h.1.2⟩, h.2⟩
theorem ev_makeG {X : Cx} {ss : List Sl} {e : Expr} {es : List Expr} {p pos : Pos} {x : Str} {C : Addr} {Φ : List S → List (Str × Sl) → Prop} {as : List S} {fs : List (Str × Sl)} {j k : Nat} (G : CalleeG X.prog X.w X.K X.mg X.base j x C Φ) (hr : Room k X.A) (ha : EvAs X ss (e :: es) as) (hΦ : Φ as fs) (hj : j + 1 ≤ k := by decide) (hg : Gl X x := by rfl)
    (hdb : (x == ("__debug__" : Str)) = false := by decide) (he : starEach (e :: es) X.env = (false, eval e X.env) :: starEach es X.env := by exact star_ok rfl) (hpl : (backTo pos (starEach es X.env)).any (·.1) = false := by rfl) :
    EvN X ss (.Call (.Name x p) (e :: es) [] pos) (oInsG C (fun _ => True) fs) := .mk fun B F H σ h Q q => by
  obtain ⟨f, fd, ps, M, G, hm, hb⟩ := G.ex
  refine toE (pe_make M G (hr.mono hj) hg hm hb .nil pass0 PAw hdb he hpl) ?_
  refine ha.go B F H σ h _ fun vs F1 H1 g1 rs x dx nx nd nex => ?_
  rw [List.append_nil]
  have sm : Same H1 (upd (upd H1 dx (.own x)) x (.ins C dx [])) := fun a o ea => by
    rw [upd_ne (ne_of_none ea nx), upd_ne (ne_of_none ea nd)]
    exact ea
  have sh : Same H1 (hid x (upd (upd H1 dx (.own x)) x (.ins C dx []))) := fun a o ea => by
    rw [hid_ne (ne_of_none ea nx)]
    exact sm a o ea
  refine ⟨F1, x, dx, vs, as, fs, rfl, g1.s.trans sm, g1.s.free nx, upd_same, paired_sv rs, hΦ, fun F2 H2 c g2 hc hr => ⟨rfl, ?_⟩⟩
  have g3 : Grow F1 H1 F2 H2 := ⟨g2.f, sh.trans g2.h, g2.s, fun a o e1 e2 => (g2.n a o e1 e2).imp sh.free id⟩
  exact q x F2 H2 c (g1.trans g3) (fun a ob ea => ⟨g1.h.free (sh.free (hc a ob ea).2.1), (hc a ob ea).2.2, (hc a ob ea).1⟩) (insG_any hr)
end Sx
namespace Sx
open PySem PySem.Spec PyProof.Rows L2
section
variable {X : Cx} {ss : List Sl} {e c elt : Expr} {ifs : List Expr} {scope : Scope} {α β : Type} {T : α → S} {U : β → S} {xs : List α} {s : S} {o : O} {pos : Pos}
/-- a comprehension over the signs of a text -/
theorem lc_str {iter : Expr} {tg : Expr} {z : Str} (j : Nat) (p : Nat → Bool) (f : Nat → β) (hi : EvE X ss iter (sv (sStr z))) (hl : z.length ≤ sizeLine)
    (ht : ∀ (i : Nat) x, z.cps.toList[i]? = some x → BlkT X scope (ss.set j (.val (sStr ⟨#[x]⟩))) ifs (p x)) (he : ∀ (i : Nat) x, z.cps.toList[i]? = some x → p x = true → BlkE X scope (ss.set j (.val (sStr ⟨#[x]⟩))) elt (sv (U (f x)))) :
    Lc X ss elt tg iter ifs scope j (oLst U ((z.cps.toList.filter p).map f)) := .mk fun B F H σ h Q q => by
  refine toI (pi_str PEw) ?_
  refine hi B F H σ h _ fun v F1 H1 g1 r1 => ?_
  obtain ⟨ev, ok⟩ := r1
  subst ev
  have h1 := h.grow g1
  refine ⟨z, rfl, fun D nD => ?_⟩
  refine ⟨fun i m H => m = z.cps.toList.length - i ∧ i ≤ z.cps.toList.length ∧ LcPv U F1 H1 D (((z.cps.toList.take i).filter p).map f) H, ⟨_, rfl, Nat.zero_le _, lcpv_0 g1.s nD⟩, ?_⟩
  have el : z.cps.toList.length = z.cps.size := Array.length_toList
  rintro i m H ⟨rfl, hle, hP⟩
  by_cases hlt : i < z.cps.toList.length
  · refine .inr ⟨show i < z.cps.size by omega, fun H => LcPv U F1 H1 D (((z.cps.toList.take (i + 1)).filter p).map f) H, fun H' p' => ⟨z.cps.toList.length - (i + 1), by omega, rfl, hlt, p'⟩, fun x H' y => ?_⟩
    obtain ⟨eH, c, hc, ex⟩ := y
    subst eH ex
    have hx : z.cps.toList[i]? = some c := by rw [Array.getElem?_toList]; exact hc
    refine lc_step h1 nD (ht i c hx) (fun b => he i c hx b) (filter_take hx) ?_ ⟨rfl, strOk_sub ok fun n hn => ?_⟩ hP
    · rw [List.length_map]
      refine Nat.lt_of_le_of_lt (List.length_filter_le _ _) ?_
      rw [List.length_take]
      have : z.cps.toList.length ≤ sizeLine := by rw [el]; exact hl
      omega
    · have e : n = c := by simpa using hn
      rw [e]
      exact List.mem_of_getElem? hx
  · have e : i = z.cps.toList.length := by omega
    subst e
    refine .inl ⟨show z.cps.size ≤ _ by omega, ?_⟩
    obtain ⟨F', acc, g, fD, hD, hi'⟩ := hP
    rw [List.take_length] at hi'
    exact q D F' _ (hp1 D (.lst acc)) (g1.trans g) (fun a ob ea => by
      obtain ⟨rfl, rfl⟩ := hp1_some ea
      exact ⟨g1.h.free nD, .inl fD, hD⟩) ⟨acc, hp1_same, hi'⟩
end
/-- x in xs, as the rules for in have it -/
abbrev inB {α : Type} [DecidableEq α] (x : α) (xs : List α) : Bool := decide (x ∈ xs)
theorem inB_iff {α : Type} [DecidableEq α] {x : α} {xs : List α} : inB x xs = true ↔ x ∈ xs := decide_eq_true_iff
/-! ### pairs -/
def sPair {α β : Type} (T : α → S) (U : β → S) (p : α × β) : S := sTup id [T p.1, U p.2]
instance {α β : Type} {T : α → S} {U : β → S} {p : α × β} {K : PySem.W.Frag} : AsTp K (sv (sPair T U p)) id [T p.1, U p.2] := inferInstanceAs (AsTp K (sv (sO (oTup id [T p.1, U p.2]))) id [T p.1, U p.2])
section
variable {α β : Type} {T : α → S} {U : β → S}
theorem its2 {F : Hp} {s t : S} {vs : List V} (h : Its id F [s, t] vs) : ∃ a b, vs = [a, b] ∧ s.r F a ∧ t.r F b := by
  have h' : Paired (fun (x : S) v => x.r F v) [s, t] vs := h
  cases h' with
  | cons r1 t1 =>
    cases t1 with
    | cons r2 t2 =>
      cases t2
      exact ⟨_, _, rfl, r1, r2⟩
instance [TyD T] [TyD U] : TyD (sPair T U) where
  d := fun p => .tuple [TyD.d T p.1, TyD.d U p.2]
  dep := max (TyD.dep T) (TyD.dep U) + 1
  ok := fun {K F v x} h => by
    obtain ⟨p, k, e, hk, vs, hp, hi⟩ := h
    subst e
    obtain ⟨a, b, rfl, ra, rb⟩ := its2 hi
    obtain ⟨a1, a2, a3⟩ := TyD.ok (T := T) (K := K) ra
    obtain ⟨b1, b2, b3⟩ := TyD.ok (T := U) (K := K) rb
    refine ⟨.tup (SqT.of (hk _ _ hp)) (.cons a1 (.cons b1 .nil)), ?_, ?_⟩
    · rw [PyData.canLay0, PyData.canLayAll0, PyData.canLayAll0, PyData.canLayAll0, a2, b2]
      rfl
    · rw [PyData.depth, PyData.depthAll, PyData.depthAll, PyData.depthAll]
      omega
instance [DecidableEq α] [DecidableEq β] [TyQ T] [TyQ U] : TyQ (sPair T U) where
  q := fun x y => by
    show PyData.eqv (.tuple _) (.tuple _) = _
    rw [PyData.eqv, PyData.eqvAll, PyData.eqvAll, PyData.eqvAll, TyQ.q, TyQ.q]
    obtain ⟨a, b⟩ := x
    obtain ⟨c, d⟩ := y
    simp [Prod.ext_iff, Bool.decide_and]
end
/-! ### callees, made -/
section
variable {P : Program} {w : World} {K : PySem.W.Frag} {mg : Str → Option Value} {base : Heap} {k : Nat} {x m : Str} {f C : Addr} {fd : FuncData} {ps : List Str}
theorem callee_mkM {Φ : List S → S → Prop} (G : FnOk P w K mg base CX0 k f fd ps (spOf Φ)) (M : Meth K C m f) (hb : Binds K fd ps []) : CalleeM P w K mg base k C m Φ := ⟨f, fd, ps, M, G, hb⟩
theorem callee_mkC {Φ : List S → List (Str × S) → Prop} (G : FnOk P w K mg base CX0 k f fd ps (spIn C Φ)) (M : Mk K C f) (hm : mg x = some (.ref C)) (hb : Binds K fd ps []) : CalleeC P w K mg base k x C Φ := ⟨f, fd, ps, M, G, hm, hb⟩
theorem callee_mkG {Φ : List S → List (Str × Sl) → Prop} (G : FnOk P w K mg base CX0 k f fd ps (spInG C Φ)) (M : Mk K C f) (hm : mg x = some (.ref C)) (hb : Binds K fd ps []) : CalleeG P w K mg base k x C Φ := ⟨f, fd, ps, M, G, hm, hb⟩
end
end Sx
namespace Sx
open PySem PySem.Spec PyProof.Rows L2
/-! ### an expression that raises -/
structure EvR (X : Cx) (ss : List Sl) (e : Expr) (ex : Xo → List Sl → Prop) : Prop where
  go : ∀ (B : Bs) (F H : Hp) (σ : L2.St), Sat B F H σ ss → Tk X B ex → ∀ Q : VK, wpE X e σ H Q
section
variable {X : Cx} {ss : List Sl} {e a b c : Expr} {es : List Expr} {body : List Stmt} {ρ τ : R} {s t : S} {o : O} {pos pos' p p2 : Pos} {D : Ds} {x : Str} {ex ex' : Xo → List Sl → Prop}
theorem EvR.imp (h : EvR X ss e ex) (w : ∀ x ss, ex x ss → ex' x ss) : EvR X ss e ex' := .mk fun B F H σ hs tk Q => h.go B F H σ hs (tk.imp w) Q
theorem s_dropR (he : EvR X ss e D.ex) (hs : swapsWith e none pos.line X.env = pure false := by rfl) : EvS X ss (.Expr e pos) D := .mk fun B F H σ h tk =>
  toS (ps_expr PEw hs) (he.go B F H σ h tk _)
theorem s_retR (he : EvR X ss e D.ex) : EvS X ss (.Return (some e) pos) D := .mk fun B F H σ h tk => toS (ps_ret PEw) (he.go B F H σ h tk _)
end
/-! ### results -/
inductive Rs where
  | ok (s : S)
  | new (o : O)
  | ex (x : Xo)
def RsP (F H : Hp) (Q : VK) (E : XK) : Rs → Prop
  | .ok s => ∀ v F' H', Grow F H F' H' → s.r F' v → Q v H'
  | .new o => ∀ p F' H' k, Grow F H F' H' → (∀ a ob, k a = some ob → H a = none ∧ (F' a = none ∨ IsT ob) ∧ H' a = some ob) → o.r F' k p → Q (.ref p) H'
  | .ex x => ∀ cls d F' H', Grow F H F' H' → XoR x F' cls d → E cls d H'
def spOfX (Φ : List S → Rs → Prop) : Sp := fun vs H Q E => ∃ (F : Hp) (as : List S) (r : Rs), Same F H ∧ Paired (fun (a : S) v => a.r F v) as vs ∧ Φ as r ∧ RsP F H Q E r
/-- what is wanted behind the body -/
def dsX : Rs → Ds
  | .ok s => { nx := fun _ => ∀ F : Hp, s.r F .non, rt := fun s' => ∀ F v, s'.r F v → s.r F v }
  | .new o => { nx := fun _ => False, rt := fun _ => False, rn := fun o' => ∀ F k p, o'.r F k p → o.r F k p }
  | .ex x => { nx := fun _ => False, rt := fun _ => False, ex := fun x' _ => x' = x }
structure CalleeX (P : Program) (w : World) (K : PySem.W.Frag) (mg : Str → Option Value) (base : Heap) (k : Nat) (x : Str) (Φ : List S → Rs → Prop) : Prop where
  ex : ∃ (f : Addr) (fd : FuncData) (ps : List Str), FnOk P w K mg base (L2.CX P w) k f fd ps (spOfX Φ) ∧ mg x = some (.ref f) ∧ PySem.W.keepIn K (.ref f) = true ∧ Binds K fd ps []
section
variable {P : Program} {w : World} {K : PySem.W.Frag} {mg : Str → Option Value} {base : Heap} {x qual : Str} {st : Stmt} {f : Addr} {fd : FuncData} {N ps : List Str} {k : Nat} {sp : Sp}
theorem FunE.okX (F : FunE K x qual st f fd) (S : FnScope N ps (defScope st)) (len : ∀ vs H Q E, sp vs H Q E → vs.length = ps.length)
    (body : ∀ (cdv : Value) (A : Around) (outer : List Env) (s : Shared) (H : Hp) (vs : List V) (Q : VK) (E : XK), Room k (A.deeper (envOfC qual (defScope st) s.heap.objs.size f cdv)) → sp vs H Q E →
      ∃ t, PSs (cxOf (L2.CX P w) P w K mg base N qual (defScope st) f cdv A outer s H E) (defBody st) t ∧ t { nx := fun _ H' => Q .non H', rt := Q } (L2.start N vs) H) : FnOk P w K mg base (L2.CX P w) (k + 1) f fd ps sp := by
  obtain ⟨oc, od, dV, kV, doc, pm, an, cdv, ct, osl, rfl, lk, hcd⟩ := F.ex
  exact fn_of lk hcd S len fun A outer s H vs Q E hr hsp => body cdv A outer s H vs Q E hr hsp
end
section
variable {P : Program} {w : World} {K : PySem.W.Frag} {mg : Str → Option Value} {base : Heap} {x qual : Str} {st : Stmt} {f C : Addr} {fd : FuncData} {N ps : List Str} {k : Nat}
theorem callee_mkX {Φ : List S → Rs → Prop} (G : FnOk P w K mg base (L2.CX P w) k f fd ps (spOfX Φ)) (hm : mg x = some (.ref f)) (hk : PySem.W.keepIn K (.ref f) = true) (hb : Binds K fd ps []) : CalleeX P w K mg base k x Φ := ⟨f, fd, ps, G, hm, hk, hb⟩
theorem fn_okX {Φ : List S → Rs → Prop} (F : FunE K x qual st f fd) (Sc : FnScope N ps (defScope st)) (len : ∀ as r, Φ as r → as.length = ps.length)
    (body : ∀ (cdv : Value) (A : Around) (outer : List Env) (s0 : Shared) (H0 : Hp) (E : XK) (as : List S) (r : Rs), Room k (A.deeper (envOfC qual (defScope st) s0.heap.objs.size f cdv)) →
      PassesOwn (model P w) (cxOf (L2.CX P w) P w K mg base N qual (defScope st) f cdv A outer s0 H0 E).A (cxOf (L2.CX P w) P w K mg base N qual (defScope st) f cdv A outer s0 H0 E).env (cxOf (L2.CX P w) P w K mg base N qual (defScope st) f cdv A outer s0 H0 E).xe → Φ as r →
      EvSs (cxOf (L2.CX P w) P w K mg base N qual (defScope st) f cdv A outer s0 H0 E) (as.map Sl.val ++ List.replicate (N.length - as.length) .any) (defBody st) (dsX r)) :
    FnOk P w K mg base (L2.CX P w) (k + 1) f fd ps (spOfX Φ) := by
  refine F.okX Sc (fun vs H Q E ⟨F, as, r, _, hp, hΦ, _⟩ => by rw [← Paired.length hp]; exact len as r hΦ) (fun cdv A outer s0 H0 vs Q E hr h => ?_)
  obtain ⟨F, as, r, sF, hp, hΦ, q⟩ := h
  refine ⟨_, PSsw, ?_⟩
  have tk : Tk (cxOf (L2.CX P w) P w K mg base N qual (defScope st) f cdv A outer s0 H0 E) ⟨F, H0⟩ (dsX r).ex := by
    refine Takes.imp (takes_of (E := E) rfl rfl rfl rfl) fun cls d σ H z => ?_
    obtain ⟨x', F', ss', hx, hs', hr'⟩ := z
    cases r with
    | ok s => exact (show False from hx).elim
    | new o => exact (show False from hx).elim
    | ex y =>
      have e : x' = y := hx
      subst e
      exact q cls d F' H hs'.g hr'
  refine wpSs_mono (body cdv A outer s0 H0 E as r hr (passes_of rfl) hΦ ⟨F, H0⟩ F H0 _ (sat_start sF hp) tk) (fun σ' H' ⟨F', ss', hs', z⟩ => ?_) (fun v H' z => ?_) (fun _ _ ⟨_, _, _, z⟩ => ?_) (fun _ _ ⟨_, _, _, z⟩ => ?_)
  · cases r with
    | ok s => exact q _ F' H' hs'.g (z F')
    | new o => exact (show False from z).elim
    | ex y => exact (show False from z).elim
  · cases r with
    | ok s =>
      rcases RtP.two z (fun _ _ q => q) (fun _ _ q => q) with ⟨F', s', g, r', z⟩ | ⟨_, _, _, _, _, _, _, _, z⟩
      · exact q v F' H' g (z F' v r')
      · exact (show False from z).elim
    | new o =>
      rcases RtP.two z (fun _ _ q => q) (fun _ _ q => q) with ⟨_, _, _, _, z⟩ | ⟨F', c, p, o', rfl, g, n, r', z⟩
      · exact (show False from z).elim
      · exact q p F' H' c g (fun a ob e => ⟨(n a ob e).2.1, (n a ob e).2.2, (n a ob e).1⟩) (z _ _ _ r')
    | ex y =>
      rcases RtP.two z (fun _ _ q => q) (fun _ _ q => q) with ⟨_, _, _, _, z⟩ | ⟨_, _, _, _, _, _, _, _, z⟩
      · exact (show False from z).elim
      · exact (show False from z).elim
  · cases r <;> exact (show False from z).elim
  · cases r <;> exact (show False from z).elim
end
/-! ### calls of such defs -/
section
variable {X : Cx} {ss : List Sl} {e : Expr} {es : List Expr} {as : List S} {s : S} {o : O} {z : Xo} {Φ : List S → Rs → Prop} {x : Str} {p pos : Pos} {j k : Nat} {ex : Xo → List Sl → Prop}
theorem ev_callX (C : CalleeX X.prog X.w X.K X.mg X.base j x Φ) (hr : Room k X.A) (ha : EvAs X ss (e :: es) as) (hΦ : Φ as (.ok s)) (hj : j ≤ k := by decide) (hg : Gl X x := by rfl)
    (hdb : (x == ("__debug__" : Str)) = false := by decide) (he : starEach (e :: es) X.env = (false, eval e X.env) :: starEach es X.env := by exact star_ok rfl) (hpl : (backTo pos (starEach es X.env)).any (·.1) = false := by rfl) :
    EvE X ss (.Call (.Name x p) (e :: es) [] pos) (sv s) := .mk fun B F H σ h Q q => by
  obtain ⟨f, fd, ps, G, hm, hk, hb⟩ := C.ex
  refine toE (pe_call G (hr.mono hj) hg hm hk hb .nil passL PAw hdb he hpl) ?_
  refine ha.go B F H σ h _ fun vs F1 H1 g1 rs => ?_
  rw [List.append_nil]
  exact ⟨F1, as, .ok s, g1.s, paired_sv rs, hΦ, fun v F2 H2 g2 r => q v F2 H2 (g1.trans g2) r⟩
theorem ev_callXN (C : CalleeX X.prog X.w X.K X.mg X.base j x Φ) (hr : Room k X.A) (ha : EvAs X ss (e :: es) as) (hΦ : Φ as (.new o)) (hj : j ≤ k := by decide) (hg : Gl X x := by rfl)
    (hdb : (x == ("__debug__" : Str)) = false := by decide) (he : starEach (e :: es) X.env = (false, eval e X.env) :: starEach es X.env := by exact star_ok rfl) (hpl : (backTo pos (starEach es X.env)).any (·.1) = false := by rfl) :
    EvN X ss (.Call (.Name x p) (e :: es) [] pos) o := .mk fun B F H σ h Q q => by
  obtain ⟨f, fd, ps, G, hm, hk, hb⟩ := C.ex
  refine toE (pe_call G (hr.mono hj) hg hm hk hb .nil passL PAw hdb he hpl) ?_
  refine ha.go B F H σ h _ fun vs F1 H1 g1 rs => ?_
  rw [List.append_nil]
  exact ⟨F1, as, .new o, g1.s, paired_sv rs, hΦ, fun p F2 H2 c g2 n r => q p F2 H2 c (g1.trans g2) (fun a ob e => ⟨g1.h.free (n a ob e).1, (n a ob e).2⟩) r⟩
theorem ev_callR (C : CalleeX X.prog X.w X.K X.mg X.base j x Φ) (hr : Room k X.A) (ha : EvAs X ss (e :: es) as) (hΦ : Φ as (.ex z)) (hz : ex z ss) (hj : j ≤ k := by decide) (hg : Gl X x := by rfl)
    (hdb : (x == ("__debug__" : Str)) = false := by decide) (he : starEach (e :: es) X.env = (false, eval e X.env) :: starEach es X.env := by exact star_ok rfl) (hpl : (backTo pos (starEach es X.env)).any (·.1) = false := by rfl) :
    EvR X ss (.Call (.Name x p) (e :: es) [] pos) ex := .mk fun B F H σ h tk Q => by
  obtain ⟨f, fd, ps, G, hm, hk, hb⟩ := C.ex
  refine toE (pe_callS (E := WE (wX B ex)) G (hr.mono hj) hg hm hk hb (fun σ => passAt tk σ) PAw hdb he hpl) ?_
  refine ha.go B F H σ h _ fun vs F1 H1 g1 rs => ?_
  exact ⟨F1, as, .ex z, g1.s, paired_sv rs, hΦ, fun cls d F2 H2 g2 r => ⟨z, F2, ss, hz, (h.grow g1).grow g2, r⟩⟩
end
/-! ### raise X(..) -/
structure ExcK (K : PySem.W.Frag) (mg : Str → Option Value) (x : Str) (C : Addr) : Prop where
  q : PySem.W.excIn K C [.type "ValueError", .type "Exception", .type "BaseException", .type "object"] "ValueError.__new__" = true
  g : mg x = some (.ref C)
  k : PySem.W.keepIn K (.ref C) = true
  b : PySem.W.subIn K (.ref C) (.type "BaseException") = some true
  t : PySem.W.typeIn K (.ref C) = some (.type "type")
  s : PySem.W.subIn K (.ref C) (.ref C) = some true
  i : ExcC K C
/-- what isinstance answers of an instance of C -/
def IsA (K : PySem.W.Frag) (C D : Addr) (b : Bool) : Prop := PySem.W.kitOne K (.ref C) (.ref D) = some b
theorem s_raise {X : Cx} {ss : List Sl} {e : Expr} {ρ : R} {D : Ds} {x : Str} {C : Addr} {p pos pos' : Pos} (T : ExcK X.K X.mg x C) (hc : X.calm = true) (he : EvE X ss e ρ) (hx : D.ex ⟨.ref C, none⟩ ss) (hg : Gl X x := by rfl)
    (hs : starEach [e] X.env = (false, eval e X.env) :: starEach [] X.env := by exact star_ok rfl) (hdb : (x == ("__debug__" : Str)) = false := by decide) : EvS X ss (.Raise (some (.Call (.Name x p) [e] [] pos)) none pos') D := .mk fun B F H σ h tk =>
  toS (ps_raise hc tk (SkE.pmk_own1 PySem.F.excBase_ValueError T.q T.g T.k (raises_own T.b T.t) hg PEw hs hdb)) (he B F H σ h _ fun v F1 H1 g r => ⟨⟨.ref C, none⟩, F1, ss, hx, h.grow g, rfl, rfl⟩)
/-! ### f-strings: some text -/
def rTxt (n : Nat) : R := ⟨fun _ _ v => ∃ y : Str, v = .str y ∧ y.length ≤ n, fun _ _ h => h⟩
section
variable {X : Cx} {ss : List Sl} {e e1 e2 : Expr} {es : List Expr} {pos : Pos} {i : Int} {k n m : Nat} {w : List Str} {z : Str}
theorem rp_tuple {prog : Program} {w : World} {A : Around} {E : Value → Shared → Prop} {s : Shared} {a : Addr} {o : Obj} {its : Array Value} {n : Nat} {ts : List Str} {Q : Value → Shared → Prop} (hu : A.units < cLine) (ha : s.heap.get? a = some o) (hc : o.cls = .type "tuple") (hd : o.data = .seq its n) (hT : ReprAll prog w its.toList ts) (hz : (tupleText ts).length ≤ sizeLine)
    (h : ∀ (m : Str) (u tk : Tok), m.length ≤ (tupleText ts).length + 5 → Q (.str m u) { s with toks := tk }) : wpAny (model prog w) A (pyReprObj (.ref a)) Q E s := by
  have hTy : s.TypeIs (.ref a) "tuple" := ⟨o, ha, hc⟩
  unfold pyReprObj
  refine wpAny_bind (wpAny_cRoomFor hu (wpAny_bind (wpAny_specialOf (name := Str.ofString "__repr__") hTy F.slot_tuple_repr.lookup ?_)))
  refine wpAny_bind (m := callSpecialIfBound? (.ref a) (Str.ofString "__repr__")) (wpAny_callSpecialIfBound?_slotG (name := Str.ofString "__repr__") hTy F.slot_tuple_repr (fmt_tuple_repr ha hc hd hT hz fun m u tk hm => ?_))
  exact wpAny_bind (wpAny_isInstance (T := "str") (b := true) rfl isSubtype_str_str (wpAny_pure (h m u tk hm)))
theorem ef_int (he : EvE X ss e (sv (sInt i))) (hi : i.natAbs.log2 < 1920) (hn : (toString i : Str).length ≤ n) : EvE X ss (.FormattedValue e (-1) none pos) (rTxt n) := .mk fun B F H σ h Q q =>
  toE (pe_fmt PEw) (he B F H σ h _ fun v F1 H1 g r => .inr ⟨i, r, hi, q _ F1 H1 g ⟨_, rfl, hn⟩⟩)
theorem ef_str (ok : PyData.strOk z = true := by decide +kernel) {j} (hn : z.length ≤ n := by decide +kernel) : EvE X ss (.Constant (.str z) j pos) (rTxt n) := .mk fun B F H σ h Q q =>
  toE pe_str (q _ F H (.refl h.s) ⟨_, rfl, hn⟩)
theorem ef_tupR (hr : Room k X.A) (he : EvE X ss e (sv (sO (oTup sStr w)))) (hw : ∀ y ∈ w, ∀ c ∈ y.cps.toList, c < 16 ^ 8) (hz : fmtCost w + 7 ≤ n) (hn : n ≤ sizeLine) : EvE X ss (.FormattedValue e 114 none pos) (rTxt n) := .mk fun B F H σ h Q q => by
  refine toE (t := fun σ H Q => wpE X e σ H fun x H1 => ∃ (a : Addr), x = .ref a ∧ SqT X.K H1 a (w.map V.str) ∧ ∀ m : Str, m.length ≤ n → Q (.str m) H1) ⟨fun pins s σ H Q I h => ?_⟩ ?_
  · refine wpAny_FormattedValue_repr (thn (h pins s I) fun v s1 hv => ?_)
    obtain ⟨x, H1, I1, r1, a, rfl, ht, q⟩ := hv
    cases r1
    obtain ⟨its, rv, ⟨ob, ho, hcl, nn, hd⟩, _⟩ := I1.tuple ht
    have hp := fmt_piled w hw
    have htx := fmt_text (w.map reprText)
    have hu := room64 hr
    refine rp_tuple (ts := w.map reprText) (by omega) ho hcl hd (repr_all rv fun y hy => ?_) (by omega) fun m u tk hm => ?_
    · have h1 := StrLaws.reprText_len y (hw y hy)
      have h2 := fmtCost_mem hy
      omega
    · have hm' : m.length ≤ n := by omega
      exact wpAny_formatField_str ⟨.str m, H1, I1.tok _, ⟨_, rfl⟩, q m hm'⟩ ⟨.str m, H1, (I1.tok _).tok _, ⟨_, rfl⟩, q m hm'⟩ (Nat.le_trans hm' hn)
  · refine he B F H σ h _ fun v F1 H1 g r => ?_
    obtain ⟨a, c, ev, hk, vs, hp, hi⟩ := r
    have evs := its_strs hi
    subst evs
    exact ⟨a, ev, SqT.of (g.s _ _ (hk _ _ hp)), fun m hm => q _ F1 H1 g ⟨m, rfl, hm⟩⟩
/-- the parts -/
inductive EvF (X : Cx) (ss : List Sl) : List Expr → Nat → Prop where
  | nil : EvF X ss [] 0
  | cons {e : Expr} {es : List Expr} {n m : Nat} (h : EvE X ss e (rTxt n)) (r : EvF X ss es m) : EvF X ss (e :: es) (n + m)
theorem ef_parts {B : Bs} {σ : L2.St} : ∀ {es : List Expr} {n : Nat}, EvF X ss es n → ∃ ts : List TE, PJ X es ts ∧ ∀ (F H : Hp) (acc : Str) (Q : Str → Hp → Prop), Sat B F H σ ss → acc.length + n ≤ sizeLine → (∀ m F' H', Grow F H F' H' → m.length ≤ acc.length + n → Q m H') → tJs ts acc σ H Q
  | _, _, .nil => ⟨[], .nil, fun F H acc Q h _ q => q acc F H (.refl h.s) (Nat.le_refl _)⟩
  | _, _, .cons (e := e) (n := n) (m := m) he hr => by
    obtain ⟨ts, hp, go⟩ := ef_parts hr
    refine ⟨_ :: ts, .cons PEw hp, fun F H acc Q h hl q => ?_⟩
    refine he B F H σ h _ fun v F1 H1 g r => ?_
    obtain ⟨y, ev, hy⟩ := r
    have ly : (acc ++ y).length = acc.length + y.length := Array.size_append
    refine ⟨y, ev, by omega, go F1 H1 (acc ++ y) Q (h.grow g) (by omega) fun m F2 H2 g2 hm => q m F2 H2 (g.trans g2) (by omega)⟩
theorem ev_fstr (h : EvF X ss (e1 :: e2 :: es) n) (hn : n ≤ sizeLine) : EvE X ss (.JoinedStr (e1 :: e2 :: es) pos) (rTxt n) := .mk fun B F H σ hs Q q => by
  obtain ⟨ts, hp, go⟩ := ef_parts (B := B) (σ := σ) h
  exact toE (pe_joined hp) (go F H Str.empty _ hs (by rw [show Str.empty.length = 0 from rfl]; omega) fun m F' H' g hm => q _ F' H' g ⟨m, rfl, by rw [show Str.empty.length = 0 from rfl] at hm; omega⟩)
end
end Sx
namespace Sx
open PySem PySem.Spec PyProof.Rows L2
/-! ### classes whose __init__ may raise -/
inductive Ri where
  | ok (fs : List (Str × Sl))
  | ex (x : Xo)
def spInX (C : Addr) (Φ : List S → Ri → Prop) : Sp := fun vs H Q E => ∃ (F : Hp) (x dx : Addr) (ws : List V) (as : List S) (r : Ri), vs = .ref x :: ws ∧ Same F H ∧ F x = none ∧ H x = some (.ins C dx []) ∧ Paired (fun (a : S) v => a.r F v) as ws ∧ Φ as r ∧
  (match r with
  | .ok fs => ∀ F' H' k, Grow F (hid x H) F' H' → (∀ a ob, k a = some ob → H' a = some ob ∧ hid x H a = none ∧ (F' a = none ∨ IsT ob)) → (oInsG C (fun p => p = x) fs).r F' k x → Q .non H'
  | .ex z => ∀ cls d F' H', Grow F (hid x H) F' H' → XoR z F' cls d → E cls d H')
def dsI (C y : Addr) : Ri → Ds
  | .ok fs => { nx := fun ss' => ss'[0]? = some (.own (oInsG C (fun p => p = y) fs)), rt := fun _ => False }
  | .ex z => { nx := fun _ => False, rt := fun _ => False, ex := fun z' _ => z' = z }
structure CalleeI (P : Program) (w : World) (K : PySem.W.Frag) (mg : Str → Option Value) (base : Heap) (k : Nat) (x : Str) (C : Addr) (Φ : List S → Ri → Prop) : Prop where
  ex : ∃ (f : Addr) (fd : FuncData) (ps : List Str), Mk K C f ∧ FnOk P w K mg base (L2.CX P w) k f fd ps (spInX C Φ) ∧ mg x = some (.ref C) ∧ Binds K fd ps []
section
variable {P : Program} {w : World} {K : PySem.W.Frag} {mg : Str → Option Value} {base : Heap} {x qual : Str} {st : Stmt} {f C : Addr} {fd : FuncData} {N ps : List Str} {k : Nat} {Φ : List S → Ri → Prop}
theorem callee_mkI (G : FnOk P w K mg base (L2.CX P w) k f fd ps (spInX C Φ)) (M : Mk K C f) (hm : mg x = some (.ref C)) (hb : Binds K fd ps []) : CalleeI P w K mg base k x C Φ := ⟨f, fd, ps, M, G, hm, hb⟩
theorem initX_ok (F : FunE K x qual st f fd) (Sc : FnScope N ps (defScope st)) (len : ∀ as r, Φ as r → as.length + 1 = ps.length)
    (body : ∀ (cdv : Value) (A : Around) (outer : List Env) (s0 : Shared) (H0 : Hp) (E : XK) (y : Addr) (as : List S) (r : Ri), Room k (A.deeper (envOfC qual (defScope st) s0.heap.objs.size f cdv)) →
      PassesOwn (model P w) (cxOf (L2.CX P w) P w K mg base N qual (defScope st) f cdv A outer s0 H0 E).A (cxOf (L2.CX P w) P w K mg base N qual (defScope st) f cdv A outer s0 H0 E).env (cxOf (L2.CX P w) P w K mg base N qual (defScope st) f cdv A outer s0 H0 E).xe → Φ as r →
      EvSs (cxOf (L2.CX P w) P w K mg base N qual (defScope st) f cdv A outer s0 H0 E) (.own (oInsG C (fun p => p = y) []) :: (as.map Sl.val ++ List.replicate (N.length - (as.length + 1)) .any)) (defBody st) (dsI C y r)) :
    FnOk P w K mg base (L2.CX P w) (k + 1) f fd ps (spInX C Φ) := by
  refine F.okX Sc (fun vs H Q E ⟨F, x, dx, ws, as, r, ev, _, _, _, hp, hΦ, _⟩ => by rw [ev, List.length_cons, ← Paired.length hp]; exact len as r hΦ) (fun cdv A outer s0 H0 vs Q E hr h => ?_)
  obtain ⟨F, y, dx, ws, as, r, rfl, sF, nF, hy, hp, hΦ, q⟩ := h
  refine ⟨_, PSsw, ?_⟩
  have tk : Tk (cxOf (L2.CX P w) P w K mg base N qual (defScope st) f cdv A outer s0 H0 E) ⟨F, hid y H0⟩ (dsI C y r).ex := by
    refine Takes.imp (takes_of (E := E) rfl rfl rfl rfl) fun cls d σ H z => ?_
    obtain ⟨x', F', ss', hx, hs', hr'⟩ := z
    cases r with
    | ok s => exact (show False from hx).elim
    | ex z =>
      have e : x' = z := hx
      subst e
      exact q cls d F' H hs'.g hr'
  refine wpSs_mono (body cdv A outer s0 H0 E y as r hr (passes_of rfl) hΦ ⟨F, hid y H0⟩ F H0 _ (sat_startI sF nF hy hp) tk) (fun σ' H' ⟨F', ss', hs', z⟩ => ?_) (fun v H' z => ?_) (fun _ _ ⟨_, _, _, z⟩ => ?_) (fun _ _ ⟨_, _, _, z⟩ => ?_)
  · cases r with
    | ok fs =>
      obtain ⟨p, c, _, hc, hr'⟩ := hs'.own z
      have ep : p = y := hr'.1.1
      subst ep
      exact q F' H' c hs'.g hc hr'
    | ex x' => exact (show False from z).elim
  · cases r <;> (rcases RtP.two z (fun _ _ q => q) (fun _ _ q => q) with ⟨_, _, _, _, z⟩ | ⟨_, _, _, _, _, _, _, _, z⟩ <;> exact (show False from z).elim)
  · cases r <;> exact (show False from z).elim
  · cases r <;> exact (show False from z).elim
end
section
variable {X : Cx} {CX : CXT} {ss : List Sl} {e : Expr} {es : List Expr} {as : List S} {x : Str} {p pos : Pos} {j k : Nat} {ex : Xo → List Sl → Prop} {f C : Addr} {fd : FuncData} {ps : List Str} {sp : Sp}
/-- C(..), what its __init__ may let out told at the slots of the caller -/
theorem call_makeS {pins : List (Addr × Obj)} {σ : L2.St} {H : Hp} {s : Shared} {Q : VK} {E : XK} {us : List Value} {vs : List V} (M : Mk X.K C f) (G : FnOk X.prog X.w X.K X.mg X.base CX k f fd ps sp) (hr : Room (k + 1) X.A) (hb : Binds X.K fd ps []) (hx : PassesAt CX X σ E) (I : Inv X pins σ H s) (r : Vals vs us)
    (h : ∀ x dx, H x = none → H dx = none → dx ≠ x → sp (.ref x :: vs) (upd (upd H dx (.own x)) x (.ins C dx [])) (fun v H2 => v = .non ∧ Q (.ref x) H2) E) : wpAny (model X.prog X.w) X.A (call (.ref C) us) (EP X pins σ Q) X.xe s := by
  have I' := Inv.made (C := C) I
  have fr1 : H (s.heap.objs.size + 1) = none := I.hok.fresh (Nat.le_succ _)
  have fr2 : H s.heap.objs.size = none := I.hok.fresh (Nat.le_refl _)
  have q := h _ _ fr1 fr2 (Nat.ne_of_lt (Nat.lt_succ_self _))
  have rr : Vals (V.ref (s.heap.objs.size + 1) :: vs) (Value.ref (s.heap.objs.size + 1) :: us) := .cons rfl r
  have len : (Value.ref (s.heap.objs.size + 1) :: us).length = ps.length := rr.length.symm.trans (G.len _ _ _ _ q)
  have bd := hb _ _ I'.kIn (by rw [List.append_nil]; exact len)
  rw [List.append_nil] at bd
  have run := G.run _ X.stack _ _ ⟨_, []⟩ _ _ _ E (hr.make C us []) (I'.env0.make C us []) bd rr q
  refine wpAny_call (make_map (f := f) I.kIn M.makes M.init (beq_iff_eq.mp M.fn) (codeAny_mono run fun res s' z => ?_))
  match res, z with
  | .error u, z => exact hx pins _ _ u s' I' z
  | .ok (.ret u), z =>
    obtain ⟨v, H', I3, rv, ev, q3⟩ := I'.after z
    subst ev
    exact ⟨rv, .ref _, H', I3, rfl, q3⟩
def tMakeS (C : Addr) (sp : Sp) (E : L2.St → XK) (t : TA) : TE := fun σ H Q => t σ H fun vs H1 => ∀ x dx, H1 x = none → H1 dx = none → dx ≠ x → sp (.ref x :: vs) (upd (upd H1 dx (.own x)) x (.ins C dx [])) (fun v H2 => v = .non ∧ Q (.ref x) H2) (E σ)
theorem pe_makeS {t : TA} {E : L2.St → XK} (M : Mk X.K C f) (G : FnOk X.prog X.w X.K X.mg X.base CX k f fd ps sp) (hr : Room (k + 1) X.A) (hg : Gl X x) (hm : X.mg x = some (.ref C)) (hb : Binds X.K fd ps []) (hx : ∀ σ, PassesAt CX X σ (E σ))
    (ha : PA X (e :: es) t) (hdb : (x == ("__debug__" : Str)) = false) (he : starEach (e :: es) X.env = (false, eval e X.env) :: starEach es X.env) (hpl : (backTo pos (starEach es X.env)).any (·.1) = false) : PE X (.Call (.Name x p) (e :: es) [] pos) (tMakeS C sp E t) := by
  refine ⟨fun pins s σ H Q I z => wpAny_Call_Name_kw (ld_glob I hg hm (PySem.W.callWith_K (h₀ := X.base) I.ok.mod.kin M.kp (thn (ha.run pos pins s σ H _ I z) fun us s1 y => ?_) he hpl) hdb)⟩
  obtain ⟨vs, H1, I1, r, q⟩ := y
  exact ⟨I1.kIn, call_makeS M G hr hb (hx σ) I1 r q⟩
theorem made_same {H : Hp} {x dx : Addr} (nx : H x = none) (nd : H dx = none) : Same H (upd (upd H dx (.own x)) x (.ins C dx [])) ∧ Same H (hid x (upd (upd H dx (.own x)) x (.ins C dx []))) := by
  have sm : Same H (upd (upd H dx (.own x)) x (.ins C dx [])) := fun a o ea => by
    rw [upd_ne (ne_of_none ea nx), upd_ne (ne_of_none ea nd)]
    exact ea
  exact ⟨sm, fun a o ea => by rw [hid_ne (ne_of_none ea nx)]; exact sm a o ea⟩
variable {Φ : List S → Ri → Prop} {fs : List (Str × Sl)} {z : Xo}
theorem ev_makeX (G : CalleeI X.prog X.w X.K X.mg X.base j x C Φ) (hr : Room k X.A) (ha : EvAs X ss (e :: es) as) (hΦ : Φ as (.ok fs)) (hj : j + 1 ≤ k := by decide) (hg : Gl X x := by rfl)
    (hdb : (x == ("__debug__" : Str)) = false := by decide) (he : starEach (e :: es) X.env = (false, eval e X.env) :: starEach es X.env := by exact star_ok rfl) (hpl : (backTo pos (starEach es X.env)).any (·.1) = false := by rfl) :
    EvN X ss (.Call (.Name x p) (e :: es) [] pos) (oInsG C (fun _ => True) fs) := .mk fun B F H σ h Q q => by
  obtain ⟨f, fd, ps, M, G, hm, hb⟩ := G.ex
  refine toE (pe_make M G (hr.mono hj) hg hm hb .nil passL PAw hdb he hpl) ?_
  refine ha.go B F H σ h _ fun vs F1 H1 g1 rs x dx nx nd nex => ?_
  rw [List.append_nil]
  obtain ⟨sm, sh⟩ := made_same (C := C) nx nd
  refine ⟨F1, x, dx, vs, as, .ok fs, rfl, g1.s.trans sm, g1.s.free nx, upd_same, paired_sv rs, hΦ, fun F2 H2 c g2 hc hr => ⟨rfl, ?_⟩⟩
  have g3 : Grow F1 H1 F2 H2 := ⟨g2.f, sh.trans g2.h, g2.s, fun a o e1 e2 => (g2.n a o e1 e2).imp sh.free id⟩
  exact q x F2 H2 c (g1.trans g3) (fun a ob ea => ⟨g1.h.free (sh.free (hc a ob ea).2.1), (hc a ob ea).2.2, (hc a ob ea).1⟩) (insG_any hr)
theorem ev_makeR (G : CalleeI X.prog X.w X.K X.mg X.base j x C Φ) (hr : Room k X.A) (ha : EvAs X ss (e :: es) as) (hΦ : Φ as (.ex z)) (hz : ex z ss) (hj : j + 1 ≤ k := by decide) (hg : Gl X x := by rfl)
    (hdb : (x == ("__debug__" : Str)) = false := by decide) (he : starEach (e :: es) X.env = (false, eval e X.env) :: starEach es X.env := by exact star_ok rfl) (hpl : (backTo pos (starEach es X.env)).any (·.1) = false := by rfl) :
    EvR X ss (.Call (.Name x p) (e :: es) [] pos) ex := .mk fun B F H σ h tk Q => by
  obtain ⟨f, fd, ps, M, G, hm, hb⟩ := G.ex
  refine toE (pe_makeS (E := WE (wX B ex)) M G (hr.mono hj) hg hm hb (fun σ => passAt tk σ) PAw hdb he hpl) ?_
  refine ha.go B F H σ h _ fun vs F1 H1 g1 rs x dx nx nd nex => ?_
  obtain ⟨sm, sh⟩ := made_same (C := C) nx nd
  refine ⟨F1, x, dx, vs, as, .ex z, rfl, g1.s.trans sm, g1.s.free nx, upd_same, paired_sv rs, hΦ, fun cls d F2 H2 g2 r => ?_⟩
  have g3 : Grow F1 H1 F2 H2 := ⟨g2.f, sh.trans g2.h, g2.s, fun a o e1 e2 => (g2.n a o e1 e2).imp sh.free id⟩
  exact ⟨z, F2, ss, hz, (h.grow g1).grow g3, r⟩
theorem s_asgR {D : Ds} (i : Nat) {y : Str} {pos' : Pos} (hN : X.N.Nodup) (he : EvR X ss e D.ex) (hi : X.N[i]? = some y := by rfl) (hx : Loc X.env.scope y := by first | exact Or.inl rfl | exact Or.inr rfl)
    (hs : swapsWith e (some (.Name y pos')) pos.line X.env = pure false := by rfl) (hf : X.fn y = true ∨ X.env.scope.names.lookup y = some .local := by first | exact .inl rfl | exact .inr rfl) : EvS X ss (.Assign [.Name y pos'] e pos) D := .mk fun B F H σ h tk =>
  toS (ps_set (i := i) hN hi hx PEw hs hf) (he.go B F H σ h tk _)
end
/-! ### try .. except -/
section
variable {X : Cx} {ss : List Sl} {D : Ds} {x n : Str} {c : Value} {i : Nat} {body suite : List Stmt} {b₀ : Stmt} {np pos pos' : Pos}
/-- the body of a try, whatever stands around it -/
def tbW (X : Cx) (body : List Stmt) (W : WX) : TS := fun D σ H => ∀ (pn : List (Addr × Obj)) (xe : Value → Shared → Prop), Takes (X.tr pn xe) W → PassesOwn (model X.prog X.w) X.A X.env xe → wpSs (X.tr pn xe) body D σ H
def tsW (X : Cx) (sts : List Stmt) (a : Addr) (cls : Value) (d : Option Addr) : TS := fun D σ H => ∀ (oe : Obj) (pn : List (Addr × Obj)), Zc cls d oe → (∃ vs, oe.data = .fields vs) → wpSs (X.suite a ((a, oe) :: pn)) sts D σ H
/-- what may come out of the body: caught or let out -/
def exTry (X : Cx) (c : Value) (D : Ds) (caught : Xo → List Sl → Prop) : Xo → List Sl → Prop := fun z ss => ∃ b, PySem.W.exmOne X.K z.cls c = some b ∧ (b = true → caught z ss) ∧ (b = false → D.ex z ss)
theorem s_try (hs : X.stack = X.env :: X.outer) (hf : X.env.frame = some X.env.locals) (hc : Names X x c)
    (hb : ∀ (pn : List (Addr × Obj)) (xe : Value → Shared → Prop), PassesOwn (model X.prog X.w) X.A X.env xe → EvSs (X.tr pn xe) ss body { D with ex := exTry X c D fun z ss' => ∀ (a : Addr) (oe : Obj) (d : Option Addr) (pn : List (Addr × Obj)), Zc z.cls d oe → (∃ vs, oe.data = .fields vs) → EvSs (X.suite a ((a, oe) :: pn)) ss' (b₀ :: suite) { D with ex := fun _ _ => False } }) :
    EvS X ss (.Try body [.ExceptHandler (some (.Name x np)) none (b₀ :: suite) pos'] [] [] pos) D := .mk fun B F H σ h tk => by
  refine toS (ps_try_only (tb := tbW X body) (ts := fun a cls d => tsW X (b₀ :: suite) a cls d) hs hf hc tk (fun W pn xe tk' hp => ⟨fun pins s σ H D I q => q pn xe tk' hp pins s I⟩) (fun a oe cls d pn hz hd => ⟨fun pins s σ H D I q => q oe pn hz hd pins s I⟩)) ?_
  intro pn xe tk' hp
  refine hb pn xe hp B F H σ h (Takes.imp tk' fun cls d σ' H' w => ?_)
  obtain ⟨z, F', ss', ⟨b, hb1, h1, h2⟩, hs', hx⟩ := w
  obtain ⟨ecls, hfs⟩ := hx
  refine ⟨b, by rw [ecls]; exact hb1, fun e a na oe pn hz hd => ?_, fun e => ⟨z, F', ss', h2 e, hs', ecls, hfs⟩⟩
  rw [ecls] at hz
  exact h1 e a oe d pn hz hd B F' H' σ' hs' tk0
/-- .. as n: -/
theorem s_tryAs (i : Nat) (hs : X.stack = X.env :: X.outer) (hf : X.env.frame = some X.env.locals) (hN : X.N.Nodup) (hc : Names X x c)
    (hb : ∀ (pn : List (Addr × Obj)) (xe : Value → Shared → Prop), PassesOwn (model X.prog X.w) X.A X.env xe → EvSs (X.tr pn xe) ss body { D with ex := exTry X c D fun z ss' => ∀ (a : Addr) (oe : Obj) (d : Option Addr) (pn : List (Addr × Obj)), Zc z.cls d oe → (z.fs = none → d = none) → (∃ vs, oe.data = .fields vs) → EvSs (X.suite a ((a, oe) :: pn)) (ss'.set i (.val (sC (.ref a)))) (b₀ :: suite) { nx := fun ss2 => D.nx (ss2.set i .any), rt := D.rt, rn := D.rn, rb := D.rb, rbn := D.rbn, bk := fun ss2 => D.bk (ss2.set i .any), ct := fun ss2 => D.ct (ss2.set i .any), ex := fun _ _ => False } })
    (hi : X.N[i]? = some n := by rfl) (hln : X.env.kindOf n = some .local := by rfl) :
    EvS X ss (.Try body [.ExceptHandler (some (.Name x np)) (some n) (b₀ :: suite) pos'] [] [] pos) D := .mk fun B F H σ h tk => by
  refine toS (ps_try_as (i := i) (tb := tbW X body) (ts := fun a cls d => tsW X (b₀ :: suite) a cls d) hs hf hN hi hln hc tk (fun W pn xe tk' hp => ⟨fun pins s σ H D I q => q pn xe tk' hp pins s I⟩) (fun a oe cls d pn hz hd => ⟨fun pins s σ H D I q => q oe pn hz hd pins s I⟩)) ?_
  intro pn xe tk' hp
  refine hb pn xe hp B F H σ h (Takes.imp tk' fun cls d σ' H' w => ?_)
  obtain ⟨z, F', ss', ⟨b, hb1, h1, h2⟩, hs', hx⟩ := w
  obtain ⟨ecls, hfs⟩ := hx
  refine ⟨b, by rw [ecls]; exact hb1, fun e a na oe pn hz hd => ?_, fun e => ⟨z, F', ss', h2 e, hs', ecls, hfs⟩⟩
  rw [ecls] at hz
  refine wpSs_mono (h1 e a oe d pn hz (fun q => ?_) hd B F' H' _ (hs'.set (s := sC (.ref a)) rfl) tk0) (fun σ2 H2 ⟨F2, s2, h2, q⟩ => ⟨F2, _, h2.wipe1, q⟩) (fun v H2 q => q) (fun σ2 H2 ⟨F2, s2, h2, q⟩ => ⟨F2, _, h2.wipe1, q⟩) (fun σ2 H2 ⟨F2, s2, h2, q⟩ => ⟨F2, _, h2.wipe1, q⟩)
  rw [q] at hfs
  exact hfs
/-- isinstance(e, T): e the exception in hand -/
theorem ev_isE {X : Cx} {ss : List Sl} {a b : Expr} {C D ad : Addr} {oe : Obj} {pn : List (Addr × Obj)} {r : Bool} {p pos : Pos} {K : PySem.W.Frag} (T : ExcC K C) (hz : Zc (.ref C) none oe) (hf : ∃ vs, oe.data = .fields vs) (hm : X.mg "isinstance" = none)
    (ha : EvE (X.suite ad ((ad, oe) :: pn)) ss a (sv (sC (.ref ad)))) (hb : EvE (X.suite ad ((ad, oe) :: pn)) ss b (sv (sC (.ref D)))) (hk : IsA K C D r) (hK : X.K = K := by rfl) (hg : Gl (X.suite ad ((ad, oe) :: pn)) "isinstance" := by rfl)
    (he : starEach [a, b] X.env = (false, eval a X.env) :: starEach [b] X.env := by exact star_ok rfl) (he2 : starEach [b] X.env = (false, eval b X.env) :: starEach [] X.env := by exact star_ok rfl) (hpl : (backTo pos (starEach [b] X.env)).any (·.1) = false := by rfl) :
    EvE (X.suite ad ((ad, oe) :: pn)) ss (.Call (.Name "isinstance" p) [a, b] [] pos) (sv (sBool r)) :=
  ev_cb (call_isE (hK ▸ T) hz hf) hm PyProof.Rows.boot_isinstance (ea_cons ha (ea_cons hb ea_nil he2) he) (fun F H vs Q sF rs q => by
    subst hK
    cases rs with
    | cons r1 rr =>
      cases rr with
      | cons r2 rr =>
        cases rr
        have e1 : _ = V.ref ad := r1
        have e2 : _ = V.ref D := r2
        subst e1 e2
        exact ⟨_, .ref D, r, rfl, fun u hu => hu, hk, q _ F H (.refl sF) rfl⟩) hg (he := he) (hpl := hpl)
/-- a class, by its name -/
theorem ev_cls {X : Cx} {ss : List Sl} {x : Str} {C : Addr} {pos : Pos} (hm : X.mg x = some (.ref C)) (hg : Gl X x := by rfl) (hd : (x == ("__debug__" : Str)) = false := by decide) : EvE X ss (.Name x pos) (sv (sC (.ref C))) := ev_glob (v := .ref C) hg hm rfl rfl hd
theorem exm_own {K : PySem.W.Frag} {mg : Str → Option Value} {x : Str} {C : Addr} (T : ExcK K mg x C) {cls : Value} {b : Bool} (h : PySem.W.subIn K cls (.ref C) = some b) : PySem.W.exmOne K cls (.ref C) = some b := PySem.W.exm_ref T.b T.i.hd T.t h
end
end Sx
namespace Sx
open PySem PySem.Spec PyProof.Rows L2
section
variable {X : Cx} {ss : List Sl} {e a b : Expr} {es : List Expr} {pos p p1 p2 : Pos} {i j n : Int} {κ : R}
theorem two_ints {F H : Hp} {vs : List V} (h : Paired (fun (r : R) v => r.r F H v) [sv (sInt i), sv (sInt j)] vs) : vs = [.int i, .int j] := by
  cases h with
  | cons r1 t =>
    cases t with
    | cons r2 t =>
      cases t
      have e1 : _ = V.int i := r1
      have e2 : _ = V.int j := r2
      rw [e1, e2]
theorem ev_max2 (hc : X.calm = true) (hm : X.mg "max" = none) (ha : EvE X ss a (sv (sInt i))) (hb : EvE X ss b (sv (sInt j))) (hg : Gl X "max" := by rfl) (he : starEach [a, b] X.env = (false, eval a X.env) :: starEach [b] X.env := by exact star_ok rfl) (he2 : starEach [b] X.env = (false, eval b X.env) :: starEach [] X.env := by exact star_ok rfl) (hpl : (backTo pos (starEach [b] X.env)).any (·.1) = false := by rfl) :
    EvE X ss (.Call (.Name "max" p) [a, b] [] pos) (sv (sInt (max i j))) :=
  ev_cb (call_max2 hc) hm (by decide +kernel) (ea_cons ha (ea_cons hb ea_nil he2) he) (fun F H vs Q sF rs q => ⟨i, j, two_ints rs, q _ F H (.refl sF) (by
    show V.int _ = V.int _
    congr 1
    by_cases h : j > i
    · rw [if_pos h]; omega
    · rw [if_neg h]; omega)⟩) hg (he := he) (hpl := hpl)
theorem ev_min2 (hc : X.calm = true) (hm : X.mg "min" = none) (ha : EvE X ss a (sv (sInt i))) (hb : EvE X ss b (sv (sInt j))) (hg : Gl X "min" := by rfl) (he : starEach [a, b] X.env = (false, eval a X.env) :: starEach [b] X.env := by exact star_ok rfl) (he2 : starEach [b] X.env = (false, eval b X.env) :: starEach [] X.env := by exact star_ok rfl) (hpl : (backTo pos (starEach [b] X.env)).any (·.1) = false := by rfl) :
    EvE X ss (.Call (.Name "min" p) [a, b] [] pos) (sv (sInt (min i j))) :=
  ev_cb (call_min2 hc) hm (by decide +kernel) (ea_cons ha (ea_cons hb ea_nil he2) he) (fun F H vs Q sF rs q => ⟨i, j, two_ints rs, q _ F H (.refl sF) (by
    show V.int _ = V.int _
    congr 1
    by_cases h : j < i
    · rw [if_pos h]; omega
    · rw [if_neg h]; omega)⟩) hg (he := he) (hpl := hpl)
theorem its_rg {F : Hp} (n : Int) : Its sNat F (List.range n.toNat) (rgV 0 n) := by
  unfold rgV
  rw [show (n - 0).toNat = n.toNat by rw [Int.sub_zero]]
  have go : ∀ l : List Nat, Its sNat F l (l.map fun i => V.int (0 + (i : Nat))) := fun l => by
    induction l with
    | nil => exact Its.nil
    | cons x l ih => exact Its.cons (show V.int (0 + (x : Int)) = V.int (x : Int) by rw [Int.zero_add]) ih
  exact go _
/-- list(range(n)) -/
theorem ev_listRg (hc : X.calm = true) (hl : X.mg "list" = none) (hr : X.mg "range" = none) (ha : EvE X ss a (sv (sInt n))) (h0 : -(2 ^ 62) ≤ n) (h1 : n ≤ 16777216) (hg : Gl X "list" := by rfl) (hg2 : Gl X "range" := by rfl)
    (na : starEach [a] X.env = (false, eval a X.env) :: starEach [] X.env := by exact star_ok rfl) (nb : starEach [Expr.Call (.Name "range" p2) [a] [] p] X.env = (false, eval (.Call (.Name "range" p2) [a] [] p) X.env) :: starEach [] X.env := by exact star_ok rfl) :
    EvN X ss (.Call (.Name "list" p1) [.Call (.Name "range" p2) [a] [] p] [] pos) (oLst sNat (List.range n.toNat)) := .mk fun B F H σ h Q q =>
  toE (pe_listRg hc hg hl (prg_1 hg2 hr PEw na) nb) (ha B F H σ h _ fun v F1 H1 g r => ⟨n, r, ⟨by decide, by decide, h0, by omega, by omega⟩, fun p np => fresh1 q g np ⟨_, hp1_same, its_rg n⟩⟩)
end
end Sx
namespace Sx
open PySem PySem.Spec PyProof.Rows L2
/-! ### dicts whose keys are tuples of any depth -/
class KeyN {κ : Type} (U : κ → S) where
  enc : κ → NestedKey
  dep : Nat
  depth : ∀ k, (enc k).depth ≤ dep
  is : ∀ {X : Cx} {pins : List (Addr × Obj)} {σ : L2.St} {F H : Hp} {s : Shared} {k : κ} {v : V} {u : Value}, L2.Inv X pins σ H s → Same F H → (U k).r F v → RelV v u → NestedIs s.heap (enc k) u
  inj : ∀ a b, enc a = enc b → a = b
class KeyR {κ : Type} (U : κ → S) : Prop where
  ref : ∀ {F : Hp} {v : V} {k : κ}, (U k).r F v → ∃ p, v = .ref p
instance : KeyN sInt where
  enc := .num
  dep := 0
  depth := fun k => Nat.le_of_eq (by simp [NestedKey.depth])
  is := fun {X pins σ F H s k v u} I sF r ru => by
    have e : v = .int k := r
    subst e
    obtain ⟨t, rfl⟩ := ru
    exact .int k t
  inj := fun a b e => by injection e
instance : KeyN sNat where
  enc := fun n => .num (n : Int)
  dep := 0
  depth := fun k => Nat.le_of_eq (by simp [NestedKey.depth])
  is := fun {X pins σ F H s k v u} I sF r ru => KeyN.is (U := sInt) I sF r ru
  inj := fun a b e => by
    injection e with e
    omega
instance : KeyN sStr where
  enc := .text
  dep := 0
  depth := fun k => Nat.le_of_eq (by simp [NestedKey.depth])
  is := fun {X pins σ F H s k v u} I sF r ru => by
    obtain ⟨e, _⟩ := r
    subst e
    obtain ⟨t, rfl⟩ := ru
    exact .text k t
  inj := fun a b e => by injection e
instance : KeyN sBool where
  enc := fun b => .num (if b = true then 1 else 0)
  dep := 0
  depth := fun k => Nat.le_of_eq (by simp [NestedKey.depth])
  is := fun {X pins σ F H s k v u} I sF r ru => by
    have e : v = .bl k := r
    subst e
    have e2 : u = .bool k := ru
    subst e2
    exact .bool rfl
  inj := fun a b e => by
    injection e with e
    cases a <;> cases b <;> first | rfl | (exact absurd e (by decide))
section
variable {κ κ' : Type} {U : κ → S} {U' : κ' → S}
theorem keys_all [KeyN U] {X : Cx} {pins : List (Addr × Obj)} {σ : L2.St} {F H : Hp} {s : Shared} (I : L2.Inv X pins σ H s) (sF : Same F H) : ∀ {ks : List κ} {vs : List V} {us : List Value}, Its U F ks vs → Vals vs us → NestedAll s.heap (ks.map (KeyN.enc U)) us
  | [], vs, us, h, r => by
    have e : vs = [] := List.eq_nil_of_length_eq_zero h.len
    subst e
    cases r
    exact .nil
  | k :: ks, vs, us, h, r => by
    have h' : Paired (fun x v => (U x).r F v) (k :: ks) vs := h
    cases h' with
    | cons q t =>
      cases r with
      | cons q2 t2 => exact .cons (KeyN.is I sF q q2) (keys_all I sF (show Its U F _ _ from t) t2)
theorem depthAll_le {n : Nat} : ∀ {l : List NestedKey}, (∀ k ∈ l, k.depth ≤ n) → NestedKey.depthAll l ≤ n
  | [], _ => by simp [NestedKey.depthAll]
  | k :: l, h => by
    rw [NestedKey.depthAll]
    exact Nat.max_le.mpr ⟨h k List.mem_cons_self, depthAll_le fun j hj => h j (List.mem_cons_of_mem _ hj)⟩
theorem map_inj_of {f : κ → NestedKey} (h : ∀ a b, f a = f b → a = b) : ∀ {a b : List κ}, a.map f = b.map f → a = b
  | [], [], _ => rfl
  | [], _ :: _, e => by cases e
  | _ :: _, [], e => by cases e
  | x :: a, y :: b, e => by
    rw [List.map_cons, List.map_cons] at e
    injection e with e1 e2
    rw [h _ _ e1, map_inj_of h e2]
instance [KeyN U] : KeyN (fun ks => sO (oTup U ks)) where
  enc := fun ks => .tup (ks.map (KeyN.enc U))
  dep := KeyN.dep U + 1
  depth := fun ks => by
    rw [NestedKey.depth]
    refine Nat.succ_le_succ (depthAll_le fun k hk => ?_)
    obtain ⟨x, _, rfl⟩ := List.mem_map.mp hk
    exact KeyN.depth x
  is := fun {X pins σ F H s k v u} I sF r ru => by
    obtain ⟨p, c, e, hk, vs, hp, hi⟩ := r
    subst e
    have e2 : u = .ref p := ru
    subst e2
    obtain ⟨its, rv, ⟨o, ho, hc, n, hd⟩, _⟩ := I.tuple (SqT.of (sF _ _ (hk _ _ hp)))
    exact .tup ho hc hd (by simpa using keys_all I sF hi rv)
  inj := fun a b e => by
    injection e with e
    exact map_inj_of KeyN.inj e
instance : KeyR (fun ks => sO (oTup U ks)) := ⟨fun ⟨p, _, e, _⟩ => ⟨p, e⟩⟩
instance [KeyN U] : KeyN (sTup U) := inferInstanceAs (KeyN (fun ks => sO (oTup U ks)))
instance : KeyR (sTup U) := inferInstanceAs (KeyR (fun ks => sO (oTup U ks)))
instance [KeyN U] [KeyN U'] : KeyN (sPair U U') where
  enc := fun p => .tup [KeyN.enc U p.1, KeyN.enc U' p.2]
  dep := max (KeyN.dep U) (KeyN.dep U') + 1
  depth := fun p => by
    have h1 := KeyN.depth (U := U) p.1
    have h2 := KeyN.depth (U := U') p.2
    rw [NestedKey.depth, NestedKey.depthAll, NestedKey.depthAll, NestedKey.depthAll]
    omega
  is := fun {X pins σ F H s k v u} I sF r ru => by
    obtain ⟨p, c, e, hk, vs, hp, hi⟩ := r
    subst e
    have e2 : u = .ref p := ru
    subst e2
    obtain ⟨a, b, rfl, ra, rb⟩ := its2 hi
    obtain ⟨its, rv, ⟨o, ho, hc, n, hd⟩, _⟩ := I.tuple (SqT.of (sF _ _ (hk _ _ hp)))
    cases rv with
    | cons q1 t1 =>
      cases t1 with
      | cons q2 t2 =>
        cases t2
        exact .tup ho hc hd (.cons (KeyN.is I sF ra q1) (.cons (KeyN.is I sF rb q2) .nil))
  inj := fun a b e => by
    injection e with e
    injection e with e1 e2
    injection e2 with e2 _
    exact Prod.ext (KeyN.inj _ _ e1) (KeyN.inj _ _ e2)
instance : KeyR (sPair U U') := ⟨fun ⟨p, _, e, _⟩ => ⟨p, e⟩⟩
end
abbrev Went := NestedKey × Addr × V
abbrev Xent := NestedKey × Addr × Value
def WX2 (ws : List Went) (xs : List Xent) : Prop := Paired (fun (p : Went) (q : Xent) => p.1 = q.1 ∧ p.2.1 = q.2.1 ∧ RelV p.2.2 q.2.2) ws xs
/-- what the object at d says: a dict with the entries ws -/
def EntN (w : World) (ws : List Went) (h : Heap) (d : Addr) : Prop := (d == sysModules) = false ∧ ws.length ≤ sizeLine ∧ (ws.map (·.1)).Nodup ∧ ∃ xs : List Xent, WX2 ws xs ∧
  ∃ o es ep, h.get? d = some o ∧ o.ExactDict ∧ o.data = .dict es ep ∧ es.toList = xs.map fun x => (⟨x.1.hash w, .ref x.2.1, x.2.2⟩ : DictEntry)
def dNo (w : World) (d : Addr) (ws : List Went) : HO := .ext fun h => EntN w ws h d
theorem EntN.stay {w : World} {ws : List Went} {d : Addr} {h1 h2 : Heap} (x : EntN w ws h1 d) (k : ∀ o, h1.get? d = some o → h2.get? d = some o) : EntN w ws h2 d := by
  obtain ⟨a, b, c, xs, r, o, es, ep, ho, q⟩ := x
  exact ⟨a, b, c, xs, r, o, es, ep, k o ho, q⟩
theorem dNo_ok {P : Program} {w : World} {H : Hp} {h : Heap} {d : Addr} {ws : List Went} (x : EntN w ws h d) : ObjOk P w H h d (dNo w d ws) := by
  refine ⟨x, ?_, fun h1 h2 z k => EntN.stay z k⟩
  obtain ⟨_, _, _, _, _, o, _, _, ho, _⟩ := x
  exact ⟨o, ho⟩
theorem dNo_at {P : Program} {w : World} {H : Hp} {h : Heap} {d : Addr} {ws : List Went} (ok : HOk P w H h) (e : H d = some (dNo w d ws)) : EntN w ws h d := (ok d _ e).1
theorem dNo_rd {P : Program} {w : World} {H : Hp} {h : Heap} {d : Addr} {ws : List Went} (ok : HOk P w H h) (e : Rd H d (dNo w d ws)) : EntN w ws h d := (e.ok ok).1
def atW (ws : List Went) (k : NestedKey) : Option (Addr × V) := (ws.find? fun x => decide (x.1 = k)).map (·.2)
def putW (k : NestedKey) (v : V) (x : Went) : Went := if x.1 = k then (x.1, x.2.1, v) else x
def storedW (ws : List Went) (k : NestedKey) (a : Addr) (v : V) : List Went := if (atW ws k).isSome then ws.map (putW k v) else ws ++ [(k, a, v)]
theorem atW_cons_pos {x : Went} {ws : List Went} {k : NestedKey} (h : x.1 = k) : atW (x :: ws) k = some x.2 := by simp [atW, List.find?_cons, h]
theorem atW_cons_neg {x : Went} {ws : List Went} {k : NestedKey} (h : ¬ x.1 = k) : atW (x :: ws) k = atW ws k := by simp [atW, List.find?_cons, h]
theorem atKey_pos {x : Xent} {xs : List Xent} {k : NestedKey} (h : x.1 = k) : atKey (x :: xs) k = some x.2 := by simp [atKey, List.find?_cons, h]
theorem atKey_neg {x : Xent} {xs : List Xent} {k : NestedKey} (h : ¬ x.1 = k) : atKey (x :: xs) k = atKey xs k := by simp [atKey, List.find?_cons, h]
theorem WX2.at {k : NestedKey} : ∀ {ws : List Went} {xs : List Xent}, WX2 ws xs → (match atW ws k with
    | some (b, v) => ∃ u, atKey xs k = some (b, u) ∧ RelV v u
    | none => atKey xs k = none)
  | _, _, .nil => rfl
  | _, _, .cons (a := x) (b := y) (l₁ := ws) (l₂ := xs) r t => by
    have ih := WX2.at (k := k) (show WX2 ws xs from t)
    by_cases e : x.1 = k
    · rw [atW_cons_pos e, atKey_pos (r.1.symm.trans e)]
      exact ⟨y.2.2, by rw [r.2.1], r.2.2⟩
    · rw [atW_cons_neg e, atKey_neg (fun z => e (r.1.trans z))]
      exact ih
theorem WX2.isSome {k : NestedKey} {ws : List Went} {xs : List Xent} (h : WX2 ws xs) : (atKey xs k).isSome = (atW ws k).isSome := by
  have := h.at (k := k)
  cases e : atW ws k with
  | none => rw [e] at this; rw [this]; rfl
  | some p => rw [e] at this; obtain ⟨u, hu, _⟩ := this; rw [hu]; rfl
theorem WX2.put {k : NestedKey} {b : Addr} {v : V} {u : Value} (r : RelV v u) {ws : List Went} {xs : List Xent} (h : WX2 ws xs) : WX2 (storedW ws k b v) (storedH xs k b u) := by
  unfold storedW storedH
  rw [h.isSome]
  by_cases e : (atW ws k).isSome = true
  · rw [if_pos e, if_pos e]
    clear e
    have h' : Paired (fun (p : Went) (q : Xent) => p.1 = q.1 ∧ p.2.1 = q.2.1 ∧ RelV p.2.2 q.2.2) ws xs := h
    show Paired _ _ _
    clear h
    induction h' with
    | nil => exact .nil
    | @cons x y ws xs q t ih =>
      rw [List.map_cons, List.map_cons]
      refine .cons ?_ ih
      unfold putW putAt
      by_cases z : x.1 = k
      · rw [if_pos z, if_pos (q.1.symm.trans z)]
        exact ⟨q.1, q.2.1, r⟩
      · rw [if_neg z, if_neg (fun y => z (q.1.trans y))]
        exact q
  · rw [if_neg e, if_neg e]
    exact pr_app h (.cons ⟨rfl, rfl, r⟩ .nil)
section
variable {κ α : Type} [DecidableEq κ] {U : κ → S} [KeyN U] {T : α → S}
def KnR (U : κ → S) [KeyN U] (T : α → S) (F : Hp) (kvs : List (κ × α)) (ws : List Went) : Prop := Paired (fun (a : κ × α) (b : Went) => b.1 = KeyN.enc U a.1 ∧ (U a.1).r F (.ref b.2.1) ∧ (T a.2).r F b.2.2) kvs ws
theorem KnR.mono {F F' : Hp} {kvs : List (κ × α)} {ws : List Went} (e : Same F F') (h : KnR U T F kvs ws) : KnR U T F' kvs ws := Paired.mapP h fun _ _ q => ⟨q.1, (U _).mono e q.2.1, (T _).mono e q.2.2⟩
theorem KnR.len {F : Hp} {kvs : List (κ × α)} {ws : List Went} (h : KnR U T F kvs ws) : ws.length = kvs.length := (Paired.length h).symm
theorem KnR.at {F : Hp} {k : κ} : ∀ {kvs : List (κ × α)} {ws : List Went}, KnR U T F kvs ws → (match gK kvs k with
    | some x => ∃ b v, atW ws (KeyN.enc U k) = some (b, v) ∧ (T x).r F v
    | none => atW ws (KeyN.enc U k) = none)
  | _, _, .nil => rfl
  | _, _, .cons (a := a) (b := b) (l₁ := kvs) (l₂ := ws) r t => by
    have ih := KnR.at (k := k) (show KnR U T F kvs ws from t)
    by_cases e : a.1 = k
    · have e1 : gK (a :: kvs) k = some a.2 := by simp [gK, List.find?_cons, e]
      rw [e1]
      exact ⟨b.2.1, b.2.2, atW_cons_pos (by rw [r.1, e]), r.2.2⟩
    · have e1 : gK (a :: kvs) k = gK kvs k := by simp [gK, List.find?_cons, e]
      rw [e1, atW_cons_neg (fun z => e (KeyN.inj _ _ (r.1.symm.trans z)))]
      exact ih
theorem KnR.isSome {F : Hp} {k : κ} {kvs : List (κ × α)} {ws : List Went} (h : KnR U T F kvs ws) : (atW ws (KeyN.enc U k)).isSome = inB k (kvs.map (·.1)) := by
  have e := gK_isSome (kvs := kvs) (k := k)
  have := h.at (k := k)
  unfold inB
  rw [← e]
  cases z : gK kvs k with
  | none => rw [z] at this; rw [this]; rfl
  | some x => rw [z] at this; obtain ⟨b, v, hv, _⟩ := this; rw [hv]; rfl
theorem KnR.put {F : Hp} {k : κ} {x : α} {b : Addr} {v : V} (rk : (U k).r F (.ref b)) (r : (T x).r F v) {kvs : List (κ × α)} {ws : List Went} (h : KnR U T F kvs ws) : KnR U T F (pK kvs k x) (storedW ws (KeyN.enc U k) b v) := by
  unfold pK storedW
  have e0 : (kvs.any fun kv => decide (kv.1 = k)) = (atW ws (KeyN.enc U k)).isSome := by
    rw [h.isSome]
    unfold inB
    by_cases z : k ∈ kvs.map (·.1)
    · rw [decide_eq_true z]
      obtain ⟨kv, h1, h2⟩ := List.mem_map.mp z
      exact List.any_eq_true.mpr ⟨kv, h1, decide_eq_true h2⟩
    · rw [decide_eq_false z, List.any_eq_false]
      intro kv hkv q
      exact z (List.mem_map.mpr ⟨kv, hkv, of_decide_eq_true q⟩)
  rw [e0]
  by_cases e : (atW ws (KeyN.enc U k)).isSome = true
  · rw [if_pos e, if_pos e]
    clear e e0
    have h' : Paired (fun (a : κ × α) (b : Went) => b.1 = KeyN.enc U a.1 ∧ (U a.1).r F (.ref b.2.1) ∧ (T a.2).r F b.2.2) kvs ws := h
    show Paired _ _ _
    clear h
    induction h' with
    | nil => exact .nil
    | @cons a c as bs q t ih =>
      rw [List.map_cons, List.map_cons]
      refine .cons ?_ ih
      unfold putW
      by_cases e : a.1 = k
      · rw [if_pos e, if_pos (show c.1 = KeyN.enc U k by rw [q.1, e])]
        exact ⟨q.1, q.2.1, r⟩
      · rw [if_neg e, if_neg (fun z => e (KeyN.inj _ _ (q.1.symm.trans z)))]
        exact q
  · rw [if_neg e, if_neg e]
    exact pr_app h (.cons ⟨rfl, rk, r⟩ .nil)
def oDN (w : World) (U : κ → S) [KeyN U] (T : α → S) (kvs : List (κ × α)) : O := ⟨fun F h p => ∃ ws, h p = some (dNo w p ws) ∧ KnR U T F kvs ws, fun e ⟨ws, q, h⟩ => ⟨ws, q, h.mono e⟩⟩
/-- such a dict, locked -/
def oDF (w : World) (U : κ → S) [KeyN U] (T : α → S) (kvs : List (κ × α)) : O := ⟨fun F h p => ∃ od ws, h p = some (.frz od (dNo w p ws)) ∧ KnR U T F kvs ws, fun e ⟨od, ws, q, h⟩ => ⟨od, ws, q, h.mono e⟩⟩
/-- what may be read as such a dict -/
class AsDN {κ α : outParam Type} (w : outParam World) (ρ : R) (U : outParam (κ → S)) [hN : outParam (KeyN U)] (T : outParam (α → S)) (kvs : outParam (List (κ × α))) : Prop where
  w : ∀ F H v, Same F H → ρ.r F H v → ∃ d ws, v = .ref d ∧ Rd H d (dNo w d ws) ∧ KnR U T F kvs ws
instance {w : World} {kvs : List (κ × α)} : AsDN w (bO (oDN w U T kvs)) U T kvs := ⟨fun F H v _ ⟨d, c, e, hk, ws, hd, hw⟩ => ⟨d, ws, e, .inl (hk _ _ hd), hw⟩⟩
instance {w : World} {kvs : List (κ × α)} : AsDN w (sv (sO (oDN w U T kvs))) U T kvs := ⟨fun F H v s ⟨d, c, e, hk, ws, hd, hw⟩ => ⟨d, ws, e, .inl (s _ _ (hk _ _ hd)), hw⟩⟩
instance {w : World} {kvs : List (κ × α)} : AsDN w (bO (oDF w U T kvs)) U T kvs := ⟨fun F H v _ ⟨d, c, e, hk, od, ws, hd, hw⟩ => ⟨d, ws, e, .inr ⟨od, hk _ _ hd⟩, hw⟩⟩
instance {w : World} {kvs : List (κ × α)} : AsDN w (sv (sO (oDF w U T kvs))) U T kvs := ⟨fun F H v s ⟨d, c, e, hk, od, ws, hd, hw⟩ => ⟨d, ws, e, .inr ⟨od, s _ _ (hk _ _ hd)⟩, hw⟩⟩
theorem knr_keys {X : Cx} {pins : List (Addr × Obj)} {σ : L2.St} {F H : Hp} {s : Shared} (I : L2.Inv X pins σ H s) (sF : Same F H) (hd : KeyN.dep U ≤ 8) : ∀ {kvs : List (κ × α)} {ws : List Went} {xs : List Xent}, KnR U T F kvs ws → WX2 ws xs → ∀ x ∈ xs, (nestedKind X.prog X.w).is s.heap x.1 x.2.1
  | _, _, _, .nil, r => by
    cases r
    exact fun x hx => nomatch hx
  | _, _, _, .cons (a := a) (b := b) (l₁ := kvs) (l₂ := ws) q t, r => by
    cases r with
    | @cons _ y _ ys q2 t2 =>
      intro x hx
      rcases List.mem_cons.mp hx with e | e
      · subst e
        refine ⟨?_, ?_⟩
        · rw [← q2.1, q.1, ← q2.2.1]
          exact KeyN.is I sF q.2.1 rfl
        · rw [← q2.1, q.1]
          exact Nat.le_trans (KeyN.depth _) hd
      · exact knr_keys I sF hd (show KnR U T F kvs ws from t) (show WX2 ws ys from t2) x e
theorem WX2.nodup {ws : List Went} {xs : List Xent} (h : WX2 ws xs) : xs.map (·.1) = ws.map (·.1) := by
  have h' : Paired (fun (p : Went) (q : Xent) => p.1 = q.1 ∧ p.2.1 = q.2.1 ∧ RelV p.2.2 q.2.2) ws xs := h
  clear h
  induction h' with
  | nil => rfl
  | cons q t ih => rw [List.map_cons, List.map_cons, ih, q.1]
/-- the library's reading of such a dict -/
theorem dn_lib {X : Cx} {pins : List (Addr × Obj)} {σ : L2.St} {F H : Hp} {s : Shared} {d : Addr} {kvs : List (κ × α)} {ws : List Went} (I : L2.Inv X pins σ H s) (sF : Same F H) (hdp : KeyN.dep U ≤ 8) (e : Rd H d (dNo X.w d ws)) (hk : KnR U T F kvs ws) :
    (d == sysModules) = false ∧ ws.length ≤ sizeLine ∧ ∃ xs, WX2 ws xs ∧ s.heap.DictOfH (nestedKind X.prog X.w) d xs := by
  obtain ⟨h1, h2, h3, xs, r, o, es, ep, ho, hc, hd, he⟩ := dNo_rd I.hok e
  exact ⟨h1, h2, xs, r, o, es, ep, ho, hc, hd, he, knr_keys I sF hdp hk r, by rw [r.nodup]; exact h3⟩
end
end Sx
namespace Sx
open PySem PySem.Spec PyProof.Rows L2
section
variable {X : Cx} {ss : List Sl} {e a b c : Expr} {es : List Expr} {pos pos' p p2 : Pos} {k : Nat} {κ α : Type} [DecidableEq κ] {U : κ → S} [hN : KeyN U] [hR : KeyR U] {T : α → S} {kvs : List (κ × α)} {key : κ} {x : α} {D : Ds}
theorem nroom {j : Nat} {A : Around} {prog : Program} {w : World} (hr : Room j A) : (nestedKind prog w).room A.in1 := by
  have := hr.units
  show A.units + 1 + 8 < cLine
  omega
/-- what a look into such a dict asks -/
def LookN (w : World) (U : κ → S) [KeyN U] (T : α → S) (kvs : List (κ × α)) (key : κ) (H : Hp) (x y : V) : Prop := ∃ (F : Hp) (d : Addr) (ws : List Went), Same F H ∧ (U key).r F x ∧ y = .ref d ∧ Rd H d (dNo w d ws) ∧ KnR U T F kvs ws
theorem op_inN (hr : Room k X.A) (hdp : KeyN.dep U ≤ 8) : OpR X (compareOp .In) (fun x y H Q => LookN X.w U T kvs key H x y ∧ Q (.bl (inB key (kvs.map (·.1)))) H) := by
  intro pins s σ H x y v u Q I rx ry h
  obtain ⟨⟨F, d, ws, sF, rk, ey, hd, hk⟩, q⟩ := h
  obtain ⟨p, ex⟩ := hR.ref rk
  subst ex ey
  cases (show v = Value.ref p from rx)
  cases (show u = Value.ref d from ry)
  obtain ⟨n1, n2, xs, r, hm⟩ := dn_lib I sF hdp hd hk
  refine wpAny_in_heap (knd := nestedKind X.prog X.w) (nroom hr) ⟨hN.is I sF rk rfl, Nat.le_trans (hN.depth _) hdp⟩ n1 hm ⟨.bl _, H, I.kept (h' := s.heap) (t' := _) (fun _ _ z => z), rfl, ?_⟩
  rw [r.isSome, hk.isSome]
  exact q
theorem op_ninN (hr : Room k X.A) (hdp : KeyN.dep U ≤ 8) : OpR X (compareOp .NotIn) (fun x y H Q => LookN X.w U T kvs key H x y ∧ Q (.bl (!inB key (kvs.map (·.1)))) H) := by
  intro pins s σ H x y v u Q I rx ry h
  obtain ⟨⟨F, d, ws, sF, rk, ey, hd, hk⟩, q⟩ := h
  obtain ⟨p, ex⟩ := hR.ref rk
  subst ex ey
  cases (show v = Value.ref p from rx)
  cases (show u = Value.ref d from ry)
  obtain ⟨n1, n2, xs, r, hm⟩ := dn_lib I sF hdp hd hk
  refine wpAny_notIn_heap (knd := nestedKind X.prog X.w) (nroom hr) ⟨hN.is I sF rk rfl, Nat.le_trans (hN.depth _) hdp⟩ n1 hm ⟨.bl _, H, I.kept (h' := s.heap) (t' := _) (fun _ _ z => z), rfl, ?_⟩
  rw [r.isSome, hk.isSome]
  exact q
theorem look_of {F1 H1 F2 H2 : Hp} {v y : V} (g : Grow F1 H1 F2 H2) (r1 : (U key).r F1 v) {ρ : R} [hq : AsDN X.w ρ U T kvs] (r2 : ρ.r F2 H2 y) : LookN X.w U T kvs key H2 v y := by
  obtain ⟨d, ws, e, hd, hw⟩ := hq.w F2 H2 y g.s r2
  exact ⟨F2, d, ws, g.s, (U key).mono g.f r1, e, hd, hw⟩
theorem ev_inN {ρ : R} [hq : AsDN X.w ρ U T kvs] (hr : Room k X.A) (ha : EvE X ss a (sv (U key))) (hb : EvE X ss b ρ) (hdp : KeyN.dep U ≤ 8 := by decide) (hm : behindInMarks .In b = false := by rfl) : EvE X ss (.Compare a [.In] [b] pos) (sv (sBool (inB key (kvs.map (·.1))))) := .mk fun B F H σ h Q q =>
  toE (pe_cmpR (op_inN (T := T) (U := U) (kvs := kvs) (key := key) hr hdp) PEw PEw hm) (ha B F H σ h _ fun v F1 H1 g1 r1 => hb B F1 H1 σ (h.grow g1) _ fun y F2 H2 g2 r2 => ⟨look_of (hq := hq) g2 r1 r2, q _ F2 H2 (g1.trans g2) rfl⟩)
theorem et_inN {ρ : R} [hq : AsDN X.w ρ U T kvs] (hr : Room k X.A) (ha : EvE X ss a (sv (U key))) (hb : EvE X ss b ρ) (hdp : KeyN.dep U ≤ 8 := by decide) (hm : behindInMarks .In b = false := by rfl) : EvT X ss (.Compare a [.In] [b] pos) (inB key (kvs.map (·.1))) := .mk fun B F H σ h Q q =>
  toT (pt_cmpR (op_inN (T := T) (U := U) (kvs := kvs) (key := key) hr hdp) PEw PEw hm) (ha B F H σ h _ fun v F1 H1 g1 r1 => hb B F1 H1 σ (h.grow g1) _ fun y F2 H2 g2 r2 => ⟨look_of (hq := hq) g2 r1 r2, _, rfl, q F2 H2 (g1.trans g2)⟩)
theorem et_ninN {ρ : R} [hq : AsDN X.w ρ U T kvs] (hr : Room k X.A) (ha : EvE X ss a (sv (U key))) (hb : EvE X ss b ρ) (hdp : KeyN.dep U ≤ 8 := by decide) (hm : behindInMarks .NotIn b = false := by rfl) : EvT X ss (.Compare a [.NotIn] [b] pos) (!inB key (kvs.map (·.1))) := .mk fun B F H σ h Q q =>
  toT (pt_cmpR (op_ninN (T := T) (U := U) (kvs := kvs) (key := key) hr hdp) PEw PEw hm) (ha B F H σ h _ fun v F1 H1 g1 r1 => hb B F1 H1 σ (h.grow g1) _ fun y F2 H2 g2 r2 => ⟨look_of (hq := hq) g2 r1 r2, _, rfl, q F2 H2 (g1.trans g2)⟩)
/-- d[k] -/
def tGetN (w : World) (U : κ → S) [KeyN U] (T : α → S) (kvs : List (κ × α)) (key : κ) (td ti : TE) : TE := fun σ H Q => td σ H fun y H1 => ti σ H1 fun x H2 => ∃ (F : Hp) (d : Addr) (ws : List Went), Same F H2 ∧ (U key).r F x ∧ y = .ref d ∧ Rd H2 d (dNo w d ws) ∧ KnR U T F kvs ws ∧ ∃ z, gK kvs key = some z ∧ ∀ v, (T z).r F v → Q v H2
theorem pe_getN {td ti : TE} (hr : Room k X.A) (hdp : KeyN.dep U ≤ 8) (ho : PE X b td) (hi : PE X a ti) (hs : NoSl a) : PE X (.Subscript b a pos) (tGetN X.w U T kvs key td ti) := by
  refine ⟨fun pins s σ H Q I h => ?_⟩
  refine subD_of PySem.F.slot_dict_getitem.lookup hs (thn (ho.run pins s σ H _ I h) fun u s1 ⟨y, H1, I1, ry, q1⟩ => thn (hi.run pins s1 σ H1 _ I1 q1) fun iv s2 ⟨x, H2, I2, rx, F, d, ws, sF, rk, ey, hd, hk, z, hz, q⟩ => ?_)
  obtain ⟨p, ex⟩ := hR.ref rk
  subst ex ey
  cases (show iv = Value.ref p from rx)
  cases (show u = Value.ref d from ry)
  obtain ⟨n1, n2, xs, r, hm⟩ := dn_lib I2 sF hdp hd hk
  have h1 := hk.at (k := key)
  rw [hz] at h1
  obtain ⟨b', v, hv, rv⟩ := h1
  have h2 := r.at (k := KeyN.enc U key)
  rw [hv] at h2
  obtain ⟨w', hw, rw'⟩ := h2
  exact ⟨hm.typeIs, wpAny_getItem_heap (knd := nestedKind X.prog X.w) (nroom hr) ⟨hN.is I2 sF rk rfl, Nat.le_trans (hN.depth _) hdp⟩ hm hw ⟨v, H2, I2.kept (h' := s2.heap) (t' := _) (fun _ _ z => z), rw', q v rv⟩⟩
theorem Rd.same {H H' : Hp} {d : Addr} {o : HO} (e : Same H H') (h : Rd H d o) : Rd H' d o := h.imp (fun z => e _ _ z) fun ⟨o, z⟩ => ⟨o, e _ _ z⟩
theorem ev_getN {ρ : R} [hq : AsDN X.w ρ U T kvs] {z : α} (hr : Room k X.A) (hb : EvE X ss b ρ) (ha : EvE X ss a (sv (U key))) (hz : gK kvs key = some z) (hdp : KeyN.dep U ≤ 8 := by decide) (hp : NoSl a := by exact fun _ _ => rfl) : EvE X ss (.Subscript b a pos) (sv (T z)) := .mk fun B F H σ h Q q => by
  refine toE (pe_getN (T := T) (U := U) (kvs := kvs) (key := key) hr hdp PEw PEw hp) (hb B F H σ h _ fun y F1 H1 g1 r1 => ha B F1 H1 σ (h.grow g1) _ fun v F2 H2 g2 r2 => ?_)
  obtain ⟨d, ws, ed, hd, hw⟩ := hq.w F1 H1 y g1.s r1
  exact ⟨F2, d, ws, g2.s, r2, ed, Rd.same g2.h hd, hw.mono g2.f, z, hz, fun v' rv' => q v' F2 H2 (g1.trans g2) rv'⟩
/-- {} -/
theorem ev_dnewN : EvN X ss (.Dict [] [] pos) (oDN X.w U T ([] : List (κ × α))) := .mk fun B F H σ h Q q => by
  refine toE (t := fun _ H Q => ∀ p, H p = none → Q (.ref p) (upd H p (dNo X.w p []))) ⟨fun pins s σ H Q I h => ?_⟩ fun p np => fresh1 q (.refl h.s) np ⟨[], hp1_same, .nil⟩
  refine wpAny_Dict_empty ⟨.ref s.heap.objs.size, _, I.laid (a := s.heap.objs.size) (o := dNo X.w s.heap.objs.size []) (t' := s.toks) (fun _ _ z => Heap.get?_push_of_some _ z) (Nat.le_refl _) (dNo_ok ?_), rfl, h _ (I.hok.fresh (Nat.le_refl _))⟩
  exact ⟨beq_eq_false_iff_ne.mpr (Ne.symm (Nat.ne_of_lt I.big)), Nat.zero_le _, List.nodup_nil, [], .nil, _, #[], 0, Heap.get?_push_size _ rfl, ⟨rfl, rfl, rfl⟩, rfl, rfl⟩
/-- d[k] = v -/
def tPutN (w : World) (U : κ → S) [KeyN U] (T : α → S) (kvs : List (κ × α)) (key : κ) (td ti tv : TE) : TS := fun D σ H => tv σ H fun v H1 => td σ H1 fun y H2 => ti σ H2 fun x H3 => ∃ (F : Hp) (d p : Addr) (ws : List Went), Same F H3 ∧ x = .ref p ∧ (U key).r F x ∧ y = .ref d ∧ H3 d = some (dNo w d ws) ∧ KnR U T F kvs ws ∧ ws.length < sizeLine ∧ D.nx σ (upd H3 d (dNo w d (storedW ws (KeyN.enc U key) p v)))
theorem storedW_len (ws : List Went) (n : NestedKey) (p : Addr) (v : V) : (storedW ws n p v).length ≤ ws.length + 1 := by
  unfold storedW
  split
  · rw [List.length_map]; omega
  · rw [List.length_append]; exact Nat.le_refl _
theorem ps_putN {value : Expr} {td ti tv : TE} (hr : Room k X.A) (hdp : KeyN.dep U ≤ 8) (ho : PE X b td) (hi : PE X a ti) (hv : PE X value tv) (hs : swapsWith value (some (.Subscript b a pos')) pos.line X.env = pure false) : PS X (.Assign [.Subscript b a pos'] value pos) (tPutN X.w U T kvs key td ti tv) := by
  refine ⟨fun pins s σ H D I h => ?_⟩
  refine wpAny_Assign_Subscript (thn (hv.run pins s σ H _ I h) fun r s1 ⟨v, H1, I1, rv, q1⟩ => thn (ho.run pins s1 σ H1 _ I1 q1) fun u s2 ⟨y, H2, I2, ry, q2⟩ => thn (hi.run pins s2 σ H2 _ I2 q2) fun iv s3 ⟨x, H3, I3, rx, F, d, p, ws, sF, ex, rk, ey, hd, hk, hl, q⟩ => ?_) hs
  subst ex ey
  cases (show iv = Value.ref p from rx)
  cases (show u = Value.ref d from ry)
  obtain ⟨n1, n2, xs, rel, hm⟩ := dn_lib I3 sF hdp (.inl hd) hk
  have hx : xs.length ≤ sizeLine := by rw [← Paired.length rel]; exact n2
  refine wpAny_setItem_heap (knd := nestedKind X.prog X.w) (hsz := hx) (nroom hr) ⟨hN.is I3 sF rk rfl, Nat.le_trans (hN.depth _) hdp⟩ hm fun h' hm' hs' => ?_
  obtain ⟨o, es, ep, ho', hc', hd', he', _, hnd'⟩ := hm'
  have rel2 := rel.put (k := KeyN.enc U key) (b := p) rv
  have hl2 := storedW_len ws (KeyN.enc U key) p v
  exact ⟨σ, _, d_write I3 (by rw [hd]; exact True.intro) hs' ⟨o, ho'⟩ (dNo_ok ⟨n1, by omega, by rw [← rel2.nodup]; exact hnd', _, rel2, o, es, ep, ho', hc', hd', he'⟩), q⟩
/-- a cell of an own object is rewritten -/
theorem cell_wr {H c : Hp} {d : Addr} {o0 o1 : HO} (hd : c d = some o0) (nt : ¬ IsT o0) (hc : ∀ a ob, c a = some ob → H a = some ob) :
    (∀ a ob, IsT ob → c a = some ob → upd H d o1 a = some ob) ∧ (∀ a ob, upd c d o1 a = some ob → upd H d o1 a = some ob) ∧ (∀ a ob, c a = none → H a = some ob → upd H d o1 a = some ob) ∧ (∀ a ob, upd c d o1 a = some ob → c a = none → H a = none) := by
  refine ⟨fun a ob za ea => ?_, fun a ob ea => ?_, fun a ob na ea => ?_, fun a ob ea na => ?_⟩
  · have ha : a ≠ d := fun z => by
      subst z
      rw [hd] at ea
      cases ea
      exact nt za
    rw [upd_ne ha]
    exact hc _ _ ea
  · by_cases ha : a = d
    · subst ha
      rw [upd_same] at ea ⊢
      exact ea
    · rw [upd_ne ha] at ea ⊢
      exact hc _ _ ea
  · rw [upd_ne (fun z => by subst z; rw [hd] at na; cases na)]
    exact ea
  · by_cases ha : a = d
    · subst ha
      rw [hd] at na
      cases na
    · rw [upd_ne ha, na] at ea
      cases ea
theorem s_putN (i : Nat) {z : Str} {p1 : Pos} (hr : Room k X.A) (hi : ss[i]? = some (.own (oDN X.w U T kvs))) (hv : EvE X ss e (sv (T x))) (ha : EvE X ss a (sv (U key))) (hl : kvs.length < sizeLine) (kk : D.nx (ss.set i (.own (oDN X.w U T (pK kvs key x))))) (hdp : KeyN.dep U ≤ 8 := by decide) (hN' : X.N[i]? = some z := by rfl)
    (hvs : Vis X.env.scope z := by first | exact Or.inl rfl | exact Or.inr (Or.inl rfl) | exact Or.inr (Or.inr rfl)) (hd : (z == ("__debug__" : Str)) = false := by decide) (hcd : (z == ("__classdict__" : Str)) = false := by decide)
    (hs : swapsWith e (some (.Subscript (.Name z p1) a pos')) pos.line X.env = pure false := by rfl) : EvS X ss (.Assign [.Subscript (.Name z p1) a pos'] e pos) D := .mk fun B F H σ h tk =>
  toS (ps_putN (T := T) (U := U) (kvs := kvs) (key := key) hr hdp (pe_var hN' hvs hd hcd) PEw PEw hs) (hv B F H σ h _ fun v F1 H1 g1 r1 => by
    obtain ⟨d0, c0, e0, _⟩ := (h.grow g1).own hi
    refine ⟨_, e0, ha B F1 H1 σ (h.grow g1) _ fun y F2 H2 g2 r2 => ?_⟩
    obtain ⟨d, c, e1, hc, ⟨ws, hd, hk⟩, wr⟩ := ((h.grow g1).grow g2).write hi
    rw [e0] at e1
    cases e1
    obtain ⟨p, ep⟩ := hR.ref r2
    subst ep
    obtain ⟨w0, w1, w2, w3⟩ := cell_wr (o1 := dNo X.w d0 (storedW ws (KeyN.enc U key) p v)) hd (fun z => z) (fun a ob ea => (hc a ob ea).1)
    exact ⟨F2, d0, p, ws, g2.s, rfl, r2, rfl, (hc _ _ hd).1, hk, by rw [hk.len]; exact hl, F2, _, wr (oDN X.w U T (pK kvs key x)) _ _ w0 w1 w2 w3 ⟨_, upd_same, hk.put r2 ((T x).mono g2.f r1)⟩, kk⟩)
end
end Sx
namespace Sx
open PySem PySem.Spec PyProof.Rows L2
section
variable {X : Cx} {ss : List Sl} {kx vx : Expr} {pos : Pos} {k : Nat} {κ α : Type} [DecidableEq κ] {U : κ → S} [hN : KeyN U] [hR : KeyR U] {T : α → S} {key : κ} {x : α}
theorem storedAllH_one (n : NestedKey) (p : Addr) (u : Value) : storedAllH [] [(n, p, u)] = [(n, p, u)] := by simp [storedAllH, storedH, atKey]
/-- {k: v} -/
theorem ev_dict1N (hr : Room k X.A) (ha : EvE X ss kx (sv (U key))) (hv : EvE X ss vx (sv (T x))) (hdp : KeyN.dep U ≤ 8 := by decide)
    (hsh : (evalEachOpt [some kx] X.env).zip ((evalEach [vx] X.env).map fun v => do let x ← v; standAt pos; pure x) = (pairTrees [some kx] [vx] X.env pos).map fun p => (some p.1, p.2) := by first | rfl | simp [evalEachOpt, evalEach, pairTrees]) :
    EvN X ss (.Dict [some kx] [vx] pos) (oDN X.w U T [(key, x)]) := .mk fun B F H σ h Q q => by
  intro pins s I
  have hn := I.hok.fresh (Nat.le_refl s.heap.objs.size)
  have I1 := I.laid (a := s.heap.objs.size) (o := dNo X.w s.heap.objs.size []) (h' := s.heap.push { cls := .type "dict", data := .dict #[] }) (t' := s.toks) (fun _ _ z => Heap.get?_push_of_some _ z) (Nat.le_refl _)
    (dNo_ok ⟨beq_eq_false_iff_ne.mpr (Ne.symm (Nat.ne_of_lt I.big)), Nat.zero_le _, List.nodup_nil, [], .nil, _, #[], 0, Heap.get?_push_size _ rfl, ⟨rfl, rfl, rfl⟩, rfl, rfl⟩)
  generalize ed : s.heap.objs.size = d at hn I1
  have g0 : Grow F H F (upd H d (dNo X.w d [])) := .new h.s hn
  have hu : (nestedKind X.prog X.w).room X.A := by
    have := hr.units
    show X.A.units + 8 < cLine
    omega
  rw [arm_eval_Dict, hsh, dictDisplay_pairs _ (by simp [pairTrees]) (by simp [pairTrees])]
  refine wpAny_bind (wpAny_standAt (wpAny_bind (wpAny_subDictH (knd := nestedKind X.prog X.w) hu (by simp [pairTrees]) ?_)))
  refine pairTrees_cons_walk (thn (ha B F _ σ (h.grow g0) (fun v H' => ∃ F', Grow F (upd H d (dNo X.w d [])) F' H' ∧ (U key).r F' v) (fun v F' H' g r => ⟨F', g, r⟩) pins _ I1) fun u s1 ⟨v, H1, I2, rv, F1, g1, r1⟩ => ?_)
  refine thn (hv B F1 H1 σ ((h.grow g0).grow g1) (fun v H' => ∃ F', Grow F1 H1 F' H' ∧ (T x).r F' v) (fun v F' H' g r => ⟨F', g, r⟩) pins s1 I2) fun w2 s2 ⟨y, H2, I3, ry, F2, g2, r2⟩ => pairTrees_nil_walk ?_
  have e2 : H2 d = some (dNo X.w d []) := g2.h _ _ (g1.h _ _ upd_same)
  obtain ⟨p, ep⟩ := hR.ref r1
  subst ep
  cases (show u = Value.ref p from rv)
  have rk := (U key).mono g2.f r1
  obtain ⟨n1, _, xs, r, hm⟩ := dn_lib (U := U) (T := T) (kvs := ([] : List (κ × α))) I3 g2.s hdp (.inl e2) .nil
  cases r
  refine ⟨[(KeyN.enc U key, p, w2)], ⟨rfl, rfl, ⟨hN.is I3 g2.s rk rfl, Nat.le_trans (hN.depth _) hdp⟩, trivial⟩, by rw [ed]; exact hm, fun h' tk hm' hs' => wpAny_pure ?_⟩
  rw [ed] at hm' hs' ⊢
  rw [storedAllH_one] at hm'
  obtain ⟨o, es, ep, ho', hc', hd', he', _, hnd'⟩ := hm'
  have rel2 : WX2 [(KeyN.enc U key, p, y)] [(KeyN.enc U key, p, w2)] := .cons ⟨rfl, rfl, ry⟩ .nil
  refine ⟨.ref d, _, d_write (ob := dNo X.w d [(KeyN.enc U key, p, y)]) I3 (by rw [e2]; exact True.intro) hs' ⟨o, ho'⟩ (dNo_ok ⟨n1, by show 1 ≤ sizeLine; rw [sizeLine_eq]; decide, by simp, _, rel2, o, es, ep, ho', hc', hd', he'⟩), rfl, ?_⟩
  have gg := (g0.trans g1).trans g2
  have nF : F2 d = none := by
    have n0 : F d = none := h.s.free hn
    cases z : F2 d with
    | none => rfl
    | some o' =>
      have e3 := g2.s d o' z
      rw [e2] at e3
      cases e3
      rcases (g1.trans g2).n d _ z n0 with y | y
      · rw [upd_same] at y
        cases y
      · exact y.elim
  refine q d F2 _ (hp1 d (dNo X.w d [(KeyN.enc U key, p, y)])) ⟨gg.f, fun a ob ea => ?_, fun a ob ea => ?_, fun a ob ea na => gg.n a ob ea na⟩ (fun a ob ea => ?_) ⟨_, hp1_same, .cons ⟨rfl, rk, r2⟩ .nil⟩
  · rw [upd_ne (fun z => by subst z; rw [hn] at ea; cases ea)]
    exact gg.h a ob ea
  · rw [upd_ne (fun z => by subst z; rw [nF] at ea; cases ea)]
    exact gg.s a ob ea
  · obtain ⟨rfl, rfl⟩ := hp1_some ea
    exact ⟨hn, .inl nF, upd_same⟩
end
end Sx
namespace Sx
open PySem PySem.Spec PyProof.Rows L2
/-! ### None, or a value -/
def sOpt {α : Type} (T : α → S) : Option α → S
  | none => sNone
  | some x => T x
class TyNN {α : Type} (T : α → S) [TyD T] : Prop where
  nn : ∀ x, PyData.eqv (TyD.d T x) .none = false ∧ PyData.eqv .none (TyD.d T x) = false
section
variable {α β : Type} {T : α → S} {U : β → S}
instance : TyNN sInt := ⟨fun x => ⟨by simp [TyD.d, PyData.eqv], by simp [TyD.d, PyData.eqv]⟩⟩
instance : TyNN sNat := ⟨fun x => ⟨by simp [TyD.d, PyData.eqv], by simp [TyD.d, PyData.eqv]⟩⟩
instance : TyNN sBool := ⟨fun x => ⟨by simp [TyD.d, PyData.eqv], by simp [TyD.d, PyData.eqv]⟩⟩
instance : TyNN sStr := ⟨fun x => ⟨by simp [TyD.d, PyData.eqv], by simp [TyD.d, PyData.eqv]⟩⟩
instance [TyD T] : TyNN (fun xs => sO (oLst T xs)) := ⟨fun x => ⟨by simp [TyD.d, PyData.eqv], by simp [TyD.d, PyData.eqv]⟩⟩
instance [TyD T] : TyNN (fun xs => sO (oTup T xs)) := ⟨fun x => ⟨by simp [TyD.d, PyData.eqv], by simp [TyD.d, PyData.eqv]⟩⟩
instance [TyD T] : TyNN (sLst T) := inferInstanceAs (TyNN (fun xs => sO (oLst T xs)))
instance [TyD T] : TyNN (sTup T) := inferInstanceAs (TyNN (fun xs => sO (oTup T xs)))
instance [TyD T] [TyD U] : TyNN (sPair T U) := ⟨fun x => ⟨by simp [TyD.d, PyData.eqv], by simp [TyD.d, PyData.eqv]⟩⟩
instance [TyD T] : TyD (sOpt T) where
  d := fun o => match o with
    | none => .none
    | some x => TyD.d T x
  dep := TyD.dep T
  ok := fun {K F v x} h => by
    cases x with
    | none =>
      have e : v = .non := h
      subst e
      exact ⟨.non, by simp [PyData.canLay0], by simp [PyData.depth]⟩
    | some x => exact TyD.ok (T := T) (K := K) h
instance [DecidableEq α] [TyQ T] [TyNN T] : TyQ (sOpt T) where
  q := fun x y => by
    cases x with
    | none =>
      cases y with
      | none => simp [TyD.d, PyData.eqv]
      | some y => show PyData.eqv .none (TyD.d T y) = _; rw [(TyNN.nn (T := T) y).2]; simp
    | some x =>
      cases y with
      | none => show PyData.eqv (TyD.d T x) .none = _; rw [(TyNN.nn (T := T) x).1]; simp
      | some y => show PyData.eqv (TyD.d T x) (TyD.d T y) = _; rw [TyQ.q]; simp
end
/-- values of T are not None -/
class NotN {α : Type} (T : α → S) : Prop where
  nn : ∀ {F : Hp} {x : α} {v : V}, (T x).r F v → v ≠ .non
section
variable {α β : Type} {T : α → S} {U : β → S}
instance : NotN sInt := ⟨fun {F x v} h e => by rw [show v = V.int x from h] at e; cases e⟩
instance : NotN sNat := ⟨fun {F x v} h e => by rw [show v = V.int (x : Int) from h] at e; cases e⟩
instance : NotN sBool := ⟨fun {F x v} h e => by rw [show v = V.bl x from h] at e; cases e⟩
instance : NotN sStr := ⟨fun {F x v} h e => by rw [h.1] at e; cases e⟩
instance : NotN (sLst T) := ⟨fun {F x v} h e => by obtain ⟨p, _, e1, _⟩ := h; rw [e1] at e; cases e⟩
instance : NotN (sTup T) := ⟨fun {F x v} h e => by obtain ⟨p, _, e1, _⟩ := h; rw [e1] at e; cases e⟩
instance : NotN (sPair T U) := ⟨fun {F x v} h e => by obtain ⟨p, _, e1, _⟩ := h; rw [e1] at e; cases e⟩
variable {X : Cx} {ss : List Sl} {a b e : Expr} {pos p1 : Pos} {o : Option α} {j : Nat}
theorem isn_dec [NotN T] {F : Hp} {v : V} (r : (sOpt T o).r F v) : decide (v = .non) = o.isNone := by
  cases o with
  | none => rw [show v = V.non from r]; rfl
  | some x => exact decide_eq_false (NotN.nn (T := T) r)
theorem ev_isN [NotN T] (ha : EvE X ss a (sv (sOpt T o))) (hm : behindInMarks .Is (.Constant .none j p1) = false := by rfl) : EvE X ss (.Compare a [.Is] [.Constant .none j p1] pos) (sv (sBool o.isNone)) := .mk fun B F H σ h Q q =>
  toE (pe_cmpR op_isN PEw pe_non hm) (ha B F H σ h _ fun v F1 H1 g1 r1 => ⟨rfl, by rw [isn_dec r1]; exact q _ F1 H1 g1 rfl⟩)
theorem ev_notN [NotN T] (ha : EvE X ss a (sv (sOpt T o))) (hm : behindInMarks .IsNot (.Constant .none j p1) = false := by rfl) : EvE X ss (.Compare a [.IsNot] [.Constant .none j p1] pos) (sv (sBool o.isSome)) := .mk fun B F H σ h Q q =>
  toE (pe_cmpR op_notN PEw pe_non hm) (ha B F H σ h _ fun v F1 H1 g1 r1 => ⟨rfl, by rw [isn_dec r1]; exact q _ F1 H1 g1 (show V.bl _ = V.bl _ by cases o <;> rfl)⟩)
theorem et_isN [NotN T] (ha : EvE X ss a (sv (sOpt T o))) (hm : behindInMarks .Is (.Constant .none j p1) = false := by rfl) : EvT X ss (.Compare a [.Is] [.Constant .none j p1] pos) o.isNone := .mk fun B F H σ h Q q =>
  toT (pt_cmpR op_isN PEw pe_non hm) (ha B F H σ h _ fun v F1 H1 g1 r1 => ⟨rfl, _, rfl, by rw [isn_dec r1]; exact q F1 H1 g1⟩)
theorem et_notN [NotN T] (ha : EvE X ss a (sv (sOpt T o))) (hm : behindInMarks .IsNot (.Constant .none j p1) = false := by rfl) : EvT X ss (.Compare a [.IsNot] [.Constant .none j p1] pos) o.isSome := .mk fun B F H σ h Q q =>
  toT (pt_cmpR op_notN PEw pe_non hm) (ha B F H σ h _ fun v F1 H1 g1 r1 => ⟨rfl, _, rfl, by rw [isn_dec r1, show (!o.isNone) = o.isSome by cases o <;> rfl]; exact q F1 H1 g1⟩)
theorem ev_none (T : α → S) {k : Nat} : EvE X ss (.Constant .none k pos) (sv (sOpt T none)) := ev_non
theorem EvE.some {x : α} (h : EvE X ss e (sv (T x))) : EvE X ss e (sv (sOpt T (some x))) := h
theorem ty_lst {K : PySem.W.Frag} {F H : Hp} {v : V} {xs : List α} (e : Same F H) (r : (sv (sLst T xs)).r F H v) : TyX K H v (.type "list") := by
  obtain ⟨p, k, e1, hk, vs, hp, _⟩ := r
  subst e1
  exact .base (.lst (e _ _ (hk _ _ hp)))
theorem ty_tup {K : PySem.W.Frag} {F H : Hp} {v : V} {xs : List α} (e : Same F H) (r : (sv (sTup T xs)).r F H v) : TyX K H v (.type "tuple") := by
  obtain ⟨p, k, e1, hk, vs, hp, _⟩ := r
  subst e1
  exact .base (.tup (e _ _ (hk _ _ hp)))
theorem ty_none {K : PySem.W.Frag} {F H : Hp} {v : V} (r : (sv sNone).r F H v) : TyX K H v (.type "NoneType") := by
  rw [show v = V.non from r]
  exact .base .non
end
/-! ### targets of several names -/
/-- what a target does with a value of s -/
def GTo (g : TG) (s : S) (st : List Sl → List Sl) : Prop := ∀ (B : Bs) (F H : Hp) (σ : L2.St) (ss : List Sl) (v : V) (Q : L2.St → Hp → Prop), Sat B F H σ ss → s.r F v → (∀ σ', Sat B F H σ' (st ss) → Q σ' H) → g v σ H Q
theorem gto_name {i : Nat} {s : S} : GTo (gName i) s (fun ss => ss.set i (.val s)) := fun B F H σ ss v Q h r q => q _ (h.set r)
theorem gto_tup2 {K : PySem.W.Frag} {s t : S} {i j : Nat} : GTo (gTup K 2 (gCons (gName i) (gCons (gName j) gNil))) (sTup id [s, t]) (fun ss => (ss.set i (.val s)).set j (.val t)) := fun B F H σ ss v Q h r q => by
  obtain ⟨p, c, e, hk, vs, hp, hi⟩ := r
  obtain ⟨x, y, rfl, rx, ry⟩ := its2 hi
  exact ⟨p, _, e, SqT.of (h.s _ _ (hk _ _ hp)), rfl, x, _, rfl, y, _, rfl, rfl, q _ ((h.set rx).set ry)⟩
theorem gto_lst2 {K : PySem.W.Frag} {s t : S} {i j : Nat} : GTo (gLst K 2 (gCons (gName i) (gCons (gName j) gNil))) (sLst id [s, t]) (fun ss => (ss.set i (.val s)).set j (.val t)) := fun B F H σ ss v Q h r q => by
  obtain ⟨p, c, e, hk, vs, hp, hi⟩ := r
  obtain ⟨x, y, rfl, rx, ry⟩ := its2 hi
  exact ⟨p, _, e, SqL.of (h.s _ _ (hk _ _ hp)), rfl, x, _, rfl, y, _, rfl, rfl, q _ ((h.set rx).set ry)⟩
theorem gto_pair {α β : Type} {T : α → S} {U : β → S} {K : PySem.W.Frag} {p : α × β} {i j : Nat} : GTo (gTup K 2 (gCons (gName i) (gCons (gName j) gNil))) (sPair T U p) (fun ss => (ss.set i (.val (T p.1))).set j (.val (U p.2))) := gto_tup2
section
variable {X : Cx} {ss : List Sl} {e tg iter : Expr} {body : List Stmt} {D : Ds} {s : S} {α : Type} {T : α → S} {xs : List α} {pos p : Pos} {g : TG}
/-- for a, b in xs: -/
theorem s_forG (st : α → List Sl → List Sl) (hp : PassesOwn (model X.prog X.w) X.A X.env X.xe) (hc : X.calm = true) (hg : PG X tg g) (hst : ∀ x, GTo g (T x) (st x)) (I : Nat → List Sl → Prop) [hq : AsSq X.K (sv s) T xs] (hi : EvE X ss iter (sv s)) (h0 : I 0 ss)
    (hs : ∀ k (y : α) ss', xs[k]? = some y → I k ss' → EvSs X (st y ss') body { D with nx := I (k + 1), ct := I (k + 1), bk := D.nx }) (hd : ∀ ss', I xs.length ss' → D.nx ss') (hfs : ∀ x, foldedSetIterable iter X.env x = pure x := by intro _; rfl) :
    EvS X ss (.For tg iter body [] pos) D := .mk fun B F H σ h tk => by
  have turn : ∀ {F1 H1 : Hp} (h1 : Sat B F1 H1 σ ss) (k : Nat) (v : V) (σ' : L2.St) (H' : Hp) (y : α), xs[k]? = some y → (T y).r F1 v → (∃ F' ss', Sat ⟨F1, B.H⟩ F' H' σ' ss' ∧ I k ss') →
      g v σ' H' fun σ2 H2 => wpSs X body { (dn B D) with nx := fun σ H => ∃ F ss, Sat ⟨F1, B.H⟩ F H σ ss ∧ I (k + 1) ss, ct := fun σ H => ∃ F ss, Sat ⟨F1, B.H⟩ F H σ ss ∧ I (k + 1) ss, bk := (dn B D).nx } σ2 H2 := fun h1 k v σ' H' y hy r ⟨F', ss', hs', hI⟩ =>
    hst y ⟨_, B.H⟩ F' H' σ' ss' v _ hs' ((T y).mono hs'.g.f r) fun σ2 hs2 =>
      wpSs_mono (hs k y ss' hy hI ⟨_, B.H⟩ F' H' _ hs2 (tk.lift h1.g)) (fun _ _ q => q) (fun v H z => RtP.base h1.g z) (fun _ _ ⟨F2, s2, g2, q2⟩ => ⟨F2, s2, sat_base h1 g2, q2⟩) (fun _ _ q => q)
  have fin : ∀ {F1 H1 : Hp} (h1 : Sat B F1 H1 σ ss) (σ' : L2.St) (H' : Hp), (∃ F' ss', Sat ⟨F1, B.H⟩ F' H' σ' ss' ∧ I xs.length ss') → (dn B D).nx σ' H' := fun h1 σ' H' ⟨F', ss', hs', hI⟩ => ⟨F', ss', sat_base h1 hs', hd ss' hI⟩
  intro pins sh inv
  refine (toS (ps_for hp hc (PIw) hg PSsw hfs) (D := dn B D) (σ := σ) (H := H) ?_) pins sh inv
  intro pins s2 inv2
  refine thn (hi B F H σ h (fun v H' => ∃ F', Grow F H F' H' ∧ s.r F' v) (fun v F' H' g r => ⟨F', g, r⟩) pins s2 inv2) fun u s3 ⟨v, H1, I3, rv, F1, g1, r1⟩ => ?_
  obtain ⟨p1, vs, ev, hk, hits⟩ := hq.w F1 F1 v (Same.refl _) r1
  subst ev
  cases rv
  have h1 := h.grow g1
  have step : ∀ (J : It), (∀ i σ' H', (∃ F' ss', Sat ⟨F1, B.H⟩ F' H' σ' ss' ∧ I i ss') → i < vs.length → J.go i H') → (∀ i σ' H', (∃ F' ss', Sat ⟨F1, B.H⟩ F' H' σ' ss' ∧ I i ss') → vs.length ≤ i → J.stop i H') →
      (∀ i σ' H' x H'', (∃ F' ss', Sat ⟨F1, B.H⟩ F' H' σ' ss' ∧ I i ss') → J.yld i H' x H'' → H'' = H' ∧ (i < vs.length → vs[i]? = some x)) →
      ∃ W : Nat → Nat → L2.St → Hp → Prop, (∃ m, W 0 m σ H1) ∧ ∀ i m σ' H', W i m σ' H' → (J.stop i H' ∧ (dn B D).nx σ' H') ∨ (J.go i H' ∧ ∃ N : L2.St → Hp → Prop, (∀ σ2 H2, N σ2 H2 → ∃ m', m' < m ∧ W (i + 1) m' σ2 H2) ∧ ∀ x H'', J.yld i H' x H'' → g x σ' H'' fun σ2 H2 => wpSs X body { (dn B D) with nx := N, ct := N, bk := (dn B D).nx } σ2 H2) := by
    intro J hgo hstop hy
    refine ⟨fun i m σ' H' => m = vs.length - i ∧ i ≤ vs.length ∧ ∃ F' ss', Sat ⟨F1, B.H⟩ F' H' σ' ss' ∧ I i ss', ⟨_, rfl, Nat.zero_le _, F1, ss, sat_lift h1, h0⟩, ?_⟩
    rintro i m σ' H' ⟨rfl, hle, hP⟩
    by_cases hlt : i < vs.length
    · refine .inr ⟨hgo i σ' H' hP hlt, fun σ2 H2 => ∃ F' ss', Sat ⟨F1, B.H⟩ F' H2 σ2 ss' ∧ I (i + 1) ss', fun σ2 H2 z => ⟨_, by omega, rfl, hlt, z⟩, fun x H'' y => ?_⟩
      obtain ⟨e1, e2⟩ := hy i σ' H' x H'' hP y
      subst e1
      obtain ⟨y, hy', ry⟩ := hits.get (e2 hlt)
      exact turn h1 i x σ' _ y hy' ry hP
    · have e : i = vs.length := by omega
      subst e
      refine .inl ⟨hstop _ σ' H' hP (Nat.le_refl _), ?_⟩
      rw [hits.len] at hP
      exact fin h1 σ' H' hP
  rcases hk with hk | hk
  · obtain ⟨its, rvs, pl, hz⟩ := I3.list (SqL.same g1.s hk)
    refine wpAny_pyIter_list pl.isList ?_
    refine ⟨s3.heap.objs.size, [s3.heap.objs.size], _, _, H1, rfl, I3.kept (t' := s3.toks) fun b o e => Heap.get?_push_of_some _ e, turn_list p1 _, ⟨_, Heap.get?_push_size _ rfl, rfl, rfl⟩, fun b hb => ?_, ?_⟩
    · have e : b = s3.heap.objs.size := by simpa using hb
      subst e
      exact I3.fpOk (Nat.le_refl _) (I3.hok.fresh (Nat.le_refl _))
    · have at_ : ∀ {σ' : L2.St} {H' : Hp} {i : Nat}, (∃ F' ss', Sat ⟨F1, B.H⟩ F' H' σ' ss' ∧ I i ss') → SqL X.K H' p1 vs := fun ⟨F', ss', hs', _⟩ => SqL.same (hs'.g.f.trans hs'.s) hk
      exact step (Itl X.K p1) (fun i σ' H' hP hlt => ⟨vs, vs[i], at_ hP, List.getElem?_eq_getElem hlt⟩) (fun i σ' H' hP hle => ⟨vs, at_ hP, hle⟩) (fun i σ' H' x H'' hP y => ⟨y.1, fun _ => y.2 vs (at_ hP)⟩)
  · obtain ⟨its, rvs, pl, hz⟩ := I3.tuple (SqT.same g1.s hk)
    refine wpAny_pyIter_tuple (show s3.heap.IsTuple p1 its.toArray from pl) ?_
    refine ⟨s3.heap.objs.size, [s3.heap.objs.size], _, _, H1, rfl, I3.kept (t' := s3.toks) fun b o e => Heap.get?_push_of_some _ e, turn_tuple p1 _, ⟨_, Heap.get?_push_size _ rfl, rfl, rfl⟩, fun b hb => ?_, ?_⟩
    · have e : b = s3.heap.objs.size := by simpa using hb
      subst e
      exact I3.fpOk (Nat.le_refl _) (I3.hok.fresh (Nat.le_refl _))
    · have at_ : ∀ {σ' : L2.St} {H' : Hp} {i : Nat}, (∃ F' ss', Sat ⟨F1, B.H⟩ F' H' σ' ss' ∧ I i ss') → SqT X.K H' p1 vs := fun ⟨F', ss', hs', _⟩ => SqT.same (hs'.g.f.trans hs'.s) hk
      exact step (Itt X.K p1) (fun i σ' H' hP hlt => ⟨vs, vs[i], at_ hP, List.getElem?_eq_getElem hlt⟩) (fun i σ' H' hP hle => ⟨vs, at_ hP, hle⟩) (fun i σ' H' x H'' hP y => ⟨y.1, fun _ => y.2 vs (at_ hP)⟩)
/-- a, b = e -/
theorem s_asgG (st : List Sl → List Sl) (he : EvE X ss e (sv s)) (hg : PG X tg g) (hst : GTo g s st) (k : D.nx (st ss)) (hs : swapsWithSole [tg] e pos.line X.env = pure false := by rfl) (hw : swappedStores [tg] e X.env = pure none := by rfl)
    (h1 : (assignEach [tg] X.env).map (·.2) = [assign tg X.env] := by rfl) : EvS X ss (.Assign [tg] e pos) D := .mk fun B F H σ h tk =>
  toS (ps_asg PEw hg hs hw h1) (he B F H σ h _ fun v F' H' g' r => hst B F' H' σ ss v _ (h.grow g') r fun σ' hs' => ⟨F', _, hs', k⟩)
end
end Sx
/-! ### sorted, of any data -/
namespace Sx
open PySem PySem.W PySem.Calls PyProof.Rows PySem.SeqAt
section
variable {prog : Program} {w : World} {A : Around} {s : Shared} {E : Value → Shared → Prop}
theorem call_tuple_lt {Q : Value → Shared → Prop} {l b : Addr} {items items2 : Array Value} {e r : Nat → Bool} (hl : s.heap.IsTuple l items) (hb : s.heap.IsTuple b items2)
    (he : ∀ j (h1 : j < items.size) (h2 : j < items2.size), EqAt A.in1 s items[j] items2[j] (e j)) (hr : ∀ j (h1 : j < items.size) (h2 : j < items2.size), e j = false → RcLt A.in1 s items[j] items2[j] (r j))
    (h : Q (.bool (firstLt e r (decide (items.size < items2.size)) (List.range (min items.size items2.size)))) s) : wpAny (model prog w) A (call (.builtin "tuple.__lt__") [.ref l, .ref b]) Q E s := by
  obtain ⟨⟨cls, dd, data, sl⟩, ho, hc, n, hd⟩ := id hl
  obtain ⟨⟨cls2, dd2, data2, sl2⟩, ho2, hc2, n2, hd2⟩ := id hb
  simp only at hc hd hc2 hd2
  subst hc hd hc2 hd2
  exact call_meets F.slot_tuple_lt ⟨_, ho, rfl⟩ F.entry_tuple_lt (F.args_tuple_lt_2 _ _) (tuple_ltAt l b items items2 n n2 dd dd2 sl sl2 e r) ⟨ho, ho2, he, hr, h⟩
theorem oneLt_tuples {xs ys : List PyData} {a b : Value} {as bs : List Addr} {Q : Bool → Shared → Prop} (ra : Reads s.heap a (.tuple xs) as) (rb : Reads s.heap b (.tuple ys) bs) (h : alike (.tuple xs) (.tuple ys) = true)
    (hu : A.units + min (PyData.tuple xs).depth (PyData.tuple ys).depth < cLine) (hq : Q (dataLt (.tuple xs) (.tuple ys)) s) : wpAny (model prog w) A (oneLt' true a b) Q E s := by
  have hal : alikeAll xs ys = true := by simpa [alike] using h
  cases ra with
  | @tuple l o vs n _ as₁ h1 h2 h3 h4 =>
    cases rb with
    | @tuple l' o' vs' n' _ bs₁ k1 k2 k3 k4 =>
      have n1 : vs.size = xs.length := by simpa using ReadsAll.length _ _ _ h4
      have n2 : vs'.size = ys.length := by simpa using ReadsAll.length _ _ _ k4
      rw [dataLt_tuple, ← firstLt_toks xs ys hal, ← n1, ← n2] at hq
      rw [oneLt'_eq]
      simp only [if_true]
      refine wpAny_bind (wpAny_cRoomFor (room_here hu) ?_)
      refine wpAny_bind (wpAny_callSpecialIfBound?_slot (T := "tuple") ⟨_, h1, h2⟩ F.slot_tuple_lt (call_tuple_lt (e := pairEq xs ys) (r := fun j => dataLt (xs.getD j .none) (ys.getD j .none)) ⟨_, h1, h2, _, h3⟩ ⟨_, k1, k2, _, k3⟩ (fun j j1 j2 => ?_) (fun j j1 j2 hj => ?_) ?_))
      · have := eqAt_alikeAll xs ys A.in1 s vs.toList vs'.toList _ _ h4 k4 hal (room_in hu) j (by simpa using j1) (by simpa using j2)
        simpa using this
      · have := rcLt_alikeAll xs ys A.in1 s vs.toList vs'.toList _ _ h4 k4 hal (room_in hu) j (by simpa using j1) (by simpa using j2) hj
        simpa using this
      · exact wpAny_truthy_bool hq
def IsTupV (h : Heap) (v : Value) : Prop := ∃ a o xs n, v = .ref a ∧ h.get? a = some o ∧ o.cls = .type "tuple" ∧ o.data = .seq xs n
variable {M : Model}
theorem tup_firsts : ∀ (vs : List Value) {Q : List (Option Value) → Shared → Prop}, (∀ v ∈ vs, IsTupV s.heap v) → (∀ bs, Q bs s) → wpAny M A (vs.mapM firstOfTuple') Q E s
  | [], _, _, h => by rw [List.mapM_nil]; exact wpAny_pure (h [])
  | v :: vs, Q, t, h => by
    obtain ⟨a, o, xs, n, rfl, ho, hc, hd⟩ := t v (.head _)
    rw [List.mapM_cons]
    refine wpAny_bind ?_
    rw [kas_first_eq]
    refine wpAny_bind (Looks.here (show Looks M s.heap (typeOf (.ref a)) o.cls from (Looks.ld ho).andThen .now) ?_)
    rw [hc, if_neg (by first | decide | simp)]
    refine wpAny_bind (listItems_at ho hd (wpAny_pure ?_))
    exact wpAny_bind (tup_firsts vs (Q := fun bs s' => wpAny M A (pure (xs[0]? :: bs)) Q E s') (fun v hv => t v (.tail _ hv)) fun bs => wpAny_pure (h _))
theorem tup_kind {v : Value} {vs : List Value} {Q : SortKind → Shared → Prop} (h0 : ∃ a o n, v = .ref a ∧ s.heap.get? a = some o ∧ o.cls = .type "tuple" ∧ o.data = .seq #[] n) (ht : ∀ v ∈ vs, IsTupV s.heap v) (h : Q oneType' s) :
    wpAny M A (keyKind' (v :: vs).toArray) Q E s := by
  obtain ⟨a, o, n, rfl, ho, hc, hd⟩ := h0
  have hT : ∀ u ∈ Value.ref a :: vs, Looks M s.heap (typeOf u) (.type "tuple") := fun u hu => by
    rcases List.mem_cons.mp hu with rfl | hu
    · exact hc ▸ (Looks.ld ho).andThen .now
    · obtain ⟨a', o', xs', n', rfl, ho', hc', _⟩ := ht u hu
      exact hc' ▸ (Looks.ld ho').andThen .now
  rw [kat_kind_eq, List.mapM_toArray, map_eq_pure_bind, List.mapM_cons]
  refine wpAny_bind (wpAny_bind (wpAny_bind ?_))
  rw [kas_first_eq]
  refine wpAny_bind (Looks.here (show Looks M s.heap (typeOf (.ref a)) o.cls from (Looks.ld ho).andThen .now) ?_)
  rw [hc, if_neg (by first | decide | simp)]
  refine wpAny_bind (listItems_at ho hd (wpAny_pure ?_))
  refine wpAny_bind (tup_firsts vs ht fun bs => wpAny_pure (wpAny_pure ?_))
  rw [if_neg (by simp), if_neg (by simp)]
  rw [oneTypeOnly'_eq, List.mapM_toArray, map_eq_pure_bind]
  refine wpAny_bind (wpAny_bind (wpAny_bind (kas_mapM (r := .type "tuple") _ (fun v hv Q' hq => (hT v hv).here hq) (wpAny_pure ?_))))
  have hall : ((List.map (fun _ => Value.type "tuple") (Value.ref a :: vs)).toArray.all fun x => x == Value.type "tuple") = true := by
    simp only [List.all_toArray, List.all_map, List.all_eq_true]
    intro _ _
    exact beq_self_eq_true _
  have h0 : (List.map (fun _ => Value.type "tuple") (Value.ref a :: vs)).toArray[0]? = some (.type "tuple") := by simp
  rw [h0]
  simp only [hall, if_true]
  exact wpAny_pure (wpAny_pure h)
end
/-- what can be sorted: as the library has it, or tuples of which the first is empty -/
def Sortable2 (ds : List PyData) : Prop := Sortable ds ∨ ((∀ d ∈ ds, ∃ xs, d = .tuple xs) ∧ ∃ r, ds = .tuple [] :: r)
theorem sortsAt2 {prog : Program} {w : World} {A : Around} {s : Shared} {vs : List Value} {ds : List PyData} (e : EachIs (fun v d => ∃ as, Reads s.heap v d as) vs ds) (hal : AllAlike ds) (hk : Sortable2 ds) (hu : ∀ d, d ∈ ds → A.units + d.depth < cLine) : SortsAt prog w A s (dataKind s.heap ds) vs := by
  rcases hk with hk | ⟨ht, r, rfl⟩
  · exact SortsAt.data e hal hk hu
  · have room : ∀ {d d' : PyData}, d ∈ PyData.tuple [] :: r → A.units + min d.depth d'.depth < cLine := fun {d d'} hd => Nat.lt_of_le_of_lt (Nat.add_le_add_left (Nat.min_le_left _ _) _) (hu d hd)
    refine ⟨fun v hv => ?_, ?_⟩
    · obtain ⟨d, hd, as, r⟩ := e.left v hv
      exact ⟨_, dataKind_some hal hd r⟩
    · refine ⟨oneType', ?_, fun _ E Q hq => ?_⟩
      · intro E x y a b Q ha hb hq
        obtain ⟨d, as, hd, ra, rfl⟩ := dataKind_inv ha
        obtain ⟨d', as', hd', rb, rfl⟩ := dataKind_inv hb
        rw [keyLt'_oneType]
        obtain ⟨xs, rfl⟩ := ht d hd
        obtain ⟨ys, rfl⟩ := ht d' hd'
        exact oneLt_tuples ra rb (hal _ hd _ hd') (room hd) hq
      · have tupv : ∀ {v : Value} {xs : List PyData} {as : List Addr}, Reads s.heap v (.tuple xs) as → IsTupV s.heap v := fun {v xs as} q => by
          cases q with
          | @tuple l o vs n _ _ h1 h2 h3 h4 => exact ⟨l, o, vs, n, rfl, h1, h2, h3⟩
        cases e with
        | cons h t =>
          obtain ⟨as, q⟩ := h
          refine tup_kind ?_ (fun v hv => ?_) hq
          · cases q with
            | @tuple l o vs n _ _ h1 h2 h3 h4 =>
              have : vs.size = 0 := by simpa using ReadsAll.length _ _ _ h4
              rw [Array.eq_empty_of_size_eq_zero this] at h3
              exact ⟨l, o, n, rfl, h1, h2, h3⟩
          · obtain ⟨d, hd, as', r'⟩ := t.left v hv
            obtain ⟨xs, rfl⟩ := ht d (.tail _ hd)
            exact tupv r'
/-- data of one make -/
class TyA {α : Type} (T : α → S) [TyD T] : Prop where
  al : ∀ x y : α, alike (TyD.d T x) (TyD.d T y) = true
section
variable {α β : Type} {T : α → S} {U : β → S}
theorem alike_each [TyD T] [TyA T] : ∀ xs ys : List α, alikeAll (xs.map (TyD.d T)) (ys.map (TyD.d T)) = true
  | [], _ => by simp [alikeAll]
  | _ :: _, [] => by simp [alikeAll]
  | x :: xs, y :: ys => by
    rw [List.map_cons, List.map_cons]
    simp only [alikeAll, Bool.and_eq_true]
    exact ⟨TyA.al x y, alike_each xs ys⟩
instance : TyA sInt := ⟨fun x y => by simp [TyD.d, alike]⟩
instance : TyA sNat := ⟨fun x y => by simp [TyD.d, alike]⟩
instance : TyA sBool := ⟨fun x y => by simp [TyD.d, alike]⟩
instance : TyA sStr := ⟨fun x y => by simp [TyD.d, alike]⟩
instance [TyD T] [TyA T] : TyA (fun xs => sO (oLst T xs)) := ⟨fun x y => by
  show alike (.list _) (.list _) = true
  simp only [alike]
  exact alike_each x y⟩
instance [TyD T] [TyA T] : TyA (fun xs => sO (oTup T xs)) := ⟨fun x y => by
  show alike (.tuple _) (.tuple _) = true
  simp only [alike]
  exact alike_each x y⟩
instance [TyD T] [TyA T] : TyA (sLst T) := inferInstanceAs (TyA (fun xs => sO (oLst T xs)))
instance [TyD T] [TyA T] : TyA (sTup T) := inferInstanceAs (TyA (fun xs => sO (oTup T xs)))
instance [TyD T] [TyD U] [TyA T] [TyA U] : TyA (sPair T U) := ⟨fun x y => by
  show alike (.tuple [_, _]) (.tuple [_, _]) = true
  simp only [alike, alikeAll, Bool.and_true, Bool.and_eq_true]
  exact ⟨TyA.al x.1 y.1, TyA.al x.2 y.2⟩⟩
/-- the sorted list -/
noncomputable def srt (T : α → S) [TyD T] (xs : List α) : List α := xs.mergeSort (dataLe false (TyD.d T))
end
section
open L2
variable {α β : Type} {T : α → S} {U : β → S}
theorem its_back {F : Hp} : ∀ {out : List Value} {xs : List α}, EachIs (fun u b => ∃ v, RelV v u ∧ (T b).r F v) out xs → ∃ ys, Vals ys out ∧ Its T F xs ys
  | _, _, .nil => ⟨[], .nil, .nil⟩
  | _, _, .cons ⟨v, h1, h2⟩ t => by
    obtain ⟨ys, h3, h4⟩ := its_back t
    exact ⟨v :: ys, .cons h1 h3, .cons h2 h4⟩
theorem its_each {F : Hp} : ∀ {xs : List α} {ws : List V} {its : List Value}, Its T F xs ws → Vals ws its → EachIs (fun u b => ∃ v, RelV v u ∧ (T b).r F v) its xs
  | [], ws, its, h, r => by
    have h' : Paired (fun x v => (T x).r F v) [] ws := h
    cases h'
    cases r
    exact .nil
  | x :: xs, ws, its, h, r => by
    have h' : Paired (fun x v => (T x).r F v) (x :: xs) ws := h
    cases h' with
    | cons h1 h2 =>
      cases r with
      | cons r1 r2 => exact .cons ⟨_, r1, h1⟩ (its_each (show Its T F xs _ from h2) r2)
theorem its_mem {F : Hp} : ∀ {xs : List α} {ws : List V}, Its T F xs ws → ∀ b ∈ xs, ∃ v, (T b).r F v
  | [], ws, h, b, hb => by cases hb
  | x :: xs, ws, h, b, hb => by
    have h' : Paired (fun x v => (T x).r F v) (x :: xs) ws := h
    cases h' with
    | cons h1 h2 =>
      rcases List.mem_cons.mp hb with e | hb
      · exact ⟨_, e ▸ h1⟩
      · exact its_mem (show Its T F xs _ from h2) b hb
theorem cr_sortedD {X : Cx} {k : Nat} [TyD T] [TyA T] (hr : Room k X.A) (hd : TyD.dep T ≤ 60) : CallR X (.builtin "sorted") (fun vs H Q => ∃ (F : Hp) (a : Addr) (ws : List V) (xs : List α), Same F H ∧ vs = [.ref a] ∧ SqL X.K H a ws ∧ Its T F xs ws ∧ Sortable2 (xs.map (TyD.d T)) ∧ ∀ ys p, Its T F (srt T xs) ys → H p = none → Q (.ref p) (upd H p (.lst ys))) := by
  intro pins s σ H vs us Q I r h
  obtain ⟨F, a, ws, xs, sF, rfl, hs, hi, hso, q⟩ := h
  obtain ⟨its, rv, hl, hz⟩ := I.list hs
  rw [Vals.ref1 r]
  have e := its_each hi rv
  have er0 : EachIs (fun u b => ∃ as, Reads s.heap u (TyD.d T b) as) its xs := e.mono fun u b ⟨v, r1, r2⟩ => Dp.reads I (TyD.d T b) v u (dp_same sF (TyD.ok r2).1) r1
  have er : EachIs (fun u b => ∃ as, Reads (sortingHeap (copyHeap s.heap its) (s.heap.objs.size + 1) its) u (TyD.d T b) as) its xs := er0.mono fun _ _ ⟨as, r⟩ => ⟨as, PyProof.Rows.Reads.keeps (fun _ _ => sorting_copy_old) r⟩
  have hal : AllAlike (xs.map (TyD.d T)) := AllAlike.of TyA.al
  have hdep : ∀ b ∈ xs, (TyD.d T b).depth ≤ 60 := fun b hb => by
    obtain ⟨v, r2⟩ := its_mem hi b hb
    exact Nat.le_trans (TyD.ok (K := X.K) r2).2.2 hd
  have hun := hr.un
  refine sorted_vals hl.isList (sortsAt2 (s := { s with heap := sortingHeap (copyHeap s.heap its) (s.heap.objs.size + 1) its }) (each_map (R := fun v d => ∃ as, Reads (sortingHeap (copyHeap s.heap its) (s.heap.objs.size + 1) its) v d as) (TyD.d T) er) hal hso fun d hd' => ?_) (by have h4 : its.length = ws.length := rv.length.symm; omega) ?_
  · obtain ⟨b, hb, rfl⟩ := List.mem_map.mp hd'
    have := hdep b hb
    show X.A.units + 2 + _ < cLine
    omega
  · obtain ⟨ys, hv, hys⟩ := its_back (sortVals_data false e er hal)
    obtain ⟨ep, he'⟩ := PyProof.Rows.sortedAll_at s.heap its (List.toArray _)
    have hlen : ys.length ≤ sizeLine := by
      have h1 : ys.length = (srt T xs).length := hys.len
      have h2 : (srt T xs).length = xs.length := List.length_mergeSort _
      have h3 : ws.length = xs.length := hi.len
      have h4 : its.length = ws.length := rv.length.symm
      omega
    exact ⟨.ref _, upd H (s.heap.objs.size + 1) (.lst ys), I.laid (t' := s.toks) (fun _ _ => PyProof.Rows.sortedAll_old) (Nat.le_succ _) ⟨hlen, _, ep, hv, he'⟩, rfl, q ys _ hys (I.hok.fresh (Nat.le_succ _))⟩
end
section
open L2
variable {X : Cx} {ss : List Sl} {a : Expr} {ρ : R} {pos p : Pos} {α : Type} {T : α → S} {xs : List α} {k : Nat}
theorem ev_sortedD [TyD T] [TyA T] (hr : Room k X.A) (hm : X.mg "sorted" = none) [hq : AsLs X.K ρ T xs] (ha : EvE X ss a ρ) (hso : Sortable2 (xs.map (TyD.d T))) (hd : TyD.dep T ≤ 60 := by decide) (hg : Gl X "sorted" := by rfl) (he : starEach [a] X.env = (false, eval a X.env) :: starEach [] X.env := by exact star_ok rfl) (hpl : (backTo pos (starEach [] X.env)).any (·.1) = false := by rfl) :
    EvN X ss (.Call (.Name "sorted" p) [a] [] pos) (oLst T (srt T xs)) := .mk fun B F H σ h Q q =>
  toE (pe_callB (cr_sortedD (T := T) hr hd) hg hm (by decide +kernel) PAw (by decide) (by decide) he hpl) (ea_cons ha ea_nil he B F H σ h _ fun vs F1 H1 g1 rs => by
    cases rs with
    | cons r rr =>
      cases rr
      obtain ⟨p1, ws, e1, hw, hi⟩ := hq.w F1 H1 _ g1.s r
      subst e1
      refine ⟨F1, p1, ws, xs, g1.s, rfl, hw, hi, hso, fun ys l hs nl => ?_⟩
      exact fresh1 q g1 nl ⟨_, hp1_same, hs⟩)
theorem srt_perm [TyD T] (xs : List α) : (srt T xs).Perm xs := List.mergeSort_perm _ _
end
end Sx
namespace Sx.HTX
open PySem PyProof.Rows PySem.SeqAt HT PySem.W
section
variable {prog : Program} {w : World} {A : Around} {E : Value → Shared → Prop} {s : Shared}
theorem sliceApplied_rev {sl : Addr} {n : Nat} {u : Tok} {Q : Int × Int × Nat → Shared → Prop} (hs : s.heap.IsSliceOf sl .none .none (.int (-1) u)) (h : Q ((n : Int) - 1, -1, n) s) : wpAny (model prog w) A (Builtin.Slice.sliceApplied (.ref sl) (pure (n : Int))) Q E s := by
  obtain ⟨os, hos, hcs, hds⟩ := id hs
  unfold Builtin.Slice.sliceApplied Builtin.Slice.sliceFields
  refine wpAny_bind (wpAny_bind (wpAny_field hos hds (x := .none) rfl (wpAny_bind (wpAny_field hos hds (x := .none) rfl (wpAny_bind (wpAny_field hos hds (x := .int (-1) u) rfl (wpAny_pure ?_)))))))
  refine wpAny_bind (slicePart_int ?_)
  show wpAny _ _ (if ((-1 : Int) == 0) = true then _ else _) _ _ s
  rw [if_neg (by decide)]
  refine wpAny_bind (slicePart_none (wpAny_bind (slicePart_none (wpAny_bind (wpAny_pure ?_)))))
  show wpAny _ _ (pure ((n : Int) - 1, (-1 : Int), Builtin.Slice.slicePlaces ((n : Int) - 1) (-1) (-1))) _ _ s
  have e : Builtin.Slice.slicePlaces ((n : Int) - 1) (-1) (-1) = n := by
    unfold Builtin.Slice.slicePlaces
    have h1 : ¬ ((-1 : Int) > 0) := by decide
    simp only [h1, if_false]
    split
    · rw [show (-(-1) : Int) = 1 by decide, Int.ediv_one]
      omega
    · omega
  rw [e]
  exact wpAny_pure h
theorem pick_rev (xs : Array Value) : ((List.range xs.size).filterMap fun (m : Nat) => xs[(((xs.size : Int) - 1) + (m : Int) * (-1)).toNat]?).toArray = xs.toList.reverse.toArray := by
  have e : ((List.range xs.size).filterMap fun (m : Nat) => xs[(((xs.size : Int) - 1) + (m : Int) * (-1)).toNat]?) = ((List.range xs.size).map fun k => xs.size - 1 - k).filterMap (xs[·]?) := by
    rw [List.filterMap_map]
    congr 1
    funext m
    have e2 : (((xs.size : Int) - 1) + (m : Int) * (-1)).toNat = xs.size - 1 - m := by omega
    show xs[_]? = xs[xs.size - 1 - m]?
    rw [e2]
  rw [e, krv_range, List.filterMap_reverse, krv_all]
theorem getItem_tuple_rev {t sl : Addr} {items : Array Value} {u : Tok} {Q : Value → Shared → Prop} (ht : IsTup s.heap t items) (hs : s.heap.IsSliceOf sl .none .none (.int (-1) u))
    (h : Q (.ref s.heap.objs.size) { s with heap := s.heap.push { cls := .type "tuple", data := .seq items.toList.reverse.toArray } })
    (hsz : items.size ≤ sizeLine) : wpAny (model prog w) A (getItem (.ref t) (.ref sl)) Q E s := by
  have htake : sizeOk (.seq items.toList.reverse.toArray) := by
    show items.toList.reverse.toArray.size ≤ sizeLine
    rw [List.size_toArray, List.length_reverse, Array.length_toList]
    exact hsz
  obtain ⟨os, hos, hcs, hds⟩ := id hs
  have hTs : s.TypeIs (.ref sl) "slice" := ⟨os, hos, hcs⟩
  unfold getItem
  try with_reducible refine wpAny_holding ?_
  first | refine wpAny_bind (wpAny_pure ?_) | skip
  refine wpAny_bind (wpAny_sequenceKey ht.typeIs (by decide) ?_)
  refine wpAny_bind (wpAny_callSpecial?_slot (name := Str.ofString "__getitem__") ht.typeIs PyProof.Rows.slot_tuple_getitem
    (wpAny_call_entry PyProof.Rows.slot_tuple_getitem ht.typeIs entry_tuple_getitem ?_ (args_tuple_getitem _ _)))
  show wpAny _ _ (Builtin.Tuple.tupleItemsOf (.ref t) >>= _) _ _ s
  refine wpAny_bind (tupleItemsOf_ ht ?_)
  refine wpAny_bind (wpAny_typeOf hTs ?_)
  rw [if_pos (by decide)]
  refine wpAny_bind (sliceApplied_rev hs ?_)
  have hno : ¬ ((((items.size : Int) - 1) == 0 && (-1 : Int) == 1 && items.size == items.size) = true) := by
    intro q
    rw [Bool.and_eq_true, Bool.and_eq_true] at q
    exact absurd q.1.2 (by decide)
  show wpAny _ _ (if (((items.size : Int) - 1) == 0 && (-1 : Int) == 1 && items.size == items.size) = true then _ else _) _ _ s
  rw [if_neg hno, pick_rev]
  first
    | exact wpAny_bind (m := Builtin.Tuple.tupleExact _) (wpAny_newObj_type (wpAny_pure ⟨_, rfl, wpAny_pure h⟩) htake)
    | exact wpAny_bind (m := Builtin.Tuple.tupleExact _) (wpAny_newObj_type (wpAny_bind (wpAny_pure (wpAny_pure ⟨_, rfl, wpAny_pure h⟩))) htake)
    | exact wpAny_bind (wpAny_bind (m := Builtin.Tuple.tupleExact _) (wpAny_newObj_type (wpAny_pure (wpAny_pure ⟨_, rfl, wpAny_pure h⟩)) htake))
    | exact wpAny_bind (wpAny_bind (m := Builtin.Tuple.tupleExact _) (wpAny_newObj_type (wpAny_pure ⟨_, rfl, wpAny_pure h⟩) htake))
end
end Sx.HTX
namespace Sx
open PySem PySem.Spec PyProof.Rows L2
section
variable {X : Cx} {ss : List Sl} {a : Expr} {es : List Expr} {sts : List Stmt} {D : Ds} {ρ : R} {o o' : O} {pos p : Pos} {α : Type} {T : α → S} {xs : List α} {k : Nat}
/-- an own object, told in other words -/
theorem r_weakO (i : Nat) (hi : ss[i]? = some (.own o)) (w : ∀ F k p, o.r F k p → o'.r F k p) (h : EvSs X (ss.set i (.own o')) sts D) : EvSs X ss sts D := .mk fun B F H σ hs tk => h B F H σ (hs.weakO hi (w F)) tk
theorem its_id {F : Hp} : ∀ {xs : List α} {vs : List V}, Its T F xs vs → Its id F (xs.map T) vs
  | [], vs, h => by
    have h' : Paired (fun x v => (T x).r F v) [] vs := h
    cases h'
    exact .nil
  | x :: xs, vs, h => by
    have h' : Paired (fun x v => (T x).r F v) (x :: xs) vs := h
    cases h' with
    | cons h1 h2 => exact .cons h1 (its_id (show Its T F xs _ from h2))
theorem lst_id {F k : Hp} {p : Addr} (h : (oLst T xs).r F k p) : (oLst id (xs.map T)).r F k p := by
  obtain ⟨vs, h1, h2⟩ := h
  exact ⟨vs, h1, its_id h2⟩
/-- tuple(range(n)) -/
theorem ev_tupRg {n : Int} {p1 p2 : Pos} (hc : X.calm = true) (hl : X.mg "tuple" = none) (hr : X.mg "range" = none) (ha : EvE X ss a (sv (sInt n))) (h0 : -(2 ^ 62) ≤ n) (h1 : n ≤ 16777216) (hg : Gl X "tuple" := by rfl) (hg2 : Gl X "range" := by rfl)
    (na : starEach [a] X.env = (false, eval a X.env) :: starEach [] X.env := by exact star_ok rfl) (nb : starEach [Expr.Call (.Name "range" p2) [a] [] p] X.env = (false, eval (.Call (.Name "range" p2) [a] [] p) X.env) :: starEach [] X.env := by exact star_ok rfl) :
    EvN X ss (.Call (.Name "tuple" p1) [.Call (.Name "range" p2) [a] [] p] [] pos) (oTup sNat (List.range n.toNat)) := .mk fun B F H σ h Q q =>
  toE (pe_tupRg hc hg hl (prg_1 hg2 hr PEw na) nb) (ha B F H σ h _ fun v F1 H1 g r => ⟨n, r, ⟨by decide, by decide, h0, by omega, by omega⟩, fun p np => fresh1 q g np ⟨_, hp1_same, its_rg n⟩⟩)
/-- t[::-1], a tuple -/
def tRevT (K : PySem.W.Frag) (te : TE) : TE := fun σ H Q => te σ H fun x H1 => ∃ a xs, x = .ref a ∧ SqT K H1 a xs ∧ ∀ p, H1 p = none → Q (.ref p) (upd H1 p (.tup xs.reverse))
theorem pe_revT {e : Expr} {te : TE} {k : Nat} {p1 p2 p3 pos : Pos} (he : PE X e te) : PE X (.Subscript e (.Slice none none (some (.UnaryOp .USub (.Constant (.int 1) k p1) p2)) p3) pos) (tRevT X.K te) := by
  refine ⟨fun pins s σ H Q I h => ?_⟩
  refine Subscript_ (thn (he.run pins s σ H _ I h) fun v s1 ⟨x, H1, I1, r1, q1⟩ => ?_)
  obtain ⟨a, xs, ex, hx, q⟩ := q1
  subst ex
  cases r1
  have hst : PO X (some (.UnaryOp .USub (.Constant (.int 1) k p1) p2)) (tPart (tUn (rU fun i => .int (-i)) (tC (.int 1)))) := po_some (pe_un un_neg pe_int)
  refine wpAny_Slice (thn (po_none.run pins s1 σ H1 (fun o H2 => o = none ∧ H2 = H1) I1 ⟨rfl, rfl⟩) fun vl s2 ⟨l, H2, I2, pl, el, e2⟩ => ?_)
  subst el e2
  refine thn (po_none.run pins s2 σ H2 (fun o H3 => o = none ∧ H3 = H2) I2 ⟨rfl, rfl⟩) fun vu s3 ⟨u, H3, I3, pu, eu, e3⟩ => ?_
  subst eu e3
  refine thn (hst.run pins s3 σ H3 (fun o H4 => o = some (-1) ∧ H4 = H3) I3 ⟨1, rfl, -1, rfl, rfl, rfl⟩) fun vs s4 ⟨o, H4, I4, ps, eo, e4⟩ => ?_
  subst eo e4
  cases pl
  cases pu
  cases ps with
  | int i tk =>
  have I5 : Inv X pins σ H4 { s4 with heap := s4.heap.push { cls := .type "slice", data := .fields #[.none, .none, .int (-1) tk] } } := I4.kept (t' := s4.toks) fun b ob q => Heap.get?_push_of_some _ q
  obtain ⟨its, r, ht, hz⟩ := I5.tuple hx
  have hlen := r.length
  show wpAny (model X.prog X.w) X.A (subscriptTail e (.Slice none none (some (.UnaryOp .USub (.Constant (.int 1) k p1) p2)) p3) (.ref a) (.ref s4.heap.objs.size)) (EP X pins σ Q) X.xe { s4 with heap := s4.heap.push { cls := .type "slice", data := .fields #[.none, .none, .int (-1) tk] } }
  refine tail_any (ops := [.ref a, .ref s4.heap.objs.size]) ht.typeIs (PyProof.Rows.slot_tuple_getitem.lookup) ?_ (by with_unfolding_all rfl)
  refine HTX.getItem_tuple_rev ht (Heap.IsSliceOf.new _ .none .none (.int (-1) tk)) ?_ (by rw [List.size_toArray]; omega)
  refine ⟨.ref _, _, I5.laid (t' := s4.toks) (o := .tup xs.reverse) (fun b ob q => Heap.get?_push_of_some _ q) (Nat.le_refl _) ?_, rfl, q _ (I5.hok.fresh (Nat.le_refl _))⟩
  exact ⟨by rw [List.length_reverse]; exact hz, _, r.reverse, IsTup.new _ _⟩
theorem ev_revT {n : Nat} {p1 p2 p3 : Pos} (ha : EvE X ss a (sv (sO (oTup T xs)))) : EvN X ss (.Subscript a (.Slice none none (some (.UnaryOp .USub (.Constant (.int 1) n p1) p2)) p3) pos) (oTup T xs.reverse) := .mk fun B F H σ h Q q =>
  toE (pe_revT PEw) (ha B F H σ h _ fun v F1 H1 g1 r1 => by
    obtain ⟨p, k, e1, hk, vs, hp, hi⟩ := r1
    subst e1
    exact ⟨p, vs, rfl, SqT.of (g1.s _ _ (hk _ _ hp)), fun p np => fresh1 q g1 np ⟨_, hp1_same, hi.rev⟩⟩)
end
end Sx
namespace Sx
open PySem PySem.Spec PyProof.Rows L2
section
variable {X : Cx} {a b : Expr} {ss : List Sl} {pos : Pos} {k : Nat} {α : Type} [DecidableEq α] {T : α → S} {xs ys : List α}
/-- an own list against a list -/
theorem et_neL (T : α → S) [TyQ T] (hr : Room k X.A) (ha : EvE X ss a (bO (oLst T xs))) (hb : EvE X ss b (sv (sLst T ys))) (h1 : TyD.dep T ≤ 63 := by decide) (h2 : TyD.dep (sLst T) ≤ 64 := by decide) :
    EvT X ss (.Compare a [.NotEq] [b] pos) (!decide (xs = ys)) := by
  rw [← TyQ.q (T := sLst T), show TyD.d (sLst T) xs = .list (xs.map (TyD.d T)) from rfl]
  exact ev_cmpT (op_neD (room64 hr)) ha hb (fun F H v w Q sF rx ry q => by
    obtain ⟨d1, s1⟩ := lst_shaped h1 sF rx
    obtain ⟨d2, s2⟩ := shaped_of (T := sLst T) h2 sF ry
    exact ⟨_, _, d1, d2, s1, s2, q⟩) (nomark _)
theorem ty_lstB {α : Type} {T : α → S} {xs : List α} {K : PySem.W.Frag} {F H : Hp} {v : V} (e : Same F H) (r : (bO (oLst T xs)).r F H v) : TyX K H v (.type "list") := by
  obtain ⟨p, k, rfl, hk, vs, hp, hi⟩ := r
  exact .base (.lst (hk _ _ hp))
end
end Sx
/-! ### xs[n] = v, an own list -/
namespace Sx
open PySem PySem.Spec PyProof.Rows L2
section
variable {X : Cx} {ss : List Sl} {e b : Expr} {D : Ds} {pos pos' : Pos} {α : Type} {T : α → S} {xs : List α} {y : α}
theorem s_setL (i : Nat) {z : Str} {p1 : Pos} {n : Int} {j : Nat} (hi : ss[i]? = some (.own (oLst T xs))) (he : EvE X ss e (sv (T y))) (hb : EvE X ss b (sv (sInt n))) (hj : ixN xs.length n = some j) (kk : D.nx (ss.set i (.own (oLst T (xs.set j y))))) (hN' : X.N[i]? = some z := by rfl)
    (hvs : Vis X.env.scope z := by first | exact Or.inl rfl | exact Or.inr (Or.inl rfl) | exact Or.inr (Or.inr rfl)) (hd : (z == ("__debug__" : Str)) = false := by decide) (hcd : (z == ("__classdict__" : Str)) = false := by decide)
    (hs : swapsWithSole [.Subscript (.Name z p1) b pos'] e pos.line X.env = pure false := by rfl) (hw : swappedStores [.Subscript (.Name z p1) b pos'] e X.env = pure none := by rfl)
    (hasg : ∀ v, assign (.Subscript (.Name z p1) b pos') X.env v = (do
      let ov ← holding [v] (eval (.Name z p1) X.env)
      let iv ← holding [v, ov] (eval b X.env)
      standAt pos'
      holding [v, ov, iv] (setItem ov iv v)
      release [v, ov, iv] []) := by intro _; rfl) : EvS X ss (.Assign [.Subscript (.Name z p1) b pos'] e pos) D := .mk fun B F H σ h tk =>
  toS (ps_asg PEw (pg_sub (pe_var hN' hvs hd hcd) PEw set_list hasg) hs hw) (he B F H σ h _ fun v F1 H1 g1 r1 => by
    obtain ⟨d0, c0, e0, _⟩ := (h.grow g1).own hi
    refine ⟨_, e0, hb B F1 H1 σ (h.grow g1) _ fun y2 F2 H2 g2 r2 => ?_⟩
    obtain ⟨d, c, e1, hc, ⟨vs, hd, hk⟩, wr⟩ := ((h.grow g1).grow g2).write hi
    rw [e0] at e1
    cases e1
    have e2 : y2 = V.int n := r2
    subst e2
    obtain ⟨w0, w1, w2, w3⟩ := cell_wr (o1 := .lst (vs.set j v)) hd (fun z => z) (fun a ob ea => (hc a ob ea).1)
    exact ⟨d0, vs, n, j, rfl, rfl, (hc _ _ hd).1, by rw [hk.len]; exact hj, F2, _, wr (oLst T (xs.set j y)) _ _ w0 w1 w2 w3 ⟨_, upd_same, hk.set j ((T y).mono g2.f r1)⟩, kk⟩)
end
end Sx
/-! ### n in (whole numbers ..), a tuple or a list -/
namespace Sx
open PySem PySem.Spec PyProof.Rows L2
theorem inV_nats {F : Hp} {z : Nat} : ∀ {xs : List Nat} {vs : List V}, Its sNat F xs vs → inV (.int (z : Int)) vs = decide (z ∈ xs) ∧ vs.all flatV = true
  | [], vs, h => by
    have e : vs = [] := List.eq_nil_of_length_eq_zero h.len
    subst e
    exact ⟨by simp [inV], rfl⟩
  | x :: xs, vs, h => by
    have h' : Paired (fun x v => (sNat x).r F v) (x :: xs) vs := h
    cases h' with
    | cons r t =>
      have e : _ = V.int (x : Int) := r
      subst e
      obtain ⟨a1, a2⟩ := inV_nats (F := F) (z := z) (show Its sNat F _ _ from t)
      refine ⟨?_, by rw [List.all_cons, a2]; rfl⟩
      unfold inV at a1 ⊢
      rw [List.any_cons, a1]
      by_cases hz : x = z
      · subst hz
        simp [eqV]
      · have hz' : ¬ z = x := fun q => hz q.symm
        have hz2 : ¬ (x : Int) = (z : Int) := fun q => hz (Int.ofNat.inj q)
        simp [eqV, hz', hz2]
section
variable {X : Cx} {ss : List Sl} {a b : Expr} {ρ : R} {pos : Pos} {z : Nat} {xs : List Nat}
theorem ev_inI [hq : AsSq X.K ρ sNat xs] (ha : EvE X ss a (sv (sNat z))) (hb : EvE X ss b ρ) (hm : behindInMarks .In b = false := by rfl) : EvE X ss (.Compare a [.In] [b] pos) (sv (sBool (inB z xs))) :=
  ev_cmp op_in_seq ha hb (fun F H v w Q sF e1 e2 q => by
    obtain ⟨p, vs, e3, hs, hi⟩ := hq.w F H w sF e2
    obtain ⟨a1, a2⟩ := inV_nats (z := z) hi
    rw [show v = V.int (z : Int) from e1]
    refine ⟨p, vs, e3, hs, rfl, a2, ?_⟩
    rw [if_neg Bool.false_ne_true, a1]
    exact q _ F H (.refl sF) rfl) hm
theorem et_inI [hq : AsSq X.K ρ sNat xs] (ha : EvE X ss a (sv (sNat z))) (hb : EvE X ss b ρ) (hm : behindInMarks .In b = false := by rfl) : EvT X ss (.Compare a [.In] [b] pos) (inB z xs) :=
  ev_cmpT op_in_seq ha hb (fun F H v w Q sF e1 e2 q => by
    obtain ⟨p, vs, e3, hs, hi⟩ := hq.w F H w sF e2
    obtain ⟨a1, a2⟩ := inV_nats (z := z) hi
    rw [show v = V.int (z : Int) from e1]
    refine ⟨p, vs, e3, hs, rfl, a2, ?_⟩
    rw [if_neg Bool.false_ne_true, a1]
    exact q) hm
theorem et_ninI [hq : AsSq X.K ρ sNat xs] (ha : EvE X ss a (sv (sNat z))) (hb : EvE X ss b ρ) (hm : behindInMarks .NotIn b = false := by rfl) : EvT X ss (.Compare a [.NotIn] [b] pos) (!inB z xs) :=
  ev_cmpT op_notIn_seq ha hb (fun F H v w Q sF e1 e2 q => by
    obtain ⟨p, vs, e3, hs, hi⟩ := hq.w F H w sF e2
    obtain ⟨a1, a2⟩ := inV_nats (z := z) hi
    rw [show v = V.int (z : Int) from e1]
    refine ⟨p, vs, e3, hs, rfl, a2, ?_⟩
    rw [if_pos rfl, a1]
    exact q) hm
end
end Sx
namespace My
open PySem PySem.Spec PyProof.Rows L2 Sx
def topS (i : Nat) : Stmt := PySem.Challenge.pw_caseslive_k04_processes_are_checked.main.body.getD i (.Pass ⟨0, 0, 0, 0⟩)
abbrev s_is_size : Stmt := topS 9
theorem sc_is_size : FnScope ["value"] ["value"] (defScope s_is_size) := ⟨rfl, rfl, rfl, by decide +kernel, rfl, by decide +kernel, by decide +kernel⟩
abbrev s_is_sign : Stmt := topS 10
theorem sc_is_sign : FnScope ["value", "strange", "letter"] ["value"] (defScope s_is_sign) := ⟨rfl, rfl, rfl, by decide +kernel, rfl, by decide +kernel, by decide +kernel⟩
abbrev s_is_well_formed : Stmt := topS 11
theorem sc_is_well_formed : FnScope ["size", "window", "opening", "sign", "closing", "others"] ["size", "window"] (defScope s_is_well_formed) := ⟨rfl, rfl, rfl, by decide +kernel, rfl, by decide +kernel, by decide +kernel⟩
abbrev s_check_window : Stmt := topS 12
theorem sc_check_window : FnScope ["size", "window", "signs", "sign"] ["size", "window"] (defScope s_check_window) := ⟨rfl, rfl, rfl, by decide +kernel, rfl, by decide +kernel, by decide +kernel⟩
abbrev s_Process__init__ : Stmt := inClass (topS 13) 0
theorem sc_Process__init__ : FnScope ["self", "size", "windows", "window"] ["self", "size", "windows"] (defScope s_Process__init__) := ⟨rfl, rfl, rfl, by decide +kernel, rfl, by decide +kernel, by decide +kernel⟩
abbrev s_Processhas_window : Stmt := inClass (topS 13) 1
theorem sc_Processhas_window : FnScope ["self", "window"] ["self", "window"] (defScope s_Processhas_window) := ⟨rfl, rfl, rfl, by decide +kernel, rfl, by decide +kernel, by decide +kernel⟩
abbrev s_law_cell : Stmt := topS 15
theorem sc_law_cell : FnScope ["script", "k"] ["script", "k"] (defScope s_law_cell) := ⟨rfl, rfl, rfl, by decide +kernel, rfl, by decide +kernel, by decide +kernel⟩
abbrev s_law_row : Stmt := topS 16
theorem sc_law_row : FnScope ["cell", "count", "row", "rest", "seed", "k"] ["cell", "count"] (defScope s_law_row) := ⟨rfl, rfl, rfl, by decide +kernel, rfl, by decide +kernel, by decide +kernel⟩
abbrev s_law_window : Stmt := topS 17
theorem sc_law_window : FnScope ["number", "size", "signs", "begins", "ends", "row", "k"] ["number", "size"] (defScope s_law_window) := ⟨rfl, rfl, rfl, by decide +kernel, rfl, by decide +kernel, by decide +kernel⟩
abbrev s_law_is_good : Stmt := topS 18
theorem sc_law_is_good : FnScope ["window", "size", "inner", "k", "begins", "ends"] ["window", "size"] (defScope s_law_is_good) := ⟨rfl, rfl, rfl, by decide +kernel, rfl, by decide +kernel, by decide +kernel⟩
abbrev s_law_refused : Stmt := topS 19
theorem sc_law_refused : FnScope ["size"] ["size"] (defScope s_law_refused) := ⟨rfl, rfl, rfl, by decide +kernel, rfl, by decide +kernel, by decide +kernel⟩
abbrev s_law : Stmt := topS 20
theorem sc_law : FnScope ["script", "size", "row", "windows", "number", "k", "bad", "fits", "given", "window", "strange", "process", "e"] ["script"] (defScope s_law) := ⟨rfl, rfl, rfl, by decide +kernel, rfl, by decide +kernel, by decide +kernel⟩
section
variable {P : Program} {w : World} {K : PySem.W.Frag} {mg : Str → Option Value} {base : Heap} {f : Addr} {fd : FuncData}
/-! ### small facts -/
theorem sz {n : Nat} (h : n ≤ 16777216) : n ≤ sizeLine := by rw [sizeLine_eq]; exact h
theorem szl {n : Nat} (h : n < 16777216) : n < sizeLine := by rw [sizeLine_eq]; exact h
theorem atI_int {α : Type} {xs : List α} {i : Int} (d : α) (h0 : 0 ≤ i) (h1 : i < xs.length) : atI xs i = some (xs.getD i.toNat d) := by
  have e : i = ((i.toNat : Nat) : Int) := by omega
  have hl : i.toNat < xs.length := by omega
  have h := atI_nat (List.getElem?_eq_getElem hl)
  rw [← e] at h
  rw [h]
  simp [List.getD, hl]
theorem atI_n {α : Type} {xs : List α} {k : Nat} (d : α) (h : k < xs.length) : atI xs (k : Int) = some (xs.getD k d) := atI_int d (by omega) (by omega)
theorem len_app (x y : Str) : (x ++ y).length = x.length + y.length := Array.size_append
theorem foldl_take {α β : Type} {f : β → α → β} {b : β} {xs : List α} {k : Nat} {x : α} (h : xs[k]? = some x) : (xs.take (k + 1)).foldl f b = f ((xs.take k).foldl f b) x := by
  rw [List.take_add_one, h, Option.toList_some, List.foldl_append]
  rfl
theorem take_all {α : Type} (xs : List α) : xs.take xs.length = xs := List.take_length
def cellN (ns : List Int) (k : Nat) : Int := ns.getD k 0
def Phi_law_cell (K : PySem.W.Frag) (as : List S) (s : S) : Prop := ∃ (ns : List Int) (k : Nat), as = [sLq K sInt ns, sInt (k : Int)] ∧ s = sInt (cellN ns k)
theorem ok_law_cell (F : FunE K "_law_cell" "_law_cell" s_law_cell f fd) (m_len : mg "len" = none) : FnOk P w K mg base CX0 1 f fd ["script", "k"] (spOf (Phi_law_cell K)) := by
  refine fn_ok F sc_law_cell (fun as s h => by obtain ⟨ns, k, rfl, _⟩ := h; rfl) (fun cdv A outer s0 H0 E as s hr h => ?_)
  obtain ⟨ns, k, rfl, rfl⟩ := h
  refine r_cons (s_if (et_lt (ev_var 1 rfl) (ev_len m_len (ev_var 0 rfl).lq)) (fun h1 => ?_) (fun h1 => ?_))
  · have hk : k < ns.length := by have := of_decide_eq_true h1; omega
    exact r_one (s_ret (ev_ix (ev_var 0 rfl).lq (ev_var 1 rfl) (atI_n 0 hk)) (fun _ _ r => r))
  · have hk : ¬ k < ns.length := by have := of_decide_eq_false h1; omega
    exact r_nil (r_one (s_ret ev_int (fun _ _ r => by
      have e : cellN ns k = 0 := by simp [cellN, List.getD, hk]
      rw [e]; exact r)))
def rowSt (c : Int) : Nat → List Int × Int × Int
  | 0 => ([], c, c % 2147483629 + 1)
  | k + 1 => if 10 ^ 18 ≤ c then ((rowSt c k).1 ++ [(rowSt c k).2.1 % 840], (rowSt c k).2.1 / 840, (rowSt c k).2.2)
    else ((rowSt c k).1 ++ [((rowSt c k).2.2 * 48271 + k) % 2147483647 * 69621 % 2147483629 / 7 % 840], (rowSt c k).2.1, ((rowSt c k).2.2 * 48271 + k) % 2147483647)
@[irreducible] def lawRow (c : Int) (n : Nat) : List Int := (rowSt c n).1
theorem lawRow_eq (c : Int) (n : Nat) : lawRow c n = (rowSt c n).1 := by unfold lawRow; rfl
theorem rowSt_big {c : Int} (h : 10 ^ 18 ≤ c) (k : Nat) : rowSt c (k + 1) = ((rowSt c k).1 ++ [(rowSt c k).2.1 % 840], (rowSt c k).2.1 / 840, (rowSt c k).2.2) := if_pos h
theorem rowSt_small {c : Int} (h : ¬ 10 ^ 18 ≤ c) (k : Nat) : rowSt c (k + 1) = ((rowSt c k).1 ++ [((rowSt c k).2.2 * 48271 + k) % 2147483647 * 69621 % 2147483629 / 7 % 840], (rowSt c k).2.1, ((rowSt c k).2.2 * 48271 + k) % 2147483647) := if_neg h
theorem rowSt_ok (c : Int) : ∀ k, (rowSt c k).1.length = k ∧ (∀ x ∈ (rowSt c k).1, 0 ≤ x ∧ x < 840) ∧ 0 ≤ (rowSt c k).2.2 ∧ (rowSt c k).2.2 < 2147483648
  | 0 => by
    refine ⟨rfl, fun x hx => ?_, ?_, ?_⟩
    · have hx' : x ∈ ([] : List Int) := hx
      cases hx'
    · show 0 ≤ c % 2147483629 + 1
      omega
    · show c % 2147483629 + 1 < 2147483648
      omega
  | k + 1 => by
    obtain ⟨h1, h2, h3, h4⟩ := rowSt_ok c k
    by_cases h : 10 ^ 18 ≤ c
    · rw [rowSt_big h]
      refine ⟨by simp [h1], fun x hx => ?_, h3, h4⟩
      rcases List.mem_append.mp hx with q | q
      · exact h2 x q
      · have e : x = (rowSt c k).2.1 % 840 := by simpa using q
        omega
    · rw [rowSt_small h]
      refine ⟨by simp [h1], fun x hx => ?_, ?_, ?_⟩
      · rcases List.mem_append.mp hx with q | q
        · exact h2 x q
        · have e : x = ((rowSt c k).2.2 * 48271 + k) % 2147483647 * 69621 % 2147483629 / 7 % 840 := by simpa using q
          omega
      · show 0 ≤ ((rowSt c k).2.2 * 48271 + k) % 2147483647
        omega
      · show ((rowSt c k).2.2 * 48271 + k) % 2147483647 < 2147483648
        omega
theorem lawRow_len (c : Int) (n : Nat) : (lawRow c n).length = n := by rw [lawRow_eq]; exact (rowSt_ok c n).1
theorem lawRow_mem {c : Int} {n : Nat} {x : Int} (h : x ∈ lawRow c n) : 0 ≤ x ∧ x < 840 := by rw [lawRow_eq] at h; exact (rowSt_ok c n).2.1 x h
theorem lawRow_get {c : Int} {n k : Nat} : 0 ≤ (lawRow c n).getD k 0 ∧ (lawRow c n).getD k 0 < 840 := by
  by_cases h : k < (lawRow c n).length
  · have e : (lawRow c n).getD k 0 = (lawRow c n)[k] := by simp [List.getD, h]
    rw [e]
    exact lawRow_mem (List.getElem_mem h)
  · have e : (lawRow c n).getD k 0 = 0 := by simp [List.getD, h]
    rw [e]
    decide
def Phi_law_row (as : List S) (s : S) : Prop := ∃ (c : Int) (n : Nat), as = [sInt c, sInt (n : Int)] ∧ n ≤ 1000000 ∧ s = sLst sInt (lawRow c n)
theorem ok_law_row (F : FunE K "_law_row" "_law_row" s_law_row f fd) (m_range : mg "range" = none) (m_int : mg "int" = none) : FnOk P w K mg base CX0 1 f fd ["cell", "count"] (spOf Phi_law_row) := by
  refine fn_ok F sc_law_row (fun as s h => by obtain ⟨c, n, rfl, _⟩ := h; rfl) (fun cdv A outer s0 H0 E as s hr h => ?_)
  obtain ⟨c, n, rfl, hn, rfl⟩ := h
  refine r_cons (s_asgN 2 sc_law_row.nd (ev_lst (T := sInt) em_nil (Nat.zero_le _)) ?_)
  refine r_cons (s_asg 3 sc_law_row.nd (ev_var 0 rfl) ?_)
  refine r_cons (s_asg 4 sc_law_row.nd (ev_add (ev_mod (ev_intI m_int (ev_var 0 rfl)) ev_int (by decide)) ev_int) ?_)
  refine r_cons (s_forR 5 PassesOwn.never rfl sc_law_row.nd m_range (fun k ss' => ∃ x, ss' = [.val (sInt c), .val (sInt n), .own (oLst sInt (rowSt c k).1), .val (sInt (rowSt c k).2.1), .val (sInt (rowSt c k).2.2), x])
    (ev_var 1 rfl) (by omega) ⟨_, rfl⟩ ?_ ?_)
  · rintro k ss' hk ⟨x, rfl⟩
    obtain ⟨h1, _, h3, h4⟩ := rowSt_ok c k
    have hl : (rowSt c k).1.length < sizeLine := szl (by rw [h1]; omega)
    refine r_one (s_if (et_ge (ev_var 0 rfl) (ev_pow ev_int ev_int ⟨by decide, by decide, by decide⟩)) (fun hc => ?_) (fun hc => ?_))
    · refine r_cons (s_app 2 rfl (ev_mod (ev_intI m_int (ev_var 3 rfl)) ev_int (by decide)) hl ?_)
      refine r_one (s_asg 3 sc_law_row.nd (ev_div (ev_var 3 rfl) ev_int ⟨by decide, by decide⟩) ?_)
      refine ⟨.val (sInt (k : Int)), ?_⟩
      rw [rowSt_big (of_decide_eq_true hc)]
      rfl
    · refine r_cons (s_asg 4 sc_law_row.nd (ev_mod (ev_intI m_int (ev_add (ev_mul (ev_var 4 rfl) ev_int (.inr ⟨by decide, by decide⟩)) (ev_var 5 rfl))) ev_int (by decide)) ?_)
      refine r_one (s_app 2 rfl (ev_mod (ev_div (ev_mod (ev_intI m_int (ev_mul (ev_var 4 rfl) ev_int (.inr ⟨by decide, by decide⟩))) ev_int (by decide)) ev_int ⟨by decide, by decide⟩) ev_int (by decide)) hl ?_)
      refine ⟨.val (sInt (k : Int)), ?_⟩
      rw [rowSt_small (of_decide_eq_false hc)]
      rfl
  · rintro ss' ⟨x, rfl⟩
    exact r_pub 2 rfl (r_one (s_ret (ev_var 2 rfl) (fun F v hv => by rw [lawRow_eq]; exact hv)))
def lettersS : Str := "abcdefghijklmnopqrstuvwxyz"
def let1 (i : Int) : Str := ⟨#[97 + (i % 26).toNat]⟩
theorem letters_get : ∀ k : Nat, k < 26 → lettersS.cps.toList[k]? = some (97 + k) := by decide +kernel
theorem letters_at (i : Int) : atI lettersS.cps.toList (i % 26) = some (97 + (i % 26).toNat) := by
  have h0 : 0 ≤ i % 26 := by omega
  have e : i % 26 = (((i % 26).toNat : Nat) : Int) := by omega
  have h := atI_nat (letters_get (i % 26).toNat (by omega))
  rw [← e] at h
  exact h
def WordOk (lo hi : Nat) (x : Str) : Prop := lo ≤ x.length ∧ x.length ≤ hi ∧ ∀ n ∈ x.cps.toList, 97 ≤ n ∧ n ≤ 122
theorem let1_ok (i : Int) : WordOk 1 1 (let1 i) := ⟨Nat.le_refl _, Nat.le_refl _, fun n hn => by
  have e : n = 97 + (i % 26).toNat := by simpa [let1] using hn
  omega⟩
theorem WordOk.app {a b c d : Nat} {x y : Str} (hx : WordOk a b x) (hy : WordOk c d y) : WordOk (a + c) (b + d) (x ++ y) := ⟨by rw [len_app]; exact Nat.add_le_add hx.1 hy.1, by rw [len_app]; exact Nat.add_le_add hx.2.1 hy.2.1, fun n hn => by
  have hn' : n ∈ (x.cps ++ y.cps).toList := hn
  rw [Array.toList_append] at hn'
  rcases List.mem_append.mp hn' with q | q
  · exact hx.2.2 n q
  · exact hy.2.2 n q⟩
theorem WordOk.mono {a b c d : Nat} {x : Str} (h : WordOk a b x) (h1 : c ≤ a) (h2 : b ≤ d) : WordOk c d x := ⟨Nat.le_trans h1 h.1, Nat.le_trans h.2.1 h2, h.2.2⟩
theorem WordOk.sz' {a b : Nat} {x y : Str} (h : WordOk a b (x ++ y)) : x.length + y.length ≤ b := by
  have := h.2.1
  rwa [len_app] at this
theorem WordOk.sz {a b : Nat} {x : Str} (h : WordOk a b x) (hb : b ≤ 1000) : x.length ≤ 1000 := Nat.le_trans h.2.1 hb
def wordB (n : Int) : Str := if 0 < n / 26 % 3 then let1 n ++ let1 (n / 3) else let1 n
def lawWord (n : Int) : Str := if n / 26 % 3 = 2 then wordB n ++ let1 (n / 5) ++ let1 (n / 11) ++ let1 (n / 2) else wordB n
theorem wordB_ok (n : Int) : WordOk 1 2 (wordB n) := by
  unfold wordB
  by_cases h : 0 < n / 26 % 3
  · rw [if_pos h]
    exact ((let1_ok n).app (let1_ok _)).mono (by decide) (by decide)
  · rw [if_neg h]
    exact (let1_ok n).mono (by decide) (by decide)
theorem lawWord_ok (n : Int) : WordOk 1 5 (lawWord n) := by
  unfold lawWord
  by_cases h : n / 26 % 3 = 2
  · rw [if_pos h]
    exact ((((wordB_ok n).app (let1_ok _)).app (let1_ok _)).app (let1_ok _)).mono (by decide) (by decide)
  · rw [if_neg h]
    exact (wordB_ok n).mono (by decide) (by decide)
theorem sz1 {n : Nat} (h : n ≤ 2000) : n ≤ sizeLine := sz (Nat.le_trans h (by decide))
def Phi_law_word (as : List S) (s : S) : Prop := ∃ (n : Int), as = [sInt n] ∧ s = sStr (lawWord n)
def nmExt : Str := "abcdefgh"
def nmQ : Str := "q"
def nm1 (r : List Int) (k : Nat) : Str := if r.getD k 0 / 50 % 6 = 5 then cutS (lawWord (r.getD k 0) ++ nmExt) none (some (7 + r.getD k 0 % 2)) else lawWord (r.getD k 0)
def nm2 (r : List Int) (k : Nat) (ns : List Str) : Str := if nm1 r k ∈ ns then cutS (nm1 r k ++ nmQ) (some (-8)) none else nm1 r k
def nmSt (r : List Int) : Nat → List Str
  | 0 => []
  | k + 1 => if nm2 r k (nmSt r k) ∈ nmSt r k then nmSt r k else nmSt r k ++ [nm2 r k (nmSt r k)]
def nmCounts : List Int := [1, 2, 2, 3, 3, 4, 2, 3, 5]
@[irreducible] def nmCount (r : List Int) : Int := nmCounts.getD (r.getD 5 0 % 9).toNat 0
def lawNames (c : Int) : List Str := nmSt (lawRow c 6) (nmCount (lawRow c 6)).toNat
theorem cutS_len (z : Str) (lo hi : Option Int) : (cutS z lo hi).length = HT.sIx z.length z.length hi - HT.sIx z.length 0 lo - 0 - (HT.sIx z.length z.length hi - HT.sIx z.length 0 lo - (z.length - HT.sIx z.length 0 lo)) := by
  have e : z.cps.toList.length = z.length := Array.length_toList
  show (((z.cps.toList.drop (HT.sIx z.length 0 lo)).take (HT.sIx z.length z.length hi - HT.sIx z.length 0 lo)).toArray).size = _
  rw [List.size_toArray, List.length_take, List.length_drop, e]
  omega
theorem cutS_mem {z : Str} {lo hi : Option Int} {n : Nat} (h : n ∈ (cutS z lo hi).cps.toList) : n ∈ z.cps.toList := List.mem_of_mem_drop (List.mem_of_mem_take h)
theorem nmExt_ok : WordOk 8 8 nmExt := ⟨by decide +kernel, by decide +kernel, by decide +kernel⟩
theorem nmQ_ok : WordOk 1 1 nmQ := ⟨by decide +kernel, by decide +kernel, by decide +kernel⟩
theorem sIx_neg8 {n : Nat} (h : 2 ≤ n) (h2 : n ≤ 9) : HT.sIx n 0 (some (-8)) ≤ n - 2 := by
  unfold HT.sIx
  show (if (-8 : Int) < 0 then (-8 + (n : Int)).toNat else _) ≤ _
  rw [if_pos (by decide)]
  omega
theorem nm1_ok (r : List Int) (k : Nat) : WordOk 1 8 (nm1 r k) := by
  unfold nm1
  by_cases h : r.getD k 0 / 50 % 6 = 5
  · rw [if_pos h]
    have hw := (lawWord_ok (r.getD k 0)).app nmExt_ok
    have hl := hw.1
    have hu := hw.2.1
    obtain ⟨m, hm, e⟩ : ∃ m : Nat, (m = 7 ∨ m = 8) ∧ 7 + r.getD k 0 % 2 = (m : Int) := by
      rcases (show r.getD k 0 % 2 = 0 ∨ r.getD k 0 % 2 = 1 by omega) with q | q
      · exact ⟨7, .inl rfl, by rw [q]; rfl⟩
      · exact ⟨8, .inr rfl, by rw [q]; rfl⟩
    have e2 := HT.sIx_nat (lawWord (r.getD k 0) ++ nmExt).length (lawWord (r.getD k 0) ++ nmExt).length m
    have e3 := HT.sIx_none (lawWord (r.getD k 0) ++ nmExt).length 0
    have e4 := cutS_len (lawWord (r.getD k 0) ++ nmExt) none (some (7 + r.getD k 0 % 2))
    rw [e, e2, e3] at e4
    rw [e]
    exact ⟨by rw [e4]; omega, by rw [e4]; omega, fun n hn => hw.2.2 n (cutS_mem hn)⟩
  · rw [if_neg h]
    exact (lawWord_ok _).mono (by decide) (by decide)
theorem nm2_ok (r : List Int) (k : Nat) (ns : List Str) : WordOk 1 8 (nm2 r k ns) := by
  unfold nm2
  by_cases h : nm1 r k ∈ ns
  · rw [if_pos h]
    have hw := (nm1_ok r k).app nmQ_ok
    have hl := hw.1
    have hu := hw.2.1
    have e2 := HT.sIx_none (nm1 r k ++ nmQ).length (nm1 r k ++ nmQ).length
    have e3 := sIx_neg8 hl hu
    have e4 := cutS_len (nm1 r k ++ nmQ) (some (-8)) none
    rw [e2] at e4
    have e5 : (nm1 r k ++ nmQ).length - 8 ≤ HT.sIx (nm1 r k ++ nmQ).length 0 (some (-8)) := by
      unfold HT.sIx
      show _ ≤ (if (-8 : Int) < 0 then (-8 + (((nm1 r k ++ nmQ).length : Nat) : Int)).toNat else _)
      rw [if_pos (by decide)]
      omega
    exact ⟨by rw [e4]; omega, by rw [e4]; omega, fun n hn => hw.2.2 n (cutS_mem hn)⟩
  · rw [if_neg h]
    exact nm1_ok r k
theorem nmSt_ok (r : List Int) : ∀ k, (nmSt r k).length ≤ k ∧ (nmSt r k).Nodup ∧ (∀ x ∈ nmSt r k, WordOk 1 8 x) ∧ (0 < k → nmSt r k ≠ [])
  | 0 => by
    refine ⟨Nat.le_refl _, List.nodup_nil, fun x hx => ?_, fun h => absurd h (by decide)⟩
    have hx' : x ∈ ([] : List Str) := hx
    cases hx'
  | k + 1 => by
    obtain ⟨h1, h2, h3, h4⟩ := nmSt_ok r k
    unfold nmSt
    by_cases h : nm2 r k (nmSt r k) ∈ nmSt r k
    · rw [if_pos h]
      exact ⟨Nat.le_succ_of_le h1, h2, h3, fun _ e => by rw [e] at h; cases h⟩
    · rw [if_neg h]
      refine ⟨by rw [List.length_append]; exact Nat.succ_le_succ h1, ?_, fun x hx => ?_, fun _ e => by simp at e⟩
      · rw [List.nodup_append]
        refine ⟨h2, by simp, fun a ha b hb e => ?_⟩
        have hb' : b = nm2 r k (nmSt r k) := by simpa using hb
        rw [e, hb'] at ha
        exact h ha
      · rcases List.mem_append.mp hx with q | q
        · exact h3 x q
        · have e : x = nm2 r k (nmSt r k) := by simpa using q
          rw [e]
          exact nm2_ok _ _ _
theorem nmCount_ok (r : List Int) : 1 ≤ nmCount r ∧ nmCount r ≤ 5 := by
  have h : ∀ j : Nat, j < 9 → 1 ≤ nmCounts.getD j 0 ∧ nmCounts.getD j 0 ≤ 5 := by decide
  unfold nmCount
  exact h _ (by omega)
structure NamesOk (ns : List Str) : Prop where
  ne : ns ≠ []
  le : ns.length ≤ 5
  nd : ns.Nodup
  wd : ∀ x ∈ ns, WordOk 1 8 x
theorem NamesOk.pos {ns : List Str} (h : NamesOk ns) : 0 < ns.length := List.length_pos_iff.mpr h.ne
theorem lawNames_ok (c : Int) : NamesOk (lawNames c) := by
  obtain ⟨h1, h2, h3, h4⟩ := nmSt_ok (lawRow c 6) (nmCount (lawRow c 6)).toNat
  have h5 := nmCount_ok (lawRow c 6)
  exact ⟨h4 (by omega), by unfold lawNames; omega, h2, h3⟩
def Phi_law_names (as : List S) (s : S) : Prop := ∃ (c : Int), as = [sInt c] ∧ s = sLst sStr (lawNames c)
/-! ### rules -/
abbrev RD := List Bool × List (List Nat)
structure RuleOk (n : Nat) (r : RD) : Prop where
  len : r.1.length = r.2.length
  pos : 0 < r.2.length
  le : r.2.length ≤ 6
  row : ∀ x ∈ r.2, x.length = n ∧ ∀ y ∈ x, y < r.2.length
def stepR (mv : List (List Nat)) (names : List Str) (st : Nat) (a : Str) : Nat := (mv.getD st []).getD (names.idxOf a) 0
def stFrom (mv : List (List Nat)) (names : List Str) (s : Nat) (tr : List Str) : Nat := tr.foldl (stepR mv names) s
@[irreducible] def stAfter (mv : List (List Nat)) (names : List Str) (tr : List Str) : Nat := stFrom mv names 0 tr
theorem stAfter_eq (mv : List (List Nat)) (names : List Str) (tr : List Str) : stAfter mv names tr = stFrom mv names 0 tr := by unfold stAfter; rfl
theorem getD_mem {α : Type} {xs : List α} {k : Nat} {d : α} (h : k < xs.length) : xs.getD k d ∈ xs := by
  have e : xs.getD k d = xs[k] := by simp [List.getD, h]
  rw [e]
  exact List.getElem_mem h
theorem RuleOk.rowAt {n : Nat} {r : RD} (h : RuleOk n r) {k : Nat} (hk : k < r.2.length) : (r.2.getD k []).length = n ∧ ∀ y ∈ r.2.getD k [], y < r.2.length := h.row _ (getD_mem hk)
theorem RuleOk.step {names : List Str} {r : RD} (h : RuleOk names.length r) {s : Nat} (hs : s < r.2.length) {a : Str} (ha : a ∈ names) : stepR r.2 names s a < r.2.length := by
  obtain ⟨h1, h2⟩ := h.rowAt hs
  exact h2 _ (getD_mem (by rw [h1]; exact List.idxOf_lt_length_iff.mpr ha))
theorem RuleOk.from {names : List Str} {r : RD} (h : RuleOk names.length r) : ∀ {tr : List Str} {s : Nat}, s < r.2.length → (∀ a ∈ tr, a ∈ names) → stFrom r.2 names s tr < r.2.length
  | [], _, hs, _ => hs
  | a :: tr, s, hs, ht => RuleOk.from h (tr := tr) (s := stepR r.2 names s a) (h.step hs (ht a List.mem_cons_self)) (fun b hb => ht b (List.mem_cons_of_mem _ hb))
theorem RuleOk.after {names : List Str} {r : RD} (h : RuleOk names.length r) {tr : List Str} (ht : ∀ a ∈ tr, a ∈ names) : stAfter r.2 names tr < r.2.length := by
  rw [stAfter_eq]
  exact h.from h.pos ht
/-- the states that can still come -/
inductive Reach (mv : List (List Nat)) (s : Nat) : Nat → Prop
  | refl : Reach mv s s
  | step {t u : Nat} : Reach mv s t → u ∈ mv.getD t [] → Reach mv s u
theorem Reach.lt {n : Nat} {r : RD} (h : RuleOk n r) {s t : Nat} (hs : s < r.2.length) (p : Reach r.2 s t) : t < r.2.length := by
  induction p with
  | refl => exact hs
  | step _ hu ih => exact (h.rowAt ih).2 _ hu
theorem Reach.of_closed {mv : List (List Nat)} {s : Nat} {l : List Nat} (h0 : s ∈ l) (hc : ∀ t ∈ l, ∀ u ∈ mv.getD t [], u ∈ l) {t : Nat} (p : Reach mv s t) : t ∈ l := by
  induction p with
  | refl => exact h0
  | step _ hu ih => exact hc _ ih _ hu
def vAlways : Str := "always"
def vNever : Str := "never"
def vYes : Str := "yes"
def vNo : Str := "no"
open Classical in
@[irreducible] noncomputable def verdF (r : RD) (s : Nat) : Str :=
  if ∀ t, Reach r.2 s t → r.1.getD t false = true then vAlways
  else if ∀ t, Reach r.2 s t → r.1.getD t false = false then vNever
  else if r.1.getD s false = true then vYes else vNo
theorem verd_always {r : RD} {s : Nat} (h : ∀ t, Reach r.2 s t → r.1.getD t false = true) : verdF r s = vAlways := by
  unfold verdF
  rw [if_pos h]
theorem verd_never {r : RD} {s : Nat} (h0 : ¬ ∀ t, Reach r.2 s t → r.1.getD t false = true) (h : ∀ t, Reach r.2 s t → r.1.getD t false = false) : verdF r s = vNever := by
  unfold verdF
  rw [if_neg h0, if_pos h]
theorem verd_else {r : RD} {s : Nat} (h0 : ¬ ∀ t, Reach r.2 s t → r.1.getD t false = true) (h1 : ¬ ∀ t, Reach r.2 s t → r.1.getD t false = false) : verdF r s = if r.1.getD s false = true then vYes else vNo := by
  unfold verdF
  rw [if_neg h0, if_neg h1]
abbrev sRule (C : Addr) (r : RD) : S := sIns C [(("accepting" : Str), sTup sBool r.1), (("moves" : Str), sTup (sTup sNat) r.2)]
structure RuleC (K : PySem.W.Frag) (C : Addr) : Prop where
  cl : Cls K C
  nA : NoAttr K C "accepting"
  nM : NoAttr K C "moves"
/-- all that the list holds, read off its set -/
theorem all_of {r : RD} {s : Nat} {l : List Nat} (h : ∀ t, t ∈ l ↔ Reach r.2 s t) : (l.map fun t => r.1.getD t false).all id = true ↔ ∀ t, Reach r.2 s t → r.1.getD t false = true := by
  rw [List.all_map, List.all_eq_true]
  exact ⟨fun q t p => q t ((h t).mpr p), fun q t m => q t ((h t).mp m)⟩
theorem any_of {r : RD} {s : Nat} {l : List Nat} (h : ∀ t, t ∈ l ↔ Reach r.2 s t) : (l.map fun t => r.1.getD t false).any id = false ↔ ∀ t, Reach r.2 s t → r.1.getD t false = false := by
  rw [List.any_map, List.any_eq_false]
  exact ⟨fun q t p => by simpa using q t ((h t).mpr p), fun q t m => by simpa using q t ((h t).mp m)⟩
def pick (names : List Str) (x : Int) : Str := names.getD (x % (names.length : Int)).toNat Str.empty
theorem pick_mem {names : List Str} (h : 0 < names.length) (x : Int) : pick names x ∈ names := by
  have h1 := Int.emod_nonneg x (show ((names.length : Nat) : Int) ≠ 0 by omega)
  have h2 := Int.emod_lt_of_pos x (show 0 < ((names.length : Nat) : Int) by omega)
  exact getD_mem (by omega)
theorem pick_at {names : List Str} (h : 0 < names.length) (x : Int) : atI names (x % (names.length : Int)) = some (pick names x) := by
  have h1 := Int.emod_nonneg x (show ((names.length : Nat) : Int) ≠ 0 by omega)
  have h2 := Int.emod_lt_of_pos x (show 0 < ((names.length : Nat) : Int) by omega)
  exact atI_int _ h1 h2
@[irreducible] def lawTrace (names : List Str) (c : Int) (n : Nat) : List Str := (lawRow c n).map (pick names)
theorem lawTrace_eq (names : List Str) (c : Int) (n : Nat) : lawTrace names c n = (lawRow c n).map (pick names) := by unfold lawTrace; rfl
theorem lawTrace_mem {names : List Str} (h : 0 < names.length) {c : Int} {n : Nat} {a : Str} (ha : a ∈ lawTrace names c n) : a ∈ names := by
  rw [lawTrace_eq] at ha
  obtain ⟨x, _, rfl⟩ := List.mem_map.mp ha
  exact pick_mem h x
theorem lawTrace_len (names : List Str) (c : Int) (n : Nat) : (lawTrace names c n).length = n := by rw [lawTrace_eq, List.length_map, lawRow_len]
def Phi_law_trace (as : List S) (s : S) : Prop := ∃ (names : List Str) (c : Int) (n : Nat), as = [sLst sStr names, sInt c, sInt (n : Int)] ∧ 0 < names.length ∧ n ≤ 1000000 ∧ s = sLst sStr (lawTrace names c n)
/-! ### windows -/
def mB : Str := "<"
def mE : Str := ">"
def nbrs (k : Nat) (s : List Str) : List (List Str) := (List.range (s.length + 1 - k)).map fun i => (s.drop i).take k
def addW (acc : List (List Str)) (w : List Str) : List (List Str) := if w ∈ acc then acc else acc ++ [w]
def dedup (l : List (List Str)) : List (List Str) := l.foldl addW []
def marked (k : Nat) (tr : List Str) : List Str := List.replicate (k - 1) mB ++ tr ++ List.replicate (k - 1) mE
@[irreducible] def winsOf (k : Nat) (tr : List Str) : List (List Str) := dedup (nbrs k (marked k tr))
theorem winsOf_eq (k : Nat) (tr : List Str) : winsOf k tr = dedup (nbrs k (marked k tr)) := by unfold winsOf; rfl
@[irreducible] def tailOf (k : Nat) (tr : List Str) : List Str := (List.replicate (k - 1) mB ++ tr).drop ((List.replicate (k - 1) mB ++ tr).length - (k - 1))
theorem tailOf_eq (k : Nat) (tr : List Str) : tailOf k tr = (List.replicate (k - 1) mB ++ tr).drop ((List.replicate (k - 1) mB ++ tr).length - (k - 1)) := by unfold tailOf; rfl
def stopW (k : Nat) (tail : List Str) : List (List Str) := nbrs k (tail ++ List.replicate (k - 1) mE)
def hasAll (ws l : List (List Str)) : Bool := decide (∀ w ∈ l, w ∈ ws)
def stopsB (k : Nat) (ws : List (List Str)) (tail : List Str) : Bool := hasAll ws (stopW k tail)
def allowsB (k : Nat) (ws : List (List Str)) (tr : List Str) : Bool := hasAll ws (winsOf k tr)
def nextT (ws : List (List Str)) (names : List Str) (tail : List Str) : List (Str × List Str) := (names.filter fun a => decide (tail ++ [a] ∈ ws)).map fun a => (a, (tail ++ [a]).drop 1)
def goesB (k : Nat) (ws : List (List Str)) : List Str → List Str → Bool
  | tail, [] => stopsB k ws tail
  | tail, a :: tr => decide (tail ++ [a] ∈ ws) && goesB k ws ((tail ++ [a]).drop 1) tr
theorem mem_addW {acc : List (List Str)} {v w : List Str} : v ∈ addW acc w ↔ v ∈ acc ∨ v = w := by
  unfold addW
  by_cases h : w ∈ acc
  · rw [if_pos h]
    exact ⟨.inl, fun q => q.elim id fun e => by rw [e]; exact h⟩
  · rw [if_neg h, List.mem_append, List.mem_singleton]
theorem mem_foldW {v : List Str} : ∀ {l acc : List (List Str)}, v ∈ l.foldl addW acc ↔ v ∈ acc ∨ v ∈ l
  | [], acc => by simp
  | w :: l, acc => by
    rw [List.foldl_cons, mem_foldW, mem_addW, List.mem_cons]
    constructor
    · rintro ((h | h) | h)
      · exact .inl h
      · exact .inr (.inl h)
      · exact .inr (.inr h)
    · rintro (h | h | h)
      · exact .inl (.inl h)
      · exact .inl (.inr h)
      · exact .inr h
theorem mem_dedup {l : List (List Str)} {v : List Str} : v ∈ dedup l ↔ v ∈ l := by
  unfold dedup
  rw [mem_foldW]
  simp
theorem addW_nd {acc : List (List Str)} {w : List Str} (h : acc.Nodup) : (addW acc w).Nodup := by
  unfold addW
  by_cases e : w ∈ acc
  · rw [if_pos e]; exact h
  · rw [if_neg e, List.nodup_append]
    refine ⟨h, by simp, fun a ha b hb z => ?_⟩
    have eb : b = w := by simpa using hb
    rw [z, eb] at ha
    exact e ha
theorem foldW_nd : ∀ {l acc : List (List Str)}, acc.Nodup → (l.foldl addW acc).Nodup
  | [], _, h => h
  | _ :: l, _, h => foldW_nd (l := l) (addW_nd h)
theorem dedup_nd (l : List (List Str)) : (dedup l).Nodup := foldW_nd List.nodup_nil
theorem addW_len (acc : List (List Str)) (w : List Str) : (addW acc w).length ≤ acc.length + 1 := by
  unfold addW
  by_cases e : w ∈ acc
  · rw [if_pos e]; omega
  · rw [if_neg e, List.length_append]; exact Nat.le_refl _
theorem foldW_len : ∀ (l acc : List (List Str)), (l.foldl addW acc).length ≤ acc.length + l.length
  | [], _ => Nat.le_refl _
  | w :: l, acc => by
    have := foldW_len l (addW acc w)
    have := addW_len acc w
    rw [List.foldl_cons, List.length_cons]
    omega
theorem dedup_len (l : List (List Str)) : (dedup l).length ≤ l.length := by
  have := foldW_len l []
  simpa [dedup] using this
theorem nbrs_len (k : Nat) (s : List Str) : (nbrs k s).length = s.length + 1 - k := by unfold nbrs; rw [List.length_map, List.length_range]
theorem marked_len (k : Nat) (tr : List Str) : (marked k tr).length = tr.length + 2 * (k - 1) := by
  unfold marked
  rw [List.length_append, List.length_append, List.length_replicate, List.length_replicate]
  omega
theorem winsOf_len {k : Nat} (hk : 1 ≤ k) (tr : List Str) : (winsOf k tr).length ≤ tr.length + k := by
  rw [winsOf_eq]
  have := dedup_len (nbrs k (marked k tr))
  rw [nbrs_len, marked_len] at this
  omega
theorem nbrs_cons {k : Nat} (hk : 1 ≤ k) (x : Str) (s : List Str) (h : k ≤ s.length + 1) : nbrs k (x :: s) = (x :: s).take k :: nbrs k s := by
  unfold nbrs
  have e : (x :: s).length + 1 - k = (s.length + 1 - k) + 1 := by rw [List.length_cons]; omega
  rw [e, List.range_succ_eq_map, List.map_cons, List.map_map]
  rfl
theorem nbrs_get {k : Nat} {s : List Str} {i : Nat} (h : i + k ≤ s.length) : (nbrs k s)[i]? = some ((s.drop i).take k) := by
  unfold nbrs
  rw [List.getElem?_map, List.getElem?_range (by omega)]
  rfl
theorem hasAll_congr {ws l m : List (List Str)} (h : ∀ v, v ∈ l ↔ v ∈ m) : hasAll ws l = hasAll ws m := by
  unfold hasAll
  exact decide_eq_decide.mpr ⟨fun q w hw => q w ((h w).mpr hw), fun q w hw => q w ((h w).mp hw)⟩
theorem hasAll_cons {ws l : List (List Str)} {w : List Str} : hasAll ws (w :: l) = (decide (w ∈ ws) && hasAll ws l) := by
  unfold hasAll
  rw [← Bool.decide_and]
  exact decide_eq_decide.mpr List.forall_mem_cons
theorem hasAll_dedup {ws l : List (List Str)} : hasAll ws (dedup l) = hasAll ws l := hasAll_congr fun _ => mem_dedup
/-- point 8, from any tail on -/
theorem goes_from {k : Nat} (hk : 1 ≤ k) {ws : List (List Str)} : ∀ (tr tail : List Str), tail.length = k - 1 → goesB k ws tail tr = hasAll ws (nbrs k (tail ++ tr ++ List.replicate (k - 1) mE))
  | [], tail, ht => by
    unfold goesB stopsB stopW
    rw [List.append_nil]
  | a :: tr, tail, ht => by
    unfold goesB
    have hl : (tail ++ [a]).length = k := by rw [List.length_append, ht, List.length_singleton]; omega
    have h1 := goes_from hk (ws := ws) tr ((tail ++ [a]).drop 1) (by rw [List.length_drop, hl])
    rw [h1]
    cases e : tail ++ [a] with
    | nil => rw [e] at hl; simp at hl; omega
    | cons x s =>
      have e2 : tail ++ a :: tr ++ List.replicate (k - 1) mE = x :: (s ++ tr ++ List.replicate (k - 1) mE) := by
        have : tail ++ a :: tr ++ List.replicate (k - 1) mE = (tail ++ [a]) ++ tr ++ List.replicate (k - 1) mE := by simp
        rw [this, e]
        simp
      have hs : s.length + 1 = k := by rw [e] at hl; simpa using hl
      rw [e2, nbrs_cons hk _ _ (by simp only [List.length_append]; omega), hasAll_cons]
      have e3 : (x :: (s ++ tr ++ List.replicate (k - 1) mE)).take k = x :: s := by
        rw [← hs, List.take_succ_cons, List.append_assoc, List.take_left']
        rfl
      rw [e3]
      rfl
theorem tailOf_nil (k : Nat) : tailOf k [] = List.replicate (k - 1) mB := by
  rw [tailOf_eq]
  simp
theorem goes_allows {k : Nat} (hk : 1 ≤ k) {ws : List (List Str)} (tr : List Str) : goesB k ws (tailOf k []) tr = allowsB k ws tr := by
  rw [tailOf_nil, goes_from hk _ _ (List.length_replicate ..)]
  unfold allowsB
  rw [winsOf_eq, hasAll_dedup]
  rfl
theorem tailOf_len {k : Nat} (tr : List Str) : (tailOf k tr).length = k - 1 := by
  rw [tailOf_eq, List.length_drop, List.length_append, List.length_replicate]
  omega
theorem tailOf_drop {k : Nat} (hk : 1 ≤ k) {tail : List Str} (h : tail.length = k - 1) (a : Str) : ((tail ++ [a]).drop 1).length = k - 1 := by
  rw [List.length_drop, List.length_append, h, List.length_singleton]
  omega
/-! ### well formed windows -/
structure WfW (k : Nat) (w : List Str) : Prop where
  ex : ∃ (a b : Nat) (mid : List Str), w = List.replicate a mB ++ mid ++ List.replicate b mE ∧ a < k ∧ b < k ∧ (∀ x ∈ mid, WordOk 1 8 x)
  len : w.length = k
theorem word_ne {x : Str} {a b : Nat} (h : WordOk a b x) (ha : 1 ≤ a) : x ≠ mB ∧ x ≠ mE := by
  constructor
  · rintro rfl
    have := h.2.2 60 (by decide +kernel)
    omega
  · rintro rfl
    have := h.2.2 62 (by decide +kernel)
    omega
theorem mB_ne_mE : mB ≠ mE := by decide +kernel
theorem mE_ne_mB : mE ≠ mB := by decide +kernel
theorem filter_rep_self (a : Nat) (x : Str) : (List.replicate a x).filter (fun y => decide (y = x)) = List.replicate a x := by simp
theorem filter_rep_ne {a : Nat} {x z : Str} (h : x ≠ z) : (List.replicate a x).filter (fun y => decide (y = z)) = [] := by simp [h]
theorem filter_mid {mid : List Str} {z : Str} (h : ∀ x ∈ mid, x ≠ z) : mid.filter (fun y => decide (y = z)) = [] := List.filter_eq_nil_iff.mpr fun x hx => by simp [h x hx]
theorem wf_open {a b : Nat} {mid : List Str} (h : ∀ x ∈ mid, x ≠ mB ∧ x ≠ mE) : (List.replicate a mB ++ mid ++ List.replicate b mE).filter (fun y => decide (y = mB)) = List.replicate a mB := by
  rw [List.filter_append, List.filter_append, filter_rep_self, filter_mid fun x hx => (h x hx).1, filter_rep_ne mE_ne_mB]
  simp
theorem wf_close {a b : Nat} {mid : List Str} (h : ∀ x ∈ mid, x ≠ mB ∧ x ≠ mE) : (List.replicate a mB ++ mid ++ List.replicate b mE).filter (fun y => decide (y = mE)) = List.replicate b mE := by
  rw [List.filter_append, List.filter_append, filter_rep_self, filter_mid fun x hx => (h x hx).2, filter_rep_ne mB_ne_mE]
  simp
theorem wf_others {a b : Nat} {mid : List Str} (h : ∀ x ∈ mid, x ≠ mB ∧ x ≠ mE) : (List.replicate a mB ++ mid ++ List.replicate b mE).filter (fun y => !decide (y ∈ [mB, mE])) = mid := by
  have e1 : (List.replicate a mB).filter (fun y => !decide (y ∈ [mB, mE])) = [] := by
    refine List.filter_eq_nil_iff.mpr fun x hx => ?_
    rw [List.mem_replicate] at hx
    simp [hx.2]
  have e2 : (List.replicate b mE).filter (fun y => !decide (y ∈ [mB, mE])) = [] := by
    refine List.filter_eq_nil_iff.mpr fun x hx => ?_
    rw [List.mem_replicate] at hx
    simp [hx.2]
  have e3 : mid.filter (fun y => !decide (y ∈ [mB, mE])) = mid := List.filter_eq_self.mpr fun x hx => by simp [h x hx]
  rw [List.filter_append, List.filter_append, e1, e2, e3]
  simp
def wfB (k : Int) (w : List Str) : Bool :=
  !(decide (k ≤ ((w.filter fun y => decide (y = mB)).length : Int)) || decide (k ≤ ((w.filter fun y => decide (y = mE)).length : Int))) &&
    decide (w = (w.filter fun y => decide (y = mB)) ++ (w.filter fun y => !decide (y ∈ [mB, mE])) ++ (w.filter fun y => decide (y = mE)))
theorem WfW.wf {k : Nat} {w : List Str} (h : WfW k w) : wfB (k : Int) w = true := by
  obtain ⟨a, b, mid, rfl, ha, hb, hm⟩ := h.ex
  have hm' : ∀ x ∈ mid, x ≠ mB ∧ x ≠ mE := fun x hx => word_ne (hm x hx) (by decide)
  unfold wfB
  rw [wf_open hm', wf_close hm', wf_others hm', List.length_replicate, List.length_replicate]
  have h1 : ¬ ((k : Int) ≤ (a : Int)) := by omega
  have h2 : ¬ ((k : Int) ≤ (b : Int)) := by omega
  simp [h1, h2]
theorem wf_nbr {k : Nat} (hk : 1 ≤ k) {tr : List Str} (ht : ∀ x ∈ tr, WordOk 1 8 x) {w : List Str} (hw : w ∈ nbrs k (marked k tr)) : WfW k w := by
  unfold nbrs at hw
  obtain ⟨i, hi, rfl⟩ := List.mem_map.mp hw
  rw [List.mem_range, marked_len] at hi
  refine ⟨⟨min k (k - 1 - i), min (k - (min k (k - 1 - i) + (((tr.drop (i - (k - 1))).take (k - (k - 1 - i)))).length)) (k - 1 - (i - (tr.length + (k - 1)))), (tr.drop (i - (k - 1))).take (k - (k - 1 - i)), ?_, by omega, by omega, fun x hx => ht x (List.mem_of_mem_drop (List.mem_of_mem_take hx))⟩, ?_⟩
  · unfold marked
    rw [List.drop_append, List.take_append, List.drop_append, List.take_append, List.drop_replicate, List.drop_replicate, List.take_replicate, List.take_replicate]
    congr 2
    · simp only [List.length_replicate]
    · simp only [List.length_append, List.length_replicate, List.length_take, List.length_drop]
      omega
  · rw [List.length_take, List.length_drop, marked_len]
    omega
theorem wf_win {k : Nat} (hk : 1 ≤ k) {tr : List Str} (ht : ∀ x ∈ tr, WordOk 1 8 x) {w : List Str} (hw : w ∈ winsOf k tr) : WfW k w := by
  rw [winsOf_eq] at hw
  exact wf_nbr hk ht (mem_dedup.mp hw)
theorem WfW.signs {k : Nat} {w : List Str} (h : WfW k w) {x : Str} (hx : x ∈ w) : x = mB ∨ x = mE ∨ WordOk 1 8 x := by
  obtain ⟨a, b, mid, rfl, ha, hb, hm⟩ := h.ex
  rcases List.mem_append.mp hx with q | q
  · rcases List.mem_append.mp q with q | q
    · exact .inl (List.mem_replicate.mp q).2
    · exact .inr (.inr (hm x q))
  · exact .inr (.inl (List.mem_replicate.mp q).2)
theorem map_rep {α : Type} (n : Nat) (x : α) : (List.range n).map (fun _ => x) = List.replicate n x := by
  rw [List.map_const', List.length_range]
/-! ### constants of the module -/
section
variable {X : Cx} {ss : List Sl} {pos : Pos}
theorem ev_gS {x z : Str} (h : ∃ t, X.mg x = some (Value.str z t)) (ok : PyData.strOk z = true) (hg : Gl X x := by rfl) (hd : (x == ("__debug__" : Str)) = false := by decide) : EvE X ss (.Name x pos) (sv (sStr z)) := by
  obtain ⟨t, h⟩ := h
  exact ev_glob (v := .str z) hg h ⟨t, rfl⟩ ⟨rfl, ok⟩ hd
theorem ev_gI {x : Str} {i : Int} (h : ∃ t, X.mg x = some (Value.int i t)) (hg : Gl X x := by rfl) (hd : (x == ("__debug__" : Str)) = false := by decide) : EvE X ss (.Name x pos) (sv (sInt i)) := by
  obtain ⟨t, h⟩ := h
  exact ev_glob (v := .int i) hg h ⟨t, rfl⟩ rfl hd
end
theorem mB_ok : PyData.strOk mB = true := by decide +kernel
theorem mE_ok : PyData.strOk mE = true := by decide +kernel
theorem dec_any {p : Prop} (i1 i2 : Decidable p) : @decide p i1 = @decide p i2 := by rw [Subsingleton.elim i1 i2]
theorem sBool_any {p : Prop} {i1 i2 : Decidable p} {F : Hp} {v : V} (h : (sBool (@decide p i1)).r F v) : (sBool (@decide p i2)).r F v := by rw [dec_any i2 i1]; exact h
theorem dec_t {p : Prop} {i : Decidable p} (h : @decide p i = true) : p := @of_decide_eq_true p i h
theorem dec_f {p : Prop} {i : Decidable p} (h : @decide p i = false) : ¬ p := @of_decide_eq_false p i h
def sizeB (n : Int) : Bool := decide (1 ≤ n) && decide (n ≤ 3)
def Phi_is_size (as : List S) (s : S) : Prop := (∃ (n : Int), as = [sInt n] ∧ s = sBool (sizeB n)) ∨ (∃ (b : Bool), as = [sBool b] ∧ s = sBool false)
theorem ok_is_size (F : FunE K "is_size" "is_size" s_is_size f fd) (m_isinstance : mg "isinstance" = none) (m_int : mg "int" = none) (m_bool : mg "bool" = none) (g_LARGEST_SIZE : ∃ t, mg "LARGEST_SIZE" = some (Value.int 3 t)) : FnOk P w K mg base CX0 1 f fd ["value"] (spOf Phi_is_size) := by
  refine fn_ok F sc_is_size (fun as s h => by rcases h with ⟨_, rfl, _⟩ | ⟨_, rfl, _⟩ <;> rfl) (fun cdv A outer s0 H0 E as s hr h => ?_)
  rcases h with ⟨n, rfl, rfl⟩ | ⟨b, rfl, rfl⟩
  · refine r_cons (s_if (ew_or (et_not (et_val (ev_isi (r := true) m_isinstance (ev_var 0 rfl) (ev_ty (n := "int") m_int) (fun _ _ _ _ r => ty_int r)))) (fun _ => (ew_or1 (et_val (ev_isi (r := false) m_isinstance (ev_var 0 rfl) (ev_ty (n := "bool") m_bool) (fun _ _ _ _ r => ty_int r)))))).t (fun h => by cases h) (fun h => ?_))
    refine r_nil (r_one (s_ret (ev_chain op_le op_le ev_int (ev_var 0 rfl) (ev_gI g_LARGEST_SIZE)) (fun _ _ r => r)))
  · refine r_cons (s_if (ew_or (et_not (et_val (ev_isi (r := true) m_isinstance (ev_var 0 rfl) (ev_ty (n := "int") m_int) (fun _ _ _ _ r => ty_bool r)))) (fun _ => (ew_or1 (et_val (ev_isi (r := true) m_isinstance (ev_var 0 rfl) (ev_ty (n := "bool") m_bool) (fun _ _ _ _ r => ty_bool r)))))).t (fun h => ?_) (fun h => by cases h))
    exact r_one (s_ret ev_bl (fun _ _ r => r))
def vA : Str := "a"
def vZ : Str := "z"
def vNil : Str := ""
def strangeP (c : Nat) : Bool := decide (([c] : List Nat) < vA.cps.toList) || decide (vZ.cps.toList < ([c] : List Nat))
def strangeOf (x : Str) : List Str := (x.cps.toList.filter strangeP).map fun c => ⟨#[c]⟩
def signB (x : Str) : Bool := if x ∈ [mB, mE] then true else (!decide (x = vNil) && decide (strangeOf x = []))
theorem strangeP_eq (c : Nat) : strangeP c = (decide (c < 97) || decide (122 < c)) := by
  have e1 : vA.cps.toList = [97] := by decide +kernel
  have e2 : vZ.cps.toList = [122] := by decide +kernel
  have f1 : ([c] < [97]) ↔ c < 97 := by simp [List.cons_lt_cons_iff]
  have f2 : ([122] < [c]) ↔ 122 < c := by simp [List.cons_lt_cons_iff]
  unfold strangeP
  rw [e1, e2]
  congr 1 <;> exact decide_eq_decide.mpr (by assumption)
theorem signB_word {x : Str} (h : WordOk 1 8 x) : signB x = true := by
  unfold signB
  by_cases q : x ∈ [mB, mE]
  · rw [if_pos q]
  · rw [if_neg q]
    have e1 : ¬ x = vNil := by
      rintro rfl
      have := h.1
      have e : vNil.length = 0 := by decide +kernel
      omega
    have e2 : strangeOf x = [] := by
      unfold strangeOf
      rw [List.filter_eq_nil_iff.mpr (fun c hc => by
        have := h.2.2 c hc
        rw [strangeP_eq]
        simp
        omega)]
      rfl
    simp [e1, e2]
theorem signB_mB : signB mB = true := by unfold signB; rw [if_pos (by decide +kernel)]
theorem signB_mE : signB mE = true := by unfold signB; rw [if_pos (by decide +kernel)]
theorem WfW.sign {k : Nat} {w : List Str} (h : WfW k w) {x : Str} (hx : x ∈ w) : signB x = true := by
  rcases h.signs hx with e | e | e
  · rw [e]; exact signB_mB
  · rw [e]; exact signB_mE
  · exact signB_word e
def Phi_is_sign (as : List S) (s : S) : Prop := ∃ (x : Str), as = [sStr x] ∧ x.length ≤ 1000 ∧ s = sBool (signB x)
theorem ok_is_sign (F : FunE K "is_sign" "is_sign" s_is_sign f fd) (m_isinstance : mg "isinstance" = none) (m_str : mg "str" = none) (g_START : ∃ t, mg "START" = some (Value.str mB t)) (g_END : ∃ t, mg "END" = some (Value.str mE t)) : FnOk P w K mg base CX0 1 f fd ["value"] (spOf Phi_is_sign) := by
  refine fn_ok F sc_is_sign (fun as s h => by obtain ⟨x, rfl, _⟩ := h; rfl) (fun cdv A outer s0 H0 E as s hr h => ?_)
  obtain ⟨x, rfl, hl, rfl⟩ := h
  refine r_cons (s_if (et_not (et_val (ev_isi (r := true) m_isinstance (ev_var 0 rfl) (ev_ty (n := "str") m_str) (fun _ _ _ _ r => ty_str r)))) (fun h => by cases h) (fun h => r_nil ?_))
  refine r_cons (s_if (et_inS (xs := [mB, mE]) (ev_var 0 rfl) (EvN.toE (ev_tup (T := sStr) (em_cons (ev_gS g_START mB_ok) (em_cons (ev_gS g_END mE_ok) em_nil)) (sz (show 2 ≤ 16777216 by decide))))) (fun h => ?_) (fun h => r_nil ?_))
  · refine r_one (s_ret ev_bl (fun _ _ r => ?_))
    unfold signB
    rw [if_pos (of_decide_eq_true h)]
    exact r
  refine r_cons (s_asgLc 1 rfl sc_is_sign.nd (lc_str (U := sStr) 2 (fun c => decide ((⟨#[c]⟩ : Str).cps.toList < vA.cps.toList) || decide (vZ.cps.toList < (⟨#[c]⟩ : Str).cps.toList)) (fun c => ⟨#[c]⟩) (ev_var 0 rfl) (sz1 (by omega)) (fun i c hc => fun _ _ _ _ _ => ets_one (EvW.t (ew_or (et_ltS (ev_var 2 rfl) (ev_str (x := vA))) (fun _ => (ew_or1 (et_gtS (ev_var 2 rfl) (ev_str (x := vZ)))))))) (fun i c hc _ => (fun _ _ _ _ _ => (ev_var 2 rfl)))) ?_)
  refine r_pub 1 rfl (r_one (s_ret (ev_and (ev_ne sStr hr (ev_var 0 rfl) (ev_str (x := vNil))) (fun _ => (ev_and1 (ev_eq (sLst sStr) hr (ev_var 1 rfl) (EvN.toE (ev_lst (T := sStr) em_nil (sz (by decide)))))))) (fun _ _ r => ?_)))
  unfold signB
  rw [if_neg (of_decide_eq_false h)]
  exact r
def Phi_is_well_formed (as : List S) (s : S) : Prop := ∃ (k : Int) (w : List Str), as = [sInt k, sSq sStr w] ∧ w.length ≤ 1000 ∧ s = sBool (wfB k w)
theorem ok_is_well_formed (F : FunE K "is_well_formed" "is_well_formed" s_is_well_formed f fd) (m_len : mg "len" = none) (m_list : mg "list" = none) (g_START : ∃ t, mg "START" = some (Value.str mB t)) (g_END : ∃ t, mg "END" = some (Value.str mE t)) : FnOk P w K mg base CX0 1 f fd ["size", "window"] (spOf Phi_is_well_formed) := by
  refine fn_ok F sc_is_well_formed (fun as s h => by obtain ⟨k, w, rfl, _⟩ := h; rfl) (fun cdv A outer s0 H0 E as s hr h => ?_)
  obtain ⟨k, w, rfl, hl, rfl⟩ := h
  refine r_cons (s_asgLc 2 rfl sc_is_well_formed.nd (lc_seq (U := sStr) 3 (fun y => decide (y = mB)) (fun y => y) (ev_var 1 rfl) (sz1 (by omega)) (fun i y hy => fun _ _ _ _ _ => ets_one (et_eq sStr hr (ev_var 3 rfl) (ev_gS g_START mB_ok))) (fun i y hy _ => (fun _ _ _ _ _ => (ev_var 3 rfl)))) ?_)
  refine r_cons (s_asgLc 4 rfl sc_is_well_formed.nd (lc_seq (U := sStr) 3 (fun y => decide (y = mE)) (fun y => y) (ev_var 1 rfl) (sz1 (by omega)) (fun i y hy => fun _ _ _ _ _ => ets_one (et_eq sStr hr (ev_var 3 rfl) (ev_gS g_END mE_ok))) (fun i y hy _ => (fun _ _ _ _ _ => (ev_var 3 rfl)))) ?_)
  rw [List.map_id', List.map_id']
  have l1 := List.length_filter_le (fun y => decide (y = mB)) w
  have l2 := List.length_filter_le (fun y => decide (y = mE)) w
  have l3 := List.length_filter_le (fun y => !decide (y ∈ [mB, mE])) w
  refine r_cons (s_if (ew_or (et_ge (ev_len m_len (ev_own 2 rfl)) (ev_var 0 rfl)) (fun _ => (ew_or1 (et_ge (ev_len m_len (ev_own 4 rfl)) (ev_var 0 rfl))))).t (fun h => ?_) (fun h => r_nil ?_))
  · refine r_one (s_ret ev_bl (fun _ _ r => ?_))
    unfold wfB
    rw [h]
    exact r
  refine r_cons (s_asgLc 5 rfl sc_is_well_formed.nd (lc_seq (U := sStr) 3 (fun y => !decide (y ∈ [mB, mE])) (fun y => y) (ev_var 1 rfl) (sz1 (by omega)) (fun i y hy => fun _ _ _ _ _ => ets_one (et_ninS (xs := [mB, mE]) (ev_var 3 rfl) (EvN.toE (ev_tup (T := sStr) (em_cons (ev_gS g_START mB_ok) (em_cons (ev_gS g_END mE_ok) em_nil)) (sz (show 2 ≤ 16777216 by decide)))))) (fun i y hy _ => (fun _ _ _ _ _ => (ev_var 3 rfl)))) ?_)
  rw [List.map_id']
  refine r_one (s_ret (ev_eq (sLst sStr) hr (EvN.toE (ev_list m_list (ev_var 1 rfl))) (EvN.toE (ev_catL (EvN.toE (ev_catL (ev_own 2 rfl) (ev_own 5 rfl) (sz (by omega)))).toB (ev_own 4 rfl) (sz (by rw [List.length_append]; omega))))) (fun _ _ r => ?_))
  unfold wfB
  rw [h]
  exact r
def ipX (CI : Addr) : Xo := ⟨.ref CI, none⟩
structure SgOk (y : Str) : Prop where
  le : y.length ≤ 100
  cp : ∀ c ∈ y.cps.toList, c < 16 ^ 8
theorem fmtCost_le : ∀ {w : List Str}, (∀ y ∈ w, SgOk y) → fmtCost w ≤ 1004 * w.length
  | [], _ => Nat.zero_le _
  | y :: w, h => by
    have h1 := (h y List.mem_cons_self).le
    have h2 := fmtCost_le (w := w) fun z hz => h z (List.mem_cons_of_mem _ hz)
    rw [fmtCost_cons, List.length_cons]
    omega
def progB (k : Int) (w : List Str) : Bool := !(!decide ((w.length : Int) = k) || !decide (((w.filter signB).length : Int) = k)) && wfB k w
theorem toStr_small {k : Int} (h1 : 1 ≤ k) (h2 : k ≤ 3) : (toString k : Str).length ≤ 20 := by
  rcases (show k = 1 ∨ k = 2 ∨ k = 3 by omega) with rfl | rfl | rfl <;> decide +kernel
theorem log_small {k : Int} (h1 : 1 ≤ k) (h2 : k ≤ 3) : k.natAbs.log2 < 1920 := by
  rcases (show k = 1 ∨ k = 2 ∨ k = 3 by omega) with rfl | rfl | rfl <;> decide +kernel
def vNot : Str := "a window does not have "
def vSigns : Str := " signs"
def vMarks : Str := "marks at a wrong place, or too many: "
def Phi_check_window (CI : Addr) (as : List S) (r : Rs) : Prop := ∃ (k : Int) (w : List Str), as = [sInt k, sTup sStr w] ∧ 1 ≤ k ∧ k ≤ 3 ∧ w.length ≤ 100 ∧ (∀ y ∈ w, SgOk y) ∧ (progB k w = true → r = .ok sNone) ∧ (progB k w = false → r = .ex (ipX CI))
theorem ok_check_window {CI : Addr} (F : FunE K "check_window" "check_window" s_check_window f fd) (T_InvalidProcess : ExcK K mg "InvalidProcess" CI) (m_len : mg "len" = none) (C_is_sign : Callee P w K mg base 1 "is_sign" Phi_is_sign) (C_is_well_formed : Callee P w K mg base 1 "is_well_formed" Phi_is_well_formed) : FnOk P w K mg base (L2.CX P w) 2 f fd ["size", "window"] (spOfX (Phi_check_window CI)) := by
  refine fn_okX F sc_check_window (fun as r h => by obtain ⟨k, w, rfl, _⟩ := h; rfl) (fun cdv A outer s0 H0 E as r hr hp h => ?_)
  obtain ⟨k, w, rfl, hk1, hk3, hl, hs, h1, h2⟩ := h
  have hc := fmtCost_le hs
  have hcp : ∀ y ∈ w, ∀ c ∈ y.cps.toList, c < 16 ^ 8 := fun y hy => (hs y hy).cp
  have lf := List.length_filter_le signB w
  refine r_cons (s_asgLc 2 rfl sc_check_window.nd (lc_seq (U := sStr) 3 signB (fun y => y) (ev_var 1 rfl) (sz1 (by omega)) (fun i y hy => fun _ _ _ _ _ => ets_one (et_val (ev_call C_is_sign hr (eas_cons (ev_var 3 rfl) eas_nil) ⟨y, rfl, Nat.le_trans (hs y (List.mem_of_getElem? hy)).le (by decide), rfl⟩))) (fun i y hy _ => (fun _ _ _ _ _ => (ev_var 3 rfl)))) ?_)
  rw [List.map_id']
  refine r_cons (s_if (EvW.t (ew_or (et_ne sInt hr (ev_len m_len (ev_var 1 rfl)) (ev_var 0 rfl)) (fun _ => (ew_or1 (et_ne sInt hr (ev_len m_len (ev_own 2 rfl)) (ev_var 0 rfl)))))) (fun h => ?_) (fun h => r_nil ?_))
  · have hb : progB k w = false := by unfold progB; rw [h]; rfl
    obtain rfl := h2 hb
    exact r_one (s_raise T_InvalidProcess rfl (ev_fstr (.cons (ef_str (z := vNot) (n := 30)) (.cons (ef_int (n := 20) (ev_var 0 rfl) (log_small hk1 hk3) (toStr_small hk1 hk3)) (.cons (ef_str (z := vSigns) (n := 10)) .nil))) (sz (by decide))) rfl)
  refine r_one (s_if (et_not (et_val (ev_call C_is_well_formed hr (eas_cons (ev_var 0 rfl) (eas_cons (EvE.tsq (ev_var 1 rfl)) eas_nil)) ⟨k, w, rfl, by omega, rfl⟩))) (fun h3 => ?_) (fun h3 => ?_))
  · have hb : progB k w = false := by unfold progB; rw [h]; simpa using h3
    obtain rfl := h2 hb
    exact r_one (s_raise T_InvalidProcess rfl (ev_fstr (.cons (ef_str (z := vMarks) (n := 50)) (.cons (ef_tupR (n := 1004 * 100 + 7) hr (ev_var 1 rfl) hcp (by omega) (sz (by decide))) .nil)) (sz (by decide))) rfl)
  · have hb : progB k w = true := by unfold progB; rw [h]; simpa using h3
    obtain rfl := h1 hb
    exact r_nil (fun _ => rfl)
/-! ### a process -/
structure ProcessC (K : PySem.W.Frag) (C : Addr) : Prop where
  cl : Cls K C
  nS : NoAttr K C "size"
  nW : NoAttr K C "windows"
  nK : NoAttr K C "_known"
def knownW (ws : List (List Str)) : List (List Str × Bool) := ws.map fun w => (w, true)
def procF (k : Nat) (ws : List (List Str)) : List (Str × Sl) := [(("size" : Str), .val (sInt (k : Int))), (("windows" : Str), .val (sTup (sTup sStr) ws)), (("_known" : Str), .own (oDT sBool (knownW ws)))]
abbrev sProc (C : Addr) (k : Nat) (ws : List (List Str)) : S := sInsG C (procF k ws)
theorem known_keys (ws : List (List Str)) : (knownW ws).map (·.1) = ws := by
  unfold knownW
  rw [List.map_map]
  exact List.map_id' ws
structure ProcOk (k : Nat) (ws : List (List Str)) : Prop where
  lo : 1 ≤ k
  hi : k ≤ 3
  wf : ∀ w ∈ ws, WfW k w
  nd : ws.Nodup
theorem not_mem_take {α : Type} {xs : List α} (h : xs.Nodup) {i : Nat} {x : α} (e : xs[i]? = some x) : x ∉ xs.take i := fun hm => by
  obtain ⟨j, hj, ej⟩ := List.getElem_of_mem hm
  rw [List.length_take] at hj
  rw [List.getElem_take] at ej
  obtain ⟨hi, ei⟩ := List.getElem?_eq_some_iff.mp e
  have := (List.getElem_inj h).mp (ej.trans ei.symm)
  omega
structure InitOk (n : Int) (ws : List (List Str)) : Prop where
  sz : sizeB n = true
  wf : ∀ w ∈ ws, progB n w = true
  nd : ws.Nodup
def vSize : Str := "a size is an integer from 1 to "
def vTwice : Str := "a window that occurs twice: "
def Phi_Process__init__ (CI : Addr) (as : List S) (r : Ri) : Prop := (∃ (n : Int) (ws : List (List Str)), as = [sInt n, sSq (sSq sStr) ws] ∧ ws.length ≤ 2000 ∧ (∀ w ∈ ws, w.length ≤ 100 ∧ ∀ y ∈ w, SgOk y) ∧ (InitOk n ws → r = .ok (procF n.toNat ws)) ∧ (¬ InitOk n ws → r = .ex (ipX CI))) ∨
  (∃ (b : Bool) (ws : List (List Str)), as = [sBool b, sSq (sSq sStr) ws] ∧ r = .ex (ipX CI))
theorem nodup_of_take {α : Type} {xs : List α} (h : ∀ i x, xs[i]? = some x → x ∉ xs.take i) : xs.Nodup := by
  unfold List.Nodup
  rw [List.pairwise_iff_getElem]
  intro i j hi hj hij e
  refine h j xs[j] (List.getElem?_eq_getElem hj) ?_
  rw [← e]
  exact List.mem_take_iff_getElem.mpr ⟨i, by omega, rfl⟩
theorem ok_Process__init__ {C CI : Addr} (F : FunE K "__init__" "Process.__init__" s_Process__init__ f fd) (RC : ProcessC K C) (T_InvalidProcess : ExcK K mg "InvalidProcess" CI) (m_tuple : mg "tuple" = none) (g_LARGEST_SIZE : ∃ t, mg "LARGEST_SIZE" = some (Value.int 3 t)) (C_is_size : Callee P w K mg base 1 "is_size" Phi_is_size) (C_check_window : CalleeX P w K mg base 2 "check_window" (Phi_check_window CI)) : FnOk P w K mg base (L2.CX P w) 3 f fd ["self", "size", "windows"] (spInX C (Phi_Process__init__ CI)) := by
  refine initX_ok F sc_Process__init__ (fun as s h => by rcases h with ⟨k, ws, rfl, _⟩ | ⟨k, ws, rfl, _⟩ <;> rfl) (fun cdv A outer s0 H0 E y as r hr hp h => ?_)
  rcases h with ⟨n, ws, rfl, hl, hs, h1, h2⟩ | ⟨b, ws, rfl, rfl⟩
  · refine r_cons (s_if (et_not (et_val (ev_call C_is_size hr (eas_cons (ev_var 1 rfl) eas_nil) (.inl ⟨n, rfl, rfl⟩)))) (fun h => ?_) (fun h => r_nil ?_))
    · have hb : ¬ InitOk n ws := fun q => by rw [q.sz] at h; cases h
      obtain rfl := h2 hb
      exact r_one (s_raise T_InvalidProcess rfl (ev_fstr (.cons (ef_str (z := vSize) (n := 50)) (.cons (ef_int (n := 20) (ev_gI g_LARGEST_SIZE) (by decide +kernel) (by decide +kernel)) .nil)) (sz (by decide))) rfl)
    have hsz : sizeB n = true := by simpa using h
    have hn : 1 ≤ n ∧ n ≤ 3 := by unfold sizeB at hsz; simpa using hsz
    refine r_cons (s_gset 0 rfl (ev_var 1 rfl) RC.cl RC.nS ?_)
    refine r_cons (s_gset 0 rfl (EvN.toE (ev_tupN m_tuple (EvN.toE (ev_lc rfl sc_Process__init__.nd (lc_seqT (U := sTup sStr) 3 (fun w => w) (ev_var 2 rfl) (sz1 (by omega)) (fun i w hw => (fun _ _ _ _ _ => ev_tupQ m_tuple (ev_var 3 rfl)))))))) RC.cl RC.nW ?_)
    rw [List.map_id']
    refine r_cons (s_gnew 0 rfl (ev_dnewT (κ := List Str) (T := sBool)) RC.cl RC.nK ?_)
    refine r_one (s_for 3 (T := sTup sStr) (xs := ws) hp rfl sc_Process__init__.nd (fun i ss' => ((∀ w ∈ ws.take i, progB n w = true) ∧ ∀ j x, j < i → ws[j]? = some x → x ∉ ws.take j) ∧ ∃ x, ss' = [.own (oInsG C (fun p => p = y) [(("size" : Str), .val (sInt n)), (("windows" : Str), .val (sTup (sTup sStr) ws)), (("_known" : Str), .own (oDT sBool (knownW (ws.take i))))]), .val (sInt n), .val (sSq (sSq sStr) ws), x]) (ev_gfld (ev_own 0 rfl) rfl RC.cl RC.nW) ⟨⟨(fun w hw => by cases hw), (fun j x hj => absurd hj (Nat.not_lt_zero _))⟩, _, rfl⟩ ?_ ?_)
    · rintro i w ss' hw ⟨⟨i1, i2⟩, x, rfl⟩
      have hm := List.mem_of_getElem? hw
      have hi := (List.getElem?_eq_some_iff.mp hw).1
      obtain ⟨hwl, hws⟩ := hs w hm
      cases hg : progB n w with
      | false =>
        have hb : ¬ InitOk n ws := fun q => by rw [q.wf w hm] at hg; cases hg
        obtain rfl := h2 hb
        exact r_cons (s_dropR (ev_callR C_check_window hr (eas_cons (ev_var 1 rfl) (eas_cons (ev_var 3 rfl) eas_nil)) ⟨n, w, rfl, hn.1, hn.2, hwl, hws, (fun q => by rw [hg] at q; cases q), (fun _ => rfl)⟩ rfl))
      | true =>
        refine r_cons (s_drop (ev_callX C_check_window hr (eas_cons (ev_var 1 rfl) (eas_cons (ev_var 3 rfl) eas_nil)) ⟨n, w, rfl, hn.1, hn.2, hwl, hws, (fun _ => rfl), (fun q => by rw [hg] at q; cases q)⟩) ?_)
        refine r_cons (s_if (et_din (U := sTup sStr) hr (ev_var 3 rfl) (ev_gown (ev_own 0 rfl) rfl RC.cl RC.nK)) (fun h => ?_) (fun h => r_nil ?_))
        · have h' := dec_t h
          rw [known_keys] at h'
          have hb : ¬ InitOk n ws := fun q => not_mem_take q.nd hw h'
          obtain rfl := h2 hb
          have hc := fmtCost_le hws
          exact r_one (s_raise T_InvalidProcess rfl (ev_fstr (.cons (ef_str (z := vTwice) (n := 50)) (.cons (ef_tupR (n := 1004 * 100 + 7) hr (ev_var 3 rfl) (fun y hy => (hws y hy).cp) (by omega) (sz (by decide))) .nil)) (sz (by decide))) rfl)
        have h' := dec_f h
        have h'' : w ∉ ws.take i := by rw [known_keys] at h'; exact h'
        refine r_one (s_gput (U := sTup sStr) 0 hr rfl rfl RC.cl RC.nK ev_bl (ev_var 3 rfl) (szl (by unfold knownW; rw [List.length_map, List.length_take]; omega)) ⟨⟨fun v hv => ?_, fun j x hj hx => ?_⟩, .val (sTup sStr w), ?_⟩)
        · rw [List.take_add_one, hw] at hv
          rcases List.mem_append.mp hv with q | q
          · exact i1 v q
          · have e : v = w := by simpa using q
            rw [e]; exact hg
        · by_cases e : j < i
          · exact i2 j x e hx
          · have ej : j = i := by omega
            subst ej
            rw [hw] at hx
            cases hx
            exact h''
        · rw [pK_new h']
          have e : knownW (ws.take (i + 1)) = knownW (ws.take i) ++ [(w, true)] := by
            unfold knownW
            rw [List.take_add_one, hw, List.map_append]
            rfl
          rw [e]
          rfl
    · rintro ss' ⟨⟨i1, i2⟩, x, rfl⟩
      rw [List.take_length] at i1
      have hok : InitOk n ws := ⟨hsz, i1, nodup_of_take fun i x hx => i2 i x (List.getElem?_eq_some_iff.mp hx).1 hx⟩
      obtain rfl := h1 hok
      show _ = _
      rw [List.take_length]
      unfold procF
      rw [Int.toNat_of_nonneg (by omega)]
      rfl
  · refine r_cons (s_if (et_not (et_val (ev_call C_is_size hr (eas_cons (ev_var 1 rfl) eas_nil) (.inr ⟨b, rfl, rfl⟩)))) (fun h => ?_) (fun h => by cases h))
    exact r_one (s_raise T_InvalidProcess rfl (ev_fstr (.cons (ef_str (z := vSize) (n := 50)) (.cons (ef_int (n := 20) (ev_gI g_LARGEST_SIZE) (by decide +kernel) (by decide +kernel)) .nil)) (sz (by decide))) rfl)
/-! ### the law's own look at a window -/
def vGo : Str := "go"
def vStop : Str := "stop"
def signsL : List Str := [mB, vGo, vStop, mE]
def idxP (p : Str → Bool) (w : List Str) : List Nat := (List.range w.length).filter fun i => p (w.getD i Str.empty)
theorem idx_app (p : Str → Bool) (A B : List Str) : idxP p (A ++ B) = idxP p A ++ (idxP p B).map (A.length + ·) := by
  unfold idxP
  rw [List.length_append, List.range_add, List.filter_append, List.filter_map]
  congr 1
  · refine List.filter_congr fun i hi => ?_
    have hi' : i < A.length := List.mem_range.mp hi
    rw [List.getD_eq_getElem?_getD, List.getD_eq_getElem?_getD, List.getElem?_append_left hi']
  · congr 1
    refine List.filter_congr fun i hi => ?_
    show p ((A ++ B).getD (A.length + i) Str.empty) = _
    rw [List.getD_eq_getElem?_getD, List.getD_eq_getElem?_getD, List.getElem?_append_right (Nat.le_add_right _ _), Nat.add_sub_cancel_left]
theorem idx_all {p : Str → Bool} {A : List Str} (h : ∀ x ∈ A, p x = true) : idxP p A = List.range A.length := List.filter_eq_self.mpr fun i hi => h _ (getD_mem (List.mem_range.mp hi))
theorem idx_none {p : Str → Bool} {A : List Str} (h : ∀ x ∈ A, p x = false) : idxP p A = [] := List.filter_eq_nil_iff.mpr fun i hi => by rw [h _ (getD_mem (List.mem_range.mp hi))]; exact Bool.false_ne_true
theorem map_getD (w : List Str) : (List.range w.length).map (fun i => w.getD i Str.empty) = w := by
  refine List.ext_getElem (by simp) fun i h1 h2 => ?_
  simp [List.getD, h2]
theorem map_idx (p : Str → Bool) (w : List Str) : (idxP p w).map (fun i => w.getD i Str.empty) = w.filter p := by
  have e : w.filter p = ((List.range w.length).map (fun i => w.getD i Str.empty)).filter p := by rw [map_getD]
  rw [e, List.filter_map]
  rfl
theorem idx_len (p : Str → Bool) (w : List Str) : (idxP p w).length = (w.filter p).length := by rw [← map_idx, List.length_map]
theorem idx_le (p : Str → Bool) (w : List Str) : (idxP p w).length ≤ w.length := by rw [idx_len]; exact List.length_filter_le _ _
def pB (x : Str) : Bool := decide (x = mB)
def pE (x : Str) : Bool := decide (x = mE)
def pI (x : Str) : Bool := !decide (x = mB) && !decide (x = mE)
theorem pI_eq : pI = fun y => !decide (y ∈ [mB, mE]) := by
  funext x
  unfold pI
  by_cases h1 : x = mB
  · simp [h1]
  · by_cases h2 : x = mE
    · simp [h2]
    · simp [h1, h2]
def lawGood (n : Int) (w : List Str) : Bool := !(!decide ((w.length : Int) = n)) && (!(decide (n - 1 < ((idxP pB w).length : Int)) || decide (n - 1 < ((idxP pE w).length : Int))) && decide (idxP pB w ++ idxP pI w ++ idxP pE w = List.range n.toNat))
theorem split_idx {w : List Str} (h : w = w.filter pB ++ w.filter pI ++ w.filter pE) : idxP pB w ++ idxP pI w ++ idxP pE w = List.range w.length := by
  have hB : ∀ x ∈ w.filter pB, x = mB := fun x hx => by have := (List.mem_filter.mp hx).2; unfold pB at this; simpa using this
  have hE : ∀ x ∈ w.filter pE, x = mE := fun x hx => by have := (List.mem_filter.mp hx).2; unfold pE at this; simpa using this
  have hI : ∀ x ∈ w.filter pI, x ≠ mB ∧ x ≠ mE := fun x hx => by have := (List.mem_filter.mp hx).2; unfold pI at this; simpa using this
  generalize w.filter pB = A at h hB
  generalize w.filter pE = Z at h hE
  generalize w.filter pI = M at h hI
  subst h
  rw [idx_app, idx_app, idx_app, idx_app, idx_app, idx_app]
  rw [idx_all (p := pB) (A := A) fun x hx => by rw [hB x hx]; decide +kernel, idx_none (p := pB) (A := M) fun x hx => by unfold pB; simp [(hI x hx).1], idx_none (p := pB) (A := Z) fun x hx => by rw [hE x hx]; decide +kernel]
  rw [idx_none (p := pI) (A := A) fun x hx => by rw [hB x hx]; decide +kernel, idx_all (p := pI) (A := M) fun x hx => by unfold pI; simp [(hI x hx).1, (hI x hx).2], idx_none (p := pI) (A := Z) fun x hx => by rw [hE x hx]; decide +kernel]
  rw [idx_none (p := pE) (A := A) fun x hx => by rw [hB x hx]; decide +kernel, idx_none (p := pE) (A := M) fun x hx => by unfold pE; simp [(hI x hx).2], idx_all (p := pE) (A := Z) fun x hx => by rw [hE x hx]; decide +kernel]
  simp only [List.map_nil, List.append_nil, List.nil_append]
  rw [List.length_append, List.length_append, List.range_add, List.length_append, List.range_add]
theorem lawGood_eq {n : Int} {w : List Str} (hs : ∀ x ∈ w, signB x = true) : lawGood n w = progB n w := by
  have es : w.filter signB = w := List.filter_eq_self.mpr hs
  unfold lawGood progB wfB
  rw [es, Bool.or_self, idx_len, idx_len]
  by_cases hl : (w.length : Int) = n
  · subst hl
    have e1 : (w.filter fun y => decide (y = mB)) = w.filter pB := rfl
    have e2 : (w.filter fun y => decide (y = mE)) = w.filter pE := rfl
    have e3 : (w.filter fun y => !decide (y ∈ [mB, mE])) = w.filter pI := by rw [pI_eq]
    rw [e1, e2, e3, Int.toNat_natCast]
    have c1 : ∀ m : Nat, decide ((w.length : Int) - 1 < (m : Int)) = decide ((w.length : Int) ≤ (m : Int)) := fun m => decide_eq_decide.mpr (by omega)
    rw [c1, c1]
    have c2 : decide (idxP pB w ++ idxP pI w ++ idxP pE w = List.range w.length) = decide (w = w.filter pB ++ w.filter pI ++ w.filter pE) := by
      refine decide_eq_decide.mpr ⟨fun q => ?_, split_idx⟩
      have q2 := congrArg (List.map fun i => w.getD i Str.empty) q
      rw [List.map_append, List.map_append, map_idx, map_idx, map_idx, map_getD] at q2
      exact q2.symm
    rw [c2]
  · simp [hl]
theorem signsL_ok : ∀ x ∈ signsL, signB x = true ∧ SgOk x := by
  have h1 : ∀ x ∈ signsL, signB x = true := by decide +kernel
  have h2 : ∀ x ∈ signsL, x.length ≤ 100 ∧ ∀ c ∈ x.cps.toList, c < 16 ^ 8 := by decide +kernel
  exact fun x hx => ⟨h1 x hx, (h2 x hx).1, (h2 x hx).2⟩
def winC : List Int := [1, 1, 1, 0, 2]
def sgAt (i : Int) : Str := signsL.getD i.toNat Str.empty
@[irreducible] def lawWin (n : Int) (k : Nat) : List Str :=
  if n % 2 = 0 then cutL (cutL (List.replicate (n / 2 % 3).toNat mB ++ List.replicate k (sgAt (1 + n / 18 % 2))) none (some (max 0 ((k : Int) - n / 6 % 3))) ++ List.replicate (n / 6 % 3).toNat mE) none (some (k : Int))
  else (List.range ((k : Int) - 1 + winC.getD (n / 7 % 5).toNat 0).toNat).map fun i : Nat => sgAt (n / (2 + 3 * (i : Int)) % 4)
theorem sgAt_in {i : Int} (h0 : 0 ≤ i) (h1 : i < 4) : atI signsL i = some (sgAt i) ∧ sgAt i ∈ signsL := ⟨atI_int _ h0 (by show i < ((4 : Nat) : Int); omega), getD_mem (show i.toNat < 4 by omega)⟩
theorem winC_le (i : Nat) : winC.getD i 0 ≤ 2 ∧ 0 ≤ winC.getD i 0 := by
  by_cases h : i < 5
  · have : ∀ j < 5, winC.getD j 0 ≤ 2 ∧ 0 ≤ winC.getD j 0 := by decide
    exact this i h
  · have e : winC.getD i 0 = 0 := by
      rw [List.getD_eq_getElem?_getD, List.getElem?_eq_none (show winC.length ≤ i by show 5 ≤ i; omega)]
      rfl
    rw [e]
    exact ⟨by decide, by decide⟩
theorem lawWin_mem {n : Int} {k : Nat} {x : Str} (h : x ∈ lawWin n k) : x ∈ signsL := by
  unfold lawWin at h
  by_cases e : n % 2 = 0
  · rw [if_pos e] at h
    rcases List.mem_append.mp (cutL_mem h) with q | q
    · rcases List.mem_append.mp (cutL_mem q) with q | q
      · rw [(List.mem_replicate.mp q).2]; decide +kernel
      · rw [(List.mem_replicate.mp q).2]; exact (sgAt_in (by omega) (by omega)).2
    · rw [(List.mem_replicate.mp q).2]; decide +kernel
  · rw [if_neg e] at h
    obtain ⟨i, _, rfl⟩ := List.mem_map.mp h
    exact (sgAt_in (by omega) (by omega)).2
theorem lawWin_len {n : Int} {k : Nat} : (lawWin n k).length ≤ k + 10 := by
  unfold lawWin
  by_cases e : n % 2 = 0
  · rw [if_pos e]
    refine Nat.le_trans cutL_le ?_
    rw [List.length_append, List.length_replicate]
    have h1 : (cutL (List.replicate (n / 2 % 3).toNat mB ++ List.replicate k (sgAt (1 + n / 18 % 2))) none (some (max 0 ((k : Int) - n / 6 % 3)))).length ≤ (n / 2 % 3).toNat + k := by
      refine Nat.le_trans cutL_le ?_
      rw [List.length_append, List.length_replicate, List.length_replicate]
      exact Nat.le_refl _
    omega
  · rw [if_neg e, List.length_map, List.length_range]
    have := winC_le (n / 7 % 5).toNat
    omega
def Phi_law_window (as : List S) (s : S) : Prop := ∃ (n : Int) (k : Nat), as = [sInt n, sInt (k : Int)] ∧ k ≤ 100 ∧ s = sTup sStr (lawWin n k)
theorem ok_law_window (F : FunE K "_law_window" "_law_window" s_law_window f fd) (m_range : mg "range" = none) (m_tuple : mg "tuple" = none) (m_max : mg "max" = none) : FnOk P w K mg base CX0 1 f fd ["number", "size"] (spOf Phi_law_window) := by
  refine fn_ok F sc_law_window (fun as s h => by obtain ⟨n, k, rfl, _⟩ := h; rfl) (fun cdv A outer s0 H0 E as s hr h => ?_)
  obtain ⟨n, k, rfl, hk, rfl⟩ := h
  refine r_cons (s_asg 2 sc_law_window.nd (s := sLst sStr signsL) (EvN.toE (ev_lst (T := sStr) (em_cons ev_str (em_cons ev_str (em_cons ev_str (em_cons ev_str em_nil)))) (sz (show 4 ≤ 16777216 by decide)))) ?_)
  refine r_cons (s_if (et_eq sInt hr (ev_mod (ev_var 0 rfl) ev_int (by decide)) ev_int) (fun h => ?_) (fun h => r_nil ?_))
  · have e := of_decide_eq_true h
    obtain ⟨a1, _⟩ := sgAt_in (i := 1 + n / 18 % 2) (by omega) (by omega)
    refine r_cons (s_asg 3 sc_law_window.nd (ev_mod (ev_div (ev_var 0 rfl) ev_int ⟨by decide, by decide⟩) ev_int (by decide)) ?_)
    refine r_cons (s_asg 4 sc_law_window.nd (ev_mod (ev_div (ev_var 0 rfl) ev_int ⟨by decide, by decide⟩) ev_int (by decide)) ?_)
    refine r_cons (s_asgN 5 sc_law_window.nd (ev_catL (EvN.toE (ev_lc rfl sc_law_window.nd (lc_rngT (U := sStr) 6 (fun _ => mB) m_range (ev_var 3 rfl) (by omega) (by omega) (fun i hi => (fun _ _ _ _ _ => ev_str))))).toB (EvN.toE (ev_lc rfl sc_law_window.nd (lc_rngT (U := sStr) 6 (fun _ => sgAt (1 + n / 18 % 2)) m_range (ev_var 1 rfl) (by omega) (by omega) (fun i hi => (fun _ _ _ _ _ => (ev_ix (ev_var 2 rfl) (ev_add ev_int (ev_mod (ev_div (ev_var 0 rfl) ev_int ⟨by decide, by decide⟩) ev_int (by decide))) a1)))))).toB (sz (by rw [List.length_map, List.length_map, List.length_range, List.length_range]; omega))) ?_)
    rw [map_rep, map_rep, Int.toNat_natCast]
    refine r_one (s_ret (EvN.toE (ev_tupN m_tuple (EvN.toE (ev_slL (EvN.toE (ev_catL (EvN.toE (ev_slL (ev_own 5 rfl) eo_none (eo_some (ev_max2 rfl m_max ev_int (ev_sub (ev_var 1 rfl) (ev_var 4 rfl)))))).toB (EvN.toE (ev_lc rfl sc_law_window.nd (lc_rngT (U := sStr) 6 (fun _ => mE) m_range (ev_var 4 rfl) (by omega) (by omega) (fun i hi => (fun _ _ _ _ _ => ev_str))))).toB (sz ?_))) eo_none (eo_some (ev_var 1 rfl)))))) (fun _ _ r => ?_))
    · rw [List.length_map, List.length_range]
      have h1 : (cutL (List.replicate (n / 2 % 3).toNat mB ++ List.replicate k (sgAt (1 + n / 18 % 2))) none (some (max 0 ((k : Int) - n / 6 % 3)))).length ≤ (n / 2 % 3).toNat + k := by
        refine Nat.le_trans cutL_le ?_
        rw [List.length_append, List.length_replicate, List.length_replicate]
        exact Nat.le_refl _
      omega
    · unfold lawWin
      rw [if_pos e]
      rw [map_rep] at r
      exact r
  · have e := of_decide_eq_false h
    have hw := winC_le (n / 7 % 5).toNat
    refine r_one (s_ret (EvN.toE (ev_tupN m_tuple (EvN.toE (ev_lc rfl sc_law_window.nd (lc_rngT (U := sStr) 6 (fun i : Nat => sgAt (n / (2 + 3 * (i : Int)) % 4)) m_range (ev_add (ev_sub (ev_var 1 rfl) ev_int) (ev_ix (xs := winC) (x := winC.getD (n / 7 % 5).toNat 0) (EvN.toE (ev_lst (T := sInt) (em_cons ev_int (em_cons ev_int (em_cons ev_int (em_cons ev_int (em_cons ev_int em_nil))))) (sz (show 5 ≤ 16777216 by decide)))) (ev_mod (ev_div (ev_var 0 rfl) ev_int ⟨by decide, by decide⟩) ev_int (by decide)) (atI_int 0 (by omega) (by show _ < ((5 : Nat) : Int); omega)))) (by omega) (by omega) (fun i hi => (fun _ _ _ _ _ => (ev_ix (ev_var 2 rfl) (ev_mod (ev_div (ev_var 0 rfl) (ev_add ev_int (ev_mul ev_int (ev_var 6 rfl) (.inl ⟨by decide, by decide⟩))) ⟨by omega, by omega⟩) ev_int (by decide)) (sgAt_in (by omega) (by omega)).1)))))))) (fun _ _ r => ?_))
    unfold lawWin
    rw [if_neg e]
    exact r
def Phi_law_is_good (as : List S) (s : S) : Prop := ∃ (w : List Str) (n : Int), as = [sTup sStr w, sInt n] ∧ w.length ≤ 1000 ∧ s = sBool (lawGood n w)
theorem wAt {w : List Str} {i : Nat} (h : (i : Int) < (w.length : Int)) : atI w (i : Int) = some (w.getD i Str.empty) := atI_n _ (by omega)
theorem ok_law_is_good (F : FunE K "_law_is_good" "_law_is_good" s_law_is_good f fd) (m_len : mg "len" = none) (m_range : mg "range" = none) (m_list : mg "list" = none) : FnOk P w K mg base CX0 1 f fd ["window", "size"] (spOf Phi_law_is_good) := by
  refine fn_ok F sc_law_is_good (fun as s h => by obtain ⟨w, n, rfl, _⟩ := h; rfl) (fun cdv A outer s0 H0 E as s hr h => ?_)
  obtain ⟨w, n, rfl, hl, rfl⟩ := h
  refine r_cons (s_if (et_ne sInt hr (ev_len m_len (ev_var 0 rfl)) (ev_var 1 rfl)) (fun h => ?_) (fun h => r_nil ?_))
  · refine r_one (s_ret ev_bl (fun _ _ r => ?_))
    unfold lawGood
    rw [h]
    exact r
  have hn : (w.length : Int) = n := by simpa using h
  refine r_cons (s_asgLc 2 rfl sc_law_is_good.nd (lc_rng (U := sNat) 3 (fun i => !decide (w.getD i Str.empty = mB) && !decide (w.getD i Str.empty = mE)) (fun i => i) m_range (ev_len m_len (ev_var 0 rfl)) (by omega) (by omega) (fun i hi => fun _ _ _ _ _ => ets_one (EvW.t (ew_and (et_ne sStr hr (ev_ix (ev_var 0 rfl) (ev_var 3 rfl) (wAt hi)) (ev_str (x := mB))) (fun _ => (ew_and1 (et_ne sStr hr (ev_ix (ev_var 0 rfl) (ev_var 3 rfl) (wAt hi)) (ev_str (x := mE)))))))) (fun i hi _ => (fun _ _ _ _ _ => (ev_var 3 rfl)))) ?_)
  refine r_cons (s_asgLc 4 rfl sc_law_is_good.nd (lc_rng (U := sNat) 3 (fun i => decide (w.getD i Str.empty = mB)) (fun i => i) m_range (ev_len m_len (ev_var 0 rfl)) (by omega) (by omega) (fun i hi => fun _ _ _ _ _ => ets_one (et_eq sStr hr (ev_ix (ev_var 0 rfl) (ev_var 3 rfl) (wAt hi)) (ev_str (x := mB)))) (fun i hi _ => (fun _ _ _ _ _ => (ev_var 3 rfl)))) ?_)
  refine r_cons (s_asgLc 5 rfl sc_law_is_good.nd (lc_rng (U := sNat) 3 (fun i => decide (w.getD i Str.empty = mE)) (fun i => i) m_range (ev_len m_len (ev_var 0 rfl)) (by omega) (by omega) (fun i hi => fun _ _ _ _ _ => ets_one (et_eq sStr hr (ev_ix (ev_var 0 rfl) (ev_var 3 rfl) (wAt hi)) (ev_str (x := mE)))) (fun i hi _ => (fun _ _ _ _ _ => (ev_var 3 rfl)))) ?_)
  rw [List.map_id', List.map_id', List.map_id', Int.toNat_natCast]
  have eI : ((List.range w.length).filter fun i => !decide (w.getD i Str.empty = mB) && !decide (w.getD i Str.empty = mE)) = idxP pI w := rfl
  have eB : ((List.range w.length).filter fun i => decide (w.getD i Str.empty = mB)) = idxP pB w := rfl
  have eE : ((List.range w.length).filter fun i => decide (w.getD i Str.empty = mE)) = idxP pE w := rfl
  rw [eI, eB, eE]
  have l1 := idx_le pI w
  have l2 := idx_le pB w
  have l3 := idx_le pE w
  refine r_cons (s_if (EvW.t (ew_or (et_gt (ev_len m_len (ev_own 4 rfl)) (ev_sub (ev_var 1 rfl) ev_int)) (fun _ => (ew_or1 (et_gt (ev_len m_len (ev_own 5 rfl)) (ev_sub (ev_var 1 rfl) ev_int)))))) (fun h2 => ?_) (fun h2 => r_nil ?_))
  · refine r_one (s_ret ev_bl (fun _ _ r => ?_))
    unfold lawGood
    rw [h, h2]
    exact r
  refine r_one (s_ret (ev_eq (sLst sNat) hr (EvN.toE (ev_catL (EvN.toE (ev_catL (ev_own 4 rfl) (ev_own 2 rfl) (sz (by omega)))).toB (ev_own 5 rfl) (sz (by rw [List.length_append]; omega)))) (EvN.toE (ev_listRg rfl m_list m_range (ev_var 1 rfl) (by omega) (by omega)))) (fun _ _ r => ?_))
  unfold lawGood
  rw [h, h2]
  exact r
def Phi_law_refused (as : List S) (s : S) : Prop := ∃ (b : Bool), as = [sBool b] ∧ s = sBool true
theorem ok_law_refused {C CI : Addr} (F : FunE K "_law_refused" "_law_refused" s_law_refused f fd) (T_InvalidProcess : ExcK K mg "InvalidProcess" CI) (C_Process : CalleeI P w K mg base 3 "Process" C (Phi_Process__init__ CI)) : FnOk P w K mg base CX0 5 f fd ["size"] (spOf Phi_law_refused) := by
  refine fn_ok F sc_law_refused (fun as s h => by obtain ⟨b, rfl, _⟩ := h; rfl) (fun cdv A outer s0 H0 E as s hr h => ?_)
  obtain ⟨b, rfl, rfl⟩ := h
  refine r_cons (s_try (c := .ref CI) rfl rfl ⟨rfl, by decide, .inl T_InvalidProcess.g⟩ (fun pn xe hp => ?_))
  refine r_one (s_dropR (ev_makeR C_Process hr (eas_cons (ev_var 0 rfl) (eas_cons (EvE.lsq (EvN.toE (ev_lst (T := sSq sStr) em_nil (sz (by decide))))) eas_nil)) (.inr ⟨b, [], rfl, rfl⟩) ⟨true, exm_own T_InvalidProcess T_InvalidProcess.s, (fun _ a oe d pn hz hd => ?_), (fun e => nomatch e)⟩))
  exact r_one (s_ret ev_bl (fun _ _ r => r))
def k04W0 (ns : List Int) (n : Int) : List (List Str) := (cutL (lawRow (cellN ns 1) 6 ++ cutL ns (some 3) (some 8)) none (some (cellN ns 2 % 7))).map fun num => lawWin num (max 1 (min n 3)).toNat
def badL (n : Int) (ws : List (List Str)) : List Nat := (List.range ws.length).filter fun k => inB (ws.getD k []) (ws.take k) || !lawGood n (ws.getD k [])
def fitsB (n : Int) (ws : List (List Str)) : Bool := (decide (1 ≤ n) && decide (n ≤ 3)) && decide (((badL n ws).length : Int) = 0)
structure WinsOk (ws : List (List Str)) : Prop where
  le : ws.length ≤ 1100
  wl : ∀ w ∈ ws, w.length ≤ 100
  sg : ∀ w ∈ ws, ∀ x ∈ w, x ∈ signsL
theorem k04W0_ok {ns : List Int} (h : ns.length ≤ 1000) (n : Int) : WinsOk (k04W0 ns n) := by
  refine ⟨?_, fun w hw => ?_, fun w hw => ?_⟩
  · unfold k04W0
    rw [List.length_map]
    refine Nat.le_trans cutL_le ?_
    rw [List.length_append, lawRow_len]
    have := cutL_le (l := ns) (a := some 3) (b := some 8)
    omega
  · obtain ⟨m, _, rfl⟩ := List.mem_map.mp hw
    refine Nat.le_trans lawWin_len ?_
    omega
  · obtain ⟨m, _, rfl⟩ := List.mem_map.mp hw
    exact fun x hx => lawWin_mem hx
theorem WinsOk.sub {ws vs : List (List Str)} (h : WinsOk ws) (hl : vs.length ≤ ws.length) (hm : ∀ w ∈ vs, w ∈ ws) : WinsOk vs := ⟨Nat.le_trans hl h.le, fun w hw => h.wl w (hm w hw), fun w hw => h.sg w (hm w hw)⟩
theorem fits_iff {n : Int} {ws : List (List Str)} (h : WinsOk ws) : fitsB n ws = true ↔ InitOk n ws := by
  have hg : ∀ w ∈ ws, lawGood n w = progB n w := fun w hw => lawGood_eq fun x hx => (signsL_ok x (h.sg w hw x hx)).1
  have hbad : ((badL n ws).length : Int) = 0 ↔ ∀ i < ws.length, inB (ws.getD i []) (ws.take i) = false ∧ lawGood n (ws.getD i []) = true := by
    rw [show (((badL n ws).length : Int) = 0) ↔ (badL n ws).length = 0 by omega, List.length_eq_zero_iff]
    unfold badL
    rw [List.filter_eq_nil_iff]
    constructor
    · intro q i hi
      have z := q i (List.mem_range.mpr hi)
      rw [Bool.or_eq_true, not_or, Bool.not_eq_true', Bool.not_eq_true, Bool.not_eq_false] at z
      exact z
    · intro q i hi z
      obtain ⟨z1, z2⟩ := q i (List.mem_range.mp hi)
      rw [z1, z2] at z
      cases z
  unfold fitsB
  rw [Bool.and_eq_true, decide_eq_true_iff, hbad]
  constructor
  · rintro ⟨q1, q2⟩
    refine ⟨q1, fun w hw => ?_, nodup_of_take fun i x hx hm => ?_⟩
    · obtain ⟨i, hi, rfl⟩ := List.getElem_of_mem hw
      have z := (q2 i hi).2
      rw [show ws.getD i [] = ws[i] by simp [List.getD, hi]] at z
      rw [← hg _ hw]
      exact z
    · obtain ⟨hi, ei⟩ := List.getElem?_eq_some_iff.mp hx
      have z := (q2 i hi).1
      rw [show ws.getD i [] = x by simp [List.getD, hx]] at z
      rw [inB_iff.mpr hm] at z
      cases z
  · rintro ⟨q1, q2, q3⟩
    refine ⟨q1, fun i hi => ?_⟩
    have e : ws.getD i [] = ws[i] := by simp [List.getD, hi]
    rw [e]
    refine ⟨?_, ?_⟩
    · cases z : inB ws[i] (ws.take i) with
      | false => rfl
      | true => exact absurd (inB_iff.mp z) (not_mem_take q3 (List.getElem?_eq_getElem hi))
    · rw [hg _ (List.getElem_mem hi)]
      exact q2 _ (List.getElem_mem hi)
theorem gAt {ws : List (List Str)} {i : Nat} (h : (i : Int) < (ws.length : Int)) : atI ws (i : Int) = some (ws.getD i []) := atI_n _ (by omega)
theorem sq_ll {ws : List (List Str)} {F : Hp} {v : V} (h : (sLst (sLst sStr) ws).r F v) : (sSq (sSq sStr) ws).r F v := lst_sq (fun _ _ q => lst_sq (fun _ _ q => q) q) h
theorem sq_tt {ws : List (List Str)} {F : Hp} {v : V} (h : (sTup (sTup sStr) ws).r F v) : (sSq (sSq sStr) ws).r F v := tup_sq (fun _ _ q => tup_sq (fun _ _ q => q) q) h
def Phi_law (K : PySem.W.Frag) (as : List S) (s : S) : Prop := ∃ (ns : List Int), as = [sLq K sInt ns] ∧ ns.length ≤ 1000 ∧ s = sBool true
theorem ok_law {C CI CC CS : Addr} (F : FunE K "law" "law" s_law f fd) (RC : ProcessC K C) (T_InvalidProcess : ExcK K mg "InvalidProcess" CI) (e_CaseError : mg "CaseError" = some (.ref CC)) (e_InvalidSetting : mg "InvalidSetting" = some (.ref CS)) (i_1 : IsA K CI CC true) (i_2 : IsA K CI CS false)
    (m_len : mg "len" = none) (m_list : mg "list" = none) (m_tuple : mg "tuple" = none) (m_range : mg "range" = none) (m_max : mg "max" = none) (m_min : mg "min" = none) (m_isinstance : mg "isinstance" = none)
    (C_law_cell : Callee P w K mg base 1 "_law_cell" (Phi_law_cell K)) (C_law_row : Callee P w K mg base 1 "_law_row" Phi_law_row) (C_law_window : Callee P w K mg base 1 "_law_window" Phi_law_window) (C_law_is_good : Callee P w K mg base 1 "_law_is_good" Phi_law_is_good)
    (C_law_refused : Callee P w K mg base 5 "_law_refused" Phi_law_refused) (C_Process : CalleeI P w K mg base 3 "Process" C (Phi_Process__init__ CI)) :
    FnOk P w K mg base CX0 6 f fd ["script"] (spOf (Phi_law K)) := by
  refine fn_ok F sc_law (fun as s h => by obtain ⟨ns, rfl, _⟩ := h; rfl) (fun cdv A outer s0 H0 E as s hr h => ?_)
  obtain ⟨ns, rfl, hns, rfl⟩ := h
  have cl : ∀ j : Nat, Phi_law_cell K [sLq K sInt ns, sInt (j : Int)] (sInt (cellN ns j)) := fun j => ⟨ns, j, rfl, rfl⟩
  have cut8 := cutL_le (l := ns) (a := some 3) (b := some 8)
  refine r_cons (s_asg 1 sc_law.nd (ev_sub (ev_mod (ev_call C_law_cell hr (eas_cons (ev_var 0 rfl) (eas_cons ev_int eas_nil)) (cl 0)) ev_int (by decide)) ev_int) ?_)
  have hn : -1 ≤ cellN ns 0 % 7 - 1 ∧ cellN ns 0 % 7 - 1 ≤ 5 := by omega
  generalize cellN ns 0 % 7 - 1 = n at hn ⊢
  refine r_cons (s_asgN 2 sc_law.nd (ev_catL (EvE.toB (ev_call C_law_row hr (eas_cons (ev_call C_law_cell hr (eas_cons (ev_var 0 rfl) (eas_cons ev_int eas_nil)) (cl 1)) (eas_cons ev_int eas_nil)) ⟨cellN ns 1, 6, rfl, by decide, rfl⟩)) (EvE.toB (EvN.toE (ev_slL (EvE.lq (ev_var 0 rfl)) (eo_some ev_int) (eo_some ev_int)))) (sz (by rw [lawRow_len]; omega))) ?_)
  have hk : max 1 (min n 3) = (((max 1 (min n 3)).toNat : Nat) : Int) := by omega
  have hRl : (lawRow (cellN ns 1) 6 ++ cutL ns (some 3) (some 8)).length ≤ 1006 := by rw [List.length_append, lawRow_len]; omega
  refine r_cons (s_asgN 3 sc_law.nd (ev_lc rfl sc_law.nd (lc_seqT (U := sTup sStr) 4 (fun num => lawWin num (max 1 (min n 3)).toNat) (EvN.toE (ev_slL (ev_own 2 rfl) eo_none (eo_some (ev_mod (ev_call C_law_cell hr (eas_cons (ev_var 0 rfl) (eas_cons ev_int eas_nil)) (cl 2)) ev_int (by decide))))) (sz (Nat.le_trans cutL_le (by omega))) (fun i num hnum => (fun _ _ _ _ _ => (ev_call C_law_window hr (eas_cons (ev_var 4 rfl) (eas_cons (EvE.to (ev_max2 rfl m_max ev_int (ev_min2 rfl m_min (ev_var 1 rfl) ev_int)) (show _ = sv (sInt (((max 1 (min n 3)).toNat : Nat) : Int)) by rw [← hk])) eas_nil)) ⟨num, _, rfl, by omega, rfl⟩))))) ?_)
  have hW0 := k04W0_ok hns n
  have eW0 : ((cutL (lawRow (cellN ns 1) 6 ++ cutL ns (some 3) (some 8)) none (some (cellN ns 2 % 7))).map fun num => lawWin num (max 1 (min n 3)).toNat) = k04W0 ns n := rfl
  rw [eW0]
  generalize lawRow (cellN ns 1) 6 ++ cutL ns (some 3) (some 8) = R
  generalize k04W0 ns n = W0 at hW0 ⊢
  have hW0l := hW0.le
  refine r_cut (fun ss' => ∃ ws, WinsOk ws ∧ ss' = [.val (sLq K sInt ns), .val (sInt n), .own (oLst sInt R), .own (oLst (sTup sStr) ws), .any, .any, .any, .any, .any, .any, .any, .any, .any]) (s_if (et_eq sInt hr (ev_mod (ev_div (ev_call C_law_cell hr (eas_cons (ev_var 0 rfl) (eas_cons ev_int eas_nil)) (cl 2)) ev_int ⟨by decide, by decide⟩) ev_int (by decide)) ev_int) (fun h => ?_) (fun h => ?_)) ?_
  · refine r_one (s_asgN 3 sc_law.nd (ev_lc rfl sc_law.nd (lc_rng (U := sTup sStr) 5 (fun k => !inB (W0.getD k []) (W0.take k) && lawGood n (W0.getD k [])) (fun k => W0.getD k []) m_range (ev_len m_len (ev_own 3 rfl)) (by omega) (by omega) (fun k hk => fun _ _ _ _ _ => ets_one (EvW.t (ew_and (et_nin (sTup sStr) hr (ev_ix (ev_own 3 rfl) (ev_var 5 rfl) (gAt hk)) (EvN.toE (ev_slPre (ev_own 3 rfl) (eo_some (ev_var 5 rfl)))).toB) (fun _ => (ew_and1 (et_val (ev_call C_law_is_good hr (eas_cons (ev_ix (ev_own 3 rfl) (ev_var 5 rfl) (gAt hk)) (eas_cons (ev_var 1 rfl) eas_nil)) ⟨_, n, rfl, Nat.le_trans (hW0.wl _ (getD_mem (by omega))) (by decide), rfl⟩))))))) (fun k hk _ => (fun _ _ _ _ _ => (ev_ix (ev_own 3 rfl) (ev_var 5 rfl) (gAt hk)))))) ?_)
    refine ⟨_, hW0.sub ?_ fun w hw => ?_, rfl⟩
    · rw [List.length_map]
      refine Nat.le_trans (List.length_filter_le _ _) ?_
      rw [List.length_range, Int.toNat_natCast]
      exact Nat.le_refl _
    · obtain ⟨i, hi, rfl⟩ := List.mem_map.mp hw
      have hi2 := List.mem_range.mp (List.mem_filter.mp hi).1
      exact getD_mem (by omega)
  · exact r_nil ⟨W0, hW0, rfl⟩
  rintro ss' ⟨ws, hW, rfl⟩
  have hWl := hW.le
  refine r_cons (s_asgLc 6 rfl sc_law.nd (lc_rng (U := sNat) 5 (fun k => inB (ws.getD k []) (ws.take k) || !lawGood n (ws.getD k [])) (fun k => k) m_range (ev_len m_len (ev_own 3 rfl)) (by omega) (by omega) (fun k hk => fun _ _ _ _ _ => ets_one (EvW.t (ew_or (et_in (sTup sStr) hr (ev_ix (ev_own 3 rfl) (ev_var 5 rfl) (gAt hk)) (EvN.toE (ev_slPre (ev_own 3 rfl) (eo_some (ev_var 5 rfl)))).toB) (fun _ => (ew_or1 (et_not (et_val (ev_call C_law_is_good hr (eas_cons (ev_ix (ev_own 3 rfl) (ev_var 5 rfl) (gAt hk)) (eas_cons (ev_var 1 rfl) eas_nil)) ⟨_, n, rfl, Nat.le_trans (hW.wl _ (getD_mem (by omega))) (by decide), rfl⟩)))))))) (fun k hk _ => (fun _ _ _ _ _ => (ev_var 5 rfl)))) ?_)
  rw [List.map_id', Int.toNat_natCast]
  have eB : ((List.range ws.length).filter fun k => inB (ws.getD k []) (ws.take k) || !lawGood n (ws.getD k [])) = badL n ws := rfl
  rw [eB]
  refine r_cons (s_asg 7 sc_law.nd (s := sBool (fitsB n ws)) (ev_and (ev_chain op_le op_le ev_int (ev_var 1 rfl) ev_int) (fun _ => (ev_and1 (ev_eq sInt hr (ev_len m_len (ev_own 6 rfl)) ev_int)))) ?_)
  refine r_cons (s_asgLc 8 rfl sc_law.nd (lc_seqT (T := sTup sStr) (xs := ws) (U := sLst sStr) 9 (fun w => w) (ev_own 3 rfl) (sz (by omega)) (fun i w hw => (fun _ _ _ _ _ => (EvN.toE (ev_list m_list (ev_var 9 rfl)))))) ?_)
  rw [List.map_id']
  generalize badL n ws = BD
  refine r_cons (s_for (T := sBool) (xs := [true, false]) 10 PassesOwn.never rfl sc_law.nd (fun i ss' => ∃ x, ss' = [.val (sLq K sInt ns), .val (sInt n), .own (oLst sInt R), .own (oLst (sTup sStr) ws), .any, .any, .own (oLst sNat BD), .val (sBool (fitsB n ws)), .own (oLst (sLst sStr) ws), .any, x, .any, .any]) (EvN.toE (ev_lst (T := sBool) (em_cons ev_bl (em_cons ev_bl em_nil)) (sz (show 2 ≤ 16777216 by decide)))) ⟨_, rfl⟩ ?_ ?_)
  · rintro i b ss' hb ⟨x, rfl⟩
    exact r_one (s_if (et_not (et_val (ev_call C_law_refused hr (eas_cons (ev_var 10 rfl) eas_nil) ⟨b, rfl, rfl⟩))) (fun h => by cases h) (fun _ => r_nil ⟨_, rfl⟩))
  rintro ss' ⟨x, rfl⟩
  refine r_cut (fun ss' => ss' = [.val (sLq K sInt ns), .val (sInt n), .own (oLst sInt R), .own (oLst (sTup sStr) ws), .any, .any, .own (oLst sNat BD), .val (sBool (fitsB n ws)), .val (sSq (sSq sStr) ws), .any, x, .any, .any]) (s_if (et_eq sInt hr (ev_mod (ev_div (ev_call C_law_cell hr (eas_cons (ev_var 0 rfl) (eas_cons ev_int eas_nil)) (cl 2)) ev_int ⟨by decide, by decide⟩) ev_int (by decide)) ev_int) (fun h => ?_) (fun h => ?_)) ?_
  · refine r_one (s_asg 8 sc_law.nd (EvE.impS (EvN.toE (ev_tupN m_tuple (EvN.toE (ev_lc rfl sc_law.nd (lc_seqT (U := sTup sStr) 9 (fun w => w) (ev_own 3 rfl) (sz (by omega)) (fun i w hw => (fun _ _ _ _ _ => (ev_tupT m_tuple (ev_var 9 rfl))))))))) (fun F v h => sq_tt h)) ?_)
    rw [List.map_id']
    rfl
  · exact r_pub 8 rfl (r_weak 8 rfl (fun F v h => sq_ll h) (r_nil rfl))
  rintro ss' rfl
  have hcond : ∀ w ∈ ws, w.length ≤ 100 ∧ ∀ y ∈ w, SgOk y := fun w hw => ⟨hW.wl w hw, fun y hy => (signsL_ok y (hW.sg w hw y hy)).2⟩
  by_cases hok : InitOk n ws
  · have hf : fitsB n ws = true := (fits_iff hW).mpr hok
    refine r_cons (s_tryAs (c := .ref CI) 12 rfl rfl sc_law.nd ⟨rfl, by decide, .inl T_InvalidProcess.g⟩ (fun pn xe hp => ?_))
    refine r_one (s_asg 11 sc_law.nd (s := sProc C n.toNat ws) (EvN.toE (ev_makeX C_Process hr (eas_cons (ev_var 1 rfl) (eas_cons (ev_var 8 rfl) eas_nil)) (.inl ⟨n, ws, rfl, by omega, hcond, (fun _ => rfl), (fun q => absurd hok q)⟩))) ?_)
    refine r_cons (s_asgLc 8 rfl sc_law.nd (lc_seqT (U := sLst sStr) 9 (fun w => w) (ev_var 8 rfl) (sz (by omega)) (fun i w hw => (fun _ _ _ _ _ => (EvN.toE (ev_list m_list (ev_var 9 rfl)))))) ?_)
    rw [List.map_id']
    refine r_pub 8 rfl (r_one (s_ret (ev_and (ev_var 7 rfl) (fun _ => (ev_and (ev_eq (sTup (sTup sStr)) hr (ev_gpub (sl := .val (sTup (sTup sStr) ws)) (ev_var 11 rfl) rfl RC.cl RC.nW) (EvN.toE (ev_tupN m_tuple (ev_own 3 rfl)))) (fun _ => (ev_and1 (ev_eq (sLst (sLst sStr)) hr (ev_var 8 rfl) (EvN.toE (ev_lc rfl sc_law.nd (lc_seqT (T := sTup sStr) (xs := ws) (U := sLst sStr) 9 (fun w => w) (ev_own 3 rfl) (sz (by omega)) (fun i w hw => (fun _ _ _ _ _ => (EvN.toE (ev_list m_list (ev_var 9 rfl)))))))))))))) (fun _ _ r => ?_)))
    rw [List.map_id', hf] at r
    simpa using r
  · have hf : fitsB n ws = false := by
      cases q : fitsB n ws with
      | false => rfl
      | true => exact absurd ((fits_iff hW).mp q) hok
    refine r_cons (s_tryAs (c := .ref CI) 12 rfl rfl sc_law.nd ⟨rfl, by decide, .inl T_InvalidProcess.g⟩ (fun pn xe hp => ?_))
    refine r_one (s_asgR 11 sc_law.nd (ev_makeR C_Process hr (eas_cons (ev_var 1 rfl) (eas_cons (ev_var 8 rfl) eas_nil)) (.inl ⟨n, ws, rfl, by omega, hcond, (fun q => absurd q hok), (fun _ => rfl)⟩) ⟨true, exm_own T_InvalidProcess T_InvalidProcess.s, (fun _ a oe d pn hz hd0 hd => ?_), (fun e => nomatch e)⟩))
    have ed := hd0 rfl
    subst ed
    refine r_one (s_ret (ev_and (ev_not (ev_var 7 rfl)) (fun _ => (ev_and (ev_isE T_InvalidProcess.i hz hd m_isinstance (ev_var 12 rfl) (ev_cls e_CaseError) i_1) (fun _ => (ev_and1 (ev_not (ev_isE T_InvalidProcess.i hz hd m_isinstance (ev_var 12 rfl) (ev_cls e_InvalidSetting) i_2))))))) (fun _ _ r => ?_))
    rw [hf] at r
    exact r
end
end My
--import HandS.ForMost
namespace My
open PySem PySem.Spec PyProof.Rows L2 Sx
theorem its_ints {F : Hp} : ∀ ns : List Int, Its sInt F ns (ns.map V.int)
  | [] => .nil
  | n :: ns => .cons rfl (its_ints ns)
theorem all_mk {l : PySem.W.OpenLaw} {w : World} {K : PySem.W.Frag} {h : Heap} {mg : Str → Option Value} {fa CProcess CInvalidProcess CCaseError CInvalidSetting f0 f1 f2 f3 f4 f5 f6 f7 f8 f9 f10 : Addr} (X : K.In h) (G : h.Ns mainGlobals mg) (hfa : mg "law" = some (.ref fa))
    {od0 an0 od1 an1 od2 an2 od3 an3 od4 an4 od5 an5 od6 an6 od7 an7 od8 an8 od9 an9 od10 an10 : Option Addr} {sl0 sl1 sl2 sl3 sl4 sl5 sl6 sl7 sl8 sl9 sl10 : Array (Option Value)} {oc0 kV0 dc0 pm0 cd0 ct0 oc1 kV1 dc1 pm1 cd1 ct1 oc2 kV2 dc2 pm2 cd2 ct2 oc3 kV3 dc3 pm3 cd3 ct3 oc4 kV4 dc4 pm4 cd4 ct4 oc5 kV5 dc5 pm5 cd5 ct5 oc6 kV6 dc6 pm6 cd6 ct6 oc7 kV7 dc7 pm7 cd7 ct7 oc8 kV8 dc8 pm8 cd8 ct8 oc9 kV9 dc9 pm9 cd9 ct9 oc10 kV10 dc10 pm10 cd10 ct10 : Value}
    {vg_LARGEST_SIZE vg_START vg_END : Value}
    (aCProcess : PySem.W.nsIn K mainGlobals "Process" = some (some (.ref CProcess)))
    (pgProcess : PySem.W.plainGet K CProcess Str.empty = true)
    (hdProcess : PySem.W.hasDictIn K CProcess = true)
    (poProcess : PySem.W.plainOver K CProcess = true)
    (saProcess : PySem.W.findIn K (.ref CProcess) "__setattr__" = some (some (.builtin "object.__setattr__")))
    (mkProcess : PySem.W.makesIn K CProcess = true)
    (kcProcess : PySem.W.keepIn K (.ref CProcess) = true)
    (nProcess_size : PySem.W.findIn K (.ref CProcess) "size" = some none)
    (nProcess_windows : PySem.W.findIn K (.ref CProcess) "windows" = some none)
    (nProcess__known : PySem.W.findIn K (.ref CProcess) "_known" = some none)
    (aCInvalidProcess : PySem.W.nsIn K mainGlobals "InvalidProcess" = some (some (.ref CInvalidProcess)))
    (aCCaseError : PySem.W.nsIn K mainGlobals "CaseError" = some (some (.ref CCaseError)))
    (aCInvalidSetting : PySem.W.nsIn K mainGlobals "InvalidSetting" = some (some (.ref CInvalidSetting)))
    (qInvalidProcess : PySem.W.excIn K CInvalidProcess [.type "ValueError", .type "Exception", .type "BaseException", .type "object"] "ValueError.__new__" = true)
    (kcInvalidProcess : PySem.W.keepIn K (.ref CInvalidProcess) = true)
    (sbInvalidProcess : PySem.W.subIn K (.ref CInvalidProcess) (.type "BaseException") = some true)
    (ttInvalidProcess : PySem.W.typeIn K (.ref CInvalidProcess) = some (.type "type"))
    (ssInvalidProcess : PySem.W.subIn K (.ref CInvalidProcess) (.ref CInvalidProcess) = some true)
    (xgInvalidProcess : PySem.W.findIn K (.ref CInvalidProcess) "__getattribute__" = some (some (.builtin "BaseException.__getattribute__")))
    (xkInvalidProcess : PySem.W.findIn K (.ref CInvalidProcess) "__getattr__" = some none)
    (xdInvalidProcess : PySem.W.hasDictIn K CInvalidProcess = true)
    (xaInvalidProcess : PySem.W.findIn K (.ref CInvalidProcess) "__class__" = some (some (.builtin "object.__class__")))
    (xmInvalidProcess : PySem.W.mroIn K CInvalidProcess (.type "object") = some true)
    (xn : PySem.W.specialIn K (.builtin "object.__class__") "__get__" = some (some (.builtin "getset_descriptor.__get__")))
    (xt : PySem.W.takesIn K (.builtin "object.__class__") = some true)
    (i_InvalidProcess_CaseError : PySem.W.kitOne K (.ref CInvalidProcess) (.ref CCaseError) = some true)
    (i_InvalidProcess_InvalidSetting : PySem.W.kitOne K (.ref CInvalidProcess) (.ref CInvalidSetting) = some false)
    (a0 : PySem.W.nsIn K mainGlobals "_law_cell" = some (some (.ref f0)))
    (l0 : K.lookup f0 = some ⟨oc0, od0, .func (PySem.W.fnOf "_law_cell" "_law_cell" (defArgs s_law_cell) (defBody s_law_cell) (defScope s_law_cell) .none kV0 dc0 pm0 an0 cd0 ct0), sl0⟩)
    (c0 : PySem.W.codeIn K cd0 "_law_cell" = true)
    (k0 : PySem.W.keepIn K (.ref f0) = true)
    (a1 : PySem.W.nsIn K mainGlobals "_law_row" = some (some (.ref f1)))
    (l1 : K.lookup f1 = some ⟨oc1, od1, .func (PySem.W.fnOf "_law_row" "_law_row" (defArgs s_law_row) (defBody s_law_row) (defScope s_law_row) .none kV1 dc1 pm1 an1 cd1 ct1), sl1⟩)
    (c1 : PySem.W.codeIn K cd1 "_law_row" = true)
    (k1 : PySem.W.keepIn K (.ref f1) = true)
    (a2 : PySem.W.nsIn K mainGlobals "is_size" = some (some (.ref f2)))
    (l2 : K.lookup f2 = some ⟨oc2, od2, .func (PySem.W.fnOf "is_size" "is_size" (defArgs s_is_size) (defBody s_is_size) (defScope s_is_size) .none kV2 dc2 pm2 an2 cd2 ct2), sl2⟩)
    (c2 : PySem.W.codeIn K cd2 "is_size" = true)
    (k2 : PySem.W.keepIn K (.ref f2) = true)
    (a3 : PySem.W.nsIn K mainGlobals "is_sign" = some (some (.ref f3)))
    (l3 : K.lookup f3 = some ⟨oc3, od3, .func (PySem.W.fnOf "is_sign" "is_sign" (defArgs s_is_sign) (defBody s_is_sign) (defScope s_is_sign) .none kV3 dc3 pm3 an3 cd3 ct3), sl3⟩)
    (c3 : PySem.W.codeIn K cd3 "is_sign" = true)
    (k3 : PySem.W.keepIn K (.ref f3) = true)
    (a4 : PySem.W.nsIn K mainGlobals "is_well_formed" = some (some (.ref f4)))
    (l4 : K.lookup f4 = some ⟨oc4, od4, .func (PySem.W.fnOf "is_well_formed" "is_well_formed" (defArgs s_is_well_formed) (defBody s_is_well_formed) (defScope s_is_well_formed) .none kV4 dc4 pm4 an4 cd4 ct4), sl4⟩)
    (c4 : PySem.W.codeIn K cd4 "is_well_formed" = true)
    (k4 : PySem.W.keepIn K (.ref f4) = true)
    (a5 : PySem.W.nsIn K mainGlobals "check_window" = some (some (.ref f5)))
    (l5 : K.lookup f5 = some ⟨oc5, od5, .func (PySem.W.fnOf "check_window" "check_window" (defArgs s_check_window) (defBody s_check_window) (defScope s_check_window) .none kV5 dc5 pm5 an5 cd5 ct5), sl5⟩)
    (c5 : PySem.W.codeIn K cd5 "check_window" = true)
    (k5 : PySem.W.keepIn K (.ref f5) = true)
    (a6 : PySem.W.findIn K (.ref CProcess) "__init__" = some (some (.ref f6)))
    (i6 : PySem.W.isFn K (.ref f6) = true)
    (l6 : K.lookup f6 = some ⟨oc6, od6, .func (PySem.W.fnOf "__init__" "Process.__init__" (defArgs s_Process__init__) (defBody s_Process__init__) (defScope s_Process__init__) .none kV6 dc6 pm6 an6 cd6 ct6), sl6⟩)
    (c6 : PySem.W.codeIn K cd6 "Process.__init__" = true)
    (k6 : PySem.W.keepIn K (.ref f6) = true)
    (a7 : PySem.W.nsIn K mainGlobals "_law_window" = some (some (.ref f7)))
    (l7 : K.lookup f7 = some ⟨oc7, od7, .func (PySem.W.fnOf "_law_window" "_law_window" (defArgs s_law_window) (defBody s_law_window) (defScope s_law_window) .none kV7 dc7 pm7 an7 cd7 ct7), sl7⟩)
    (c7 : PySem.W.codeIn K cd7 "_law_window" = true)
    (k7 : PySem.W.keepIn K (.ref f7) = true)
    (a8 : PySem.W.nsIn K mainGlobals "_law_is_good" = some (some (.ref f8)))
    (l8 : K.lookup f8 = some ⟨oc8, od8, .func (PySem.W.fnOf "_law_is_good" "_law_is_good" (defArgs s_law_is_good) (defBody s_law_is_good) (defScope s_law_is_good) .none kV8 dc8 pm8 an8 cd8 ct8), sl8⟩)
    (c8 : PySem.W.codeIn K cd8 "_law_is_good" = true)
    (k8 : PySem.W.keepIn K (.ref f8) = true)
    (a9 : PySem.W.nsIn K mainGlobals "_law_refused" = some (some (.ref f9)))
    (l9 : K.lookup f9 = some ⟨oc9, od9, .func (PySem.W.fnOf "_law_refused" "_law_refused" (defArgs s_law_refused) (defBody s_law_refused) (defScope s_law_refused) .none kV9 dc9 pm9 an9 cd9 ct9), sl9⟩)
    (c9 : PySem.W.codeIn K cd9 "_law_refused" = true)
    (k9 : PySem.W.keepIn K (.ref f9) = true)
    (a10 : PySem.W.nsIn K mainGlobals "law" = some (some (.ref f10)))
    (l10 : K.lookup f10 = some ⟨oc10, od10, .func (PySem.W.fnOf "law" "law" (defArgs s_law) (defBody s_law) (defScope s_law) .none kV10 dc10 pm10 an10 cd10 ct10), sl10⟩)
    (c10 : PySem.W.codeIn K cd10 "law" = true)
    (k10 : PySem.W.keepIn K (.ref f10) = true)
    (z_bool : PySem.W.nsIn K mainGlobals "bool" = some none)
    (z_int : PySem.W.nsIn K mainGlobals "int" = some none)
    (z_isinstance : PySem.W.nsIn K mainGlobals "isinstance" = some none)
    (z_len : PySem.W.nsIn K mainGlobals "len" = some none)
    (z_list : PySem.W.nsIn K mainGlobals "list" = some none)
    (z_max : PySem.W.nsIn K mainGlobals "max" = some none)
    (z_min : PySem.W.nsIn K mainGlobals "min" = some none)
    (z_range : PySem.W.nsIn K mainGlobals "range" = some none)
    (z_str : PySem.W.nsIn K mainGlobals "str" = some none)
    (z_tuple : PySem.W.nsIn K mainGlobals "tuple" = some none)
    (w_LARGEST_SIZE : PySem.W.nsIn K mainGlobals "LARGEST_SIZE" = some (some vg_LARGEST_SIZE))
    (v_LARGEST_SIZE : ∃ t, vg_LARGEST_SIZE = Value.int 3 t)
    (w_START : PySem.W.nsIn K mainGlobals "START" = some (some vg_START))
    (v_START : ∃ t, vg_START = Value.str mB t)
    (w_END : PySem.W.nsIn K mainGlobals "END" = some (some vg_END))
    (v_END : ∃ t, vg_END = Value.str mE t)
    : ∃ fd : FuncData, (∀ (s : Shared) (v : Value), BindsTo s fd ⟨[v], []⟩ [("script", v)]) ∧ ∀ base : Heap, K.In base → base.Ns mainGlobals mg → FnOk l.prog w K mg base CX0 6 fa fd ["script"] (spOf (Phi_law K)) := by
  have e := hfa.symm.trans (PySem.W.mg_of X G a10)
  cases e
  have RC_Process : ProcessC K CProcess := ⟨⟨pgProcess, hdProcess, poProcess, saProcess⟩, nProcess_size, nProcess_windows, nProcess__known⟩
  have T_InvalidProcess : ExcK K mg "InvalidProcess" CInvalidProcess := ⟨qInvalidProcess, PySem.W.mg_of X G aCInvalidProcess, kcInvalidProcess, sbInvalidProcess, ttInvalidProcess, ssInvalidProcess, ⟨xgInvalidProcess, xkInvalidProcess, sbInvalidProcess, xdInvalidProcess, xaInvalidProcess, xn, xt, xmInvalidProcess⟩⟩
  have e_CaseError := PySem.W.mg_of X G aCCaseError
  have e_InvalidSetting := PySem.W.mg_of X G aCInvalidSetting
  obtain ⟨tg_LARGEST_SIZE, v_LARGEST_SIZE⟩ := v_LARGEST_SIZE
  subst v_LARGEST_SIZE
  have g_LARGEST_SIZE : ∃ t, mg "LARGEST_SIZE" = some (Value.int 3 t) := ⟨_, PySem.W.mg_of X G w_LARGEST_SIZE⟩
  obtain ⟨tg_START, v_START⟩ := v_START
  subst v_START
  have g_START : ∃ t, mg "START" = some (Value.str mB t) := ⟨_, PySem.W.mg_of X G w_START⟩
  obtain ⟨tg_END, v_END⟩ := v_END
  subst v_END
  have g_END : ∃ t, mg "END" = some (Value.str mE t) := ⟨_, PySem.W.mg_of X G w_END⟩
  have m_bool := PySem.W.mg_none_of X G z_bool
  have m_int := PySem.W.mg_none_of X G z_int
  have m_isinstance := PySem.W.mg_none_of X G z_isinstance
  have m_len := PySem.W.mg_none_of X G z_len
  have m_list := PySem.W.mg_none_of X G z_list
  have m_max := PySem.W.mg_none_of X G z_max
  have m_min := PySem.W.mg_none_of X G z_min
  have m_range := PySem.W.mg_none_of X G z_range
  have m_str := PySem.W.mg_none_of X G z_str
  have m_tuple := PySem.W.mg_none_of X G z_tuple
  have F0 := fun_mk (st := s_law_cell) l0 c0 k0
  have E0 := fun_e F0
  have F1 := fun_mk (st := s_law_row) l1 c1 k1
  have E1 := fun_e F1
  have F2 := fun_mk (st := s_is_size) l2 c2 k2
  have E2 := fun_e F2
  have F3 := fun_mk (st := s_is_sign) l3 c3 k3
  have E3 := fun_e F3
  have F4 := fun_mk (st := s_is_well_formed) l4 c4 k4
  have E4 := fun_e F4
  have F5 := fun_mk (st := s_check_window) l5 c5 k5
  have E5 := fun_e F5
  have F6 := fun_mk (st := s_Process__init__) l6 c6 k6
  have E6 := fun_e F6
  have F7 := fun_mk (st := s_law_window) l7 c7 k7
  have E7 := fun_e F7
  have F8 := fun_mk (st := s_law_is_good) l8 c8 k8
  have E8 := fun_e F8
  have F9 := fun_mk (st := s_law_refused) l9 c9 k9
  have E9 := fun_e F9
  have F10 := fun_mk (st := s_law) l10 c10 k10
  have E10 := fun_e F10
  refine ⟨PySem.W.fnOf "law" "law" (defArgs s_law) (defBody s_law) (defScope s_law) .none kV10 dc10 pm10 an10 cd10 ct10, fun s v => .of_eq rfl, fun base _ _ => ?_⟩
  have b0 := F0.binds (ps := ["script", "k"]) fun _ _ _ _ _ _ us hl => match us, hl with | [_, _], _ => rfl
  have C__law_cell := callee_mk (P := l.prog) (w := w) (mg := mg) (base := base) (ok_law_cell E0 m_len) (PySem.W.mg_of X G a0) k0 b0
  have b1 := F1.binds (ps := ["cell", "count"]) fun _ _ _ _ _ _ us hl => match us, hl with | [_, _], _ => rfl
  have C__law_row := callee_mk (P := l.prog) (w := w) (mg := mg) (base := base) (ok_law_row E1 m_range m_int) (PySem.W.mg_of X G a1) k1 b1
  have b2 := F2.binds (ps := ["value"]) fun _ _ _ _ _ _ us hl => match us, hl with | [_], _ => rfl
  have C_is_size := callee_mk (P := l.prog) (w := w) (mg := mg) (base := base) (ok_is_size E2 m_isinstance m_int m_bool g_LARGEST_SIZE) (PySem.W.mg_of X G a2) k2 b2
  have b3 := F3.binds (ps := ["value"]) fun _ _ _ _ _ _ us hl => match us, hl with | [_], _ => rfl
  have C_is_sign := callee_mk (P := l.prog) (w := w) (mg := mg) (base := base) (ok_is_sign E3 m_isinstance m_str g_START g_END) (PySem.W.mg_of X G a3) k3 b3
  have b4 := F4.binds (ps := ["size", "window"]) fun _ _ _ _ _ _ us hl => match us, hl with | [_, _], _ => rfl
  have C_is_well_formed := callee_mk (P := l.prog) (w := w) (mg := mg) (base := base) (ok_is_well_formed E4 m_len m_list g_START g_END) (PySem.W.mg_of X G a4) k4 b4
  have b5 := F5.binds (ps := ["size", "window"]) fun _ _ _ _ _ _ us hl => match us, hl with | [_, _], _ => rfl
  have C_check_window := callee_mkX (P := l.prog) (w := w) (mg := mg) (base := base) (ok_check_window E5 T_InvalidProcess m_len C_is_sign C_is_well_formed) (PySem.W.mg_of X G a5) k5 b5
  have b6 := F6.binds (ps := ["self", "size", "windows"]) fun _ _ _ _ _ _ us hl => match us, hl with | [_, _, _], _ => rfl
  have C_Process := callee_mkI (P := l.prog) (w := w) (mg := mg) (base := base) (ok_Process__init__ E6 RC_Process T_InvalidProcess m_tuple g_LARGEST_SIZE C_is_size C_check_window) (M := ⟨mkProcess, a6, i6, kcProcess⟩) (PySem.W.mg_of X G aCProcess) b6
  have b7 := F7.binds (ps := ["number", "size"]) fun _ _ _ _ _ _ us hl => match us, hl with | [_, _], _ => rfl
  have C__law_window := callee_mk (P := l.prog) (w := w) (mg := mg) (base := base) (ok_law_window E7 m_range m_tuple m_max) (PySem.W.mg_of X G a7) k7 b7
  have b8 := F8.binds (ps := ["window", "size"]) fun _ _ _ _ _ _ us hl => match us, hl with | [_, _], _ => rfl
  have C__law_is_good := callee_mk (P := l.prog) (w := w) (mg := mg) (base := base) (ok_law_is_good E8 m_len m_range m_list) (PySem.W.mg_of X G a8) k8 b8
  have b9 := F9.binds (ps := ["size"]) fun _ _ _ _ _ _ us hl => match us, hl with | [_], _ => rfl
  have C__law_refused := callee_mk (P := l.prog) (w := w) (mg := mg) (base := base) (ok_law_refused E9 T_InvalidProcess C_Process) (PySem.W.mg_of X G a9) k9 b9
  exact ok_law E10 RC_Process T_InvalidProcess e_CaseError e_InvalidSetting i_InvalidProcess_CaseError i_InvalidProcess_InvalidSetting m_len m_list m_tuple m_range m_max m_min m_isinstance C__law_cell C__law_row C__law_window C__law_is_good C__law_refused C_Process
end My
open PySem PySem.W PyProof.Rows
set_option maxHeartbeats 0 in
theorem PySem.Challenge.cw_caseslive_k04_processes_are_checked_holds : PySem.Challenge.rw_caseslive_k04_processes_are_checked.Holds := by
  w_on; o_law; k_head; (case hw => w_witness2)
  k_fill
  refine L2.walk_of (l := PySem.Challenge.rw_caseslive_k04_processes_are_checked) (n := 63) (k := 6) (x := "script") (CX := fun _ => L2.CX0) (sp := fun w => Sx.spOf (My.Phi_law _)) rfl (by decide) rfl ⟨rfl, by decide, by decide⟩ (fun w h Y => PySem.W.kIn_of Y) ?F (fun _ H a ns hl _ hS => ⟨H, [Sx.sLq _ Sx.sInt ns], Sx.sBool true, L2.Same.refl _, .cons ⟨a, _, rfl, hS, My.its_ints ns⟩ .nil, ⟨ns, rfl, Nat.le_trans hl (by decide), rfl⟩, fun _ _ _ _ r => r⟩) (fun _ _ _ _ _ h => h)
  case F =>
    intro w mg fa h KX G hmg
    refine' My.all_mk KX G hmg ?aCProcess ?pgProcess ?hdProcess ?poProcess ?saProcess ?mkProcess ?kcProcess ?nProcess_size ?nProcess_windows ?nProcess__known ?aCInvalidProcess ?aCCaseError ?aCInvalidSetting ?qInvalidProcess ?kcInvalidProcess ?sbInvalidProcess ?ttInvalidProcess ?ssInvalidProcess ?xgInvalidProcess ?xkInvalidProcess ?xdInvalidProcess ?xaInvalidProcess ?xmInvalidProcess ?xn ?xt ?i_InvalidProcess_CaseError ?i_InvalidProcess_InvalidSetting ?a0 ?l0 ?c0 ?k0 ?a1 ?l1 ?c1 ?k1 ?a2 ?l2 ?c2 ?k2 ?a3 ?l3 ?c3 ?k3 ?a4 ?l4 ?c4 ?k4 ?a5 ?l5 ?c5 ?k5 ?a6 ?i6 ?l6 ?c6 ?k6 ?a7 ?l7 ?c7 ?k7 ?a8 ?l8 ?c8 ?k8 ?a9 ?l9 ?c9 ?k9 ?a10 ?l10 ?c10 ?k10 ?z_bool ?z_int ?z_isinstance ?z_len ?z_list ?z_max ?z_min ?z_range ?z_str ?z_tuple ?w_LARGEST_SIZE ?v_LARGEST_SIZE ?w_START ?v_START ?w_END ?v_END
    (case aCProcess => k_is)
    (case pgProcess => k_is)
    (case hdProcess => k_is)
    (case poProcess => k_is)
    (case saProcess => k_is)
    (case mkProcess => k_is)
    (case kcProcess => k_is)
    (case nProcess_size => k_is)
    (case nProcess_windows => k_is)
    (case nProcess__known => k_is)
    (case aCInvalidProcess => k_is)
    (case aCCaseError => k_is)
    (case aCInvalidSetting => k_is)
    (case qInvalidProcess => k_exc)
    (case kcInvalidProcess => k_is)
    (case sbInvalidProcess => k_is)
    (case ttInvalidProcess => k_is)
    (case ssInvalidProcess => first | k_is | rfl | decide +kernel)
    (case xgInvalidProcess => k_is)
    (case xkInvalidProcess => k_is)
    (case xdInvalidProcess => k_is)
    (case xaInvalidProcess => k_is)
    (case xmInvalidProcess => k_is)
    (case xn => first | k_is | rfl | decide +kernel)
    (case xt => first | k_is | rfl | decide +kernel)
    (case i_InvalidProcess_CaseError => first | k_is | rfl | decide +kernel)
    (case i_InvalidProcess_InvalidSetting => first | k_is | rfl | decide +kernel)
    (case a0 => k_is)
    (case l0 => k_is)
    (case c0 => k_is)
    (case k0 => k_is)
    (case a1 => k_is)
    (case l1 => k_is)
    (case c1 => k_is)
    (case k1 => k_is)
    (case a2 => k_is)
    (case l2 => k_is)
    (case c2 => k_is)
    (case k2 => k_is)
    (case a3 => k_is)
    (case l3 => k_is)
    (case c3 => k_is)
    (case k3 => k_is)
    (case a4 => k_is)
    (case l4 => k_is)
    (case c4 => k_is)
    (case k4 => k_is)
    (case a5 => k_is)
    (case l5 => k_is)
    (case c5 => k_is)
    (case k5 => k_is)
    (case a6 => k_is)
    (case i6 => k_is)
    (case l6 => k_is)
    (case c6 => k_is)
    (case k6 => k_is)
    (case a7 => k_is)
    (case l7 => k_is)
    (case c7 => k_is)
    (case k7 => k_is)
    (case a8 => k_is)
    (case l8 => k_is)
    (case c8 => k_is)
    (case k8 => k_is)
    (case a9 => k_is)
    (case l9 => k_is)
    (case c9 => k_is)
    (case k9 => k_is)
    (case a10 => k_is)
    (case l10 => k_is)
    (case c10 => k_is)
    (case k10 => k_is)
    (case z_bool => k_is)
    (case z_int => k_is)
    (case z_isinstance => k_is)
    (case z_len => k_is)
    (case z_list => k_is)
    (case z_max => k_is)
    (case z_min => k_is)
    (case z_range => k_is)
    (case z_str => k_is)
    (case z_tuple => k_is)
    (case w_LARGEST_SIZE => k_is)
    (case v_LARGEST_SIZE => exact ⟨_, rfl⟩)
    (case w_START => k_is)
    (case v_START => exact ⟨_, rfl⟩)
    (case w_END => k_is)
    (case v_END => exact ⟨_, rfl⟩)
