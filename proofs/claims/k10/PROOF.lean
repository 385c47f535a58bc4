import PyProof.Rows.All
import Wide.All
import OpenK.AllK
import Wide.FinOn
import HandS.ForMost
import HandS.TupAny
import HandS.TupMul
import HandS.Conv
import HandS.Deep
import HandS.Lambda
import HandS.WordsExc
import HandS.TryOnly
import HandS.Style
import HandS.Strs
import HandS.IsInst
import HandS.Iter
import HandS.Exc
import HandS.ExcOwn
import HandS.ExcIs
import HandS.RaiseMore
import HandS.FStr
import HandS.FStrTup
import KE.KDictKeyed
import KE.KDictDisplayH
import HandS.Dict
import KE.SortData
import HandS.Walk
import HandS.Zip
import HandS.Zip0
import PyProof.Draws
import HandS.TupSets
import HandS.SetBool
import HandS.DictComp
import HandS.WideBits
import HandS.CallSlots
import HandS.EndTab
import KE.KDictCopyH
import HandS.Sort
import KE.DataCmp
import PySem.Challenge.RW_caseslive_k10_variants
set_option Elab.async false
set_option linter.all false
set_option maxRecDepth 100000
set_option maxHeartbeats 4000000
namespace Sx
open PySem PySem.Spec PyProof.Rows L2

/-! ### heaps -/
/-- a tuple: nobody writes it -/
def IsT : HO → Prop
  | .tup _ => True
  | .ext φ => ∃ c q, HO.ext φ = LamX.CodeO c q
  | _ => False
/-- the tables of code objects that are watched: where, and the name of what they hold -/
class Tbs where
  T : List (Addr × Str)
variable [Tbs]
def Tb (a : Addr) : Prop := ∃ q, (a, q) ∈ Tbs.T
/-- the tables stand -/
def TbOk (H : Hp) : Prop := LamX.Tabs Tbs.T H
theorem TbOk.tb {H : Hp} (t : TbOk H) {a : Addr} (h : Tb a) : ∃ ps, H a = some (.tbl ps) := by
  obtain ⟨q, hq⟩ := h
  obtain ⟨ps, e, _⟩ := t _ hq
  exact ⟨ps, e⟩
theorem TbOk.ne {H : Hp} (t : TbOk H) {a : Addr} (h : H a = none) : ¬ Tb a := fun z => by
  obtain ⟨ps, e⟩ := t.tb z
  rw [h] at e
  cases e
theorem TbOk.nl {H : Hp} (t : TbOk H) {a : Addr} {o : HO} (h : H a = some o) (n : ∀ ps, o ≠ .tbl ps) : ¬ Tb a := fun z => by
  obtain ⟨ps, e⟩ := t.tb z
  rw [h] at e
  exact n ps (Option.some.inj e)
/-- all but the tables stays; the tables may grow -/
structure Gr (H H' : Hp) : Prop where
  k : ∀ b o, ¬ Tb b → H b = some o → H' b = some o
  t : TbOk H
  t' : TbOk H'
theorem Gr.refl {H : Hp} (t : TbOk H) : Gr H H := ⟨fun _ _ _ h => h, t, t⟩
theorem Gr.c {H H' : Hp} (g : Gr H H') {a : Addr} {o : HO} (h : H a = some o) (n : ∀ ps, o ≠ .tbl ps := by exact fun _ z => by cases z) : H' a = some o := g.k a o (g.t.nl h n) h
theorem Gr.trans {H H1 H2 : Hp} (a : Gr H H1) (b : Gr H1 H2) : Gr H H2 := ⟨fun c o n h => b.k c o n (a.k c o n h), a.t, b.t'⟩
theorem Gr.free {H H' : Hp} (g : Gr H H') {a : Addr} (n : H' a = none) : H a = none := by
  cases q : H a with
  | none => rfl
  | some o =>
    have e := g.k a o (g.t'.ne n) q
    rw [n] at e
    cases e
theorem Same.gr {H H' : Hp} (e : Same H H') (t : TbOk H) : Gr H H' := ⟨fun b o _ h => e b o h, t, t.ext e⟩
/-- what is known lies in the heap, and is no table -/
structure Sub (F H : Hp) : Prop where
  s : Same F H
  n : ∀ a o, F a = some o → ¬ Tb a
structure Sm (F H : Hp) : Prop where
  s : Same F H
  t : TbOk H
  n : ∀ a o, F a = some o → ¬ Tb a
instance {F H : Hp} : CoeFun (Sub F H) (fun _ => ∀ b o, F b = some o → H b = some o) := ⟨Sub.s⟩
instance {F H : Hp} : CoeFun (Sm F H) (fun _ => ∀ b o, F b = some o → H b = some o) := ⟨Sm.s⟩
instance {F H : Hp} : CoeOut (Sub F H) (Same F H) := ⟨Sub.s⟩
instance {F H : Hp} : CoeOut (Sm F H) (Same F H) := ⟨Sm.s⟩
theorem Sm.free {F H : Hp} (h : Sm F H) {a : Addr} (n : H a = none) : F a = none := h.s.free n
theorem Sub.free {F H : Hp} (h : Sub F H) {a : Addr} (n : H a = none) : F a = none := h.s.free n
theorem Sm.sub {F H : Hp} (h : Sm F H) : Sub F H := ⟨h.s, h.n⟩
theorem Sm.trans {h F H : Hp} (a : Same h F) (b : Sm F H) : Sub h H := ⟨a.trans b.s, fun x o e => b.n x o (a x o e)⟩
theorem Sub.gr {h H H' : Hp} (a : Sub h H) (g : Gr H H') : Sub h H' := ⟨fun x o e => g.k x o (a.n x o e) (a.s x o e), a.n⟩
structure Grow (F H F' H' : Hp) : Prop where
  f : Same F F'
  h : Gr H H'
  s : Sm F' H'
  n : ∀ p o, F' p = some o → F p = none → H p = none ∨ IsT o
theorem Grow.refl {F H : Hp} (s : Sm F H) : Grow F H F H := ⟨Same.refl _, .refl s.t, s, fun p o e n => by rw [n] at e; cases e⟩
theorem Grow.trans {F H F1 H1 F2 H2 : Hp} (a : Grow F H F1 H1) (b : Grow F1 H1 F2 H2) : Grow F H F2 H2 :=
  ⟨a.f.trans b.f, a.h.trans b.h, b.s, fun p o e n => by
    cases q : F1 p with
    | some o' =>
      have e2 := b.f p o' q
      rw [e] at e2
      cases e2
      exact a.n p _ q n
    | none => exact (b.n p o e q).imp a.h.free id⟩
omit [Tbs] in
theorem same_new {H : Hp} {p : Addr} {o : HO} (h : H p = none) : Same H (upd H p o) := fun b x e => by
  rw [upd_ne (ne_of_none e h)]
  exact e
theorem Sm.new {F H : Hp} {p : Addr} {o : HO} (s : Sm F H) (h : H p = none) : Sm F (upd H p o) := ⟨s.s.trans (same_new h), s.t.ext (same_new h), s.n⟩
theorem gr_new {H : Hp} {p : Addr} {o : HO} (t : TbOk H) (h : H p = none) : Gr H (upd H p o) := Same.gr (same_new h) t
theorem Grow.new {F H : Hp} {p : Addr} {o : HO} (s : Sm F H) (h : H p = none) : Grow F H F (upd H p o) :=
  ⟨Same.refl _, gr_new s.t h, s.new h, fun p o e n => by rw [n] at e; cases e⟩
/-- no code object -/
class NC (u : HO) : Prop where
  nc : ∀ c q, u ≠ LamX.CodeO c q
instance {xs : List V} : NC (.lst xs) := ⟨fun _ _ z => by unfold LamX.CodeO at z; cases z⟩
instance {xs : List V} : NC (.tup xs) := ⟨fun _ _ z => by unfold LamX.CodeO at z; cases z⟩
instance {xs : List (Key × V)} : NC (.dK xs) := ⟨fun _ _ z => by unfold LamX.CodeO at z; cases z⟩
instance {xs : List (List Key × V)} : NC (.dT xs) := ⟨fun _ _ z => by unfold LamX.CodeO at z; cases z⟩
instance {S : Int → Bool} {n : Nat} : NC (.set S n) := ⟨fun _ _ z => by unfold LamX.CodeO at z; cases z⟩
instance {C dx : Addr} {fs : List (Str × V)} : NC (.ins C dx fs) := ⟨fun _ _ z => by unfold LamX.CodeO at z; cases z⟩
instance {x : Addr} : NC (.own x) := ⟨fun _ _ z => by unfold LamX.CodeO at z; cases z⟩
instance {fs : List (Str × V)} : NC (.xd fs) := ⟨fun _ _ z => by unfold LamX.CodeO at z; cases z⟩
omit [Tbs] in
theorem nc_ext {φ : Heap → Prop} (h : ∀ hp : Heap, (∀ a o, hp.get? a = some o → ∃ vs, o.data = .fields vs) → ¬ φ hp) : NC (.ext φ) := ⟨fun c q z => by
  unfold LamX.CodeO at z
  injection z with z
  refine h ⟨Array.replicate (c + 1) { cls := .none, data := .fields #[.none, .str q default] }, {}⟩ (fun a o e => ?_) ?_
  · unfold Heap.get? at e
    by_cases ha : a < c + 1
    · simp [ha] at e
      rw [← e]
      exact ⟨_, rfl⟩
    · simp [ha] at e
  · rw [z]
    refine ⟨{ cls := .none, data := .fields #[.none, .str q default] }, _, default, ?_, rfl, rfl⟩
    simp [Heap.get?]⟩
omit [Tbs] in
theorem nt_ext {φ : Heap → Prop} (h : NC (.ext φ)) : ¬ IsT (.ext φ) := fun ⟨c, q, z⟩ => h.nc c q z
/-- an object that is no table and no code object is written -/
theorem TbOk.put {H : Hp} {D : Addr} {u o : HO} (t : TbOk H) (hD : H D = some u) (n : ∀ ps, u ≠ .tbl ps := by exact fun _ z => by cases z) [m : NC u] : TbOk (upd H D o) := fun pq hp => by
  obtain ⟨ps, e1, e2, e3⟩ := t pq hp
  refine ⟨ps, ?_, e2, fun pos cv hc => ?_⟩
  · rw [upd_ne fun z => n ps (Option.some.inj (hD.symm.trans (by rw [← z]; exact e1)))]
    exact e1
  · obtain ⟨c, z1, z2⟩ := e3 pos cv hc
    refine ⟨c, z1, ?_⟩
    rw [upd_ne fun z => m.nc c pq.2 (Option.some.inj (hD.symm.trans (by rw [← z]; exact z2)))]
    exact z2
/-- a state that tells more -/
theorem Sm.ext {F H H' : Hp} (s : Sm F H) (e : Same H H') : Sm F H' := ⟨s.s.trans e, s.t.ext e, s.n⟩
theorem Gr.pre {H H1 H2 : Hp} (t : TbOk H) (e : Same H H1) (g : Gr H1 H2) : Gr H H2 := (Same.gr e t).trans g
theorem Gr.ext {H H1 H2 : Hp} (g : Gr H H1) (e : Same H1 H2) : Gr H H2 := g.trans (Same.gr e g.t')
theorem Gr.put {H0 H : Hp} {D : Addr} {u o : HO} (g : Gr H0 H) (n0 : H0 D = none) (hD : H D = some u) (n : ∀ ps, u ≠ .tbl ps := by exact fun _ z => by cases z) [m : NC u] : Gr H0 (upd H D o) :=
  ⟨fun a x nt e => by
    rw [upd_ne (ne_of_none e n0)]
    exact g.k a x nt e, g.t, g.t'.put hD n⟩
theorem Sm.put {F H : Hp} {D : Addr} {u o : HO} (s : Sm F H) (n0 : F D = none) (hD : H D = some u) (n : ∀ ps, u ≠ .tbl ps := by exact fun _ z => by cases z) [m : NC u] : Sm F (upd H D o) :=
  ⟨fun a x e => by
    rw [upd_ne (ne_of_none e n0)]
    exact s.s a x e, s.t.put hD n, s.n⟩
theorem SqL.gr {K : PySem.W.Frag} {H H' : Hp} {a : Addr} {xs : List V} (g : Gr H H') (h : SqL K H a xs) : SqL K H' a xs := by
  rcases h with (h | ⟨o, h⟩) | h
  · exact .inl (.inl (g.k _ _ (g.t.nl h fun _ z => by cases z) h))
  · exact .inl (.inr ⟨o, g.k _ _ (g.t.nl h fun _ z => by cases z) h⟩)
  · exact .inr h
theorem SqT.gr {K : PySem.W.Frag} {H H' : Hp} {a : Addr} {xs : List V} (g : Gr H H') (h : SqT K H a xs) : SqT K H' a xs := by
  rcases h with (h | ⟨o, h⟩) | h
  · exact .inl (.inl (g.k _ _ (g.t.nl h fun _ z => by cases z) h))
  · exact .inl (.inr ⟨o, g.k _ _ (g.t.nl h fun _ z => by cases z) h⟩)
  · exact .inr h
omit [Tbs] in
theorem SqL.same {K : PySem.W.Frag} {H H' : Hp} {a : Addr} {xs : List V} (e : Same H H') (h : SqL K H a xs) : SqL K H' a xs := e.seq h
omit [Tbs] in
theorem SqT.same {K : PySem.W.Frag} {H H' : Hp} {a : Addr} {xs : List V} (e : Same H H') (h : SqT K H a xs) : SqT K H' a xs := by
  rcases h with (h | ⟨o, h⟩) | h
  · exact .inl (.inl (e _ _ h))
  · exact .inl (.inr ⟨o, e _ _ h⟩)
  · exact .inr h

/-! ### what is known of a value, of an object -/
structure S where
  r : Hp → V → Prop
  mono : ∀ {F F' : Hp} {v : V}, Same F F' → r F v → r F' v
/-- an object of our own: F what is known, h its cells, p where it begins -/
structure O where
  r : Hp → Hp → Addr → Prop
  mono : ∀ {F F' h : Hp} {p : Addr}, Same F F' → r F h p → r F' h p
structure R where
  r : Hp → Hp → V → Prop
  mono : ∀ {F H F' H' : Hp} {v : V}, Same F F' → Gr H H' → r F H v → r F' H' v
def sv (s : S) : R := ⟨fun F _ v => s.r F v, fun a _ h => s.mono a h⟩
def bO (o : O) : R := ⟨fun F H v => ∃ p h, v = .ref p ∧ Sub h H ∧ o.r F h p, fun a b ⟨p, h, e, k, q⟩ => ⟨p, h, e, k.gr b, o.mono a q⟩⟩
def sO (o : O) : S := ⟨fun F v => ∃ p h, v = .ref p ∧ Same h F ∧ o.r F h p, fun a ⟨p, h, e, k, q⟩ => ⟨p, h, e, k.trans a, o.mono a q⟩⟩
def sC (x : V) : S := ⟨fun _ v => v = x, fun _ h => h⟩
def sInt (i : Int) : S := ⟨fun _ v => v = .int i, fun _ h => h⟩
def sBool (b : Bool) : S := ⟨fun _ v => v = .bl b, fun _ h => h⟩
def sNone : S := ⟨fun _ v => v = .non, fun _ h => h⟩
def sStr (x : Str) : S := ⟨fun _ v => v = .str x ∧ PyData.strOk x = true, fun _ h => h⟩
def sEx {α : Type} (P : α → Prop) (T : α → S) : S := ⟨fun F v => ∃ a, P a ∧ (T a).r F v, fun e ⟨a, p, h⟩ => ⟨a, p, (T a).mono e h⟩⟩
omit [Tbs] in
/-- items, one by one -/
theorem pr_get {α β : Type} {G : α → β → Prop} : ∀ {xs : List α} {vs : List β} {i : Nat} {v : β}, Paired G xs vs → vs[i]? = some v → ∃ x, xs[i]? = some x ∧ G x v
  | _, _, _, _, .nil, e => by simp at e
  | _, _, 0, _, .cons r _, e => by simp at e; subst e; exact ⟨_, rfl, r⟩
  | _, _, i + 1, v, .cons _ t, e => by
    obtain ⟨x, h1, h2⟩ := pr_get (i := i) (v := v) t (by simpa using e)
    exact ⟨x, by simpa using h1, h2⟩
omit [Tbs] in
theorem pr_at {α β : Type} {G : α → β → Prop} : ∀ {xs : List α} {vs : List β} {i : Nat} {x : α}, Paired G xs vs → xs[i]? = some x → ∃ v, vs[i]? = some v ∧ G x v
  | _, _, _, _, .nil, e => by simp at e
  | _, _, 0, _, .cons r _, e => by simp at e; subst e; exact ⟨_, rfl, r⟩
  | _, _, i + 1, x, .cons _ t, e => by
    obtain ⟨v, h1, h2⟩ := pr_at (i := i) (x := x) t (by simpa using e)
    exact ⟨v, by simpa using h1, h2⟩
omit [Tbs] in
theorem pr_app {α β : Type} {G : α → β → Prop} : ∀ {xs ys : List α} {vs ws : List β}, Paired G xs vs → Paired G ys ws → Paired G (xs ++ ys) (vs ++ ws)
  | _, _, _, _, .nil, h => h
  | _, _, _, _, .cons r t, h => .cons r (pr_app t h)
omit [Tbs] in
theorem pr_take {α β : Type} {G : α → β → Prop} : ∀ {xs : List α} {vs : List β} (n : Nat), Paired G xs vs → Paired G (xs.take n) (vs.take n)
  | _, _, 0, _ => .nil
  | _, _, _ + 1, .nil => .nil
  | _, _, n + 1, .cons r t => .cons r (pr_take n t)
omit [Tbs] in
theorem pr_drop {α β : Type} {G : α → β → Prop} : ∀ {xs : List α} {vs : List β} (n : Nat), Paired G xs vs → Paired G (xs.drop n) (vs.drop n)
  | _, _, 0, h => h
  | _, _, _ + 1, .nil => .nil
  | _, _, n + 1, .cons _ t => pr_drop n t
omit [Tbs] in
theorem pr_rev {α β : Type} {G : α → β → Prop} : ∀ {xs : List α} {vs : List β}, Paired G xs vs → Paired G xs.reverse vs.reverse
  | _, _, .nil => .nil
  | _, _, .cons r t => by
    rw [List.reverse_cons, List.reverse_cons]
    exact pr_app (pr_rev t) (.cons r .nil)
omit [Tbs] in
theorem pr_map {α β γ : Type} {G : α → β → Prop} {G' : γ → β → Prop} {f : γ → α} (hf : ∀ c v, G' c v → G (f c) v) : ∀ {xs : List γ} {vs : List β}, Paired G' xs vs → Paired G (xs.map f) vs
  | _, _, .nil => .nil
  | _, _, .cons r t => .cons (hf _ _ r) (pr_map hf t)
omit [Tbs] in
theorem pr_unmap {α β γ : Type} {G : α → β → Prop} {G' : γ → β → Prop} {f : γ → α} (hf : ∀ c v, G (f c) v → G' c v) : ∀ {xs : List γ} {vs : List β}, Paired G (xs.map f) vs → Paired G' xs vs
  | [], _, h => by
    cases h
    exact .nil
  | x :: xs, _, h => by
    cases h with
    | cons r t => exact .cons (hf _ _ r) (pr_unmap hf t)
omit [Tbs] in
theorem pr_set {α β : Type} {G : α → β → Prop} {x : α} {v : β} (r : G x v) : ∀ {xs : List α} {vs : List β} (i : Nat), Paired G xs vs → Paired G (xs.set i x) (vs.set i v)
  | _, _, _, .nil => .nil
  | _, _, 0, .cons _ t => .cons r t
  | _, _, i + 1, .cons q t => .cons q (pr_set r i t)
def Its {α : Type} (T : α → S) (F : Hp) (xs : List α) (vs : List V) : Prop := Paired (fun x v => (T x).r F v) xs vs
omit [Tbs] in
theorem Its.mono {α : Type} {T : α → S} {F F' : Hp} {xs : List α} {vs : List V} (e : Same F F') (h : Its T F xs vs) : Its T F' xs vs := Paired.mapP h fun _ _ q => (T _).mono e q
def oLst {α : Type} (T : α → S) (xs : List α) : O := ⟨fun F h p => ∃ vs, h p = some (.lst vs) ∧ Its T F xs vs, fun e ⟨vs, q, h⟩ => ⟨vs, q, h.mono e⟩⟩
def oTup {α : Type} (T : α → S) (xs : List α) : O := ⟨fun F h p => ∃ vs, h p = some (.tup vs) ∧ Its T F xs vs, fun e ⟨vs, q, h⟩ => ⟨vs, q, h.mono e⟩⟩
/-- a list or a tuple -/
def oSq {α : Type} (T : α → S) (xs : List α) : O := ⟨fun F h p => ∃ vs, (h p = some (.lst vs) ∨ h p = some (.tup vs)) ∧ Its T F xs vs, fun e ⟨vs, q, h⟩ => ⟨vs, q, h.mono e⟩⟩
abbrev sLst {α : Type} (T : α → S) (xs : List α) : S := sO (oLst T xs)
abbrev sTup {α : Type} (T : α → S) (xs : List α) : S := sO (oTup T xs)
abbrev sSq {α : Type} (T : α → S) (xs : List α) : S := sO (oSq T xs)
/-- a list or a tuple that is read, whatever it is -/
def bSq {α : Type} (K : PySem.W.Frag) (T : α → S) (xs : List α) : R :=
  ⟨fun F H v => ∃ p vs, v = .ref p ∧ (SqL K H p vs ∨ SqT K H p vs) ∧ Its T F xs vs, fun a b ⟨p, vs, e, h, q⟩ => ⟨p, vs, e, h.imp (SqL.gr b) (SqT.gr b), q.mono a⟩⟩

section
variable {α β : Type} {T : α → S} {U : β → S} {F : Hp} {xs ys : List α} {vs ws : List V} {i : Nat} {x : α} {v : V}
omit [Tbs] in
theorem Its.len (h : Its T F xs vs) : vs.length = xs.length := (Paired.length h).symm
omit [Tbs] in
theorem Its.nil : Its T F [] [] := Paired.nil
omit [Tbs] in
theorem Its.cons (r : (T x).r F v) (h : Its T F xs vs) : Its T F (x :: xs) (v :: vs) := Paired.cons r h
omit [Tbs] in
theorem Its.get (h : Its T F xs vs) (e : vs[i]? = some v) : ∃ x, xs[i]? = some x ∧ (T x).r F v := pr_get (G := fun x v => (T x).r F v) h e
omit [Tbs] in
theorem Its.at (h : Its T F xs vs) (e : xs[i]? = some x) : ∃ v, vs[i]? = some v ∧ (T x).r F v := pr_at (G := fun x v => (T x).r F v) h e
omit [Tbs] in
theorem Its.app (h : Its T F xs vs) (k : Its T F ys ws) : Its T F (xs ++ ys) (vs ++ ws) := pr_app h k
omit [Tbs] in
theorem Its.snoc (h : Its T F xs vs) (r : (T x).r F v) : Its T F (xs ++ [x]) (vs ++ [v]) := h.app (Its.cons r Its.nil)
omit [Tbs] in
theorem Its.take (n : Nat) (h : Its T F xs vs) : Its T F (xs.take n) (vs.take n) := pr_take n h
omit [Tbs] in
theorem Its.drop (n : Nat) (h : Its T F xs vs) : Its T F (xs.drop n) (vs.drop n) := pr_drop n h
omit [Tbs] in
theorem Its.rev (h : Its T F xs vs) : Its T F xs.reverse vs.reverse := pr_rev h
omit [Tbs] in
theorem Its.set (i : Nat) (h : Its T F xs vs) (r : (T x).r F v) : Its T F (xs.set i x) (vs.set i v) := pr_set (G := fun x v => (T x).r F v) r i h
omit [Tbs] in
theorem Its.map {f : β → α} {bs : List β} (hf : ∀ b v, (U b).r F v → (T (f b)).r F v) (h : Its U F bs vs) : Its T F (bs.map f) vs := pr_map hf h
omit [Tbs] in
theorem Its.unmap {f : β → α} {bs : List β} (hf : ∀ b v, (T (f b)).r F v → (U b).r F v) (h : Its T F (bs.map f) vs) : Its U F bs vs := pr_unmap hf h
omit [Tbs] in
theorem Its.atI {i : Int} (h : Its T F xs vs) (e : atI xs i = some x) : ∃ v, L2.atI vs i = some v ∧ (T x).r F v := by
  unfold L2.atI at e ⊢
  rw [h.len]
  cases q : ixN xs.length i with
  | none => rw [q] at e; cases e
  | some j =>
    rw [q] at e
    exact h.at e
/-- the items of a slice -/
def cutL {γ : Type} (xs : List γ) (lo hi : Option Int) : List γ := (xs.drop (HT.sIx xs.length 0 lo)).take (HT.sIx xs.length xs.length hi - HT.sIx xs.length 0 lo)
omit [Tbs] in
theorem Its.cut {lo hi : Option Int} (h : Its T F xs vs) : Its T F (cutL xs lo hi) (cutV vs lo hi) := by
  unfold cutL cutV
  rw [h.len]
  exact (h.drop _).take _
end

/-! ### the state -/
structure Bs where
  F : Hp
  H : Hp
inductive Sl where
  | any
  | val (s : S)
  | own (o : O)
def SlOk (F h : Hp) : Sl → Option V → Prop
  | .any, _ => True
  | .val s, v => ∃ x, v = some x ∧ s.r F x
  | .own o, v => ∃ p, v = some (.ref p) ∧ o.r F h p
omit [Tbs] in
theorem SlOk.mono {F F' h : Hp} (e : Same F F') : ∀ {x : Sl} {v : Option V}, SlOk F h x v → SlOk F' h x v
  | .any, _, _ => trivial
  | .val s, _, ⟨x, q, k⟩ => ⟨x, q, s.mono e k⟩
  | .own o, _, ⟨p, q, k⟩ => ⟨p, q, o.mono e k⟩
/-- the cells of our own, slot by slot -/
structure Own (B : Bs) (F H : Hp) (fp : Nat → Hp) : Prop where
  at_ : ∀ i a ob, fp i a = some ob → H a = some ob ∧ B.H a = none ∧ (F a = none ∨ IsT ob)
  ap : ∀ i j a o1 o2, fp i a = some o1 → fp j a = some o2 → i = j
theorem Own.grow {B : Bs} {F H F' H' : Hp} {fp : Nat → Hp} (h : Own B F H fp) (g : Grow F H F' H') (t : TbOk B.H) : Own B F' H' fp where
  at_ := fun i a ob e => by
    obtain ⟨h1, h2, h3⟩ := h.at_ i a ob e
    have hk := g.h.k _ _ (t.ne h2) h1
    refine ⟨hk, h2, ?_⟩
    rcases h3 with h3 | h3
    · cases z : F' a with
      | none => exact .inl rfl
      | some o' =>
        rcases g.n a o' z h3 with q | q
        · rw [h1] at q
          cases q
        · have e1 := g.s a o' z
          rw [hk] at e1
          cases e1
          exact .inr q
    · exact .inr h3
  ap := h.ap
structure Sat (B : Bs) (F H : Hp) (σ : L2.St) (ss : List Sl) : Prop where
  g : Grow B.F B.H F H
  len : ss.length = σ.length
  fp : ∃ fp : Nat → Hp, (∀ (i : Nat) x v, ss[i]? = some x → σ[i]? = some v → SlOk F (fp i) x v) ∧ Own B F H fp
/-- nothing -/
def hp0 : Hp := fun _ => none
/-- one cell -/
def hp1 (p : Addr) (o : HO) : Hp := fun a => if a = p then some o else none
omit [Tbs] in
theorem hp1_same {p : Addr} {o : HO} : hp1 p o p = some o := by unfold hp1; rw [if_pos rfl]
omit [Tbs] in
theorem hp1_some {p a : Addr} {o ob : HO} (h : hp1 p o a = some ob) : a = p ∧ ob = o := by
  unfold hp1 at h
  by_cases e : a = p
  · rw [if_pos e] at h; cases h; exact ⟨e, rfl⟩
  · rw [if_neg e] at h; cases h
def fpSet (fp : Nat → Hp) (i : Nat) (h : Hp) : Nat → Hp := fun j => if j = i then h else fp j
omit [Tbs] in
theorem fpSet_same {fp : Nat → Hp} {i : Nat} {h : Hp} : fpSet fp i h i = h := by unfold fpSet; rw [if_pos rfl]
omit [Tbs] in
theorem fpSet_ne {fp : Nat → Hp} {i j : Nat} {h : Hp} (e : j ≠ i) : fpSet fp i h j = fp j := by unfold fpSet; rw [if_neg e]
omit [Tbs] in
theorem set_len {α : Type} {l : List α} {i j : Nat} {x y : α} (h : (l.set i x)[j]? = some y) : j < l.length := by
  have := (List.getElem?_eq_some_iff.mp h).1
  rwa [List.length_set] at this
section
variable {B : Bs} {F H F' H' : Hp} {σ : L2.St} {ss : List Sl}
theorem Sat.grow (h : Sat B F H σ ss) (g : Grow F H F' H') : Sat B F' H' σ ss := ⟨h.g.trans g, h.len, by
  obtain ⟨fp, h1, h2⟩ := h.fp
  exact ⟨fp, fun i x v e1 e2 => (h1 i x v e1 e2).mono g.f, h2.grow g h.g.h.t⟩⟩
theorem Sat.there (h : Sat B F H σ ss) {i : Nat} {x : Sl} (e : ss[i]? = some x) : ∃ v, σ[i]? = some v := by
  have hi : i < σ.length := by
    rw [← h.len]
    exact (List.getElem?_eq_some_iff.mp e).1
  exact ⟨σ[i], List.getElem?_eq_getElem hi⟩
theorem Sat.val (h : Sat B F H σ ss) {i : Nat} {s : S} (e : ss[i]? = some (.val s)) : ∃ v, σ[i]? = some (some v) ∧ s.r F v := by
  obtain ⟨v, e1⟩ := h.there e
  obtain ⟨fp, h1, _⟩ := h.fp
  obtain ⟨x, e2, q⟩ := h1 i _ _ e e1
  subst e2
  exact ⟨x, e1, q⟩
theorem Sat.own (h : Sat B F H σ ss) {i : Nat} {o : O} (e : ss[i]? = some (.own o)) : ∃ p k, σ[i]? = some (some (.ref p)) ∧ (∀ a ob, k a = some ob → H a = some ob ∧ B.H a = none ∧ (F a = none ∨ IsT ob)) ∧ o.r F k p := by
  obtain ⟨v, e1⟩ := h.there e
  obtain ⟨fp, h1, h2⟩ := h.fp
  obtain ⟨p, e2, q⟩ := h1 i _ _ e e1
  subst e2
  exact ⟨p, fp i, e1, h2.at_ i, q⟩
theorem Sat.s (h : Sat B F H σ ss) : Sm F H := h.g.s
/-- cells of our own -/
theorem own_sub {k : Hp} (t : TbOk B.H) (hk : ∀ a ob, k a = some ob → H a = some ob ∧ B.H a = none ∧ (F a = none ∨ IsT ob)) : Sub k H := ⟨fun a ob e => (hk a ob e).1, fun a ob e => t.ne (hk a ob e).2.1⟩
theorem Sat.sub (h : Sat B F H σ ss) {k : Hp} (hk : ∀ a ob, k a = some ob → H a = some ob ∧ B.H a = none ∧ (F a = none ∨ IsT ob)) : Sub k H := own_sub h.g.h.t hk
/-- a slot is stored -/
theorem Sat.set (h : Sat B F H σ ss) {i : Nat} {v : V} {s : S} (r : s.r F v) : Sat B F H (σ.set i (some v)) (ss.set i (.val s)) := by
  obtain ⟨fp, h1, h2⟩ := h.fp
  refine ⟨h.g, by rw [List.length_set, List.length_set]; exact h.len, fpSet fp i hp0, fun j x w e1 e2 => ?_, fun j a ob e => ?_, fun j k a o1 o2 e1 e2 => ?_⟩
  · by_cases hj : j = i
    · subst hj
      rw [List.getElem?_set_self (set_len e1)] at e1
      rw [List.getElem?_set_self (set_len e2)] at e2
      cases e1; cases e2
      exact ⟨v, rfl, r⟩
    · rw [List.getElem?_set_ne (Ne.symm hj)] at e1 e2
      rw [fpSet_ne hj]
      exact h1 j x w e1 e2
  · by_cases hj : j = i
    · subst hj
      rw [fpSet_same] at e
      cases e
    · rw [fpSet_ne hj] at e
      exact h2.at_ j a ob e
  · by_cases hj : j = i
    · subst hj
      rw [fpSet_same] at e1
      cases e1
    · by_cases hk : k = i
      · subst hk
        rw [fpSet_same] at e2
        cases e2
      · rw [fpSet_ne hj] at e1
        rw [fpSet_ne hk] at e2
        exact h2.ap j k a o1 o2 e1 e2
theorem Sat.any (h : Sat B F H σ ss) {i : Nat} : Sat B F H σ (ss.set i .any) := by
  obtain ⟨fp, h1, h2⟩ := h.fp
  refine ⟨h.g, by rw [List.length_set]; exact h.len, fp, fun j x w e1 e2 => ?_, h2⟩
  by_cases hj : j = i
  · subst hj
    rw [List.getElem?_set_self (set_len e1)] at e1
    cases e1
    trivial
  · rw [List.getElem?_set_ne (Ne.symm hj)] at e1
    exact h1 j x w e1 e2
theorem Sat.wipe1 (h : Sat B F H σ ss) {i : Nat} : Sat B F H (σ.set i none) (ss.set i .any) := by
  obtain ⟨fp, h1, h2⟩ := h.fp
  refine ⟨h.g, by rw [List.length_set, List.length_set]; exact h.len, fp, fun j x w e1 e2 => ?_, h2⟩
  by_cases hj : j = i
  · subst hj
    rw [List.getElem?_set_self (set_len e1)] at e1
    cases e1
    trivial
  · rw [List.getElem?_set_ne (Ne.symm hj)] at e1 e2
    exact h1 j x w e1 e2
/-- a new object is stored as an own one -/
theorem Sat.setO (h : Sat B F H σ ss) (g : Grow F H F' H') {i : Nat} {p : Addr} {k : Hp} {o : O} (n : ∀ a ob, k a = some ob → H a = none ∧ (F' a = none ∨ IsT ob) ∧ H' a = some ob) (r : o.r F' k p) :
    Sat B F' H' (σ.set i (some (.ref p))) (ss.set i (.own o)) := by
  obtain ⟨fp, h1, h2⟩ := h.fp
  have h2' := h2.grow g h.g.h.t
  refine ⟨h.g.trans g, by rw [List.length_set, List.length_set]; exact h.len, fpSet fp i k, fun j x w e1 e2 => ?_, fun j a ob e => ?_, fun j l a o1 o2 e1 e2 => ?_⟩
  · by_cases hj : j = i
    · subst hj
      rw [List.getElem?_set_self (set_len e1)] at e1
      rw [List.getElem?_set_self (set_len e2)] at e2
      cases e1; cases e2
      rw [fpSet_same]
      exact ⟨p, rfl, r⟩
    · rw [List.getElem?_set_ne (Ne.symm hj)] at e1 e2
      rw [fpSet_ne hj]
      exact (h1 j x w e1 e2).mono g.f
  · by_cases hj : j = i
    · subst hj
      rw [fpSet_same] at e
      obtain ⟨n1, n2, n3⟩ := n a ob e
      exact ⟨n3, h.g.h.free n1, n2⟩
    · rw [fpSet_ne hj] at e
      exact h2'.at_ j a ob e
  · by_cases hj : j = i
    · subst hj
      by_cases hl : l = j
      · exact hl.symm
      · rw [fpSet_same] at e1
        rw [fpSet_ne hl] at e2
        have q1 := (n a o1 e1).1
        rw [(h2.at_ l a o2 e2).1] at q1
        cases q1
    · by_cases hl : l = i
      · subst hl
        rw [fpSet_same] at e2
        rw [fpSet_ne hj] at e1
        have q1 := (n a o2 e2).1
        rw [(h2.at_ j a o1 e1).1] at q1
        cases q1
      · rw [fpSet_ne hj] at e1
        rw [fpSet_ne hl] at e2
        exact h2.ap j l a o1 o2 e1 e2
theorem tb_write {k : Hp} (tB : TbOk B.H) (tH : TbOk H) (hk : ∀ a ob, k a = some ob → H a = some ob ∧ B.H a = none ∧ (F a = none ∨ IsT ob)) (c0 : ∀ a ob, IsT ob → k a = some ob → H' a = some ob) (c2 : ∀ a ob, k a = none → H a = some ob → H' a = some ob) : TbOk H' := fun pq hp => by
  obtain ⟨ps, e1, e2, e3⟩ := tH pq hp
  refine ⟨ps, c2 _ _ ?_ e1, e2, fun pos cv hc => ?_⟩
  · cases q : k pq.1 with
    | none => rfl
    | some o1 => exact absurd ⟨pq.2, hp⟩ (tB.ne (hk _ o1 q).2.1)
  · obtain ⟨c, z1, z2⟩ := e3 pos cv hc
    refine ⟨c, z1, ?_⟩
    cases q : k c with
    | none => exact c2 _ _ q z2
    | some o1 =>
      have z3 := (hk c o1 q).1
      rw [z2] at z3
      cases z3
      exact c0 _ _ ⟨_, _, rfl⟩ q
/-- an own object is written: its cells k become k' -/
theorem Sat.write (h : Sat B F H σ ss) {i : Nat} {o : O} (e : ss[i]? = some (.own o)) : ∃ p k, σ[i]? = some (some (.ref p)) ∧ (∀ a ob, k a = some ob → H a = some ob ∧ B.H a = none ∧ (F a = none ∨ IsT ob)) ∧ o.r F k p ∧
    ∀ (o' : O) (k' H' : Hp), (∀ a ob, IsT ob → k a = some ob → H' a = some ob) → (∀ a ob, k' a = some ob → H' a = some ob) → (∀ a ob, k a = none → H a = some ob → H' a = some ob) → (∀ a ob, k' a = some ob → k a = none → H a = none) → o'.r F k' p → Sat B F H' σ (ss.set i (.own o')) := by
  obtain ⟨v, e0⟩ := h.there e
  obtain ⟨fp, h1, h2⟩ := h.fp
  obtain ⟨p, ep, hr⟩ := h1 i _ _ e e0
  subst ep
  refine ⟨p, fp i, e0, h2.at_ i, hr, fun o' k' H' c0 c1 c2 c3 r' => ?_⟩
  have sF : Same F H' := fun a ob ea => by
    cases q : fp i a with
    | none => exact c2 a ob q (h.s a ob ea)
    | some o1 =>
      obtain ⟨b1, _, b3⟩ := h2.at_ i a o1 q
      rcases b3 with b3 | b3
      · rw [b3] at ea
        cases ea
      · have e1 := h.s a ob ea
        rw [b1] at e1
        cases e1
        exact c0 a _ b3 q
  have tB := h.g.h.t
  have tH : TbOk H' := tb_write tB h.s.t (h2.at_ i) c0 c2
  have sB : Gr B.H H' := ⟨fun a ob nt ea => c2 a ob (by
    cases q : fp i a with
    | none => rfl
    | some o1 =>
      rw [(h2.at_ i a o1 q).2.1] at ea
      cases ea) (h.g.h.k a ob nt ea), tB, tH⟩
  refine ⟨⟨h.g.f, sB, ⟨sF, tH, h.s.n⟩, h.g.n⟩, by rw [List.length_set]; exact h.len, fpSet fp i k', fun j x w e1 e2 => ?_, fun j a ob e3 => ?_, fun j l a o1 o2 e1 e2 => ?_⟩
  · by_cases hj : j = i
    · subst hj
      rw [List.getElem?_set_self (set_len e1)] at e1
      rw [e0] at e2
      cases e1; cases e2
      rw [fpSet_same]
      exact ⟨p, rfl, r'⟩
    · rw [List.getElem?_set_ne (Ne.symm hj)] at e1
      rw [fpSet_ne hj]
      exact h1 j x w e1 e2
  · by_cases hj : j = i
    · subst hj
      rw [fpSet_same] at e3
      cases q : fp j a with
      | some o1 =>
        obtain ⟨_, b2, b3⟩ := h2.at_ j a o1 q
        refine ⟨c1 a ob e3, b2, b3.imp id fun z => ?_⟩
        have e1 := c0 a o1 z q
        rw [c1 a ob e3] at e1
        cases e1
        exact z
      | none =>
        have n := c3 a ob e3 q
        exact ⟨c1 a ob e3, h.g.h.free n, .inl (h.s.free n)⟩
    · rw [fpSet_ne hj] at e3
      obtain ⟨b1, b2, b3⟩ := h2.at_ j a ob e3
      refine ⟨c2 a ob ?_ b1, b2, b3⟩
      cases q : fp i a with
      | none => rfl
      | some o1 => exact absurd (h2.ap j i a ob o1 e3 q) hj
  · have away : ∀ (l : Nat) (a : Addr) o1 o2, l ≠ i → k' a = some o1 → fp l a = some o2 → False := fun l a o1 o2 hl q1 q2 => by
      cases q : fp i a with
      | some o3 => exact hl (h2.ap l i a o2 o3 q2 q)
      | none =>
        have n := c3 a o1 q1 q
        rw [(h2.at_ l a o2 q2).1] at n
        cases n
    by_cases hj : j = i
    · by_cases hl : l = i
      · rw [hj, hl]
      · rw [hj, fpSet_same] at e1
        rw [fpSet_ne hl] at e2
        exact (away l a o1 o2 hl e1 e2).elim
    · by_cases hl : l = i
      · rw [fpSet_ne hj] at e1
        rw [hl, fpSet_same] at e2
        exact (away j a o2 o1 hj e2 e1).elim
      · rw [fpSet_ne hj] at e1
        rw [fpSet_ne hl] at e2
        exact h2.ap j l a o1 o2 e1 e2
/-- two heaps that lie apart, as one -/
def hpU (h k : Hp) : Hp := fun a => match h a with
  | some o => some o
  | none => k a
omit [Tbs] in
theorem hpU_l {h k : Hp} {a : Addr} {o : HO} (e : h a = some o) : hpU h k a = some o := by unfold hpU; rw [e]
omit [Tbs] in
theorem hpU_r {h k : Hp} {a : Addr} (e : h a = none) : hpU h k a = k a := by unfold hpU; rw [e]
/-- an own object is handed out: from here on it is read alone -/
theorem Sat.pub (h : Sat B F H σ ss) {i : Nat} {o : O} (e : ss[i]? = some (.own o)) : ∃ F', Same F F' ∧ Sat B F' H σ (ss.set i (.val (sO o))) := by
  obtain ⟨v, e0⟩ := h.there e
  obtain ⟨fp, h1, h2⟩ := h.fp
  obtain ⟨p, ep, hr⟩ := h1 i _ _ e e0
  subst ep
  have sF : Same F (hpU (fp i) F) := fun a ob ea => by
    cases q : fp i a with
    | none =>
      rw [hpU_r q]
      exact ea
    | some o1 =>
      have e1 := h.s a ob ea
      rw [(h2.at_ i a o1 q).1] at e1
      cases e1
      exact hpU_l q
  have sK : Same (fp i) (hpU (fp i) F) := fun a ob ea => hpU_l ea
  refine ⟨hpU (fp i) F, sF, ⟨h.g.f.trans sF, h.g.h, ⟨fun a ob ea => ?_, h.s.t, fun a ob ea => ?_⟩, fun a ob ea na => ?_⟩, by rw [List.length_set]; exact h.len, fpSet fp i hp0, fun j x w e1 e2 => ?_, fun j a ob e3 => ?_, fun j l a o1 o2 e1 e2 => ?_⟩
  · cases q : fp i a with
    | some o1 =>
      rw [hpU_l q] at ea
      cases ea
      exact (h2.at_ i a _ q).1
    | none =>
      rw [hpU_r q] at ea
      exact h.s a ob ea
  · cases q : fp i a with
    | some o1 => exact h.g.h.t.ne (h2.at_ i a _ q).2.1
    | none =>
      rw [hpU_r q] at ea
      exact h.s.n a ob ea
  · cases q : fp i a with
    | some o1 => exact .inl (h2.at_ i a _ q).2.1
    | none =>
      rw [hpU_r q] at ea
      exact h.g.n a ob ea na
  · by_cases hj : j = i
    · subst hj
      rw [List.getElem?_set_self (set_len e1)] at e1
      rw [e0] at e2
      cases e1; cases e2
      exact ⟨.ref p, rfl, p, fp j, rfl, sK, o.mono sF hr⟩
    · rw [List.getElem?_set_ne (Ne.symm hj)] at e1
      rw [fpSet_ne hj]
      exact (h1 j x w e1 e2).mono sF
  · by_cases hj : j = i
    · subst hj
      rw [fpSet_same] at e3
      cases e3
    · rw [fpSet_ne hj] at e3
      obtain ⟨b1, b2, b3⟩ := h2.at_ j a ob e3
      refine ⟨b1, b2, b3.imp (fun z => ?_) id⟩
      rw [hpU_r]
      · exact z
      · cases q : fp i a with
        | none => rfl
        | some o1 => exact absurd (h2.ap j i a ob o1 e3 q) hj
  · by_cases hj : j = i
    · subst hj
      rw [fpSet_same] at e1
      cases e1
    · by_cases hl : l = i
      · subst hl
        rw [fpSet_same] at e2
        cases e2
      · rw [fpSet_ne hj] at e1
        rw [fpSet_ne hl] at e2
        exact h2.ap j l a o1 o2 e1 e2
/-- a slot says less -/
theorem Sat.weak (h : Sat B F H σ ss) {i : Nat} {s s' : S} (e : ss[i]? = some (.val s)) (w : ∀ v, s.r F v → s'.r F v) : Sat B F H σ (ss.set i (.val s')) := by
  obtain ⟨v, ev, r⟩ := h.val e
  have := h.set (i := i) (w v r)
  have q : σ.set i (some v) = σ := by
    obtain ⟨hl, hv⟩ := List.getElem?_eq_some_iff.mp ev
    rw [← hv]
    exact List.set_getElem_self hl
  rwa [q] at this
/-- .. of an own one -/
theorem Sat.weakO (h : Sat B F H σ ss) {i : Nat} {o o' : O} (e : ss[i]? = some (.own o)) (w : ∀ k p, o.r F k p → o'.r F k p) : Sat B F H σ (ss.set i (.own o')) := by
  obtain ⟨p, k, _, hk, hr, c⟩ := h.write e
  exact c o' k H (fun a ob _ q => (hk a ob q).1) (fun a ob q => (hk a ob q).1) (fun a ob _ q => q) (fun a ob q n => by rw [q] at n; cases n) (w k p hr)
end
end Sx
namespace Sx
variable [Tbs]
open PySem PySem.Spec PyProof.Rows L2

/-- an argument without a star -/
def noStar : Expr → Bool
  | .Starred _ _ => false
  | _ => true
omit [Tbs] in
theorem star_ok {e : Expr} {es : List Expr} {env : Env} (h : noStar e = true) : starEach (e :: es) env = (false, eval e env) :: starEach es env := by
  cases e <;> first
    | (exact absurd h (by unfold noStar; exact Bool.false_ne_true))
    | (rw [starEach]; intro _ _ q; cases q)
omit [Tbs] in
theorem star_nil {env : Env} : starEach [] env = [] := by rw [starEach]
omit [Tbs] in
theorem star_one {e : Expr} {env : Env} (h : noStar e = true) : starEach [e] env = [(false, eval e env)] := by rw [star_ok h, star_nil]
/-! ### the machine's own readings -/
def wpE (X : Cx) (e : Expr) : TE := fun σ H Q => ∀ pins s, Inv X pins σ H s → wpAny (model X.prog X.w) X.A (eval e X.env) (EP X pins σ Q) X.xe s
def wpT (X : Cx) (e : Expr) : TT := fun σ H Q => ∀ pins s, Inv X pins σ H s → wpAny (model X.prog X.w) X.A (isTrue e X.env (eval e X.env)) (TP X pins σ Q) X.xe s
def wpA (X : Cx) (es : List Expr) : TA := fun σ H Q => ∀ pos pins s, Inv X pins σ H s → wpAny (model X.prog X.w) X.A (spliced (backTo pos (starEach es X.env))) (AP X pins σ Q) X.xe s
def wpS (X : Cx) (st : Stmt) : TS := fun D σ H => ∀ pins s, Inv X pins σ H s → wpAny (model X.prog X.w) X.A (exec st X.env) (SP X pins D) X.xe s
def wpSs (X : Cx) (sts : List Stmt) : TS := fun D σ H => ∀ pins s, Inv X pins σ H s → wpAny (model X.prog X.w) X.A (execs sts X.env) (SP X pins D) X.xe s
def wpI (X : Cx) (tg iter : Expr) : TI := fun σ H Rr => ∀ pins s, Inv X pins σ H s →
  wpAny (model X.prog X.w) X.A (eval iter X.env) (fun v s1 => wpAny (model X.prog X.w) X.A (pyIter v) (PIE X pins σ tg Rr) X.xe s1) X.xe s
def wpTs (X : Cx) (ifs : List Expr) : TT := fun σ H Q => ∀ pins s, Inv X pins σ H s →
    wpAny (model X.prog X.w) X.A (forIn ifs true fun c r => if r = true then do let ok ← isTrue c X.env (eval c X.env); pure (ForInStep.yield ok) else pure (ForInStep.yield r)) (TP X pins σ Q) X.xe s
section
variable {X : Cx} {e tg iter : Expr} {es ifs : List Expr} {st : Stmt} {sts : List Stmt}
omit [Tbs] in
theorem PEw : PE X e (wpE X e) := ⟨fun pins s _ _ _ I h => h pins s I⟩
omit [Tbs] in
theorem PTw : PT X e (wpT X e) := ⟨fun pins s _ _ _ I h => h pins s I⟩
omit [Tbs] in
theorem PAw : PA X es (wpA X es) := ⟨fun pos pins s _ _ _ I h => h pos pins s I⟩
omit [Tbs] in
theorem PSw : PS X st (wpS X st) := ⟨fun pins s _ _ _ I h => h pins s I⟩
omit [Tbs] in
theorem PSsw : PSs X sts (wpSs X sts) := ⟨fun pins s _ _ _ I h => h pins s I⟩
omit [Tbs] in
theorem PIw : PI X tg iter (wpI X tg iter) := ⟨fun pins s _ _ _ I h => h pins s I⟩
omit [Tbs] in
theorem PTsw : PTs X ifs (wpTs X ifs) := ⟨fun pins s _ _ _ I h => h pins s I⟩
omit [Tbs] in
theorem toE {t : TE} (h : PE X e t) {σ : L2.St} {H : Hp} {Q : VK} (q : t σ H Q) : wpE X e σ H Q := fun pins s I => h.run pins s σ H Q I q
omit [Tbs] in
theorem toT {t : TT} (h : PT X e t) {σ : L2.St} {H : Hp} {Q : Bool → Hp → Prop} (q : t σ H Q) : wpT X e σ H Q := fun pins s I => h.run pins s σ H Q I q
omit [Tbs] in
theorem toA {t : TA} (h : PA X es t) {σ : L2.St} {H : Hp} {Q : List V → Hp → Prop} (q : t σ H Q) : wpA X es σ H Q := fun pos pins s I => h.run pos pins s σ H Q I q
omit [Tbs] in
theorem toS {t : TS} (h : PS X st t) {σ : L2.St} {H : Hp} {D : Ends} (q : t D σ H) : wpS X st D σ H := fun pins s I => h.run pins s σ H D I q
omit [Tbs] in
theorem toSs {t : TS} (h : PSs X sts t) {σ : L2.St} {H : Hp} {D : Ends} (q : t D σ H) : wpSs X sts D σ H := fun pins s I => h.run pins s σ H D I q
omit [Tbs] in
theorem toI {t : TI} (h : PI X tg iter t) {σ : L2.St} {H : Hp} {Q : It → Hp → Prop} (q : t σ H Q) : wpI X tg iter σ H Q := fun pins s I => h.run pins s σ H Q I q
omit [Tbs] in
theorem toTs {t : TT} (h : PTs X ifs t) {σ : L2.St} {H : Hp} {Q : Bool → Hp → Prop} (q : t σ H Q) : wpTs X ifs σ H Q := fun pins s I => h.run pins s σ H Q I q
omit [Tbs] in
theorem wpE_mono {σ : L2.St} {H : Hp} {Q Q' : VK} (h : wpE X e σ H Q) (k : ∀ v H', Q v H' → Q' v H') : wpE X e σ H Q' := fun pins s I =>
  thn (h pins s I) fun u s' ⟨v, H', I', r, q⟩ => ⟨v, H', I', r, k v H' q⟩
omit [Tbs] in
theorem SP_mono {pins : List (Addr × Obj)} {D D' : Ends} {f : Flow} {s' : Shared} (h : SP X pins D f s') (n : ∀ σ H, D.nx σ H → D'.nx σ H) (r : ∀ v H, D.rt v H → D'.rt v H) (b : ∀ σ H, D.bk σ H → D'.bk σ H) (c : ∀ σ H, D.ct σ H → D'.ct σ H) : SP X pins D' f s' := by
  cases f with
  | next => obtain ⟨σ, H, I, q⟩ := h; exact ⟨σ, H, I, n _ _ q⟩
  | brk => obtain ⟨σ, H, I, q⟩ := h; exact ⟨σ, H, I, b _ _ q⟩
  | cont => obtain ⟨σ, H, I, q⟩ := h; exact ⟨σ, H, I, c _ _ q⟩
  | ret u => obtain ⟨v, σ, H, I, k, q⟩ := h; exact ⟨v, σ, H, I, k, r _ _ q⟩
omit [Tbs] in
theorem wpSs_mono {σ : L2.St} {H : Hp} {D D' : Ends} (h : wpSs X sts D σ H) (n : ∀ σ H, D.nx σ H → D'.nx σ H) (r : ∀ v H, D.rt v H → D'.rt v H) (b : ∀ σ H, D.bk σ H → D'.bk σ H) (c : ∀ σ H, D.ct σ H → D'.ct σ H) : wpSs X sts D' σ H := fun pins s I =>
  thn (h pins s I) fun _ _ q => SP_mono q n r b c
end

/-! ### the judgements -/
structure EvE (X : Cx) (ss : List Sl) (e : Expr) (ρ : R) : Prop where
  go : ∀ (B : Bs) (F H : Hp) (σ : L2.St), Sat B F H σ ss → ∀ Q : VK, (∀ v F' H', Grow F H F' H' → ρ.r F' H' v → Q v H') → wpE X e σ H Q
instance {X : Cx} {ss : List Sl} {e : Expr} {ρ : R} : CoeFun (EvE X ss e ρ) (fun _ => ∀ (B : Bs) (F H : Hp) (σ : L2.St), Sat B F H σ ss → ∀ Q : VK, (∀ v F' H', Grow F H F' H' → ρ.r F' H' v → Q v H') → wpE X e σ H Q) := ⟨EvE.go⟩
/-- a new object -/
structure EvN (X : Cx) (ss : List Sl) (e : Expr) (o : O) : Prop where
  go : ∀ (B : Bs) (F H : Hp) (σ : L2.St), Sat B F H σ ss → ∀ Q : VK,
    (∀ p F' H' k, Grow F H F' H' → (∀ a ob, k a = some ob → H a = none ∧ (F' a = none ∨ IsT ob) ∧ H' a = some ob) → o.r F' k p → Q (.ref p) H') → wpE X e σ H Q
instance {X : Cx} {ss : List Sl} {e : Expr} {o : O} : CoeFun (EvN X ss e o) (fun _ => ∀ (B : Bs) (F H : Hp) (σ : L2.St), Sat B F H σ ss → ∀ Q : VK,
    (∀ p F' H' k, Grow F H F' H' → (∀ a ob, k a = some ob → H a = none ∧ (F' a = none ∨ IsT ob) ∧ H' a = some ob) → o.r F' k p → Q (.ref p) H') → wpE X e σ H Q) := ⟨EvN.go⟩
theorem fresh1 {F H F1 H1 : Hp} {o : O} {p : Addr} {ob : HO} {Q : VK} (q : ∀ p F' H' k, Grow F H F' H' → (∀ a ob, k a = some ob → H a = none ∧ (F' a = none ∨ IsT ob) ∧ H' a = some ob) → o.r F' k p → Q (.ref p) H')
    (g : Grow F H F1 H1) (np : H1 p = none) (r : o.r F1 (hp1 p ob) p) : Q (.ref p) (upd H1 p ob) := q p F1 _ (hp1 p ob) (g.trans (.new g.s np)) (fun a ob' e => by
  obtain ⟨rfl, rfl⟩ := hp1_some e
  exact ⟨g.h.free np, .inl (g.s.free np), upd_same⟩) r
structure EvT (X : Cx) (ss : List Sl) (e : Expr) (b : Bool) : Prop where
  go : ∀ (B : Bs) (F H : Hp) (σ : L2.St), Sat B F H σ ss → ∀ Q : Bool → Hp → Prop, (∀ F' H', Grow F H F' H' → Q b H') → wpT X e σ H Q
instance {X : Cx} {ss : List Sl} {e : Expr} {b : Bool} : CoeFun (EvT X ss e b) (fun _ => ∀ (B : Bs) (F H : Hp) (σ : L2.St), Sat B F H σ ss → ∀ Q : Bool → Hp → Prop, (∀ F' H', Grow F H F' H' → Q b H') → wpT X e σ H Q) := ⟨EvT.go⟩
structure EvA (X : Cx) (ss : List Sl) (es : List Expr) (as : List R) : Prop where
  go : ∀ (B : Bs) (F H : Hp) (σ : L2.St), Sat B F H σ ss → ∀ Q : List V → Hp → Prop,
    (∀ vs F' H', Grow F H F' H' → Paired (fun (a : R) v => a.r F' H' v) as vs → Q vs H') → wpA X es σ H Q
instance {X : Cx} {ss : List Sl} {es : List Expr} {as : List R} : CoeFun (EvA X ss es as) (fun _ => ∀ (B : Bs) (F H : Hp) (σ : L2.St), Sat B F H σ ss → ∀ Q : List V → Hp → Prop,
    (∀ vs F' H', Grow F H F' H' → Paired (fun (a : R) v => a.r F' H' v) as vs → Q vs H') → wpA X es σ H Q) := ⟨EvA.go⟩
/-- an exception: its class, the attributes of its own -/
structure Xo where
  cls : Value
  fs : Option (List (Str × S)) := none
def XoR (x : Xo) (F : Hp) (cls : Value) (d : Option Addr) : Prop := cls = x.cls ∧ (match x.fs with
  | none => d = none
  | some fs => ∃ a vs, d = some a ∧ F a = some (.xd vs) ∧ Paired (fun (a : Str × S) (b : Str × V) => a.1 = b.1 ∧ a.2.r F b.2) fs vs)
/-- what is wanted behind a statement -/
structure Ds where
  nx : List Sl → Prop
  rt : S → Prop
  bk : List Sl → Prop := fun _ => False
  ct : List Sl → Prop := fun _ => False
  ex : Xo → List Sl → Prop := fun _ _ => False
  rn : O → Prop := fun _ => False
  rb : O → S → Prop := fun _ _ => False
  rbn : O → O → Prop := fun _ _ => False
/-- what may be raised, B: the ground -/
def wX (B : Bs) (ex : Xo → List Sl → Prop) : WX := fun cls d σ H => ∃ x F ss, ex x ss ∧ Sat B F H σ ss ∧ XoR x F cls d
def Tk (X : Cx) (B : Bs) (ex : Xo → List Sl → Prop) : Prop := Takes X (wX B ex)
theorem tk0 {X : Cx} {B : Bs} : Tk X B (fun _ _ => False) := Takes.imp (takes0 (X := X)) fun _ _ _ _ ⟨_, _, _, h, _⟩ => h
theorem Tk.imp {X : Cx} {B : Bs} {ex ex' : Xo → List Sl → Prop} (t : Tk X B ex') (h : ∀ x ss, ex x ss → ex' x ss) : Tk X B ex := Takes.imp t fun _ _ _ _ ⟨x, F, ss, a, b⟩ => ⟨x, F, ss, h x ss a, b⟩
/-- the cells k are our own -/
def OwnC (B : Bs) (F H k : Hp) : Prop := ∀ a ob, k a = some ob → H a = some ob ∧ B.H a = none ∧ (F a = none ∨ IsT ob)
/-- what is handed back: known, or new and nobody else's; perhaps an object o that was lent to us goes back with it -/
def RtP (B : Bs) (D : Ds) (v : V) (H : Hp) : Prop := (∃ (F : Hp) (s : S), Grow B.F B.H F H ∧ s.r F v ∧ D.rt s) ∨
  (∃ (F k : Hp) (p : Addr) (o : O), v = .ref p ∧ Grow B.F B.H F H ∧ OwnC B F H k ∧ o.r F k p ∧ D.rn o) ∨
  (∃ (F k : Hp) (p : Addr) (o : O) (s : S), Grow B.F B.H F H ∧ s.r F v ∧ OwnC B F H k ∧ o.r F k p ∧ D.rb o s) ∨
  ∃ (F k : Hp) (p : Addr) (o : O) (k2 : Hp) (p2 : Addr) (o2 : O), v = .ref p2 ∧ Grow B.F B.H F H ∧ OwnC B F H k ∧ o.r F k p ∧ OwnC B F H k2 ∧ o2.r F k2 p2 ∧ (∀ a ob, k a = some ob → k2 a = none) ∧ D.rbn o o2
section
variable {B : Bs} {D : Ds} {v : V} {H : Hp}
theorem RtP.known (F : Hp) (s : S) (g : Grow B.F B.H F H) (r : s.r F v) (d : D.rt s) : RtP B D v H := .inl ⟨F, s, g, r, d⟩
theorem RtP.fresh (F k : Hp) (p : Addr) (o : O) (e : v = .ref p) (g : Grow B.F B.H F H) (c : OwnC B F H k) (r : o.r F k p) (d : D.rn o) : RtP B D v H := .inr (.inl ⟨F, k, p, o, e, g, c, r, d⟩)
theorem RtP.lent (F k : Hp) (p : Addr) (o : O) (s : S) (g : Grow B.F B.H F H) (r : s.r F v) (c : OwnC B F H k) (q : o.r F k p) (d : D.rb o s) : RtP B D v H := .inr (.inr (.inl ⟨F, k, p, o, s, g, r, c, q, d⟩))
theorem RtP.lentN (F k : Hp) (p : Addr) (o : O) (k2 : Hp) (p2 : Addr) (o2 : O) (e : v = .ref p2) (g : Grow B.F B.H F H) (c : OwnC B F H k) (q : o.r F k p) (c2 : OwnC B F H k2) (q2 : o2.r F k2 p2) (ap : ∀ a ob, k a = some ob → k2 a = none) (d : D.rbn o o2) : RtP B D v H := .inr (.inr (.inr ⟨F, k, p, o, k2, p2, o2, e, g, c, q, c2, q2, ap, d⟩))
theorem RtP.two (h : RtP B D v H) (hb : ∀ o s, ¬ D.rb o s) (hbn : ∀ o o2, ¬ D.rbn o o2) : (∃ (F : Hp) (s : S), Grow B.F B.H F H ∧ s.r F v ∧ D.rt s) ∨ ∃ (F k : Hp) (p : Addr) (o : O), v = .ref p ∧ Grow B.F B.H F H ∧ OwnC B F H k ∧ o.r F k p ∧ D.rn o := by
  rcases h with h | h | ⟨_, _, _, o, s, _, _, _, _, z⟩ | ⟨_, _, _, o, _, _, o2, _, _, _, _, _, _, _, z⟩
  · exact .inl h
  · exact .inr h
  · exact (hb o s z).elim
  · exact (hbn o o2 z).elim
end
def dn (B : Bs) (D : Ds) : Ends where
  nx := fun σ H => ∃ F ss, Sat B F H σ ss ∧ D.nx ss
  rt := fun v H => RtP B D v H
  bk := fun σ H => ∃ F ss, Sat B F H σ ss ∧ D.bk ss
  ct := fun σ H => ∃ F ss, Sat B F H σ ss ∧ D.ct ss
structure EvS (X : Cx) (ss : List Sl) (st : Stmt) (D : Ds) : Prop where
  go : ∀ (B : Bs) (F H : Hp) (σ : L2.St), Sat B F H σ ss → Tk X B D.ex → wpS X st (dn B D) σ H
instance {X : Cx} {ss : List Sl} {st : Stmt} {D : Ds} : CoeFun (EvS X ss st D) (fun _ => ∀ (B : Bs) (F H : Hp) (σ : L2.St), Sat B F H σ ss → Tk X B D.ex → wpS X st (dn B D) σ H) := ⟨EvS.go⟩
structure EvSs (X : Cx) (ss : List Sl) (sts : List Stmt) (D : Ds) : Prop where
  go : ∀ (B : Bs) (F H : Hp) (σ : L2.St), Sat B F H σ ss → Tk X B D.ex → wpSs X sts (dn B D) σ H
instance {X : Cx} {ss : List Sl} {sts : List Stmt} {D : Ds} : CoeFun (EvSs X ss sts D) (fun _ => ∀ (B : Bs) (F H : Hp) (σ : L2.St), Sat B F H σ ss → Tk X B D.ex → wpSs X sts (dn B D) σ H) := ⟨EvSs.go⟩
section
variable {X : Cx} {ss : List Sl} {e a b c : Expr} {es : List Expr} {ρ τ κ : R} {s t : S} {o : O} {pos : Pos}
theorem EvN.toE (h : EvN X ss e o) : EvE X ss e (sv (sO o)) := .mk fun B F H σ hs Q q => h B F H σ hs Q fun p F' H' k g n r => by
  have sF : Same F' (hpU k F') := fun a ob ea => by
    cases z : k a with
    | none =>
      rw [hpU_r z]
      exact ea
    | some o1 =>
      have e1 := g.s a ob ea
      rw [(n a o1 z).2.2] at e1
      cases e1
      exact hpU_l z
  refine q _ (hpU k F') H' ⟨g.f.trans sF, g.h, ⟨fun x y ex => ?_, g.s.t, fun x y ex => ?_⟩, fun x y ex nx => ?_⟩ ⟨p, k, rfl, fun a ob ea => hpU_l ea, o.mono sF r⟩
  · cases z : k x with
    | some o1 =>
      rw [hpU_l z] at ex
      cases ex
      exact (n x _ z).2.2
    | none =>
      rw [hpU_r z] at ex
      exact g.s x y ex
  · cases z : k x with
    | some o1 => exact g.h.t.ne (n x _ z).1
    | none =>
      rw [hpU_r z] at ex
      exact g.s.n x y ex
  · cases z : k x with
    | some o1 => exact .inl (n x _ z).1
    | none =>
      rw [hpU_r z] at ex
      exact g.n x y ex nx
theorem EvE.imp (h : EvE X ss e ρ) (w : ∀ F H v, Sm F H → ρ.r F H v → τ.r F H v) : EvE X ss e τ := .mk fun B F H σ hs Q q => h B F H σ hs Q fun v F' H' g r => q v F' H' g (w F' H' v g.s r)
theorem EvE.impS (h : EvE X ss e (sv s)) (w : ∀ F v, s.r F v → t.r F v) : EvE X ss e (sv t) := h.imp fun F _ v _ r => w F v r
theorem EvE.to (h : EvE X ss e ρ) (w : ρ = τ) : EvE X ss e τ := w ▸ h
theorem EvN.to {o' : O} (h : EvN X ss e o) (w : o = o') : EvN X ss e o' := w ▸ h
theorem EvN.imp {o' : O} (h : EvN X ss e o) (w : ∀ F k p, o.r F k p → o'.r F k p) : EvN X ss e o' := .mk fun B F H σ hs Q q => h B F H σ hs Q fun p F' H' k g n r => q p F' H' k g n (w _ _ _ r)
theorem EvT.to {b b' : Bool} (h : EvT X ss e b) (w : b = b') : EvT X ss e b' := w ▸ h
/-! ### names, constants -/
theorem ev_var (i : Nat) {x : Str} (hs : ss[i]? = some (.val s)) (hN : X.N[i]? = some x := by rfl) (hv : Vis X.env.scope x := by first | exact Or.inl rfl | exact Or.inr (Or.inl rfl) | exact Or.inr (Or.inr rfl))
    (hd : (x == ("__debug__" : Str)) = false := by decide) (hcd : (x == ("__classdict__" : Str)) = false := by decide) : EvE X ss (.Name x pos) (sv s) := .mk fun B F H σ h Q q => by
  obtain ⟨v, e1, r⟩ := h.val hs
  exact toE (pe_var (i := i) hN hv hd hcd) ⟨v, e1, q v F H (.refl h.s) r⟩
/-- an own object, read here and now -/
theorem ev_own (i : Nat) {x : Str} (hs : ss[i]? = some (.own o)) (hN : X.N[i]? = some x := by rfl) (hv : Vis X.env.scope x := by first | exact Or.inl rfl | exact Or.inr (Or.inl rfl) | exact Or.inr (Or.inr rfl))
    (hd : (x == ("__debug__" : Str)) = false := by decide) (hcd : (x == ("__classdict__" : Str)) = false := by decide) : EvE X ss (.Name x pos) (bO o) := .mk fun B F H σ h Q q => by
  obtain ⟨p, k, e1, hk, r⟩ := h.own hs
  exact toE (pe_var (i := i) hN hv hd hcd) ⟨_, e1, q _ F H (.refl h.s) ⟨p, k, rfl, h.sub hk, r⟩⟩
theorem ev_int {i : Int} {j} : EvE X ss (.Constant (.int i) j pos) (sv (sInt i)) := .mk fun B F H σ h Q q => toE pe_int (q _ F H (.refl h.s) rfl)
theorem ev_bl {i : Bool} {j} : EvE X ss (.Constant (.bool i) j pos) (sv (sBool i)) := .mk fun B F H σ h Q q => toE pe_bl (q _ F H (.refl h.s) rfl)
theorem ev_non {j} : EvE X ss (.Constant .none j pos) (sv sNone) := .mk fun B F H σ h Q q => toE pe_non (q _ F H (.refl h.s) rfl)
theorem ev_str {x} {j} (ok : PyData.strOk x = true := by decide +kernel) : EvE X ss (.Constant (.str x) j pos) (sv (sStr x)) := .mk fun B F H σ h Q q => toE pe_str (q _ F H (.refl h.s) ⟨rfl, ok⟩)
/-- a name of the module -/
theorem ev_glob {x : Str} {v : V} {u : Value} (hg : Gl X x) (hm : X.mg x = some u) (r : RelV v u) (hr : s.r (fun _ => none) v) (hd : (x == ("__debug__" : Str)) = false := by decide) : EvE X ss (.Name x pos) (sv s) := .mk fun B F H σ h Q q =>
  toE (pe_glob hg hm r hd) (q v F H (.refl h.s) (s.mono (fun _ _ z => by cases z) hr))
/-! ### two at a time -/
theorem ev_bin {op : Operator} {r : R2} (ho : OpR X (binaryOp op) r) (ha : EvE X ss a ρ) (hb : EvE X ss b τ)
    (hr : ∀ F H x y (Q : VK), Sm F H → ρ.r F H x → τ.r F H y → (∀ v F' H', Grow F H F' H' → κ.r F' H' v → Q v H') → r x y H Q) : EvE X ss (.BinOp a op b pos) κ := .mk fun B F H σ h Q q =>
  toE (pe_op ho PEw PEw) (ha B F H σ h _ fun x F1 H1 g1 rx => hb B F1 H1 σ (h.grow g1) _ fun y F2 H2 g2 ry => hr F2 H2 x y Q g2.s (ρ.mono g2.f g2.h rx) ry fun v F' H' g3 k => q v F' H' ((g1.trans g2).trans g3) k)
theorem ev_binN {op : Operator} {r : R2} (ho : OpR X (binaryOp op) r) (ha : EvE X ss a ρ) (hb : EvE X ss b τ)
    (hr : ∀ F H x y (Q : VK), Sm F H → ρ.r F H x → τ.r F H y → (∀ p ob, H p = none → o.r F (hp1 p ob) p → Q (.ref p) (upd H p ob)) → r x y H Q) : EvN X ss (.BinOp a op b pos) o := .mk fun B F H σ h Q q =>
  toE (pe_op ho PEw PEw) (ha B F H σ h _ fun x F1 H1 g1 rx => hb B F1 H1 σ (h.grow g1) _ fun y F2 H2 g2 ry => hr F2 H2 x y Q g2.s (ρ.mono g2.f g2.h rx) ry fun p ob n k => fresh1 q (g1.trans g2) n k)
theorem ev_cmp {op : CmpOp} {r : R2} (ho : OpR X (compareOp op) r) (ha : EvE X ss a ρ) (hb : EvE X ss b τ)
    (hr : ∀ F H x y (Q : VK), Sm F H → ρ.r F H x → τ.r F H y → (∀ v F' H', Grow F H F' H' → κ.r F' H' v → Q v H') → r x y H Q) (hm : behindInMarks op b = false) : EvE X ss (.Compare a [op] [b] pos) κ := .mk fun B F H σ h Q q =>
  toE (pe_cmpR ho PEw PEw hm) (ha B F H σ h _ fun x F1 H1 g1 rx => hb B F1 H1 σ (h.grow g1) _ fun y F2 H2 g2 ry => hr F2 H2 x y Q g2.s (ρ.mono g2.f g2.h rx) ry fun v F' H' g3 k => q v F' H' ((g1.trans g2).trans g3) k)
theorem ev_cmpT {op : CmpOp} {r : R2} {k : Bool} (ho : OpR X (compareOp op) r) (ha : EvE X ss a ρ) (hb : EvE X ss b τ)
    (hr : ∀ F H x y (Q : VK), Sm F H → ρ.r F H x → τ.r F H y → (Q (.bl k) H) → r x y H Q) (hm : behindInMarks op b = false) : EvT X ss (.Compare a [op] [b] pos) k := .mk fun B F H σ h Q q =>
  toT (pt_cmpR ho PEw PEw hm) (ha B F H σ h _ fun x F1 H1 g1 rx => hb B F1 H1 σ (h.grow g1) _ fun y F2 H2 g2 ry => hr F2 H2 x y _ g2.s (ρ.mono g2.f g2.h rx) ry ⟨k, rfl, q F2 H2 (g1.trans g2)⟩)
/-- ints -/
theorem ev_I {op : Operator} {C : Int → Int → Prop} {g : Int → Int → Int} {i j : Int} (ho : OpR X (binaryOp op) (rI C fun i j => .int (g i j))) (ha : EvE X ss a (sv (sInt i))) (hb : EvE X ss b (sv (sInt j))) (hc : C i j) : EvE X ss (.BinOp a op b pos) (sv (sInt (g i j))) :=
  ev_bin ho ha hb fun F H x y Q sF ex ey q => ⟨i, j, ex, ey, hc, q _ F H (.refl sF) rfl⟩
theorem ev_I0 {op : Operator} {g : Int → Int → Int} {i j : Int} (ho : OpR X (binaryOp op) (rI0 fun i j => .int (g i j))) (ha : EvE X ss a (sv (sInt i))) (hb : EvE X ss b (sv (sInt j))) : EvE X ss (.BinOp a op b pos) (sv (sInt (g i j))) :=
  ev_bin ho ha hb fun F H x y Q sF ex ey q => ⟨i, j, ex, ey, q _ F H (.refl sF) rfl⟩
variable {i j : Int}
theorem ev_add (ha : EvE X ss a (sv (sInt i))) (hb : EvE X ss b (sv (sInt j))) : EvE X ss (.BinOp a .Add b pos) (sv (sInt (i + j))) := ev_I0 op_add ha hb
theorem ev_sub (ha : EvE X ss a (sv (sInt i))) (hb : EvE X ss b (sv (sInt j))) : EvE X ss (.BinOp a .Sub b pos) (sv (sInt (i - j))) := ev_I0 op_sub ha hb
theorem ev_mul (ha : EvE X ss a (sv (sInt i))) (hb : EvE X ss b (sv (sInt j))) (hc : CMul i j) : EvE X ss (.BinOp a .Mult b pos) (sv (sInt (i * j))) := ev_I op_mul ha hb hc
theorem ev_div (ha : EvE X ss a (sv (sInt i))) (hb : EvE X ss b (sv (sInt j))) (hc : CDiv i j) : EvE X ss (.BinOp a .FloorDiv b pos) (sv (sInt (i / j))) := ev_I op_fdiv ha hb hc
theorem ev_mod (ha : EvE X ss a (sv (sInt i))) (hb : EvE X ss b (sv (sInt j))) (hc : 0 < j) : EvE X ss (.BinOp a .Mod b pos) (sv (sInt (i % j))) := ev_I (C := fun _ j => 0 < j) op_mod ha hb hc
theorem ev_pow (ha : EvE X ss a (sv (sInt i))) (hb : EvE X ss b (sv (sInt j))) (hc : CPow i j) : EvE X ss (.BinOp a .Pow b pos) (sv (sInt (i ^ j.toNat))) := ev_I op_pow ha hb hc
theorem ev_neg (ha : EvE X ss a (sv (sInt i))) : EvE X ss (.UnaryOp .USub a pos) (sv (sInt (-i))) := .mk fun B F H σ h Q q =>
  toE (pe_un un_neg PEw) (ha B F H σ h _ fun x F1 H1 g1 rx => ⟨i, rx, q _ F1 H1 g1 rfl⟩)
theorem ev_B0 {op : CmpOp} {g : Int → Int → Bool} (ho : OpR X (compareOp op) (rI0 fun i j => .bl (g i j))) (ha : EvE X ss a (sv (sInt i))) (hb : EvE X ss b (sv (sInt j))) (hm : behindInMarks op b = false) : EvE X ss (.Compare a [op] [b] pos) (sv (sBool (g i j))) :=
  ev_cmp ho ha hb (fun F H x y Q sF ex ey q => ⟨i, j, ex, ey, q _ F H (.refl sF) rfl⟩) hm
theorem ev_lt (ha : EvE X ss a (sv (sInt i))) (hb : EvE X ss b (sv (sInt j))) : EvE X ss (.Compare a [.Lt] [b] pos) (sv (sBool (decide (i < j)))) := ev_B0 op_lt ha hb (nomark _)
theorem ev_le (ha : EvE X ss a (sv (sInt i))) (hb : EvE X ss b (sv (sInt j))) : EvE X ss (.Compare a [.LtE] [b] pos) (sv (sBool (decide (i ≤ j)))) := ev_B0 op_le ha hb (nomark _)
theorem ev_gt (ha : EvE X ss a (sv (sInt i))) (hb : EvE X ss b (sv (sInt j))) : EvE X ss (.Compare a [.Gt] [b] pos) (sv (sBool (decide (j < i)))) := ev_B0 op_gt ha hb (nomark _)
theorem ev_ge (ha : EvE X ss a (sv (sInt i))) (hb : EvE X ss b (sv (sInt j))) : EvE X ss (.Compare a [.GtE] [b] pos) (sv (sBool (decide (j ≤ i)))) := ev_B0 op_ge ha hb (nomark _)
/-- a comparison of ints as a test -/
theorem et_B0 {op : CmpOp} {g : Int → Int → Bool} (ho : OpR X (compareOp op) (rI0 fun i j => .bl (g i j))) (ha : EvE X ss a (sv (sInt i))) (hb : EvE X ss b (sv (sInt j))) (hm : behindInMarks op b = false) : EvT X ss (.Compare a [op] [b] pos) (g i j) :=
  ev_cmpT ho ha hb (fun F H x y Q sF ex ey q => ⟨i, j, ex, ey, q⟩) hm
theorem et_lt (ha : EvE X ss a (sv (sInt i))) (hb : EvE X ss b (sv (sInt j))) : EvT X ss (.Compare a [.Lt] [b] pos) (decide (i < j)) := et_B0 op_lt ha hb (nomark _)
theorem et_le (ha : EvE X ss a (sv (sInt i))) (hb : EvE X ss b (sv (sInt j))) : EvT X ss (.Compare a [.LtE] [b] pos) (decide (i ≤ j)) := et_B0 op_le ha hb (nomark _)
theorem et_gt (ha : EvE X ss a (sv (sInt i))) (hb : EvE X ss b (sv (sInt j))) : EvT X ss (.Compare a [.Gt] [b] pos) (decide (j < i)) := et_B0 op_gt ha hb (nomark _)
theorem et_ge (ha : EvE X ss a (sv (sInt i))) (hb : EvE X ss b (sv (sInt j))) : EvT X ss (.Compare a [.GtE] [b] pos) (decide (j ≤ i)) := et_B0 op_ge ha hb (nomark _)
end

/-! ### equality of data -/
/-- values of T are data -/
class TyD {α : Type} (T : α → S) where
  d : α → PyData
  dep : Nat
  ok : ∀ {K : PySem.W.Frag} {F : Hp} {v : V} {x : α}, (T x).r F v → Dp K F v (d x) ∧ (d x).canLay0 = true ∧ (d x).depth ≤ dep
/-- == tells them apart -/
class TyQ {α : Type} [DecidableEq α] (T : α → S) extends TyD T where
  q : ∀ x y : α, PyData.eqv (TyD.d T x) (TyD.d T y) = decide (x = y)
omit [Tbs] in
mutual
theorem dp_same {K : PySem.W.Frag} {H H' : Hp} (e : Same H H') : ∀ {v : V} {d : PyData}, Dp K H v d → Dp K H' v d
  | _, _, .non => .non
  | _, _, .bl b => .bl b
  | _, _, .int i => .int i
  | _, _, .str x => .str x
  | _, _, .lst h t => .lst (SqL.same e h) (dps_same e t)
  | _, _, .tup h t => .tup (SqT.same e h) (dps_same e t)
theorem dps_same {K : PySem.W.Frag} {H H' : Hp} (e : Same H H') : ∀ {vs : List V} {ds : List PyData}, DpAll K H vs ds → DpAll K H' vs ds
  | _, _, .nil => .nil
  | _, _, .cons h t => .cons (dp_same e h) (dps_same e t)
end
instance : TyQ sInt where
  d := .int
  dep := 0
  ok := fun {K F v x} h => by
    have e : v = .int x := h
    subst e
    exact ⟨.int x, by simp [PyData.canLay0], by simp [PyData.depth]⟩
  q := fun x y => by simp [PyData.eqv, Bool.beq_eq_decide_eq]
instance : TyQ sBool where
  d := .bool
  dep := 0
  ok := fun {K F v x} h => by
    have e : v = .bl x := h
    subst e
    exact ⟨.bl x, by simp [PyData.canLay0], by simp [PyData.depth]⟩
  q := fun x y => by simp [PyData.eqv, Bool.beq_eq_decide_eq]
instance : TyQ sStr where
  d := .str
  dep := 0
  ok := fun {K F v x} h => by
    obtain ⟨e, k⟩ := h
    subst e
    exact ⟨.str x, by simp [PyData.canLay0, k], by simp [PyData.depth]⟩
  q := fun x y => by simp [PyData.eqv, Bool.beq_eq_decide_eq]
instance : TyQ (fun _ : Unit => sNone) where
  d := fun _ => .none
  dep := 0
  ok := fun {K F v x} h => by
    have e : v = .non := h
    subst e
    exact ⟨.non, by simp [PyData.canLay0], by simp [PyData.depth]⟩
  q := fun x y => by simp [PyData.eqv]
section
variable {α : Type} {T : α → S}
omit [Tbs] in
theorem its_dp [TyD T] {K : PySem.W.Frag} {F : Hp} : ∀ {xs : List α} {vs : List V}, Its T F xs vs → DpAll K F vs (xs.map (TyD.d T)) ∧ PyData.canLayAll0 (xs.map (TyD.d T)) = true ∧ PyData.depthAll (xs.map (TyD.d T)) ≤ TyD.dep T
  | [], vs, h => by
    have e : vs = [] := List.eq_nil_of_length_eq_zero h.len
    subst e
    exact ⟨.nil, by simp [PyData.canLayAll0], by simp [PyData.depthAll]⟩
  | x :: xs, vs, h => by
    have h' : Paired (fun x v => (T x).r F v) (x :: xs) vs := h
    cases h' with
    | cons r t =>
      obtain ⟨a1, a2, a3⟩ := TyD.ok (T := T) (K := K) r
      obtain ⟨b1, b2, b3⟩ := its_dp (show Its T F _ _ from t)
      refine ⟨.cons a1 b1, ?_, ?_⟩
      · rw [List.map_cons, PyData.canLayAll0, a2, b2]
        rfl
      · rw [List.map_cons, PyData.depthAll]
        exact Nat.max_le.mpr ⟨a3, b3⟩
omit [Tbs] in
theorem eqv_alls [DecidableEq α] [TyQ T] : ∀ xs ys : List α, PyData.eqvAll (xs.map (TyD.d T)) (ys.map (TyD.d T)) = decide (xs = ys)
  | [], [] => by simp [PyData.eqvAll]
  | [], y :: ys => by simp [PyData.eqvAll]
  | x :: xs, [] => by simp [PyData.eqvAll]
  | x :: xs, y :: ys => by
    rw [List.map_cons, List.map_cons, PyData.eqvAll, TyQ.q, eqv_alls xs ys, ← Bool.decide_and]
    exact decide_eq_decide.mpr ⟨fun ⟨a, b⟩ => by rw [a, b], fun h => by injection h with a b; exact ⟨a, b⟩⟩
instance [TyD T] : TyD (fun xs => sO (oLst T xs)) where
  d := fun xs => .list (xs.map (TyD.d T))
  dep := TyD.dep T + 1
  ok := fun {K F v x} h => by
    obtain ⟨p, k, e, hk, vs, hp, hi⟩ := h
    subst e
    obtain ⟨a, b, c⟩ := its_dp (T := T) (K := K) hi
    exact ⟨.lst (SqL.of (hk _ _ hp)) a, by rw [PyData.canLay0]; exact b, by rw [PyData.depth]; exact Nat.succ_le_succ c⟩
instance [DecidableEq α] [TyQ T] : TyQ (fun xs => sO (oLst T xs)) where
  q := fun xs ys => by
    show PyData.eqv (.list _) (.list _) = _
    rw [PyData.eqv]
    exact eqv_alls xs ys
instance [TyD T] : TyD (fun xs => sO (oTup T xs)) where
  d := fun xs => .tuple (xs.map (TyD.d T))
  dep := TyD.dep T + 1
  ok := fun {K F v x} h => by
    obtain ⟨p, k, e, hk, vs, hp, hi⟩ := h
    subst e
    obtain ⟨a, b, c⟩ := its_dp (T := T) (K := K) hi
    exact ⟨.tup (SqT.of (hk _ _ hp)) a, by rw [PyData.canLay0]; exact b, by rw [PyData.depth]; exact Nat.succ_le_succ c⟩
instance [DecidableEq α] [TyQ T] : TyQ (fun xs => sO (oTup T xs)) where
  q := fun xs ys => by
    show PyData.eqv (.tuple _) (.tuple _) = _
    rw [PyData.eqv]
    exact eqv_alls xs ys
end
end Sx
namespace Sx
variable [Tbs]
open PySem PySem.Spec PyProof.Rows L2

section
variable {X : Cx} {ss : List Sl} {e a b c : Expr} {es : List Expr} {ρ τ κ : R} {s t : S} {o : O} {pos : Pos} {k : Nat}
/-! ### == -/
theorem shaped_of {α : Type} {T : α → S} [TyD T] (hd : TyD.dep T ≤ 64) {K : PySem.W.Frag} {F H : Hp} {v : V} {x : α} (e : Sm F H) (r : (T x).r F v) : Dp K H v (TyD.d T x) ∧ SeqAt.shaped (TyD.d T x) = true := by
  obtain ⟨a, b, c⟩ := TyD.ok (K := K) r
  refine ⟨dp_same e a, ?_⟩
  unfold SeqAt.shaped
  rw [b, Bool.true_and]
  exact decide_eq_true (Nat.le_trans c hd)
theorem room64 (hr : Room k X.A) : X.A.units + 64 < cLine := hr.units
theorem room65 (hr : Room k X.A) : X.A.units + 65 < cLine := Nat.lt_of_le_of_lt (Nat.add_le_add_left (by decide : 65 ≤ 200) _) (Nat.lt_of_le_of_lt (Nat.add_le_add_right (Nat.le_add_right _ (16 * k)) 200) hr.un)
theorem ev_eqD {α β : Type} {T : α → S} {U : β → S} [TyD T] [TyD U] {x : α} {y : β} (hr : Room k X.A) (ha : EvE X ss a (sv (T x))) (hb : EvE X ss b (sv (U y))) (h1 : TyD.dep T ≤ 64 := by decide) (h2 : TyD.dep U ≤ 64 := by decide) :
    EvE X ss (.Compare a [.Eq] [b] pos) (sv (sBool (PyData.eqv (TyD.d T x) (TyD.d U y)))) :=
  ev_cmp (op_eqD (room64 hr)) ha hb (fun F H v w Q sF rx ry q => by
    obtain ⟨d1, s1⟩ := shaped_of h1 sF rx
    obtain ⟨d2, s2⟩ := shaped_of h2 sF ry
    exact ⟨_, _, d1, d2, s1, s2, q _ F H (.refl sF) rfl⟩) (nomark _)
theorem et_eqD {α β : Type} {T : α → S} {U : β → S} [TyD T] [TyD U] {x : α} {y : β} (hr : Room k X.A) (ha : EvE X ss a (sv (T x))) (hb : EvE X ss b (sv (U y))) (h1 : TyD.dep T ≤ 64 := by decide) (h2 : TyD.dep U ≤ 64 := by decide) :
    EvT X ss (.Compare a [.Eq] [b] pos) (PyData.eqv (TyD.d T x) (TyD.d U y)) :=
  ev_cmpT (op_eqD (room64 hr)) ha hb (fun F H v w Q sF rx ry q => by
    obtain ⟨d1, s1⟩ := shaped_of h1 sF rx
    obtain ⟨d2, s2⟩ := shaped_of h2 sF ry
    exact ⟨_, _, d1, d2, s1, s2, q⟩) (nomark _)
theorem ev_neD {α β : Type} {T : α → S} {U : β → S} [TyD T] [TyD U] {x : α} {y : β} (hr : Room k X.A) (ha : EvE X ss a (sv (T x))) (hb : EvE X ss b (sv (U y))) (h1 : TyD.dep T ≤ 64 := by decide) (h2 : TyD.dep U ≤ 64 := by decide) :
    EvE X ss (.Compare a [.NotEq] [b] pos) (sv (sBool (!PyData.eqv (TyD.d T x) (TyD.d U y)))) :=
  ev_cmp (op_neD (room64 hr)) ha hb (fun F H v w Q sF rx ry q => by
    obtain ⟨d1, s1⟩ := shaped_of h1 sF rx
    obtain ⟨d2, s2⟩ := shaped_of h2 sF ry
    exact ⟨_, _, d1, d2, s1, s2, q _ F H (.refl sF) rfl⟩) (nomark _)
theorem et_neD {α β : Type} {T : α → S} {U : β → S} [TyD T] [TyD U] {x : α} {y : β} (hr : Room k X.A) (ha : EvE X ss a (sv (T x))) (hb : EvE X ss b (sv (U y))) (h1 : TyD.dep T ≤ 64 := by decide) (h2 : TyD.dep U ≤ 64 := by decide) :
    EvT X ss (.Compare a [.NotEq] [b] pos) (!PyData.eqv (TyD.d T x) (TyD.d U y)) :=
  ev_cmpT (op_neD (room64 hr)) ha hb (fun F H v w Q sF rx ry q => by
    obtain ⟨d1, s1⟩ := shaped_of h1 sF rx
    obtain ⟨d2, s2⟩ := shaped_of h2 sF ry
    exact ⟨_, _, d1, d2, s1, s2, q⟩) (nomark _)
variable {α : Type} [DecidableEq α] {T : α → S} [TyQ T] {x y : α} {xs : List α}
theorem ev_eq (T : α → S) [TyQ T] (hr : Room k X.A) (ha : EvE X ss a (sv (T x))) (hb : EvE X ss b (sv (T y))) (h1 : TyD.dep T ≤ 64 := by decide) : EvE X ss (.Compare a [.Eq] [b] pos) (sv (sBool (decide (x = y)))) := by
  rw [← TyQ.q (T := T)]
  exact ev_eqD hr ha hb h1 h1
theorem et_eq (T : α → S) [TyQ T] (hr : Room k X.A) (ha : EvE X ss a (sv (T x))) (hb : EvE X ss b (sv (T y))) (h1 : TyD.dep T ≤ 64 := by decide) : EvT X ss (.Compare a [.Eq] [b] pos) (decide (x = y)) := by
  rw [← TyQ.q (T := T)]
  exact et_eqD hr ha hb h1 h1
theorem ev_ne (T : α → S) [TyQ T] (hr : Room k X.A) (ha : EvE X ss a (sv (T x))) (hb : EvE X ss b (sv (T y))) (h1 : TyD.dep T ≤ 64 := by decide) : EvE X ss (.Compare a [.NotEq] [b] pos) (sv (sBool (!decide (x = y)))) := by
  rw [← TyQ.q (T := T)]
  exact ev_neD hr ha hb h1 h1
theorem et_ne (T : α → S) [TyQ T] (hr : Room k X.A) (ha : EvE X ss a (sv (T x))) (hb : EvE X ss b (sv (T y))) (h1 : TyD.dep T ≤ 64 := by decide) : EvT X ss (.Compare a [.NotEq] [b] pos) (!decide (x = y)) := by
  rw [← TyQ.q (T := T)]
  exact et_neD hr ha hb h1 h1
/-! ### in -/
theorem any_eqv (y : α) : ∀ xs : List α, ((xs.map (TyD.d T)).any fun z => PyData.eqv z (TyD.d T y)) = decide (y ∈ xs)
  | [] => by simp
  | x :: xs => by
    rw [List.map_cons, List.any_cons, TyQ.q, any_eqv y xs]
    by_cases h : x = y
    · subst h; simp
    · have h2 : ¬ y = x := fun z => h z.symm
      simp [h, h2]
omit [DecidableEq α] [TyQ T] in
theorem lst_shaped [TyD T] (h1 : TyD.dep T ≤ 63) {K : PySem.W.Frag} {F H : Hp} {v : V} (e : Sm F H) (r : (bO (oLst T xs)).r F H v) : Dp K H v (.list (xs.map (TyD.d T))) ∧ SeqAt.shaped (.list (xs.map (TyD.d T))) = true := by
  obtain ⟨p, k, e1, hk, vs, hp, hi⟩ := r
  subst e1
  obtain ⟨a, b, c⟩ := its_dp (T := T) (K := K) hi
  refine ⟨.lst (SqL.of (hk _ _ hp)) (dps_same e a), ?_⟩
  unfold SeqAt.shaped
  rw [PyData.canLay0, b, Bool.true_and, PyData.depth]
  exact decide_eq_true (Nat.succ_le_succ (Nat.le_trans c h1))
/-- what may be read as an object -/
theorem EvE.toB (h : EvE X ss e (sv (sO o))) : EvE X ss e (bO o) := h.imp fun F H v sF ⟨p, k, e, hk, r⟩ => ⟨p, k, e, Sm.trans hk sF, r⟩
/-- in a list, data of any depth -/
theorem ev_in (T : α → S) [TyQ T] (hr : Room k X.A) (ha : EvE X ss a (sv (T y))) (hb : EvE X ss b (bO (oLst T xs))) (hm : behindInMarks .In b = false := by rfl) (h1 : TyD.dep T ≤ 63 := by decide) : EvE X ss (.Compare a [.In] [b] pos) (sv (sBool (decide (y ∈ xs)))) :=
  ev_cmp (op_inD (room65 hr)) ha hb (fun F H v w Q sF rx ry q => by
    obtain ⟨d1, s1⟩ := shaped_of (Nat.le_trans h1 (by decide)) sF rx
    obtain ⟨d2, s2⟩ := lst_shaped h1 sF ry
    refine ⟨_, _, d1, d2, s1, s2, ?_⟩
    rw [any_eqv]
    exact q _ F H (.refl sF) rfl) hm
theorem et_in (T : α → S) [TyQ T] (hr : Room k X.A) (ha : EvE X ss a (sv (T y))) (hb : EvE X ss b (bO (oLst T xs))) (hm : behindInMarks .In b = false := by rfl) (h1 : TyD.dep T ≤ 63 := by decide) : EvT X ss (.Compare a [.In] [b] pos) (decide (y ∈ xs)) :=
  ev_cmpT (op_inD (room65 hr)) ha hb (fun F H v w Q sF rx ry q => by
    obtain ⟨d1, s1⟩ := shaped_of (Nat.le_trans h1 (by decide)) sF rx
    obtain ⟨d2, s2⟩ := lst_shaped h1 sF ry
    refine ⟨_, _, d1, d2, s1, s2, ?_⟩
    rw [any_eqv]
    exact q) hm
theorem ev_nin (T : α → S) [TyQ T] (hr : Room k X.A) (ha : EvE X ss a (sv (T y))) (hb : EvE X ss b (bO (oLst T xs))) (hm : behindInMarks .NotIn b = false := by rfl) (h1 : TyD.dep T ≤ 63 := by decide) : EvE X ss (.Compare a [.NotIn] [b] pos) (sv (sBool (!decide (y ∈ xs)))) :=
  ev_cmp (op_notInD (room65 hr)) ha hb (fun F H v w Q sF rx ry q => by
    obtain ⟨d1, s1⟩ := shaped_of (Nat.le_trans h1 (by decide)) sF rx
    obtain ⟨d2, s2⟩ := lst_shaped h1 sF ry
    refine ⟨_, _, d1, d2, s1, s2, ?_⟩
    rw [any_eqv]
    exact q _ F H (.refl sF) rfl) hm
theorem et_nin (T : α → S) [TyQ T] (hr : Room k X.A) (ha : EvE X ss a (sv (T y))) (hb : EvE X ss b (bO (oLst T xs))) (hm : behindInMarks .NotIn b = false := by rfl) (h1 : TyD.dep T ≤ 63 := by decide) : EvT X ss (.Compare a [.NotIn] [b] pos) (!decide (y ∈ xs)) :=
  ev_cmpT (op_notInD (room65 hr)) ha hb (fun F H v w Q sF rx ry q => by
    obtain ⟨d1, s1⟩ := shaped_of (Nat.le_trans h1 (by decide)) sF rx
    obtain ⟨d2, s2⟩ := lst_shaped h1 sF ry
    refine ⟨_, _, d1, d2, s1, s2, ?_⟩
    rw [any_eqv]
    exact q) hm
end

/-! ### tests -/
section
variable {X : Cx} {ss : List Sl} {e a b c : Expr} {es rest : List Expr} {pos : Pos} {x y z : Bool} {i : Int} {w : Str} {o : O} {α : Type} {T : α → S} {xs : List α}
theorem et_val (h : EvE X ss e (sv (sBool x))) (he : ∀ whole, isTrue e X.env whole = (do let v ← whole; standAt e.pos; holding [v] (truthy v)) := by intro _; rfl) : EvT X ss e x := .mk fun B F H σ hs Q q =>
  toT (pt_val PEw he) (h B F H σ hs _ fun v F' H' g r => ⟨x, r, q F' H' g⟩)
/-- and, or: the tail -/
def EvW (X : Cx) (ss : List Sl) (e : Expr) (x : Bool) : Prop := ∃ t : TT, PW X e t ∧ ∀ (B : Bs) (F H : Hp) (σ : L2.St), Sat B F H σ ss → ∀ Q : Bool → Hp → Prop, (∀ F' H', Grow F H F' H' → Q x H') → t σ H Q
theorem EvW.t (h : EvW X ss e x) : EvT X ss e x := .mk fun B F H σ hs Q q => by
  obtain ⟨t, hp, ht⟩ := h
  exact toT hp.pt (ht B F H σ hs Q q)
theorem ew_and1 (h : EvT X ss a x) : EvW X ss (.BoolOp .And [a] pos) x := ⟨_, pw_and1 PTw, h⟩
theorem ew_or1 (h : EvT X ss a x) : EvW X ss (.BoolOp .Or [a] pos) x := ⟨_, pw_or1 PTw, h⟩
theorem ew_and (h : EvT X ss a x) (hk : x = true → EvW X ss (.BoolOp .And (b :: rest) pos) y) : EvW X ss (.BoolOp .And (a :: b :: rest) pos) (x && y) := by
  cases x with
  | true =>
    obtain ⟨t, hp, ht⟩ := hk rfl
    exact ⟨_, pw_and PTw hp, fun B F H σ hs Q q => h B F H σ hs _ fun F1 H1 g1 => iteT (ht B F1 H1 σ (hs.grow g1) Q fun F2 H2 g2 => q F2 H2 (g1.trans g2))⟩
  | false =>
    have pw : ∀ (l : List Expr) (q : Expr), PW X (.BoolOp .And (q :: l) pos) (fun σ H Q => ∀ whole pins s, Inv X pins σ H s → wpAny (model X.prog X.w) X.A (isTrue (.BoolOp .And (q :: l) pos) X.env whole) (TP X pins σ Q) X.xe s) := fun l q => ⟨fun whole pins s _ _ _ I h => h whole pins s I⟩
    exact ⟨_, pw_and PTw (pw _ _), fun B F H σ hs Q q => h B F H σ hs _ fun F1 H1 g1 => iteF (q F1 H1 g1)⟩
theorem ew_or (h : EvT X ss a x) (hk : x = false → EvW X ss (.BoolOp .Or (b :: rest) pos) y) : EvW X ss (.BoolOp .Or (a :: b :: rest) pos) (x || y) := by
  cases x with
  | false =>
    obtain ⟨t, hp, ht⟩ := hk rfl
    exact ⟨_, pw_or PTw hp, fun B F H σ hs Q q => h B F H σ hs _ fun F1 H1 g1 => iteF (ht B F1 H1 σ (hs.grow g1) Q fun F2 H2 g2 => q F2 H2 (g1.trans g2))⟩
  | true =>
    have pw : ∀ (l : List Expr) (q : Expr), PW X (.BoolOp .Or (q :: l) pos) (fun σ H Q => ∀ whole pins s, Inv X pins σ H s → wpAny (model X.prog X.w) X.A (isTrue (.BoolOp .Or (q :: l) pos) X.env whole) (TP X pins σ Q) X.xe s) := fun l q => ⟨fun whole pins s _ _ _ I h => h whole pins s I⟩
    exact ⟨_, pw_or PTw (pw _ _), fun B F H σ hs Q q => h B F H σ hs _ fun F1 H1 g1 => iteT (q F1 H1 g1)⟩
theorem et_not (h : EvT X ss a x) : EvT X ss (.UnaryOp .Not a pos) (!x) := .mk fun B F H σ hs Q q => toT (pt_not PTw) (h B F H σ hs _ fun F1 H1 g1 => q F1 H1 g1)
/-- .. as values -/
theorem ev_and1 (h : EvE X ss a (sv (sBool x))) {op} : EvE X ss (.BoolOp op [a] pos) (sv (sBool x)) := .mk fun B F H σ hs Q q => toE (pe_one PEw) (h B F H σ hs Q q)
theorem ev_and (h : EvE X ss a (sv (sBool x))) (hk : x = true → EvE X ss (.BoolOp .And (b :: rest) pos) (sv (sBool y))) : EvE X ss (.BoolOp .And (a :: b :: rest) pos) (sv (sBool (x && y))) := .mk fun B F H σ hs Q q =>
  toE (pe_and PEw PEw) (h B F H σ hs _ fun v F1 H1 g1 r => ⟨x, r, by
    cases x with
    | true => exact iteT (hk rfl B F1 H1 σ (hs.grow g1) Q fun v F2 H2 g2 r2 => q v F2 H2 (g1.trans g2) r2)
    | false => exact iteF (q _ F1 H1 g1 rfl)⟩)
theorem ev_or (h : EvE X ss a (sv (sBool x))) (hk : x = false → EvE X ss (.BoolOp .Or (b :: rest) pos) (sv (sBool y))) : EvE X ss (.BoolOp .Or (a :: b :: rest) pos) (sv (sBool (x || y))) := .mk fun B F H σ hs Q q =>
  toE (pe_or PEw PEw) (h B F H σ hs _ fun v F1 H1 g1 r => ⟨x, r, by
    cases x with
    | false => exact iteF (hk rfl B F1 H1 σ (hs.grow g1) Q fun v F2 H2 g2 r2 => q v F2 H2 (g1.trans g2) r2)
    | true => exact iteT (q _ F1 H1 g1 rfl)⟩)
theorem ev_not (h : EvE X ss a (sv (sBool x))) : EvE X ss (.UnaryOp .Not a pos) (sv (sBool (!x))) := .mk fun B F H σ hs Q q =>
  toE (pe_not PEw) (h B F H σ hs _ fun v F1 H1 g1 r => ⟨x, r, q _ F1 H1 g1 rfl⟩)
theorem ev_ifExp {ρ : R} (h : EvT X ss c x) (h1 : x = true → EvE X ss a ρ) (h2 : x = false → EvE X ss b ρ) : EvE X ss (.IfExp c a b pos) ρ := .mk fun B F H σ hs Q q =>
  toE (pe_ifExp PTw PEw PEw) (h B F H σ hs _ fun F1 H1 g1 => by
    cases x with
    | true => exact iteT (h1 rfl B F1 H1 σ (hs.grow g1) Q fun v F2 H2 g2 r2 => q v F2 H2 (g1.trans g2) r2)
    | false => exact iteF (h2 rfl B F1 H1 σ (hs.grow g1) Q fun v F2 H2 g2 r2 => q v F2 H2 (g1.trans g2) r2))
/-- a < b < c, a <= b <= c .. of ints -/
theorem ev_chain {op op' : CmpOp} {g g' : Int → Int → Bool} {i j k : Int} (ho : OpR X (compareOp op) (rI0 fun i j => .bl (g i j))) (ho' : OpR X (compareOp op') (rI0 fun i j => .bl (g' i j))) (ha : EvE X ss a (sv (sInt i))) (hb : EvE X ss b (sv (sInt j))) (hc : EvE X ss c (sv (sInt k)))
    (hm : lastMarks [op, op'] [b, c] = false := by with_unfolding_all rfl) : EvE X ss (.Compare a [op, op'] [b, c] pos) (sv (sBool (g i j && g' j k))) := .mk fun B F H σ hs Q q =>
  toE (pe_chain ho ho' PEw PEw PEw hm) (ha B F H σ hs _ fun v F1 H1 g1 r1 => hb B F1 H1 σ (hs.grow g1) _ fun u F2 H2 g2 r2 => ⟨i, j, r1, r2, g i j, rfl, by
    cases q1 : g i j with
    | true => exact iteT (hc B F2 H2 σ ((hs.grow g1).grow g2) _ fun u F3 H3 g3 r3 => ⟨j, k, r2, r3, q _ F3 H3 ((g1.trans g2).trans g3) (by rw [q1]; rfl)⟩)
    | false => exact iteF (q _ F2 H2 (g1.trans g2) (by rw [q1]; rfl))⟩)
/-- the truth of a list, of a tuple -/
theorem et_seq (h : EvE X ss e (bSq X.K T xs)) (he : ∀ whole, isTrue e X.env whole = (do let v ← whole; standAt e.pos; holding [v] (truthy v)) := by intro _; rfl) : EvT X ss e (!xs.isEmpty) := .mk fun B F H σ hs Q q =>
  toT (pt_truth PEw he) (h B F H σ hs _ fun v F' H' g ⟨p, vs, ev, hq, hi⟩ => ⟨!xs.isEmpty, by
    subst ev
    have ee : (!xs.isEmpty) = !vs.isEmpty := by
      have := hi.len
      cases xs with
      | nil =>
        cases vs with
        | nil => rfl
        | cons _ _ => cases this
      | cons _ _ =>
        cases vs with
        | nil => cases this
        | cons _ _ => rfl
    rcases hq with hq | hq
    · exact .inl ⟨vs, hq, ee⟩
    · exact .inr (.inl ⟨vs, hq, ee⟩), q F' H' g⟩)
end
end Sx
namespace Sx
variable [Tbs]
open PySem PySem.Spec PyProof.Rows L2

/-! ### what may be read as a list, as a tuple, as either -/
class AsLs {α : outParam Type} (K : PySem.W.Frag) (ρ : R) (T : outParam (α → S)) (xs : outParam (List α)) : Prop where
  w : ∀ F H v, Same F H → ρ.r F H v → ∃ p vs, v = .ref p ∧ SqL K H p vs ∧ Its T F xs vs
class AsTp {α : outParam Type} (K : PySem.W.Frag) (ρ : R) (T : outParam (α → S)) (xs : outParam (List α)) : Prop where
  w : ∀ F H v, Same F H → ρ.r F H v → ∃ p vs, v = .ref p ∧ SqT K H p vs ∧ Its T F xs vs
class AsSq {α : outParam Type} (K : PySem.W.Frag) (ρ : R) (T : outParam (α → S)) (xs : outParam (List α)) : Prop where
  w : ∀ F H v, Same F H → ρ.r F H v → (bSq K T xs).r F H v
/-- a list as it lies (the script) -/
def sLq {α : Type} (K : PySem.W.Frag) (T : α → S) (xs : List α) : S :=
  ⟨fun F v => ∃ p vs, v = .ref p ∧ SqL K F p vs ∧ Its T F xs vs, fun a ⟨p, vs, e, h, q⟩ => ⟨p, vs, e, SqL.same a h, q.mono a⟩⟩
section
variable {α : Type} {K : PySem.W.Frag} {T : α → S} {xs : List α} {ρ : R}
instance : AsLs K (sv (sO (oLst T xs))) T xs := ⟨fun F H v e ⟨p, k, e1, hk, vs, hp, hi⟩ => ⟨p, vs, e1, SqL.of (e _ _ (hk _ _ hp)), hi⟩⟩
instance : AsLs K (bO (oLst T xs)) T xs := ⟨fun F H v e ⟨p, k, e1, hk, vs, hp, hi⟩ => ⟨p, vs, e1, SqL.of (hk _ _ hp), hi⟩⟩
instance : AsLs K (sv (sLq K T xs)) T xs := ⟨fun F H v e ⟨p, vs, e1, hp, hi⟩ => ⟨p, vs, e1, SqL.same e hp, hi⟩⟩
instance : AsTp K (sv (sO (oTup T xs))) T xs := ⟨fun F H v e ⟨p, k, e1, hk, vs, hp, hi⟩ => ⟨p, vs, e1, SqT.of (e _ _ (hk _ _ hp)), hi⟩⟩
instance : AsTp K (bO (oTup T xs)) T xs := ⟨fun F H v e ⟨p, k, e1, hk, vs, hp, hi⟩ => ⟨p, vs, e1, SqT.of (hk _ _ hp), hi⟩⟩
instance : AsSq K (sv (sO (oSq T xs))) T xs := ⟨fun F H v e ⟨p, k, e1, hk, vs, hp, hi⟩ => ⟨p, vs, e1, hp.imp (fun q => SqL.of (e _ _ (hk _ _ q))) (fun q => SqT.of (e _ _ (hk _ _ q))), hi⟩⟩
instance [h : AsLs K ρ T xs] : AsSq K ρ T xs := ⟨fun F H v e r => by
  obtain ⟨p, vs, e1, hq, hi⟩ := h.w F H v e r
  exact ⟨p, vs, e1, .inl hq, hi⟩⟩
instance [h : AsTp K ρ T xs] : AsSq K ρ T xs := ⟨fun F H v e r => by
  obtain ⟨p, vs, e1, hq, hi⟩ := h.w F H v e r
  exact ⟨p, vs, e1, .inr hq, hi⟩⟩
end

section
variable {X : Cx} {ss : List Sl} {e a b c : Expr} {es : List Expr} {ρ τ κ : R} {s t : S} {o : O} {pos p p2 : Pos} {k : Nat} {α β : Type} {T : α → S} {U : β → S} {xs ys : List α} {x y : α} {i j : Int}
theorem EvE.sq [h : AsSq X.K ρ T xs] (he : EvE X ss e ρ) : EvE X ss e (bSq X.K T xs) := he.imp fun F H v sF r => h.w F H v sF r
theorem EvE.lsq (he : EvE X ss e (sv (sO (oLst T xs)))) : EvE X ss e (sv (sO (oSq T xs))) := he.impS fun F v ⟨p, k, e1, hk, vs, hp, hi⟩ => ⟨p, k, e1, hk, vs, .inl hp, hi⟩
theorem EvE.tsq (he : EvE X ss e (sv (sO (oTup T xs)))) : EvE X ss e (sv (sO (oSq T xs))) := he.impS fun F v ⟨p, k, e1, hk, vs, hp, hi⟩ => ⟨p, k, e1, hk, vs, .inr hp, hi⟩
theorem EvE.lq {K : PySem.W.Frag} (he : EvE X ss e (sv (sLq K T xs))) (hK : X.K = K := by rfl) : EvE X ss e (sv (sLq X.K T xs)) := by
  subst hK
  exact he
/-! ### arguments -/
theorem ea_nil : EvA X ss [] [] := .mk fun B F H σ h Q q => toA pa_nil (q [] F H (.refl h.s) .nil)
theorem ea_cons {as : List R} (ha : EvE X ss e ρ) (hr : EvA X ss es as) (hs : starEach (e :: es) X.env = (false, eval e X.env) :: starEach es X.env := by exact star_ok rfl) : EvA X ss (e :: es) (ρ :: as) := .mk fun B F H σ h Q q =>
  toA (pa_cons PEw PAw hs) (ha B F H σ h _ fun v F1 H1 g1 r1 => hr B F1 H1 σ (h.grow g1) _ fun vs F2 H2 g2 rs => q (v :: vs) F2 H2 (g1.trans g2) (.cons (ρ.mono g2.f g2.h r1) rs))
/-- one built-in function -/
theorem ev_cb {id : String} {x : Str} {r : List V → Hp → VK → Prop} {as : List R} (hc : CallR X (.builtin id) r) (hm : X.mg x = none) (hb : bootBuiltins x = some (.builtin id)) (ha : EvA X ss (e :: es) as)
    (hr : ∀ F H vs (Q : VK), Sm F H → Paired (fun (a : R) v => a.r F H v) as vs → (∀ v F' H', Grow F H F' H' → κ.r F' H' v → Q v H') → r vs H Q) (hg : Gl X x := by rfl)
    (hn : x ≠ "__name__" := by decide) (hdb : (x == ("__debug__" : Str)) = false := by decide) (he : starEach (e :: es) X.env = (false, eval e X.env) :: starEach es X.env := by exact star_ok rfl) (hpl : (backTo pos (starEach es X.env)).any (·.1) = false := by rfl) : EvE X ss (.Call (.Name x p) (e :: es) [] pos) κ := .mk fun B F H σ h Q q =>
  toE (pe_callB hc hg hm hb PAw hn hdb he hpl) (ha B F H σ h _ fun vs F1 H1 g1 rs => hr F1 H1 vs Q g1.s rs fun v F2 H2 g2 r2 => q v F2 H2 (g1.trans g2) r2)
theorem ev_ct {id : String} {x : Str} {r : List V → Hp → VK → Prop} {as : List R} (hc : CallR X (.type id) r) (hm : X.mg x = none) (hb : bootBuiltins x = some (.type id)) (ha : EvA X ss (e :: es) as)
    (hr : ∀ F H vs (Q : VK), Sm F H → Paired (fun (a : R) v => a.r F H v) as vs → (∀ v F' H', Grow F H F' H' → κ.r F' H' v → Q v H') → r vs H Q) (hg : Gl X x := by rfl)
    (hn : x ≠ "__name__" := by decide) (hdb : (x == ("__debug__" : Str)) = false := by decide) (he : starEach (e :: es) X.env = (false, eval e X.env) :: starEach es X.env := by exact star_ok rfl) (hpl : (backTo pos (starEach es X.env)).any (·.1) = false := by rfl) : EvE X ss (.Call (.Name x p) (e :: es) [] pos) κ := .mk fun B F H σ h Q q =>
  toE (pe_callTy hc hg hm hb PAw hn hdb he hpl) (ha B F H σ h _ fun vs F1 H1 g1 rs => hr F1 H1 vs Q g1.s rs fun v F2 H2 g2 r2 => q v F2 H2 (g1.trans g2) r2)
theorem ev_ctN {id : String} {x : Str} {r : List V → Hp → VK → Prop} {as : List R} (hc : CallR X (.type id) r) (hm : X.mg x = none) (hb : bootBuiltins x = some (.type id)) (ha : EvA X ss (e :: es) as)
    (hr : ∀ F H vs (Q : VK), Sm F H → Paired (fun (a : R) v => a.r F H v) as vs → (∀ p ob, H p = none → o.r F (hp1 p ob) p → Q (.ref p) (upd H p ob)) → r vs H Q) (hg : Gl X x := by rfl)
    (hn : x ≠ "__name__" := by decide) (hdb : (x == ("__debug__" : Str)) = false := by decide) (he : starEach (e :: es) X.env = (false, eval e X.env) :: starEach es X.env := by exact star_ok rfl) (hpl : (backTo pos (starEach es X.env)).any (·.1) = false := by rfl) : EvN X ss (.Call (.Name x p) (e :: es) [] pos) o := .mk fun B F H σ h Q q =>
  toE (pe_callTy hc hg hm hb PAw hn hdb he hpl) (ha B F H σ h _ fun vs F1 H1 g1 rs => hr F1 H1 vs Q g1.s rs fun p ob n k => fresh1 q g1 n k)
theorem ev_len [hq : AsSq X.K ρ T xs] (hm : X.mg "len" = none) (ha : EvE X ss a ρ) (hg : Gl X "len" := by rfl) (he : starEach [a] X.env = (false, eval a X.env) :: starEach [] X.env := by exact star_ok rfl) (hpl : (backTo pos (starEach [] X.env)).any (·.1) = false := by rfl) :
    EvE X ss (.Call (.Name "len" p) [a] [] pos) (sv (sInt (xs.length : Int))) :=
  ev_cb call_len_seq hm PySem.boot_len (ea_cons ha ea_nil he) (fun F H vs Q sF rs q => by
    cases rs with
    | cons r rr =>
      cases rr
      obtain ⟨p, ws, e1, hw, hi⟩ := hq.w F H _ sF r
      subst e1
      refine ⟨p, ws, rfl, hw, ?_⟩
      rw [hi.len]
      exact q _ F H (.refl sF) rfl) hg (he := he) (hpl := hpl)
theorem ev_lenS {z : Str} (hm : X.mg "len" = none) (ha : EvE X ss a (sv (sStr z))) (hz : z.length ≤ sizeLine) (hg : Gl X "len" := by rfl) (he : starEach [a] X.env = (false, eval a X.env) :: starEach [] X.env := by exact star_ok rfl) (hpl : (backTo pos (starEach [] X.env)).any (·.1) = false := by rfl) :
    EvE X ss (.Call (.Name "len" p) [a] [] pos) (sv (sInt (z.length : Int))) :=
  ev_cb call_len_str hm PySem.boot_len (ea_cons ha ea_nil he) (fun F H vs Q sF rs q => by
    cases rs with
    | cons r rr =>
      cases rr
      exact ⟨z, by rw [r.1], hz, q _ F H (.refl sF) rfl⟩) hg (he := he) (hpl := hpl)
theorem ev_intI (hm : X.mg "int" = none) (ha : EvE X ss a (sv (sInt i))) (hg : Gl X "int" := by rfl) (he : starEach [a] X.env = (false, eval a X.env) :: starEach [] X.env := by exact star_ok rfl) (hpl : (backTo pos (starEach [] X.env)).any (·.1) = false := by rfl) :
    EvE X ss (.Call (.Name "int" p) [a] [] pos) (sv (sInt i)) :=
  ev_ct call_int1 hm (by decide +kernel) (ea_cons ha ea_nil he) (fun F H vs Q sF rs q => by
    cases rs with
    | cons r rr =>
      cases rr
      have e1 : _ = V.int i := r
      subst e1
      exact .inl ⟨i, rfl, q _ F H (.refl sF) rfl⟩) hg (he := he) (hpl := hpl)
theorem ev_intB {x : Bool} (hm : X.mg "int" = none) (ha : EvE X ss a (sv (sBool x))) (hg : Gl X "int" := by rfl) (he : starEach [a] X.env = (false, eval a X.env) :: starEach [] X.env := by exact star_ok rfl) (hpl : (backTo pos (starEach [] X.env)).any (·.1) = false := by rfl) :
    EvE X ss (.Call (.Name "int" p) [a] [] pos) (sv (sInt (if x then 1 else 0))) :=
  ev_ct call_int1 hm (by decide +kernel) (ea_cons ha ea_nil he) (fun F H vs Q sF rs q => by
    cases rs with
    | cons r rr =>
      cases rr
      have e1 : _ = V.bl x := r
      subst e1
      exact .inr ⟨x, rfl, q _ F H (.refl sF) rfl⟩) hg (he := he) (hpl := hpl)
theorem ev_list [hq : AsSq X.K ρ T xs] (hm : X.mg "list" = none) (ha : EvE X ss a ρ) (hg : Gl X "list" := by rfl) (he : starEach [a] X.env = (false, eval a X.env) :: starEach [] X.env := by exact star_ok rfl) (hpl : (backTo pos (starEach [] X.env)).any (·.1) = false := by rfl) :
    EvN X ss (.Call (.Name "list" p) [a] [] pos) (oLst T xs) :=
  ev_ctN call_list_of hm (by decide +kernel) (ea_cons ha ea_nil he) (fun F H vs Q sF rs q => by
    cases rs with
    | cons r rr =>
      cases rr
      obtain ⟨p, ws, e1, hw, hi⟩ := hq.w F H _ sF r
      subst e1
      exact ⟨p, ws, rfl, hw, fun l hl => q l _ hl ⟨ws, hp1_same, hi⟩⟩) hg (he := he) (hpl := hpl)
/-- tuple(list): a new one -/
theorem ev_tupN [hq : AsLs X.K ρ T xs] (hm : X.mg "tuple" = none) (ha : EvE X ss a ρ) (hg : Gl X "tuple" := by rfl) (he : starEach [a] X.env = (false, eval a X.env) :: starEach [] X.env := by exact star_ok rfl) (hpl : (backTo pos (starEach [] X.env)).any (·.1) = false := by rfl) :
    EvN X ss (.Call (.Name "tuple" p) [a] [] pos) (oTup T xs) :=
  ev_ctN call_tuple_of hm (by decide +kernel) (ea_cons ha ea_nil he) (fun F H vs Q sF rs q => by
    cases rs with
    | cons r rr =>
      cases rr
      obtain ⟨p, ws, e1, hw, hi⟩ := hq.w F H _ sF r
      subst e1
      exact ⟨p, ws, rfl, .inl ⟨hw, fun l hl => q l _ hl ⟨ws, hp1_same, hi⟩⟩⟩) hg (he := he) (hpl := hpl)
/-- tuple(tuple): itself -/
theorem ev_tupT (hm : X.mg "tuple" = none) (ha : EvE X ss a (sv (sO (oTup T xs)))) (hg : Gl X "tuple" := by rfl) (he : starEach [a] X.env = (false, eval a X.env) :: starEach [] X.env := by exact star_ok rfl) (hpl : (backTo pos (starEach [] X.env)).any (·.1) = false := by rfl) :
    EvE X ss (.Call (.Name "tuple" p) [a] [] pos) (sv (sO (oTup T xs))) :=
  ev_ct call_tupleT hm (by decide +kernel) (ea_cons ha ea_nil he) (fun F H vs Q sF rs q => by
    cases rs with
    | cons r rr =>
      cases rr
      obtain ⟨p, k, e1, hk, ws, hp, hi⟩ := r
      subst e1
      exact ⟨p, ws, rfl, SqT.of (sF _ _ (hk _ _ hp)), q _ F H (.refl sF) ⟨p, k, rfl, hk, ws, hp, hi⟩⟩) hg (he := he) (hpl := hpl)
/-! ### items, slices -/
theorem ev_ix [hq : AsSq X.K ρ T xs] (ha : EvE X ss a ρ) (hb : EvE X ss b (sv (sInt i))) (hx : atI xs i = some x) (hp : PlainIx b := by exact fun _ _ => rfl) : EvE X ss (.Subscript a b pos) (sv (T x)) := .mk fun B F H σ h Q q =>
  toE (pe_ix (IxR.or ix_list ix_tup) PEw PEw hp) (ha B F H σ h _ fun v F1 H1 g1 r1 => hb B F1 H1 σ (h.grow g1) _ fun w F2 H2 g2 r2 => by
    obtain ⟨p, vs, e1, hw, hi⟩ := hq.w F2 H2 v g2.s (ρ.mono g2.f g2.h r1)
    have e2 : w = .int i := r2
    subst e1 e2
    obtain ⟨u, hu, ru⟩ := hi.atI hx
    have k := q u F2 H2 (g1.trans g2) ru
    rcases hw with hw | hw
    · exact .inl ⟨p, vs, i, u, rfl, rfl, hw, hu, k⟩
    · exact .inr ⟨p, vs, i, u, rfl, rfl, hw, hu, k⟩)
theorem ev_ixS {z : Str} {n : Nat} (ha : EvE X ss a (sv (sStr z))) (hb : EvE X ss b (sv (sInt i))) (hz : z.length ≤ sizeLine) (hx : atI z.cps.toList i = some n) (hp : PlainIx b := by exact fun _ _ => rfl) : EvE X ss (.Subscript a b pos) (sv (sStr ⟨#[n]⟩)) := .mk fun B F H σ h Q q =>
  toE (pe_ix ix_str PEw PEw hp) (ha B F H σ h _ fun v F1 H1 g1 r1 => hb B F1 H1 σ (h.grow g1) _ fun w F2 H2 g2 r2 => by
    refine ⟨z, i, n, r1.1, r2, hz, hx, q _ F2 H2 (g1.trans g2) ⟨rfl, ?_⟩⟩
    have ok := r1.2
    unfold PyData.strOk at ok ⊢
    obtain ⟨j, hj, hjn, _⟩ := atI_get hx
    have hm : n ∈ z.cps := by
      have := List.mem_of_getElem? hjn
      simpa using this
    have hall := Array.all_eq_true'.mp ok n hm
    simpa using hall)
theorem sm_new1 {F H : Hp} {p : Addr} {ob : HO} (s : Sm F H) (np : H p = none) : Sm (upd F p ob) (upd H p ob) := ⟨fun x y ex => by
  by_cases hx : x = p
  · subst hx; rw [upd_same] at ex ⊢; exact ex
  · rw [upd_ne hx] at ex ⊢; exact s _ _ ex, s.t.ext (same_new np), fun x y ex => by
  by_cases hx : x = p
  · subst hx; exact s.t.ne np
  · rw [upd_ne hx] at ex; exact s.n _ _ ex⟩
theorem grow_new1 {F H : Hp} {p : Addr} {ob : HO} (s : Sm F H) (np : H p = none) : Grow F H (upd F p ob) (upd H p ob) := ⟨same_new (s.free np), gr_new s.t np, sm_new1 s np, fun x y ex nx => by
  by_cases hx : x = p
  · subst hx; exact .inl np
  · rw [upd_ne hx, nx] at ex; cases ex⟩
theorem hp1_in {F : Hp} {p : Addr} {ob : HO} : Same (hp1 p ob) (upd F p ob) := fun a o e => by
  obtain ⟨rfl, rfl⟩ := hp1_some e
  exact upd_same
/-- a slice's bound -/
def EvO (X : Cx) (ss : List Sl) (e : Option Expr) (i : Option Int) : Prop := ∃ t : TO, PO X e t ∧ ∀ (B : Bs) (F H : Hp) (σ : L2.St), Sat B F H σ ss → ∀ Q : Option Int → Hp → Prop, (∀ F' H', Grow F H F' H' → Q i H') → t σ H Q
theorem eo_none : EvO X ss none none := ⟨_, po_none, fun B F H σ h Q q => q F H (.refl h.s)⟩
theorem eo_some (ha : EvE X ss a (sv (sInt i))) : EvO X ss (some a) (some i) := ⟨_, po_some PEw, fun B F H σ h Q q => ha B F H σ h _ fun v F1 H1 g1 r => ⟨i, r, q F1 H1 g1⟩⟩
theorem ev_slL {lo hi : Option Expr} {l u : Option Int} [hq : AsLs X.K ρ T xs] (ha : EvE X ss a ρ) (hl : EvO X ss lo l) (hu : EvO X ss hi u) : EvN X ss (.Subscript a (.Slice lo hi none p2) pos) (oLst T (cutL xs l u)) := .mk fun B F H σ h Q q => by
  obtain ⟨tl, pl, kl⟩ := hl
  obtain ⟨tu, pu, ku⟩ := hu
  exact toE (pe_slice sl_list PEw pl pu) (ha B F H σ h _ fun v F1 H1 g1 r1 => kl B F1 H1 σ (h.grow g1) _ fun F2 H2 g2 => ku B F2 H2 σ ((h.grow g1).grow g2) _ fun F3 H3 g3 => by
    obtain ⟨p, vs, e1, hw, hi⟩ := hq.w F3 H3 v g3.s (ρ.mono (g2.f.trans g3.f) (g2.h.trans g3.h) r1)
    have g := (g1.trans g2).trans g3
    exact ⟨p, vs, e1, hw, fun p np => fresh1 q g np ⟨_, hp1_same, hi.cut⟩⟩)
theorem ev_slT {lo hi : Option Expr} {l u : Option Int} (ha : EvE X ss a (sv (sO (oTup T xs)))) (hl : EvO X ss lo l) (hu : EvO X ss hi u) : EvE X ss (.Subscript a (.Slice lo hi none p2) pos) (sv (sO (oTup T (cutL xs l u)))) := .mk fun B F H σ h Q q => by
  obtain ⟨tl, pl, kl⟩ := hl
  obtain ⟨tu, pu, ku⟩ := hu
  exact toE (pe_slice sl_tupA PEw pl pu) (ha B F H σ h _ fun v F1 H1 g1 r1 => kl B F1 H1 σ (h.grow g1) _ fun F2 H2 g2 => ku B F2 H2 σ ((h.grow g1).grow g2) _ fun F3 H3 g3 => by
    obtain ⟨p, k, e1, hk, vs, hp, hi⟩ := (sO (oTup T xs)).mono (g2.f.trans g3.f) r1
    subst e1
    have g := (g1.trans g2).trans g3
    refine ⟨p, vs, rfl, SqT.of (g3.s _ _ (hk _ _ hp)), fun hw => ?_, fun hw p np => ?_⟩
    · refine q _ F3 H3 g ⟨p, k, rfl, hk, vs, hp, ?_⟩
      have hc : cutL xs l u = xs := by
        unfold cutL
        rw [← hi.len, hw.1, hw.2]
        simp only [List.drop_zero, Nat.sub_zero]
        rw [hi.len]
        exact List.take_length
      rw [hc]
      exact hi
    · have gn := grow_new1 (ob := .tup (cutV vs l u)) g.s np
      exact q _ _ _ (g.trans gn) ⟨p, hp1 p _, rfl, hp1_in, _, hp1_same, (hi.cut).mono gn.f⟩)
/-- xs[::-1] -/
theorem ev_rev {n : Nat} {p1 p3 : Pos} [hq : AsLs X.K ρ T xs] (ha : EvE X ss a ρ) : EvN X ss (.Subscript a (.Slice none none (some (.UnaryOp .USub (.Constant (.int 1) n p1) p2)) p3) pos) (oLst T xs.reverse) := .mk fun B F H σ h Q q =>
  toE (pe_revL PEw) (ha B F H σ h _ fun v F1 H1 g1 r1 => by
    obtain ⟨p, vs, e1, hw, hi⟩ := hq.w F1 H1 v g1.s r1
    exact ⟨p, vs, e1, hw, fun p np => fresh1 q g1 np ⟨_, hp1_same, hi.rev⟩⟩)
/-! ### displays, + -/
/-- items of one kind -/
structure EvM (X : Cx) (ss : List Sl) (es : List Expr) {α : Type} (T : α → S) (xs : List α) : Prop where
  go : EvA X ss es (xs.map fun x => sv (T x))
theorem em_nil : EvM X ss [] T [] := ⟨ea_nil⟩
theorem em_cons (ha : EvE X ss e (sv (T x))) (hr : EvM X ss es T xs) (hs : starEach (e :: es) X.env = (false, eval e X.env) :: starEach es X.env := by exact star_ok rfl) : EvM X ss (e :: es) T (x :: xs) := ⟨ea_cons ha hr.go hs⟩
theorem its_of {F H : Hp} : ∀ {xs : List α} {vs : List V}, Paired (fun (a : R) v => a.r F H v) (xs.map fun x => sv (T x)) vs → Its T F xs vs
  | [], _, h => by
    cases h
    exact .nil
  | x :: xs, _, h => by
    cases h with
    | cons r t => exact .cons r (its_of t)
theorem ev_lst (ha : EvM X ss es T xs) (hl : xs.length ≤ sizeLine) : EvN X ss (.List es pos) (oLst T xs) := .mk fun B F H σ h Q q =>
  toE (pe_lst PAw) (ha.go B F H σ h _ fun vs F1 H1 g1 rs => ⟨by rw [(its_of rs).len]; exact hl, fun p np => fresh1 q g1 np ⟨vs, hp1_same, its_of rs⟩⟩)
theorem ev_tup {n : Nat} (ha : EvM X ss es T xs) (hl : xs.length ≤ sizeLine) : EvN X ss (.Tuple es n pos) (oTup T xs) := .mk fun B F H σ h Q q =>
  toE (pe_tup PAw) (ha.go B F H σ h _ fun vs F1 H1 g1 rs => ⟨by rw [(its_of rs).len]; exact hl, fun p np => fresh1 q g1 np ⟨vs, hp1_same, its_of rs⟩⟩)
theorem ev_catL (ha : EvE X ss a (bO (oLst T xs))) (hb : EvE X ss b (bO (oLst T ys))) (hl : xs.length + ys.length ≤ sizeLine) : EvN X ss (.BinOp a .Add b pos) (oLst T (xs ++ ys)) :=
  ev_binN op_cat ha hb fun F H v w Q sF ⟨p1, k1, e1, h1, vs, e3, i1⟩ ⟨p2, k2, e2, h2, ws, e4, i2⟩ q => by
    subst e1 e2
    exact ⟨p1, p2, vs, ws, rfl, rfl, h1 _ _ e3, h2 _ _ e4, by rw [i1.len, i2.len]; exact hl, fun p np => q p _ np ⟨_, hp1_same, i1.app i2⟩⟩
theorem ev_catT (ha : EvE X ss a (sv (sO (oTup T xs)))) (hb : EvE X ss b (sv (sO (oTup T ys)))) (hl : xs.length + ys.length ≤ sizeLine) : EvE X ss (.BinOp a .Add b pos) (sv (sO (oTup T (xs ++ ys)))) :=
  ev_bin op_catA ha hb fun F H v w Q sF ⟨p1, k1, e1, h1, vs, e3, i1⟩ ⟨p2, k2, e2, h2, ws, e4, i2⟩ q => by
    subst e1 e2
    refine ⟨p1, p2, vs, ws, rfl, rfl, SqT.of (sF _ _ (h1 _ _ e3)), SqT.of (sF _ _ (h2 _ _ e4)), by rw [i1.len, i2.len]; exact hl, fun ev => ?_, fun _ ew => ?_, fun _ _ p np => ?_⟩
    · subst ev
      have e0 : xs = [] := List.eq_nil_of_length_eq_zero i1.len.symm
      subst e0
      exact q _ F H (.refl sF) ⟨p2, k2, rfl, h2, ws, e4, i2⟩
    · subst ew
      have e0 : ys = [] := List.eq_nil_of_length_eq_zero i2.len.symm
      subst e0
      refine q _ F H (.refl sF) ⟨p1, k1, rfl, h1, vs, e3, ?_⟩
      rw [List.append_nil]
      exact i1
    · have gn := grow_new1 (ob := .tup (vs ++ ws)) sF np
      exact q _ _ _ gn ⟨p, hp1 p _, rfl, hp1_in, _, hp1_same, (i1.app i2).mono gn.f⟩
/-! ### texts -/
theorem strOk_app {x y : Str} (hx : PyData.strOk x = true) (hy : PyData.strOk y = true) : PyData.strOk (x ++ y) = true := by
  unfold PyData.strOk at *
  show (x.cps ++ y.cps).all _ = true
  rw [Array.all_append, hx, hy]
  rfl
theorem ev_catS {x y : Str} (ha : EvE X ss a (sv (sStr x))) (hb : EvE X ss b (sv (sStr y))) (hl : x.length + y.length ≤ sizeLine) : EvE X ss (.BinOp a .Add b pos) (sv (sStr (x ++ y))) :=
  ev_bin op_add_str ha hb fun F H v w Q sF ⟨e1, k1⟩ ⟨e2, k2⟩ q => ⟨x, y, e1, e2, hl, q _ F H (.refl sF) ⟨rfl, strOk_app k1 k2⟩⟩
theorem strOk_sub {z : Str} {l : List Nat} (h : PyData.strOk z = true) (hs : ∀ n ∈ l, n ∈ z.cps.toList) : PyData.strOk ⟨l.toArray⟩ = true := by
  unfold PyData.strOk at *
  rw [Array.all_eq_true'] at h ⊢
  intro n hn
  exact h n (by simpa using hs n (by simpa using hn))
end
end Sx
namespace Sx
variable [Tbs]
open PySem PySem.Spec PyProof.Rows L2

section
variable {X : Cx} {ss ss' : List Sl} {e a b c : Expr} {es : List Expr} {st : Stmt} {sts rest body orelse : List Stmt} {D : Ds} {ρ τ κ : R} {s t : S} {o o' : O} {pos p p2 : Pos} {k : Nat} {α β : Type} {T : α → S} {U : β → S} {xs ys : List α} {x y : α}
/-! ### blocks -/
theorem r_nil (h : D.nx ss) : EvSs X ss [] D := .mk fun B F H σ hs tk => toSs pss_nil ⟨F, ss, hs, h⟩
theorem r_cons (h : EvS X ss st { D with nx := fun ss' => EvSs X ss' rest D }) : EvSs X ss (st :: rest) D := .mk fun B F H σ hs tk =>
  toSs (pss_cons PSw PSsw) (fun pins s I => thn (h B F H σ hs tk pins s I) fun f s' q => SP_mono q (fun σ' H' ⟨F', ss', hs', q⟩ => q B F' H' σ' hs' tk) (fun _ _ z => z) (fun _ _ z => z) (fun _ _ z => z))
theorem r_one (h : EvS X ss st D) : EvSs X ss [st] D := .mk fun B F H σ hs tk => toSs (pss_one PSw) (h B F H σ hs tk)
/-- Mid: what is shown once for all that follows -/
theorem r_cut (Mid : List Sl → Prop) (h : EvS X ss st { D with nx := Mid }) (k : ∀ ss', Mid ss' → EvSs X ss' rest D) : EvSs X ss (st :: rest) D := r_cons (.mk fun B F H σ hs tk pins s I =>
  thn (h B F H σ hs tk pins s I) fun f s' q => SP_mono q (fun σ' H' ⟨F', ss', hs', q⟩ => ⟨F', ss', hs', k ss' q⟩) (fun _ _ z => z) (fun _ _ z => z) (fun _ _ z => z))
/-- an own object is handed out -/
theorem r_pub (i : Nat) (hi : ss[i]? = some (.own o)) (h : EvSs X (ss.set i (.val (sO o))) sts D) : EvSs X ss sts D := .mk fun B F H σ hs tk => by
  obtain ⟨F', _, hs'⟩ := hs.pub hi
  exact h B F' H σ hs' tk
theorem r_weak (i : Nat) (hi : ss[i]? = some (.val s)) (w : ∀ F v, s.r F v → t.r F v) (h : EvSs X (ss.set i (.val t)) sts D) : EvSs X ss sts D := .mk fun B F H σ hs tk => h B F H σ (hs.weak hi (w F)) tk
theorem r_any (i : Nat) (h : EvSs X (ss.set i .any) sts D) : EvSs X ss sts D := .mk fun B F H σ hs tk => h B F H σ hs.any tk
/-- what is only known to be there -/
theorem r_ex {γ : Type} {P : γ → Prop} {f : γ → S} (i : Nat) (hi : ss[i]? = some (.val (sEx P f))) (h : ∀ g, P g → EvSs X (ss.set i (.val (f g))) sts D) : EvSs X ss sts D := .mk fun B F H σ hs tk => by
  obtain ⟨v, ev, g, hp, hr⟩ := hs.val hi
  have k := hs.set (i := i) (v := v) (s := f g) hr
  have q : σ.set i (some v) = σ := by
    obtain ⟨hl, hv⟩ := List.getElem?_eq_some_iff.mp ev
    rw [← hv]
    exact List.set_getElem_self hl
  rw [q] at k
  exact h g hp B F H σ k tk
theorem RtP.imp {B : Bs} {D D' : Ds} {v : V} {H : Hp} (h : RtP B D v H) (r : ∀ s, D.rt s → D'.rt s) (n : ∀ o, D.rn o → D'.rn o) (b : ∀ o s, D.rb o s → D'.rb o s) (bn : ∀ o o2, D.rbn o o2 → D'.rbn o o2) : RtP B D' v H := by
  rcases h with ⟨F, s, g, q, k⟩ | ⟨F, k, p, o, e, g, f, q, z⟩ | ⟨F, k, p, o, s, g, q, c, q2, z⟩ | ⟨F, k, p, o, k2, p2, o2, e, g, c, q, c2, q2, ap, z⟩
  · exact .known F s g q (r _ k)
  · exact .fresh F k p o e g f q (n _ z)
  · exact .lent F k p o s g q c q2 (b _ _ z)
  · exact .lentN F k p o k2 p2 o2 e g c q c2 q2 ap (bn _ _ z)
theorem r_imp {D' : Ds} (h : EvSs X ss sts D) (n : ∀ ss, D.nx ss → D'.nx ss) (r : ∀ s, D.rt s → D'.rt s) (b : ∀ ss, D.bk ss → D'.bk ss) (c : ∀ ss, D.ct ss → D'.ct ss) (x : ∀ x ss, D.ex x ss → D'.ex x ss := by exact fun _ _ h => h) (rn : ∀ o, D.rn o → D'.rn o := by exact fun _ h => h)
    (rb : ∀ o s, D.rb o s → D'.rb o s := by exact fun _ _ h => h) (rbn : ∀ o o2, D.rbn o o2 → D'.rbn o o2 := by exact fun _ _ h => h) : EvSs X ss sts D' := .mk fun B F H σ hs tk =>
  wpSs_mono (h B F H σ hs (tk.imp x)) (fun _ _ ⟨F', s', h', q⟩ => ⟨F', s', h', n _ q⟩) (fun _ _ z => RtP.imp z r rn rb rbn) (fun _ _ ⟨F', s', h', q⟩ => ⟨F', s', h', b _ q⟩) (fun _ _ ⟨F', s', h', q⟩ => ⟨F', s', h', c _ q⟩)
/-! ### statements -/
theorem s_asg (i : Nat) {x : Str} {pos' : Pos} (hN : X.N.Nodup) (he : EvE X ss e (sv s)) (k : D.nx (ss.set i (.val s))) (hi : X.N[i]? = some x := by rfl) (hx : Loc X.env.scope x := by first | exact Or.inl rfl | exact Or.inr rfl)
    (hs : swapsWith e (some (.Name x pos')) pos.line X.env = pure false := by rfl) (hf : X.fn x = true ∨ X.env.scope.names.lookup x = some .local := by first | exact .inl rfl | exact .inr rfl) : EvS X ss (.Assign [.Name x pos'] e pos) D := .mk fun B F H σ h tk =>
  toS (ps_set hN hi hx PEw hs hf) (he B F H σ h _ fun v F' H' g r => ⟨F', _, (h.grow g).set r, k⟩)
theorem s_asgN (i : Nat) {x : Str} {pos' : Pos} (hN : X.N.Nodup) (he : EvN X ss e o) (k : D.nx (ss.set i (.own o))) (hi : X.N[i]? = some x := by rfl) (hx : Loc X.env.scope x := by first | exact Or.inl rfl | exact Or.inr rfl)
    (hs : swapsWith e (some (.Name x pos')) pos.line X.env = pure false := by rfl) (hf : X.fn x = true ∨ X.env.scope.names.lookup x = some .local := by first | exact .inl rfl | exact .inr rfl) : EvS X ss (.Assign [.Name x pos'] e pos) D := .mk fun B F H σ h tk =>
  toS (ps_set hN hi hx PEw hs hf) (he B F H σ h _ fun p F' H' c g n r => ⟨F', _, h.setO g n r, k⟩)
theorem s_if {q : Bool} (hc : EvT X ss c q) (h1 : q = true → EvSs X ss body D) (h2 : q = false → EvSs X ss orelse D) : EvS X ss (.If c body orelse pos) D := .mk fun B F H σ h tk =>
  toS (ps_if PTw PSsw PSsw) (hc B F H σ h _ fun F' H' g => by
    cases q with
    | true => exact iteT (h1 rfl B F' H' σ (h.grow g) tk)
    | false => exact iteF (h2 rfl B F' H' σ (h.grow g) tk))
theorem s_ret (he : EvE X ss e (sv s)) (k : D.rt s) : EvS X ss (.Return (some e) pos) D := .mk fun B F H σ h tk =>
  toS (ps_ret PEw) (he B F H σ h _ fun v F' H' g r => .known F' s (h.g.trans g) r k)
/-- a new object is handed back -/
theorem s_retN (he : EvN X ss e o) (k : D.rn o) : EvS X ss (.Return (some e) pos) D := .mk fun B F H σ h tk =>
  toS (ps_ret PEw) (he B F H σ h _ fun p F' H' c g n r => .fresh F' c p o rfl (h.g.trans g) (fun a ob e => ⟨(n a ob e).2.2, h.g.h.free (n a ob e).1, (n a ob e).2.1⟩) r k)
/-- .. an own one, by its name -/
theorem s_retO (i : Nat) {x : Str} (hs : ss[i]? = some (.own o)) (k : D.rn o) (hN : X.N[i]? = some x := by rfl) (hv : Vis X.env.scope x := by first | exact Or.inl rfl | exact Or.inr (Or.inl rfl) | exact Or.inr (Or.inr rfl))
    (hd : (x == ("__debug__" : Str)) = false := by decide) (hcd : (x == ("__classdict__" : Str)) = false := by decide) : EvS X ss (.Return (some (.Name x p)) pos) D := .mk fun B F H σ h tk => by
  obtain ⟨a, c, e1, hk, r⟩ := h.own hs
  exact toS (ps_ret PEw) (toE (pe_var (i := i) hN hv hd hcd) ⟨_, e1, .fresh F c a o rfl h.g hk r k⟩)
theorem s_pass (k : D.nx ss) : EvS X ss (.Pass pos) D := .mk fun B F H σ h tk => toS ps_pass ⟨F, ss, h, k⟩
theorem s_break (k : D.bk ss) : EvS X ss (.Break pos) D := .mk fun B F H σ h tk => toS ps_break ⟨F, ss, h, k⟩
theorem s_cont (k : D.ct ss) : EvS X ss (.Continue pos) D := .mk fun B F H σ h tk => toS ps_continue ⟨F, ss, h, k⟩
theorem s_drop (he : EvE X ss e ρ) (k : D.nx ss) (hs : swapsWith e none pos.line X.env = pure false := by rfl) : EvS X ss (.Expr e pos) D := .mk fun B F H σ h tk =>
  toS (ps_expr PEw hs) (he B F H σ h _ fun v F' H' g r => ⟨F', ss, h.grow g, k⟩)
/-- name += e -/
theorem s_aug (i : Nat) {x : Str} {pos' : Pos} {u w : Int} (hN : X.N.Nodup) (hi : ss[i]? = some (.val (sInt u))) (he : EvE X ss e (sv (sInt w))) (k : D.nx (ss.set i (.val (sInt (u + w))))) (hn : X.N[i]? = some x := by rfl) (hx : Loc X.env.scope x := by first | exact Or.inl rfl | exact Or.inr rfl)
    (hf : X.fn x = true ∨ X.env.scope.names.lookup x = some .local := by first | exact .inl rfl | exact .inr rfl) : EvS X ss (.AugAssign (.Name x pos') .Add e pos) D := .mk fun B F H σ h tk => by
  obtain ⟨v, ev, r⟩ := h.val hi
  exact toS (ps_aug hN hn hx PEw ip_add hf) ⟨v, ev, he B F H σ h _ fun w' F' H' g r' => ⟨u, w, r, r', F', _, (h.grow g).set (s := sInt (u + w)) rfl, k⟩⟩
/-- row.append(e) of an own list -/
theorem s_app (i : Nat) {x : Str} {p1 apos cpos : Pos} (hi : ss[i]? = some (.own (oLst T xs))) (he : EvE X ss e (sv (T y))) (hl : xs.length < sizeLine) (k : D.nx (ss.set i (.own (oLst T (xs ++ [y]))))) (hN : X.N[i]? = some x := by rfl)
    (hv : Vis X.env.scope x := by first | exact Or.inl rfl | exact Or.inr (Or.inl rfl) | exact Or.inr (Or.inr rfl)) (hd : (x == ("__debug__" : Str)) = false := by decide) (hcd : (x == ("__classdict__" : Str)) = false := by decide)
    (hbase : attributeBase (.Name x p1) "append" X.env (eval (.Name x p1) X.env) = eval (.Name x p1) X.env := by rfl)
    (hfew : ((backTo cpos (starEach [e] X.env)).all (fun x => !x.1) && (backToKw cpos (keywordEach [] X.env)).all (fun x => x.1.isSome) && decide ([e].length + ([] : List Keyword).length + (if ([] : List Keyword).isEmpty then 0 else 1) < 30)) = true := by rfl)
    (hline : (apos.endLine == cpos.line) = true := by rfl) (hs : starEach [e] X.env = (false, eval e X.env) :: starEach [] X.env := by exact star_ok rfl) (hplain : (backTo cpos (starEach [] X.env)).any (·.1) = false := by rfl)
    (hsw : swapsWith (.Call (.Attribute (.Name x p1) "append" apos) [e] [] cpos) none pos.line X.env = pure false := by rfl) : EvS X ss (.Expr (.Call (.Attribute (.Name x p1) "append" apos) [e] [] cpos) pos) D := .mk fun B F H σ h tk => by
  obtain ⟨p, c, e1, hc, vs, e2, hi'⟩ := h.own hi
  have hh := (hc _ _ e2).1
  refine toS (ps_expr (pe_bm PySem.F.plainAttrs_list PySem.F.slot_list_append PySem.F.type_list_append mt_append (pe_var hN hv hd hcd) (pa_cons PEw pa_nil hs) hbase hfew hline hs hplain) hsw) ?_
  refine ⟨_, e1, .inl ⟨rfl, vs, SqL.of hh⟩, ?_⟩
  refine he B F H σ h _ fun v F' H' g r => ?_
  refine ⟨p, vs, v, rfl, rfl, g.h.c hh, by rw [hi'.len]; exact hl, ?_⟩
  obtain ⟨p', c', e1', hc', ⟨vs', e2', hi2⟩, wr⟩ := (h.grow g).write hi
  rw [e1] at e1'
  injection e1' with e1'
  injection e1' with e1'
  injection e1' with e1'
  subst e1'
  have ev : vs' = vs := by
    have q1 := (hc' _ _ e2').1
    rw [g.h.c hh] at q1
    injection q1 with q1
    injection q1 with q1
    exact q1.symm
  subst ev
  refine ⟨F', _, wr (oLst T (xs ++ [y])) (upd c' p (.lst (vs' ++ [v]))) _ (fun a ob za ea => ?_) (fun a ob ea => ?_) (fun a ob na ea => ?_) (fun a ob ea na => ?_) ⟨_, upd_same, hi2.snoc r⟩, k⟩
  · have ha : a ≠ p := fun z => by
      subst z
      rw [e2'] at ea
      cases ea
      exact za.elim
    rw [upd_ne ha]
    exact (hc' _ _ ea).1
  · by_cases ha : a = p
    · subst ha
      rw [upd_same] at ea ⊢
      exact ea
    · rw [upd_ne ha] at ea ⊢
      exact (hc' _ _ ea).1
  · rw [upd_ne (fun z => by subst z; rw [e2'] at na; cases na)]
    exact ea
  · by_cases ha : a = p
    · subst ha
      rw [e2'] at na
      cases na
    · rw [upd_ne ha, na] at ea
      cases ea
/-! ### loops -/
theorem grow_base {B : Bs} {F1 H1 F H : Hp} (h : Grow B.F B.H F1 H1) (g : Grow F1 B.H F H) : Grow B.F B.H F H := ⟨h.f.trans g.f, g.h, g.s, fun p o e n => by
  cases q : F1 p with
  | some o' =>
    have e2 := g.f p o' q
    rw [e] at e2
    cases e2
    exact h.n p _ q n
  | none => exact g.n p o e q⟩
theorem RtP.base {B : Bs} {D : Ds} {F1 H1 : Hp} {v : V} {H : Hp} (h : Grow B.F B.H F1 H1) (z : RtP ⟨F1, B.H⟩ D v H) : RtP B D v H := by
  rcases z with ⟨F, s, g, q, k⟩ | ⟨F, k, p, o, e, g, f, q, z⟩ | ⟨F, k, p, o, s, g, q, c, q2, z⟩ | ⟨F, k, p, o, k2, p2, o2, e, g, c, q, c2, q2, ap, z⟩
  · exact .known F s (grow_base h g) q k
  · exact .fresh F k p o e (grow_base h g) f q z
  · exact .lent F k p o s (grow_base h g) q c q2 z
  · exact .lentN F k p o k2 p2 o2 e (grow_base h g) c q c2 q2 ap z
theorem Tk.lift {X : Cx} {B : Bs} {F1 H1 : Hp} {ex : Xo → List Sl → Prop} (g : Grow B.F B.H F1 H1) (t : Tk X B ex) : Tk X ⟨F1, B.H⟩ ex := Takes.imp t fun _ _ _ _ ⟨x, F, ss, a, h, b⟩ => ⟨x, F, ss, a, ⟨grow_base g h.g, h.len, by
  obtain ⟨fp, k1, k2⟩ := h.fp
  exact ⟨fp, k1, k2.at_, k2.ap⟩⟩, b⟩
theorem sat_base {B : Bs} {F1 H1 F H : Hp} {σ σ1 : L2.St} (h1 : Sat B F1 H1 σ1 ss) (h : Sat ⟨F1, B.H⟩ F H σ ss') : Sat B F H σ ss' := ⟨grow_base h1.g h.g, h.len, by
  obtain ⟨fp, k1, k2⟩ := h.fp
  exact ⟨fp, k1, k2.at_, k2.ap⟩⟩
theorem sat_lift {B : Bs} {F1 H1 : Hp} {σ : L2.St} (h : Sat B F1 H1 σ ss) : Sat ⟨F1, B.H⟩ F1 H1 σ ss := ⟨⟨Same.refl _, h.g.h, h.g.s, fun p o e n => by
  have n' : F1 p = none := n
  rw [n'] at e
  cases e⟩, h.len, by
  obtain ⟨fp, k1, k2⟩ := h.fp
  exact ⟨fp, k1, k2.at_, k2.ap⟩⟩
/-- for x in a list or tuple that stands still; I: what holds of the slots at each turn -/
theorem s_for (i : Nat) {x : Str} {px : Pos} {iter : Expr} (hp : PassesOwn (model X.prog X.w) X.A X.env X.xe) (hc : X.calm = true) (hN : X.N.Nodup) (I : Nat → List Sl → Prop) [hq : AsSq X.K (sv s) T xs] (hi : EvE X ss iter (sv s)) (h0 : I 0 ss)
    (hs : ∀ k (y : α) ss', xs[k]? = some y → I k ss' → EvSs X (ss'.set i (.val (T y))) body { D with nx := I (k + 1), ct := I (k + 1), bk := D.nx }) (hd : ∀ ss', I xs.length ss' → D.nx ss')
    (hn : X.N[i]? = some x := by rfl) (hx : Loc X.env.scope x := by first | exact Or.inl rfl | exact Or.inr rfl) (hf : X.fn x = true ∨ X.env.scope.names.lookup x = some .local := by first | exact .inl rfl | exact .inr rfl) (hfs : ∀ x, foldedSetIterable iter X.env x = pure x := by intro _; rfl) :
    EvS X ss (.For (.Name x px) iter body [] pos) D := .mk fun B F H σ h tk => by
  have pg : PG X (.Name x px) (gName i) := pg_name hN hn hx hf
  have turn : ∀ {F1 H1 : Hp} (h1 : Sat B F1 H1 σ ss) (k : Nat) (v : V) (σ' : L2.St) (H' : Hp) (y : α), xs[k]? = some y → (T y).r F1 v → (∃ F' ss', Sat ⟨F1, B.H⟩ F' H' σ' ss' ∧ I k ss') →
      wpSs X body { (dn B D) with nx := fun σ H => ∃ F ss, Sat ⟨F1, B.H⟩ F H σ ss ∧ I (k + 1) ss, ct := fun σ H => ∃ F ss, Sat ⟨F1, B.H⟩ F H σ ss ∧ I (k + 1) ss, bk := (dn B D).nx } (σ'.set i (some v)) H' := fun h1 k v σ' H' y hy r ⟨F', ss', hs', hI⟩ =>
    wpSs_mono (hs k y ss' hy hI ⟨_, B.H⟩ F' H' _ (hs'.set ((T y).mono hs'.g.f r)) (tk.lift h1.g)) (fun _ _ q => q) (fun v H z => RtP.base h1.g z) (fun _ _ ⟨F2, s2, g2, q2⟩ => ⟨F2, s2, sat_base h1 g2, q2⟩) (fun _ _ q => q)
  have fin : ∀ {F1 H1 : Hp} (h1 : Sat B F1 H1 σ ss) (σ' : L2.St) (H' : Hp), (∃ F' ss', Sat ⟨F1, B.H⟩ F' H' σ' ss' ∧ I xs.length ss') → (dn B D).nx σ' H' := fun h1 σ' H' ⟨F', ss', hs', hI⟩ => ⟨F', ss', sat_base h1 hs', hd ss' hI⟩
  intro pins sh inv
  refine (toS (ps_for hp hc (PIw) pg PSsw hfs) (D := dn B D) (σ := σ) (H := H) ?_) pins sh inv
  intro pins s2 inv2
  refine thn (hi B F H σ h (fun v H' => ∃ F', Grow F H F' H' ∧ s.r F' v) (fun v F' H' g r => ⟨F', g, r⟩) pins s2 inv2) fun u s3 ⟨v, H1, I3, rv, F1, g1, r1⟩ => ?_
  obtain ⟨p1, vs, ev, hk, hits⟩ := hq.w F1 F1 v (Same.refl _) r1
  subst ev
  cases rv
  have h1 := h.grow g1
  rcases hk with hk | hk
  · have hL : SqL X.K H1 p1 vs := SqL.same g1.s hk
    obtain ⟨its, rvs, pl, hz⟩ := I3.list hL
    refine wpAny_pyIter_list pl.isList ?_
    refine ⟨s3.heap.objs.size, [s3.heap.objs.size], _, _, H1, rfl, I3.kept (t' := s3.toks) fun b o e => Heap.get?_push_of_some _ e, turn_list p1 _, ⟨_, Heap.get?_push_size _ rfl, rfl, rfl⟩, fun b hb => ?_, ?_⟩
    · have e : b = s3.heap.objs.size := by simpa using hb
      subst e
      exact I3.fpOk (Nat.le_refl _) (I3.hok.fresh (Nat.le_refl _))
    · refine for_list (xs := vs) (fun k σ' H' => ∃ F' ss', Sat ⟨F1, B.H⟩ F' H' σ' ss' ∧ I k ss') ⟨F1, ss, sat_lift h1, h0⟩ (fun k σ' H' _ ⟨F', ss', hs', _⟩ => SqL.same (hs'.g.f.trans hs'.s) hk) (fun k v σ' H' hv hI => ?_) (fun σ' H' hI => ?_)
      · obtain ⟨y, hy, ry⟩ := hits.get hv
        exact turn h1 k v σ' H' y hy ry hI
      · rw [hits.len] at hI
        exact fin h1 σ' H' hI
  · have hL : SqT X.K H1 p1 vs := SqT.same g1.s hk
    obtain ⟨its, rvs, pl, hz⟩ := I3.tuple hL
    refine wpAny_pyIter_tuple (show s3.heap.IsTuple p1 its.toArray from pl) ?_
    refine ⟨s3.heap.objs.size, [s3.heap.objs.size], _, _, H1, rfl, I3.kept (t' := s3.toks) fun b o e => Heap.get?_push_of_some _ e, turn_tuple p1 _, ⟨_, Heap.get?_push_size _ rfl, rfl, rfl⟩, fun b hb => ?_, ?_⟩
    · have e : b = s3.heap.objs.size := by simpa using hb
      subst e
      exact I3.fpOk (Nat.le_refl _) (I3.hok.fresh (Nat.le_refl _))
    · refine for_tup (xs := vs) (fun k σ' H' => ∃ F' ss', Sat ⟨F1, B.H⟩ F' H' σ' ss' ∧ I k ss') ⟨F1, ss, sat_lift h1, h0⟩ (fun k σ' H' _ ⟨F', ss', hs', _⟩ => SqT.same (hs'.g.f.trans hs'.s) hk) (fun k v σ' H' hv hI => ?_) (fun σ' H' hI => ?_)
      · obtain ⟨y, hy, ry⟩ := hits.get hv
        exact turn h1 k v σ' H' y hy ry hI
      · rw [hits.len] at hI
        exact fin h1 σ' H' hI
/-- for x in range(n) -/
theorem s_forR (i : Nat) {x : Str} {px pr : Pos} {n : Int} (hp : PassesOwn (model X.prog X.w) X.A X.env X.xe) (hc : X.calm = true) (hN : X.N.Nodup) (hm : X.mg "range" = none) (I : Nat → List Sl → Prop) (hi : EvE X ss a (sv (sInt n))) (hb : -(2 ^ 62) ≤ n ∧ n < 2 ^ 62) (h0 : I 0 ss)
    (hs : ∀ (k : Nat) ss', (k : Int) < n → I k ss' → EvSs X (ss'.set i (.val (sInt (k : Int)))) body { D with nx := I (k + 1), ct := I (k + 1), bk := D.nx }) (hd : ∀ ss', I n.toNat ss' → D.nx ss')
    (hn : X.N[i]? = some x := by rfl) (hx : Loc X.env.scope x := by first | exact Or.inl rfl | exact Or.inr rfl) (hf : X.fn x = true ∨ X.env.scope.names.lookup x = some .local := by first | exact .inl rfl | exact .inr rfl)
    (hg : Gl X "range" := by rfl) (hst : starEach [a] X.env = [(false, eval a X.env)] := by exact star_one rfl) (hfs : ∀ x, foldedSetIterable (.Call (.Name "range" pr) [a] [] p) X.env x = pure x := by intro _; rfl) :
    EvS X ss (.For (.Name x px) (.Call (.Name "range" pr) [a] [] p) body [] pos) D := .mk fun B F H σ h tk => by
  have ha : PA X [a] (tCons (wpE X a) tNil) := pa_cons PEw pa_nil (by rw [hst]; rfl)
  refine toS (ps_for hp hc (pi_range1 hg hm ha hst) (pg_name hN hn hx hf) PSsw hfs) ?_
  refine hi B F H σ h _ fun v F1 H1 g1 r1 => ?_
  have ev : v = .int n := r1
  subst ev
  refine ⟨n, rfl, hb.1, hb.2, ?_⟩
  have h1 := h.grow g1
  refine for_range (lo := 0) (n := n.toNat) (fun k σ' H' => ∃ F' ss', Sat B F' H' σ' ss' ∧ I k ss') ⟨F1, ss, h1, h0⟩ (fun k σ' H' hk ⟨F', ss', hs', hI⟩ => ?_) (fun σ' H' ⟨F', ss', hs', hI⟩ => ⟨F', ss', hs', hd ss' hI⟩)
  rw [Int.zero_add]
  exact hs k ss' (by omega) hI B F' H' _ (hs'.set (s := sInt (k : Int)) rfl) tk
/-- while c: I the word, μ what falls -/
theorem s_while (hp : PassesOwn (model X.prog X.w) X.A X.env X.xe) {γ : Type} (I : γ → List Sl → Prop) (μ : γ → Nat) (g0 : γ) (h0 : I g0 ss)
    (hs : ∀ g ss', I g ss' → ∃ q, EvT X ss' c q ∧ (q = true → EvSs X ss' body { D with nx := fun ss2 => ∃ g', μ g' < μ g ∧ I g' ss2, ct := fun ss2 => ∃ g', μ g' < μ g ∧ I g' ss2, bk := D.nx }) ∧ (q = false → D.nx ss')) :
    EvS X ss (.While c body [] pos) D := .mk fun B F H σ h tk => by
  refine toS (ps_while hp PTw PSsw) ?_
  refine ⟨fun m σ H => ∃ g F ss, μ g = m ∧ Sat B F H σ ss ∧ I g ss, ⟨μ g0, g0, F, ss, rfl, h, h0⟩, ?_⟩
  rintro m σ' H' ⟨g, F', ss', em, hs', hI⟩
  obtain ⟨q, hc, k1, k2⟩ := hs g ss' hI
  refine hc B F' H' σ' hs' _ fun F2 H2 g2 => ?_
  cases q with
  | true =>
    rw [if_pos rfl]
    refine ⟨fun σ H => ∃ F ss, Sat B F H σ ss ∧ ∃ g', μ g' < μ g ∧ I g' ss, fun σ3 H3 ⟨F3, ss3, hs3, g', lt, i3⟩ => ⟨μ g', by omega, g', F3, ss3, rfl, hs3, i3⟩, ?_⟩
    exact k1 rfl B F2 H2 σ' (hs'.grow g2) tk
  | false =>
    rw [if_neg Bool.false_ne_true]
    exact ⟨F2, ss', hs'.grow g2, k2 rfl⟩
end
end Sx
namespace Sx
variable [Tbs]
open PySem PySem.Spec PyProof.Rows L2

/-! ### comprehensions -/
def teB (X : Cx) (scope : Scope) (e : Expr) : TE := fun σ H Q => ∀ (s : Shared) (H0 : Hp) (C : Addr) (cl : List (Str × Addr)) (fp : List Addr), wpE (X.blk s H0 scope (compEnvC scope cl C X.env) fp) e σ H Q
def ttB (X : Cx) (scope : Scope) (ifs : List Expr) : TT := fun σ H Q => ∀ (s : Shared) (H0 : Hp) (C : Addr) (cl : List (Str × Addr)) (fp : List Addr), wpTs (X.blk s H0 scope (compEnvC scope cl C X.env) fp) ifs σ H Q
structure EvTs (X : Cx) (ss : List Sl) (ifs : List Expr) (b : Bool) : Prop where
  go : ∀ (B : Bs) (F H : Hp) (σ : L2.St), Sat B F H σ ss → ∀ Q : Bool → Hp → Prop, (∀ F' H', Grow F H F' H' → Q b H') → wpTs X ifs σ H Q
instance {X : Cx} {ss : List Sl} {ifs : List Expr} {b : Bool} : CoeFun (EvTs X ss ifs b) (fun _ => ∀ (B : Bs) (F H : Hp) (σ : L2.St), Sat B F H σ ss → ∀ Q : Bool → Hp → Prop, (∀ F' H', Grow F H F' H' → Q b H') → wpTs X ifs σ H Q) := ⟨EvTs.go⟩
/-- within the block -/
def BlkE (X : Cx) (scope : Scope) (ss : List Sl) (e : Expr) (ρ : R) : Prop := ∀ (s : Shared) (H0 : Hp) (C : Addr) (cl : List (Str × Addr)) (fp : List Addr), EvE (X.blk s H0 scope (compEnvC scope cl C X.env) fp) ss e ρ
def BlkT (X : Cx) (scope : Scope) (ss : List Sl) (ifs : List Expr) (b : Bool) : Prop := ∀ (s : Shared) (H0 : Hp) (C : Addr) (cl : List (Str × Addr)) (fp : List Addr), EvTs (X.blk s H0 scope (compEnvC scope cl C X.env) fp) ss ifs b
section
variable {X : Cx} {ss : List Sl} {e c elt : Expr} {ifs : List Expr} {scope : Scope} {α β : Type} {T : α → S} {U : β → S} {xs : List α} {s : S} {o : O} {pos : Pos}
theorem ets_nil : EvTs X ss [] true := .mk fun B F H σ h Q q => toTs pts_nil (q F H (.refl h.s))
theorem ets_one {b : Bool} (hc : EvT X ss c b) : EvTs X ss [c] b := .mk fun B F H σ h Q q => toTs (pts_one PTw) (hc B F H σ h Q q)
theorem bt_nil : BlkT X scope ss [] true := fun _ _ _ _ _ => ets_nil
theorem PEb (s : Shared) (H0 : Hp) (C : Addr) (cl : List (Str × Addr)) (fp : List Addr) : PE (X.blk s H0 scope (compEnvC scope cl C X.env) fp) e (teB X scope e) := ⟨fun pins s σ H Q I h => h _ _ _ _ _ pins s I⟩
theorem PTsb (s : Shared) (H0 : Hp) (C : Addr) (cl : List (Str × Addr)) (fp : List Addr) : PTs (X.blk s H0 scope (compEnvC scope cl C X.env) fp) ifs (ttB X scope ifs) := ⟨fun pins s σ H Q I h => h _ _ _ _ _ pins s I⟩
/-- the list so far, at D -/
def LcPv (U : β → S) (F1 H1 : Hp) (D : Addr) (r : List β) (H : Hp) : Prop := ∃ F acc, Grow F1 H1 F H ∧ F D = none ∧ H D = some (.lst acc) ∧ Its U F r acc
theorem lcpv_0 {F1 H1 : Hp} {D : Addr} (sF : Sm F1 H1) (n : H1 D = none) : LcPv U F1 H1 D [] (upd H1 D (.lst [])) := ⟨F1, [], .new sF n, sF.free n, upd_same, Its.nil⟩
theorem lc_step {B : Bs} {F1 H1 : Hp} {σ : L2.St} {D : Addr} {j : Nat} {b : Bool} {y : β} {r0 r1 : List β} {v : V} {H : Hp} (h1 : Sat B F1 H1 σ ss) (nD : H1 D = none) (ht : BlkT X scope (ss.set j (.val s)) ifs b) (he : b = true → BlkE X scope (ss.set j (.val s)) elt (sv (U y)))
    (hr : r1 = if b = true then r0 ++ [y] else r0) (hl : r0.length < sizeLine) (r : s.r F1 v) (hp : LcPv U F1 H1 D r0 H) :
    gName j v (wipe σ [j]) H fun σ2 H2 => wipe σ2 [j] = wipe σ [j] ∧ ttB X scope ifs σ2 H2 fun b H3 =>
      if b = true then teB X scope elt σ2 H3 fun y H4 => ∃ acc, H4 D = some (.lst acc) ∧ acc.length < sizeLine ∧ LcPv U F1 H1 D r1 (upd H4 D (.lst (acc ++ [y]))) else LcPv U F1 H1 D r1 H3 := by
  obtain ⟨F, acc, g, fD, hD, hi⟩ := hp
  have hw : wipe σ [j] = σ.set j none := rfl
  have hs2 : Sat B F H ((wipe σ [j]).set j (some v)) (ss.set j (.val s)) := by
    have k := ((h1.grow g).wipe1 (i := j)).set (i := j) (s.mono g.f r)
    rw [show (ss.set j Sl.any).set j (Sl.val s) = ss.set j (.val s) from List.set_set _] at k
    exact k
  show _ ∧ _
  refine ⟨?_, fun s0 H0 C cl fp => ht s0 H0 C cl fp B F H _ hs2 _ fun F2 H2 g2 => ?_⟩
  · show ((wipe σ [j]).set j (some v)).set j none = σ.set j none
    rw [hw, List.set_set, List.set_set]
  have fD2 : F2 D = none := by
    cases q : F2 D with
    | none => rfl
    | some o' =>
      exfalso
      rcases g2.n D o' q fD with z | z
      · rw [hD] at z
        cases z
      · have e1 := g2.s D o' q
        rw [g2.h.c hD] at e1
        cases e1
        exact z
  cases b with
  | false =>
    rw [if_neg Bool.false_ne_true] at hr ⊢
    subst hr
    exact ⟨F2, acc, g.trans g2, fD2, g2.h.c hD, hi.mono g2.f⟩
  | true =>
    rw [if_pos rfl] at hr ⊢
    subst hr
    refine fun s0 H0 C cl fp => he rfl s0 H0 C cl fp B F2 H2 _ (hs2.grow g2) _ fun u F3 H3 g3 ru => ?_
    have g4 := (g.trans g2).trans g3
    have fD3 : F3 D = none := by
      cases q : F3 D with
      | none => rfl
      | some o' =>
        exfalso
        rcases g3.n D o' q fD2 with z | z
        · rw [g2.h.c hD] at z
          cases z
        · have e1 := g3.s D o' q
          rw [g3.h.c (g2.h.c hD)] at e1
          cases e1
          exact z
    refine ⟨acc, g3.h.c (g2.h.c hD), by rw [hi.len]; exact hl, F3, acc ++ [u], ⟨g4.f, g4.h.put nD (g3.h.c (g2.h.c hD)), g4.s.put fD3 (g3.h.c (g2.h.c hD)), g4.n⟩, fD3, upd_same, ((hi.mono g2.f).mono g3.f).snoc ru⟩
/-- what a comprehension makes -/
structure Lc (X : Cx) (ss : List Sl) (elt tg iter : Expr) (ifs : List Expr) (scope : Scope) (j : Nat) (o : O) : Prop where
  go : ∀ (B : Bs) (F H : Hp) (σ : L2.St), Sat B F H σ ss → ∀ Q : VK,
    (∀ p F' H' k, Grow F H F' H' → (∀ a ob, k a = some ob → H a = none ∧ (F' a = none ∨ IsT ob) ∧ H' a = some ob) → o.r F' k p → Q (.ref p) H') → tLc (wpI X tg iter) (gName j) (ttB X scope ifs) (teB X scope elt) [j] σ H Q
instance {X : Cx} {ss : List Sl} {elt tg iter : Expr} {ifs : List Expr} {scope : Scope} {j : Nat} {o : O} : CoeFun (Lc X ss elt tg iter ifs scope j o) (fun _ => ∀ (B : Bs) (F H : Hp) (σ : L2.St), Sat B F H σ ss → ∀ Q : VK,
    (∀ p F' H' k, Grow F H F' H' → (∀ a ob, k a = some ob → H a = none ∧ (F' a = none ∨ IsT ob) ∧ H' a = some ob) → o.r F' k p → Q (.ref p) H') → tLc (wpI X tg iter) (gName j) (ttB X scope ifs) (teB X scope elt) [j] σ H Q) := ⟨Lc.go⟩
theorem filter_take {p : α → Bool} {f : α → β} {i : Nat} {x : α} (h : xs[i]? = some x) : ((xs.take (i + 1)).filter p).map f = if p x = true then ((xs.take i).filter p).map f ++ [f x] else ((xs.take i).filter p).map f := by
  rw [List.take_add_one, h, Option.toList_some, List.filter_append, List.map_append]
  cases q : p x with
  | true => simp [q]
  | false => simp [q]
theorem lc_seq {iter : Expr} {tg : Expr} {ρ : R} (j : Nat) (p : α → Bool) (f : α → β) [hq : AsSq X.K ρ T xs] (hi : EvE X ss iter ρ) (hl : xs.length ≤ sizeLine)
    (ht : ∀ (i : Nat) x, xs[i]? = some x → BlkT X scope (ss.set j (.val (T x))) ifs (p x)) (he : ∀ (i : Nat) x, xs[i]? = some x → p x = true → BlkE X scope (ss.set j (.val (T x))) elt (sv (U (f x)))) :
    Lc X ss elt tg iter ifs scope j (oLst U ((xs.filter p).map f)) := .mk fun B F H σ h Q q => by
  show wpI X tg iter σ H _
  intro pins s1 inv
  refine thn (hi B F H σ h (fun v H' => ∃ F', Grow F H F' H' ∧ ρ.r F' H' v) (fun v F' H' g r => ⟨F', g, r⟩) pins s1 inv) fun u s3 ⟨v, H1, I3, rv, F1, g1, r1⟩ => ?_
  obtain ⟨p1, vs, ev, hk, hits⟩ := hq.w F1 H1 v g1.s r1
  subst ev
  cases rv
  have h1 := h.grow g1
  have stepS : ∀ (D : Addr), H1 D = none → ∀ (i : Nat) (v : V) (H' : Hp), vs[i]? = some v → LcPv U F1 H1 D (((xs.take i).filter p).map f) H' →
      gName j v (wipe σ [j]) H' fun σ2 H2 => wipe σ2 [j] = wipe σ [j] ∧ ttB X scope ifs σ2 H2 fun b H3 =>
        if b = true then teB X scope elt σ2 H3 fun y H4 => ∃ acc, H4 D = some (.lst acc) ∧ acc.length < sizeLine ∧ LcPv U F1 H1 D (((xs.take (i + 1)).filter p).map f) (upd H4 D (.lst (acc ++ [y]))) else LcPv U F1 H1 D (((xs.take (i + 1)).filter p).map f) H3 := fun D nD i v H' hv hP => by
    obtain ⟨x, hx, rx⟩ := hits.get hv
    refine lc_step h1 nD (ht i x hx) (fun b => he i x hx b) (filter_take hx) ?_ rx hP
    rw [List.length_map]
    refine Nat.lt_of_le_of_lt (List.length_filter_le _ _) ?_
    rw [List.length_take]
    have := (List.getElem?_eq_some_iff.mp hx).1
    omega
  have fin : ∀ (D : Addr), H1 D = none → ∀ H', LcPv U F1 H1 D (((xs.take vs.length).filter p).map f) H' → Q (.ref D) H' := fun D nD H' ⟨F', acc, g, fD, hD, hi'⟩ => by
    rw [hits.len, List.take_length] at hi'
    exact q D F' H' (hp1 D (.lst acc)) (g1.trans g) (fun a ob ea => by
      obtain ⟨rfl, rfl⟩ := hp1_some ea
      exact ⟨g1.h.free nD, .inl fD, hD⟩) ⟨acc, hp1_same, hi'⟩
  rcases hk with hL | hL
  · obtain ⟨its, rvs, pl, hz⟩ := I3.list hL
    refine wpAny_pyIter_list pl.isList ?_
    refine ⟨s3.heap.objs.size, [s3.heap.objs.size], _, _, H1, rfl, I3.kept (t' := s3.toks) fun b o e => Heap.get?_push_of_some _ e, turn_list p1 _, ⟨_, Heap.get?_push_size _ rfl, rfl, rfl⟩, fun b hb => ?_, fun D nD => ?_⟩
    · have e : b = s3.heap.objs.size := by simpa using hb
      subst e
      exact I3.fpOk (Nat.le_refl _) (I3.hok.fresh (Nat.le_refl _))
    · exact lc_list (xs := vs) (fun i H' => LcPv U F1 H1 D (((xs.take i).filter p).map f) H') (lcpv_0 g1.s nD) (fun i H' _ ⟨F', acc, g, _⟩ => SqL.gr g.h hL) (fun i v H' hv hP => stepS D nD i v H' hv hP) (fun H' hP => fin D nD H' hP)
  · obtain ⟨its, rvs, pl, hz⟩ := I3.tuple hL
    refine wpAny_pyIter_tuple (show s3.heap.IsTuple p1 its.toArray from pl) ?_
    refine ⟨s3.heap.objs.size, [s3.heap.objs.size], _, _, H1, rfl, I3.kept (t' := s3.toks) fun b o e => Heap.get?_push_of_some _ e, turn_tuple p1 _, ⟨_, Heap.get?_push_size _ rfl, rfl, rfl⟩, fun b hb => ?_, fun D nD => ?_⟩
    · have e : b = s3.heap.objs.size := by simpa using hb
      subst e
      exact I3.fpOk (Nat.le_refl _) (I3.hok.fresh (Nat.le_refl _))
    · exact lc_tup (xs := vs) (fun i H' => LcPv U F1 H1 D (((xs.take i).filter p).map f) H') (lcpv_0 g1.s nD) (fun i H' _ ⟨F', acc, g, _⟩ => SqT.gr g.h hL) (fun i v H' hv hP => stepS D nD i v H' hv hP) (fun H' hP => fin D nD H' hP)
/-- over range(n) -/
theorem lc_rng {a tg : Expr} {pr p2 : Pos} {n : Int} (j : Nat) (p : Nat → Bool) (f : Nat → β) (hm : X.mg "range" = none) (hi : EvE X ss a (sv (sInt n))) (hl : n ≤ 16777216) (hl0 : -(2 ^ 62) ≤ n)
    (ht : ∀ (i : Nat), (i : Int) < n → BlkT X scope (ss.set j (.val (sInt (i : Int)))) ifs (p i)) (he : ∀ (i : Nat), (i : Int) < n → p i = true → BlkE X scope (ss.set j (.val (sInt (i : Int)))) elt (sv (U (f i))))
    (hg : Gl X "range" := by rfl) (hst : starEach [a] X.env = [(false, eval a X.env)] := by exact star_one rfl) :
    Lc X ss elt tg (.Call (.Name "range" pr) [a] [] p2) ifs scope j (oLst U (((List.range n.toNat).filter p).map f)) := .mk fun B F H σ h Q q => by
  have ha : PA X [a] (tCons (wpE X a) tNil) := pa_cons PEw pa_nil (by rw [hst]; rfl)
  refine toI (pi_range1 hg hm ha hst) ?_
  refine hi B F H σ h _ fun v F1 H1 g1 r1 => ?_
  have ev : v = .int n := r1
  subst ev
  refine ⟨n, rfl, hl0, by omega, fun D nD => ?_⟩
  have h1 := h.grow g1
  have z : sizeLine = 16777216 := sizeLine_eq
  refine lc_range (lo := 0) (n := n.toNat) (fun i H' => LcPv U F1 H1 D ((((List.range n.toNat).take i).filter p).map f) H') (lcpv_0 g1.s nD) (fun i H' hin hP => ?_) (fun H' hP => ?_)
  · have hx : (List.range n.toNat)[i]? = some i := by
      rw [List.getElem?_range hin]
    rw [Int.zero_add]
    refine lc_step h1 nD (ht i (by omega)) (fun b => he i (by omega) b) (filter_take hx) ?_ rfl hP
    rw [List.length_map]
    refine Nat.lt_of_le_of_lt (List.length_filter_le _ _) ?_
    rw [List.length_take, List.length_range]
    omega
  · obtain ⟨F', acc, g, fD, hD, hi'⟩ := hP
    rw [List.take_of_length_le (by rw [List.length_range]; exact Nat.le_refl _)] at hi'
    exact q D F' H' (hp1 D (.lst acc)) (g1.trans g) (fun a ob ea => by
      obtain ⟨rfl, rfl⟩ := hp1_some ea
      exact ⟨g1.h.free nD, .inl fD, hD⟩) ⟨acc, hp1_same, hi'⟩
theorem ev_lc {iter : Expr} {x : Str} {px : Pos} {j : Nat} (hc : X.calm = true) (hN : X.N.Nodup) (h : Lc X ss elt (.Name x px) iter ifs scope j o) (ok : blkC X.N X.env.scope scope [(x, j)] = true := by kernel_rfl)
    (hj : X.N[j]? = some x := by rfl) (hx : ∀ (s : Shared) (H : Hp) (C : Addr) (cl : List (Str × Addr)) (fp : List Addr), Loc (X.blk s H scope (compEnvC scope cl C X.env) fp).env.scope x ∧ ((X.blk s H scope (compEnvC scope cl C X.env) fp).fn x = true ∨ (X.blk s H scope (compEnvC scope cl C X.env) fp).env.scope.names.lookup x = some .local) := by
      exact fun _ _ _ _ _ => ⟨by first | exact Or.inl rfl | exact Or.inr rfl, by first | exact Or.inl rfl | exact Or.inr rfl⟩)
    (hs : ∀ x, foldedSetIterable iter X.env x = pure x := by intro _; rfl) : EvN X ss (.ListComp elt [⟨.Name x px, iter, ifs, 0⟩] scope pos) o := .mk fun B F H σ hS Q q =>
  toE (pe_lc (own := [(x, j)]) (g := gName j) (tt := ttB X scope ifs) (te := teB X scope elt) hc hN PIw (blkOk_by ok) (fun s H C cl fp => pg_name hN hj (hx s H C cl fp).1 (hx s H C cl fp).2) PTsb PEb hs) (h B F H σ hS Q q)
/-- name = [..] -/
theorem s_asgLc {iter : Expr} {x y : Str} {px py spos : Pos} {j : Nat} {D : Ds} (i : Nat) (hc : X.calm = true) (hN : X.N.Nodup) (h : Lc X ss elt (.Name x px) iter ifs scope j o) (k : D.nx (ss.set i (.own o))) (hy : X.N[i]? = some y := by rfl) (hyl : X.env.scope.names.lookup y = some .local := by rfl)
    (hsw : swapsWith (.ListComp elt [⟨.Name x px, iter, ifs, 0⟩] scope pos) (some (.Name y py)) spos.line X.env = pure true := by exact sw_true rfl rfl rfl (by decide +kernel)) (ok : blkC X.N X.env.scope scope [(x, j)] = true := by kernel_rfl)
    (hj : X.N[j]? = some x := by rfl) (hx : ∀ (s : Shared) (H : Hp) (C : Addr) (cl : List (Str × Addr)) (fp : List Addr), Loc (X.blk s H scope (compEnvC scope cl C X.env) fp).env.scope x ∧ ((X.blk s H scope (compEnvC scope cl C X.env) fp).fn x = true ∨ (X.blk s H scope (compEnvC scope cl C X.env) fp).env.scope.names.lookup x = some .local) := by
      exact fun _ _ _ _ _ => ⟨by first | exact Or.inl rfl | exact Or.inr rfl, by first | exact Or.inl rfl | exact Or.inr rfl⟩)
    (hs : ∀ x, foldedSetIterable iter X.env x = pure x := by intro _; rfl) : EvS X ss (.Assign [.Name y py] (.ListComp elt [⟨.Name x px, iter, ifs, 0⟩] scope pos) spos) D := .mk fun B F H σ hS tk =>
  toS (ps_setLc (i := i) (own := [(x, j)]) (g := gName j) (tt := ttB X scope ifs) (te := teB X scope elt) hc hN hy hyl hsw PIw (blkOk_by ok) (fun s H C cl fp => pg_name hN hj (hx s H C cl fp).1 (hx s H C cl fp).2) PTsb PEb hs)
    (h B F H σ hS _ fun p F' H' c g n r => ⟨F', _, hS.setO g n r, k⟩)
end

/-! ### a def as it stands behind the top, with defaults or without -/
structure FunE (K : PySem.W.Frag) (x qual : Str) (st : Stmt) (f : Addr) (fd : FuncData) : Prop where
  ex : ∃ (oc : Value) (od : Option Addr) (dV kV doc pm : Value) (an : Option Addr) (cdv ct : Value) (osl : Array (Option Value)),
    fd = PySem.W.fnOf x qual (defArgs st) (defBody st) (defScope st) dV kV doc pm an cdv ct ∧ K.lookup f = some ⟨oc, od, .func fd, osl⟩ ∧ PySem.W.codeIn K cdv qual = true
theorem fun_e {K : PySem.W.Frag} {x qual : Str} {st : Stmt} {f : Addr} {fd : FuncData} (F : Fun K x qual st f fd) : FunE K x qual st f fd :=
  let ⟨oc, od, kV, doc, pm, an, cdv, ct, osl, e, l, c⟩ := F.ex
  ⟨oc, od, .none, kV, doc, pm, an, cdv, ct, osl, e, l, c⟩
section
variable {P : Program} {w : World} {K : PySem.W.Frag} {mg : Str → Option Value} {base : Heap} {x qual : Str} {st : Stmt} {f : Addr} {fd : FuncData} {N ps : List Str} {k : Nat} {sp : Sp}
theorem FunE.ok (F : FunE K x qual st f fd) (S : FnScope N ps (defScope st)) (len : ∀ vs H Q E, sp vs H Q E → vs.length = ps.length)
    (body : ∀ (cdv : Value) (A : Around) (outer : List Env) (s : Shared) (H : Hp) (vs : List V) (Q : VK) (E : XK), Room k (A.deeper (envOfC qual (defScope st) s.heap.objs.size f cdv)) → sp vs H Q E →
      ∃ t, PSs (cxOf CX0 P w K mg base N qual (defScope st) f cdv A outer s H E).nox (defBody st) t ∧ t { nx := fun _ H' => Q .non H', rt := Q } (L2.start N vs) H) : FnOk P w K mg base CX0 (k + 1) f fd ps sp := by
  obtain ⟨oc, od, dV, kV, doc, pm, an, cdv, ct, osl, rfl, lk, hcd⟩ := F.ex
  refine fn_of lk hcd S len fun A outer s H vs Q E hr hsp => ?_
  obtain ⟨t, h, q⟩ := body cdv A outer s H vs Q E hr hsp
  exact ⟨t, h.nox, q⟩
end
/-! ### calls -/
/-- as: what is known of the arguments; s: what is promised of the answer -/
def spOf (Φ : List S → S → Prop) : Sp := fun vs H Q _ => ∃ (F : Hp) (as : List S) (s : S), Sm F H ∧ Paired (fun (a : S) v => a.r F v) as vs ∧ Φ as s ∧ ∀ v F' H', Grow F H F' H' → s.r F' v → Q v H'
structure Callee (P : Program) (w : World) (K : PySem.W.Frag) (mg : Str → Option Value) (base : Heap) (k : Nat) (x : Str) (Φ : List S → S → Prop) : Prop where
  ex : ∃ (f : Addr) (fd : FuncData) (ps : List Str), FnOk P w K mg base CX0 k f fd ps (spOf Φ) ∧ mg x = some (.ref f) ∧ PySem.W.keepIn K (.ref f) = true ∧ Binds K fd ps []
section
variable {X : Cx} {ss : List Sl} {e : Expr} {es : List Expr} {as : List S} {s : S} {Φ : List S → S → Prop} {x : Str} {p pos : Pos} {j k : Nat}
theorem paired_sv {F H : Hp} : ∀ {as : List S} {vs : List V}, Paired (fun (a : R) v => a.r F H v) (as.map sv) vs → Paired (fun (a : S) v => a.r F v) as vs
  | [], _, h => by
    cases h
    exact .nil
  | a :: as, _, h => by
    cases h with
    | cons r t => exact .cons r (paired_sv t)
structure EvAs (X : Cx) (ss : List Sl) (es : List Expr) (as : List S) : Prop where
  go : EvA X ss es (as.map sv)
theorem eas_nil : EvAs X ss [] [] := ⟨ea_nil⟩
theorem eas_cons {a : S} (ha : EvE X ss e (sv a)) (hr : EvAs X ss es as) (hs : starEach (e :: es) X.env = (false, eval e X.env) :: starEach es X.env := by exact star_ok rfl) : EvAs X ss (e :: es) (a :: as) := ⟨ea_cons ha hr.go hs⟩
theorem ev_call (C : Callee X.prog X.w X.K X.mg X.base j x Φ) (hr : Room k X.A) (ha : EvAs X ss (e :: es) as) (hΦ : Φ as s) (hj : j ≤ k := by decide) (hg : Gl X x := by rfl)
    (hdb : (x == ("__debug__" : Str)) = false := by decide) (he : starEach (e :: es) X.env = (false, eval e X.env) :: starEach es X.env := by exact star_ok rfl) (hpl : (backTo pos (starEach es X.env)).any (·.1) = false := by rfl) :
    EvE X ss (.Call (.Name x p) (e :: es) [] pos) (sv s) := .mk fun B F H σ h Q q => by
  obtain ⟨f, fd, ps, G, hm, hk, hb⟩ := C.ex
  refine toE (pe_call G (hr.mono hj) hg hm hk hb .nil pass0 PAw hdb he hpl) ?_
  refine ha.go B F H σ h _ fun vs F1 H1 g1 rs => ?_
  rw [List.append_nil]
  exact ⟨F1, as, s, g1.s, paired_sv rs, hΦ, fun v F2 H2 g2 r => q v F2 H2 (g1.trans g2) r⟩
end
theorem own0 {B : Bs} {F H : Hp} : Own B F H (fun _ => hp0) where
  at_ := fun i a ob e => by
    have e' : (none : Option HO) = some ob := e
    cases e'
  ap := fun i j a o1 o2 e => by
    have e' : (none : Option HO) = some o1 := e
    cases e'
/-- a def by its body -/
theorem fn_ok {P : Program} {w : World} {K : PySem.W.Frag} {mg : Str → Option Value} {base : Heap} {x qual : Str} {st : Stmt} {f : Addr} {fd : FuncData} {N ps : List Str} {k : Nat} {Φ : List S → S → Prop} (F : FunE K x qual st f fd) (Sc : FnScope N ps (defScope st)) (len : ∀ as s, Φ as s → as.length = ps.length)
    (body : ∀ (cdv : Value) (A : Around) (outer : List Env) (s0 : Shared) (H0 : Hp) (E : XK) (as : List S) (s : S), Room k (A.deeper (envOfC qual (defScope st) s0.heap.objs.size f cdv)) → Φ as s →
      EvSs (cxOf CX0 P w K mg base N qual (defScope st) f cdv A outer s0 H0 E).nox (as.map Sl.val ++ List.replicate (N.length - as.length) .any) (defBody st) { nx := fun _ => ∀ F : Hp, s.r F .non, rt := fun s' => ∀ F v, s'.r F v → s.r F v }) :
    FnOk P w K mg base CX0 (k + 1) f fd ps (spOf Φ) := by
  refine F.ok Sc (fun vs H Q E ⟨F, as, s, _, hp, hΦ, _⟩ => by rw [← Paired.length hp]; exact len as s hΦ) (fun cdv A outer s0 H0 vs Q E hr h => ?_)
  obtain ⟨F, as, s, sF, hp, hΦ, q⟩ := h
  refine ⟨_, PSsw, ?_⟩
  have hlen : vs.length = as.length := (Paired.length hp).symm
  have hsat : Sat ⟨F, H0⟩ F H0 (L2.start N vs) (as.map Sl.val ++ List.replicate (N.length - as.length) .any) := by
    refine ⟨.refl sF, ?_, fun _ => hp0, fun i x v e1 e2 => ?_, own0⟩
    · unfold L2.start
      rw [List.length_append, List.length_append, List.length_map, List.length_map, List.length_replicate, List.length_replicate, hlen]
    · by_cases hi : i < as.length
      · rw [List.getElem?_append_left (by rw [List.length_map]; exact hi), List.getElem?_map] at e1
        unfold L2.start at e2
        rw [List.getElem?_append_left (by rw [List.length_map, hlen]; exact hi), List.getElem?_map] at e2
        cases q1 : as[i]? with
        | none => rw [q1] at e1; cases e1
        | some a =>
          obtain ⟨u, hu, ru⟩ := pr_at hp q1
          rw [q1] at e1
          rw [hu] at e2
          cases e1; cases e2
          exact ⟨u, rfl, ru⟩
      · rw [List.getElem?_append_right (by rw [List.length_map]; omega), List.length_map] at e1
        have : x = .any := by
          obtain ⟨_, h2⟩ := List.getElem?_eq_some_iff.mp e1
          rw [← h2, List.getElem_replicate]
        subst this
        trivial
  refine wpSs_mono (body cdv A outer s0 H0 E as s hr hΦ ⟨F, H0⟩ F H0 _ hsat tk0) (fun σ' H' ⟨F', ss', hs', k⟩ => q _ F' H' hs'.g (k F')) (fun v H' z => by rcases RtP.two z (fun _ _ q => q) (fun _ _ q => q) with ⟨F', s', g, r, k⟩ | ⟨_, _, _, _, _, _, _, _, z⟩ <;> first | exact q v F' H' g (k F' v r) | exact z.elim) (fun _ _ ⟨_, _, _, z⟩ => z) (fun _ _ ⟨_, _, _, z⟩ => z)
theorem callee_mk {P : Program} {w : World} {K : PySem.W.Frag} {mg : Str → Option Value} {base : Heap} {k : Nat} {x : Str} {f : Addr} {fd : FuncData} {ps : List Str} {Φ : List S → S → Prop} (G : FnOk P w K mg base CX0 k f fd ps (spOf Φ)) (hm : mg x = some (.ref f)) (hk : PySem.W.keepIn K (.ref f) = true) (hb : Binds K fd ps []) :
    Callee P w K mg base k x Φ := ⟨f, fd, ps, G, hm, hk, hb⟩
end Sx
namespace Sx
variable [Tbs]
open PySem PySem.Spec PyProof.Rows L2

/-! ### instances -/
def Fds (F : Hp) (fs : List (Str × S)) (vs : List (Str × V)) : Prop := Paired (fun (a : Str × S) (b : Str × V) => a.1 = b.1 ∧ a.2.r F b.2) fs vs
theorem Fds.mono {F F' : Hp} {fs : List (Str × S)} {vs : List (Str × V)} (e : Same F F') (h : Fds F fs vs) : Fds F' fs vs := Paired.mapP h fun _ _ q => ⟨q.1, S.mono _ e q.2⟩
theorem fds_get {F : Hp} {f : Str} {s : S} : ∀ {fs : List (Str × S)} {vs : List (Str × V)}, Fds F fs vs → fs.lookup f = some s → ∃ v, vs.lookup f = some v ∧ s.r F v
  | [], _, _, e => by cases e
  | (g, t) :: fs, vs, h, e => by
    have h' : Paired (fun (a : Str × S) (b : Str × V) => a.1 = b.1 ∧ a.2.r F b.2) ((g, t) :: fs) vs := h
    cases h' with
    | @cons _ b _ vs' r tl =>
      obtain ⟨g', v⟩ := b
      have eg : g = g' := r.1
      subst eg
      rw [List.lookup_cons] at e ⊢
      cases q : f == g with
      | true =>
        rw [q] at e
        cases e
        exact ⟨v, rfl, r.2⟩
      | false =>
        rw [q] at e
        exact fds_get (fs := fs) (vs := vs') tl e
def putS (f : Str) (s : S) : List (Str × S) → List (Str × S)
  | [] => [(f, s)]
  | (g, x) :: r => if g = f then (g, s) :: r else (g, x) :: putS f s r
theorem fds_put {F : Hp} {f : Str} {s : S} {v : V} (r : s.r F v) : ∀ {fs : List (Str × S)} {vs : List (Str × V)}, Fds F fs vs → Fds F (putS f s fs) (putF f v vs)
  | [], vs, h => by
    have h' : Paired (fun (a : Str × S) (b : Str × V) => a.1 = b.1 ∧ a.2.r F b.2) [] vs := h
    cases h'
    exact .cons ⟨rfl, r⟩ .nil
  | (g, t) :: fs, vs, h => by
    have h' : Paired (fun (a : Str × S) (b : Str × V) => a.1 = b.1 ∧ a.2.r F b.2) ((g, t) :: fs) vs := h
    cases h' with
    | @cons _ b _ vs' q tl =>
      obtain ⟨g', u⟩ := b
      have eg : g = g' := q.1
      subst eg
      unfold putS putF
      by_cases z : g = f
      · rw [if_pos z, if_pos z]
        exact .cons ⟨rfl, r⟩ tl
      · rw [if_neg z, if_neg z]
        exact .cons ⟨rfl, q.2⟩ (fds_put r (fs := fs) (vs := vs') tl)
theorem Fds.len {F : Hp} {fs : List (Str × S)} {vs : List (Str × V)} (h : Fds F fs vs) : vs.length = fs.length := (Paired.length h).symm
/-- an instance of the class at C, at an address of which q holds -/
def oIns (C : Addr) (q : Addr → Prop) (fs : List (Str × S)) : O := ⟨fun F h p => q p ∧ ∃ dx vs, h p = some (.ins C dx vs) ∧ Fds F fs vs, fun e ⟨z, dx, vs, k, h⟩ => ⟨z, dx, vs, k, h.mono e⟩⟩
abbrev sIns (C : Addr) (fs : List (Str × S)) : S := sO (oIns C (fun _ => True) fs)
section
variable {X : Cx} {ss : List Sl} {e a b c : Expr} {es : List Expr} {ρ τ κ : R} {s t : S} {o : O} {pos p p2 : Pos} {k : Nat} {α β : Type} {T : α → S} {U : β → S} {xs ys : List α} {x y : α} {i j : Int} {C : Addr} {q : Addr → Prop} {fs : List (Str × S)} {D : Ds} {f : Str}
theorem ev_fld (he : EvE X ss e (bO (oIns C q fs))) (hl : fs.lookup f = some s) (hc : Cls X.K C) (hn : NoAttr X.K C f) (hb : attributeBase e f X.env (eval e X.env) = eval e X.env := by rfl) : EvE X ss (.Attribute e f pos) (sv s) := .mk fun B F H σ h Q z =>
  toE (pe_fld PEw hb) (he B F H σ h _ fun v F' H' g ⟨p, k, e1, hk, _, dx, vs, hp, hf⟩ => by
    obtain ⟨u, hu, ru⟩ := fds_get hf hl
    exact ⟨p, C, dx, vs, u, e1, hk _ _ hp, hc, hn, hu, z u F' H' g ru⟩)
/-- x.f = e, x an own instance -/
theorem s_fld (i : Nat) {x : Str} {px pa : Pos} (hi : ss[i]? = some (.own (oIns C q fs))) (he : EvE X ss e (sv s)) (hc : Cls X.K C) (hn : NoAttr X.K C f) (k : D.nx (ss.set i (.own (oIns C q (putS f s fs))))) (hN : X.N[i]? = some x := by rfl)
    (hv : Vis X.env.scope x := by first | exact Or.inl rfl | exact Or.inr (Or.inl rfl) | exact Or.inr (Or.inr rfl)) (hd : (x == ("__debug__" : Str)) = false := by decide) (hcd : (x == ("__classdict__" : Str)) = false := by decide) (hl : fs.length < 1000 := by exact Nat.le_of_ble_eq_true rfl)
    (hs : swapsWith e (some (.Attribute (.Name x px) f pa)) pos.line X.env = pure false := by rfl) : EvS X ss (.Assign [.Attribute (.Name x px) f pa] e pos) D := .mk fun B F H σ h tk =>
  toS (ps_fld (pe_var hN hv hd hcd) PEw hs) (he B F H σ h _ fun v F' H' g r => by
    obtain ⟨p, c, e1, hc', ⟨hq, dx, vs, hp, hf⟩, wr⟩ := (h.grow g).write hi
    refine ⟨_, e1, p, C, dx, vs, rfl, (hc' _ _ hp).1, hc, hn, by rw [hf.len]; exact hl, ?_⟩
    refine ⟨F', _, wr (oIns C q (putS f s fs)) (upd c p (.ins C dx (putF f v vs))) _ (fun a ob za ea => ?_) (fun a ob ea => ?_) (fun a ob na ea => ?_) (fun a ob ea na => ?_) ⟨hq, dx, _, upd_same, fds_put r hf⟩, k⟩
    · have ha : a ≠ p := fun z => by
        subst z
        rw [hp] at ea
        cases ea
        exact za.elim
      rw [upd_ne ha]
      exact (hc' _ _ ea).1
    · by_cases ha : a = p
      · subst ha
        rw [upd_same] at ea ⊢
        exact ea
      · rw [upd_ne ha] at ea ⊢
        exact (hc' _ _ ea).1
    · rw [upd_ne (fun z => by subst z; rw [hp] at na; cases na)]
      exact ea
    · by_cases ha : a = p
      · subst ha
        rw [hp] at na
        cases na
      · rw [upd_ne ha, na] at ea
        cases ea)
end
/-- H without what stands at x -/
def hid (x : Addr) (H : Hp) : Hp := fun a => if a = x then none else H a
theorem hid_some {x a : Addr} {H : Hp} {o : HO} (h : hid x H a = some o) : a ≠ x ∧ H a = some o := by
  unfold hid at h
  by_cases e : a = x
  · rw [if_pos e] at h; cases h
  · rw [if_neg e] at h; exact ⟨e, h⟩
theorem hid_ne {x a : Addr} {H : Hp} (h : a ≠ x) : hid x H a = H a := by unfold hid; rw [if_neg h]
theorem hid_same {x : Addr} {H : Hp} : hid x H x = none := by unfold hid; rw [if_pos rfl]
theorem TbOk.hid {H : Hp} {D : Addr} {u : HO} (t : TbOk H) (hD : H D = some u) (n : ∀ ps, u ≠ .tbl ps := by exact fun _ z => by cases z) [m : NC u] : TbOk (hid D H) := fun pq hp => by
  obtain ⟨ps, e1, e2, e3⟩ := t pq hp
  refine ⟨ps, ?_, e2, fun pos cv hc => ?_⟩
  · rw [hid_ne fun z => n ps (Option.some.inj (hD.symm.trans (by rw [← z]; exact e1)))]
    exact e1
  · obtain ⟨c, z1, z2⟩ := e3 pos cv hc
    refine ⟨c, z1, ?_⟩
    rw [hid_ne fun z => m.nc c pq.2 (Option.some.inj (hD.symm.trans (by rw [← z]; exact z2)))]
    exact z2
theorem gr_hid {H : Hp} {D : Addr} {u : HO} (t : TbOk H) (hD : H D = some u) (n : ∀ ps, u ≠ .tbl ps := by exact fun _ z => by cases z) [m : NC u] : Gr (hid D H) H := ⟨fun a o _ e => (hid_some e).2, t.hid hD n, t⟩
/-- an __init__: the attributes that it makes -/
def spIn (C : Addr) (Φ : List S → List (Str × S) → Prop) : Sp := fun vs H Q _ => ∃ (F : Hp) (x dx : Addr) (ws : List V) (as : List S) (fs : List (Str × S)), vs = .ref x :: ws ∧ Sm F H ∧ F x = none ∧ H x = some (.ins C dx []) ∧ Paired (fun (a : S) v => a.r F v) as ws ∧ Φ as fs ∧
  ∀ F' H' k, Grow F (hid x H) F' H' → (∀ a ob, k a = some ob → H' a = some ob ∧ hid x H a = none ∧ (F' a = none ∨ IsT ob)) → (oIns C (fun p => p = x) fs).r F' k x → Q .non H'
structure CalleeC (P : Program) (w : World) (K : PySem.W.Frag) (mg : Str → Option Value) (base : Heap) (k : Nat) (x : Str) (C : Addr) (Φ : List S → List (Str × S) → Prop) : Prop where
  ex : ∃ (f : Addr) (fd : FuncData) (ps : List Str), Mk K C f ∧ FnOk P w K mg base CX0 k f fd ps (spIn C Φ) ∧ mg x = some (.ref C) ∧ Binds K fd ps []
/-- the slots at an __init__'s entry -/
theorem init_ok {P : Program} {w : World} {K : PySem.W.Frag} {mg : Str → Option Value} {base : Heap} {x qual : Str} {st : Stmt} {f C : Addr} {fd : FuncData} {N ps : List Str} {k : Nat} {Φ : List S → List (Str × S) → Prop} (F : FunE K x qual st f fd) (Sc : FnScope N ps (defScope st)) (len : ∀ as s, Φ as s → as.length + 1 = ps.length)
    (body : ∀ (cdv : Value) (A : Around) (outer : List Env) (s0 : Shared) (H0 : Hp) (E : XK) (y : Addr) (as : List S) (fs : List (Str × S)), Room k (A.deeper (envOfC qual (defScope st) s0.heap.objs.size f cdv)) → Φ as fs →
      EvSs (cxOf CX0 P w K mg base N qual (defScope st) f cdv A outer s0 H0 E).nox (.own (oIns C (fun p => p = y) []) :: (as.map Sl.val ++ List.replicate (N.length - (as.length + 1)) .any)) (defBody st) { nx := fun ss' => ss'[0]? = some (.own (oIns C (fun p => p = y) fs)), rt := fun s' => False }) :
    FnOk P w K mg base CX0 (k + 1) f fd ps (spIn C Φ) := by
  refine F.ok Sc (fun vs H Q E ⟨F, x, dx, ws, as, fs, ev, _, _, _, hp, hΦ, _⟩ => by rw [ev, List.length_cons, ← Paired.length hp]; exact len as fs hΦ) (fun cdv A outer s0 H0 vs Q E hr h => ?_)
  obtain ⟨F, y, dx, ws, as, fs, rfl, sF, nF, hy, hp, hΦ, q⟩ := h
  refine ⟨_, PSsw, ?_⟩
  have hlen : ws.length = as.length := (Paired.length hp).symm
  have g0 : Grow F (hid y H0) F H0 := ⟨Same.refl _, gr_hid sF.t hy, sF, fun p o e n => by rw [n] at e; cases e⟩
  have hsat : Sat ⟨F, hid y H0⟩ F H0 (L2.start N (.ref y :: ws)) (.own (oIns C (fun p => p = y) []) :: (as.map Sl.val ++ List.replicate (N.length - (as.length + 1)) .any)) := by
    refine ⟨g0, ?_, fun i => if i = 0 then hp1 y (.ins C dx []) else hp0, fun i x v e1 e2 => ?_, ⟨fun i a ob e => ?_, fun i j a o1 o2 e1 e2 => ?_⟩⟩
    · unfold L2.start
      simp only [List.length_cons, List.length_append, List.length_map, List.length_replicate, hlen]
      omega
    · cases i with
      | zero =>
        rw [List.getElem?_cons_zero] at e1
        unfold L2.start at e2
        rw [List.map_cons, List.cons_append, List.getElem?_cons_zero] at e2
        cases e1; cases e2
        exact ⟨y, rfl, rfl, dx, [], hp1_same, .nil⟩
      | succ i =>
        rw [List.getElem?_cons_succ] at e1
        unfold L2.start at e2
        rw [List.map_cons, List.cons_append, List.getElem?_cons_succ] at e2
        by_cases hi : i < as.length
        · rw [List.getElem?_append_left (by rw [List.length_map]; exact hi), List.getElem?_map] at e1
          rw [List.getElem?_append_left (by rw [List.length_map, hlen]; exact hi), List.getElem?_map] at e2
          cases q1 : as[i]? with
          | none => rw [q1] at e1; cases e1
          | some a =>
            obtain ⟨u, hu, ru⟩ := pr_at hp q1
            rw [q1] at e1
            rw [hu] at e2
            cases e1; cases e2
            exact ⟨u, rfl, ru⟩
        · rw [List.getElem?_append_right (by rw [List.length_map]; omega), List.length_map] at e1
          have : x = .any := by
            obtain ⟨_, h2⟩ := List.getElem?_eq_some_iff.mp e1
            rw [← h2, List.getElem_replicate]
          subst this
          trivial
    · by_cases hi : i = 0
      · subst hi
        have e' : hp1 y (.ins C dx []) a = some ob := e
        obtain ⟨rfl, rfl⟩ := hp1_some e'
        exact ⟨hy, hid_same, .inl nF⟩
      · have e' : (if i = 0 then hp1 y (.ins C dx []) else hp0) a = some ob := e
        rw [if_neg hi] at e'
        cases (show (none : Option HO) = some ob from e')
    · by_cases hi : i = 0
      · by_cases hj : j = 0
        · rw [hi, hj]
        · have e' : (if j = 0 then hp1 y (.ins C dx []) else hp0) a = some o2 := e2
          rw [if_neg hj] at e'
          cases (show (none : Option HO) = some o2 from e')
      · have e' : (if i = 0 then hp1 y (.ins C dx []) else hp0) a = some o1 := e1
        rw [if_neg hi] at e'
        cases (show (none : Option HO) = some o1 from e')
  refine wpSs_mono (body cdv A outer s0 H0 E y as fs hr hΦ ⟨F, hid y H0⟩ F H0 _ hsat tk0) (fun σ' H' ⟨F', ss', hs', z⟩ => ?_) (fun v H' z => by rcases RtP.two z (fun _ _ q => q) (fun _ _ q => q) with ⟨_, _, _, _, z⟩ | ⟨_, _, _, _, _, _, _, _, z⟩ <;> exact z.elim) (fun _ _ ⟨_, _, _, z⟩ => z) (fun _ _ ⟨_, _, _, z⟩ => z)
  obtain ⟨p, c, _, hc, hr'⟩ := hs'.own z
  have ep : p = y := hr'.1
  subst ep
  exact q F' H' c hs'.g hc hr'
theorem ev_make {X : Cx} {ss : List Sl} {e : Expr} {es : List Expr} {p pos : Pos} {x : Str} {C : Addr} {Φ : List S → List (Str × S) → Prop} {as : List S} {fs : List (Str × S)} {j k : Nat} (G : CalleeC X.prog X.w X.K X.mg X.base j x C Φ) (hr : Room k X.A) (ha : EvAs X ss (e :: es) as) (hΦ : Φ as fs) (hj : j + 1 ≤ k := by decide) (hg : Gl X x := by rfl)
    (hdb : (x == ("__debug__" : Str)) = false := by decide) (he : starEach (e :: es) X.env = (false, eval e X.env) :: starEach es X.env := by exact star_ok rfl) (hpl : (backTo pos (starEach es X.env)).any (·.1) = false := by rfl) :
    EvN X ss (.Call (.Name x p) (e :: es) [] pos) (oIns C (fun _ => True) fs) := .mk fun B F H σ h Q q => by
  obtain ⟨f, fd, ps, M, G, hm, hb⟩ := G.ex
  refine toE (pe_make M G (hr.mono hj) hg hm hb .nil pass0 PAw hdb he hpl) ?_
  refine ha.go B F H σ h _ fun vs F1 H1 g1 rs x dx nx nd nex => ?_
  rw [List.append_nil]
  have sm : Same H1 (upd (upd H1 dx (.own x)) x (.ins C dx [])) := fun a o ea => by
    rw [upd_ne (ne_of_none ea nx), upd_ne (ne_of_none ea nd)]
    exact ea
  have sh : Same H1 (hid x (upd (upd H1 dx (.own x)) x (.ins C dx []))) := fun a o ea => by
    rw [hid_ne (ne_of_none ea nx)]
    exact sm a o ea
  refine ⟨F1, x, dx, vs, as, fs, rfl, g1.s.ext sm, g1.s.free nx, upd_same, paired_sv rs, hΦ, fun F2 H2 c g2 hc hr => ⟨rfl, ?_⟩⟩
  have g3 : Grow F1 H1 F2 H2 := ⟨g2.f, Gr.pre g1.s.t sh g2.h, g2.s, fun a o e1 e2 => (g2.n a o e1 e2).imp sh.free id⟩
  exact q x F2 H2 c (g1.trans g3) (fun a ob ea => ⟨g1.h.free (sh.free (hc a ob ea).2.1), (hc a ob ea).2.2, (hc a ob ea).1⟩) ⟨trivial, hr.2⟩
end Sx
namespace Sx
variable [Tbs]
open PySem PySem.Spec PyProof.Rows L2

/-! ### tuple * 0, tuple * 1 -/
omit [Tbs] in
theorem tuple_mul1 (l : Addr) (items : Array Value) (n : Nat) (dd : Option Addr) (sl : Array (Option Value)) (u : Tok) :
    Meets (Builtin.«tuple.__mul__» ⟨[.ref l, .int 1 u], []⟩) (fun _ R s => s.heap.get? l = some { cls := .type "tuple", dict := dd, data := .seq items n, slots := sl } ∧ R (.ok (.ret (Value.ref l))) s) :=
  .of_wp fun prog w A R s h => by
    obtain ⟨hp, g, d, tk, os⟩ := s
    obtain ⟨hl, h⟩ := h
    have f1 := AutoSeq1.idx_int
    wp_walk using wpAny_loadPart' hl
    repeat (first
      | (refine wpAny_ite_false (by decide) ?_; wp_walk using wpAny_loadPart' hl)
      | (refine wpAny_ite_true (by simp) ?_; wp_walk using wpAny_loadPart' hl))
    exact ⟨_, rfl, h⟩
omit [Tbs] in
theorem tuple_mul0 (l : Addr) (items : Array Value) (n : Nat) (dd : Option Addr) (sl : Array (Option Value)) (u : Tok) (ne : items.isEmpty = false) :
    Meets (Builtin.«tuple.__mul__» ⟨[.ref l, .int 0 u], []⟩) (fun _ R s => s.heap.get? l = some { cls := .type "tuple", dict := dd, data := .seq items n, slots := sl } ∧ R (.ok (.ret (Value.ref s.heap.objs.size))) { s with heap := s.heap.push { cls := Value.type "tuple", data := Data.seq #[] } }) :=
  .of_wp fun prog w A R s h => by
    obtain ⟨hp, g, d, tk, os⟩ := s
    obtain ⟨hl, h⟩ := h
    have f1 := AutoSeq1.idx_int
    wp_walk using wpAny_loadPart' hl
    repeat (first
      | (refine wpAny_ite_false (by decide) ?_; wp_walk using wpAny_loadPart' hl)
      | (refine wpAny_ite_false (by rw [ne]; decide) ?_; wp_walk using wpAny_loadPart' hl)
      | (refine wpAny_ite_true (by simp) ?_; wp_walk using wpAny_loadPart' hl))
    exact ⟨_, rfl, h⟩
def rRepA (K : PySem.W.Frag) : R2 := fun x y H Q => ∃ l k xs, x = .ref l ∧ y = .int k ∧ SqT K H l xs ∧ xs ≠ [] ∧ 0 ≤ k ∧ k ≤ 1000 ∧ xs.length ≤ 1000 ∧ (k = 1 → Q (.ref l) H) ∧ (k ≠ 1 → ∀ p, H p = none → Q (.ref p) (upd H p (.tup (List.replicate k.toNat xs).flatten)))
omit [Tbs] in
theorem op_repA {X : Cx} : OpR X (binaryOp .Mult) (rRepA X.K) := by
  intro pins s σ H x y v u Q I rx ry h
  obtain ⟨l, k, xs, rfl, rfl, hT, hne, h1, h2, hz, q1, q2⟩ := h
  by_cases hk2 : 2 ≤ k
  · exact op_repT pins s σ H _ _ v u Q I rx ry ⟨l, k, xs, rfl, rfl, hT, hne, hk2, h2, hz, q2 (by omega)⟩
  · cases rx
    obtain ⟨t, rfl⟩ := ry
    obtain ⟨its, r, ⟨⟨cls, dd, data, sl⟩, ho, hc, n, hd⟩, hs⟩ := I.tuple hT
    simp only at hc hd
    subst hc hd
    have hi : its.toArray.isEmpty = false := by
      cases its with
      | nil =>
        have := r.length
        exact absurd (List.eq_nil_of_length_eq_zero this) hne
      | cons a b => rfl
    by_cases hk1 : k = 1
    · subst hk1
      exact wpAny_binaryOp_repeat_ref (T := "tuple") (U := "int") (by decide) ⟨_, ho, rfl⟩ (fun s' => typeIs_int s' 1 t) noFill_tuple_mul F.fills_int_mul F.slot_int_rmul repeat_tuple F.slot_int_index.lookup
        (call_meets F.slot_int_rmul (typeIs_int s 1 t) F.entry_int_rmul (F.args_int_rmul_2 _ _) (int_rmul_tuple 1 t l its.toArray n dd sl)
          ⟨ho, rfl, ⟨_, ho, rfl⟩, call_meets F.slot_tuple_mul ⟨_, ho, rfl⟩ F.entry_tuple_mul (F.args_tuple_mul_2 _ _) (tuple_mul1 l its.toArray n dd sl t) ⟨ho, ⟨.ref l, H, I, rfl, q1 rfl⟩⟩⟩)
    · have hk0 : k = 0 := by omega
      subst hk0
      refine wpAny_binaryOp_repeat_ref (T := "tuple") (U := "int") (by decide) ⟨_, ho, rfl⟩ (fun s' => typeIs_int s' 0 t) noFill_tuple_mul F.fills_int_mul F.slot_int_rmul repeat_tuple F.slot_int_index.lookup
        (call_meets F.slot_int_rmul (typeIs_int s 0 t) F.entry_int_rmul (F.args_int_rmul_2 _ _) (int_rmul_tuple 0 t l its.toArray n dd sl)
          ⟨ho, rfl, ⟨_, ho, rfl⟩, call_meets F.slot_tuple_mul ⟨_, ho, rfl⟩ F.entry_tuple_mul (F.args_tuple_mul_2 _ _) (tuple_mul0 l its.toArray n dd sl t hi) ⟨ho, ?_⟩⟩)
      refine ⟨.ref s.heap.objs.size, _, I.laid (t' := s.toks) (o := .tup (List.replicate (0 : Int).toNat xs).flatten) (fun b ob q => Heap.get?_push_of_some _ q) (Nat.le_refl _) ?_, rfl, q2 (by decide) _ (I.hok.fresh (Nat.le_refl _))⟩
      exact ⟨Nat.zero_le _, _, .nil, IsTup.new _ _⟩
section
variable {X : Cx} {ss : List Sl} {e a b c : Expr} {es : List Expr} {ρ τ κ : R} {s t : S} {o : O} {pos p p2 : Pos} {k : Nat} {α β : Type} {T : α → S} {U : β → S} {xs ys : List α} {x y : α} {i j : Int}
omit [Tbs] in
theorem its_rep {F : Hp} {vs : List V} (h : Its T F xs vs) : ∀ n : Nat, Its T F (List.replicate n xs).flatten (List.replicate n vs).flatten
  | 0 => Its.nil
  | n + 1 => by
    rw [List.replicate_succ, List.replicate_succ, List.flatten_cons, List.flatten_cons]
    exact h.app (its_rep h n)
/-- t * n, t a written display or another tuple -/
theorem ev_repT (ha : EvE X ss a (sv (sO (oTup T xs)))) (hb : EvE X ss b (sv (sInt i))) (hne : xs ≠ []) (h0 : 0 ≤ i) (h1 : i ≤ 1000) (hl : xs.length ≤ 1000) : EvE X ss (.BinOp a .Mult b pos) (sv (sO (oTup T (List.replicate i.toNat xs).flatten))) :=
  ev_bin op_repA ha hb fun F H v w Q sF ⟨p1, k1, e1, h1', vs, e3, i1⟩ e2 q => by
    have e2' : w = .int i := e2
    subst e1 e2'
    refine ⟨p1, i, vs, rfl, rfl, SqT.of (sF _ _ (h1' _ _ e3)), fun z => ?_, h0, h1, by rw [i1.len]; exact hl, fun z => ?_, fun z p np => ?_⟩
    · subst z
      exact hne (List.eq_nil_of_length_eq_zero i1.len.symm)
    · subst z
      refine q _ F H (.refl sF) ⟨p1, k1, rfl, h1', vs, e3, ?_⟩
      simpa using i1
    · have gn := grow_new1 (ob := .tup (List.replicate i.toNat vs).flatten) sF np
      exact q _ _ _ gn ⟨p, hp1 p _, rfl, hp1_in, _, hp1_same, (its_rep i1 _).mono gn.f⟩
/-- z[lo:hi] of a text -/
theorem ev_slS {lo hi : Option Expr} {l u : Option Int} {z : Str} (ha : EvE X ss a (sv (sStr z))) (hl : EvO X ss lo l) (hu : EvO X ss hi u) (hz : z.length ≤ sizeLine) : EvE X ss (.Subscript a (.Slice lo hi none p2) pos) (sv (sStr (cutS z l u))) := .mk fun B F H σ h Q q => by
  obtain ⟨tl, pl, kl⟩ := hl
  obtain ⟨tu, pu, ku⟩ := hu
  exact toE (pe_slice sl_str PEw pl pu) (ha B F H σ h _ fun v F1 H1 g1 r1 => kl B F1 H1 σ (h.grow g1) _ fun F2 H2 g2 => ku B F2 H2 σ ((h.grow g1).grow g2) _ fun F3 H3 g3 =>
    ⟨z, r1.1, hz, q _ F3 H3 ((g1.trans g2).trans g3) ⟨rfl, strOk_sub r1.2 fun n hn => List.mem_of_mem_drop (List.mem_of_mem_take hn)⟩⟩)
theorem ev_ltS {x y : Str} (ha : EvE X ss a (sv (sStr x))) (hb : EvE X ss b (sv (sStr y))) : EvE X ss (.Compare a [.Lt] [b] pos) (sv (sBool (decide (x.cps.toList < y.cps.toList)))) :=
  ev_cmp op_lt_str ha hb (fun F H v w Q sF e1 e2 q => ⟨x, y, e1.1, e2.1, q _ F H (.refl sF) rfl⟩) (nomark _)
theorem ev_gtS {x y : Str} (ha : EvE X ss a (sv (sStr x))) (hb : EvE X ss b (sv (sStr y))) : EvE X ss (.Compare a [.Gt] [b] pos) (sv (sBool (decide (y.cps.toList < x.cps.toList)))) :=
  ev_cmp op_gt_str ha hb (fun F H v w Q sF e1 e2 q => ⟨x, y, e1.1, e2.1, q _ F H (.refl sF) rfl⟩) (nomark _)
theorem et_ltS {x y : Str} (ha : EvE X ss a (sv (sStr x))) (hb : EvE X ss b (sv (sStr y))) : EvT X ss (.Compare a [.Lt] [b] pos) (decide (x.cps.toList < y.cps.toList)) :=
  ev_cmpT op_lt_str ha hb (fun F H v w Q sF e1 e2 q => ⟨x, y, e1.1, e2.1, q⟩) (nomark _)
theorem et_gtS {x y : Str} (ha : EvE X ss a (sv (sStr x))) (hb : EvE X ss b (sv (sStr y))) : EvT X ss (.Compare a [.Gt] [b] pos) (decide (y.cps.toList < x.cps.toList)) :=
  ev_cmpT op_gt_str ha hb (fun F H v w Q sF e1 e2 q => ⟨x, y, e1.1, e2.1, q⟩) (nomark _)
omit [Tbs] in
/-- x in (texts ..), a tuple or a list -/
theorem inV_strs {F : Hp} {z : Str} : ∀ {xs : List Str} {vs : List V}, Its sStr F xs vs → inV (.str z) vs = decide (z ∈ xs) ∧ vs.all flatV = true
  | [], vs, h => by
    have e : vs = [] := List.eq_nil_of_length_eq_zero h.len
    subst e
    exact ⟨by simp [inV], rfl⟩
  | x :: xs, vs, h => by
    have h' : Paired (fun x v => (sStr x).r F v) (x :: xs) vs := h
    cases h' with
    | cons r t =>
      obtain ⟨e, _⟩ := r
      subst e
      obtain ⟨a1, a2⟩ := inV_strs (F := F) (z := z) (show Its sStr F _ _ from t)
      refine ⟨?_, by rw [List.all_cons, a2]; rfl⟩
      unfold inV at a1 ⊢
      rw [List.any_cons, a1]
      by_cases hz : x = z
      · subst hz
        simp [eqV]
      · have hz' : ¬ z = x := fun q => hz q.symm
        simp [eqV, hz, hz']
theorem ev_inS {z : Str} {xs : List Str} [hq : AsSq X.K ρ sStr xs] (ha : EvE X ss a (sv (sStr z))) (hb : EvE X ss b ρ) (hm : behindInMarks .In b = false := by rfl) : EvE X ss (.Compare a [.In] [b] pos) (sv (sBool (decide (z ∈ xs)))) :=
  ev_cmp op_in_seq ha hb (fun F H v w Q sF e1 e2 q => by
    obtain ⟨p, vs, e3, hs, hi⟩ := hq.w F H w sF e2
    obtain ⟨a1, a2⟩ := inV_strs (z := z) hi
    rw [e1.1]
    refine ⟨p, vs, e3, hs, rfl, a2, ?_⟩
    rw [if_neg Bool.false_ne_true, a1]
    exact q _ F H (.refl sF) rfl) hm
theorem et_inS {z : Str} {xs : List Str} [hq : AsSq X.K ρ sStr xs] (ha : EvE X ss a (sv (sStr z))) (hb : EvE X ss b ρ) (hm : behindInMarks .In b = false := by rfl) : EvT X ss (.Compare a [.In] [b] pos) (decide (z ∈ xs)) :=
  ev_cmpT op_in_seq ha hb (fun F H v w Q sF e1 e2 q => by
    obtain ⟨p, vs, e3, hs, hi⟩ := hq.w F H w sF e2
    obtain ⟨a1, a2⟩ := inV_strs (z := z) hi
    rw [e1.1]
    refine ⟨p, vs, e3, hs, rfl, a2, ?_⟩
    rw [if_neg Bool.false_ne_true, a1]
    exact q) hm
theorem et_ninS {z : Str} {xs : List Str} [hq : AsSq X.K ρ sStr xs] (ha : EvE X ss a (sv (sStr z))) (hb : EvE X ss b ρ) (hm : behindInMarks .NotIn b = false := by rfl) : EvT X ss (.Compare a [.NotIn] [b] pos) (!decide (z ∈ xs)) :=
  ev_cmpT op_notIn_seq ha hb (fun F H v w Q sF e1 e2 q => by
    obtain ⟨p, vs, e3, hs, hi⟩ := hq.w F H w sF e2
    obtain ⟨a1, a2⟩ := inV_strs (z := z) hi
    rw [e1.1]
    refine ⟨p, vs, e3, hs, rfl, a2, ?_⟩
    rw [if_pos rfl, a1]
    exact q) hm
omit [Tbs] in
/-- all(xs), any(xs) of a list of bools -/
theorem its_bls {F : Hp} : ∀ {bs : List Bool} {vs : List V}, Its sBool F bs vs → vs = bs.map V.bl
  | [], vs, h => List.eq_nil_of_length_eq_zero h.len
  | x :: xs, vs, h => by
    have h' : Paired (fun x v => (sBool x).r F v) (x :: xs) vs := h
    cases h' with
    | cons r t =>
      have e : _ = V.bl x := r
      subst e
      rw [List.map_cons, its_bls (F := F) (show Its sBool F _ _ from t)]
theorem ev_all {bs : List Bool} (hc : X.calm = true) [hq : AsLs X.K ρ sBool bs] (hm : X.mg "all" = none) (ha : EvE X ss a ρ) (hg : Gl X "all" := by rfl) (he : starEach [a] X.env = (false, eval a X.env) :: starEach [] X.env := by exact star_ok rfl) (hpl : (backTo pos (starEach [] X.env)).any (·.1) = false := by rfl) :
    EvE X ss (.Call (.Name "all" p) [a] [] pos) (sv (sBool (bs.all id))) :=
  ev_cb (cr_all hc) hm PyProof.Rows.boot_all (ea_cons ha ea_nil he) (fun F H vs Q sF rs q => by
    cases rs with
    | cons r rr =>
      cases rr
      obtain ⟨p, ws, e1, hw, hi⟩ := hq.w F H _ sF r
      rw [its_bls hi] at hw
      subst e1
      exact ⟨p, bs, rfl, hw, q _ F H (.refl sF) rfl⟩) hg (he := he) (hpl := hpl)
theorem ev_any {bs : List Bool} (hc : X.calm = true) [hq : AsLs X.K ρ sBool bs] (hm : X.mg "any" = none) (ha : EvE X ss a ρ) (hg : Gl X "any" := by rfl) (he : starEach [a] X.env = (false, eval a X.env) :: starEach [] X.env := by exact star_ok rfl) (hpl : (backTo pos (starEach [] X.env)).any (·.1) = false := by rfl) :
    EvE X ss (.Call (.Name "any" p) [a] [] pos) (sv (sBool (bs.any id))) :=
  ev_cb (cr_any hc) hm PyProof.Rows.boot_any (ea_cons ha ea_nil he) (fun F H vs Q sF rs q => by
    cases rs with
    | cons r rr =>
      cases rr
      obtain ⟨p, ws, e1, hw, hi⟩ := hq.w F H _ sF r
      rw [its_bls hi] at hw
      subst e1
      exact ⟨p, bs, rfl, hw, q _ F H (.refl sF) rfl⟩) hg (he := he) (hpl := hpl)
/-! ### a tuple whose object is known (its methods can be called) -/
def ExT (ob : HO) (vs : List V) : Prop := ∃ o, ob = .frz o (.tup vs) ∧ o.cls = .type "tuple" ∧ o.dict = none
def oTupX {α : Type} (T : α → S) (xs : List α) : O := ⟨fun F h p => ∃ ob vs, h p = some ob ∧ ExT ob vs ∧ Its T F xs vs, fun e ⟨ob, vs, q, z, h⟩ => ⟨ob, vs, q, z, h.mono e⟩⟩
/-- a list, or such a tuple -/
def oNm {α : Type} (T : α → S) (xs : List α) : O := ⟨fun F h p => ∃ ob vs, h p = some ob ∧ (ob = .lst vs ∨ ExT ob vs) ∧ Its T F xs vs, fun e ⟨ob, vs, q, z, h⟩ => ⟨ob, vs, q, z, h.mono e⟩⟩
omit [Tbs] in
theorem ExT.sq {K : PySem.W.Frag} {H : Hp} {p : Addr} {ob : HO} {vs : List V} (h : H p = some ob) (x : ExT ob vs) : SqT K H p vs := by
  obtain ⟨o, rfl, _⟩ := x
  exact .inl (.inr ⟨o, h⟩)
instance {K : PySem.W.Frag} : AsTp K (sv (sO (oTupX T xs))) T xs := ⟨fun F H v e ⟨p, k, e1, hk, ob, vs, hp, hx, hi⟩ => ⟨p, vs, e1, hx.sq (e _ _ (hk _ _ hp)), hi⟩⟩
instance {K : PySem.W.Frag} : AsSq K (sv (sO (oNm T xs))) T xs := ⟨fun F H v e ⟨p, k, e1, hk, ob, vs, hp, hx, hi⟩ => ⟨p, vs, e1, by
  rcases hx with rfl | hx
  · exact .inl (SqL.of (e _ _ (hk _ _ hp)))
  · exact .inr (hx.sq (e _ _ (hk _ _ hp))), hi⟩⟩
instance [TyD T] : TyD (fun xs => sO (oTupX T xs)) where
  d := fun xs => .tuple (xs.map (TyD.d T))
  dep := TyD.dep T + 1
  ok := fun {K F v x} h => by
    obtain ⟨p, k, e, hk, ob, vs, hp, hx, hi⟩ := h
    subst e
    obtain ⟨a, b, c⟩ := its_dp (T := T) (K := K) hi
    exact ⟨.tup (hx.sq (hk _ _ hp)) a, by rw [PyData.canLay0]; exact b, by rw [PyData.depth]; exact Nat.succ_le_succ c⟩
instance [DecidableEq α] [TyQ T] : TyQ (fun xs => sO (oTupX T xs)) where
  q := fun xs ys => by
    show PyData.eqv (.tuple _) (.tuple _) = _
    rw [PyData.eqv]
    exact eqv_alls xs ys
theorem EvE.lnm (he : EvE X ss e (sv (sO (oLst T xs)))) : EvE X ss e (sv (sO (oNm T xs))) := he.impS fun F v ⟨p, k, e1, hk, vs, hp, hi⟩ => ⟨p, k, e1, hk, _, vs, hp, .inl rfl, hi⟩
theorem EvE.tnm (he : EvE X ss e (sv (sO (oTupX T xs)))) : EvE X ss e (sv (sO (oNm T xs))) := he.impS fun F v ⟨p, k, e1, hk, ob, vs, hp, hx, hi⟩ => ⟨p, k, e1, hk, ob, vs, hp, .inr hx, hi⟩
omit [Tbs] in
theorem call_tuple_ofX : CallR X (.type "tuple") (fun xs H Q => ∃ p ys, xs = [.ref p] ∧ SqL X.K H p ys ∧ ∀ l ob, H l = none → ExT ob ys → Q (.ref l) (upd H l ob)) := by
  intro pins s σ H xs us Q I r h
  obtain ⟨p, ys, rfl, hq, q⟩ := h
  obtain ⟨u, rfl, rx⟩ := vals1 r
  cases rx
  obtain ⟨its, r', pl, hz⟩ := I.list hq
  have hlen := r'.length
  refine call_tuple_list pl.isList (fun h' kp => ?_) (by simp only [List.size_toArray] <;> omega)
  have I1 : Inv X pins σ H { s with heap := h' } := I.kept (t' := s.toks) kp
  have I2 : Inv X pins σ (upd H h'.objs.size (.frz { cls := .type "tuple", data := .seq its.toArray } (.tup ys))) { s with heap := h'.push { cls := .type "tuple", data := .seq its.toArray } } :=
    I1.laid (t' := s.toks) (fun b o e => Heap.get?_push_of_some _ e) (Nat.le_refl _) ⟨Heap.get?_push_size _ rfl, hz, its, r', IsTup.new _ _⟩
  exact ⟨.ref h'.objs.size, _, I2, rfl, q _ _ (I1.hok.fresh (Nat.le_refl _)) ⟨_, rfl, rfl, rfl⟩⟩
theorem ev_tupX [hq : AsLs X.K ρ T xs] (hm : X.mg "tuple" = none) (ha : EvE X ss a ρ) (hg : Gl X "tuple" := by rfl) (he : starEach [a] X.env = (false, eval a X.env) :: starEach [] X.env := by exact star_ok rfl) (hpl : (backTo pos (starEach [] X.env)).any (·.1) = false := by rfl) :
    EvN X ss (.Call (.Name "tuple" p) [a] [] pos) (oTupX T xs) :=
  ev_ctN call_tuple_ofX hm (by decide +kernel) (ea_cons ha ea_nil he) (fun F H vs Q sF rs q => by
    cases rs with
    | cons r rr =>
      cases rr
      obtain ⟨p, ws, e1, hw, hi⟩ := hq.w F H _ sF r
      subst e1
      exact ⟨p, ws, rfl, hw, fun l ob hl hx => q l _ hl ⟨_, ws, hp1_same, hx, hi⟩⟩) hg (he := he) (hpl := hpl)
omit [Tbs] in
/-- names.index(x), a list or such a tuple of texts -/
theorem its_strs {F : Hp} : ∀ {xs : List Str} {vs : List V}, Its sStr F xs vs → vs = xs.map V.str
  | [], vs, h => List.eq_nil_of_length_eq_zero h.len
  | x :: xs, vs, h => by
    have h' : Paired (fun x v => (sStr x).r F v) (x :: xs) vs := h
    cases h' with
    | cons r t =>
      obtain ⟨e, _⟩ := r
      subst e
      rw [List.map_cons, its_strs (F := F) (show Its sStr F _ _ from t)]
theorem ev_index {xs : List Str} {z : Str} {n : Nat} {apos cpos : Pos} (ha : EvE X ss a (sv (sO (oNm sStr xs)))) (hb : EvE X ss b (sv (sStr z))) (hz : xs[n]? = some z) (hno : ∀ m, m < n → xs[m]? ≠ some z)
    (hbase : attributeBase a "index" X.env (eval a X.env) = eval a X.env := by rfl)
    (hfew : ((backTo cpos (starEach [b] X.env)).all (fun x => !x.1) && (backToKw cpos (keywordEach [] X.env)).all (fun x => x.1.isSome)
      && decide ([b].length + ([] : List Keyword).length + (if ([] : List Keyword).isEmpty then 0 else 1) < 30)) = true := by rfl)
    (hline : (apos.endLine == cpos.line) = true := by rfl) (hs : starEach [b] X.env = (false, eval b X.env) :: starEach [] X.env := by exact star_ok rfl) (hplain : (backTo cpos (starEach [] X.env)).any (·.1) = false := by rfl) :
    EvE X ss (.Call (.Attribute a "index" apos) [b] [] cpos) (sv (sInt (n : Int))) := .mk fun B F H σ h Q q => by
  intro pins s I
  refine wpAny_Call_method_late hbase hfew hline rfl (thn (ha B F H σ h (fun v H' => ∃ F', Grow F H F' H' ∧ (sO (oNm sStr xs)).r F' v) (fun v F' H' g r => ⟨F', g, r⟩) pins s I) fun v s1 ⟨x, H1, I1, r1, F1, g1, p, k, e1, hk, ob, vs, hp, hx, hi⟩ => ?_)
  subst e1
  cases r1
  have ev := its_strs hi
  subst ev
  have h1 := h.grow g1
  have hA := (pa_cons (PEw (e := b)) pa_nil hs).run cpos pins s1 σ H1 (fun vs' H2 => ∃ F2, Grow F1 H1 F2 H2 ∧ vs' = [V.str z]) I1 (hb B F1 H1 σ h1 _ fun w F2 H2 g2 r2 => ⟨F2, g2, by rw [r2.1]⟩)
  rw [hs] at hA
  have hp1' : H1 p = some ob := g1.s _ _ (hk _ _ hp)
  rcases hx with rfl | hx
  · obtain ⟨its, _, pl, _⟩ := I1.list (SqL.of (K := X.K) hp1')
    refine ⟨"list", "list.index", PySem.F.plainAttrs_list, PySem.F.slot_list_index, PySem.F.type_list_index, pl.isList.typeIs, fun a e => ?_, ?_⟩
    · cases e
      obtain ⟨o, n, e, c, hd, _⟩ := pl
      exact ⟨o, e, hd⟩
    · rw [hs]
      refine Calls.callWith_builtin (by show (false || (backTo cpos (starEach [] X.env)).any (·.1)) = false; rw [hplain] <;> rfl) (Calls.evalArgs_plain ?_)
      refine thn hA fun us s2 ⟨vs', H2, I2, rs, F2, g2, e2⟩ => ?_
      subst e2
      refine mt_index pins s2 σ H2 (.ref p) [.str z] (.ref p) us Q I2 rfl rs ⟨p, xs.map V.str, .str z, n, .str z, rfl, rfl, SqL.of (g2.h.c hp1'), rfl, flat_strs xs, by rw [List.getElem?_map, hz]; rfl, by simp [eqV], fun m z' hm hz' => ?_, q _ F2 H2 (g1.trans g2) rfl⟩
      rw [List.getElem?_map] at hz'
      cases q1 : xs[m]? with
      | none => rw [q1] at hz'; cases hz'
      | some y =>
        rw [q1] at hz'
        cases hz'
        have : y ≠ z := fun e => hno m hm (by rw [q1, e])
        simp [eqV, this]
  · obtain ⟨o, rfl, hc, hd⟩ := hx
    obtain ⟨ho, _⟩ := I1.hok p _ hp1'
    refine ⟨"tuple", "tuple.index", PySem.F.plainAttrs_tuple, PySem.F.slot_tuple_index, PySem.F.type_tuple_index, ⟨o, ho, hc⟩, fun a e => ?_, ?_⟩
    · cases e
      exact ⟨o, ho, hd⟩
    · rw [hs]
      refine Calls.callWith_builtin (by show (false || (backTo cpos (starEach [] X.env)).any (·.1)) = false; rw [hplain] <;> rfl) (Calls.evalArgs_plain ?_)
      refine thn hA fun us s2 ⟨vs', H2, I2, rs, F2, g2, e2⟩ => ?_
      subst e2
      exact mt_tup_index pins s2 σ H2 (.ref p) [.str z] (.ref p) us Q I2 rfl rs ⟨p, xs, z, n, rfl, rfl, .inl (.inr ⟨o, g2.h.c hp1'⟩), hz, hno, q _ F2 H2 (g1.trans g2) rfl⟩
end
end Sx
namespace Sx
variable [Tbs]
open PySem PySem.Spec PyProof.Rows L2
/-- a natural number -/
def sNat (n : Nat) : S := sInt (n : Int)
instance : TyQ sNat where
  d := fun n => .int n
  dep := 0
  ok := fun {K F v x} h => by
    have e : v = .int x := h
    subst e
    exact ⟨.int x, by simp [PyData.canLay0], by simp [PyData.depth]⟩
  q := fun x y => by
    show PyData.eqv (.int x) (.int y) = _
    rw [PyData.eqv, Bool.beq_eq_decide_eq]
    exact decide_eq_decide.mpr ⟨fun h => by omega, fun h => by rw [h]⟩
instance {α : Type} {T : α → S} [TyD T] : TyD (sLst T) := inferInstanceAs (TyD (fun xs => sO (oLst T xs)))
instance {α : Type} {T : α → S} [TyD T] : TyD (sTup T) := inferInstanceAs (TyD (fun xs => sO (oTup T xs)))
instance {α : Type} {T : α → S} [DecidableEq α] [TyQ T] : TyQ (sLst T) := inferInstanceAs (TyQ (fun xs => sO (oLst T xs)))
instance {α : Type} {T : α → S} [DecidableEq α] [TyQ T] : TyQ (sTup T) := inferInstanceAs (TyQ (fun xs => sO (oTup T xs)))
section
variable {X : Cx} {ss : List Sl} {e a b c : Expr} {es : List Expr} {ρ τ κ : R} {s t : S} {o : O} {pos p p2 : Pos} {k : Nat} {α β : Type} {T T' : α → S} {U : β → S} {xs ys : List α} {x y : α} {i j : Int}
omit [Tbs] in
/-- items read otherwise -/
theorem Its.as {F : Hp} {vs : List V} (w : ∀ x v, (T x).r F v → (T' x).r F v) (h : Its T F xs vs) : Its T' F xs vs := Paired.mapP h fun x v q => w x v q
omit [Tbs] in
theorem lst_as {F : Hp} {v : V} (w : ∀ x v, (T x).r F v → (T' x).r F v) (h : (sLst T xs).r F v) : (sLst T' xs).r F v := by
  obtain ⟨p, k, e, hk, vs, hp, hi⟩ := h
  exact ⟨p, k, e, hk, vs, hp, hi.as w⟩
omit [Tbs] in
theorem tup_as {F : Hp} {v : V} (w : ∀ x v, (T x).r F v → (T' x).r F v) (h : (sTup T xs).r F v) : (sTup T' xs).r F v := by
  obtain ⟨p, k, e, hk, vs, hp, hi⟩ := h
  exact ⟨p, k, e, hk, vs, hp, hi.as w⟩
omit [Tbs] in
theorem lst_sq {F : Hp} {v : V} (w : ∀ x v, (T x).r F v → (T' x).r F v) (h : (sLst T xs).r F v) : (sSq T' xs).r F v := by
  obtain ⟨p, k, e, hk, vs, hp, hi⟩ := h
  exact ⟨p, k, e, hk, vs, .inl hp, hi.as w⟩
omit [Tbs] in
theorem tup_sq {F : Hp} {v : V} (w : ∀ x v, (T x).r F v → (T' x).r F v) (h : (sTup T xs).r F v) : (sSq T' xs).r F v := by
  obtain ⟨p, k, e, hk, vs, hp, hi⟩ := h
  exact ⟨p, k, e, hk, vs, .inr hp, hi.as w⟩
/-- tuple(x) of a list or a tuple -/
theorem ev_tupQ (hm : X.mg "tuple" = none) (ha : EvE X ss a (sv (sO (oSq T xs)))) (hg : Gl X "tuple" := by rfl) (na : starEach [a] X.env = (false, eval a X.env) :: starEach [] X.env := by exact star_ok rfl) : EvE X ss (.Call (.Name "tuple" p) [a] [] pos) (sv (sO (oTup T xs))) := .mk fun B F H σ h Q q =>
  toE (pe_tupleOf hg hm PEw na) (ha B F H σ h _ fun v F1 H1 g1 ⟨p1, k1, e1, hk, vs, hp, hi⟩ => by
    subst e1
    rcases hp with hp | hp
    · refine .inl ⟨p1, vs, rfl, SqL.of (g1.s _ _ (hk _ _ hp)), fun l np => ?_⟩
      have gn := grow_new1 (ob := .tup vs) g1.s np
      exact q _ _ _ (g1.trans gn) ⟨l, hp1 l _, rfl, hp1_in, _, hp1_same, hi.mono gn.f⟩
    · exact .inr ⟨p1, vs, rfl, SqT.of (g1.s _ _ (hk _ _ hp)), q _ F1 H1 g1 ⟨p1, k1, rfl, hk, vs, hp, hi⟩⟩)
/-- xs * n -/
theorem ev_repL (ha : EvE X ss a (bO (oLst T xs))) (hb : EvE X ss b (sv (sInt i))) (h0 : -(2 ^ 63) ≤ i) (h1 : i < 2 ^ 63) (hl : xs.length * i.toNat ≤ sizeLine) : EvN X ss (.BinOp a .Mult b pos) (oLst T (List.replicate i.toNat xs).flatten) :=
  ev_binN op_rep ha hb fun F H v w Q sF ⟨p1, k1, e1, hk, vs, e3, i1⟩ e2 q => by
    have e2' : w = .int i := e2
    subst e1 e2'
    exact ⟨p1, i, vs, rfl, rfl, hk _ _ e3, h0, h1, by rw [i1.len]; exact hl, fun p np => q p _ np ⟨_, hp1_same, its_rep i1 _⟩⟩
end
/-! ### sorted -/
def insI (x : Int) : List Int → List Int
  | [] => [x]
  | y :: r => if x ≤ y then x :: y :: r else y :: insI x r
def sortI : List Int → List Int
  | [] => []
  | x :: r => insI x (sortI r)
omit [Tbs] in
theorem insI_perm (x : Int) : ∀ r, (insI x r).Perm (x :: r)
  | [] => .refl _
  | y :: r => by
    unfold insI
    by_cases h : x ≤ y
    · rw [if_pos h]
    · rw [if_neg h]
      exact ((insI_perm x r).cons y).trans (.swap x y r)
omit [Tbs] in
theorem sortI_perm : ∀ r, (sortI r).Perm r
  | [] => .refl _
  | x :: r => (insI_perm x (sortI r)).trans ((sortI_perm r).cons x)
omit [Tbs] in
theorem insI_sorted (x : Int) : ∀ {r : List Int}, r.Pairwise (· ≤ ·) → (insI x r).Pairwise (· ≤ ·)
  | [], _ => by unfold insI; exact List.pairwise_singleton _ _
  | y :: r, h => by
    unfold insI
    rw [List.pairwise_cons] at h
    by_cases hx : x ≤ y
    · rw [if_pos hx, List.pairwise_cons, List.pairwise_cons]
      exact ⟨fun z hz => by
        rcases List.mem_cons.mp hz with e | e
        · rw [e]; exact hx
        · have := h.1 z e
          omega, h⟩
    · rw [if_neg hx, List.pairwise_cons]
      refine ⟨fun z hz => ?_, insI_sorted x h.2⟩
      rcases List.mem_cons.mp ((insI_perm x r).mem_iff.mp hz) with e | e
      · omega
      · exact h.1 z e
omit [Tbs] in
theorem sortI_sorted : ∀ r, (sortI r).Pairwise (· ≤ ·)
  | [] => .nil
  | x :: r => insI_sorted x (sortI_sorted r)
omit [Tbs] in
theorem sorted_eq : ∀ {l m : List Int}, l.Perm m → l.Pairwise (· ≤ ·) → m.Pairwise (· ≤ ·) → l = m
  | [], m, p, _, _ => (List.nil_perm.mp p).symm
  | x :: l, m, p, hl, hm => by
    cases m with
    | nil => exact absurd p.symm (by intro q; have := q.length_eq; simp at this)
    | cons y m =>
      rw [List.pairwise_cons] at hl hm
      have e : x = y := by
        have h1 : x ∈ y :: m := p.mem_iff.mp List.mem_cons_self
        have h2 : y ∈ x :: l := p.mem_iff.mpr List.mem_cons_self
        rcases List.mem_cons.mp h1 with e | e
        · exact e
        · rcases List.mem_cons.mp h2 with e2 | e2
          · exact e2.symm
          · have a1 := hm.1 x e
            have a2 := hl.1 y e2
            omega
      subst e
      rw [sorted_eq (List.Perm.cons_inv p) hl.2 hm.2]
section
variable {X : Cx} {ss : List Sl} {a : Expr} {ρ : R} {pos p : Pos} {ns : List Int}
omit [Tbs] in
theorem its_ints {F : Hp} : ∀ {xs : List Int} {vs : List V}, Its sInt F xs vs → vs = xs.map V.int
  | [], vs, h => List.eq_nil_of_length_eq_zero h.len
  | x :: xs, vs, h => by
    have h' : Paired (fun x v => (sInt x).r F v) (x :: xs) vs := h
    cases h' with
    | cons r t =>
      have e : _ = V.int x := r
      subst e
      rw [List.map_cons, its_ints (F := F) (show Its sInt F _ _ from t)]
omit [Tbs] in
theorem ints_its {F : Hp} : ∀ (xs : List Int), Its sInt F xs (xs.map V.int)
  | [] => Its.nil
  | x :: xs => Its.cons (T := sInt) (x := x) rfl (ints_its xs)
theorem ev_sorted (hm : X.mg "sorted" = none) [hq : AsLs X.K ρ sInt ns] (ha : EvE X ss a ρ) (hl : ns.length < 64) (hg : Gl X "sorted" := by rfl) (he : starEach [a] X.env = (false, eval a X.env) :: starEach [] X.env := by exact star_ok rfl) (hpl : (backTo pos (starEach [] X.env)).any (·.1) = false := by rfl) :
    EvN X ss (.Call (.Name "sorted" p) [a] [] pos) (oLst sInt (sortI ns)) := .mk fun B F H σ h Q q =>
  toE (pe_callB cr_sorted hg hm (by decide +kernel) PAw (by decide) (by decide) he hpl) (ea_cons ha ea_nil he B F H σ h _ fun vs F1 H1 g1 rs => by
    cases rs with
    | cons r rr =>
      cases rr
      obtain ⟨p1, ws, e1, hw, hi⟩ := hq.w F1 H1 _ g1.s r
      rw [its_ints hi] at hw
      subst e1
      refine ⟨p1, ns, rfl, hw, hl, fun ns' l hp hs nl => ?_⟩
      have e2 : ns' = sortI ns := sorted_eq (hp.trans (sortI_perm ns).symm) hs (sortI_sorted ns)
      subst e2
      exact fresh1 q g1 nl ⟨_, hp1_same, ints_its _⟩)
end
end Sx
namespace Sx
variable [Tbs]
open PySem PySem.Spec PyProof.Rows L2
section
variable {X : Cx} {ss : List Sl} {e a b c : Expr} {es : List Expr} {ρ τ κ : R} {s t : S} {o : O} {pos p p2 : Pos} {k : Nat} {α β : Type} {T T' : α → S} {U : β → S} {xs ys : List α} {x y : α} {i j : Int}
theorem ev_nat (h : EvE X ss e (sv (sInt i))) (h0 : 0 ≤ i) : EvE X ss e (sv (sNat i.toNat)) := h.impS fun F v r => by
  have e1 : v = .int i := r
  show v = .int ((i.toNat : Nat) : Int)
  rw [e1, Int.toNat_of_nonneg h0]
/-- an item of a list or tuple whose items are told one by one -/
theorem ev_at {xs : List S} (n : Nat) {j : Nat} {ρ : R} {p1 : Pos} [hq : AsSq X.K ρ id xs] (ha : EvE X ss a ρ) (hx : xs[n]? = some s) (hp : PlainIx (.Constant (.int (n : Int)) j p1) := by exact fun _ _ => rfl) : EvE X ss (.Subscript a (.Constant (.int (n : Int)) j p1) pos) (sv s) := ev_ix (T := id) (x := s) ha ev_int (atI_nat hx) hp
/-- a built-in type, as a value -/
theorem ev_ty {x : Str} {n : String} (hm : X.mg x = none) (hb : bootBuiltins x = some (.type n) := by decide +kernel) (hg : Gl X x := by rfl) (hn : x ≠ "__name__" := by decide) (hd : (x == ("__debug__" : Str)) = false := by decide) : EvE X ss (.Name x pos) (sv (sC (.ty n))) := .mk fun B F H σ h Q q =>
  toE (pe_bltn (v := .ty n) hg hm hb rfl hn hd) (q _ F H (.refl h.s) rfl)
/-- isinstance(a, T), T a built-in type -/
theorem ev_isi {n : String} {w : String} {r : Bool} (hm : X.mg "isinstance" = none) (ha : EvE X ss a ρ) (hb : EvE X ss b (sv (sC (.ty n)))) (ht : ∀ F H v, Sm F H → ρ.r F H v → TyX X.K H v (.type w)) (hk : kitB w n = some r := by decide +kernel) (hg : Gl X "isinstance" := by rfl)
    (he : starEach [a, b] X.env = (false, eval a X.env) :: starEach [b] X.env := by exact star_ok rfl) (he2 : starEach [b] X.env = (false, eval b X.env) :: starEach [] X.env := by exact star_ok rfl) (hpl : (backTo pos (starEach [b] X.env)).any (·.1) = false := by rfl) :
    EvE X ss (.Call (.Name "isinstance" p) [a, b] [] pos) (sv (sBool r)) :=
  ev_cb call_isi hm PyProof.Rows.boot_isinstance (ea_cons ha (ea_cons hb ea_nil he2) he) (fun F H vs Q sF rs q => by
    cases rs with
    | cons r1 rr =>
      cases rr with
      | cons r2 rr =>
        cases rr
        have e2 : _ = V.ty n := r2
        subst e2
        exact ⟨_, _, .type w, .type n, r, rfl, .ty n, ht F H _ sF r1, kit_ty hk, q _ F H (.refl sF) rfl⟩) hg (he := he) (hpl := hpl)
theorem ty_bool {K : PySem.W.Frag} {F H : Hp} {v : V} {b : Bool} (r : (sv (sBool b)).r F H v) : TyX K H v (.type "bool") := by
  have e : v = .bl b := r
  subst e
  exact .base (.bl b)
theorem ty_int {K : PySem.W.Frag} {F H : Hp} {v : V} {b : Int} (r : (sv (sInt b)).r F H v) : TyX K H v (.type "int") := by
  have e : v = .int b := r
  subst e
  exact .base (.int b)
theorem ty_str {K : PySem.W.Frag} {F H : Hp} {v : V} {b : Str} (r : (sv (sStr b)).r F H v) : TyX K H v (.type "str") := by
  obtain ⟨e, _⟩ := r
  subst e
  exact .base (.str b)
theorem filt_true {γ : Type} (l : List γ) : l.filter (fun _ => true) = l := by simp
/-- comprehensions without a test -/
theorem lc_seqT {elt iter tg : Expr} {scope : Scope} (j : Nat) (f : α → β) [hq : AsSq X.K ρ T xs] (hi : EvE X ss iter ρ) (hl : xs.length ≤ sizeLine) (he : ∀ (i : Nat) x, xs[i]? = some x → BlkE X scope (ss.set j (.val (T x))) elt (sv (U (f x)))) :
    Lc X ss elt tg iter [] scope j (oLst U (xs.map f)) := by
  have h := lc_seq (U := U) (tg := tg) j (fun _ => true) f hi hl (fun _ _ _ => bt_nil (scope := scope)) (fun i x hx _ => he i x hx)
  rwa [filt_true] at h
theorem lc_rngT {elt a tg : Expr} {scope : Scope} {pr p2 : Pos} {n : Int} (j : Nat) (f : Nat → β) (hm : X.mg "range" = none) (hi : EvE X ss a (sv (sInt n))) (hl : n ≤ 16777216) (hl0 : -(2 ^ 62) ≤ n) (he : ∀ (i : Nat), (i : Int) < n → BlkE X scope (ss.set j (.val (sInt (i : Int)))) elt (sv (U (f i))))
    (hg : Gl X "range" := by rfl) (hst : starEach [a] X.env = [(false, eval a X.env)] := by exact star_one rfl) :
    Lc X ss elt tg (.Call (.Name "range" pr) [a] [] p2) [] scope j (oLst U ((List.range n.toNat).map f)) := by
  have h := lc_rng (U := U) (tg := tg) (pr := pr) (p2 := p2) j (fun _ => true) f hm hi hl hl0 (fun _ _ => bt_nil (scope := scope)) (fun i hi _ => he i hi) hg hst
  rwa [filt_true] at h
theorem cutL_nat {γ : Type} {l : List γ} {a b : Nat} (h : a ≤ b) (hb : b ≤ l.length) : cutL l (some (a : Int)) (some (b : Int)) = (l.drop a).take (b - a) := by
  unfold cutL
  rw [HT.sIx_nat, HT.sIx_nat, Nat.min_eq_left (Nat.le_trans h hb), Nat.min_eq_left hb]
theorem cutL_pre {γ : Type} {l : List γ} {b : Nat} : cutL l none (some (b : Int)) = l.take b := by
  unfold cutL
  rw [HT.sIx_nat, HT.sIx_none, List.drop_zero, Nat.sub_zero]
  by_cases h : b ≤ l.length
  · rw [Nat.min_eq_left h]
  · rw [Nat.min_eq_right (by omega), List.take_length, List.take_of_length_le (by omega)]
theorem cutL_suf {γ : Type} {l : List γ} {a : Nat} : cutL l (some (a : Int)) none = l.drop a := by
  unfold cutL
  rw [HT.sIx_nat, HT.sIx_none]
  by_cases h : a ≤ l.length
  · rw [Nat.min_eq_left h, List.take_of_length_le (by rw [List.length_drop]; exact Nat.le_refl _)]
  · rw [Nat.min_eq_right (by omega), List.drop_of_length_le (Nat.le_refl _), List.drop_of_length_le (by omega), List.take_nil]
theorem cutL_mem {γ : Type} {l : List γ} {a b : Option Int} {x : γ} (h : x ∈ cutL l a b) : x ∈ l := List.mem_of_mem_drop (List.mem_of_mem_take h)
theorem cutL_le {γ : Type} {l : List γ} {a b : Option Int} : (cutL l a b).length ≤ l.length := by
  unfold cutL
  rw [List.length_take, List.length_drop]
  omega
/-- xs[:n], xs[n:] -/
theorem ev_slPre {hi : Option Expr} {n : Nat} [hq : AsLs X.K ρ T xs] (ha : EvE X ss a ρ) (hu : EvO X ss hi (some (n : Int))) : EvN X ss (.Subscript a (.Slice none hi none p2) pos) (oLst T (xs.take n)) := (ev_slL ha eo_none hu).to (by rw [cutL_pre])
theorem ev_slSuf {lo : Option Expr} {n : Nat} [hq : AsLs X.K ρ T xs] (ha : EvE X ss a ρ) (hu : EvO X ss lo (some (n : Int))) : EvN X ss (.Subscript a (.Slice lo none none p2) pos) (oLst T (xs.drop n)) := (ev_slL ha hu eo_none).to (by rw [cutL_suf])
/-! ### sorted naturals -/
theorem its_nat {F : Hp} : ∀ {l : List Int} {vs : List V}, Its sInt F l vs → (∀ i ∈ l, 0 ≤ i) → Its sNat F (l.map Int.toNat) vs
  | [], vs, h, _ => by
    have e : vs = [] := List.eq_nil_of_length_eq_zero h.len
    subst e
    exact Its.nil
  | x :: xs, vs, h, hn => by
    have h' : Paired (fun x v => (sInt x).r F v) (x :: xs) vs := h
    cases h' with
    | @cons _ v _ vs' r t =>
      have r' : v = .int x := r
      have e : (sNat x.toNat).r F v := by
        show v = .int ((x.toNat : Nat) : Int)
        rw [r', Int.toNat_of_nonneg (hn x List.mem_cons_self)]
      exact Its.cons e (its_nat (show Its sInt F xs vs' from t) fun i hi => hn i (List.mem_cons_of_mem _ hi))
theorem its_int {F : Hp} : ∀ {l : List Nat} {vs : List V}, Its sNat F l vs → Its sInt F (l.map fun n : Nat => (n : Int)) vs
  | [], vs, h => by
    have e : vs = [] := List.eq_nil_of_length_eq_zero h.len
    subst e
    exact Its.nil
  | x :: xs, vs, h => by
    have h' : Paired (fun x v => (sNat x).r F v) (x :: xs) vs := h
    cases h' with
    | @cons _ v _ vs' r t => exact Its.cons (T := sInt) r (its_int (show Its sNat F xs vs' from t))
def sortN (l : List Nat) : List Nat := (sortI (l.map fun n : Nat => (n : Int))).map Int.toNat
theorem mem_sortN {l : List Nat} {x : Nat} : x ∈ sortN l ↔ x ∈ l := by
  unfold sortN
  rw [List.mem_map]
  constructor
  · rintro ⟨i, hi, rfl⟩
    have := (sortI_perm _).mem_iff.mp hi
    obtain ⟨n, hn, rfl⟩ := List.mem_map.mp this
    simpa using hn
  · intro h
    exact ⟨(x : Int), (sortI_perm _).mem_iff.mpr (List.mem_map.mpr ⟨x, h, rfl⟩), by simp⟩
theorem sortN_len (l : List Nat) : (sortN l).length = l.length := by
  unfold sortN
  rw [List.length_map, (sortI_perm _).length_eq, List.length_map]
theorem ev_sortedN {ns : List Nat} (hm : X.mg "sorted" = none) (ha : EvE X ss a (sv (sO (oLst sNat ns)))) (hl : ns.length < 64) (hg : Gl X "sorted" := by rfl) (he : starEach [a] X.env = (false, eval a X.env) :: starEach [] X.env := by exact star_ok rfl) (hpl : (backTo pos (starEach [] X.env)).any (·.1) = false := by rfl) :
    EvN X ss (.Call (.Name "sorted" p) [a] [] pos) (oLst sNat (sortN ns)) := by
  have h1 : EvE X ss a (sv (sO (oLst sInt (ns.map fun n : Nat => (n : Int))))) := ha.impS fun F v ⟨p, k, e1, hk, vs, hp, hi⟩ => ⟨p, k, e1, hk, vs, hp, its_int hi⟩
  have h2 := ev_sorted (pos := pos) (p := p) hm h1 (by rw [List.length_map]; exact hl) hg he hpl
  exact h2.imp fun F k p ⟨vs, hp, hi⟩ => ⟨vs, hp, its_nat hi fun i hi' => by
    have := (sortI_perm _).mem_iff.mp hi'
    obtain ⟨n, _, rfl⟩ := List.mem_map.mp this
    omega⟩
end
end Sx
namespace Sx
variable [Tbs]
open PySem PySem.Spec PyProof.Rows L2
/-! ### dicts whose keys are tuples -/
section
variable {κ α : Type} [DecidableEq κ]
def gK (kvs : List (κ × α)) (k : κ) : Option α := (kvs.find? fun kv => decide (kv.1 = k)).map (·.2)
def pK (kvs : List (κ × α)) (k : κ) (v : α) : List (κ × α) :=
  if (kvs.any fun kv => decide (kv.1 = k)) = true then kvs.map (fun kv => if kv.1 = k then (kv.1, v) else kv) else kvs ++ [(k, v)]
omit [Tbs] in
theorem gK_none {kvs : List (κ × α)} {k : κ} (h : ∀ kv ∈ kvs, kv.1 ≠ k) : gK kvs k = none := by
  unfold gK
  rw [List.find?_eq_none.mpr (fun kv hkv => by simp [h kv hkv])]
  rfl
omit [Tbs] in
theorem gK_isSome {kvs : List (κ × α)} {k : κ} : (gK kvs k).isSome = decide (k ∈ kvs.map (·.1)) := by
  unfold gK
  rw [Option.isSome_map]
  by_cases h : k ∈ kvs.map (·.1)
  · rw [decide_eq_true h]
    obtain ⟨kv, h1, h2⟩ := List.mem_map.mp h
    exact List.find?_isSome.mpr ⟨kv, h1, decide_eq_true h2⟩
  · rw [decide_eq_false h]
    rw [List.find?_eq_none.mpr (fun kv hkv => by
      have : kv.1 ≠ k := fun e => h (List.mem_map.mpr ⟨kv, hkv, e⟩)
      simp [this])]
    rfl
omit [Tbs] in
theorem pK_new {kvs : List (κ × α)} {k : κ} {v : α} (h : k ∉ kvs.map (·.1)) : pK kvs k v = kvs ++ [(k, v)] := by
  unfold pK
  rw [if_neg]
  intro q
  obtain ⟨kv, h1, h2⟩ := List.any_eq_true.mp q
  exact h (List.mem_map.mpr ⟨kv, h1, of_decide_eq_true h2⟩)
omit [Tbs] in
theorem pK_keys (kvs : List (κ × α)) (k : κ) (v : α) : (pK kvs k v).map (·.1) = if k ∈ kvs.map (·.1) then kvs.map (·.1) else kvs.map (·.1) ++ [k] := by
  by_cases h : k ∈ kvs.map (·.1)
  · rw [if_pos h]
    unfold pK
    rw [if_pos]
    · rw [List.map_map]
      refine List.map_congr_left fun kv _ => ?_
      show (if kv.1 = k then (kv.1, v) else kv).1 = kv.1
      split <;> rfl
    · obtain ⟨kv, h1, h2⟩ := List.mem_map.mp h
      exact List.any_eq_true.mpr ⟨kv, h1, decide_eq_true h2⟩
  · rw [if_neg h, pK_new h, List.map_append]
    rfl
omit [Tbs] in
theorem pK_len (kvs : List (κ × α)) (k : κ) (v : α) : (pK kvs k v).length ≤ kvs.length + 1 := by
  have h := congrArg List.length (pK_keys kvs k v)
  rw [List.length_map] at h
  rw [h]
  split <;> simp
end
class KeyT (κ : Type) where
  enc : κ → List Key
  inj : ∀ a b, enc a = enc b → a = b
  good : κ → Prop
class KeyS {κ : Type} [KeyT κ] (U : κ → S) : Prop where
  to_ : ∀ {F : Hp} {v : V} {k : κ}, (U k).r F v → ∃ p, v = .ref p ∧ F p = some (.tup ((KeyT.enc k).map kV)) ∧ KeyT.good k
  of_ : ∀ {F : Hp} {p : Addr} {k : κ}, F p = some (.tup ((KeyT.enc k).map kV)) → KeyT.good k → (U k).r F (.ref p)
omit [Tbs] in
theorem map_inr_inj : ∀ a b : List Str, a.map (Sum.inr : Str → Key) = b.map Sum.inr → a = b
  | [], [], _ => rfl
  | [], _ :: _, h => by cases h
  | _ :: _, [], h => by cases h
  | x :: a, y :: b, h => by
    rw [List.map_cons, List.map_cons] at h
    obtain ⟨h1, h2⟩ := List.cons.inj h
    rw [Sum.inr.inj h1, map_inr_inj a b h2]
instance : KeyT (List Str) where
  enc := fun k => k.map Sum.inr
  inj := fun a b h => map_inr_inj a b h
  good := fun k => ∀ x ∈ k, PyData.strOk x = true
omit [Tbs] in
theorem encS (k : List Str) : ((KeyT.enc k : List Key).map kV) = k.map V.str := by
  show (k.map Sum.inr).map kV = _
  rw [List.map_map]
  rfl
omit [Tbs] in
theorem its_ok {F : Hp} : ∀ {xs : List Str} {vs : List V}, Its sStr F xs vs → ∀ x ∈ xs, PyData.strOk x = true
  | [], vs, _, x, hx => by cases hx
  | y :: xs, vs, h, x, hx => by
    have h' : Paired (fun x v => (sStr x).r F v) (y :: xs) vs := h
    cases h' with
    | @cons _ v _ vs' r t =>
      rcases List.mem_cons.mp hx with e | e
      · rw [e]; exact r.2
      · exact its_ok (show Its sStr F xs vs' from t) x e
omit [Tbs] in
theorem strs_its {F : Hp} : ∀ {xs : List Str}, (∀ x ∈ xs, PyData.strOk x = true) → Its sStr F xs (xs.map V.str)
  | [], _ => Its.nil
  | x :: xs, h => Its.cons (T := sStr) (x := x) ⟨rfl, h x List.mem_cons_self⟩ (strs_its fun y hy => h y (List.mem_cons_of_mem _ hy))
instance : KeyS (fun k : List Str => sO (oTup sStr k)) where
  to_ := fun {F v k} ⟨p, c, e, hk, vs, hp, hi⟩ => ⟨p, e, by
    rw [hk _ _ hp, encS, its_strs hi], its_ok hi⟩
  of_ := fun {F p k} e g => ⟨p, F, rfl, Same.refl _, k.map V.str, by rw [e, encS], strs_its g⟩
instance : KeyS (sTup sStr) := inferInstanceAs (KeyS (fun k : List Str => sO (oTup sStr k)))
section
variable {κ α : Type} [DecidableEq κ] [KeyT κ] {T : α → S}
def KvR (T : α → S) (F : Hp) (kvs : List (κ × α)) (ws : List (List Key × V)) : Prop := Paired (fun (a : κ × α) (b : List Key × V) => (b.1 = KeyT.enc a.1 ∧ KeyT.good a.1) ∧ (T a.2).r F b.2) kvs ws
omit [Tbs] in
theorem KvR.mono {F F' : Hp} {kvs : List (κ × α)} {ws : List (List Key × V)} (e : Same F F') (h : KvR T F kvs ws) : KvR T F' kvs ws := Paired.mapP h fun _ _ q => ⟨q.1, (T _).mono e q.2⟩
omit [Tbs] in
theorem KvR.len {F : Hp} {kvs : List (κ × α)} {ws : List (List Key × V)} (h : KvR T F kvs ws) : ws.length = kvs.length := (Paired.length h).symm
omit [Tbs] in
theorem KvR.get {F : Hp} {k : κ} : ∀ {kvs : List (κ × α)} {ws : List (List Key × V)}, KvR T F kvs ws → (match gK kvs k with
    | none => valV ws (KeyT.enc k) = none
    | some x => ∃ v, valV ws (KeyT.enc k) = some v ∧ (T x).r F v)
  | [], ws, h => by
    have h' : Paired (fun (a : κ × α) (b : List Key × V) => (b.1 = KeyT.enc a.1 ∧ KeyT.good a.1) ∧ (T a.2).r F b.2) [] ws := h
    cases h'
    rfl
  | (j, x) :: kvs, ws, h => by
    have h' : Paired (fun (a : κ × α) (b : List Key × V) => (b.1 = KeyT.enc a.1 ∧ KeyT.good a.1) ∧ (T a.2).r F b.2) ((j, x) :: kvs) ws := h
    cases h' with
    | @cons _ b _ ws' r t =>
      have ih := KvR.get (k := k) (show KvR T F kvs ws' from t)
      by_cases e : j = k
      · have e1 : gK ((j, x) :: kvs) k = some x := by simp [gK, List.find?_cons, e]
        rw [e1]
        exact ⟨b.2, valV_pos (by rw [r.1.1, e]), r.2⟩
      · have e1 : gK ((j, x) :: kvs) k = gK kvs k := by simp [gK, List.find?_cons, e]
        rw [e1]
        have e2 : valV (b :: ws') (KeyT.enc k) = valV ws' (KeyT.enc k) := valV_neg fun z => e (KeyT.inj _ _ (r.1.1.symm.trans z))
        rw [e2]
        exact ih
omit [Tbs] in
theorem KvR.any {F : Hp} {k : κ} : ∀ {kvs : List (κ × α)} {ws : List (List Key × V)}, KvR T F kvs ws → (ws.any fun kv => decide (kv.1 = KeyT.enc k)) = kvs.any fun kv => decide (kv.1 = k)
  | [], ws, h => by
    have h' : Paired (fun (a : κ × α) (b : List Key × V) => (b.1 = KeyT.enc a.1 ∧ KeyT.good a.1) ∧ (T a.2).r F b.2) [] ws := h
    cases h'
    rfl
  | (j, x) :: kvs, ws, h => by
    have h' : Paired (fun (a : κ × α) (b : List Key × V) => (b.1 = KeyT.enc a.1 ∧ KeyT.good a.1) ∧ (T a.2).r F b.2) ((j, x) :: kvs) ws := h
    cases h' with
    | @cons _ b _ ws' r t =>
      rw [List.any_cons, List.any_cons, KvR.any (k := k) (show KvR T F kvs ws' from t)]
      by_cases e : j = k
      · rw [decide_eq_true (show b.1 = KeyT.enc k by rw [r.1.1, e]), decide_eq_true (show (j, x).1 = k from e)]
      · rw [decide_eq_false (show ¬ b.1 = KeyT.enc k from fun z => e (KeyT.inj _ _ (r.1.1.symm.trans z))), decide_eq_false (show ¬ (j, x).1 = k from e)]
omit [Tbs] in
theorem KvR.put {F : Hp} {k : κ} {x : α} {v : V} (g : KeyT.good k) (r : (T x).r F v) {kvs : List (κ × α)} {ws : List (List Key × V)} (h : KvR T F kvs ws) : KvR T F (pK kvs k x) (putK ws (KeyT.enc k) v) := by
  unfold pK putK
  rw [KvR.any h (k := k)]
  by_cases e : (kvs.any fun kv => decide (kv.1 = k)) = true
  · rw [if_pos e, if_pos e]
    clear e
    have h' : Paired (fun (a : κ × α) (b : List Key × V) => (b.1 = KeyT.enc a.1 ∧ KeyT.good a.1) ∧ (T a.2).r F b.2) kvs ws := h
    show Paired _ _ _
    clear h
    induction h' with
    | nil => exact .nil
    | @cons a b as bs q t ih =>
      rw [List.map_cons, List.map_cons]
      refine .cons ?_ ih
      by_cases e : a.1 = k
      · rw [if_pos e, if_pos (show b.1 = KeyT.enc k by rw [q.1.1, e])]
        exact ⟨q.1, r⟩
      · rw [if_neg e, if_neg (fun z => e (KeyT.inj _ _ (q.1.1.symm.trans z)))]
        exact q
  · rw [if_neg e, if_neg e]
    exact pr_app h (.cons ⟨⟨rfl, g⟩, r⟩ .nil)
def oDT (T : α → S) (kvs : List (κ × α)) : O := ⟨fun F h p => ∃ ws, h p = some (.dT ws) ∧ KvR T F kvs ws, fun e ⟨ws, q, h⟩ => ⟨ws, q, h.mono e⟩⟩
end
section
variable {X : Cx} {ss : List Sl} {e a b c : Expr} {es : List Expr} {ρ τ : R} {s t : S} {o : O} {pos pos' p p2 : Pos} {k : Nat} {κ α β : Type} [DecidableEq κ] [KeyT κ] {T : α → S} {U : κ → S} {kvs : List (κ × α)} {key : κ} {x : α} {D : Ds}
theorem ev_dnewT : EvN X ss (.Dict [] [] pos) (oDT T ([] : List (κ × α))) := .mk fun B F H σ h Q q => toE pe_dnewT fun p np => fresh1 q (.refl h.s) np ⟨[], hp1_same, .nil⟩
theorem ev_din [hU : KeyS U] (hr : Room k X.A) (ha : EvE X ss a (sv (U key))) (hb : EvE X ss b (bO (oDT T kvs))) (hm : behindInMarks .In b = false := by rfl) : EvE X ss (.Compare a [.In] [b] pos) (sv (sBool (decide (key ∈ kvs.map (·.1))))) := .mk fun B F H σ h Q q =>
  toE (pe_cmp (pc_din (hu_of hr) PEw PEw) hm) (ha B F H σ h _ fun v F1 H1 g1 r1 => hb B F1 H1 σ (h.grow g1) _ fun w F2 H2 g2 ⟨d, k2, e2, hk2, ws, hd, hr2⟩ => by
    obtain ⟨p, e1, hp, _⟩ := hU.to_ r1
    subst e1 e2
    refine ⟨d, _, rfl, DGet.t (hk2 _ _ hd) (g2.s _ _ (g2.f _ _ hp)), ?_⟩
    have e3 : (valV ws (KeyT.enc key)).isSome = decide (key ∈ kvs.map (·.1)) := by
      rw [← gK_isSome]
      have := hr2.get (k := key)
      cases z : gK kvs key with
      | none => rw [z] at this; rw [this]; rfl
      | some y => rw [z] at this; obtain ⟨v, hv, _⟩ := this; rw [hv]; rfl
    rw [e3]
    exact q _ F2 H2 (g1.trans g2) rfl)
theorem et_din [hU : KeyS U] (hr : Room k X.A) (ha : EvE X ss a (sv (U key))) (hb : EvE X ss b (bO (oDT T kvs))) (hm : behindInMarks .In b = false := by rfl) : EvT X ss (.Compare a [.In] [b] pos) (decide (key ∈ kvs.map (·.1))) := .mk fun B F H σ h Q q =>
  toT (pt_cmp (pc_din (hu_of hr) PEw PEw) hm) (ha B F H σ h _ fun v F1 H1 g1 r1 => hb B F1 H1 σ (h.grow g1) _ fun w F2 H2 g2 ⟨d, k2, e2, hk2, ws, hd, hr2⟩ => by
    obtain ⟨p, e1, hp, _⟩ := hU.to_ r1
    subst e1 e2
    refine ⟨d, _, rfl, DGet.t (hk2 _ _ hd) (g2.s _ _ (g2.f _ _ hp)), _, rfl, ?_⟩
    have e3 : (valV ws (KeyT.enc key)).isSome = decide (key ∈ kvs.map (·.1)) := by
      rw [← gK_isSome]
      have := hr2.get (k := key)
      cases z : gK kvs key with
      | none => rw [z] at this; rw [this]; rfl
      | some y => rw [z] at this; obtain ⟨v, hv, _⟩ := this; rw [hv]; rfl
    rw [e3]
    exact q F2 H2 (g1.trans g2))
theorem et_dnin [hU : KeyS U] (hr : Room k X.A) (ha : EvE X ss a (sv (U key))) (hb : EvE X ss b (bO (oDT T kvs))) (hm : behindInMarks .NotIn b = false := by rfl) : EvT X ss (.Compare a [.NotIn] [b] pos) (!decide (key ∈ kvs.map (·.1))) := .mk fun B F H σ h Q q =>
  toT (pt_cmp (pc_dnotin (hu_of hr) PEw PEw) hm) (ha B F H σ h _ fun v F1 H1 g1 r1 => hb B F1 H1 σ (h.grow g1) _ fun w F2 H2 g2 ⟨d, k2, e2, hk2, ws, hd, hr2⟩ => by
    obtain ⟨p, e1, hp, _⟩ := hU.to_ r1
    subst e1 e2
    refine ⟨d, _, rfl, DGet.t (hk2 _ _ hd) (g2.s _ _ (g2.f _ _ hp)), _, rfl, ?_⟩
    have e3 : (valV ws (KeyT.enc key)).isSome = decide (key ∈ kvs.map (·.1)) := by
      rw [← gK_isSome]
      have := hr2.get (k := key)
      cases z : gK kvs key with
      | none => rw [z] at this; rw [this]; rfl
      | some y => rw [z] at this; obtain ⟨v, hv, _⟩ := this; rw [hv]; rfl
    rw [e3]
    exact q F2 H2 (g1.trans g2))
/-- d[k] -/
theorem ev_dget [hU : KeyS U] (hr : Room k X.A) (hb : EvE X ss b (bO (oDT T kvs))) (ha : EvE X ss a (sv (U key))) (hx : gK kvs key = some x) (hp : NoSl a := by exact fun _ _ => rfl) : EvE X ss (.Subscript b a pos) (sv (T x)) := .mk fun B F H σ h Q q =>
  toE (pe_dget (hu_of hr) PEw PEw hp) (hb B F H σ h _ fun w F1 H1 g1 ⟨d, k2, e2, hk2, ws, hd, hr2⟩ => ha B F1 H1 σ (h.grow g1) _ fun v F2 H2 g2 r1 => by
    obtain ⟨p, e1, hp, _⟩ := hU.to_ r1
    subst e1 e2
    have := hr2.get (k := key)
    rw [hx] at this
    obtain ⟨u, hu, ru⟩ := this
    exact ⟨d, u, rfl, by rw [← hu]; exact DGet.t (g2.h.c (hk2 _ _ hd)) (g2.s _ _ hp), q u F2 H2 (g1.trans g2) ((T x).mono g2.f ru)⟩)
omit [Tbs] in
/-- the cells of d = .. -/
theorem dput_wr {H : Hp} {c : Hp} {d : Addr} {ws : List (List Key × V)} {v : V} (hd : c d = some (.dT ws)) (hc : ∀ a ob, c a = some ob → H a = some ob) :
    (∀ a ob, IsT ob → c a = some ob → upd H d (.dT (putK ws (KeyT.enc key) v)) a = some ob) ∧ (∀ a ob, upd c d (.dT (putK ws (KeyT.enc key) v)) a = some ob → upd H d (.dT (putK ws (KeyT.enc key) v)) a = some ob) ∧
    (∀ a ob, c a = none → H a = some ob → upd H d (.dT (putK ws (KeyT.enc key) v)) a = some ob) ∧ (∀ a ob, upd c d (.dT (putK ws (KeyT.enc key) v)) a = some ob → c a = none → H a = none) := by
  refine ⟨fun a ob za ea => ?_, fun a ob ea => ?_, fun a ob na ea => ?_, fun a ob ea na => ?_⟩
  · have ha : a ≠ d := fun z => by
      subst z
      rw [hd] at ea
      cases ea
      exact za.elim
    rw [upd_ne ha]
    exact hc _ _ ea
  · by_cases ha : a = d
    · subst ha
      rw [upd_same] at ea ⊢
      exact ea
    · rw [upd_ne ha] at ea ⊢
      exact hc _ _ ea
  · rw [upd_ne (fun z => by subst z; rw [hd] at na; cases na)]
    exact ea
  · by_cases ha : a = d
    · subst ha
      rw [hd] at na
      cases na
    · rw [upd_ne ha, na] at ea
      cases ea
/-- d[k] = v, d an own dict -/
theorem s_dput (i : Nat) {z : Str} {p1 : Pos} [hU : KeyS U] (hr : Room k X.A) (hi : ss[i]? = some (.own (oDT T kvs))) (hv : EvE X ss e (sv (T x))) (ha : EvE X ss a (sv (U key))) (hl : kvs.length < sizeLine) (kk : D.nx (ss.set i (.own (oDT T (pK kvs key x))))) (hN : X.N[i]? = some z := by rfl)
    (hvs : Vis X.env.scope z := by first | exact Or.inl rfl | exact Or.inr (Or.inl rfl) | exact Or.inr (Or.inr rfl)) (hd : (z == ("__debug__" : Str)) = false := by decide) (hcd : (z == ("__classdict__" : Str)) = false := by decide)
    (hs : swapsWith e (some (.Subscript (.Name z p1) a pos')) pos.line X.env = pure false := by rfl) : EvS X ss (.Assign [.Subscript (.Name z p1) a pos'] e pos) D := .mk fun B F H σ h tk =>
  toS (ps_dput (hu_of hr) (pe_var hN hvs hd hcd) PEw PEw hs) (hv B F H σ h _ fun v F1 H1 g1 r1 => by
    obtain ⟨d0, c0, e0, _⟩ := (h.grow g1).own hi
    refine ⟨_, e0, ha B F1 H1 σ (h.grow g1) _ fun w F2 H2 g2 r2 => ?_⟩
    obtain ⟨d, c, e1, hc, ⟨ws, hd, hk⟩, wr⟩ := ((h.grow g1).grow g2).write hi
    rw [e0] at e1
    cases e1
    obtain ⟨b, eb, hb, gb⟩ := hU.to_ r2
    subst eb
    obtain ⟨w0, w1, w2, w3⟩ := dput_wr (key := key) (v := v) hd (fun a ob ea => (hc a ob ea).1)
    exact ⟨d0, _, rfl, DPut.t (hc _ _ hd).1 (g2.s _ _ hb) (by rw [hk.len]; exact hl), F2, _, wr (oDT T (pK kvs key x)) _ _ w0 w1 w2 w3 ⟨_, upd_same, hk.put gb ((T x).mono g2.f r1)⟩, kk⟩)
end
end Sx
namespace Sx
variable [Tbs]
open PySem PySem.Spec PyProof.Rows L2
/-! ### tuples are known to all -/
theorem pub_tups {F H : Hp} (s : Sm F H) (bs : List Addr) (h : ∀ b ∈ bs, ∃ vs, H b = some (.tup vs)) : ∃ F2, Grow F H F2 H ∧ ∀ b ∈ bs, F2 b = H b := by
  refine ⟨fun a => match F a with
    | some o => some o
    | none => if a ∈ bs then H a else none, ⟨fun a o e => ?_, .refl s.t, ⟨fun a o e => ?_, s.t, fun a o e => ?_⟩, fun a o e n => ?_⟩, fun b hb => ?_⟩
  · show (match F a with
      | some o => some o
      | none => if a ∈ bs then H a else none) = some o
    rw [e]
  · have e' : (match F a with
      | some o => some o
      | none => if a ∈ bs then H a else none) = some o := e
    cases q : F a with
    | some o' =>
      rw [q] at e'
      cases e'
      exact s _ _ q
    | none =>
      rw [q] at e'
      by_cases ha : a ∈ bs
      · simpa [ha] using e'
      · simp [ha] at e'
  · have e' : (match F a with
      | some o => some o
      | none => if a ∈ bs then H a else none) = some o := e
    cases q : F a with
    | some o' => exact s.n _ _ q
    | none =>
      rw [q] at e'
      by_cases ha : a ∈ bs
      · obtain ⟨vs, hv⟩ := h a ha
        exact s.t.nl hv fun _ z => by cases z
      · simp [ha] at e'
  · have e' : (match F a with
      | some o => some o
      | none => if a ∈ bs then H a else none) = some o := e
    rw [n] at e'
    by_cases ha : a ∈ bs
    · obtain ⟨vs, hv⟩ := h a ha
      have e2 : H a = some o := by simpa [ha] using e'
      rw [hv] at e2
      cases e2
      exact .inr trivial
    · simp [ha] at e'
  · show (match F b with
      | some o => some o
      | none => if b ∈ bs then H b else none) = H b
    cases q : F b with
    | some o' => exact (s _ _ q).symm
    | none => simp [hb]
section
variable {X : Cx} {ss : List Sl} {e a b c : Expr} {es : List Expr} {ρ τ : R} {s t : S} {o : O} {pos pos' p p2 : Pos} {k : Nat} {κ α β : Type} [DecidableEq κ] [KeyT κ] {T : α → S} {U : κ → S} {kvs : List (κ × α)} {key : κ} {x : α} {D : Ds}
theorem isKeys_mem {H : Hp} : ∀ {ws : List (List Key × V)} {bs : List Addr}, IsKeys H ws bs → ∀ b ∈ bs, ∃ vs, H b = some (.tup vs)
  | [], bs, h, b, hb => by
    have h' : Paired (fun (p : List Key × V) b => H b = some (.tup (p.1.map kV))) [] bs := h
    cases h'
    cases hb
  | w :: ws, bs, h, b, hb => by
    have h' : Paired (fun (p : List Key × V) b => H b = some (.tup (p.1.map kV))) (w :: ws) bs := h
    cases h' with
    | @cons _ b0 _ bs' r t =>
      rcases List.mem_cons.mp hb with e | e
      · rw [e]; exact ⟨_, r⟩
      · exact isKeys_mem (show IsKeys H ws bs' from t) b e
theorem its_keys [hU : KeyS U] {F H : Hp} : ∀ {kvs : List (κ × α)} {ws : List (List Key × V)} {bs : List Addr}, KvR T F kvs ws → IsKeys H ws bs → (∀ b ∈ bs, F b = H b) → Its U F (kvs.map (·.1)) (bs.map V.ref)
  | [], ws, bs, h, hk, hb => by
    have h' : Paired (fun (a : κ × α) (b : List Key × V) => (b.1 = KeyT.enc a.1 ∧ KeyT.good a.1) ∧ (T a.2).r F b.2) [] ws := h
    cases h'
    have k' : Paired (fun (p : List Key × V) b => H b = some (.tup (p.1.map kV))) [] bs := hk
    cases k'
    exact Its.nil
  | kv :: kvs, ws, bs, h, hk, hb => by
    have h' : Paired (fun (a : κ × α) (b : List Key × V) => (b.1 = KeyT.enc a.1 ∧ KeyT.good a.1) ∧ (T a.2).r F b.2) (kv :: kvs) ws := h
    cases h' with
    | @cons _ w _ ws' r t =>
      have k' : Paired (fun (p : List Key × V) b => H b = some (.tup (p.1.map kV))) (w :: ws') bs := hk
      cases k' with
      | @cons _ b _ bs' r2 t2 =>
        rw [List.map_cons, List.map_cons]
        refine Its.cons (hU.of_ ?_ r.1.2) (its_keys (show KvR T F kvs ws' from t) (show IsKeys H ws' bs' from t2) fun b hb' => hb b (List.mem_cons_of_mem _ hb'))
        rw [hb b List.mem_cons_self, r2, r.1.1]
/-- list(d) -/
theorem ev_listDT (U : κ → S) [hU : KeyS U] (hc : X.calm = true) (hm : X.mg "list" = none) (ha : EvE X ss a (bO (oDT T kvs))) (hg : Gl X "list" := by rfl) (he : starEach [a] X.env = (false, eval a X.env) :: starEach [] X.env := by exact star_ok rfl) (hpl : (backTo pos (starEach [] X.env)).any (·.1) = false := by rfl) :
    EvN X ss (.Call (.Name "list" p) [a] [] pos) (oLst U (kvs.map (·.1))) := .mk fun B F H σ h Q q =>
  toE (pe_callTy (call_list_dT hc) hg hm (by decide +kernel) PAw (by decide) (by decide) he hpl) (ea_cons ha ea_nil he B F H σ h _ fun vs F1 H1 g1 rs => by
    cases rs with
    | cons r rr =>
      cases rr
      obtain ⟨d, c, e1, hk, ws, hd, hw⟩ := r
      subst e1
      refine ⟨d, ws, rfl, .inl (hk _ _ hd), fun p bs np hks => ?_⟩
      obtain ⟨F2, g2, h2⟩ := pub_tups g1.s bs (isKeys_mem hks)
      exact fresh1 q (g1.trans g2) np ⟨_, hp1_same, its_keys (hw.mono g2.f) hks h2⟩)
end
/-- an own object is written, with cells that are new since H -/
theorem Sat.writeG {B : Bs} {F H F' H' : Hp} {σ : L2.St} {ss : List Sl} (h : Sat B F H σ ss) (g : Grow F H F' H') {i : Nat} {o : O} (e : ss[i]? = some (.own o)) : ∃ p k, σ[i]? = some (some (.ref p)) ∧ (∀ a ob, k a = some ob → (H a = some ob ∧ H' a = some ob) ∧ B.H a = none ∧ (F' a = none ∨ IsT ob)) ∧ o.r F' k p ∧
    ∀ (o' : O) (k' H2 : Hp), (∀ a ob, IsT ob → k a = some ob → H2 a = some ob) → (∀ a ob, k' a = some ob → H2 a = some ob) → (∀ a ob, k a = none → H' a = some ob → H2 a = some ob) → (∀ a ob, k' a = some ob → k a = none → H a = none ∧ (F' a = none ∨ IsT ob)) → o'.r F' k' p → Sat B F' H2 σ (ss.set i (.own o')) := by
  obtain ⟨v, e0⟩ := h.there e
  obtain ⟨fp, h1, h0⟩ := h.fp
  have h2 := h0.grow g h.g.h.t
  have hg := h.grow g
  obtain ⟨p, ep, hr⟩ := h1 i _ _ e e0
  subst ep
  refine ⟨p, fp i, e0, fun a ob q => ⟨⟨(h0.at_ i a ob q).1, (h2.at_ i a ob q).1⟩, (h2.at_ i a ob q).2⟩, o.mono g.f hr, fun o' k' H2 c0 c1 c2 c3 r' => ?_⟩
  have tB := h.g.h.t
  have tH : TbOk H2 := tb_write tB g.s.t (h2.at_ i) c0 c2
  have sF : Same F' H2 := fun a ob ea => by
    cases q : fp i a with
    | none => exact c2 a ob q (g.s a ob ea)
    | some o1 =>
      obtain ⟨b1, _, b3⟩ := h2.at_ i a o1 q
      rcases b3 with b3 | b3
      · rw [b3] at ea
        cases ea
      · have e1 := g.s a ob ea
        rw [b1] at e1
        cases e1
        exact c0 a _ b3 q
  have sB : Gr B.H H2 := ⟨fun a ob nt ea => c2 a ob (by
    cases q : fp i a with
    | none => rfl
    | some o1 =>
      rw [(h2.at_ i a o1 q).2.1] at ea
      cases ea) (hg.g.h.k a ob nt ea), tB, tH⟩
  refine ⟨⟨hg.g.f, sB, ⟨sF, tH, g.s.n⟩, hg.g.n⟩, by rw [List.length_set]; exact h.len, fpSet fp i k', fun j x w e1 e2 => ?_, fun j a ob e3 => ?_, fun j l a o1 o2 e1 e2 => ?_⟩
  · by_cases hj : j = i
    · subst hj
      rw [List.getElem?_set_self (set_len e1)] at e1
      rw [e0] at e2
      cases e1; cases e2
      rw [fpSet_same]
      exact ⟨p, rfl, r'⟩
    · rw [List.getElem?_set_ne (Ne.symm hj)] at e1
      rw [fpSet_ne hj]
      exact (h1 j x w e1 e2).mono g.f
  · by_cases hj : j = i
    · subst hj
      rw [fpSet_same] at e3
      cases q : fp j a with
      | some o1 =>
        obtain ⟨_, b2, b3⟩ := h2.at_ j a o1 q
        refine ⟨c1 a ob e3, b2, b3.imp id fun z => ?_⟩
        have e1 := c0 a o1 z q
        rw [c1 a ob e3] at e1
        cases e1
        exact z
      | none =>
        obtain ⟨n1, n2⟩ := c3 a ob e3 q
        exact ⟨c1 a ob e3, h.g.h.free n1, n2⟩
    · rw [fpSet_ne hj] at e3
      obtain ⟨b1, b2, b3⟩ := h2.at_ j a ob e3
      refine ⟨c2 a ob ?_ b1, b2, b3⟩
      cases q : fp i a with
      | none => rfl
      | some o1 => exact absurd (h2.ap j i a ob o1 e3 q) hj
  · have away : ∀ (l : Nat) (a : Addr) o1 o2, l ≠ i → k' a = some o1 → fp l a = some o2 → False := fun l a o1 o2 hl q1 q2 => by
      cases q : fp i a with
      | some o3 => exact hl (h2.ap l i a o2 o3 q2 q)
      | none =>
        have n := (c3 a o1 q1 q).1
        rw [(h0.at_ l a o2 q2).1] at n
        cases n
    by_cases hj : j = i
    · by_cases hl : l = i
      · rw [hj, hl]
      · rw [hj, fpSet_same] at e1
        rw [fpSet_ne hl] at e2
        exact (away l a o1 o2 hl e1 e2).elim
    · by_cases hl : l = i
      · rw [fpSet_ne hj] at e1
        rw [hl, fpSet_same] at e2
        exact (away j a o2 o1 hj e2 e1).elim
      · rw [fpSet_ne hj] at e1
        rw [fpSet_ne hl] at e2
        exact h2.ap j l a o1 o2 e1 e2
/-! ### instances whose fields may be objects of their own -/
def Fdg (F : Hp) (fp : Str → Hp) (fs : List (Str × Sl)) (vs : List (Str × V)) : Prop := Paired (fun (a : Str × Sl) (b : Str × V) => a.1 = b.1 ∧ SlOk F (fp a.1) a.2 (some b.2)) fs vs
theorem Fdg.mono {F F' : Hp} {fp : Str → Hp} {fs : List (Str × Sl)} {vs : List (Str × V)} (e : Same F F') (h : Fdg F fp fs vs) : Fdg F' fp fs vs := Paired.mapP h fun _ _ q => ⟨q.1, SlOk.mono e q.2⟩
theorem Fdg.len {F : Hp} {fp : Str → Hp} {fs : List (Str × Sl)} {vs : List (Str × V)} (h : Fdg F fp fs vs) : vs.length = fs.length := (Paired.length h).symm
theorem fdg_get {F : Hp} {fp : Str → Hp} {f : Str} {s : Sl} : ∀ {fs : List (Str × Sl)} {vs : List (Str × V)}, Fdg F fp fs vs → fs.lookup f = some s → ∃ v, vs.lookup f = some v ∧ SlOk F (fp f) s (some v)
  | [], _, _, e => by cases e
  | (g, t) :: fs, vs, h, e => by
    have h' : Paired (fun (a : Str × Sl) (b : Str × V) => a.1 = b.1 ∧ SlOk F (fp a.1) a.2 (some b.2)) ((g, t) :: fs) vs := h
    cases h' with
    | @cons _ b _ vs' r tl =>
      obtain ⟨g', v⟩ := b
      have eg : g = g' := r.1
      subst eg
      rw [List.lookup_cons] at e ⊢
      cases q : f == g with
      | true =>
        rw [q] at e
        cases e
        have ef : f = g := by simpa using q
        subst ef
        exact ⟨v, rfl, r.2⟩
      | false =>
        rw [q] at e
        exact fdg_get (fs := fs) (vs := vs') tl e
theorem fdg_none {F : Hp} {fp : Str → Hp} {f : Str} : ∀ {fs : List (Str × Sl)} {vs : List (Str × V)}, Fdg F fp fs vs → fs.lookup f = none → vs.lookup f = none
  | [], vs, h, _ => by
    have h' : Paired (fun (a : Str × Sl) (b : Str × V) => a.1 = b.1 ∧ SlOk F (fp a.1) a.2 (some b.2)) [] vs := h
    cases h'
    rfl
  | (g, t) :: fs, vs, h, e => by
    have h' : Paired (fun (a : Str × Sl) (b : Str × V) => a.1 = b.1 ∧ SlOk F (fp a.1) a.2 (some b.2)) ((g, t) :: fs) vs := h
    cases h' with
    | @cons _ b _ vs' r tl =>
      obtain ⟨g', v⟩ := b
      have eg : g = g' := r.1
      subst eg
      rw [List.lookup_cons] at e ⊢
      cases q : f == g with
      | true =>
        rw [q] at e
        cases e
      | false =>
        rw [q] at e
        exact fdg_none (fs := fs) (vs := vs') tl e
def putG (f : Str) (s : Sl) : List (Str × Sl) → List (Str × Sl)
  | [] => [(f, s)]
  | (g, x) :: r => if g = f then (g, s) :: r else (g, x) :: putG f s r
/-- no name twice -/
def ndG : List (Str × Sl) → Prop
  | [] => True
  | (g, _) :: r => r.lookup g = none ∧ ndG r
theorem putG_lookup {f g : Str} {s : Sl} (h : g ≠ f) : ∀ {fs : List (Str × Sl)}, (putG f s fs).lookup g = fs.lookup g
  | [] => by
    have e : (g == f) = false := by simpa using h
    show List.lookup g [(f, s)] = none
    rw [List.lookup_cons, e]
    rfl
  | (k, x) :: r => by
    unfold putG
    by_cases z : k = f
    · rw [if_pos z, List.lookup_cons, List.lookup_cons]
      have e : (g == k) = false := by rw [z]; simpa using h
      rw [e]
    · rw [if_neg z, List.lookup_cons, List.lookup_cons, putG_lookup h]
theorem ndG_put {f : Str} {s : Sl} : ∀ {fs : List (Str × Sl)}, ndG fs → ndG (putG f s fs)
  | [], _ => ⟨rfl, trivial⟩
  | (k, x) :: r, h => by
    unfold putG
    by_cases z : k = f
    · rw [if_pos z]; exact h
    · rw [if_neg z]
      exact ⟨by rw [putG_lookup z]; exact h.1, ndG_put h.2⟩
theorem fdg_fp {F : Hp} {fp fp' : Str → Hp} : ∀ {fs : List (Str × Sl)} {vs : List (Str × V)}, Fdg F fp fs vs → (∀ g, fs.lookup g ≠ none → fp' g = fp g) → Fdg F fp' fs vs
  | [], _, h, _ => by
    have h' : Paired (fun (a : Str × Sl) (b : Str × V) => a.1 = b.1 ∧ SlOk F (fp a.1) a.2 (some b.2)) [] _ := h
    cases h'
    exact .nil
  | (g, t) :: fs, vs, h, e => by
    have h' : Paired (fun (a : Str × Sl) (b : Str × V) => a.1 = b.1 ∧ SlOk F (fp a.1) a.2 (some b.2)) ((g, t) :: fs) vs := h
    cases h' with
    | @cons _ b _ vs' r tl =>
      refine .cons ⟨r.1, ?_⟩ (fdg_fp (fs := fs) (vs := vs') tl fun k hk => e k ?_)
      · rw [e g (by rw [List.lookup_cons]; simp)]
        exact r.2
      · rw [List.lookup_cons]
        split
        · intro q; cases q
        · exact hk
theorem fdg_put {F : Hp} {fp fp' : Str → Hp} {f : Str} {s : Sl} {v : V} (r : SlOk F (fp' f) s (some v)) (hf : ∀ g, g ≠ f → fp' g = fp g) : ∀ {fs : List (Str × Sl)} {vs : List (Str × V)}, ndG fs → Fdg F fp fs vs → Fdg F fp' (putG f s fs) (putF f v vs)
  | [], vs, _, h => by
    have h' : Paired (fun (a : Str × Sl) (b : Str × V) => a.1 = b.1 ∧ SlOk F (fp a.1) a.2 (some b.2)) [] vs := h
    cases h'
    exact .cons ⟨rfl, r⟩ .nil
  | (g, t) :: fs, vs, n, h => by
    have h' : Paired (fun (a : Str × Sl) (b : Str × V) => a.1 = b.1 ∧ SlOk F (fp a.1) a.2 (some b.2)) ((g, t) :: fs) vs := h
    cases h' with
    | @cons _ b _ vs' q tl =>
      obtain ⟨g', u⟩ := b
      have eg : g = g' := q.1
      subst eg
      unfold putG putF
      by_cases z : g = f
      · rw [if_pos z, if_pos z]
        subst z
        exact .cons ⟨rfl, r⟩ (fdg_fp (show Fdg F fp fs vs' from tl) fun k hk => hf k fun e => hk (by rw [e]; exact n.1))
      · rw [if_neg z, if_neg z]
        exact .cons ⟨rfl, by rw [hf g z]; exact q.2⟩ (fdg_put r hf n.2 (show Fdg F fp fs vs' from tl))
/-- an instance, its fields: what is known, or what is their own -/
def oInsG (C : Addr) (q : Addr → Prop) (fs : List (Str × Sl)) : O :=
  ⟨fun F h p => (q p ∧ ndG fs) ∧ ∃ dx vs, ∃ fp : Str → Hp, h p = some (.ins C dx vs) ∧ Fdg F fp fs vs ∧ (∀ f a ob, fp f a = some ob → a ≠ p ∧ h a = some ob) ∧ (∀ f g a o1 o2, fp f a = some o1 → fp g a = some o2 → f = g),
   fun e ⟨z, dx, vs, fp, k, h, d⟩ => ⟨z, dx, vs, fp, k, h.mono e, d⟩⟩
abbrev sInsG (C : Addr) (fs : List (Str × Sl)) : S := sO (oInsG C (fun _ => True) fs)
def slS : Sl → S
  | .any => ⟨fun _ _ => True, fun _ _ => trivial⟩
  | .val s => s
  | .own o => sO o
/-- the cells of x.f, rewritten -/
def hpW (h k k' : Hp) : Hp := fun a => match k' a with
  | some o => some o
  | none => match k a with
    | some _ => none
    | none => h a
theorem hpW_new {h k k' : Hp} {a : Addr} {o : HO} (e : k' a = some o) : hpW h k k' a = some o := by unfold hpW; rw [e]
theorem hpW_old {h k k' : Hp} {a : Addr} (e : k' a = none) (n : k a = none) : hpW h k k' a = h a := by unfold hpW; rw [e, n]
theorem hpW_some {h k k' : Hp} {a : Addr} {o : HO} (e : hpW h k k' a = some o) : k' a = some o ∨ (k' a = none ∧ k a = none ∧ h a = some o) := by
  unfold hpW at e
  cases q : k' a with
  | some o' => rw [q] at e; exact .inl e
  | none =>
    rw [q] at e
    cases z : k a with
    | some o' => rw [z] at e; cases e
    | none => rw [z] at e; exact .inr ⟨rfl, rfl, e⟩
theorem putF_same {f : Str} {v : V} : ∀ {vs : List (Str × V)}, vs.lookup f = some v → putF f v vs = vs
  | [], h => by cases h
  | (g, u) :: vs, h => by
    rw [List.lookup_cons] at h
    unfold putF
    by_cases z : g = f
    · subst z
      rw [if_pos rfl]
      simp at h
      rw [h]
    · rw [if_neg z]
      have e : (f == g) = false := by simpa using fun q => z q.symm
      rw [e] at h
      rw [putF_same (vs := vs) h]
section
variable {X : Cx} {ss : List Sl} {e a b c : Expr} {es : List Expr} {ρ τ κ : R} {s t : S} {o : O} {pos p p2 : Pos} {k : Nat} {C : Addr} {q : Addr → Prop} {fs : List (Str × Sl)} {D : Ds} {f : Str}
/-- x.f, known -/
theorem ev_gfld (he : EvE X ss e (bO (oInsG C q fs))) (hl : fs.lookup f = some (.val s)) (hc : Cls X.K C) (hn : NoAttr X.K C f) (hb : attributeBase e f X.env (eval e X.env) = eval e X.env := by rfl) : EvE X ss (.Attribute e f pos) (sv s) := .mk fun B F H σ h Q z =>
  toE (pe_fld PEw hb) (he B F H σ h _ fun v F' H' g ⟨p, k, e1, hk, _, dx, vs, fp, hp, hf, _⟩ => by
    obtain ⟨u, hu, x, ex, ru⟩ := fdg_get hf hl
    cases ex
    exact ⟨p, C, dx, vs, u, e1, hk _ _ hp, hc, hn, hu, z u F' H' g ru⟩)
/-- x.f, the instance's own, here and now -/
theorem ev_gown (he : EvE X ss e (bO (oInsG C q fs))) (hl : fs.lookup f = some (.own o)) (hc : Cls X.K C) (hn : NoAttr X.K C f) (hb : attributeBase e f X.env (eval e X.env) = eval e X.env := by rfl) : EvE X ss (.Attribute e f pos) (bO o) := .mk fun B F H σ h Q z =>
  toE (pe_fld PEw hb) (he B F H σ h _ fun v F' H' g ⟨p, k, e1, hk, _, dx, vs, fp, hp, hf, hs, _⟩ => by
    obtain ⟨u, hu, d, ex, ru⟩ := fdg_get hf hl
    cases ex
    exact ⟨p, C, dx, vs, _, e1, hk _ _ hp, hc, hn, hu, z _ F' H' g ⟨d, fp f, rfl, ⟨fun a ob ea => hk _ _ (hs f a ob ea).2, fun a ob ea => hk.n _ _ (hs f a ob ea).2⟩, ru⟩⟩)
/-- x.f of an instance that is known whole -/
theorem ev_gpub {sl : Sl} (he : EvE X ss e (sv (sO (oInsG C q fs)))) (hl : fs.lookup f = some sl) (hc : Cls X.K C) (hn : NoAttr X.K C f) (hb : attributeBase e f X.env (eval e X.env) = eval e X.env := by rfl) : EvE X ss (.Attribute e f pos) (sv (slS sl)) := .mk fun B F H σ h Q z =>
  toE (pe_fld PEw hb) (he B F H σ h _ fun v F' H' g ⟨p, k, e1, hk, _, dx, vs, fp, hp, hf, hs, _⟩ => by
    obtain ⟨u, hu, ru⟩ := fdg_get hf hl
    refine ⟨p, C, dx, vs, u, e1, g.s _ _ (hk _ _ hp), hc, hn, hu, z u F' H' g ?_⟩
    cases sl with
    | any => exact trivial
    | val s =>
      obtain ⟨x, ex, r⟩ := ru
      cases ex
      exact r
    | own o =>
      obtain ⟨d, ex, r⟩ := ru
      cases ex
      exact ⟨d, fp f, rfl, fun a ob ea => hk _ _ (hs f a ob ea).2, r⟩)
/-- x.f = e -/
theorem s_gset (i : Nat) {x : Str} {px pa : Pos} (hi : ss[i]? = some (.own (oInsG C q fs))) (he : EvE X ss e (sv s)) (hc : Cls X.K C) (hn : NoAttr X.K C f) (k : D.nx (ss.set i (.own (oInsG C q (putG f (.val s) fs))))) (hN : X.N[i]? = some x := by rfl)
    (hv : Vis X.env.scope x := by first | exact Or.inl rfl | exact Or.inr (Or.inl rfl) | exact Or.inr (Or.inr rfl)) (hd : (x == ("__debug__" : Str)) = false := by decide) (hcd : (x == ("__classdict__" : Str)) = false := by decide) (hl : fs.length < 1000 := by exact Nat.le_of_ble_eq_true rfl)
    (hs : swapsWith e (some (.Attribute (.Name x px) f pa)) pos.line X.env = pure false := by rfl) : EvS X ss (.Assign [.Attribute (.Name x px) f pa] e pos) D := .mk fun B F H σ h tk =>
  toS (ps_fld (pe_var hN hv hd hcd) PEw hs) (he B F H σ h _ fun v F' H' g r => by
    obtain ⟨p, c, e1, hc', ⟨⟨hq, hnd⟩, dx, vs, fp, hp, hf, hfp, hdj⟩, wr⟩ := (h.grow g).write hi
    refine ⟨_, e1, p, C, dx, vs, rfl, (hc' _ _ hp).1, hc, hn, by rw [hf.len]; exact hl, ?_⟩
    refine ⟨F', _, wr (oInsG C q (putG f (.val s) fs)) (upd c p (.ins C dx (putF f v vs))) _ (fun a ob za ea => ?_) (fun a ob ea => ?_) (fun a ob na ea => ?_) (fun a ob ea na => ?_)
      ⟨⟨hq, ndG_put hnd⟩, dx, _, (fun g => if g = f then hp0 else fp g), upd_same, fdg_put (fp := fp) (s := .val s) ⟨v, rfl, r⟩ (fun g hg => if_neg hg) hnd hf, fun g a ob ea => ?_, fun g1 g2 a o1 o2 e1 e2 => ?_⟩, k⟩
    · have ha : a ≠ p := fun z => by
        subst z
        rw [hp] at ea
        cases ea
        exact za.elim
      rw [upd_ne ha]
      exact (hc' _ _ ea).1
    · by_cases ha : a = p
      · subst ha
        rw [upd_same] at ea ⊢
        exact ea
      · rw [upd_ne ha] at ea ⊢
        exact (hc' _ _ ea).1
    · rw [upd_ne (fun z => by subst z; rw [hp] at na; cases na)]
      exact ea
    · by_cases ha : a = p
      · subst ha
        rw [hp] at na
        cases na
      · rw [upd_ne ha, na] at ea
        cases ea
    · by_cases hg : g = f
      · have ea' : (if g = f then hp0 else fp g) a = some ob := ea
        rw [if_pos hg] at ea'
        cases (show (none : Option HO) = some ob from ea')
      · have ea' : (if g = f then hp0 else fp g) a = some ob := ea
        rw [if_neg hg] at ea'
        obtain ⟨h1, h2⟩ := hfp g a ob ea'
        exact ⟨h1, by rw [upd_ne h1]; exact h2⟩
    · have e1' : (if g1 = f then hp0 else fp g1) a = some o1 := e1
      have e2' : (if g2 = f then hp0 else fp g2) a = some o2 := e2
      by_cases z1 : g1 = f
      · rw [if_pos z1] at e1'
        cases (show (none : Option HO) = some o1 from e1')
      · by_cases z2 : g2 = f
        · rw [if_pos z2] at e2'
          cases (show (none : Option HO) = some o2 from e2')
        · rw [if_neg z1] at e1'
          rw [if_neg z2] at e2'
          exact hdj g1 g2 a o1 o2 e1' e2')
/-- x.f = a new object -/
theorem s_gnew (i : Nat) {x : Str} {px pa : Pos} (hi : ss[i]? = some (.own (oInsG C q fs))) (he : EvN X ss e o) (hc : Cls X.K C) (hn : NoAttr X.K C f) (k : D.nx (ss.set i (.own (oInsG C q (putG f (.own o) fs))))) (hN : X.N[i]? = some x := by rfl)
    (hv : Vis X.env.scope x := by first | exact Or.inl rfl | exact Or.inr (Or.inl rfl) | exact Or.inr (Or.inr rfl)) (hd : (x == ("__debug__" : Str)) = false := by decide) (hcd : (x == ("__classdict__" : Str)) = false := by decide) (hl : fs.length < 1000 := by exact Nat.le_of_ble_eq_true rfl)
    (hs : swapsWith e (some (.Attribute (.Name x px) f pa)) pos.line X.env = pure false := by rfl) : EvS X ss (.Assign [.Attribute (.Name x px) f pa] e pos) D := .mk fun B F H σ h tk =>
  toS (ps_fld (pe_var hN hv hd hcd) PEw hs) (he B F H σ h _ fun d F' H' kk g nn r => by
    obtain ⟨p, c, e1, hc', ⟨⟨hq, hnd⟩, dx, vs, fp, hp, hf, hfp, hdj⟩, wr⟩ := h.writeG g hi
    have nkk : ∀ a ob, c a = some ob → kk a = none := fun a ob z => by
      cases y : kk a with
      | none => rfl
      | some o' =>
        have e2 := (hc' a ob z).1.1
        rw [(nn a o' y).1] at e2
        cases e2
    have kkc : ∀ a ob, kk a = some ob → c a = none := fun a ob z => by
      cases y : c a with
      | none => rfl
      | some o' =>
        rw [nkk a o' y] at z
        cases z
    refine ⟨_, e1, p, C, dx, vs, rfl, (hc' _ _ hp).1.2, hc, hn, by rw [hf.len]; exact hl, ?_⟩
    have cp : ∀ a, a = p → (hpU kk (upd c p (.ins C dx (putF f (.ref d) vs)))) a = some (.ins C dx (putF f (.ref d) vs)) := fun a z => by
      subst z
      rw [hpU_r (nkk _ _ hp)]
      exact upd_same
    refine ⟨F', _, wr (oInsG C q (putG f (.own o) fs)) (hpU kk (upd c p (.ins C dx (putF f (.ref d) vs)))) _ (fun a ob za ea => ?_) (fun a ob ea => ?_) (fun a ob na ea => ?_) (fun a ob ea na => ?_)
      ⟨⟨hq, ndG_put hnd⟩, dx, _, (fun g => if g = f then kk else fp g), cp p rfl, fdg_put (fp := fp) (s := .own o) ⟨d, rfl, by rw [if_pos rfl]; exact r⟩ (fun g hg => if_neg hg) hnd hf, fun g a ob ea => ?_, fun g1 g2 a o1 o2 e1 e2 => ?_⟩, k⟩
    · have ha : a ≠ p := fun z => by
        subst z
        rw [hp] at ea
        cases ea
        exact za.elim
      rw [upd_ne ha]
      exact (hc' _ _ ea).1.2
    · by_cases ha : a = p
      · rw [cp a ha] at ea
        rw [ha, upd_same]
        exact ea
      · rw [upd_ne ha]
        cases y : kk a with
        | some o' =>
          rw [hpU_l y] at ea
          cases ea
          exact (nn a _ y).2.2
        | none =>
          rw [hpU_r y, upd_ne ha] at ea
          exact (hc' _ _ ea).1.2
    · rw [upd_ne (fun z => by subst z; rw [hp] at na; cases na)]
      exact ea
    · have ha : a ≠ p := fun z => by
        subst z
        rw [hp] at na
        cases na
      cases y : kk a with
      | some o' =>
        rw [hpU_l y] at ea
        cases ea
        exact ⟨(nn a _ y).1, (nn a _ y).2.1⟩
      | none =>
        rw [hpU_r y, upd_ne ha, na] at ea
        cases ea
    · have ea' : (if g = f then kk else fp g) a = some ob := ea
      by_cases hg : g = f
      · rw [if_pos hg] at ea'
        have ha : a ≠ p := fun z => by
          subst z
          rw [nkk _ _ hp] at ea'
          cases ea'
        exact ⟨ha, hpU_l ea'⟩
      · rw [if_neg hg] at ea'
        obtain ⟨h1, h2⟩ := hfp g a ob ea'
        exact ⟨h1, by rw [hpU_r (nkk _ _ h2), upd_ne h1]; exact h2⟩
    · have e1' : (if g1 = f then kk else fp g1) a = some o1 := e1
      have e2' : (if g2 = f then kk else fp g2) a = some o2 := e2
      by_cases z1 : g1 = f
      · by_cases z2 : g2 = f
        · rw [z1, z2]
        · rw [if_pos z1] at e1'
          rw [if_neg z2] at e2'
          have := kkc a o1 e1'
          rw [(hfp g2 a o2 e2').2] at this
          cases this
      · by_cases z2 : g2 = f
        · rw [if_neg z1] at e1'
          rw [if_pos z2] at e2'
          have := kkc a o2 e2'
          rw [(hfp g1 a o1 e1').2] at this
          cases this
        · rw [if_neg z1] at e1'
          rw [if_neg z2] at e2'
          exact hdj g1 g2 a o1 o2 e1' e2')
/-- the cells of an own field, rewritten -/
theorem ins_write {F H H' h : Hp} {p : Addr} {o' : O} {k' : Hp} {f : Str} {dx : Addr} {vs : List (Str × V)} {fp : Str → Hp} {d : Addr} (hnd : ndG fs) (hq : q p) (hh : ∀ a ob, h a = some ob → H a = some ob) (hp : h p = some (.ins C dx vs)) (hf : Fdg F fp fs vs) (hfp : ∀ f a ob, fp f a = some ob → a ≠ p ∧ h a = some ob)
    (hdj : ∀ f g a o1 o2, fp f a = some o1 → fp g a = some o2 → f = g) (hl : fs.lookup f = some (.own o)) (hv : vs.lookup f = some (.ref d))
    (c0 : ∀ a ob, IsT ob → fp f a = some ob → H' a = some ob) (c1 : ∀ a ob, k' a = some ob → H' a = some ob) (c2 : ∀ a ob, fp f a = none → H a = some ob → H' a = some ob) (c3 : ∀ a ob, k' a = some ob → fp f a = none → H a = none) (r' : o'.r F k' d) :
    (∀ a ob, IsT ob → h a = some ob → H' a = some ob) ∧ (∀ a ob, hpW h (fp f) k' a = some ob → H' a = some ob) ∧ (∀ a ob, h a = none → H a = some ob → H' a = some ob) ∧ (∀ a ob, hpW h (fp f) k' a = some ob → h a = none → H a = none) ∧
      (oInsG C q (putG f (.own o') fs)).r F (hpW h (fp f) k') p := by
  have nk : ∀ a, h a = none → fp f a = none := fun a z => by
    cases y : fp f a with
    | none => rfl
    | some o1 =>
      rw [(hfp f a o1 y).2] at z
      cases z
  have np : fp f p = none := by
    cases y : fp f p with
    | none => rfl
    | some o1 => exact absurd rfl (hfp f p o1 y).1
  have nk' : k' p = none := by
    cases y : k' p with
    | none => rfl
    | some o1 =>
      have := c3 p o1 y np
      rw [hh _ _ hp] at this
      cases this
  have nkg : ∀ g a o1, g ≠ f → fp g a = some o1 → fp f a = none ∧ k' a = none := fun g a o1 hg e => by
    have z : fp f a = none := by
      cases y : fp f a with
      | none => rfl
      | some o2 => exact absurd (hdj g f a o1 o2 e y) hg
    refine ⟨z, ?_⟩
    cases y : k' a with
    | none => rfl
    | some o2 =>
      have := c3 a o2 y z
      rw [hh _ _ (hfp g a o1 e).2] at this
      cases this
  refine ⟨fun a ob za ea => ?_, fun a ob ea => ?_, fun a ob na ea => c2 a ob (nk a na) ea, fun a ob ea na => ?_, ⟨hq, ndG_put hnd⟩, dx, vs, (fun g => if g = f then k' else fp g), ?_, ?_, fun g a ob ea => ?_, fun g1 g2 a o1 o2 e1 e2 => ?_⟩
  · cases y : fp f a with
    | none => exact c2 a ob y (hh _ _ ea)
    | some o1 =>
      have e1 := (hfp f a o1 y).2
      rw [ea] at e1
      cases e1
      exact c0 a _ za y
  · rcases hpW_some ea with z | ⟨_, z2, z3⟩
    · exact c1 a ob z
    · exact c2 a ob z2 (hh _ _ z3)
  · rcases hpW_some ea with z | ⟨_, _, z3⟩
    · exact c3 a ob z (nk a na)
    · rw [na] at z3
      cases z3
  · rw [hpW_old nk' np]
    exact hp
  · have e := fdg_put (F := F) (fp := fp) (fp' := fun g => if g = f then k' else fp g) (f := f) (s := .own o') (v := .ref d) ⟨d, rfl, by rw [if_pos rfl]; exact r'⟩ (fun g hg => if_neg hg) hnd hf
    have ev : putF f (.ref d) vs = vs := putF_same hv
    rw [ev] at e
    exact e
  · have ea' : (if g = f then k' else fp g) a = some ob := ea
    by_cases hg : g = f
    · rw [if_pos hg] at ea'
      have ha : a ≠ p := fun z => by
        subst z
        rw [nk'] at ea'
        cases ea'
      exact ⟨ha, hpW_new ea'⟩
    · rw [if_neg hg] at ea'
      obtain ⟨h1, h2⟩ := hfp g a ob ea'
      obtain ⟨z1, z2⟩ := nkg g a ob hg ea'
      exact ⟨h1, by rw [hpW_old z2 z1]; exact h2⟩
  · have e1' : (if g1 = f then k' else fp g1) a = some o1 := e1
    have e2' : (if g2 = f then k' else fp g2) a = some o2 := e2
    by_cases z1 : g1 = f
    · by_cases z2 : g2 = f
      · rw [z1, z2]
      · rw [if_pos z1] at e1'
        rw [if_neg z2] at e2'
        rw [(nkg g2 a o2 z2 e2').2] at e1'
        cases e1'
    · by_cases z2 : g2 = f
      · rw [if_neg z1] at e1'
        rw [if_pos z2] at e2'
        rw [(nkg g1 a o1 z1 e1').2] at e2'
        cases e2'
      · rw [if_neg z1] at e1'
        rw [if_neg z2] at e2'
        exact hdj g1 g2 a o1 o2 e1' e2'
/-- x.f[k] = v, x an own instance, x.f its own dict -/
theorem s_gput {κ α : Type} [DecidableEq κ] [KeyT κ] {T : α → S} {U : κ → S} {kvs : List (κ × α)} {key : κ} {x : α} (i : Nat) {z : Str} {p1 pa pos' : Pos} [hU : KeyS U] (hr : Room k X.A) (hi : ss[i]? = some (.own (oInsG C q fs))) (hl : fs.lookup f = some (.own (oDT T kvs))) (hc : Cls X.K C) (hn : NoAttr X.K C f)
    (hv : EvE X ss e (sv (T x))) (ha : EvE X ss a (sv (U key))) (hlen : kvs.length < sizeLine) (kk : D.nx (ss.set i (.own (oInsG C q (putG f (.own (oDT T (pK kvs key x))) fs))))) (hN : X.N[i]? = some z := by rfl)
    (hvs : Vis X.env.scope z := by first | exact Or.inl rfl | exact Or.inr (Or.inl rfl) | exact Or.inr (Or.inr rfl)) (hd : (z == ("__debug__" : Str)) = false := by decide) (hcd : (z == ("__classdict__" : Str)) = false := by decide)
    (hb : attributeBase (.Name z p1) f X.env (eval (.Name z p1) X.env) = eval (.Name z p1) X.env := by rfl)
    (hs : swapsWith e (some (.Subscript (.Attribute (.Name z p1) f pa) a pos')) pos.line X.env = pure false := by rfl) : EvS X ss (.Assign [.Subscript (.Attribute (.Name z p1) f pa) a pos'] e pos) D := .mk fun B F H σ h tk =>
  toS (ps_dput (hu_of hr) (pe_fld (pe_var hN hvs hd hcd) hb) PEw PEw hs) (hv B F H σ h _ fun v F1 H1 g1 r1 => by
    obtain ⟨p0, c0, e0, hc0, ⟨_, dx0, vs0, fp0, hp0, hf0, hfp0, _⟩⟩ := (h.grow g1).own hi
    obtain ⟨u0, hu0, d0, ed0, _⟩ := fdg_get hf0 hl
    cases ed0
    refine ⟨_, e0, p0, C, dx0, vs0, _, rfl, (hc0 _ _ hp0).1, hc, hn, hu0, ha B F1 H1 σ (h.grow g1) _ fun w F2 H2 g2 r2 => ?_⟩
    obtain ⟨p, c, e1, hc', ⟨⟨hq, hnd⟩, dx, vs, fp, hp, hf, hfp, hdj⟩, wr⟩ := ((h.grow g1).grow g2).write hi
    rw [e0] at e1
    cases e1
    have eI : HO.ins C dx0 vs0 = HO.ins C dx vs := by
      have z1 := g2.h.c (hc0 _ _ hp0).1
      rw [(hc' _ _ hp).1] at z1
      exact (Option.some.inj z1).symm
    injection eI with _ edx evs
    subst evs
    obtain ⟨u1, hu1, d1, ed1, ws, hd1, hk1⟩ := fdg_get hf hl
    rw [hu0] at hu1
    cases hu1
    cases ed1
    obtain ⟨b, eb, hb, gb⟩ := hU.to_ r2
    subst eb
    have hcd' : ∀ a ob, fp f a = some ob → H2 a = some ob := fun a ob ea => (hc' _ _ (hfp f a ob ea).2).1
    obtain ⟨w0, w1, w2, w3⟩ := dput_wr (key := key) (v := v) hd1 hcd'
    obtain ⟨v0, v1, v2, v3, v4⟩ := ins_write (F := F2) (H := H2) (h := c) (p := p0) (C := C) (q := q) (o := oDT T kvs) (o' := oDT T (pK kvs key x)) hnd hq (fun a ob ea => (hc' _ _ ea).1) hp hf hfp hdj hl hu0 w0 w1 w2 w3 ⟨_, upd_same, hk1.put gb ((T x).mono g2.f r1)⟩
    exact ⟨d0, _, rfl, DPut.t (hcd' _ _ hd1) (g2.s _ _ hb) (by rw [hk1.len]; exact hlen), F2, _, wr _ _ _ v0 v1 v2 v3 v4, kk⟩)
end
end Sx
namespace Sx
variable [Tbs]
open PySem PySem.Spec PyProof.Rows L2
/-! ### defs that hand back a new object -/
def spOfN (Φ : List S → O → Prop) : Sp := fun vs H Q _ => ∃ (F : Hp) (as : List S) (o : O), Sm F H ∧ Paired (fun (a : S) v => a.r F v) as vs ∧ Φ as o ∧
  ∀ p F' H' k, Grow F H F' H' → (∀ a ob, k a = some ob → H a = none ∧ (F' a = none ∨ IsT ob) ∧ H' a = some ob) → o.r F' k p → Q (.ref p) H'
structure CalleeN (P : Program) (w : World) (K : PySem.W.Frag) (mg : Str → Option Value) (base : Heap) (k : Nat) (x : Str) (Φ : List S → O → Prop) : Prop where
  ex : ∃ (f : Addr) (fd : FuncData) (ps : List Str), FnOk P w K mg base CX0 k f fd ps (spOfN Φ) ∧ mg x = some (.ref f) ∧ PySem.W.keepIn K (.ref f) = true ∧ Binds K fd ps []
theorem sat_start {F H0 : Hp} {N : List Str} {as : List S} {vs : List V} (sF : Sm F H0) (hp : Paired (fun (a : S) v => a.r F v) as vs) : Sat ⟨F, H0⟩ F H0 (L2.start N vs) (as.map Sl.val ++ List.replicate (N.length - as.length) .any) := by
  have hlen : vs.length = as.length := (Paired.length hp).symm
  refine ⟨.refl sF, ?_, fun _ => hp0, fun i x v e1 e2 => ?_, own0⟩
  · unfold L2.start
    rw [List.length_append, List.length_append, List.length_map, List.length_map, List.length_replicate, List.length_replicate, hlen]
  · by_cases hi : i < as.length
    · rw [List.getElem?_append_left (by rw [List.length_map]; exact hi), List.getElem?_map] at e1
      unfold L2.start at e2
      rw [List.getElem?_append_left (by rw [List.length_map, hlen]; exact hi), List.getElem?_map] at e2
      cases q1 : as[i]? with
      | none => rw [q1] at e1; cases e1
      | some a =>
        obtain ⟨u, hu, ru⟩ := pr_at hp q1
        rw [q1] at e1
        rw [hu] at e2
        cases e1; cases e2
        exact ⟨u, rfl, ru⟩
    · rw [List.getElem?_append_right (by rw [List.length_map]; omega), List.length_map] at e1
      have : x = .any := by
        obtain ⟨_, h2⟩ := List.getElem?_eq_some_iff.mp e1
        rw [← h2, List.getElem_replicate]
      subst this
      trivial
theorem fn_okN {P : Program} {w : World} {K : PySem.W.Frag} {mg : Str → Option Value} {base : Heap} {x qual : Str} {st : Stmt} {f : Addr} {fd : FuncData} {N ps : List Str} {k : Nat} {Φ : List S → O → Prop} (F : FunE K x qual st f fd) (Sc : FnScope N ps (defScope st)) (len : ∀ as o, Φ as o → as.length = ps.length)
    (body : ∀ (cdv : Value) (A : Around) (outer : List Env) (s0 : Shared) (H0 : Hp) (E : XK) (as : List S) (o : O), Room k (A.deeper (envOfC qual (defScope st) s0.heap.objs.size f cdv)) → Φ as o →
      EvSs (cxOf CX0 P w K mg base N qual (defScope st) f cdv A outer s0 H0 E).nox (as.map Sl.val ++ List.replicate (N.length - as.length) .any) (defBody st) { nx := fun _ => False, rt := fun _ => False, rn := fun o' => ∀ F k p, o'.r F k p → o.r F k p }) :
    FnOk P w K mg base CX0 (k + 1) f fd ps (spOfN Φ) := by
  refine F.ok Sc (fun vs H Q E ⟨F, as, o, _, hp, hΦ, _⟩ => by rw [← Paired.length hp]; exact len as o hΦ) (fun cdv A outer s0 H0 vs Q E hr h => ?_)
  obtain ⟨F, as, o, sF, hp, hΦ, q⟩ := h
  refine ⟨_, PSsw, ?_⟩
  refine wpSs_mono (body cdv A outer s0 H0 E as o hr hΦ ⟨F, H0⟩ F H0 _ (sat_start sF hp) tk0) (fun σ' H' ⟨F', ss', hs', k⟩ => k.elim) (fun v H' z => ?_) (fun _ _ ⟨_, _, _, z⟩ => z) (fun _ _ ⟨_, _, _, z⟩ => z)
  rcases RtP.two z (fun _ _ q => q) (fun _ _ q => q) with ⟨_, _, _, _, z⟩ | ⟨F', c, p, o', rfl, g, n, r, z⟩
  · exact z.elim
  · exact q p F' H' c g (fun a ob e => ⟨(n a ob e).2.1, (n a ob e).2.2, (n a ob e).1⟩) (z _ _ _ r)
theorem callee_mkN {P : Program} {w : World} {K : PySem.W.Frag} {mg : Str → Option Value} {base : Heap} {k : Nat} {x : Str} {f : Addr} {fd : FuncData} {ps : List Str} {Φ : List S → O → Prop} (G : FnOk P w K mg base CX0 k f fd ps (spOfN Φ)) (hm : mg x = some (.ref f)) (hk : PySem.W.keepIn K (.ref f) = true) (hb : Binds K fd ps []) :
    CalleeN P w K mg base k x Φ := ⟨f, fd, ps, G, hm, hk, hb⟩
section
variable {X : Cx} {ss : List Sl} {e a b c : Expr} {es : List Expr} {ρ τ κ : R} {s t : S} {o : O} {pos p p2 : Pos} {j k : Nat} {α β : Type} {T : α → S} {xs : List α} {as : List S} {D : Ds} {x : Str}
theorem ev_callN {Φ : List S → O → Prop} (C : CalleeN X.prog X.w X.K X.mg X.base j x Φ) (hr : Room k X.A) (ha : EvAs X ss (e :: es) as) (hΦ : Φ as o) (hj : j ≤ k := by decide) (hg : Gl X x := by rfl)
    (hdb : (x == ("__debug__" : Str)) = false := by decide) (he : starEach (e :: es) X.env = (false, eval e X.env) :: starEach es X.env := by exact star_ok rfl) (hpl : (backTo pos (starEach es X.env)).any (·.1) = false := by rfl) :
    EvN X ss (.Call (.Name x p) (e :: es) [] pos) o := .mk fun B F H σ h Q q => by
  obtain ⟨f, fd, ps, G, hm, hk, hb⟩ := C.ex
  refine toE (pe_call G (hr.mono hj) hg hm hk hb .nil pass0 PAw hdb he hpl) ?_
  refine ha.go B F H σ h _ fun vs F1 H1 g1 rs => ?_
  rw [List.append_nil]
  exact ⟨F1, as, o, g1.s, paired_sv rs, hΦ, fun p F2 H2 c g2 n r => q p F2 H2 c (g1.trans g2) (fun a ob e => ⟨g1.h.free (n a ob e).1, (n a ob e).2⟩) r⟩
/-- new().append(e), dropped -/
theorem ev_appN {apos cpos : Pos} (ha : EvN X ss a (oLst T xs)) (he : EvE X ss e ρ) (hl : xs.length < sizeLine)
    (hbase : attributeBase a "append" X.env (eval a X.env) = eval a X.env := by rfl)
    (hfew : ((backTo cpos (starEach [e] X.env)).all (fun x => !x.1) && (backToKw cpos (keywordEach [] X.env)).all (fun x => x.1.isSome) && decide ([e].length + ([] : List Keyword).length + (if ([] : List Keyword).isEmpty then 0 else 1) < 30)) = true := by rfl)
    (hline : (apos.endLine == cpos.line) = true := by rfl) (hs : starEach [e] X.env = (false, eval e X.env) :: starEach [] X.env := by exact star_ok rfl) (hplain : (backTo cpos (starEach [] X.env)).any (·.1) = false := by rfl) :
    EvE X ss (.Call (.Attribute a "append" apos) [e] [] cpos) (sv sNone) := .mk fun B F H σ h Q q => by
  refine toE (pe_bm PySem.F.plainAttrs_list PySem.F.slot_list_append PySem.F.type_list_append mt_append PEw (pa_cons PEw pa_nil hs) hbase hfew hline hs hplain) ?_
  refine ha B F H σ h _ fun p F1 H1 c g1 n1 r1 => ?_
  obtain ⟨vs, e2, hi⟩ := r1
  refine ⟨.inl ⟨rfl, vs, SqL.of (n1 _ _ e2).2.2⟩, ?_⟩
  refine he B F1 H1 σ (h.grow g1) _ fun v F2 H2 g2 r2 => ?_
  have hp : H2 p = some (.lst vs) := g2.h.c (n1 _ _ e2).2.2
  have g := g1.trans g2
  have nH : H p = none := (n1 _ _ e2).1
  have nF : F2 p = none := by
    cases z : F2 p with
    | none => rfl
    | some o' =>
      have e3 := g2.s p o' z
      rw [hp] at e3
      cases e3
      rcases (n1 _ _ e2).2.1 with y | y
      · rcases g2.n p _ z y with y | y
        · rw [(n1 _ _ e2).2.2] at y
          cases y
        · exact y.elim
      · exact y.elim
  refine ⟨p, vs, v, rfl, rfl, hp, by rw [hi.len]; exact hl, ?_⟩
  refine q .non F2 _ ⟨g.f, g.h.put nH hp, g.s.put nF hp, fun x y ex nx => g.n x y ex nx⟩ rfl
end
/-! ### methods -/
structure CalleeM (P : Program) (w : World) (K : PySem.W.Frag) (mg : Str → Option Value) (base : Heap) (k : Nat) (C : Addr) (m : Str) (Φ : List S → S → Prop) : Prop where
  ex : ∃ (f : Addr) (fd : FuncData) (ps : List Str), Meth K C m f ∧ FnOk P w K mg base CX0 k f fd ps (spOf Φ) ∧ Binds K fd ps []
section
variable {X : Cx} {ss : List Sl} {e o a b c : Expr} {es : List Expr} {ρ τ κ : R} {s t : S} {pos p p2 apos : Pos} {j k : Nat} {as : List S} {D : Ds} {x m : Str} {C : Addr} {q : Addr → Prop} {fs : List (Str × Sl)}
theorem fdg_lk {F : Hp} {fp : Str → Hp} {fs : List (Str × Sl)} {vs : List (Str × V)} {m : Str} (h : Fdg F fp fs vs) (hl : fs.lookup m = none) : vs.lookup m = none := fdg_none h hl
theorem ev_meth {Φ : List S → S → Prop} {pl : Sem Bool} (G : CalleeM X.prog X.w X.K X.mg X.base j C m Φ) (hc : Cls X.K C) (hr : Room k X.A) (ho : EvE X ss o (sv (sO (oInsG C q fs)))) (hl : fs.lookup m = none) (ha : EvAs X ss (e :: es) as) (hΦ : Φ (sO (oInsG C q fs) :: as) s) (hj : j ≤ k := by decide)
    (he : starEach (e :: es) X.env = (false, eval e X.env) :: starEach es X.env := by exact star_ok rfl) (hpl : (backTo pos (starEach es X.env)).any (·.1) = false := by rfl)
    (ht : eval (.Call (.Attribute o m apos) (e :: es) [] pos) X.env = (do
      let ov ← eval o X.env
      standAt apos.atName
      let (f, first) ← holding [ov] (getMethod ov m pl)
      callWith pos f first (backTo pos (starEach (e :: es) X.env)) (backToKw pos (keywordEach [] X.env))) := by rfl) :
    EvE X ss (.Call (.Attribute o m apos) (e :: es) [] pos) (sv s) := .mk fun B F H σ h Q z => by
  obtain ⟨f, fd, ps, M, G, hb⟩ := G.ex
  refine toE (pe_meth PEw hc M G (hr.mono hj) hb .nil pass0 PAw he hpl ht) ?_
  refine ho B F H σ h _ fun v F1 H1 g1 r1 => ?_
  obtain ⟨y, c, ev, hk, hq, dx, vs, fp, hp, hf, hrest⟩ := id r1
  refine ⟨y, dx, vs, ev, g1.s _ _ (hk _ _ hp), fdg_none hf hl, ?_⟩
  refine ha.go B F1 H1 σ (h.grow g1) _ fun ws F2 H2 g2 rs => ?_
  rw [List.append_nil]
  exact ⟨F2, _ :: as, s, g2.s, .cons ((sO (oInsG C q fs)).mono g2.f r1) (paired_sv rs), hΦ, fun v F3 H3 g3 r => z v F3 H3 ((g1.trans g2).trans g3) r⟩
end
/-! ### an __init__ whose fields may be objects of their own -/
def spInG (C : Addr) (Φ : List S → List (Str × Sl) → Prop) : Sp := fun vs H Q _ => ∃ (F : Hp) (x dx : Addr) (ws : List V) (as : List S) (fs : List (Str × Sl)), vs = .ref x :: ws ∧ Sm F H ∧ F x = none ∧ H x = some (.ins C dx []) ∧ Paired (fun (a : S) v => a.r F v) as ws ∧ Φ as fs ∧
  ∀ F' H' k, Grow F (hid x H) F' H' → (∀ a ob, k a = some ob → H' a = some ob ∧ hid x H a = none ∧ (F' a = none ∨ IsT ob)) → (oInsG C (fun p => p = x) fs).r F' k x → Q .non H'
structure CalleeG (P : Program) (w : World) (K : PySem.W.Frag) (mg : Str → Option Value) (base : Heap) (k : Nat) (x : Str) (C : Addr) (Φ : List S → List (Str × Sl) → Prop) : Prop where
  ex : ∃ (f : Addr) (fd : FuncData) (ps : List Str), Mk K C f ∧ FnOk P w K mg base CX0 k f fd ps (spInG C Φ) ∧ mg x = some (.ref C) ∧ Binds K fd ps []
theorem insG_start {C y dx : Addr} {F : Hp} : (oInsG C (fun p => p = y) []).r F (hp1 y (.ins C dx [])) y :=
  ⟨⟨rfl, by trivial⟩, dx, [], fun _ => hp0, hp1_same, .nil, (fun f a ob e => nomatch (show (none : Option HO) = some ob from e)), (fun f g a o1 o2 e => nomatch (show (none : Option HO) = some o1 from e))⟩
theorem sat_startI {F H0 : Hp} {N : List Str} {as : List S} {ws : List V} {C y dx : Addr} (sF : Sm F H0) (nF : F y = none) (hy : H0 y = some (.ins C dx [])) (hp : Paired (fun (a : S) v => a.r F v) as ws) :
    Sat ⟨F, hid y H0⟩ F H0 (L2.start N (.ref y :: ws)) (.own (oInsG C (fun p => p = y) []) :: (as.map Sl.val ++ List.replicate (N.length - (as.length + 1)) .any)) := by
  have hlen : ws.length = as.length := (Paired.length hp).symm
  have g0 : Grow F (hid y H0) F H0 := ⟨Same.refl _, gr_hid sF.t hy, sF, fun p o e n => by rw [n] at e; cases e⟩
  refine ⟨g0, ?_, fun i => if i = 0 then hp1 y (.ins C dx []) else hp0, fun i x v e1 e2 => ?_, ⟨fun i a ob e => ?_, fun i j a o1 o2 e1 e2 => ?_⟩⟩
  · unfold L2.start
    simp only [List.length_cons, List.length_append, List.length_map, List.length_replicate, hlen]
    omega
  · cases i with
    | zero =>
      rw [List.getElem?_cons_zero] at e1
      unfold L2.start at e2
      rw [List.map_cons, List.cons_append, List.getElem?_cons_zero] at e2
      cases e1; cases e2
      exact ⟨y, rfl, insG_start⟩
    | succ i =>
      rw [List.getElem?_cons_succ] at e1
      unfold L2.start at e2
      rw [List.map_cons, List.cons_append, List.getElem?_cons_succ] at e2
      by_cases hi : i < as.length
      · rw [List.getElem?_append_left (by rw [List.length_map]; exact hi), List.getElem?_map] at e1
        rw [List.getElem?_append_left (by rw [List.length_map, hlen]; exact hi), List.getElem?_map] at e2
        cases q1 : as[i]? with
        | none => rw [q1] at e1; cases e1
        | some a =>
          obtain ⟨u, hu, ru⟩ := pr_at hp q1
          rw [q1] at e1
          rw [hu] at e2
          cases e1; cases e2
          exact ⟨u, rfl, ru⟩
      · rw [List.getElem?_append_right (by rw [List.length_map]; omega), List.length_map] at e1
        have : x = .any := by
          obtain ⟨_, h2⟩ := List.getElem?_eq_some_iff.mp e1
          rw [← h2, List.getElem_replicate]
        subst this
        trivial
  · by_cases hi : i = 0
    · subst hi
      have e' : hp1 y (.ins C dx []) a = some ob := e
      obtain ⟨rfl, rfl⟩ := hp1_some e'
      exact ⟨hy, hid_same, .inl nF⟩
    · have e' : (if i = 0 then hp1 y (.ins C dx []) else hp0) a = some ob := e
      rw [if_neg hi] at e'
      cases (show (none : Option HO) = some ob from e')
  · by_cases hi : i = 0
    · by_cases hj : j = 0
      · rw [hi, hj]
      · have e' : (if j = 0 then hp1 y (.ins C dx []) else hp0) a = some o2 := e2
        rw [if_neg hj] at e'
        cases (show (none : Option HO) = some o2 from e')
    · have e' : (if i = 0 then hp1 y (.ins C dx []) else hp0) a = some o1 := e1
      rw [if_neg hi] at e'
      cases (show (none : Option HO) = some o1 from e')
theorem initG_ok {P : Program} {w : World} {K : PySem.W.Frag} {mg : Str → Option Value} {base : Heap} {x qual : Str} {st : Stmt} {f C : Addr} {fd : FuncData} {N ps : List Str} {k : Nat} {Φ : List S → List (Str × Sl) → Prop} (F : FunE K x qual st f fd) (Sc : FnScope N ps (defScope st)) (len : ∀ as s, Φ as s → as.length + 1 = ps.length)
    (body : ∀ (cdv : Value) (A : Around) (outer : List Env) (s0 : Shared) (H0 : Hp) (E : XK) (y : Addr) (as : List S) (fs : List (Str × Sl)), Room k (A.deeper (envOfC qual (defScope st) s0.heap.objs.size f cdv)) → Φ as fs →
      EvSs (cxOf CX0 P w K mg base N qual (defScope st) f cdv A outer s0 H0 E).nox (.own (oInsG C (fun p => p = y) []) :: (as.map Sl.val ++ List.replicate (N.length - (as.length + 1)) .any)) (defBody st) { nx := fun ss' => ss'[0]? = some (.own (oInsG C (fun p => p = y) fs)), rt := fun s' => False }) :
    FnOk P w K mg base CX0 (k + 1) f fd ps (spInG C Φ) := by
  refine F.ok Sc (fun vs H Q E ⟨F, x, dx, ws, as, fs, ev, _, _, _, hp, hΦ, _⟩ => by rw [ev, List.length_cons, ← Paired.length hp]; exact len as fs hΦ) (fun cdv A outer s0 H0 vs Q E hr h => ?_)
  obtain ⟨F, y, dx, ws, as, fs, rfl, sF, nF, hy, hp, hΦ, q⟩ := h
  refine ⟨_, PSsw, ?_⟩
  refine wpSs_mono (body cdv A outer s0 H0 E y as fs hr hΦ ⟨F, hid y H0⟩ F H0 _ (sat_startI sF nF hy hp) tk0) (fun σ' H' ⟨F', ss', hs', z⟩ => ?_) (fun v H' z => by rcases RtP.two z (fun _ _ q => q) (fun _ _ q => q) with ⟨_, _, _, _, z⟩ | ⟨_, _, _, _, _, _, _, _, z⟩ <;> exact z.elim) (fun _ _ ⟨_, _, _, z⟩ => z) (fun _ _ ⟨_, _, _, z⟩ => z)
  obtain ⟨p, c, _, hc, hr'⟩ := hs'.own z
  have ep : p = y := hr'.1.1
  subst ep
  exact q F' H' c hs'.g hc hr'
theorem insG_any {C : Addr} {q : Addr → Prop} {fs : List (Str × Sl)} {F k : Hp} {p : Addr} (h : (oInsG C q fs).r F k p) : (oInsG C (fun _ => True) fs).r F k p := ⟨⟨trivial, h.1.2⟩, h.2⟩
theorem ev_makeG {X : Cx} {ss : List Sl} {e : Expr} {es : List Expr} {p pos : Pos} {x : Str} {C : Addr} {Φ : List S → List (Str × Sl) → Prop} {as : List S} {fs : List (Str × Sl)} {j k : Nat} (G : CalleeG X.prog X.w X.K X.mg X.base j x C Φ) (hr : Room k X.A) (ha : EvAs X ss (e :: es) as) (hΦ : Φ as fs) (hj : j + 1 ≤ k := by decide) (hg : Gl X x := by rfl)
    (hdb : (x == ("__debug__" : Str)) = false := by decide) (he : starEach (e :: es) X.env = (false, eval e X.env) :: starEach es X.env := by exact star_ok rfl) (hpl : (backTo pos (starEach es X.env)).any (·.1) = false := by rfl) :
    EvN X ss (.Call (.Name x p) (e :: es) [] pos) (oInsG C (fun _ => True) fs) := .mk fun B F H σ h Q q => by
  obtain ⟨f, fd, ps, M, G, hm, hb⟩ := G.ex
  refine toE (pe_make M G (hr.mono hj) hg hm hb .nil pass0 PAw hdb he hpl) ?_
  refine ha.go B F H σ h _ fun vs F1 H1 g1 rs x dx nx nd nex => ?_
  rw [List.append_nil]
  have sm : Same H1 (upd (upd H1 dx (.own x)) x (.ins C dx [])) := fun a o ea => by
    rw [upd_ne (ne_of_none ea nx), upd_ne (ne_of_none ea nd)]
    exact ea
  have sh : Same H1 (hid x (upd (upd H1 dx (.own x)) x (.ins C dx []))) := fun a o ea => by
    rw [hid_ne (ne_of_none ea nx)]
    exact sm a o ea
  refine ⟨F1, x, dx, vs, as, fs, rfl, g1.s.ext sm, g1.s.free nx, upd_same, paired_sv rs, hΦ, fun F2 H2 c g2 hc hr => ⟨rfl, ?_⟩⟩
  have g3 : Grow F1 H1 F2 H2 := ⟨g2.f, Gr.pre g1.s.t sh g2.h, g2.s, fun a o e1 e2 => (g2.n a o e1 e2).imp sh.free id⟩
  exact q x F2 H2 c (g1.trans g3) (fun a ob ea => ⟨g1.h.free (sh.free (hc a ob ea).2.1), (hc a ob ea).2.2, (hc a ob ea).1⟩) (insG_any hr)
end Sx
namespace Sx
variable [Tbs]
open PySem PySem.Spec PyProof.Rows L2
section
variable {X : Cx} {ss : List Sl} {e c elt : Expr} {ifs : List Expr} {scope : Scope} {α β : Type} {T : α → S} {U : β → S} {xs : List α} {s : S} {o : O} {pos : Pos}
/-- a comprehension over the signs of a text -/
theorem lc_str {iter : Expr} {tg : Expr} {z : Str} (j : Nat) (p : Nat → Bool) (f : Nat → β) (hi : EvE X ss iter (sv (sStr z))) (hl : z.length ≤ sizeLine)
    (ht : ∀ (i : Nat) x, z.cps.toList[i]? = some x → BlkT X scope (ss.set j (.val (sStr ⟨#[x]⟩))) ifs (p x)) (he : ∀ (i : Nat) x, z.cps.toList[i]? = some x → p x = true → BlkE X scope (ss.set j (.val (sStr ⟨#[x]⟩))) elt (sv (U (f x)))) :
    Lc X ss elt tg iter ifs scope j (oLst U ((z.cps.toList.filter p).map f)) := .mk fun B F H σ h Q q => by
  refine toI (pi_str PEw) ?_
  refine hi B F H σ h _ fun v F1 H1 g1 r1 => ?_
  obtain ⟨ev, ok⟩ := r1
  subst ev
  have h1 := h.grow g1
  refine ⟨z, rfl, fun D nD => ?_⟩
  refine ⟨fun i m H => m = z.cps.toList.length - i ∧ i ≤ z.cps.toList.length ∧ LcPv U F1 H1 D (((z.cps.toList.take i).filter p).map f) H, ⟨_, rfl, Nat.zero_le _, lcpv_0 g1.s nD⟩, ?_⟩
  have el : z.cps.toList.length = z.cps.size := Array.length_toList
  rintro i m H ⟨rfl, hle, hP⟩
  by_cases hlt : i < z.cps.toList.length
  · refine .inr ⟨show i < z.cps.size by omega, fun H => LcPv U F1 H1 D (((z.cps.toList.take (i + 1)).filter p).map f) H, fun H' p' => ⟨z.cps.toList.length - (i + 1), by omega, rfl, hlt, p'⟩, fun x H' y => ?_⟩
    obtain ⟨eH, c, hc, ex⟩ := y
    subst eH ex
    have hx : z.cps.toList[i]? = some c := by rw [Array.getElem?_toList]; exact hc
    refine lc_step h1 nD (ht i c hx) (fun b => he i c hx b) (filter_take hx) ?_ ⟨rfl, strOk_sub ok fun n hn => ?_⟩ hP
    · rw [List.length_map]
      refine Nat.lt_of_le_of_lt (List.length_filter_le _ _) ?_
      rw [List.length_take]
      have : z.cps.toList.length ≤ sizeLine := by rw [el]; exact hl
      omega
    · have e : n = c := by simpa using hn
      rw [e]
      exact List.mem_of_getElem? hx
  · have e : i = z.cps.toList.length := by omega
    subst e
    refine .inl ⟨show z.cps.size ≤ _ by omega, ?_⟩
    obtain ⟨F', acc, g, fD, hD, hi'⟩ := hP
    rw [List.take_length] at hi'
    exact q D F' _ (hp1 D (.lst acc)) (g1.trans g) (fun a ob ea => by
      obtain ⟨rfl, rfl⟩ := hp1_some ea
      exact ⟨g1.h.free nD, .inl fD, hD⟩) ⟨acc, hp1_same, hi'⟩
end
/-- x in xs, as the rules for in have it -/
abbrev inB {α : Type} [DecidableEq α] (x : α) (xs : List α) : Bool := decide (x ∈ xs)
omit [Tbs] in
theorem inB_iff {α : Type} [DecidableEq α] {x : α} {xs : List α} : inB x xs = true ↔ x ∈ xs := decide_eq_true_iff
/-! ### pairs -/
def sPair {α β : Type} (T : α → S) (U : β → S) (p : α × β) : S := sTup id [T p.1, U p.2]
instance {α β : Type} {T : α → S} {U : β → S} {p : α × β} {K : PySem.W.Frag} : AsTp K (sv (sPair T U p)) id [T p.1, U p.2] := inferInstanceAs (AsTp K (sv (sO (oTup id [T p.1, U p.2]))) id [T p.1, U p.2])
section
variable {α β : Type} {T : α → S} {U : β → S}
omit [Tbs] in
theorem its2 {F : Hp} {s t : S} {vs : List V} (h : Its id F [s, t] vs) : ∃ a b, vs = [a, b] ∧ s.r F a ∧ t.r F b := by
  have h' : Paired (fun (x : S) v => x.r F v) [s, t] vs := h
  cases h' with
  | cons r1 t1 =>
    cases t1 with
    | cons r2 t2 =>
      cases t2
      exact ⟨_, _, rfl, r1, r2⟩
instance [TyD T] [TyD U] : TyD (sPair T U) where
  d := fun p => .tuple [TyD.d T p.1, TyD.d U p.2]
  dep := max (TyD.dep T) (TyD.dep U) + 1
  ok := fun {K F v x} h => by
    obtain ⟨p, k, e, hk, vs, hp, hi⟩ := h
    subst e
    obtain ⟨a, b, rfl, ra, rb⟩ := its2 hi
    obtain ⟨a1, a2, a3⟩ := TyD.ok (T := T) (K := K) ra
    obtain ⟨b1, b2, b3⟩ := TyD.ok (T := U) (K := K) rb
    refine ⟨.tup (SqT.of (hk _ _ hp)) (.cons a1 (.cons b1 .nil)), ?_, ?_⟩
    · rw [PyData.canLay0, PyData.canLayAll0, PyData.canLayAll0, PyData.canLayAll0, a2, b2]
      rfl
    · rw [PyData.depth, PyData.depthAll, PyData.depthAll, PyData.depthAll]
      omega
instance [DecidableEq α] [DecidableEq β] [TyQ T] [TyQ U] : TyQ (sPair T U) where
  q := fun x y => by
    show PyData.eqv (.tuple _) (.tuple _) = _
    rw [PyData.eqv, PyData.eqvAll, PyData.eqvAll, PyData.eqvAll, TyQ.q, TyQ.q]
    obtain ⟨a, b⟩ := x
    obtain ⟨c, d⟩ := y
    simp [Prod.ext_iff, Bool.decide_and]
end
/-! ### callees, made -/
section
variable {P : Program} {w : World} {K : PySem.W.Frag} {mg : Str → Option Value} {base : Heap} {k : Nat} {x m : Str} {f C : Addr} {fd : FuncData} {ps : List Str}
theorem callee_mkM {Φ : List S → S → Prop} (G : FnOk P w K mg base CX0 k f fd ps (spOf Φ)) (M : Meth K C m f) (hb : Binds K fd ps []) : CalleeM P w K mg base k C m Φ := ⟨f, fd, ps, M, G, hb⟩
theorem callee_mkC {Φ : List S → List (Str × S) → Prop} (G : FnOk P w K mg base CX0 k f fd ps (spIn C Φ)) (M : Mk K C f) (hm : mg x = some (.ref C)) (hb : Binds K fd ps []) : CalleeC P w K mg base k x C Φ := ⟨f, fd, ps, M, G, hm, hb⟩
theorem callee_mkG {Φ : List S → List (Str × Sl) → Prop} (G : FnOk P w K mg base CX0 k f fd ps (spInG C Φ)) (M : Mk K C f) (hm : mg x = some (.ref C)) (hb : Binds K fd ps []) : CalleeG P w K mg base k x C Φ := ⟨f, fd, ps, M, G, hm, hb⟩
end
end Sx
namespace Sx
variable [Tbs]
open PySem PySem.Spec PyProof.Rows L2
/-! ### an expression that raises -/
structure EvR (X : Cx) (ss : List Sl) (e : Expr) (ex : Xo → List Sl → Prop) : Prop where
  go : ∀ (B : Bs) (F H : Hp) (σ : L2.St), Sat B F H σ ss → Tk X B ex → ∀ Q : VK, wpE X e σ H Q
section
variable {X : Cx} {ss : List Sl} {e a b c : Expr} {es : List Expr} {body : List Stmt} {ρ τ : R} {s t : S} {o : O} {pos pos' p p2 : Pos} {D : Ds} {x : Str} {ex ex' : Xo → List Sl → Prop}
theorem EvR.imp (h : EvR X ss e ex) (w : ∀ x ss, ex x ss → ex' x ss) : EvR X ss e ex' := .mk fun B F H σ hs tk Q => h.go B F H σ hs (tk.imp w) Q
theorem s_dropR (he : EvR X ss e D.ex) (hs : swapsWith e none pos.line X.env = pure false := by rfl) : EvS X ss (.Expr e pos) D := .mk fun B F H σ h tk =>
  toS (ps_expr PEw hs) (he.go B F H σ h tk _)
theorem s_retR (he : EvR X ss e D.ex) : EvS X ss (.Return (some e) pos) D := .mk fun B F H σ h tk => toS (ps_ret PEw) (he.go B F H σ h tk _)
end
/-! ### results -/
inductive Rs where
  | ok (s : S)
  | new (o : O)
  | ex (x : Xo)
def RsP (F H : Hp) (Q : VK) (E : XK) : Rs → Prop
  | .ok s => ∀ v F' H', Grow F H F' H' → s.r F' v → Q v H'
  | .new o => ∀ p F' H' k, Grow F H F' H' → (∀ a ob, k a = some ob → H a = none ∧ (F' a = none ∨ IsT ob) ∧ H' a = some ob) → o.r F' k p → Q (.ref p) H'
  | .ex x => ∀ cls d F' H', Grow F H F' H' → XoR x F' cls d → E cls d H'
def spOfX (Φ : List S → Rs → Prop) : Sp := fun vs H Q E => ∃ (F : Hp) (as : List S) (r : Rs), Sm F H ∧ Paired (fun (a : S) v => a.r F v) as vs ∧ Φ as r ∧ RsP F H Q E r
/-- what is wanted behind the body -/
def dsX : Rs → Ds
  | .ok s => { nx := fun _ => ∀ F : Hp, s.r F .non, rt := fun s' => ∀ F v, s'.r F v → s.r F v }
  | .new o => { nx := fun _ => False, rt := fun _ => False, rn := fun o' => ∀ F k p, o'.r F k p → o.r F k p }
  | .ex x => { nx := fun _ => False, rt := fun _ => False, ex := fun x' _ => x' = x }
structure CalleeX (P : Program) (w : World) (K : PySem.W.Frag) (mg : Str → Option Value) (base : Heap) (k : Nat) (x : Str) (Φ : List S → Rs → Prop) : Prop where
  ex : ∃ (f : Addr) (fd : FuncData) (ps : List Str), FnOk P w K mg base (L2.CX P w) k f fd ps (spOfX Φ) ∧ mg x = some (.ref f) ∧ PySem.W.keepIn K (.ref f) = true ∧ Binds K fd ps []
section
variable {P : Program} {w : World} {K : PySem.W.Frag} {mg : Str → Option Value} {base : Heap} {x qual : Str} {st : Stmt} {f : Addr} {fd : FuncData} {N ps : List Str} {k : Nat} {sp : Sp}
theorem FunE.okX (F : FunE K x qual st f fd) (S : FnScope N ps (defScope st)) (len : ∀ vs H Q E, sp vs H Q E → vs.length = ps.length)
    (body : ∀ (cdv : Value) (A : Around) (outer : List Env) (s : Shared) (H : Hp) (vs : List V) (Q : VK) (E : XK), Room k (A.deeper (envOfC qual (defScope st) s.heap.objs.size f cdv)) → sp vs H Q E →
      ∃ t, PSs (cxOf (L2.CX P w) P w K mg base N qual (defScope st) f cdv A outer s H E) (defBody st) t ∧ t { nx := fun _ H' => Q .non H', rt := Q } (L2.start N vs) H) : FnOk P w K mg base (L2.CX P w) (k + 1) f fd ps sp := by
  obtain ⟨oc, od, dV, kV, doc, pm, an, cdv, ct, osl, rfl, lk, hcd⟩ := F.ex
  exact fn_of lk hcd S len fun A outer s H vs Q E hr hsp => body cdv A outer s H vs Q E hr hsp
end
section
variable {P : Program} {w : World} {K : PySem.W.Frag} {mg : Str → Option Value} {base : Heap} {x qual : Str} {st : Stmt} {f C : Addr} {fd : FuncData} {N ps : List Str} {k : Nat}
theorem callee_mkX {Φ : List S → Rs → Prop} (G : FnOk P w K mg base (L2.CX P w) k f fd ps (spOfX Φ)) (hm : mg x = some (.ref f)) (hk : PySem.W.keepIn K (.ref f) = true) (hb : Binds K fd ps []) : CalleeX P w K mg base k x Φ := ⟨f, fd, ps, G, hm, hk, hb⟩
theorem fn_okX {Φ : List S → Rs → Prop} (F : FunE K x qual st f fd) (Sc : FnScope N ps (defScope st)) (len : ∀ as r, Φ as r → as.length = ps.length)
    (body : ∀ (cdv : Value) (A : Around) (outer : List Env) (s0 : Shared) (H0 : Hp) (E : XK) (as : List S) (r : Rs), Room k (A.deeper (envOfC qual (defScope st) s0.heap.objs.size f cdv)) →
      PassesOwn (model P w) (cxOf (L2.CX P w) P w K mg base N qual (defScope st) f cdv A outer s0 H0 E).A (cxOf (L2.CX P w) P w K mg base N qual (defScope st) f cdv A outer s0 H0 E).env (cxOf (L2.CX P w) P w K mg base N qual (defScope st) f cdv A outer s0 H0 E).xe → Φ as r →
      EvSs (cxOf (L2.CX P w) P w K mg base N qual (defScope st) f cdv A outer s0 H0 E) (as.map Sl.val ++ List.replicate (N.length - as.length) .any) (defBody st) (dsX r)) :
    FnOk P w K mg base (L2.CX P w) (k + 1) f fd ps (spOfX Φ) := by
  refine F.okX Sc (fun vs H Q E ⟨F, as, r, _, hp, hΦ, _⟩ => by rw [← Paired.length hp]; exact len as r hΦ) (fun cdv A outer s0 H0 vs Q E hr h => ?_)
  obtain ⟨F, as, r, sF, hp, hΦ, q⟩ := h
  refine ⟨_, PSsw, ?_⟩
  have tk : Tk (cxOf (L2.CX P w) P w K mg base N qual (defScope st) f cdv A outer s0 H0 E) ⟨F, H0⟩ (dsX r).ex := by
    refine Takes.imp (takes_of (E := E) rfl rfl rfl rfl) fun cls d σ H z => ?_
    obtain ⟨x', F', ss', hx, hs', hr'⟩ := z
    cases r with
    | ok s => exact (show False from hx).elim
    | new o => exact (show False from hx).elim
    | ex y =>
      have e : x' = y := hx
      subst e
      exact q cls d F' H hs'.g hr'
  refine wpSs_mono (body cdv A outer s0 H0 E as r hr (passes_of rfl) hΦ ⟨F, H0⟩ F H0 _ (sat_start sF hp) tk) (fun σ' H' ⟨F', ss', hs', z⟩ => ?_) (fun v H' z => ?_) (fun _ _ ⟨_, _, _, z⟩ => ?_) (fun _ _ ⟨_, _, _, z⟩ => ?_)
  · cases r with
    | ok s => exact q _ F' H' hs'.g (z F')
    | new o => exact (show False from z).elim
    | ex y => exact (show False from z).elim
  · cases r with
    | ok s =>
      rcases RtP.two z (fun _ _ q => q) (fun _ _ q => q) with ⟨F', s', g, r', z⟩ | ⟨_, _, _, _, _, _, _, _, z⟩
      · exact q v F' H' g (z F' v r')
      · exact (show False from z).elim
    | new o =>
      rcases RtP.two z (fun _ _ q => q) (fun _ _ q => q) with ⟨_, _, _, _, z⟩ | ⟨F', c, p, o', rfl, g, n, r', z⟩
      · exact (show False from z).elim
      · exact q p F' H' c g (fun a ob e => ⟨(n a ob e).2.1, (n a ob e).2.2, (n a ob e).1⟩) (z _ _ _ r')
    | ex y =>
      rcases RtP.two z (fun _ _ q => q) (fun _ _ q => q) with ⟨_, _, _, _, z⟩ | ⟨_, _, _, _, _, _, _, _, z⟩
      · exact (show False from z).elim
      · exact (show False from z).elim
  · cases r <;> exact (show False from z).elim
  · cases r <;> exact (show False from z).elim
end
/-! ### calls of such defs -/
section
variable {X : Cx} {ss : List Sl} {e : Expr} {es : List Expr} {as : List S} {s : S} {o : O} {z : Xo} {Φ : List S → Rs → Prop} {x : Str} {p pos : Pos} {j k : Nat} {ex : Xo → List Sl → Prop}
theorem ev_callX (C : CalleeX X.prog X.w X.K X.mg X.base j x Φ) (hr : Room k X.A) (ha : EvAs X ss (e :: es) as) (hΦ : Φ as (.ok s)) (hj : j ≤ k := by decide) (hg : Gl X x := by rfl)
    (hdb : (x == ("__debug__" : Str)) = false := by decide) (he : starEach (e :: es) X.env = (false, eval e X.env) :: starEach es X.env := by exact star_ok rfl) (hpl : (backTo pos (starEach es X.env)).any (·.1) = false := by rfl) :
    EvE X ss (.Call (.Name x p) (e :: es) [] pos) (sv s) := .mk fun B F H σ h Q q => by
  obtain ⟨f, fd, ps, G, hm, hk, hb⟩ := C.ex
  refine toE (pe_call G (hr.mono hj) hg hm hk hb .nil passL PAw hdb he hpl) ?_
  refine ha.go B F H σ h _ fun vs F1 H1 g1 rs => ?_
  rw [List.append_nil]
  exact ⟨F1, as, .ok s, g1.s, paired_sv rs, hΦ, fun v F2 H2 g2 r => q v F2 H2 (g1.trans g2) r⟩
theorem ev_callXN (C : CalleeX X.prog X.w X.K X.mg X.base j x Φ) (hr : Room k X.A) (ha : EvAs X ss (e :: es) as) (hΦ : Φ as (.new o)) (hj : j ≤ k := by decide) (hg : Gl X x := by rfl)
    (hdb : (x == ("__debug__" : Str)) = false := by decide) (he : starEach (e :: es) X.env = (false, eval e X.env) :: starEach es X.env := by exact star_ok rfl) (hpl : (backTo pos (starEach es X.env)).any (·.1) = false := by rfl) :
    EvN X ss (.Call (.Name x p) (e :: es) [] pos) o := .mk fun B F H σ h Q q => by
  obtain ⟨f, fd, ps, G, hm, hk, hb⟩ := C.ex
  refine toE (pe_call G (hr.mono hj) hg hm hk hb .nil passL PAw hdb he hpl) ?_
  refine ha.go B F H σ h _ fun vs F1 H1 g1 rs => ?_
  rw [List.append_nil]
  exact ⟨F1, as, .new o, g1.s, paired_sv rs, hΦ, fun p F2 H2 c g2 n r => q p F2 H2 c (g1.trans g2) (fun a ob e => ⟨g1.h.free (n a ob e).1, (n a ob e).2⟩) r⟩
theorem ev_callR (C : CalleeX X.prog X.w X.K X.mg X.base j x Φ) (hr : Room k X.A) (ha : EvAs X ss (e :: es) as) (hΦ : Φ as (.ex z)) (hz : ex z ss) (hj : j ≤ k := by decide) (hg : Gl X x := by rfl)
    (hdb : (x == ("__debug__" : Str)) = false := by decide) (he : starEach (e :: es) X.env = (false, eval e X.env) :: starEach es X.env := by exact star_ok rfl) (hpl : (backTo pos (starEach es X.env)).any (·.1) = false := by rfl) :
    EvR X ss (.Call (.Name x p) (e :: es) [] pos) ex := .mk fun B F H σ h tk Q => by
  obtain ⟨f, fd, ps, G, hm, hk, hb⟩ := C.ex
  refine toE (pe_callS (E := WE (wX B ex)) G (hr.mono hj) hg hm hk hb (fun σ => passAt tk σ) PAw hdb he hpl) ?_
  refine ha.go B F H σ h _ fun vs F1 H1 g1 rs => ?_
  exact ⟨F1, as, .ex z, g1.s, paired_sv rs, hΦ, fun cls d F2 H2 g2 r => ⟨z, F2, ss, hz, (h.grow g1).grow g2, r⟩⟩
end
/-! ### raise X(..) -/
structure ExcK (K : PySem.W.Frag) (mg : Str → Option Value) (x : Str) (C : Addr) : Prop where
  q : PySem.W.excIn K C [.type "ValueError", .type "Exception", .type "BaseException", .type "object"] "ValueError.__new__" = true
  g : mg x = some (.ref C)
  k : PySem.W.keepIn K (.ref C) = true
  b : PySem.W.subIn K (.ref C) (.type "BaseException") = some true
  t : PySem.W.typeIn K (.ref C) = some (.type "type")
  s : PySem.W.subIn K (.ref C) (.ref C) = some true
  i : ExcC K C
/-- what isinstance answers of an instance of C -/
def IsA (K : PySem.W.Frag) (C D : Addr) (b : Bool) : Prop := PySem.W.kitOne K (.ref C) (.ref D) = some b
theorem s_raise {X : Cx} {ss : List Sl} {e : Expr} {ρ : R} {D : Ds} {x : Str} {C : Addr} {p pos pos' : Pos} (T : ExcK X.K X.mg x C) (hc : X.calm = true) (he : EvE X ss e ρ) (hx : D.ex ⟨.ref C, none⟩ ss) (hg : Gl X x := by rfl)
    (hs : starEach [e] X.env = (false, eval e X.env) :: starEach [] X.env := by exact star_ok rfl) (hdb : (x == ("__debug__" : Str)) = false := by decide) : EvS X ss (.Raise (some (.Call (.Name x p) [e] [] pos)) none pos') D := .mk fun B F H σ h tk =>
  toS (ps_raise hc tk (SkE.pmk_own1 PySem.F.excBase_ValueError T.q T.g T.k (raises_own T.b T.t) hg PEw hs hdb)) (he B F H σ h _ fun v F1 H1 g r => ⟨⟨.ref C, none⟩, F1, ss, hx, h.grow g, rfl, rfl⟩)
/-! ### f-strings: some text -/
def rTxt (n : Nat) : R := ⟨fun _ _ v => ∃ y : Str, v = .str y ∧ y.length ≤ n, fun _ _ h => h⟩
section
variable {X : Cx} {ss : List Sl} {e e1 e2 : Expr} {es : List Expr} {pos : Pos} {i : Int} {k n m : Nat} {w : List Str} {z : Str}
theorem rp_tuple {prog : Program} {w : World} {A : Around} {E : Value → Shared → Prop} {s : Shared} {a : Addr} {o : Obj} {its : Array Value} {n : Nat} {ts : List Str} {Q : Value → Shared → Prop} (hu : A.units < cLine) (ha : s.heap.get? a = some o) (hc : o.cls = .type "tuple") (hd : o.data = .seq its n) (hT : ReprAll prog w its.toList ts) (hz : (tupleText ts).length ≤ sizeLine)
    (h : ∀ (m : Str) (u tk : Tok), m.length ≤ (tupleText ts).length + 5 → Q (.str m u) { s with toks := tk }) : wpAny (model prog w) A (pyReprObj (.ref a)) Q E s := by
  have hTy : s.TypeIs (.ref a) "tuple" := ⟨o, ha, hc⟩
  unfold pyReprObj
  refine wpAny_bind (wpAny_cRoomFor hu (wpAny_bind (wpAny_specialOf (name := Str.ofString "__repr__") hTy F.slot_tuple_repr.lookup ?_)))
  refine wpAny_bind (m := callSpecialIfBound? (.ref a) (Str.ofString "__repr__")) (wpAny_callSpecialIfBound?_slotG (name := Str.ofString "__repr__") hTy F.slot_tuple_repr (fmt_tuple_repr ha hc hd hT hz fun m u tk hm => ?_))
  exact wpAny_bind (wpAny_isInstance (T := "str") (b := true) rfl isSubtype_str_str (wpAny_pure (h m u tk hm)))
theorem ef_int (he : EvE X ss e (sv (sInt i))) (hi : i.natAbs.log2 < 1920) (hn : (toString i : Str).length ≤ n) : EvE X ss (.FormattedValue e (-1) none pos) (rTxt n) := .mk fun B F H σ h Q q =>
  toE (pe_fmt PEw) (he B F H σ h _ fun v F1 H1 g r => .inr ⟨i, r, hi, q _ F1 H1 g ⟨_, rfl, hn⟩⟩)
theorem ef_str (ok : PyData.strOk z = true := by decide +kernel) {j} (hn : z.length ≤ n := by decide +kernel) : EvE X ss (.Constant (.str z) j pos) (rTxt n) := .mk fun B F H σ h Q q =>
  toE pe_str (q _ F H (.refl h.s) ⟨_, rfl, hn⟩)
theorem ef_tupR (hr : Room k X.A) (he : EvE X ss e (sv (sO (oTup sStr w)))) (hw : ∀ y ∈ w, ∀ c ∈ y.cps.toList, c < 16 ^ 8) (hz : fmtCost w + 7 ≤ n) (hn : n ≤ sizeLine) : EvE X ss (.FormattedValue e 114 none pos) (rTxt n) := .mk fun B F H σ h Q q => by
  refine toE (t := fun σ H Q => wpE X e σ H fun x H1 => ∃ (a : Addr), x = .ref a ∧ SqT X.K H1 a (w.map V.str) ∧ ∀ m : Str, m.length ≤ n → Q (.str m) H1) ⟨fun pins s σ H Q I h => ?_⟩ ?_
  · refine wpAny_FormattedValue_repr (thn (h pins s I) fun v s1 hv => ?_)
    obtain ⟨x, H1, I1, r1, a, rfl, ht, q⟩ := hv
    cases r1
    obtain ⟨its, rv, ⟨ob, ho, hcl, nn, hd⟩, _⟩ := I1.tuple ht
    have hp := fmt_piled w hw
    have htx := fmt_text (w.map reprText)
    have hu := room64 hr
    refine rp_tuple (ts := w.map reprText) (by omega) ho hcl hd (repr_all rv fun y hy => ?_) (by omega) fun m u tk hm => ?_
    · have h1 := StrLaws.reprText_len y (hw y hy)
      have h2 := fmtCost_mem hy
      omega
    · have hm' : m.length ≤ n := by omega
      exact wpAny_formatField_str ⟨.str m, H1, I1.tok _, ⟨_, rfl⟩, q m hm'⟩ ⟨.str m, H1, (I1.tok _).tok _, ⟨_, rfl⟩, q m hm'⟩ (Nat.le_trans hm' hn)
  · refine he B F H σ h _ fun v F1 H1 g r => ?_
    obtain ⟨a, c, ev, hk, vs, hp, hi⟩ := r
    have evs := its_strs hi
    subst evs
    exact ⟨a, ev, SqT.of (g.s _ _ (hk _ _ hp)), fun m hm => q _ F1 H1 g ⟨m, rfl, hm⟩⟩
/-- the parts -/
inductive EvF (X : Cx) (ss : List Sl) : List Expr → Nat → Prop where
  | nil : EvF X ss [] 0
  | cons {e : Expr} {es : List Expr} {n m : Nat} (h : EvE X ss e (rTxt n)) (r : EvF X ss es m) : EvF X ss (e :: es) (n + m)
theorem ef_parts {B : Bs} {σ : L2.St} : ∀ {es : List Expr} {n : Nat}, EvF X ss es n → ∃ ts : List TE, PJ X es ts ∧ ∀ (F H : Hp) (acc : Str) (Q : Str → Hp → Prop), Sat B F H σ ss → acc.length + n ≤ sizeLine → (∀ m F' H', Grow F H F' H' → m.length ≤ acc.length + n → Q m H') → tJs ts acc σ H Q
  | _, _, .nil => ⟨[], .nil, fun F H acc Q h _ q => q acc F H (.refl h.s) (Nat.le_refl _)⟩
  | _, _, .cons (e := e) (n := n) (m := m) he hr => by
    obtain ⟨ts, hp, go⟩ := ef_parts hr
    refine ⟨_ :: ts, .cons PEw hp, fun F H acc Q h hl q => ?_⟩
    refine he B F H σ h _ fun v F1 H1 g r => ?_
    obtain ⟨y, ev, hy⟩ := r
    have ly : (acc ++ y).length = acc.length + y.length := Array.size_append
    refine ⟨y, ev, by omega, go F1 H1 (acc ++ y) Q (h.grow g) (by omega) fun m F2 H2 g2 hm => q m F2 H2 (g.trans g2) (by omega)⟩
theorem ev_fstr (h : EvF X ss (e1 :: e2 :: es) n) (hn : n ≤ sizeLine) : EvE X ss (.JoinedStr (e1 :: e2 :: es) pos) (rTxt n) := .mk fun B F H σ hs Q q => by
  obtain ⟨ts, hp, go⟩ := ef_parts (B := B) (σ := σ) h
  exact toE (pe_joined hp) (go F H Str.empty _ hs (by rw [show Str.empty.length = 0 from rfl]; omega) fun m F' H' g hm => q _ F' H' g ⟨m, rfl, by rw [show Str.empty.length = 0 from rfl] at hm; omega⟩)
end
end Sx
namespace Sx
variable [Tbs]
open PySem PySem.Spec PyProof.Rows L2
/-! ### classes whose __init__ may raise -/
inductive Ri where
  | ok (fs : List (Str × Sl))
  | ex (x : Xo)
def spInX (C : Addr) (Φ : List S → Ri → Prop) : Sp := fun vs H Q E => ∃ (F : Hp) (x dx : Addr) (ws : List V) (as : List S) (r : Ri), vs = .ref x :: ws ∧ Sm F H ∧ F x = none ∧ H x = some (.ins C dx []) ∧ Paired (fun (a : S) v => a.r F v) as ws ∧ Φ as r ∧
  (match r with
  | .ok fs => ∀ F' H' k, Grow F (hid x H) F' H' → (∀ a ob, k a = some ob → H' a = some ob ∧ hid x H a = none ∧ (F' a = none ∨ IsT ob)) → (oInsG C (fun p => p = x) fs).r F' k x → Q .non H'
  | .ex z => ∀ cls d F' H', Grow F (hid x H) F' H' → XoR z F' cls d → E cls d H')
def dsI (C y : Addr) : Ri → Ds
  | .ok fs => { nx := fun ss' => ss'[0]? = some (.own (oInsG C (fun p => p = y) fs)), rt := fun _ => False }
  | .ex z => { nx := fun _ => False, rt := fun _ => False, ex := fun z' _ => z' = z }
structure CalleeI (P : Program) (w : World) (K : PySem.W.Frag) (mg : Str → Option Value) (base : Heap) (k : Nat) (x : Str) (C : Addr) (Φ : List S → Ri → Prop) : Prop where
  ex : ∃ (f : Addr) (fd : FuncData) (ps : List Str), Mk K C f ∧ FnOk P w K mg base (L2.CX P w) k f fd ps (spInX C Φ) ∧ mg x = some (.ref C) ∧ Binds K fd ps []
section
variable {P : Program} {w : World} {K : PySem.W.Frag} {mg : Str → Option Value} {base : Heap} {x qual : Str} {st : Stmt} {f C : Addr} {fd : FuncData} {N ps : List Str} {k : Nat} {Φ : List S → Ri → Prop}
theorem callee_mkI (G : FnOk P w K mg base (L2.CX P w) k f fd ps (spInX C Φ)) (M : Mk K C f) (hm : mg x = some (.ref C)) (hb : Binds K fd ps []) : CalleeI P w K mg base k x C Φ := ⟨f, fd, ps, M, G, hm, hb⟩
theorem initX_ok (F : FunE K x qual st f fd) (Sc : FnScope N ps (defScope st)) (len : ∀ as r, Φ as r → as.length + 1 = ps.length)
    (body : ∀ (cdv : Value) (A : Around) (outer : List Env) (s0 : Shared) (H0 : Hp) (E : XK) (y : Addr) (as : List S) (r : Ri), Room k (A.deeper (envOfC qual (defScope st) s0.heap.objs.size f cdv)) →
      PassesOwn (model P w) (cxOf (L2.CX P w) P w K mg base N qual (defScope st) f cdv A outer s0 H0 E).A (cxOf (L2.CX P w) P w K mg base N qual (defScope st) f cdv A outer s0 H0 E).env (cxOf (L2.CX P w) P w K mg base N qual (defScope st) f cdv A outer s0 H0 E).xe → Φ as r →
      EvSs (cxOf (L2.CX P w) P w K mg base N qual (defScope st) f cdv A outer s0 H0 E) (.own (oInsG C (fun p => p = y) []) :: (as.map Sl.val ++ List.replicate (N.length - (as.length + 1)) .any)) (defBody st) (dsI C y r)) :
    FnOk P w K mg base (L2.CX P w) (k + 1) f fd ps (spInX C Φ) := by
  refine F.okX Sc (fun vs H Q E ⟨F, x, dx, ws, as, r, ev, _, _, _, hp, hΦ, _⟩ => by rw [ev, List.length_cons, ← Paired.length hp]; exact len as r hΦ) (fun cdv A outer s0 H0 vs Q E hr h => ?_)
  obtain ⟨F, y, dx, ws, as, r, rfl, sF, nF, hy, hp, hΦ, q⟩ := h
  refine ⟨_, PSsw, ?_⟩
  have tk : Tk (cxOf (L2.CX P w) P w K mg base N qual (defScope st) f cdv A outer s0 H0 E) ⟨F, hid y H0⟩ (dsI C y r).ex := by
    refine Takes.imp (takes_of (E := E) rfl rfl rfl rfl) fun cls d σ H z => ?_
    obtain ⟨x', F', ss', hx, hs', hr'⟩ := z
    cases r with
    | ok s => exact (show False from hx).elim
    | ex z =>
      have e : x' = z := hx
      subst e
      exact q cls d F' H hs'.g hr'
  refine wpSs_mono (body cdv A outer s0 H0 E y as r hr (passes_of rfl) hΦ ⟨F, hid y H0⟩ F H0 _ (sat_startI sF nF hy hp) tk) (fun σ' H' ⟨F', ss', hs', z⟩ => ?_) (fun v H' z => ?_) (fun _ _ ⟨_, _, _, z⟩ => ?_) (fun _ _ ⟨_, _, _, z⟩ => ?_)
  · cases r with
    | ok fs =>
      obtain ⟨p, c, _, hc, hr'⟩ := hs'.own z
      have ep : p = y := hr'.1.1
      subst ep
      exact q F' H' c hs'.g hc hr'
    | ex x' => exact (show False from z).elim
  · cases r <;> (rcases RtP.two z (fun _ _ q => q) (fun _ _ q => q) with ⟨_, _, _, _, z⟩ | ⟨_, _, _, _, _, _, _, _, z⟩ <;> exact (show False from z).elim)
  · cases r <;> exact (show False from z).elim
  · cases r <;> exact (show False from z).elim
end
section
variable {X : Cx} {CX : CXT} {ss : List Sl} {e : Expr} {es : List Expr} {as : List S} {x : Str} {p pos : Pos} {j k : Nat} {ex : Xo → List Sl → Prop} {f C : Addr} {fd : FuncData} {ps : List Str} {sp : Sp}
/-- C(..), what its __init__ may let out told at the slots of the caller -/
theorem call_makeS {pins : List (Addr × Obj)} {σ : L2.St} {H : Hp} {s : Shared} {Q : VK} {E : XK} {us : List Value} {vs : List V} (M : Mk X.K C f) (G : FnOk X.prog X.w X.K X.mg X.base CX k f fd ps sp) (hr : Room (k + 1) X.A) (hb : Binds X.K fd ps []) (hx : PassesAt CX X σ E) (I : Inv X pins σ H s) (r : Vals vs us)
    (h : ∀ x dx, H x = none → H dx = none → dx ≠ x → sp (.ref x :: vs) (upd (upd H dx (.own x)) x (.ins C dx [])) (fun v H2 => v = .non ∧ Q (.ref x) H2) E) : wpAny (model X.prog X.w) X.A (call (.ref C) us) (EP X pins σ Q) X.xe s := by
  have I' := Inv.made (C := C) I
  have fr1 : H (s.heap.objs.size + 1) = none := I.hok.fresh (Nat.le_succ _)
  have fr2 : H s.heap.objs.size = none := I.hok.fresh (Nat.le_refl _)
  have q := h _ _ fr1 fr2 (Nat.ne_of_lt (Nat.lt_succ_self _))
  have rr : Vals (V.ref (s.heap.objs.size + 1) :: vs) (Value.ref (s.heap.objs.size + 1) :: us) := .cons rfl r
  have len : (Value.ref (s.heap.objs.size + 1) :: us).length = ps.length := rr.length.symm.trans (G.len _ _ _ _ q)
  have bd := hb _ _ I'.kIn (by rw [List.append_nil]; exact len)
  rw [List.append_nil] at bd
  have run := G.run _ X.stack _ _ ⟨_, []⟩ _ _ _ E (hr.make C us []) (I'.env0.make C us []) bd rr q
  refine wpAny_call (make_map (f := f) I.kIn M.makes M.init (beq_iff_eq.mp M.fn) (codeAny_mono run fun res s' z => ?_))
  match res, z with
  | .error u, z => exact hx pins _ _ u s' I' z
  | .ok (.ret u), z =>
    obtain ⟨v, H', I3, rv, ev, q3⟩ := I'.after z
    subst ev
    exact ⟨rv, .ref _, H', I3, rfl, q3⟩
def tMakeS (C : Addr) (sp : Sp) (E : L2.St → XK) (t : TA) : TE := fun σ H Q => t σ H fun vs H1 => ∀ x dx, H1 x = none → H1 dx = none → dx ≠ x → sp (.ref x :: vs) (upd (upd H1 dx (.own x)) x (.ins C dx [])) (fun v H2 => v = .non ∧ Q (.ref x) H2) (E σ)
theorem pe_makeS {t : TA} {E : L2.St → XK} (M : Mk X.K C f) (G : FnOk X.prog X.w X.K X.mg X.base CX k f fd ps sp) (hr : Room (k + 1) X.A) (hg : Gl X x) (hm : X.mg x = some (.ref C)) (hb : Binds X.K fd ps []) (hx : ∀ σ, PassesAt CX X σ (E σ))
    (ha : PA X (e :: es) t) (hdb : (x == ("__debug__" : Str)) = false) (he : starEach (e :: es) X.env = (false, eval e X.env) :: starEach es X.env) (hpl : (backTo pos (starEach es X.env)).any (·.1) = false) : PE X (.Call (.Name x p) (e :: es) [] pos) (tMakeS C sp E t) := by
  refine ⟨fun pins s σ H Q I z => wpAny_Call_Name_kw (ld_glob I hg hm (PySem.W.callWith_K (h₀ := X.base) I.ok.mod.kin M.kp (thn (ha.run pos pins s σ H _ I z) fun us s1 y => ?_) he hpl) hdb)⟩
  obtain ⟨vs, H1, I1, r, q⟩ := y
  exact ⟨I1.kIn, call_makeS M G hr hb (hx σ) I1 r q⟩
theorem made_same {H : Hp} {x dx : Addr} (nx : H x = none) (nd : H dx = none) : Same H (upd (upd H dx (.own x)) x (.ins C dx [])) ∧ Same H (hid x (upd (upd H dx (.own x)) x (.ins C dx []))) := by
  have sm : Same H (upd (upd H dx (.own x)) x (.ins C dx [])) := fun a o ea => by
    rw [upd_ne (ne_of_none ea nx), upd_ne (ne_of_none ea nd)]
    exact ea
  exact ⟨sm, fun a o ea => by rw [hid_ne (ne_of_none ea nx)]; exact sm a o ea⟩
variable {Φ : List S → Ri → Prop} {fs : List (Str × Sl)} {z : Xo}
theorem ev_makeX (G : CalleeI X.prog X.w X.K X.mg X.base j x C Φ) (hr : Room k X.A) (ha : EvAs X ss (e :: es) as) (hΦ : Φ as (.ok fs)) (hj : j + 1 ≤ k := by decide) (hg : Gl X x := by rfl)
    (hdb : (x == ("__debug__" : Str)) = false := by decide) (he : starEach (e :: es) X.env = (false, eval e X.env) :: starEach es X.env := by exact star_ok rfl) (hpl : (backTo pos (starEach es X.env)).any (·.1) = false := by rfl) :
    EvN X ss (.Call (.Name x p) (e :: es) [] pos) (oInsG C (fun _ => True) fs) := .mk fun B F H σ h Q q => by
  obtain ⟨f, fd, ps, M, G, hm, hb⟩ := G.ex
  refine toE (pe_make M G (hr.mono hj) hg hm hb .nil passL PAw hdb he hpl) ?_
  refine ha.go B F H σ h _ fun vs F1 H1 g1 rs x dx nx nd nex => ?_
  rw [List.append_nil]
  obtain ⟨sm, sh⟩ := made_same (C := C) nx nd
  refine ⟨F1, x, dx, vs, as, .ok fs, rfl, g1.s.ext sm, g1.s.free nx, upd_same, paired_sv rs, hΦ, fun F2 H2 c g2 hc hr => ⟨rfl, ?_⟩⟩
  have g3 : Grow F1 H1 F2 H2 := ⟨g2.f, Gr.pre g1.s.t sh g2.h, g2.s, fun a o e1 e2 => (g2.n a o e1 e2).imp sh.free id⟩
  exact q x F2 H2 c (g1.trans g3) (fun a ob ea => ⟨g1.h.free (sh.free (hc a ob ea).2.1), (hc a ob ea).2.2, (hc a ob ea).1⟩) (insG_any hr)
theorem ev_makeR (G : CalleeI X.prog X.w X.K X.mg X.base j x C Φ) (hr : Room k X.A) (ha : EvAs X ss (e :: es) as) (hΦ : Φ as (.ex z)) (hz : ex z ss) (hj : j + 1 ≤ k := by decide) (hg : Gl X x := by rfl)
    (hdb : (x == ("__debug__" : Str)) = false := by decide) (he : starEach (e :: es) X.env = (false, eval e X.env) :: starEach es X.env := by exact star_ok rfl) (hpl : (backTo pos (starEach es X.env)).any (·.1) = false := by rfl) :
    EvR X ss (.Call (.Name x p) (e :: es) [] pos) ex := .mk fun B F H σ h tk Q => by
  obtain ⟨f, fd, ps, M, G, hm, hb⟩ := G.ex
  refine toE (pe_makeS (E := WE (wX B ex)) M G (hr.mono hj) hg hm hb (fun σ => passAt tk σ) PAw hdb he hpl) ?_
  refine ha.go B F H σ h _ fun vs F1 H1 g1 rs x dx nx nd nex => ?_
  obtain ⟨sm, sh⟩ := made_same (C := C) nx nd
  refine ⟨F1, x, dx, vs, as, .ex z, rfl, g1.s.ext sm, g1.s.free nx, upd_same, paired_sv rs, hΦ, fun cls d F2 H2 g2 r => ?_⟩
  have g3 : Grow F1 H1 F2 H2 := ⟨g2.f, Gr.pre g1.s.t sh g2.h, g2.s, fun a o e1 e2 => (g2.n a o e1 e2).imp sh.free id⟩
  exact ⟨z, F2, ss, hz, (h.grow g1).grow g3, r⟩
theorem s_asgR {D : Ds} (i : Nat) {y : Str} {pos' : Pos} (hN : X.N.Nodup) (he : EvR X ss e D.ex) (hi : X.N[i]? = some y := by rfl) (hx : Loc X.env.scope y := by first | exact Or.inl rfl | exact Or.inr rfl)
    (hs : swapsWith e (some (.Name y pos')) pos.line X.env = pure false := by rfl) (hf : X.fn y = true ∨ X.env.scope.names.lookup y = some .local := by first | exact .inl rfl | exact .inr rfl) : EvS X ss (.Assign [.Name y pos'] e pos) D := .mk fun B F H σ h tk =>
  toS (ps_set (i := i) hN hi hx PEw hs hf) (he.go B F H σ h tk _)
end
/-! ### try .. except -/
section
variable {X : Cx} {ss : List Sl} {D : Ds} {x n : Str} {c : Value} {i : Nat} {body suite : List Stmt} {b₀ : Stmt} {np pos pos' : Pos}
/-- the body of a try, whatever stands around it -/
def tbW (X : Cx) (body : List Stmt) (W : WX) : TS := fun D σ H => ∀ (pn : List (Addr × Obj)) (xe : Value → Shared → Prop), Takes (X.tr pn xe) W → PassesOwn (model X.prog X.w) X.A X.env xe → wpSs (X.tr pn xe) body D σ H
def tsW (X : Cx) (sts : List Stmt) (a : Addr) (cls : Value) (d : Option Addr) : TS := fun D σ H => ∀ (oe : Obj) (pn : List (Addr × Obj)), Zc cls d oe → (∃ vs, oe.data = .fields vs) → wpSs (X.suite a ((a, oe) :: pn)) sts D σ H
/-- what may come out of the body: caught or let out -/
def exTry (X : Cx) (c : Value) (D : Ds) (caught : Xo → List Sl → Prop) : Xo → List Sl → Prop := fun z ss => ∃ b, PySem.W.exmOne X.K z.cls c = some b ∧ (b = true → caught z ss) ∧ (b = false → D.ex z ss)
theorem s_try (hs : X.stack = X.env :: X.outer) (hf : X.env.frame = some X.env.locals) (hc : Names X x c)
    (hb : ∀ (pn : List (Addr × Obj)) (xe : Value → Shared → Prop), PassesOwn (model X.prog X.w) X.A X.env xe → EvSs (X.tr pn xe) ss body { D with ex := exTry X c D fun z ss' => ∀ (a : Addr) (oe : Obj) (d : Option Addr) (pn : List (Addr × Obj)), Zc z.cls d oe → (∃ vs, oe.data = .fields vs) → EvSs (X.suite a ((a, oe) :: pn)) ss' (b₀ :: suite) { D with ex := fun _ _ => False } }) :
    EvS X ss (.Try body [.ExceptHandler (some (.Name x np)) none (b₀ :: suite) pos'] [] [] pos) D := .mk fun B F H σ h tk => by
  refine toS (ps_try_only (tb := tbW X body) (ts := fun a cls d => tsW X (b₀ :: suite) a cls d) hs hf hc tk (fun W pn xe tk' hp => ⟨fun pins s σ H D I q => q pn xe tk' hp pins s I⟩) (fun a oe cls d pn hz hd => ⟨fun pins s σ H D I q => q oe pn hz hd pins s I⟩)) ?_
  intro pn xe tk' hp
  refine hb pn xe hp B F H σ h (Takes.imp tk' fun cls d σ' H' w => ?_)
  obtain ⟨z, F', ss', ⟨b, hb1, h1, h2⟩, hs', hx⟩ := w
  obtain ⟨ecls, hfs⟩ := hx
  refine ⟨b, by rw [ecls]; exact hb1, fun e a na oe pn hz hd => ?_, fun e => ⟨z, F', ss', h2 e, hs', ecls, hfs⟩⟩
  rw [ecls] at hz
  exact h1 e a oe d pn hz hd B F' H' σ' hs' tk0
/-- .. as n: -/
theorem s_tryAs (i : Nat) (hs : X.stack = X.env :: X.outer) (hf : X.env.frame = some X.env.locals) (hN : X.N.Nodup) (hc : Names X x c)
    (hb : ∀ (pn : List (Addr × Obj)) (xe : Value → Shared → Prop), PassesOwn (model X.prog X.w) X.A X.env xe → EvSs (X.tr pn xe) ss body { D with ex := exTry X c D fun z ss' => ∀ (a : Addr) (oe : Obj) (d : Option Addr) (pn : List (Addr × Obj)), Zc z.cls d oe → (z.fs = none → d = none) → (∃ vs, oe.data = .fields vs) → EvSs (X.suite a ((a, oe) :: pn)) (ss'.set i (.val (sC (.ref a)))) (b₀ :: suite) { nx := fun ss2 => D.nx (ss2.set i .any), rt := D.rt, rn := D.rn, rb := D.rb, rbn := D.rbn, bk := fun ss2 => D.bk (ss2.set i .any), ct := fun ss2 => D.ct (ss2.set i .any), ex := fun _ _ => False } })
    (hi : X.N[i]? = some n := by rfl) (hln : X.env.kindOf n = some .local := by rfl) :
    EvS X ss (.Try body [.ExceptHandler (some (.Name x np)) (some n) (b₀ :: suite) pos'] [] [] pos) D := .mk fun B F H σ h tk => by
  refine toS (ps_try_as (i := i) (tb := tbW X body) (ts := fun a cls d => tsW X (b₀ :: suite) a cls d) hs hf hN hi hln hc tk (fun W pn xe tk' hp => ⟨fun pins s σ H D I q => q pn xe tk' hp pins s I⟩) (fun a oe cls d pn hz hd => ⟨fun pins s σ H D I q => q oe pn hz hd pins s I⟩)) ?_
  intro pn xe tk' hp
  refine hb pn xe hp B F H σ h (Takes.imp tk' fun cls d σ' H' w => ?_)
  obtain ⟨z, F', ss', ⟨b, hb1, h1, h2⟩, hs', hx⟩ := w
  obtain ⟨ecls, hfs⟩ := hx
  refine ⟨b, by rw [ecls]; exact hb1, fun e a na oe pn hz hd => ?_, fun e => ⟨z, F', ss', h2 e, hs', ecls, hfs⟩⟩
  rw [ecls] at hz
  refine wpSs_mono (h1 e a oe d pn hz (fun q => ?_) hd B F' H' _ (hs'.set (s := sC (.ref a)) rfl) tk0) (fun σ2 H2 ⟨F2, s2, h2, q⟩ => ⟨F2, _, h2.wipe1, q⟩) (fun v H2 q => q) (fun σ2 H2 ⟨F2, s2, h2, q⟩ => ⟨F2, _, h2.wipe1, q⟩) (fun σ2 H2 ⟨F2, s2, h2, q⟩ => ⟨F2, _, h2.wipe1, q⟩)
  rw [q] at hfs
  exact hfs
/-- isinstance(e, T): e the exception in hand -/
theorem ev_isE {X : Cx} {ss : List Sl} {a b : Expr} {C D ad : Addr} {oe : Obj} {pn : List (Addr × Obj)} {r : Bool} {p pos : Pos} {K : PySem.W.Frag} (T : ExcC K C) (hz : Zc (.ref C) none oe) (hf : ∃ vs, oe.data = .fields vs) (hm : X.mg "isinstance" = none)
    (ha : EvE (X.suite ad ((ad, oe) :: pn)) ss a (sv (sC (.ref ad)))) (hb : EvE (X.suite ad ((ad, oe) :: pn)) ss b (sv (sC (.ref D)))) (hk : IsA K C D r) (hK : X.K = K := by rfl) (hg : Gl (X.suite ad ((ad, oe) :: pn)) "isinstance" := by rfl)
    (he : starEach [a, b] X.env = (false, eval a X.env) :: starEach [b] X.env := by exact star_ok rfl) (he2 : starEach [b] X.env = (false, eval b X.env) :: starEach [] X.env := by exact star_ok rfl) (hpl : (backTo pos (starEach [b] X.env)).any (·.1) = false := by rfl) :
    EvE (X.suite ad ((ad, oe) :: pn)) ss (.Call (.Name "isinstance" p) [a, b] [] pos) (sv (sBool r)) :=
  ev_cb (call_isE (hK ▸ T) hz hf) hm PyProof.Rows.boot_isinstance (ea_cons ha (ea_cons hb ea_nil he2) he) (fun F H vs Q sF rs q => by
    subst hK
    cases rs with
    | cons r1 rr =>
      cases rr with
      | cons r2 rr =>
        cases rr
        have e1 : _ = V.ref ad := r1
        have e2 : _ = V.ref D := r2
        subst e1 e2
        exact ⟨_, .ref D, r, rfl, fun u hu => hu, hk, q _ F H (.refl sF) rfl⟩) hg (he := he) (hpl := hpl)
/-- a class, by its name -/
theorem ev_cls {X : Cx} {ss : List Sl} {x : Str} {C : Addr} {pos : Pos} (hm : X.mg x = some (.ref C)) (hg : Gl X x := by rfl) (hd : (x == ("__debug__" : Str)) = false := by decide) : EvE X ss (.Name x pos) (sv (sC (.ref C))) := ev_glob (v := .ref C) hg hm rfl rfl hd
theorem exm_own {K : PySem.W.Frag} {mg : Str → Option Value} {x : Str} {C : Addr} (T : ExcK K mg x C) {cls : Value} {b : Bool} (h : PySem.W.subIn K cls (.ref C) = some b) : PySem.W.exmOne K cls (.ref C) = some b := PySem.W.exm_ref T.b T.i.hd T.t h
end
end Sx
namespace Sx
variable [Tbs]
open PySem PySem.Spec PyProof.Rows L2
section
variable {X : Cx} {ss : List Sl} {e a b : Expr} {es : List Expr} {pos p p1 p2 : Pos} {i j n : Int} {κ : R}
theorem two_ints {F H : Hp} {vs : List V} (h : Paired (fun (r : R) v => r.r F H v) [sv (sInt i), sv (sInt j)] vs) : vs = [.int i, .int j] := by
  cases h with
  | cons r1 t =>
    cases t with
    | cons r2 t =>
      cases t
      have e1 : _ = V.int i := r1
      have e2 : _ = V.int j := r2
      rw [e1, e2]
theorem ev_max2 (hc : X.calm = true) (hm : X.mg "max" = none) (ha : EvE X ss a (sv (sInt i))) (hb : EvE X ss b (sv (sInt j))) (hg : Gl X "max" := by rfl) (he : starEach [a, b] X.env = (false, eval a X.env) :: starEach [b] X.env := by exact star_ok rfl) (he2 : starEach [b] X.env = (false, eval b X.env) :: starEach [] X.env := by exact star_ok rfl) (hpl : (backTo pos (starEach [b] X.env)).any (·.1) = false := by rfl) :
    EvE X ss (.Call (.Name "max" p) [a, b] [] pos) (sv (sInt (max i j))) :=
  ev_cb (call_max2 hc) hm (by decide +kernel) (ea_cons ha (ea_cons hb ea_nil he2) he) (fun F H vs Q sF rs q => ⟨i, j, two_ints rs, q _ F H (.refl sF) (by
    show V.int _ = V.int _
    congr 1
    by_cases h : j > i
    · rw [if_pos h]; omega
    · rw [if_neg h]; omega)⟩) hg (he := he) (hpl := hpl)
theorem ev_min2 (hc : X.calm = true) (hm : X.mg "min" = none) (ha : EvE X ss a (sv (sInt i))) (hb : EvE X ss b (sv (sInt j))) (hg : Gl X "min" := by rfl) (he : starEach [a, b] X.env = (false, eval a X.env) :: starEach [b] X.env := by exact star_ok rfl) (he2 : starEach [b] X.env = (false, eval b X.env) :: starEach [] X.env := by exact star_ok rfl) (hpl : (backTo pos (starEach [b] X.env)).any (·.1) = false := by rfl) :
    EvE X ss (.Call (.Name "min" p) [a, b] [] pos) (sv (sInt (min i j))) :=
  ev_cb (call_min2 hc) hm (by decide +kernel) (ea_cons ha (ea_cons hb ea_nil he2) he) (fun F H vs Q sF rs q => ⟨i, j, two_ints rs, q _ F H (.refl sF) (by
    show V.int _ = V.int _
    congr 1
    by_cases h : j < i
    · rw [if_pos h]; omega
    · rw [if_neg h]; omega)⟩) hg (he := he) (hpl := hpl)
theorem its_rg {F : Hp} (n : Int) : Its sNat F (List.range n.toNat) (rgV 0 n) := by
  unfold rgV
  rw [show (n - 0).toNat = n.toNat by rw [Int.sub_zero]]
  have go : ∀ l : List Nat, Its sNat F l (l.map fun i => V.int (0 + (i : Nat))) := fun l => by
    induction l with
    | nil => exact Its.nil
    | cons x l ih => exact Its.cons (show V.int (0 + (x : Int)) = V.int (x : Int) by rw [Int.zero_add]) ih
  exact go _
/-- list(range(n)) -/
theorem ev_listRg (hc : X.calm = true) (hl : X.mg "list" = none) (hr : X.mg "range" = none) (ha : EvE X ss a (sv (sInt n))) (h0 : -(2 ^ 62) ≤ n) (h1 : n ≤ 16777216) (hg : Gl X "list" := by rfl) (hg2 : Gl X "range" := by rfl)
    (na : starEach [a] X.env = (false, eval a X.env) :: starEach [] X.env := by exact star_ok rfl) (nb : starEach [Expr.Call (.Name "range" p2) [a] [] p] X.env = (false, eval (.Call (.Name "range" p2) [a] [] p) X.env) :: starEach [] X.env := by exact star_ok rfl) :
    EvN X ss (.Call (.Name "list" p1) [.Call (.Name "range" p2) [a] [] p] [] pos) (oLst sNat (List.range n.toNat)) := .mk fun B F H σ h Q q =>
  toE (pe_listRg hc hg hl (prg_1 hg2 hr PEw na) nb) (ha B F H σ h _ fun v F1 H1 g r => ⟨n, r, ⟨by decide, by decide, h0, by omega, by omega⟩, fun p np => fresh1 q g np ⟨_, hp1_same, its_rg n⟩⟩)
end
end Sx
namespace Sx
variable [Tbs]
open PySem PySem.Spec PyProof.Rows L2
/-! ### dicts whose keys are tuples of any depth -/
class KeyN {κ : Type} (U : κ → S) where
  enc : κ → NestedKey
  dep : Nat
  depth : ∀ k, (enc k).depth ≤ dep
  is : ∀ {X : Cx} {pins : List (Addr × Obj)} {σ : L2.St} {F H : Hp} {s : Shared} {k : κ} {v : V} {u : Value}, L2.Inv X pins σ H s → Same F H → (U k).r F v → RelV v u → NestedIs s.heap (enc k) u
  inj : ∀ a b, enc a = enc b → a = b
class KeyR {κ : Type} (U : κ → S) : Prop where
  ref : ∀ {F : Hp} {v : V} {k : κ}, (U k).r F v → ∃ p, v = .ref p
instance : KeyN sInt where
  enc := .num
  dep := 0
  depth := fun k => Nat.le_of_eq (by simp [NestedKey.depth])
  is := fun {X pins σ F H s k v u} I sF r ru => by
    have e : v = .int k := r
    subst e
    obtain ⟨t, rfl⟩ := ru
    exact .int k t
  inj := fun a b e => by injection e
instance : KeyN sNat where
  enc := fun n => .num (n : Int)
  dep := 0
  depth := fun k => Nat.le_of_eq (by simp [NestedKey.depth])
  is := fun {X pins σ F H s k v u} I sF r ru => KeyN.is (U := sInt) I sF r ru
  inj := fun a b e => by
    injection e with e
    omega
instance : KeyN sStr where
  enc := .text
  dep := 0
  depth := fun k => Nat.le_of_eq (by simp [NestedKey.depth])
  is := fun {X pins σ F H s k v u} I sF r ru => by
    obtain ⟨e, _⟩ := r
    subst e
    obtain ⟨t, rfl⟩ := ru
    exact .text k t
  inj := fun a b e => by injection e
instance : KeyN sBool where
  enc := fun b => .num (if b = true then 1 else 0)
  dep := 0
  depth := fun k => Nat.le_of_eq (by simp [NestedKey.depth])
  is := fun {X pins σ F H s k v u} I sF r ru => by
    have e : v = .bl k := r
    subst e
    have e2 : u = .bool k := ru
    subst e2
    exact .bool rfl
  inj := fun a b e => by
    injection e with e
    cases a <;> cases b <;> first | rfl | (exact absurd e (by decide))
section
variable {κ κ' : Type} {U : κ → S} {U' : κ' → S}
omit [Tbs] in
theorem keys_all [KeyN U] {X : Cx} {pins : List (Addr × Obj)} {σ : L2.St} {F H : Hp} {s : Shared} (I : L2.Inv X pins σ H s) (sF : Same F H) : ∀ {ks : List κ} {vs : List V} {us : List Value}, Its U F ks vs → Vals vs us → NestedAll s.heap (ks.map (KeyN.enc U)) us
  | [], vs, us, h, r => by
    have e : vs = [] := List.eq_nil_of_length_eq_zero h.len
    subst e
    cases r
    exact .nil
  | k :: ks, vs, us, h, r => by
    have h' : Paired (fun x v => (U x).r F v) (k :: ks) vs := h
    cases h' with
    | cons q t =>
      cases r with
      | cons q2 t2 => exact .cons (KeyN.is I sF q q2) (keys_all I sF (show Its U F _ _ from t) t2)
omit [Tbs] in
theorem depthAll_le {n : Nat} : ∀ {l : List NestedKey}, (∀ k ∈ l, k.depth ≤ n) → NestedKey.depthAll l ≤ n
  | [], _ => by simp [NestedKey.depthAll]
  | k :: l, h => by
    rw [NestedKey.depthAll]
    exact Nat.max_le.mpr ⟨h k List.mem_cons_self, depthAll_le fun j hj => h j (List.mem_cons_of_mem _ hj)⟩
omit [Tbs] in
theorem map_inj_of {f : κ → NestedKey} (h : ∀ a b, f a = f b → a = b) : ∀ {a b : List κ}, a.map f = b.map f → a = b
  | [], [], _ => rfl
  | [], _ :: _, e => by cases e
  | _ :: _, [], e => by cases e
  | x :: a, y :: b, e => by
    rw [List.map_cons, List.map_cons] at e
    injection e with e1 e2
    rw [h _ _ e1, map_inj_of h e2]
instance [KeyN U] : KeyN (fun ks => sO (oTup U ks)) where
  enc := fun ks => .tup (ks.map (KeyN.enc U))
  dep := KeyN.dep U + 1
  depth := fun ks => by
    rw [NestedKey.depth]
    refine Nat.succ_le_succ (depthAll_le fun k hk => ?_)
    obtain ⟨x, _, rfl⟩ := List.mem_map.mp hk
    exact KeyN.depth x
  is := fun {X pins σ F H s k v u} I sF r ru => by
    obtain ⟨p, c, e, hk, vs, hp, hi⟩ := r
    subst e
    have e2 : u = .ref p := ru
    subst e2
    obtain ⟨its, rv, ⟨o, ho, hc, n, hd⟩, _⟩ := I.tuple (SqT.of (sF _ _ (hk _ _ hp)))
    exact .tup ho hc hd (by simpa using keys_all I sF hi rv)
  inj := fun a b e => by
    injection e with e
    exact map_inj_of KeyN.inj e
instance : KeyR (fun ks => sO (oTup U ks)) := ⟨fun ⟨p, _, e, _⟩ => ⟨p, e⟩⟩
instance [KeyN U] : KeyN (sTup U) := inferInstanceAs (KeyN (fun ks => sO (oTup U ks)))
instance : KeyR (sTup U) := inferInstanceAs (KeyR (fun ks => sO (oTup U ks)))
instance [KeyN U] [KeyN U'] : KeyN (sPair U U') where
  enc := fun p => .tup [KeyN.enc U p.1, KeyN.enc U' p.2]
  dep := max (KeyN.dep U) (KeyN.dep U') + 1
  depth := fun p => by
    have h1 := KeyN.depth (U := U) p.1
    have h2 := KeyN.depth (U := U') p.2
    rw [NestedKey.depth, NestedKey.depthAll, NestedKey.depthAll, NestedKey.depthAll]
    omega
  is := fun {X pins σ F H s k v u} I sF r ru => by
    obtain ⟨p, c, e, hk, vs, hp, hi⟩ := r
    subst e
    have e2 : u = .ref p := ru
    subst e2
    obtain ⟨a, b, rfl, ra, rb⟩ := its2 hi
    obtain ⟨its, rv, ⟨o, ho, hc, n, hd⟩, _⟩ := I.tuple (SqT.of (sF _ _ (hk _ _ hp)))
    cases rv with
    | cons q1 t1 =>
      cases t1 with
      | cons q2 t2 =>
        cases t2
        exact .tup ho hc hd (.cons (KeyN.is I sF ra q1) (.cons (KeyN.is I sF rb q2) .nil))
  inj := fun a b e => by
    injection e with e
    injection e with e1 e2
    injection e2 with e2 _
    exact Prod.ext (KeyN.inj _ _ e1) (KeyN.inj _ _ e2)
instance : KeyR (sPair U U') := ⟨fun ⟨p, _, e, _⟩ => ⟨p, e⟩⟩
end
abbrev Went := NestedKey × Addr × V
abbrev Xent := NestedKey × Addr × Value
def WX2 (ws : List Went) (xs : List Xent) : Prop := Paired (fun (p : Went) (q : Xent) => p.1 = q.1 ∧ p.2.1 = q.2.1 ∧ RelV p.2.2 q.2.2) ws xs
/-- what the object at d says: a dict with the entries ws -/
def EntN (w : World) (ws : List Went) (h : Heap) (d : Addr) : Prop := (d == sysModules) = false ∧ ws.length ≤ sizeLine ∧ (ws.map (·.1)).Nodup ∧ ∃ xs : List Xent, WX2 ws xs ∧
  ∃ o es ep, h.get? d = some o ∧ o.ExactDict ∧ o.data = .dict es ep ∧ es.toList = xs.map fun x => (⟨x.1.hash w, .ref x.2.1, x.2.2⟩ : DictEntry)
def dNo (w : World) (d : Addr) (ws : List Went) : HO := .ext fun h => EntN w ws h d
instance {w : World} {d : Addr} {ws : List Went} : NC (dNo w d ws) := nc_ext fun hp z ⟨_, _, _, _, _, o, es, ep, e, _, e2, _⟩ => by
  obtain ⟨vs, e3⟩ := z d o e
  rw [e2] at e3
  cases e3
omit [Tbs] in
theorem dNo_nt {w : World} {d : Addr} {ws : List Went} : ¬ IsT (dNo w d ws) := nt_ext (inferInstanceAs (NC (dNo w d ws)))
omit [Tbs] in
theorem EntN.stay {w : World} {ws : List Went} {d : Addr} {h1 h2 : Heap} (x : EntN w ws h1 d) (k : ∀ o, h1.get? d = some o → h2.get? d = some o) : EntN w ws h2 d := by
  obtain ⟨a, b, c, xs, r, o, es, ep, ho, q⟩ := x
  exact ⟨a, b, c, xs, r, o, es, ep, k o ho, q⟩
omit [Tbs] in
theorem dNo_ok {P : Program} {w : World} {H : Hp} {h : Heap} {d : Addr} {ws : List Went} (x : EntN w ws h d) : ObjOk P w H h d (dNo w d ws) := by
  refine ⟨x, ?_, fun h1 h2 z k => EntN.stay z k⟩
  obtain ⟨_, _, _, _, _, o, _, _, ho, _⟩ := x
  exact ⟨o, ho⟩
omit [Tbs] in
theorem dNo_at {P : Program} {w : World} {H : Hp} {h : Heap} {d : Addr} {ws : List Went} (ok : HOk P w H h) (e : H d = some (dNo w d ws)) : EntN w ws h d := (ok d _ e).1
omit [Tbs] in
theorem dNo_rd {P : Program} {w : World} {H : Hp} {h : Heap} {d : Addr} {ws : List Went} (ok : HOk P w H h) (e : Rd H d (dNo w d ws)) : EntN w ws h d := (e.ok ok).1
def atW (ws : List Went) (k : NestedKey) : Option (Addr × V) := (ws.find? fun x => decide (x.1 = k)).map (·.2)
def putW (k : NestedKey) (v : V) (x : Went) : Went := if x.1 = k then (x.1, x.2.1, v) else x
def storedW (ws : List Went) (k : NestedKey) (a : Addr) (v : V) : List Went := if (atW ws k).isSome then ws.map (putW k v) else ws ++ [(k, a, v)]
omit [Tbs] in
theorem atW_cons_pos {x : Went} {ws : List Went} {k : NestedKey} (h : x.1 = k) : atW (x :: ws) k = some x.2 := by simp [atW, List.find?_cons, h]
omit [Tbs] in
theorem atW_cons_neg {x : Went} {ws : List Went} {k : NestedKey} (h : ¬ x.1 = k) : atW (x :: ws) k = atW ws k := by simp [atW, List.find?_cons, h]
omit [Tbs] in
theorem atKey_pos {x : Xent} {xs : List Xent} {k : NestedKey} (h : x.1 = k) : atKey (x :: xs) k = some x.2 := by simp [atKey, List.find?_cons, h]
omit [Tbs] in
theorem atKey_neg {x : Xent} {xs : List Xent} {k : NestedKey} (h : ¬ x.1 = k) : atKey (x :: xs) k = atKey xs k := by simp [atKey, List.find?_cons, h]
omit [Tbs] in
theorem WX2.at {k : NestedKey} : ∀ {ws : List Went} {xs : List Xent}, WX2 ws xs → (match atW ws k with
    | some (b, v) => ∃ u, atKey xs k = some (b, u) ∧ RelV v u
    | none => atKey xs k = none)
  | _, _, .nil => rfl
  | _, _, .cons (a := x) (b := y) (l₁ := ws) (l₂ := xs) r t => by
    have ih := WX2.at (k := k) (show WX2 ws xs from t)
    by_cases e : x.1 = k
    · rw [atW_cons_pos e, atKey_pos (r.1.symm.trans e)]
      exact ⟨y.2.2, by rw [r.2.1], r.2.2⟩
    · rw [atW_cons_neg e, atKey_neg (fun z => e (r.1.trans z))]
      exact ih
omit [Tbs] in
theorem WX2.isSome {k : NestedKey} {ws : List Went} {xs : List Xent} (h : WX2 ws xs) : (atKey xs k).isSome = (atW ws k).isSome := by
  have := h.at (k := k)
  cases e : atW ws k with
  | none => rw [e] at this; rw [this]; rfl
  | some p => rw [e] at this; obtain ⟨u, hu, _⟩ := this; rw [hu]; rfl
omit [Tbs] in
theorem WX2.put {k : NestedKey} {b : Addr} {v : V} {u : Value} (r : RelV v u) {ws : List Went} {xs : List Xent} (h : WX2 ws xs) : WX2 (storedW ws k b v) (storedH xs k b u) := by
  unfold storedW storedH
  rw [h.isSome]
  by_cases e : (atW ws k).isSome = true
  · rw [if_pos e, if_pos e]
    clear e
    have h' : Paired (fun (p : Went) (q : Xent) => p.1 = q.1 ∧ p.2.1 = q.2.1 ∧ RelV p.2.2 q.2.2) ws xs := h
    show Paired _ _ _
    clear h
    induction h' with
    | nil => exact .nil
    | @cons x y ws xs q t ih =>
      rw [List.map_cons, List.map_cons]
      refine .cons ?_ ih
      unfold putW putAt
      by_cases z : x.1 = k
      · rw [if_pos z, if_pos (q.1.symm.trans z)]
        exact ⟨q.1, q.2.1, r⟩
      · rw [if_neg z, if_neg (fun y => z (q.1.trans y))]
        exact q
  · rw [if_neg e, if_neg e]
    exact pr_app h (.cons ⟨rfl, rfl, r⟩ .nil)
section
variable {κ α : Type} [DecidableEq κ] {U : κ → S} [KeyN U] {T : α → S}
def KnR (U : κ → S) [KeyN U] (T : α → S) (F : Hp) (kvs : List (κ × α)) (ws : List Went) : Prop := Paired (fun (a : κ × α) (b : Went) => b.1 = KeyN.enc U a.1 ∧ (U a.1).r F (.ref b.2.1) ∧ (T a.2).r F b.2.2) kvs ws
omit [Tbs] in
theorem KnR.mono {F F' : Hp} {kvs : List (κ × α)} {ws : List Went} (e : Same F F') (h : KnR U T F kvs ws) : KnR U T F' kvs ws := Paired.mapP h fun _ _ q => ⟨q.1, (U _).mono e q.2.1, (T _).mono e q.2.2⟩
omit [Tbs] in
theorem KnR.len {F : Hp} {kvs : List (κ × α)} {ws : List Went} (h : KnR U T F kvs ws) : ws.length = kvs.length := (Paired.length h).symm
omit [Tbs] in
theorem KnR.at {F : Hp} {k : κ} : ∀ {kvs : List (κ × α)} {ws : List Went}, KnR U T F kvs ws → (match gK kvs k with
    | some x => ∃ b v, atW ws (KeyN.enc U k) = some (b, v) ∧ (T x).r F v
    | none => atW ws (KeyN.enc U k) = none)
  | _, _, .nil => rfl
  | _, _, .cons (a := a) (b := b) (l₁ := kvs) (l₂ := ws) r t => by
    have ih := KnR.at (k := k) (show KnR U T F kvs ws from t)
    by_cases e : a.1 = k
    · have e1 : gK (a :: kvs) k = some a.2 := by simp [gK, List.find?_cons, e]
      rw [e1]
      exact ⟨b.2.1, b.2.2, atW_cons_pos (by rw [r.1, e]), r.2.2⟩
    · have e1 : gK (a :: kvs) k = gK kvs k := by simp [gK, List.find?_cons, e]
      rw [e1, atW_cons_neg (fun z => e (KeyN.inj _ _ (r.1.symm.trans z)))]
      exact ih
omit [Tbs] in
theorem KnR.isSome {F : Hp} {k : κ} {kvs : List (κ × α)} {ws : List Went} (h : KnR U T F kvs ws) : (atW ws (KeyN.enc U k)).isSome = inB k (kvs.map (·.1)) := by
  have e := gK_isSome (kvs := kvs) (k := k)
  have := h.at (k := k)
  unfold inB
  rw [← e]
  cases z : gK kvs k with
  | none => rw [z] at this; rw [this]; rfl
  | some x => rw [z] at this; obtain ⟨b, v, hv, _⟩ := this; rw [hv]; rfl
omit [Tbs] in
theorem KnR.put {F : Hp} {k : κ} {x : α} {b : Addr} {v : V} (rk : (U k).r F (.ref b)) (r : (T x).r F v) {kvs : List (κ × α)} {ws : List Went} (h : KnR U T F kvs ws) : KnR U T F (pK kvs k x) (storedW ws (KeyN.enc U k) b v) := by
  unfold pK storedW
  have e0 : (kvs.any fun kv => decide (kv.1 = k)) = (atW ws (KeyN.enc U k)).isSome := by
    rw [h.isSome]
    unfold inB
    by_cases z : k ∈ kvs.map (·.1)
    · rw [decide_eq_true z]
      obtain ⟨kv, h1, h2⟩ := List.mem_map.mp z
      exact List.any_eq_true.mpr ⟨kv, h1, decide_eq_true h2⟩
    · rw [decide_eq_false z, List.any_eq_false]
      intro kv hkv q
      exact z (List.mem_map.mpr ⟨kv, hkv, of_decide_eq_true q⟩)
  rw [e0]
  by_cases e : (atW ws (KeyN.enc U k)).isSome = true
  · rw [if_pos e, if_pos e]
    clear e e0
    have h' : Paired (fun (a : κ × α) (b : Went) => b.1 = KeyN.enc U a.1 ∧ (U a.1).r F (.ref b.2.1) ∧ (T a.2).r F b.2.2) kvs ws := h
    show Paired _ _ _
    clear h
    induction h' with
    | nil => exact .nil
    | @cons a c as bs q t ih =>
      rw [List.map_cons, List.map_cons]
      refine .cons ?_ ih
      unfold putW
      by_cases e : a.1 = k
      · rw [if_pos e, if_pos (show c.1 = KeyN.enc U k by rw [q.1, e])]
        exact ⟨q.1, q.2.1, r⟩
      · rw [if_neg e, if_neg (fun z => e (KeyN.inj _ _ (q.1.symm.trans z)))]
        exact q
  · rw [if_neg e, if_neg e]
    exact pr_app h (.cons ⟨rfl, rk, r⟩ .nil)
def oDN (w : World) (U : κ → S) [KeyN U] (T : α → S) (kvs : List (κ × α)) : O := ⟨fun F h p => ∃ ws, h p = some (dNo w p ws) ∧ KnR U T F kvs ws, fun e ⟨ws, q, h⟩ => ⟨ws, q, h.mono e⟩⟩
/-- such a dict, locked -/
def oDF (w : World) (U : κ → S) [KeyN U] (T : α → S) (kvs : List (κ × α)) : O := ⟨fun F h p => ∃ od ws, h p = some (.frz od (dNo w p ws)) ∧ KnR U T F kvs ws, fun e ⟨od, ws, q, h⟩ => ⟨od, ws, q, h.mono e⟩⟩
/-- what may be read as such a dict -/
class AsDN {κ α : outParam Type} (w : outParam World) (ρ : R) (U : outParam (κ → S)) [hN : outParam (KeyN U)] (T : outParam (α → S)) (kvs : outParam (List (κ × α))) : Prop where
  w : ∀ F H v, Same F H → ρ.r F H v → ∃ d ws, v = .ref d ∧ Rd H d (dNo w d ws) ∧ KnR U T F kvs ws
instance {w : World} {kvs : List (κ × α)} : AsDN w (bO (oDN w U T kvs)) U T kvs := ⟨fun F H v _ ⟨d, c, e, hk, ws, hd, hw⟩ => ⟨d, ws, e, .inl (hk _ _ hd), hw⟩⟩
instance {w : World} {kvs : List (κ × α)} : AsDN w (sv (sO (oDN w U T kvs))) U T kvs := ⟨fun F H v s ⟨d, c, e, hk, ws, hd, hw⟩ => ⟨d, ws, e, .inl (s _ _ (hk _ _ hd)), hw⟩⟩
instance {w : World} {kvs : List (κ × α)} : AsDN w (bO (oDF w U T kvs)) U T kvs := ⟨fun F H v _ ⟨d, c, e, hk, od, ws, hd, hw⟩ => ⟨d, ws, e, .inr ⟨od, hk _ _ hd⟩, hw⟩⟩
instance {w : World} {kvs : List (κ × α)} : AsDN w (sv (sO (oDF w U T kvs))) U T kvs := ⟨fun F H v s ⟨d, c, e, hk, od, ws, hd, hw⟩ => ⟨d, ws, e, .inr ⟨od, s _ _ (hk _ _ hd)⟩, hw⟩⟩
omit [Tbs] in
theorem knr_keys {X : Cx} {pins : List (Addr × Obj)} {σ : L2.St} {F H : Hp} {s : Shared} (I : L2.Inv X pins σ H s) (sF : Same F H) (hd : KeyN.dep U ≤ 8) : ∀ {kvs : List (κ × α)} {ws : List Went} {xs : List Xent}, KnR U T F kvs ws → WX2 ws xs → ∀ x ∈ xs, (nestedKind X.prog X.w).is s.heap x.1 x.2.1
  | _, _, _, .nil, r => by
    cases r
    exact fun x hx => nomatch hx
  | _, _, _, .cons (a := a) (b := b) (l₁ := kvs) (l₂ := ws) q t, r => by
    cases r with
    | @cons _ y _ ys q2 t2 =>
      intro x hx
      rcases List.mem_cons.mp hx with e | e
      · subst e
        refine ⟨?_, ?_⟩
        · rw [← q2.1, q.1, ← q2.2.1]
          exact KeyN.is I sF q.2.1 rfl
        · rw [← q2.1, q.1]
          exact Nat.le_trans (KeyN.depth _) hd
      · exact knr_keys I sF hd (show KnR U T F kvs ws from t) (show WX2 ws ys from t2) x e
omit [Tbs] in
theorem WX2.nodup {ws : List Went} {xs : List Xent} (h : WX2 ws xs) : xs.map (·.1) = ws.map (·.1) := by
  have h' : Paired (fun (p : Went) (q : Xent) => p.1 = q.1 ∧ p.2.1 = q.2.1 ∧ RelV p.2.2 q.2.2) ws xs := h
  clear h
  induction h' with
  | nil => rfl
  | cons q t ih => rw [List.map_cons, List.map_cons, ih, q.1]
omit [Tbs] in
/-- the library's reading of such a dict -/
theorem dn_lib {X : Cx} {pins : List (Addr × Obj)} {σ : L2.St} {F H : Hp} {s : Shared} {d : Addr} {kvs : List (κ × α)} {ws : List Went} (I : L2.Inv X pins σ H s) (sF : Same F H) (hdp : KeyN.dep U ≤ 8) (e : Rd H d (dNo X.w d ws)) (hk : KnR U T F kvs ws) :
    (d == sysModules) = false ∧ ws.length ≤ sizeLine ∧ ∃ xs, WX2 ws xs ∧ s.heap.DictOfH (nestedKind X.prog X.w) d xs := by
  obtain ⟨h1, h2, h3, xs, r, o, es, ep, ho, hc, hd, he⟩ := dNo_rd I.hok e
  exact ⟨h1, h2, xs, r, o, es, ep, ho, hc, hd, he, knr_keys I sF hdp hk r, by rw [r.nodup]; exact h3⟩
end
end Sx
namespace Sx
variable [Tbs]
open PySem PySem.Spec PyProof.Rows L2
section
variable {X : Cx} {ss : List Sl} {e a b c : Expr} {es : List Expr} {pos pos' p p2 : Pos} {k : Nat} {κ α : Type} [DecidableEq κ] {U : κ → S} [hN : KeyN U] [hR : KeyR U] {T : α → S} {kvs : List (κ × α)} {key : κ} {x : α} {D : Ds}
theorem nroom {j : Nat} {A : Around} {prog : Program} {w : World} (hr : Room j A) : (nestedKind prog w).room A.in1 := by
  have := hr.units
  show A.units + 1 + 8 < cLine
  omega
/-- what a look into such a dict asks -/
def LookN (w : World) (U : κ → S) [KeyN U] (T : α → S) (kvs : List (κ × α)) (key : κ) (H : Hp) (x y : V) : Prop := ∃ (F : Hp) (d : Addr) (ws : List Went), Sm F H ∧ (U key).r F x ∧ y = .ref d ∧ Rd H d (dNo w d ws) ∧ KnR U T F kvs ws
theorem op_inN (hr : Room k X.A) (hdp : KeyN.dep U ≤ 8) : OpR X (compareOp .In) (fun x y H Q => LookN X.w U T kvs key H x y ∧ Q (.bl (inB key (kvs.map (·.1)))) H) := by
  intro pins s σ H x y v u Q I rx ry h
  obtain ⟨⟨F, d, ws, sF, rk, ey, hd, hk⟩, q⟩ := h
  obtain ⟨p, ex⟩ := hR.ref rk
  subst ex ey
  cases (show v = Value.ref p from rx)
  cases (show u = Value.ref d from ry)
  obtain ⟨n1, n2, xs, r, hm⟩ := dn_lib I sF hdp hd hk
  refine wpAny_in_heap (knd := nestedKind X.prog X.w) (nroom hr) ⟨hN.is I sF rk rfl, Nat.le_trans (hN.depth _) hdp⟩ n1 hm ⟨.bl _, H, I.kept (h' := s.heap) (t' := _) (fun _ _ z => z), rfl, ?_⟩
  rw [r.isSome, hk.isSome]
  exact q
theorem op_ninN (hr : Room k X.A) (hdp : KeyN.dep U ≤ 8) : OpR X (compareOp .NotIn) (fun x y H Q => LookN X.w U T kvs key H x y ∧ Q (.bl (!inB key (kvs.map (·.1)))) H) := by
  intro pins s σ H x y v u Q I rx ry h
  obtain ⟨⟨F, d, ws, sF, rk, ey, hd, hk⟩, q⟩ := h
  obtain ⟨p, ex⟩ := hR.ref rk
  subst ex ey
  cases (show v = Value.ref p from rx)
  cases (show u = Value.ref d from ry)
  obtain ⟨n1, n2, xs, r, hm⟩ := dn_lib I sF hdp hd hk
  refine wpAny_notIn_heap (knd := nestedKind X.prog X.w) (nroom hr) ⟨hN.is I sF rk rfl, Nat.le_trans (hN.depth _) hdp⟩ n1 hm ⟨.bl _, H, I.kept (h' := s.heap) (t' := _) (fun _ _ z => z), rfl, ?_⟩
  rw [r.isSome, hk.isSome]
  exact q
theorem look_of {F1 H1 F2 H2 : Hp} {v y : V} (g : Grow F1 H1 F2 H2) (r1 : (U key).r F1 v) {ρ : R} [hq : AsDN X.w ρ U T kvs] (r2 : ρ.r F2 H2 y) : LookN X.w U T kvs key H2 v y := by
  obtain ⟨d, ws, e, hd, hw⟩ := hq.w F2 H2 y g.s r2
  exact ⟨F2, d, ws, g.s, (U key).mono g.f r1, e, hd, hw⟩
theorem ev_inN {ρ : R} [hq : AsDN X.w ρ U T kvs] (hr : Room k X.A) (ha : EvE X ss a (sv (U key))) (hb : EvE X ss b ρ) (hdp : KeyN.dep U ≤ 8 := by decide) (hm : behindInMarks .In b = false := by rfl) : EvE X ss (.Compare a [.In] [b] pos) (sv (sBool (inB key (kvs.map (·.1))))) := .mk fun B F H σ h Q q =>
  toE (pe_cmpR (op_inN (T := T) (U := U) (kvs := kvs) (key := key) hr hdp) PEw PEw hm) (ha B F H σ h _ fun v F1 H1 g1 r1 => hb B F1 H1 σ (h.grow g1) _ fun y F2 H2 g2 r2 => ⟨look_of (hq := hq) g2 r1 r2, q _ F2 H2 (g1.trans g2) rfl⟩)
theorem et_inN {ρ : R} [hq : AsDN X.w ρ U T kvs] (hr : Room k X.A) (ha : EvE X ss a (sv (U key))) (hb : EvE X ss b ρ) (hdp : KeyN.dep U ≤ 8 := by decide) (hm : behindInMarks .In b = false := by rfl) : EvT X ss (.Compare a [.In] [b] pos) (inB key (kvs.map (·.1))) := .mk fun B F H σ h Q q =>
  toT (pt_cmpR (op_inN (T := T) (U := U) (kvs := kvs) (key := key) hr hdp) PEw PEw hm) (ha B F H σ h _ fun v F1 H1 g1 r1 => hb B F1 H1 σ (h.grow g1) _ fun y F2 H2 g2 r2 => ⟨look_of (hq := hq) g2 r1 r2, _, rfl, q F2 H2 (g1.trans g2)⟩)
theorem et_ninN {ρ : R} [hq : AsDN X.w ρ U T kvs] (hr : Room k X.A) (ha : EvE X ss a (sv (U key))) (hb : EvE X ss b ρ) (hdp : KeyN.dep U ≤ 8 := by decide) (hm : behindInMarks .NotIn b = false := by rfl) : EvT X ss (.Compare a [.NotIn] [b] pos) (!inB key (kvs.map (·.1))) := .mk fun B F H σ h Q q =>
  toT (pt_cmpR (op_ninN (T := T) (U := U) (kvs := kvs) (key := key) hr hdp) PEw PEw hm) (ha B F H σ h _ fun v F1 H1 g1 r1 => hb B F1 H1 σ (h.grow g1) _ fun y F2 H2 g2 r2 => ⟨look_of (hq := hq) g2 r1 r2, _, rfl, q F2 H2 (g1.trans g2)⟩)
/-- d[k] -/
def tGetN (w : World) (U : κ → S) [KeyN U] (T : α → S) (kvs : List (κ × α)) (key : κ) (td ti : TE) : TE := fun σ H Q => td σ H fun y H1 => ti σ H1 fun x H2 => ∃ (F : Hp) (d : Addr) (ws : List Went), Sm F H2 ∧ (U key).r F x ∧ y = .ref d ∧ Rd H2 d (dNo w d ws) ∧ KnR U T F kvs ws ∧ ∃ z, gK kvs key = some z ∧ ∀ v, (T z).r F v → Q v H2
theorem pe_getN {td ti : TE} (hr : Room k X.A) (hdp : KeyN.dep U ≤ 8) (ho : PE X b td) (hi : PE X a ti) (hs : NoSl a) : PE X (.Subscript b a pos) (tGetN X.w U T kvs key td ti) := by
  refine ⟨fun pins s σ H Q I h => ?_⟩
  refine subD_of PySem.F.slot_dict_getitem.lookup hs (thn (ho.run pins s σ H _ I h) fun u s1 ⟨y, H1, I1, ry, q1⟩ => thn (hi.run pins s1 σ H1 _ I1 q1) fun iv s2 ⟨x, H2, I2, rx, F, d, ws, sF, rk, ey, hd, hk, z, hz, q⟩ => ?_)
  obtain ⟨p, ex⟩ := hR.ref rk
  subst ex ey
  cases (show iv = Value.ref p from rx)
  cases (show u = Value.ref d from ry)
  obtain ⟨n1, n2, xs, r, hm⟩ := dn_lib I2 sF hdp hd hk
  have h1 := hk.at (k := key)
  rw [hz] at h1
  obtain ⟨b', v, hv, rv⟩ := h1
  have h2 := r.at (k := KeyN.enc U key)
  rw [hv] at h2
  obtain ⟨w', hw, rw'⟩ := h2
  exact ⟨hm.typeIs, wpAny_getItem_heap (knd := nestedKind X.prog X.w) (nroom hr) ⟨hN.is I2 sF rk rfl, Nat.le_trans (hN.depth _) hdp⟩ hm hw ⟨v, H2, I2.kept (h' := s2.heap) (t' := _) (fun _ _ z => z), rw', q v rv⟩⟩
theorem Rd.same {H H' : Hp} {d : Addr} {o : HO} (e : Same H H') (h : Rd H d o) : Rd H' d o := h.imp (fun z => e _ _ z) fun ⟨o, z⟩ => ⟨o, e _ _ z⟩
theorem rd_gr {H H' : Hp} {d : Addr} {o : HO} (e : Gr H H') (h : Rd H d o) (n : ∀ ps, o ≠ .tbl ps := by exact fun _ z => by cases z) : Rd H' d o := h.imp (fun z => e.c z n) fun ⟨o, z⟩ => ⟨o, e.c z⟩
theorem ev_getN {ρ : R} [hq : AsDN X.w ρ U T kvs] {z : α} (hr : Room k X.A) (hb : EvE X ss b ρ) (ha : EvE X ss a (sv (U key))) (hz : gK kvs key = some z) (hdp : KeyN.dep U ≤ 8 := by decide) (hp : NoSl a := by exact fun _ _ => rfl) : EvE X ss (.Subscript b a pos) (sv (T z)) := .mk fun B F H σ h Q q => by
  refine toE (pe_getN (T := T) (U := U) (kvs := kvs) (key := key) hr hdp PEw PEw hp) (hb B F H σ h _ fun y F1 H1 g1 r1 => ha B F1 H1 σ (h.grow g1) _ fun v F2 H2 g2 r2 => ?_)
  obtain ⟨d, ws, ed, hd, hw⟩ := hq.w F1 H1 y g1.s r1
  exact ⟨F2, d, ws, g2.s, r2, ed, rd_gr g2.h hd, hw.mono g2.f, z, hz, fun v' rv' => q v' F2 H2 (g1.trans g2) rv'⟩
/-- {} -/
theorem ev_dnewN : EvN X ss (.Dict [] [] pos) (oDN X.w U T ([] : List (κ × α))) := .mk fun B F H σ h Q q => by
  refine toE (t := fun _ H Q => ∀ p, H p = none → Q (.ref p) (upd H p (dNo X.w p []))) ⟨fun pins s σ H Q I h => ?_⟩ fun p np => fresh1 q (.refl h.s) np ⟨[], hp1_same, .nil⟩
  refine wpAny_Dict_empty ⟨.ref s.heap.objs.size, _, I.laid (a := s.heap.objs.size) (o := dNo X.w s.heap.objs.size []) (t' := s.toks) (fun _ _ z => Heap.get?_push_of_some _ z) (Nat.le_refl _) (dNo_ok ?_), rfl, h _ (I.hok.fresh (Nat.le_refl _))⟩
  exact ⟨beq_eq_false_iff_ne.mpr (Ne.symm (Nat.ne_of_lt I.big)), Nat.zero_le _, List.nodup_nil, [], .nil, _, #[], 0, Heap.get?_push_size _ rfl, ⟨rfl, rfl, rfl⟩, rfl, rfl⟩
/-- d[k] = v -/
def tPutN (w : World) (U : κ → S) [KeyN U] (T : α → S) (kvs : List (κ × α)) (key : κ) (td ti tv : TE) : TS := fun D σ H => tv σ H fun v H1 => td σ H1 fun y H2 => ti σ H2 fun x H3 => ∃ (F : Hp) (d p : Addr) (ws : List Went), Sm F H3 ∧ x = .ref p ∧ (U key).r F x ∧ y = .ref d ∧ H3 d = some (dNo w d ws) ∧ KnR U T F kvs ws ∧ ws.length < sizeLine ∧ D.nx σ (upd H3 d (dNo w d (storedW ws (KeyN.enc U key) p v)))
theorem storedW_len (ws : List Went) (n : NestedKey) (p : Addr) (v : V) : (storedW ws n p v).length ≤ ws.length + 1 := by
  unfold storedW
  split
  · rw [List.length_map]; omega
  · rw [List.length_append]; exact Nat.le_refl _
theorem ps_putN {value : Expr} {td ti tv : TE} (hr : Room k X.A) (hdp : KeyN.dep U ≤ 8) (ho : PE X b td) (hi : PE X a ti) (hv : PE X value tv) (hs : swapsWith value (some (.Subscript b a pos')) pos.line X.env = pure false) : PS X (.Assign [.Subscript b a pos'] value pos) (tPutN X.w U T kvs key td ti tv) := by
  refine ⟨fun pins s σ H D I h => ?_⟩
  refine wpAny_Assign_Subscript (thn (hv.run pins s σ H _ I h) fun r s1 ⟨v, H1, I1, rv, q1⟩ => thn (ho.run pins s1 σ H1 _ I1 q1) fun u s2 ⟨y, H2, I2, ry, q2⟩ => thn (hi.run pins s2 σ H2 _ I2 q2) fun iv s3 ⟨x, H3, I3, rx, F, d, p, ws, sF, ex, rk, ey, hd, hk, hl, q⟩ => ?_) hs
  subst ex ey
  cases (show iv = Value.ref p from rx)
  cases (show u = Value.ref d from ry)
  obtain ⟨n1, n2, xs, rel, hm⟩ := dn_lib I3 sF hdp (.inl hd) hk
  have hx : xs.length ≤ sizeLine := by rw [← Paired.length rel]; exact n2
  refine wpAny_setItem_heap (knd := nestedKind X.prog X.w) (hsz := hx) (nroom hr) ⟨hN.is I3 sF rk rfl, Nat.le_trans (hN.depth _) hdp⟩ hm fun h' hm' hs' => ?_
  obtain ⟨o, es, ep, ho', hc', hd', he', _, hnd'⟩ := hm'
  have rel2 := rel.put (k := KeyN.enc U key) (b := p) rv
  have hl2 := storedW_len ws (KeyN.enc U key) p v
  exact ⟨σ, _, d_write I3 (by rw [hd]; exact True.intro) hs' ⟨o, ho'⟩ (dNo_ok ⟨n1, by omega, by rw [← rel2.nodup]; exact hnd', _, rel2, o, es, ep, ho', hc', hd', he'⟩), q⟩
/-- a cell of an own object is rewritten -/
theorem cell_wr {H c : Hp} {d : Addr} {o0 o1 : HO} (hd : c d = some o0) (nt : ¬ IsT o0) (hc : ∀ a ob, c a = some ob → H a = some ob) :
    (∀ a ob, IsT ob → c a = some ob → upd H d o1 a = some ob) ∧ (∀ a ob, upd c d o1 a = some ob → upd H d o1 a = some ob) ∧ (∀ a ob, c a = none → H a = some ob → upd H d o1 a = some ob) ∧ (∀ a ob, upd c d o1 a = some ob → c a = none → H a = none) := by
  refine ⟨fun a ob za ea => ?_, fun a ob ea => ?_, fun a ob na ea => ?_, fun a ob ea na => ?_⟩
  · have ha : a ≠ d := fun z => by
      subst z
      rw [hd] at ea
      cases ea
      exact nt za
    rw [upd_ne ha]
    exact hc _ _ ea
  · by_cases ha : a = d
    · subst ha
      rw [upd_same] at ea ⊢
      exact ea
    · rw [upd_ne ha] at ea ⊢
      exact hc _ _ ea
  · rw [upd_ne (fun z => by subst z; rw [hd] at na; cases na)]
    exact ea
  · by_cases ha : a = d
    · subst ha
      rw [hd] at na
      cases na
    · rw [upd_ne ha, na] at ea
      cases ea
theorem s_putN (i : Nat) {z : Str} {p1 : Pos} (hr : Room k X.A) (hi : ss[i]? = some (.own (oDN X.w U T kvs))) (hv : EvE X ss e (sv (T x))) (ha : EvE X ss a (sv (U key))) (hl : kvs.length < sizeLine) (kk : D.nx (ss.set i (.own (oDN X.w U T (pK kvs key x))))) (hdp : KeyN.dep U ≤ 8 := by decide) (hN' : X.N[i]? = some z := by rfl)
    (hvs : Vis X.env.scope z := by first | exact Or.inl rfl | exact Or.inr (Or.inl rfl) | exact Or.inr (Or.inr rfl)) (hd : (z == ("__debug__" : Str)) = false := by decide) (hcd : (z == ("__classdict__" : Str)) = false := by decide)
    (hs : swapsWith e (some (.Subscript (.Name z p1) a pos')) pos.line X.env = pure false := by rfl) : EvS X ss (.Assign [.Subscript (.Name z p1) a pos'] e pos) D := .mk fun B F H σ h tk =>
  toS (ps_putN (T := T) (U := U) (kvs := kvs) (key := key) hr hdp (pe_var hN' hvs hd hcd) PEw PEw hs) (hv B F H σ h _ fun v F1 H1 g1 r1 => by
    obtain ⟨d0, c0, e0, _⟩ := (h.grow g1).own hi
    refine ⟨_, e0, ha B F1 H1 σ (h.grow g1) _ fun y F2 H2 g2 r2 => ?_⟩
    obtain ⟨d, c, e1, hc, ⟨ws, hd, hk⟩, wr⟩ := ((h.grow g1).grow g2).write hi
    rw [e0] at e1
    cases e1
    obtain ⟨p, ep⟩ := hR.ref r2
    subst ep
    obtain ⟨w0, w1, w2, w3⟩ := cell_wr (o1 := dNo X.w d0 (storedW ws (KeyN.enc U key) p v)) hd dNo_nt (fun a ob ea => (hc a ob ea).1)
    exact ⟨F2, d0, p, ws, g2.s, rfl, r2, rfl, (hc _ _ hd).1, hk, by rw [hk.len]; exact hl, F2, _, wr (oDN X.w U T (pK kvs key x)) _ _ w0 w1 w2 w3 ⟨_, upd_same, hk.put r2 ((T x).mono g2.f r1)⟩, kk⟩)
end
end Sx
namespace Sx
variable [Tbs]
open PySem PySem.Spec PyProof.Rows L2
section
variable {X : Cx} {ss : List Sl} {kx vx : Expr} {pos : Pos} {k : Nat} {κ α : Type} [DecidableEq κ] {U : κ → S} [hN : KeyN U] [hR : KeyR U] {T : α → S} {key : κ} {x : α}
theorem storedAllH_one (n : NestedKey) (p : Addr) (u : Value) : storedAllH [] [(n, p, u)] = [(n, p, u)] := by simp [storedAllH, storedH, atKey]
/-- {k: v} -/
theorem ev_dict1N (hr : Room k X.A) (ha : EvE X ss kx (sv (U key))) (hv : EvE X ss vx (sv (T x))) (hdp : KeyN.dep U ≤ 8 := by decide)
    (hsh : (evalEachOpt [some kx] X.env).zip ((evalEach [vx] X.env).map fun v => do let x ← v; standAt pos; pure x) = (pairTrees [some kx] [vx] X.env pos).map fun p => (some p.1, p.2) := by first | rfl | simp [evalEachOpt, evalEach, pairTrees]) :
    EvN X ss (.Dict [some kx] [vx] pos) (oDN X.w U T [(key, x)]) := .mk fun B F H σ h Q q => by
  intro pins s I
  have hn := I.hok.fresh (Nat.le_refl s.heap.objs.size)
  have I1 := I.laid (a := s.heap.objs.size) (o := dNo X.w s.heap.objs.size []) (h' := s.heap.push { cls := .type "dict", data := .dict #[] }) (t' := s.toks) (fun _ _ z => Heap.get?_push_of_some _ z) (Nat.le_refl _)
    (dNo_ok ⟨beq_eq_false_iff_ne.mpr (Ne.symm (Nat.ne_of_lt I.big)), Nat.zero_le _, List.nodup_nil, [], .nil, _, #[], 0, Heap.get?_push_size _ rfl, ⟨rfl, rfl, rfl⟩, rfl, rfl⟩)
  generalize ed : s.heap.objs.size = d at hn I1
  have g0 : Grow F H F (upd H d (dNo X.w d [])) := .new h.s hn
  have hu : (nestedKind X.prog X.w).room X.A := by
    have := hr.units
    show X.A.units + 8 < cLine
    omega
  rw [arm_eval_Dict, hsh, dictDisplay_pairs _ (by simp [pairTrees]) (by simp [pairTrees])]
  refine wpAny_bind (wpAny_standAt (wpAny_bind (wpAny_subDictH (knd := nestedKind X.prog X.w) hu (by simp [pairTrees]) ?_)))
  refine pairTrees_cons_walk (thn (ha B F _ σ (h.grow g0) (fun v H' => ∃ F', Grow F (upd H d (dNo X.w d [])) F' H' ∧ (U key).r F' v) (fun v F' H' g r => ⟨F', g, r⟩) pins _ I1) fun u s1 ⟨v, H1, I2, rv, F1, g1, r1⟩ => ?_)
  refine thn (hv B F1 H1 σ ((h.grow g0).grow g1) (fun v H' => ∃ F', Grow F1 H1 F' H' ∧ (T x).r F' v) (fun v F' H' g r => ⟨F', g, r⟩) pins s1 I2) fun w2 s2 ⟨y, H2, I3, ry, F2, g2, r2⟩ => pairTrees_nil_walk ?_
  have e2 : H2 d = some (dNo X.w d []) := g2.h.c (g1.h.c upd_same)
  obtain ⟨p, ep⟩ := hR.ref r1
  subst ep
  cases (show u = Value.ref p from rv)
  have rk := (U key).mono g2.f r1
  obtain ⟨n1, _, xs, r, hm⟩ := dn_lib (U := U) (T := T) (kvs := ([] : List (κ × α))) I3 g2.s.s hdp (.inl e2) .nil
  cases r
  refine ⟨[(KeyN.enc U key, p, w2)], ⟨rfl, rfl, ⟨hN.is I3 g2.s rk rfl, Nat.le_trans (hN.depth _) hdp⟩, trivial⟩, by rw [ed]; exact hm, fun h' tk hm' hs' => wpAny_pure ?_⟩
  rw [ed] at hm' hs' ⊢
  rw [storedAllH_one] at hm'
  obtain ⟨o, es, ep, ho', hc', hd', he', _, hnd'⟩ := hm'
  have rel2 : WX2 [(KeyN.enc U key, p, y)] [(KeyN.enc U key, p, w2)] := .cons ⟨rfl, rfl, ry⟩ .nil
  refine ⟨.ref d, _, d_write (ob := dNo X.w d [(KeyN.enc U key, p, y)]) I3 (by rw [e2]; exact True.intro) hs' ⟨o, ho'⟩ (dNo_ok ⟨n1, by show 1 ≤ sizeLine; rw [sizeLine_eq]; decide, by simp, _, rel2, o, es, ep, ho', hc', hd', he'⟩), rfl, ?_⟩
  have gg := (g0.trans g1).trans g2
  have nF : F2 d = none := by
    have n0 : F d = none := h.s.free hn
    cases z : F2 d with
    | none => rfl
    | some o' =>
      have e3 := g2.s d o' z
      rw [e2] at e3
      cases e3
      rcases (g1.trans g2).n d _ z n0 with y | y
      · rw [upd_same] at y
        cases y
      · exact (dNo_nt y).elim
  refine q d F2 _ (hp1 d (dNo X.w d [(KeyN.enc U key, p, y)])) ⟨gg.f, gg.h.put hn e2, gg.s.put nF e2, fun a ob ea na => gg.n a ob ea na⟩ (fun a ob ea => ?_) ⟨_, hp1_same, .cons ⟨rfl, rk, r2⟩ .nil⟩
  · obtain ⟨rfl, rfl⟩ := hp1_some ea
    exact ⟨hn, .inl nF, upd_same⟩
end
end Sx
namespace Sx
variable [Tbs]
open PySem PySem.Spec PyProof.Rows L2
/-! ### None, or a value -/
def sOpt {α : Type} (T : α → S) : Option α → S
  | none => sNone
  | some x => T x
class TyNN {α : Type} (T : α → S) [TyD T] : Prop where
  nn : ∀ x, PyData.eqv (TyD.d T x) .none = false ∧ PyData.eqv .none (TyD.d T x) = false
section
variable {α β : Type} {T : α → S} {U : β → S}
instance : TyNN sInt := ⟨fun x => ⟨by simp [TyD.d, PyData.eqv], by simp [TyD.d, PyData.eqv]⟩⟩
instance : TyNN sNat := ⟨fun x => ⟨by simp [TyD.d, PyData.eqv], by simp [TyD.d, PyData.eqv]⟩⟩
instance : TyNN sBool := ⟨fun x => ⟨by simp [TyD.d, PyData.eqv], by simp [TyD.d, PyData.eqv]⟩⟩
instance : TyNN sStr := ⟨fun x => ⟨by simp [TyD.d, PyData.eqv], by simp [TyD.d, PyData.eqv]⟩⟩
instance [TyD T] : TyNN (fun xs => sO (oLst T xs)) := ⟨fun x => ⟨by simp [TyD.d, PyData.eqv], by simp [TyD.d, PyData.eqv]⟩⟩
instance [TyD T] : TyNN (fun xs => sO (oTup T xs)) := ⟨fun x => ⟨by simp [TyD.d, PyData.eqv], by simp [TyD.d, PyData.eqv]⟩⟩
instance [TyD T] : TyNN (sLst T) := inferInstanceAs (TyNN (fun xs => sO (oLst T xs)))
instance [TyD T] : TyNN (sTup T) := inferInstanceAs (TyNN (fun xs => sO (oTup T xs)))
instance [TyD T] [TyD U] : TyNN (sPair T U) := ⟨fun x => ⟨by simp [TyD.d, PyData.eqv], by simp [TyD.d, PyData.eqv]⟩⟩
instance [TyD T] : TyD (sOpt T) where
  d := fun o => match o with
    | none => .none
    | some x => TyD.d T x
  dep := TyD.dep T
  ok := fun {K F v x} h => by
    cases x with
    | none =>
      have e : v = .non := h
      subst e
      exact ⟨.non, by simp [PyData.canLay0], by simp [PyData.depth]⟩
    | some x => exact TyD.ok (T := T) (K := K) h
instance [DecidableEq α] [TyQ T] [TyNN T] : TyQ (sOpt T) where
  q := fun x y => by
    cases x with
    | none =>
      cases y with
      | none => simp [TyD.d, PyData.eqv]
      | some y => show PyData.eqv .none (TyD.d T y) = _; rw [(TyNN.nn (T := T) y).2]; simp
    | some x =>
      cases y with
      | none => show PyData.eqv (TyD.d T x) .none = _; rw [(TyNN.nn (T := T) x).1]; simp
      | some y => show PyData.eqv (TyD.d T x) (TyD.d T y) = _; rw [TyQ.q]; simp
end
/-- values of T are not None -/
class NotN {α : Type} (T : α → S) : Prop where
  nn : ∀ {F : Hp} {x : α} {v : V}, (T x).r F v → v ≠ .non
section
variable {α β : Type} {T : α → S} {U : β → S}
instance : NotN sInt := ⟨fun {F x v} h e => by rw [show v = V.int x from h] at e; cases e⟩
instance : NotN sNat := ⟨fun {F x v} h e => by rw [show v = V.int (x : Int) from h] at e; cases e⟩
instance : NotN sBool := ⟨fun {F x v} h e => by rw [show v = V.bl x from h] at e; cases e⟩
instance : NotN sStr := ⟨fun {F x v} h e => by rw [h.1] at e; cases e⟩
instance : NotN (sLst T) := ⟨fun {F x v} h e => by obtain ⟨p, _, e1, _⟩ := h; rw [e1] at e; cases e⟩
instance : NotN (sTup T) := ⟨fun {F x v} h e => by obtain ⟨p, _, e1, _⟩ := h; rw [e1] at e; cases e⟩
instance : NotN (sPair T U) := ⟨fun {F x v} h e => by obtain ⟨p, _, e1, _⟩ := h; rw [e1] at e; cases e⟩
variable {X : Cx} {ss : List Sl} {a b e : Expr} {pos p1 : Pos} {o : Option α} {j : Nat}
omit [Tbs] in
theorem isn_dec [NotN T] {F : Hp} {v : V} (r : (sOpt T o).r F v) : decide (v = .non) = o.isNone := by
  cases o with
  | none => rw [show v = V.non from r]; rfl
  | some x => exact decide_eq_false (NotN.nn (T := T) r)
theorem ev_isN [NotN T] (ha : EvE X ss a (sv (sOpt T o))) (hm : behindInMarks .Is (.Constant .none j p1) = false := by rfl) : EvE X ss (.Compare a [.Is] [.Constant .none j p1] pos) (sv (sBool o.isNone)) := .mk fun B F H σ h Q q =>
  toE (pe_cmpR op_isN PEw pe_non hm) (ha B F H σ h _ fun v F1 H1 g1 r1 => ⟨rfl, by rw [isn_dec r1]; exact q _ F1 H1 g1 rfl⟩)
theorem ev_notN [NotN T] (ha : EvE X ss a (sv (sOpt T o))) (hm : behindInMarks .IsNot (.Constant .none j p1) = false := by rfl) : EvE X ss (.Compare a [.IsNot] [.Constant .none j p1] pos) (sv (sBool o.isSome)) := .mk fun B F H σ h Q q =>
  toE (pe_cmpR op_notN PEw pe_non hm) (ha B F H σ h _ fun v F1 H1 g1 r1 => ⟨rfl, by rw [isn_dec r1]; exact q _ F1 H1 g1 (show V.bl _ = V.bl _ by cases o <;> rfl)⟩)
theorem et_isN [NotN T] (ha : EvE X ss a (sv (sOpt T o))) (hm : behindInMarks .Is (.Constant .none j p1) = false := by rfl) : EvT X ss (.Compare a [.Is] [.Constant .none j p1] pos) o.isNone := .mk fun B F H σ h Q q =>
  toT (pt_cmpR op_isN PEw pe_non hm) (ha B F H σ h _ fun v F1 H1 g1 r1 => ⟨rfl, _, rfl, by rw [isn_dec r1]; exact q F1 H1 g1⟩)
theorem et_notN [NotN T] (ha : EvE X ss a (sv (sOpt T o))) (hm : behindInMarks .IsNot (.Constant .none j p1) = false := by rfl) : EvT X ss (.Compare a [.IsNot] [.Constant .none j p1] pos) o.isSome := .mk fun B F H σ h Q q =>
  toT (pt_cmpR op_notN PEw pe_non hm) (ha B F H σ h _ fun v F1 H1 g1 r1 => ⟨rfl, _, rfl, by rw [isn_dec r1, show (!o.isNone) = o.isSome by cases o <;> rfl]; exact q F1 H1 g1⟩)
theorem ev_none (T : α → S) {k : Nat} : EvE X ss (.Constant .none k pos) (sv (sOpt T none)) := ev_non
theorem EvE.some {x : α} (h : EvE X ss e (sv (T x))) : EvE X ss e (sv (sOpt T (some x))) := h
theorem ty_lst {K : PySem.W.Frag} {F H : Hp} {v : V} {xs : List α} (e : Sm F H) (r : (sv (sLst T xs)).r F H v) : TyX K H v (.type "list") := by
  obtain ⟨p, k, e1, hk, vs, hp, _⟩ := r
  subst e1
  exact .base (.lst (e _ _ (hk _ _ hp)))
theorem ty_tup {K : PySem.W.Frag} {F H : Hp} {v : V} {xs : List α} (e : Sm F H) (r : (sv (sTup T xs)).r F H v) : TyX K H v (.type "tuple") := by
  obtain ⟨p, k, e1, hk, vs, hp, _⟩ := r
  subst e1
  exact .base (.tup (e _ _ (hk _ _ hp)))
theorem ty_none {K : PySem.W.Frag} {F H : Hp} {v : V} (r : (sv sNone).r F H v) : TyX K H v (.type "NoneType") := by
  rw [show v = V.non from r]
  exact .base .non
end
/-! ### targets of several names -/
/-- what a target does with a value of s -/
def GTo (g : TG) (s : S) (st : List Sl → List Sl) : Prop := ∀ (B : Bs) (F H : Hp) (σ : L2.St) (ss : List Sl) (v : V) (Q : L2.St → Hp → Prop), Sat B F H σ ss → s.r F v → (∀ σ', Sat B F H σ' (st ss) → Q σ' H) → g v σ H Q
theorem gto_name {i : Nat} {s : S} : GTo (gName i) s (fun ss => ss.set i (.val s)) := fun B F H σ ss v Q h r q => q _ (h.set r)
theorem gto_tup2 {K : PySem.W.Frag} {s t : S} {i j : Nat} : GTo (gTup K 2 (gCons (gName i) (gCons (gName j) gNil))) (sTup id [s, t]) (fun ss => (ss.set i (.val s)).set j (.val t)) := fun B F H σ ss v Q h r q => by
  obtain ⟨p, c, e, hk, vs, hp, hi⟩ := r
  obtain ⟨x, y, rfl, rx, ry⟩ := its2 hi
  exact ⟨p, _, e, SqT.of (h.s _ _ (hk _ _ hp)), rfl, x, _, rfl, y, _, rfl, rfl, q _ ((h.set rx).set ry)⟩
theorem gto_lst2 {K : PySem.W.Frag} {s t : S} {i j : Nat} : GTo (gLst K 2 (gCons (gName i) (gCons (gName j) gNil))) (sLst id [s, t]) (fun ss => (ss.set i (.val s)).set j (.val t)) := fun B F H σ ss v Q h r q => by
  obtain ⟨p, c, e, hk, vs, hp, hi⟩ := r
  obtain ⟨x, y, rfl, rx, ry⟩ := its2 hi
  exact ⟨p, _, e, SqL.of (h.s _ _ (hk _ _ hp)), rfl, x, _, rfl, y, _, rfl, rfl, q _ ((h.set rx).set ry)⟩
theorem gto_pair {α β : Type} {T : α → S} {U : β → S} {K : PySem.W.Frag} {p : α × β} {i j : Nat} : GTo (gTup K 2 (gCons (gName i) (gCons (gName j) gNil))) (sPair T U p) (fun ss => (ss.set i (.val (T p.1))).set j (.val (U p.2))) := gto_tup2
section
variable {X : Cx} {ss : List Sl} {e tg iter : Expr} {body : List Stmt} {D : Ds} {s : S} {α : Type} {T : α → S} {xs : List α} {pos p : Pos} {g : TG}
/-- for a, b in xs: -/
theorem s_forG (st : α → List Sl → List Sl) (hp : PassesOwn (model X.prog X.w) X.A X.env X.xe) (hc : X.calm = true) (hg : PG X tg g) (hst : ∀ x, GTo g (T x) (st x)) (I : Nat → List Sl → Prop) [hq : AsSq X.K (sv s) T xs] (hi : EvE X ss iter (sv s)) (h0 : I 0 ss)
    (hs : ∀ k (y : α) ss', xs[k]? = some y → I k ss' → EvSs X (st y ss') body { D with nx := I (k + 1), ct := I (k + 1), bk := D.nx }) (hd : ∀ ss', I xs.length ss' → D.nx ss') (hfs : ∀ x, foldedSetIterable iter X.env x = pure x := by intro _; rfl) :
    EvS X ss (.For tg iter body [] pos) D := .mk fun B F H σ h tk => by
  have turn : ∀ {F1 H1 : Hp} (h1 : Sat B F1 H1 σ ss) (k : Nat) (v : V) (σ' : L2.St) (H' : Hp) (y : α), xs[k]? = some y → (T y).r F1 v → (∃ F' ss', Sat ⟨F1, B.H⟩ F' H' σ' ss' ∧ I k ss') →
      g v σ' H' fun σ2 H2 => wpSs X body { (dn B D) with nx := fun σ H => ∃ F ss, Sat ⟨F1, B.H⟩ F H σ ss ∧ I (k + 1) ss, ct := fun σ H => ∃ F ss, Sat ⟨F1, B.H⟩ F H σ ss ∧ I (k + 1) ss, bk := (dn B D).nx } σ2 H2 := fun h1 k v σ' H' y hy r ⟨F', ss', hs', hI⟩ =>
    hst y ⟨_, B.H⟩ F' H' σ' ss' v _ hs' ((T y).mono hs'.g.f r) fun σ2 hs2 =>
      wpSs_mono (hs k y ss' hy hI ⟨_, B.H⟩ F' H' _ hs2 (tk.lift h1.g)) (fun _ _ q => q) (fun v H z => RtP.base h1.g z) (fun _ _ ⟨F2, s2, g2, q2⟩ => ⟨F2, s2, sat_base h1 g2, q2⟩) (fun _ _ q => q)
  have fin : ∀ {F1 H1 : Hp} (h1 : Sat B F1 H1 σ ss) (σ' : L2.St) (H' : Hp), (∃ F' ss', Sat ⟨F1, B.H⟩ F' H' σ' ss' ∧ I xs.length ss') → (dn B D).nx σ' H' := fun h1 σ' H' ⟨F', ss', hs', hI⟩ => ⟨F', ss', sat_base h1 hs', hd ss' hI⟩
  intro pins sh inv
  refine (toS (ps_for hp hc (PIw) hg PSsw hfs) (D := dn B D) (σ := σ) (H := H) ?_) pins sh inv
  intro pins s2 inv2
  refine thn (hi B F H σ h (fun v H' => ∃ F', Grow F H F' H' ∧ s.r F' v) (fun v F' H' g r => ⟨F', g, r⟩) pins s2 inv2) fun u s3 ⟨v, H1, I3, rv, F1, g1, r1⟩ => ?_
  obtain ⟨p1, vs, ev, hk, hits⟩ := hq.w F1 F1 v (Same.refl _) r1
  subst ev
  cases rv
  have h1 := h.grow g1
  have step : ∀ (J : It), (∀ i σ' H', (∃ F' ss', Sat ⟨F1, B.H⟩ F' H' σ' ss' ∧ I i ss') → i < vs.length → J.go i H') → (∀ i σ' H', (∃ F' ss', Sat ⟨F1, B.H⟩ F' H' σ' ss' ∧ I i ss') → vs.length ≤ i → J.stop i H') →
      (∀ i σ' H' x H'', (∃ F' ss', Sat ⟨F1, B.H⟩ F' H' σ' ss' ∧ I i ss') → J.yld i H' x H'' → H'' = H' ∧ (i < vs.length → vs[i]? = some x)) →
      ∃ W : Nat → Nat → L2.St → Hp → Prop, (∃ m, W 0 m σ H1) ∧ ∀ i m σ' H', W i m σ' H' → (J.stop i H' ∧ (dn B D).nx σ' H') ∨ (J.go i H' ∧ ∃ N : L2.St → Hp → Prop, (∀ σ2 H2, N σ2 H2 → ∃ m', m' < m ∧ W (i + 1) m' σ2 H2) ∧ ∀ x H'', J.yld i H' x H'' → g x σ' H'' fun σ2 H2 => wpSs X body { (dn B D) with nx := N, ct := N, bk := (dn B D).nx } σ2 H2) := by
    intro J hgo hstop hy
    refine ⟨fun i m σ' H' => m = vs.length - i ∧ i ≤ vs.length ∧ ∃ F' ss', Sat ⟨F1, B.H⟩ F' H' σ' ss' ∧ I i ss', ⟨_, rfl, Nat.zero_le _, F1, ss, sat_lift h1, h0⟩, ?_⟩
    rintro i m σ' H' ⟨rfl, hle, hP⟩
    by_cases hlt : i < vs.length
    · refine .inr ⟨hgo i σ' H' hP hlt, fun σ2 H2 => ∃ F' ss', Sat ⟨F1, B.H⟩ F' H2 σ2 ss' ∧ I (i + 1) ss', fun σ2 H2 z => ⟨_, by omega, rfl, hlt, z⟩, fun x H'' y => ?_⟩
      obtain ⟨e1, e2⟩ := hy i σ' H' x H'' hP y
      subst e1
      obtain ⟨y, hy', ry⟩ := hits.get (e2 hlt)
      exact turn h1 i x σ' _ y hy' ry hP
    · have e : i = vs.length := by omega
      subst e
      refine .inl ⟨hstop _ σ' H' hP (Nat.le_refl _), ?_⟩
      rw [hits.len] at hP
      exact fin h1 σ' H' hP
  rcases hk with hk | hk
  · obtain ⟨its, rvs, pl, hz⟩ := I3.list (SqL.same g1.s hk)
    refine wpAny_pyIter_list pl.isList ?_
    refine ⟨s3.heap.objs.size, [s3.heap.objs.size], _, _, H1, rfl, I3.kept (t' := s3.toks) fun b o e => Heap.get?_push_of_some _ e, turn_list p1 _, ⟨_, Heap.get?_push_size _ rfl, rfl, rfl⟩, fun b hb => ?_, ?_⟩
    · have e : b = s3.heap.objs.size := by simpa using hb
      subst e
      exact I3.fpOk (Nat.le_refl _) (I3.hok.fresh (Nat.le_refl _))
    · have at_ : ∀ {σ' : L2.St} {H' : Hp} {i : Nat}, (∃ F' ss', Sat ⟨F1, B.H⟩ F' H' σ' ss' ∧ I i ss') → SqL X.K H' p1 vs := fun ⟨F', ss', hs', _⟩ => SqL.same (hs'.g.f.trans hs'.s) hk
      exact step (Itl X.K p1) (fun i σ' H' hP hlt => ⟨vs, vs[i], at_ hP, List.getElem?_eq_getElem hlt⟩) (fun i σ' H' hP hle => ⟨vs, at_ hP, hle⟩) (fun i σ' H' x H'' hP y => ⟨y.1, fun _ => y.2 vs (at_ hP)⟩)
  · obtain ⟨its, rvs, pl, hz⟩ := I3.tuple (SqT.same g1.s hk)
    refine wpAny_pyIter_tuple (show s3.heap.IsTuple p1 its.toArray from pl) ?_
    refine ⟨s3.heap.objs.size, [s3.heap.objs.size], _, _, H1, rfl, I3.kept (t' := s3.toks) fun b o e => Heap.get?_push_of_some _ e, turn_tuple p1 _, ⟨_, Heap.get?_push_size _ rfl, rfl, rfl⟩, fun b hb => ?_, ?_⟩
    · have e : b = s3.heap.objs.size := by simpa using hb
      subst e
      exact I3.fpOk (Nat.le_refl _) (I3.hok.fresh (Nat.le_refl _))
    · have at_ : ∀ {σ' : L2.St} {H' : Hp} {i : Nat}, (∃ F' ss', Sat ⟨F1, B.H⟩ F' H' σ' ss' ∧ I i ss') → SqT X.K H' p1 vs := fun ⟨F', ss', hs', _⟩ => SqT.same (hs'.g.f.trans hs'.s) hk
      exact step (Itt X.K p1) (fun i σ' H' hP hlt => ⟨vs, vs[i], at_ hP, List.getElem?_eq_getElem hlt⟩) (fun i σ' H' hP hle => ⟨vs, at_ hP, hle⟩) (fun i σ' H' x H'' hP y => ⟨y.1, fun _ => y.2 vs (at_ hP)⟩)
/-- a, b = e -/
theorem s_asgG (st : List Sl → List Sl) (he : EvE X ss e (sv s)) (hg : PG X tg g) (hst : GTo g s st) (k : D.nx (st ss)) (hs : swapsWithSole [tg] e pos.line X.env = pure false := by rfl) (hw : swappedStores [tg] e X.env = pure none := by rfl)
    (h1 : (assignEach [tg] X.env).map (·.2) = [assign tg X.env] := by rfl) : EvS X ss (.Assign [tg] e pos) D := .mk fun B F H σ h tk =>
  toS (ps_asg PEw hg hs hw h1) (he B F H σ h _ fun v F' H' g' r => hst B F' H' σ ss v _ (h.grow g') r fun σ' hs' => ⟨F', _, hs', k⟩)
end
end Sx
/-! ### sorted, of any data -/
namespace Sx
variable [Tbs]
open PySem PySem.W PySem.Calls PyProof.Rows PySem.SeqAt
section
variable {prog : Program} {w : World} {A : Around} {s : Shared} {E : Value → Shared → Prop}
omit [Tbs] in
theorem call_tuple_lt {Q : Value → Shared → Prop} {l b : Addr} {items items2 : Array Value} {e r : Nat → Bool} (hl : s.heap.IsTuple l items) (hb : s.heap.IsTuple b items2)
    (he : ∀ j (h1 : j < items.size) (h2 : j < items2.size), EqAt A.in1 s items[j] items2[j] (e j)) (hr : ∀ j (h1 : j < items.size) (h2 : j < items2.size), e j = false → RcLt A.in1 s items[j] items2[j] (r j))
    (h : Q (.bool (firstLt e r (decide (items.size < items2.size)) (List.range (min items.size items2.size)))) s) : wpAny (model prog w) A (call (.builtin "tuple.__lt__") [.ref l, .ref b]) Q E s := by
  obtain ⟨⟨cls, dd, data, sl⟩, ho, hc, n, hd⟩ := id hl
  obtain ⟨⟨cls2, dd2, data2, sl2⟩, ho2, hc2, n2, hd2⟩ := id hb
  simp only at hc hd hc2 hd2
  subst hc hd hc2 hd2
  exact call_meets F.slot_tuple_lt ⟨_, ho, rfl⟩ F.entry_tuple_lt (F.args_tuple_lt_2 _ _) (tuple_ltAt l b items items2 n n2 dd dd2 sl sl2 e r) ⟨ho, ho2, he, hr, h⟩
omit [Tbs] in
theorem oneLt_tuples {xs ys : List PyData} {a b : Value} {as bs : List Addr} {Q : Bool → Shared → Prop} (ra : Reads s.heap a (.tuple xs) as) (rb : Reads s.heap b (.tuple ys) bs) (h : alike (.tuple xs) (.tuple ys) = true)
    (hu : A.units + min (PyData.tuple xs).depth (PyData.tuple ys).depth < cLine) (hq : Q (dataLt (.tuple xs) (.tuple ys)) s) : wpAny (model prog w) A (oneLt' true a b) Q E s := by
  have hal : alikeAll xs ys = true := by simpa [alike] using h
  cases ra with
  | @tuple l o vs n _ as₁ h1 h2 h3 h4 =>
    cases rb with
    | @tuple l' o' vs' n' _ bs₁ k1 k2 k3 k4 =>
      have n1 : vs.size = xs.length := by simpa using ReadsAll.length _ _ _ h4
      have n2 : vs'.size = ys.length := by simpa using ReadsAll.length _ _ _ k4
      rw [dataLt_tuple, ← firstLt_toks xs ys hal, ← n1, ← n2] at hq
      rw [oneLt'_eq]
      simp only [if_true]
      refine wpAny_bind (wpAny_cRoomFor (room_here hu) ?_)
      refine wpAny_bind (wpAny_callSpecialIfBound?_slot (T := "tuple") ⟨_, h1, h2⟩ F.slot_tuple_lt (call_tuple_lt (e := pairEq xs ys) (r := fun j => dataLt (xs.getD j .none) (ys.getD j .none)) ⟨_, h1, h2, _, h3⟩ ⟨_, k1, k2, _, k3⟩ (fun j j1 j2 => ?_) (fun j j1 j2 hj => ?_) ?_))
      · have := eqAt_alikeAll xs ys A.in1 s vs.toList vs'.toList _ _ h4 k4 hal (room_in hu) j (by simpa using j1) (by simpa using j2)
        simpa using this
      · have := rcLt_alikeAll xs ys A.in1 s vs.toList vs'.toList _ _ h4 k4 hal (room_in hu) j (by simpa using j1) (by simpa using j2) hj
        simpa using this
      · exact wpAny_truthy_bool hq
def IsTupV (h : Heap) (v : Value) : Prop := ∃ a o xs n, v = .ref a ∧ h.get? a = some o ∧ o.cls = .type "tuple" ∧ o.data = .seq xs n
variable {M : Model}
omit [Tbs] in
theorem tup_firsts : ∀ (vs : List Value) {Q : List (Option Value) → Shared → Prop}, (∀ v ∈ vs, IsTupV s.heap v) → (∀ bs, Q bs s) → wpAny M A (vs.mapM firstOfTuple') Q E s
  | [], _, _, h => by rw [List.mapM_nil]; exact wpAny_pure (h [])
  | v :: vs, Q, t, h => by
    obtain ⟨a, o, xs, n, rfl, ho, hc, hd⟩ := t v (.head _)
    rw [List.mapM_cons]
    refine wpAny_bind ?_
    rw [kas_first_eq]
    refine wpAny_bind (Looks.here (show Looks M s.heap (typeOf (.ref a)) o.cls from (Looks.ld ho).andThen .now) ?_)
    rw [hc, if_neg (by first | decide | simp)]
    refine wpAny_bind (listItems_at ho hd (wpAny_pure ?_))
    exact wpAny_bind (tup_firsts vs (Q := fun bs s' => wpAny M A (pure (xs[0]? :: bs)) Q E s') (fun v hv => t v (.tail _ hv)) fun bs => wpAny_pure (h _))
omit [Tbs] in
theorem tup_kind {v : Value} {vs : List Value} {Q : SortKind → Shared → Prop} (h0 : ∃ a o n, v = .ref a ∧ s.heap.get? a = some o ∧ o.cls = .type "tuple" ∧ o.data = .seq #[] n) (ht : ∀ v ∈ vs, IsTupV s.heap v) (h : Q oneType' s) :
    wpAny M A (keyKind' (v :: vs).toArray) Q E s := by
  obtain ⟨a, o, n, rfl, ho, hc, hd⟩ := h0
  have hT : ∀ u ∈ Value.ref a :: vs, Looks M s.heap (typeOf u) (.type "tuple") := fun u hu => by
    rcases List.mem_cons.mp hu with rfl | hu
    · exact hc ▸ (Looks.ld ho).andThen .now
    · obtain ⟨a', o', xs', n', rfl, ho', hc', _⟩ := ht u hu
      exact hc' ▸ (Looks.ld ho').andThen .now
  rw [kat_kind_eq, List.mapM_toArray, map_eq_pure_bind, List.mapM_cons]
  refine wpAny_bind (wpAny_bind (wpAny_bind ?_))
  rw [kas_first_eq]
  refine wpAny_bind (Looks.here (show Looks M s.heap (typeOf (.ref a)) o.cls from (Looks.ld ho).andThen .now) ?_)
  rw [hc, if_neg (by first | decide | simp)]
  refine wpAny_bind (listItems_at ho hd (wpAny_pure ?_))
  refine wpAny_bind (tup_firsts vs ht fun bs => wpAny_pure (wpAny_pure ?_))
  rw [if_neg (by simp), if_neg (by simp)]
  rw [oneTypeOnly'_eq, List.mapM_toArray, map_eq_pure_bind]
  refine wpAny_bind (wpAny_bind (wpAny_bind (kas_mapM (r := .type "tuple") _ (fun v hv Q' hq => (hT v hv).here hq) (wpAny_pure ?_))))
  have hall : ((List.map (fun _ => Value.type "tuple") (Value.ref a :: vs)).toArray.all fun x => x == Value.type "tuple") = true := by
    simp only [List.all_toArray, List.all_map, List.all_eq_true]
    intro _ _
    exact beq_self_eq_true _
  have h0 : (List.map (fun _ => Value.type "tuple") (Value.ref a :: vs)).toArray[0]? = some (.type "tuple") := by simp
  rw [h0]
  simp only [hall, if_true]
  exact wpAny_pure (wpAny_pure h)
end
/-- what can be sorted: as the library has it, or tuples of which the first is empty -/
def Sortable2 (ds : List PyData) : Prop := Sortable ds ∨ ((∀ d ∈ ds, ∃ xs, d = .tuple xs) ∧ ∃ r, ds = .tuple [] :: r)
omit [Tbs] in
theorem sortsAt2 {prog : Program} {w : World} {A : Around} {s : Shared} {vs : List Value} {ds : List PyData} (e : EachIs (fun v d => ∃ as, Reads s.heap v d as) vs ds) (hal : AllAlike ds) (hk : Sortable2 ds) (hu : ∀ d, d ∈ ds → A.units + d.depth < cLine) : SortsAt prog w A s (dataKind s.heap ds) vs := by
  rcases hk with hk | ⟨ht, r, rfl⟩
  · exact SortsAt.data e hal hk hu
  · have room : ∀ {d d' : PyData}, d ∈ PyData.tuple [] :: r → A.units + min d.depth d'.depth < cLine := fun {d d'} hd => Nat.lt_of_le_of_lt (Nat.add_le_add_left (Nat.min_le_left _ _) _) (hu d hd)
    refine ⟨fun v hv => ?_, ?_⟩
    · obtain ⟨d, hd, as, r⟩ := e.left v hv
      exact ⟨_, dataKind_some hal hd r⟩
    · refine ⟨oneType', ?_, fun _ E Q hq => ?_⟩
      · intro E x y a b Q ha hb hq
        obtain ⟨d, as, hd, ra, rfl⟩ := dataKind_inv ha
        obtain ⟨d', as', hd', rb, rfl⟩ := dataKind_inv hb
        rw [keyLt'_oneType]
        obtain ⟨xs, rfl⟩ := ht d hd
        obtain ⟨ys, rfl⟩ := ht d' hd'
        exact oneLt_tuples ra rb (hal _ hd _ hd') (room hd) hq
      · have tupv : ∀ {v : Value} {xs : List PyData} {as : List Addr}, Reads s.heap v (.tuple xs) as → IsTupV s.heap v := fun {v xs as} q => by
          cases q with
          | @tuple l o vs n _ _ h1 h2 h3 h4 => exact ⟨l, o, vs, n, rfl, h1, h2, h3⟩
        cases e with
        | cons h t =>
          obtain ⟨as, q⟩ := h
          refine tup_kind ?_ (fun v hv => ?_) hq
          · cases q with
            | @tuple l o vs n _ _ h1 h2 h3 h4 =>
              have : vs.size = 0 := by simpa using ReadsAll.length _ _ _ h4
              rw [Array.eq_empty_of_size_eq_zero this] at h3
              exact ⟨l, o, n, rfl, h1, h2, h3⟩
          · obtain ⟨d, hd, as', r'⟩ := t.left v hv
            obtain ⟨xs, rfl⟩ := ht d (.tail _ hd)
            exact tupv r'
/-- data of one make -/
class TyA {α : Type} (T : α → S) [TyD T] : Prop where
  al : ∀ x y : α, alike (TyD.d T x) (TyD.d T y) = true
section
variable {α β : Type} {T : α → S} {U : β → S}
omit [Tbs] in
theorem alike_each [TyD T] [TyA T] : ∀ xs ys : List α, alikeAll (xs.map (TyD.d T)) (ys.map (TyD.d T)) = true
  | [], _ => by simp [alikeAll]
  | _ :: _, [] => by simp [alikeAll]
  | x :: xs, y :: ys => by
    rw [List.map_cons, List.map_cons]
    simp only [alikeAll, Bool.and_eq_true]
    exact ⟨TyA.al x y, alike_each xs ys⟩
instance : TyA sInt := ⟨fun x y => by simp [TyD.d, alike]⟩
instance : TyA sNat := ⟨fun x y => by simp [TyD.d, alike]⟩
instance : TyA sBool := ⟨fun x y => by simp [TyD.d, alike]⟩
instance : TyA sStr := ⟨fun x y => by simp [TyD.d, alike]⟩
instance [TyD T] [TyA T] : TyA (fun xs => sO (oLst T xs)) := ⟨fun x y => by
  show alike (.list _) (.list _) = true
  simp only [alike]
  exact alike_each x y⟩
instance [TyD T] [TyA T] : TyA (fun xs => sO (oTup T xs)) := ⟨fun x y => by
  show alike (.tuple _) (.tuple _) = true
  simp only [alike]
  exact alike_each x y⟩
instance [TyD T] [TyA T] : TyA (sLst T) := inferInstanceAs (TyA (fun xs => sO (oLst T xs)))
instance [TyD T] [TyA T] : TyA (sTup T) := inferInstanceAs (TyA (fun xs => sO (oTup T xs)))
instance [TyD T] [TyD U] [TyA T] [TyA U] : TyA (sPair T U) := ⟨fun x y => by
  show alike (.tuple [_, _]) (.tuple [_, _]) = true
  simp only [alike, alikeAll, Bool.and_true, Bool.and_eq_true]
  exact ⟨TyA.al x.1 y.1, TyA.al x.2 y.2⟩⟩
/-- the sorted list -/
noncomputable def srt (T : α → S) [TyD T] (xs : List α) : List α := xs.mergeSort (dataLe false (TyD.d T))
end
section
open L2
variable {α β : Type} {T : α → S} {U : β → S}
omit [Tbs] in
theorem its_back {F : Hp} : ∀ {out : List Value} {xs : List α}, EachIs (fun u b => ∃ v, RelV v u ∧ (T b).r F v) out xs → ∃ ys, Vals ys out ∧ Its T F xs ys
  | _, _, .nil => ⟨[], .nil, .nil⟩
  | _, _, .cons ⟨v, h1, h2⟩ t => by
    obtain ⟨ys, h3, h4⟩ := its_back t
    exact ⟨v :: ys, .cons h1 h3, .cons h2 h4⟩
omit [Tbs] in
theorem its_each {F : Hp} : ∀ {xs : List α} {ws : List V} {its : List Value}, Its T F xs ws → Vals ws its → EachIs (fun u b => ∃ v, RelV v u ∧ (T b).r F v) its xs
  | [], ws, its, h, r => by
    have h' : Paired (fun x v => (T x).r F v) [] ws := h
    cases h'
    cases r
    exact .nil
  | x :: xs, ws, its, h, r => by
    have h' : Paired (fun x v => (T x).r F v) (x :: xs) ws := h
    cases h' with
    | cons h1 h2 =>
      cases r with
      | cons r1 r2 => exact .cons ⟨_, r1, h1⟩ (its_each (show Its T F xs _ from h2) r2)
omit [Tbs] in
theorem its_mem {F : Hp} : ∀ {xs : List α} {ws : List V}, Its T F xs ws → ∀ b ∈ xs, ∃ v, (T b).r F v
  | [], ws, h, b, hb => by cases hb
  | x :: xs, ws, h, b, hb => by
    have h' : Paired (fun x v => (T x).r F v) (x :: xs) ws := h
    cases h' with
    | cons h1 h2 =>
      rcases List.mem_cons.mp hb with e | hb
      · exact ⟨_, e ▸ h1⟩
      · exact its_mem (show Its T F xs _ from h2) b hb
theorem cr_sortedD {X : Cx} {k : Nat} [TyD T] [TyA T] (hr : Room k X.A) (hd : TyD.dep T ≤ 60) : CallR X (.builtin "sorted") (fun vs H Q => ∃ (F : Hp) (a : Addr) (ws : List V) (xs : List α), Sm F H ∧ vs = [.ref a] ∧ SqL X.K H a ws ∧ Its T F xs ws ∧ Sortable2 (xs.map (TyD.d T)) ∧ ∀ ys p, Its T F (srt T xs) ys → H p = none → Q (.ref p) (upd H p (.lst ys))) := by
  intro pins s σ H vs us Q I r h
  obtain ⟨F, a, ws, xs, sF, rfl, hs, hi, hso, q⟩ := h
  obtain ⟨its, rv, hl, hz⟩ := I.list hs
  rw [Vals.ref1 r]
  have e := its_each hi rv
  have er0 : EachIs (fun u b => ∃ as, Reads s.heap u (TyD.d T b) as) its xs := e.mono fun u b ⟨v, r1, r2⟩ => Dp.reads I (TyD.d T b) v u (dp_same sF (TyD.ok r2).1) r1
  have er : EachIs (fun u b => ∃ as, Reads (sortingHeap (copyHeap s.heap its) (s.heap.objs.size + 1) its) u (TyD.d T b) as) its xs := er0.mono fun _ _ ⟨as, r⟩ => ⟨as, PyProof.Rows.Reads.keeps (fun _ _ => sorting_copy_old) r⟩
  have hal : AllAlike (xs.map (TyD.d T)) := AllAlike.of TyA.al
  have hdep : ∀ b ∈ xs, (TyD.d T b).depth ≤ 60 := fun b hb => by
    obtain ⟨v, r2⟩ := its_mem hi b hb
    exact Nat.le_trans (TyD.ok (K := X.K) r2).2.2 hd
  have hun := hr.un
  refine sorted_vals hl.isList (sortsAt2 (s := { s with heap := sortingHeap (copyHeap s.heap its) (s.heap.objs.size + 1) its }) (each_map (R := fun v d => ∃ as, Reads (sortingHeap (copyHeap s.heap its) (s.heap.objs.size + 1) its) v d as) (TyD.d T) er) hal hso fun d hd' => ?_) (by have h4 : its.length = ws.length := rv.length.symm; omega) ?_
  · obtain ⟨b, hb, rfl⟩ := List.mem_map.mp hd'
    have := hdep b hb
    show X.A.units + 2 + _ < cLine
    omega
  · obtain ⟨ys, hv, hys⟩ := its_back (sortVals_data false e er hal)
    obtain ⟨ep, he'⟩ := PyProof.Rows.sortedAll_at s.heap its (List.toArray _)
    have hlen : ys.length ≤ sizeLine := by
      have h1 : ys.length = (srt T xs).length := hys.len
      have h2 : (srt T xs).length = xs.length := List.length_mergeSort _
      have h3 : ws.length = xs.length := hi.len
      have h4 : its.length = ws.length := rv.length.symm
      omega
    exact ⟨.ref _, upd H (s.heap.objs.size + 1) (.lst ys), I.laid (t' := s.toks) (fun _ _ => PyProof.Rows.sortedAll_old) (Nat.le_succ _) ⟨hlen, _, ep, hv, he'⟩, rfl, q ys _ hys (I.hok.fresh (Nat.le_succ _))⟩
end
section
open L2
variable {X : Cx} {ss : List Sl} {a : Expr} {ρ : R} {pos p : Pos} {α : Type} {T : α → S} {xs : List α} {k : Nat}
theorem ev_sortedD [TyD T] [TyA T] (hr : Room k X.A) (hm : X.mg "sorted" = none) [hq : AsLs X.K ρ T xs] (ha : EvE X ss a ρ) (hso : Sortable2 (xs.map (TyD.d T))) (hd : TyD.dep T ≤ 60 := by decide) (hg : Gl X "sorted" := by rfl) (he : starEach [a] X.env = (false, eval a X.env) :: starEach [] X.env := by exact star_ok rfl) (hpl : (backTo pos (starEach [] X.env)).any (·.1) = false := by rfl) :
    EvN X ss (.Call (.Name "sorted" p) [a] [] pos) (oLst T (srt T xs)) := .mk fun B F H σ h Q q =>
  toE (pe_callB (cr_sortedD (T := T) hr hd) hg hm (by decide +kernel) PAw (by decide) (by decide) he hpl) (ea_cons ha ea_nil he B F H σ h _ fun vs F1 H1 g1 rs => by
    cases rs with
    | cons r rr =>
      cases rr
      obtain ⟨p1, ws, e1, hw, hi⟩ := hq.w F1 H1 _ g1.s r
      subst e1
      refine ⟨F1, p1, ws, xs, g1.s, rfl, hw, hi, hso, fun ys l hs nl => ?_⟩
      exact fresh1 q g1 nl ⟨_, hp1_same, hs⟩)
omit [Tbs] in
theorem srt_perm [TyD T] (xs : List α) : (srt T xs).Perm xs := List.mergeSort_perm _ _
end
end Sx
namespace Sx.HTX
open PySem PyProof.Rows PySem.SeqAt HT PySem.W
section
variable {prog : Program} {w : World} {A : Around} {E : Value → Shared → Prop} {s : Shared}
theorem sliceApplied_rev {sl : Addr} {n : Nat} {u : Tok} {Q : Int × Int × Nat → Shared → Prop} (hs : s.heap.IsSliceOf sl .none .none (.int (-1) u)) (h : Q ((n : Int) - 1, -1, n) s) : wpAny (model prog w) A (Builtin.Slice.sliceApplied (.ref sl) (pure (n : Int))) Q E s := by
  obtain ⟨os, hos, hcs, hds⟩ := id hs
  unfold Builtin.Slice.sliceApplied Builtin.Slice.sliceFields
  refine wpAny_bind (wpAny_bind (wpAny_field hos hds (x := .none) rfl (wpAny_bind (wpAny_field hos hds (x := .none) rfl (wpAny_bind (wpAny_field hos hds (x := .int (-1) u) rfl (wpAny_pure ?_)))))))
  refine wpAny_bind (slicePart_int ?_)
  show wpAny _ _ (if ((-1 : Int) == 0) = true then _ else _) _ _ s
  rw [if_neg (by decide)]
  refine wpAny_bind (slicePart_none (wpAny_bind (slicePart_none (wpAny_bind (wpAny_pure ?_)))))
  show wpAny _ _ (pure ((n : Int) - 1, (-1 : Int), Builtin.Slice.slicePlaces ((n : Int) - 1) (-1) (-1))) _ _ s
  have e : Builtin.Slice.slicePlaces ((n : Int) - 1) (-1) (-1) = n := by
    unfold Builtin.Slice.slicePlaces
    have h1 : ¬ ((-1 : Int) > 0) := by decide
    simp only [h1, if_false]
    split
    · rw [show (-(-1) : Int) = 1 by decide, Int.ediv_one]
      omega
    · omega
  rw [e]
  exact wpAny_pure h
theorem pick_rev (xs : Array Value) : ((List.range xs.size).filterMap fun (m : Nat) => xs[(((xs.size : Int) - 1) + (m : Int) * (-1)).toNat]?).toArray = xs.toList.reverse.toArray := by
  have e : ((List.range xs.size).filterMap fun (m : Nat) => xs[(((xs.size : Int) - 1) + (m : Int) * (-1)).toNat]?) = ((List.range xs.size).map fun k => xs.size - 1 - k).filterMap (xs[·]?) := by
    rw [List.filterMap_map]
    congr 1
    funext m
    have e2 : (((xs.size : Int) - 1) + (m : Int) * (-1)).toNat = xs.size - 1 - m := by omega
    show xs[_]? = xs[xs.size - 1 - m]?
    rw [e2]
  rw [e, krv_range, List.filterMap_reverse, krv_all]
theorem getItem_tuple_rev {t sl : Addr} {items : Array Value} {u : Tok} {Q : Value → Shared → Prop} (ht : IsTup s.heap t items) (hs : s.heap.IsSliceOf sl .none .none (.int (-1) u))
    (h : Q (.ref s.heap.objs.size) { s with heap := s.heap.push { cls := .type "tuple", data := .seq items.toList.reverse.toArray } })
    (hsz : items.size ≤ sizeLine) : wpAny (model prog w) A (getItem (.ref t) (.ref sl)) Q E s := by
  have htake : sizeOk (.seq items.toList.reverse.toArray) := by
    show items.toList.reverse.toArray.size ≤ sizeLine
    rw [List.size_toArray, List.length_reverse, Array.length_toList]
    exact hsz
  obtain ⟨os, hos, hcs, hds⟩ := id hs
  have hTs : s.TypeIs (.ref sl) "slice" := ⟨os, hos, hcs⟩
  unfold getItem
  try with_reducible refine wpAny_holding ?_
  first | refine wpAny_bind (wpAny_pure ?_) | skip
  refine wpAny_bind (wpAny_sequenceKey ht.typeIs (by decide) ?_)
  refine wpAny_bind (wpAny_callSpecial?_slot (name := Str.ofString "__getitem__") ht.typeIs PyProof.Rows.slot_tuple_getitem
    (wpAny_call_entry PyProof.Rows.slot_tuple_getitem ht.typeIs entry_tuple_getitem ?_ (args_tuple_getitem _ _)))
  show wpAny _ _ (Builtin.Tuple.tupleItemsOf (.ref t) >>= _) _ _ s
  refine wpAny_bind (tupleItemsOf_ ht ?_)
  refine wpAny_bind (wpAny_typeOf hTs ?_)
  rw [if_pos (by decide)]
  refine wpAny_bind (sliceApplied_rev hs ?_)
  have hno : ¬ ((((items.size : Int) - 1) == 0 && (-1 : Int) == 1 && items.size == items.size) = true) := by
    intro q
    rw [Bool.and_eq_true, Bool.and_eq_true] at q
    exact absurd q.1.2 (by decide)
  show wpAny _ _ (if (((items.size : Int) - 1) == 0 && (-1 : Int) == 1 && items.size == items.size) = true then _ else _) _ _ s
  rw [if_neg hno, pick_rev]
  first
    | exact wpAny_bind (m := Builtin.Tuple.tupleExact _) (wpAny_newObj_type (wpAny_pure ⟨_, rfl, wpAny_pure h⟩) htake)
    | exact wpAny_bind (m := Builtin.Tuple.tupleExact _) (wpAny_newObj_type (wpAny_bind (wpAny_pure (wpAny_pure ⟨_, rfl, wpAny_pure h⟩))) htake)
    | exact wpAny_bind (wpAny_bind (m := Builtin.Tuple.tupleExact _) (wpAny_newObj_type (wpAny_pure (wpAny_pure ⟨_, rfl, wpAny_pure h⟩)) htake))
    | exact wpAny_bind (wpAny_bind (m := Builtin.Tuple.tupleExact _) (wpAny_newObj_type (wpAny_pure ⟨_, rfl, wpAny_pure h⟩) htake))
end
end Sx.HTX
namespace Sx
variable [Tbs]
open PySem PySem.Spec PyProof.Rows L2
section
variable {X : Cx} {ss : List Sl} {a : Expr} {es : List Expr} {sts : List Stmt} {D : Ds} {ρ : R} {o o' : O} {pos p : Pos} {α : Type} {T : α → S} {xs : List α} {k : Nat}
/-- an own object, told in other words -/
theorem r_weakO (i : Nat) (hi : ss[i]? = some (.own o)) (w : ∀ F k p, o.r F k p → o'.r F k p) (h : EvSs X (ss.set i (.own o')) sts D) : EvSs X ss sts D := .mk fun B F H σ hs tk => h B F H σ (hs.weakO hi (w F)) tk
theorem its_id {F : Hp} : ∀ {xs : List α} {vs : List V}, Its T F xs vs → Its id F (xs.map T) vs
  | [], vs, h => by
    have h' : Paired (fun x v => (T x).r F v) [] vs := h
    cases h'
    exact .nil
  | x :: xs, vs, h => by
    have h' : Paired (fun x v => (T x).r F v) (x :: xs) vs := h
    cases h' with
    | cons h1 h2 => exact .cons h1 (its_id (show Its T F xs _ from h2))
theorem lst_id {F k : Hp} {p : Addr} (h : (oLst T xs).r F k p) : (oLst id (xs.map T)).r F k p := by
  obtain ⟨vs, h1, h2⟩ := h
  exact ⟨vs, h1, its_id h2⟩
/-- tuple(range(n)) -/
theorem ev_tupRg {n : Int} {p1 p2 : Pos} (hc : X.calm = true) (hl : X.mg "tuple" = none) (hr : X.mg "range" = none) (ha : EvE X ss a (sv (sInt n))) (h0 : -(2 ^ 62) ≤ n) (h1 : n ≤ 16777216) (hg : Gl X "tuple" := by rfl) (hg2 : Gl X "range" := by rfl)
    (na : starEach [a] X.env = (false, eval a X.env) :: starEach [] X.env := by exact star_ok rfl) (nb : starEach [Expr.Call (.Name "range" p2) [a] [] p] X.env = (false, eval (.Call (.Name "range" p2) [a] [] p) X.env) :: starEach [] X.env := by exact star_ok rfl) :
    EvN X ss (.Call (.Name "tuple" p1) [.Call (.Name "range" p2) [a] [] p] [] pos) (oTup sNat (List.range n.toNat)) := .mk fun B F H σ h Q q =>
  toE (pe_tupRg hc hg hl (prg_1 hg2 hr PEw na) nb) (ha B F H σ h _ fun v F1 H1 g r => ⟨n, r, ⟨by decide, by decide, h0, by omega, by omega⟩, fun p np => fresh1 q g np ⟨_, hp1_same, its_rg n⟩⟩)
/-- t[::-1], a tuple -/
def tRevT (K : PySem.W.Frag) (te : TE) : TE := fun σ H Q => te σ H fun x H1 => ∃ a xs, x = .ref a ∧ SqT K H1 a xs ∧ ∀ p, H1 p = none → Q (.ref p) (upd H1 p (.tup xs.reverse))
theorem pe_revT {e : Expr} {te : TE} {k : Nat} {p1 p2 p3 pos : Pos} (he : PE X e te) : PE X (.Subscript e (.Slice none none (some (.UnaryOp .USub (.Constant (.int 1) k p1) p2)) p3) pos) (tRevT X.K te) := by
  refine ⟨fun pins s σ H Q I h => ?_⟩
  refine Subscript_ (thn (he.run pins s σ H _ I h) fun v s1 ⟨x, H1, I1, r1, q1⟩ => ?_)
  obtain ⟨a, xs, ex, hx, q⟩ := q1
  subst ex
  cases r1
  have hst : PO X (some (.UnaryOp .USub (.Constant (.int 1) k p1) p2)) (tPart (tUn (rU fun i => .int (-i)) (tC (.int 1)))) := po_some (pe_un un_neg pe_int)
  refine wpAny_Slice (thn (po_none.run pins s1 σ H1 (fun o H2 => o = none ∧ H2 = H1) I1 ⟨rfl, rfl⟩) fun vl s2 ⟨l, H2, I2, pl, el, e2⟩ => ?_)
  subst el e2
  refine thn (po_none.run pins s2 σ H2 (fun o H3 => o = none ∧ H3 = H2) I2 ⟨rfl, rfl⟩) fun vu s3 ⟨u, H3, I3, pu, eu, e3⟩ => ?_
  subst eu e3
  refine thn (hst.run pins s3 σ H3 (fun o H4 => o = some (-1) ∧ H4 = H3) I3 ⟨1, rfl, -1, rfl, rfl, rfl⟩) fun vs s4 ⟨o, H4, I4, ps, eo, e4⟩ => ?_
  subst eo e4
  cases pl
  cases pu
  cases ps with
  | int i tk =>
  have I5 : Inv X pins σ H4 { s4 with heap := s4.heap.push { cls := .type "slice", data := .fields #[.none, .none, .int (-1) tk] } } := I4.kept (t' := s4.toks) fun b ob q => Heap.get?_push_of_some _ q
  obtain ⟨its, r, ht, hz⟩ := I5.tuple hx
  have hlen := r.length
  show wpAny (model X.prog X.w) X.A (subscriptTail e (.Slice none none (some (.UnaryOp .USub (.Constant (.int 1) k p1) p2)) p3) (.ref a) (.ref s4.heap.objs.size)) (EP X pins σ Q) X.xe { s4 with heap := s4.heap.push { cls := .type "slice", data := .fields #[.none, .none, .int (-1) tk] } }
  refine tail_any (ops := [.ref a, .ref s4.heap.objs.size]) ht.typeIs (PyProof.Rows.slot_tuple_getitem.lookup) ?_ (by with_unfolding_all rfl)
  refine HTX.getItem_tuple_rev ht (Heap.IsSliceOf.new _ .none .none (.int (-1) tk)) ?_ (by rw [List.size_toArray]; omega)
  refine ⟨.ref _, _, I5.laid (t' := s4.toks) (o := .tup xs.reverse) (fun b ob q => Heap.get?_push_of_some _ q) (Nat.le_refl _) ?_, rfl, q _ (I5.hok.fresh (Nat.le_refl _))⟩
  exact ⟨by rw [List.length_reverse]; exact hz, _, r.reverse, IsTup.new _ _⟩
theorem ev_revT {n : Nat} {p1 p2 p3 : Pos} (ha : EvE X ss a (sv (sO (oTup T xs)))) : EvN X ss (.Subscript a (.Slice none none (some (.UnaryOp .USub (.Constant (.int 1) n p1) p2)) p3) pos) (oTup T xs.reverse) := .mk fun B F H σ h Q q =>
  toE (pe_revT PEw) (ha B F H σ h _ fun v F1 H1 g1 r1 => by
    obtain ⟨p, k, e1, hk, vs, hp, hi⟩ := r1
    subst e1
    exact ⟨p, vs, rfl, SqT.of (g1.s _ _ (hk _ _ hp)), fun p np => fresh1 q g1 np ⟨_, hp1_same, hi.rev⟩⟩)
end
end Sx
namespace Sx
variable [Tbs]
open PySem PySem.Spec PyProof.Rows L2
section
variable {X : Cx} {a b : Expr} {ss : List Sl} {pos : Pos} {k : Nat} {α : Type} [DecidableEq α] {T : α → S} {xs ys : List α}
/-- an own list against a list -/
theorem et_neL (T : α → S) [TyQ T] (hr : Room k X.A) (ha : EvE X ss a (bO (oLst T xs))) (hb : EvE X ss b (sv (sLst T ys))) (h1 : TyD.dep T ≤ 63 := by decide) (h2 : TyD.dep (sLst T) ≤ 64 := by decide) :
    EvT X ss (.Compare a [.NotEq] [b] pos) (!decide (xs = ys)) := by
  rw [← TyQ.q (T := sLst T), show TyD.d (sLst T) xs = .list (xs.map (TyD.d T)) from rfl]
  exact ev_cmpT (op_neD (room64 hr)) ha hb (fun F H v w Q sF rx ry q => by
    obtain ⟨d1, s1⟩ := lst_shaped h1 sF rx
    obtain ⟨d2, s2⟩ := shaped_of (T := sLst T) h2 sF ry
    exact ⟨_, _, d1, d2, s1, s2, q⟩) (nomark _)
theorem ty_lstB {α : Type} {T : α → S} {xs : List α} {K : PySem.W.Frag} {F H : Hp} {v : V} (e : Sm F H) (r : (bO (oLst T xs)).r F H v) : TyX K H v (.type "list") := by
  obtain ⟨p, k, rfl, hk, vs, hp, hi⟩ := r
  exact .base (.lst (hk _ _ hp))
end
end Sx
/-! ### xs[n] = v, an own list -/
namespace Sx
variable [Tbs]
open PySem PySem.Spec PyProof.Rows L2
section
variable {X : Cx} {ss : List Sl} {e b : Expr} {D : Ds} {pos pos' : Pos} {α : Type} {T : α → S} {xs : List α} {y : α}
theorem s_setL (i : Nat) {z : Str} {p1 : Pos} {n : Int} {j : Nat} (hi : ss[i]? = some (.own (oLst T xs))) (he : EvE X ss e (sv (T y))) (hb : EvE X ss b (sv (sInt n))) (hj : ixN xs.length n = some j) (kk : D.nx (ss.set i (.own (oLst T (xs.set j y))))) (hN' : X.N[i]? = some z := by rfl)
    (hvs : Vis X.env.scope z := by first | exact Or.inl rfl | exact Or.inr (Or.inl rfl) | exact Or.inr (Or.inr rfl)) (hd : (z == ("__debug__" : Str)) = false := by decide) (hcd : (z == ("__classdict__" : Str)) = false := by decide)
    (hs : swapsWithSole [.Subscript (.Name z p1) b pos'] e pos.line X.env = pure false := by rfl) (hw : swappedStores [.Subscript (.Name z p1) b pos'] e X.env = pure none := by rfl)
    (hasg : ∀ v, assign (.Subscript (.Name z p1) b pos') X.env v = (do
      let ov ← holding [v] (eval (.Name z p1) X.env)
      let iv ← holding [v, ov] (eval b X.env)
      standAt pos'
      holding [v, ov, iv] (setItem ov iv v)
      release [v, ov, iv] []) := by intro _; rfl) : EvS X ss (.Assign [.Subscript (.Name z p1) b pos'] e pos) D := .mk fun B F H σ h tk =>
  toS (ps_asg PEw (pg_sub (pe_var hN' hvs hd hcd) PEw set_list hasg) hs hw) (he B F H σ h _ fun v F1 H1 g1 r1 => by
    obtain ⟨d0, c0, e0, _⟩ := (h.grow g1).own hi
    refine ⟨_, e0, hb B F1 H1 σ (h.grow g1) _ fun y2 F2 H2 g2 r2 => ?_⟩
    obtain ⟨d, c, e1, hc, ⟨vs, hd, hk⟩, wr⟩ := ((h.grow g1).grow g2).write hi
    rw [e0] at e1
    cases e1
    have e2 : y2 = V.int n := r2
    subst e2
    obtain ⟨w0, w1, w2, w3⟩ := cell_wr (o1 := .lst (vs.set j v)) hd (fun z => z) (fun a ob ea => (hc a ob ea).1)
    exact ⟨d0, vs, n, j, rfl, rfl, (hc _ _ hd).1, by rw [hk.len]; exact hj, F2, _, wr (oLst T (xs.set j y)) _ _ w0 w1 w2 w3 ⟨_, upd_same, hk.set j ((T y).mono g2.f r1)⟩, kk⟩)
end
end Sx
/-! ### n in (whole numbers ..), a tuple or a list -/
namespace Sx
variable [Tbs]
open PySem PySem.Spec PyProof.Rows L2
theorem inV_nats {F : Hp} {z : Nat} : ∀ {xs : List Nat} {vs : List V}, Its sNat F xs vs → inV (.int (z : Int)) vs = decide (z ∈ xs) ∧ vs.all flatV = true
  | [], vs, h => by
    have e : vs = [] := List.eq_nil_of_length_eq_zero h.len
    subst e
    exact ⟨by simp [inV], rfl⟩
  | x :: xs, vs, h => by
    have h' : Paired (fun x v => (sNat x).r F v) (x :: xs) vs := h
    cases h' with
    | cons r t =>
      have e : _ = V.int (x : Int) := r
      subst e
      obtain ⟨a1, a2⟩ := inV_nats (F := F) (z := z) (show Its sNat F _ _ from t)
      refine ⟨?_, by rw [List.all_cons, a2]; rfl⟩
      unfold inV at a1 ⊢
      rw [List.any_cons, a1]
      by_cases hz : x = z
      · subst hz
        simp [eqV]
      · have hz' : ¬ z = x := fun q => hz q.symm
        have hz2 : ¬ (x : Int) = (z : Int) := fun q => hz (Int.ofNat.inj q)
        simp [eqV, hz', hz2]
section
variable {X : Cx} {ss : List Sl} {a b : Expr} {ρ : R} {pos : Pos} {z : Nat} {xs : List Nat}
theorem ev_inI [hq : AsSq X.K ρ sNat xs] (ha : EvE X ss a (sv (sNat z))) (hb : EvE X ss b ρ) (hm : behindInMarks .In b = false := by rfl) : EvE X ss (.Compare a [.In] [b] pos) (sv (sBool (inB z xs))) :=
  ev_cmp op_in_seq ha hb (fun F H v w Q sF e1 e2 q => by
    obtain ⟨p, vs, e3, hs, hi⟩ := hq.w F H w sF e2
    obtain ⟨a1, a2⟩ := inV_nats (z := z) hi
    rw [show v = V.int (z : Int) from e1]
    refine ⟨p, vs, e3, hs, rfl, a2, ?_⟩
    rw [if_neg Bool.false_ne_true, a1]
    exact q _ F H (.refl sF) rfl) hm
theorem et_inI [hq : AsSq X.K ρ sNat xs] (ha : EvE X ss a (sv (sNat z))) (hb : EvE X ss b ρ) (hm : behindInMarks .In b = false := by rfl) : EvT X ss (.Compare a [.In] [b] pos) (inB z xs) :=
  ev_cmpT op_in_seq ha hb (fun F H v w Q sF e1 e2 q => by
    obtain ⟨p, vs, e3, hs, hi⟩ := hq.w F H w sF e2
    obtain ⟨a1, a2⟩ := inV_nats (z := z) hi
    rw [show v = V.int (z : Int) from e1]
    refine ⟨p, vs, e3, hs, rfl, a2, ?_⟩
    rw [if_neg Bool.false_ne_true, a1]
    exact q) hm
theorem et_ninI [hq : AsSq X.K ρ sNat xs] (ha : EvE X ss a (sv (sNat z))) (hb : EvE X ss b ρ) (hm : behindInMarks .NotIn b = false := by rfl) : EvT X ss (.Compare a [.NotIn] [b] pos) (!inB z xs) :=
  ev_cmpT op_notIn_seq ha hb (fun F H v w Q sF e1 e2 q => by
    obtain ⟨p, vs, e3, hs, hi⟩ := hq.w F H w sF e2
    obtain ⟨a1, a2⟩ := inV_nats (z := z) hi
    rw [show v = V.int (z : Int) from e1]
    refine ⟨p, vs, e3, hs, rfl, a2, ?_⟩
    rw [if_pos rfl, a1]
    exact q) hm
end
end Sx
namespace Sx
variable [Tbs]
open PySem PySem.Spec PyProof.Rows L2

/-! ### a list or a tuple, as it lies -/
def sSqK {α : Type} (K : PySem.W.Frag) (T : α → S) (xs : List α) : S :=
  ⟨fun F v => ∃ p vs, v = .ref p ∧ (SqL K F p vs ∨ SqT K F p vs) ∧ Its T F xs vs, fun a ⟨p, vs, e, h, q⟩ => ⟨p, vs, e, h.imp (SqL.same a) (SqT.same a), q.mono a⟩⟩
section
variable {α : Type} {K : PySem.W.Frag} {T : α → S} {xs : List α}
instance : AsSq K (sv (sSqK K T xs)) T xs := ⟨fun F H v e ⟨p, vs, e1, h, q⟩ => ⟨p, vs, e1, h.imp (SqL.same e) (SqT.same e), q⟩⟩
theorem sSqK_of {s : S} [hq : AsSq K (sv s) T xs] {F : Hp} {v : V} (r : s.r F v) : (sSqK K T xs).r F v := hq.w F F v (Same.refl F) r
end
section
variable {X : Cx} {ss : List Sl} {e a : Expr} {s : S} {α : Type} {T : α → S} {xs : List α} {K : PySem.W.Frag} {p pos : Pos}
theorem EvE.kq [hq : AsSq K (sv s) T xs] (he : EvE X ss e (sv s)) : EvE X ss e (sv (sSqK K T xs)) := he.impS fun F v r => sSqK_of r
end

section
variable {X : Cx} {ss : List Sl} {e : Expr} {α : Type} {T : α → S} {xs : List α} {K : PySem.W.Frag}
theorem EvE.kx (he : EvE X ss e (sv (sSqK K T xs))) (hK : X.K = K := by rfl) : EvE X ss e (sv (sSqK X.K T xs)) := by
  subst hK
  exact he
end
/-! ### what is walked -/
/-- b: own objects of now may be among what is walked (they must stand still meanwhile) -/
structure EvI (b : Bool) (X : Cx) (ss : List Sl) (tg iter : Expr) {α : Type} (T : α → S) (xs : List α) : Prop where
  go : ∀ (B : Bs) (F H : Hp) (σ : L2.St), Sat B F H σ ss → ∀ Rr : It → Hp → Prop,
    (∀ (J : It) (F' H' : Hp) (G : Hp → Prop) (Y : Nat → Hp → V → Hp → Prop), Grow F H F' H' → Walk J xs.length G Y →
      (∀ F2 H2, Same F' F2 → Sm F2 H2 → (b = true → Gr H' H2) → G H2) →
      (∀ i F2 H2 v H3, i < xs.length → Same F' F2 → Sm F2 H2 → (b = true → Gr H' H2) → Y i H2 v H3 → ∃ F3 x, Grow F2 H2 F3 H3 ∧ xs[i]? = some x ∧ (T x).r F3 v) → Rr J H') → wpI X tg iter σ H Rr
section
variable {X : Cx} {ss : List Sl} {e a tg iter : Expr} {s : S} {ρ : R} {α : Type} {T : α → S} {xs : List α} {pos p : Pos}
theorem ei_seq [hq : AsSq X.K ρ T xs] (hi : EvE X ss iter ρ) : EvI true X ss tg iter T xs := .mk fun B F H σ h Rr q => by
  intro pins s1 inv
  refine thn (hi B F H σ h (fun v H' => ∃ F', Grow F H F' H' ∧ ρ.r F' H' v) (fun v F' H' g r => ⟨F', g, r⟩) pins s1 inv) fun u s3 ⟨v, H1, I3, rv, F1, g1, r1⟩ => ?_
  obtain ⟨p1, vs, ev, hk, hits⟩ := hq.w F1 H1 v g1.s r1
  subst ev
  cases rv
  have fresh : ∀ b ∈ [s3.heap.objs.size], FpOk X pins H1 b := fun b hb => by
    have e : b = s3.heap.objs.size := by simpa using hb
    subst e
    exact I3.fpOk (Nat.le_refl _) (I3.hok.fresh (Nat.le_refl _))
  have yl : ∀ (i : Nat) (F2 H2 : Hp) (v : V) (H3 : Hp), i < xs.length → Same F1 F2 → Sm F2 H2 → (true = true → Gr H1 H2) → YAt vs i H2 v H3 → ∃ F3 x, Grow F2 H2 F3 H3 ∧ xs[i]? = some x ∧ (T x).r F3 v := fun i F2 H2 v H3 _ e1 e2 _ y => by
    obtain ⟨rfl, hv⟩ := y
    obtain ⟨x, hx, rx⟩ := hits.get hv
    exact ⟨F2, x, .refl e2, hx, (T x).mono e1 rx⟩
  have hn : vs.length = xs.length := hits.len
  rcases hk with hL | hL
  · obtain ⟨its, rvs, pl, hz⟩ := I3.list hL
    refine wpAny_pyIter_list pl.isList ?_
    refine ⟨s3.heap.objs.size, [s3.heap.objs.size], _, _, H1, rfl, I3.kept (t' := s3.toks) fun b o e => Heap.get?_push_of_some _ e, turn_list p1 _, ⟨_, Heap.get?_push_size _ rfl, rfl, rfl⟩, fresh, ?_⟩
    exact q (Itl X.K p1) F1 H1 (fun H2 => SqL X.K H2 p1 vs) (YAt vs) g1 (hn ▸ walk_list) (fun F2 H2 _ _ h3 => SqL.gr (h3 rfl) hL) yl
  · obtain ⟨its, rvs, pl, hz⟩ := I3.tuple hL
    refine wpAny_pyIter_tuple (show s3.heap.IsTuple p1 its.toArray from pl) ?_
    refine ⟨s3.heap.objs.size, [s3.heap.objs.size], _, _, H1, rfl, I3.kept (t' := s3.toks) fun b o e => Heap.get?_push_of_some _ e, turn_tuple p1 _, ⟨_, Heap.get?_push_size _ rfl, rfl, rfl⟩, fresh, ?_⟩
    exact q (Itt X.K p1) F1 H1 (fun H2 => SqT X.K H2 p1 vs) (YAt vs) g1 (hn ▸ walk_tup) (fun F2 H2 _ _ h3 => SqT.gr (h3 rfl) hL) yl
/-- .. of what is known -/
theorem ei_sq [hq : AsSq X.K (sv s) T xs] (hi : EvE X ss iter (sv s)) : EvI false X ss tg iter T xs := .mk fun B F H σ h Rr q => by
  intro pins s1 inv
  refine thn (hi B F H σ h (fun v H' => ∃ F', Grow F H F' H' ∧ s.r F' v) (fun v F' H' g r => ⟨F', g, r⟩) pins s1 inv) fun u s3 ⟨v, H1, I3, rv, F1, g1, r1⟩ => ?_
  obtain ⟨p1, vs, ev, hk, hits⟩ := hq.w F1 F1 v (Same.refl _) r1
  subst ev
  cases rv
  have fresh : ∀ b ∈ [s3.heap.objs.size], FpOk X pins H1 b := fun b hb => by
    have e : b = s3.heap.objs.size := by simpa using hb
    subst e
    exact I3.fpOk (Nat.le_refl _) (I3.hok.fresh (Nat.le_refl _))
  have yl : ∀ (i : Nat) (F2 H2 : Hp) (v : V) (H3 : Hp), i < xs.length → Same F1 F2 → Sm F2 H2 → (false = true → Gr H1 H2) → YAt vs i H2 v H3 → ∃ F3 x, Grow F2 H2 F3 H3 ∧ xs[i]? = some x ∧ (T x).r F3 v := fun i F2 H2 v H3 _ e1 e2 _ y => by
    obtain ⟨rfl, hv⟩ := y
    obtain ⟨x, hx, rx⟩ := hits.get hv
    exact ⟨F2, x, .refl e2, hx, (T x).mono e1 rx⟩
  have hn : vs.length = xs.length := hits.len
  rcases hk with hL | hL
  · obtain ⟨its, rvs, pl, hz⟩ := I3.list (SqL.same g1.s hL)
    refine wpAny_pyIter_list pl.isList ?_
    refine ⟨s3.heap.objs.size, [s3.heap.objs.size], _, _, H1, rfl, I3.kept (t' := s3.toks) fun b o e => Heap.get?_push_of_some _ e, turn_list p1 _, ⟨_, Heap.get?_push_size _ rfl, rfl, rfl⟩, fresh, ?_⟩
    exact q (Itl X.K p1) F1 H1 (fun H2 => SqL X.K H2 p1 vs) (YAt vs) g1 (hn ▸ walk_list) (fun F2 H2 h1 h2 _ => SqL.same (h1.trans h2) hL) yl
  · obtain ⟨its, rvs, pl, hz⟩ := I3.tuple (SqT.same g1.s hL)
    refine wpAny_pyIter_tuple (show s3.heap.IsTuple p1 its.toArray from pl) ?_
    refine ⟨s3.heap.objs.size, [s3.heap.objs.size], _, _, H1, rfl, I3.kept (t' := s3.toks) fun b o e => Heap.get?_push_of_some _ e, turn_tuple p1 _, ⟨_, Heap.get?_push_size _ rfl, rfl, rfl⟩, fresh, ?_⟩
    exact q (Itt X.K p1) F1 H1 (fun H2 => SqT X.K H2 p1 vs) (YAt vs) g1 (hn ▸ walk_tup) (fun F2 H2 h1 h2 _ => SqT.same (h1.trans h2) hL) yl
theorem EvI.weak (h : EvI false X ss tg iter T xs) : EvI true X ss tg iter T xs := .mk fun B F H σ hs Rr q => h.go B F H σ hs Rr fun J F' H' G Y g w h1 h2 => q J F' H' G Y g w (fun F2 H2 a b _ => h1 F2 H2 a b fun z => by cases z) fun i F2 H2 v H3 hi a b _ y => h2 i F2 H2 v H3 hi a b (fun z => by cases z) y
theorem EvI.any {b : Bool} (h : EvI b X ss tg iter T xs) : EvI true X ss tg iter T xs := by cases b <;> first | exact h | exact h.weak
/-- items told otherwise -/
theorem EvI.as {β : Type} {U : β → S} {b : Bool} {f : β → α} {ys : List β} (h : EvI b X ss tg iter T (ys.map f)) (w : ∀ y F v, (T (f y)).r F v → (U y).r F v) : EvI b X ss tg iter U ys := .mk fun B F H σ hs Rr q => h.go B F H σ hs Rr fun J F' H' G Y g wk h1 h2 => by
  rw [List.length_map] at wk h2
  refine q J F' H' G Y g wk h1 fun i F2 H2 v H3 hi a b c y => ?_
  obtain ⟨F3, x, g3, hx, rx⟩ := h2 i F2 H2 v H3 hi a b c y
  rw [List.getElem?_map] at hx
  cases e : ys[i]? with
  | none => rw [e] at hx; cases hx
  | some z =>
    rw [e] at hx
    cases hx
    exact ⟨F3, z, g3, rfl, w z F3 v rx⟩
end

/-! ### targets within a comprehension -/
/-- what a target does with a value of s, once the block's own names vs are forgotten -/
def GTw (g : TG) (s : S) (vs : List Nat) (ss ss' : List Sl) : Prop := ∀ (B : Bs) (F H : Hp) (σ : L2.St) (v : V) (Q : L2.St → Hp → Prop), Sat B F H σ ss → s.r F v → (∀ σ', Sat B F H σ' ss' → wipe σ' vs = wipe σ vs → Q σ' H) → g v (wipe σ vs) H Q
theorem gtw_name {j : Nat} {s : S} {ss : List Sl} : GTw (gName j) s [j] ss (ss.set j (.val s)) := fun B F H σ v Q h r q => by
  have k := (h.wipe1 (i := j)).set (i := j) r
  rw [show (ss.set j Sl.any).set j (Sl.val s) = ss.set j (.val s) from List.set_set _] at k
  refine q _ k ?_
  show ((σ.set j none).set j (some v)).set j none = σ.set j none
  rw [List.set_set, List.set_set]
theorem gtw_tup2 {K : PySem.W.Frag} {s t : S} {i j : Nat} {ss : List Sl} (hij : i ≠ j) : GTw (gTup K 2 (gCons (gName i) (gCons (gName j) gNil))) (sTup id [s, t]) [i, j] ss ((ss.set i (.val s)).set j (.val t)) := fun B F H σ v Q h r q => by
  obtain ⟨p, c, e, hk, vs, hp, hi⟩ := r
  obtain ⟨x, y, rfl, rx, ry⟩ := its2 hi
  have k := (((h.wipe1 (i := j)).wipe1 (i := i)).set (i := i) rx).set (i := j) ry
  rw [show (((ss.set j Sl.any).set i Sl.any).set i (Sl.val s)).set j (Sl.val t) = (ss.set i (.val s)).set j (.val t) by
    rw [List.set_set, List.set_comm _ _ hij, List.set_set, List.set_comm _ _ hij]] at k
  refine ⟨p, _, e, SqT.of (h.s _ _ (hk _ _ hp)), rfl, x, _, rfl, y, _, rfl, rfl, q _ k ?_⟩
  show (((((σ.set j none).set i none).set i (some x)).set j (some y)).set j none).set i none = (σ.set j none).set i none
  rw [List.set_set, List.set_comm (some x) none hij, List.set_set]
  have e1 : ((σ.set j none).set i none).set j none = ((σ.set j none).set j none).set i none := List.set_comm none none hij
  have e2 : (σ.set j none).set j none = σ.set j none := List.set_set ..
  rw [e1, e2, List.set_set]
theorem gtw_pair {α β : Type} {T : α → S} {U : β → S} {K : PySem.W.Frag} {p : α × β} {i j : Nat} {ss : List Sl} (hij : i ≠ j) : GTw (gTup K 2 (gCons (gName i) (gCons (gName j) gNil))) (sPair T U p) [i, j] ss ((ss.set i (.val (T p.1))).set j (.val (U p.2))) := gtw_tup2 hij

/-! ### comprehensions over what is walked -/
structure LcG (X : Cx) (ss : List Sl) (elt tg iter : Expr) (ifs : List Expr) (scope : Scope) (g : TG) (vs : List Nat) (o : O) : Prop where
  go : ∀ (B : Bs) (F H : Hp) (σ : L2.St), Sat B F H σ ss → ∀ Q : VK,
    (∀ p F' H' k, Grow F H F' H' → (∀ a ob, k a = some ob → H a = none ∧ (F' a = none ∨ IsT ob) ∧ H' a = some ob) → o.r F' k p → Q (.ref p) H') → tLc (wpI X tg iter) g (ttB X scope ifs) (teB X scope elt) vs σ H Q
section
variable {X : Cx} {ss : List Sl} {e c elt tg iter : Expr} {ifs : List Expr} {scope : Scope} {α β : Type} {T : α → S} {U : β → S} {xs : List α} {s : S} {o : O} {pos : Pos} {g : TG} {vs : List Nat}
theorem grow_none {F H F' H' : Hp} (g : Grow F H F' H') {D : Addr} {o : HO} (n : F D = none) (h : H D = some o) (nt : ¬ IsT o) : F' D = none := by
  cases q : F' D with
  | none => rfl
  | some o' =>
    exfalso
    rcases g.n D o' q n with z | z
    · rw [h] at z
      cases z
    · have e1 := g.s D o' q
      rw [g.h.k _ _ (g.s.n D o' q) h] at e1
      cases e1
      exact nt z
theorem lcg_step {B : Bs} {F1 H1 : Hp} {σ : L2.St} {D : Addr} {b : Bool} {y : β} {r0 r1 : List β} {v : V} {H H' F' : Hp} {ss' : List Sl} (h1 : Sat B F1 H1 σ ss) (nD : H1 D = none) (hg : GTw g s vs ss ss') (ht : BlkT X scope ss' ifs b) (he : b = true → BlkE X scope ss' elt (sv (U y)))
    (hr : r1 = if b = true then r0 ++ [y] else r0) (hl : r0.length < sizeLine) {F : Hp} {acc : List V} (gg : Grow F1 H1 F H) (fD : F D = none) (hD : H D = some (.lst acc)) (hi : Its U F r0 acc) (g' : Grow F H F' H') (r : s.r F' v) :
    g v (wipe σ vs) H' fun σ2 H2 => wipe σ2 vs = wipe σ vs ∧ ttB X scope ifs σ2 H2 fun b H3 =>
      if b = true then teB X scope elt σ2 H3 fun y H4 => ∃ acc, H4 D = some (.lst acc) ∧ acc.length < sizeLine ∧ LcPv U F1 H1 D r1 (upd H4 D (.lst (acc ++ [y]))) else LcPv U F1 H1 D r1 H3 := by
  have nt : ∀ l, ¬ IsT (.lst l) := fun _ z => z
  have fD0 := grow_none g' fD hD (nt _)
  have gA := gg.trans g'
  have hD0 := g'.h.c hD
  refine hg B F' H' σ v _ (h1.grow gA) r fun σ2 hs2 hw => ⟨hw, fun s0 H0 C cl fp => (ht s0 H0 C cl fp).go B F' H' _ hs2 _ fun F2 H2 g2 => ?_⟩
  have fD2 := grow_none g2 fD0 hD0 (nt _)
  cases b with
  | false =>
    rw [if_neg Bool.false_ne_true] at hr ⊢
    subst hr
    exact ⟨F2, acc, gA.trans g2, fD2, g2.h.c hD0, (hi.mono g'.f).mono g2.f⟩
  | true =>
    rw [if_pos rfl] at hr ⊢
    subst hr
    refine fun s0 H0 C cl fp => (he rfl s0 H0 C cl fp).go B F2 H2 _ (hs2.grow g2) _ fun u F3 H3 g3 ru => ?_
    have g4 := (gA.trans g2).trans g3
    have fD3 := grow_none g3 fD2 (g2.h.c hD0) (nt _)
    refine ⟨acc, g3.h.c (g2.h.c hD0), by rw [hi.len]; exact hl, F3, acc ++ [u], ⟨g4.f, g4.h.put nD (g3.h.c (g2.h.c hD0)), g4.s.put fD3 (g3.h.c (g2.h.c hD0)), g4.n⟩, fD3, upd_same, (((hi.mono g'.f).mono g2.f).mono g3.f).snoc ru⟩
theorem lc_any {b : Bool} (st : α → List Sl) (p : α → Bool) (f : α → β) (hi : EvI b X ss tg iter T xs) (hl : xs.length ≤ sizeLine) (hg : ∀ x, GTw g (T x) vs ss (st x))
    (ht : ∀ (i : Nat) x, xs[i]? = some x → BlkT X scope (st x) ifs (p x)) (he : ∀ (i : Nat) x, xs[i]? = some x → p x = true → BlkE X scope (st x) elt (sv (U (f x)))) :
    LcG X ss elt tg iter ifs scope g vs (oLst U ((xs.filter p).map f)) := .mk fun B F H σ h Q q => by
  refine hi.any.go B F H σ h _ fun J F1 H1 G Y g1 w hG hY => fun D nD => ?_
  have h1 := h.grow g1
  refine lc_it w (fun i H' => LcPv U F1 H1 D (((xs.take i).filter p).map f) H') (lcpv_0 g1.s nD) (fun i H' _ ⟨F', acc, gg, _⟩ => hG F' H' gg.f gg.s fun _ => gg.h) (fun i v H2 H3 hin hP y => ?_) fun H' hP => ?_
  · obtain ⟨F2, acc, gg, fD, hD, hi'⟩ := hP
    obtain ⟨F3, x, g3, hx, rx⟩ := hY i F2 H2 v H3 hin gg.f gg.s (fun _ => gg.h) y
    refine lcg_step h1 nD (hg x) (ht i x hx) (fun b => he i x hx b) (filter_take hx) ?_ gg fD hD hi' g3 rx
    rw [List.length_map]
    refine Nat.lt_of_le_of_lt (List.length_filter_le _ _) ?_
    rw [List.length_take]
    omega
  · obtain ⟨F', acc, gg, fD, hD, hi'⟩ := hP
    rw [List.take_length] at hi'
    exact q D F' H' (hp1 D (.lst acc)) (g1.trans gg) (fun a ob ea => by
      obtain ⟨rfl, rfl⟩ := hp1_some ea
      exact ⟨g1.h.free nD, .inl fD, hD⟩) ⟨acc, hp1_same, hi'⟩
/-- .. without a test -/
theorem lc_anyT {b : Bool} (st : α → List Sl) (f : α → β) (hi : EvI b X ss tg iter T xs) (hl : xs.length ≤ sizeLine) (hg : ∀ x, GTw g (T x) vs ss (st x))
    (he : ∀ (i : Nat) x, xs[i]? = some x → BlkE X scope (st x) elt (sv (U (f x)))) :
    LcG X ss elt tg iter [] scope g vs (oLst U (xs.map f)) := by
  have h := lc_any (U := U) (scope := scope) (ifs := []) (elt := elt) st (fun _ => true) f hi hl hg (fun i x hx => bt_nil) (fun i x hx _ => he i x hx)
  rw [filt_true] at h
  exact h
theorem ev_lcg {own : List (Str × Nat)} (hc : X.calm = true) (hN : X.N.Nodup) (h : LcG X ss elt tg iter ifs scope g (own.map (·.2)) o) (ok : blkC X.N X.env.scope scope own = true)
    (hg : ∀ (s : Shared) (H : Hp) (C : Addr) (cl : List (Str × Addr)) (fp : List Addr), PG (X.blk s H scope (compEnvC scope cl C X.env) fp) tg g)
    (hs : ∀ x, foldedSetIterable iter X.env x = pure x := by intro _; rfl) : EvN X ss (.ListComp elt [⟨tg, iter, ifs, 0⟩] scope pos) o := .mk fun B F H σ hS Q q =>
  toE (pe_lc (own := own) (g := g) (tt := ttB X scope ifs) (te := teB X scope elt) hc hN PIw (blkOk_by ok) hg PTsb PEb hs) (h.go B F H σ hS Q q)
theorem s_asgLcg {own : List (Str × Nat)} {y : Str} {py spos : Pos} {D : Ds} (i : Nat) (hc : X.calm = true) (hN : X.N.Nodup) (h : LcG X ss elt tg iter ifs scope g (own.map (·.2)) o) (ok : blkC X.N X.env.scope scope own = true)
    (hg : ∀ (s : Shared) (H : Hp) (C : Addr) (cl : List (Str × Addr)) (fp : List Addr), PG (X.blk s H scope (compEnvC scope cl C X.env) fp) tg g)
    (k : D.nx (ss.set i (.own o))) (hy : X.N[i]? = some y := by rfl) (hyl : X.env.scope.names.lookup y = some .local := by rfl)
    (hsw : swapsWith (.ListComp elt [⟨tg, iter, ifs, 0⟩] scope pos) (some (.Name y py)) spos.line X.env = pure true := by exact sw_true rfl rfl rfl (by decide +kernel))
    (hs : ∀ x, foldedSetIterable iter X.env x = pure x := by intro _; rfl) : EvS X ss (.Assign [.Name y py] (.ListComp elt [⟨tg, iter, ifs, 0⟩] scope pos) spos) D := .mk fun B F H σ hS tk =>
  toS (ps_setLc (i := i) (own := own) (g := g) (tt := ttB X scope ifs) (te := teB X scope elt) hc hN hy hyl hsw PIw (blkOk_by ok) hg PTsb PEb hs)
    (h.go B F H σ hS _ fun p F' H' c g n r => ⟨F', _, hS.setO g n r, k⟩)
end

/-! ### for over what is walked -/
section
variable {X : Cx} {ss : List Sl} {e tg iter : Expr} {body : List Stmt} {D : Ds} {s : S} {α : Type} {T : α → S} {xs : List α} {pos p : Pos} {g : TG}
theorem s_forI (st : α → List Sl → List Sl) (hp : PassesOwn (model X.prog X.w) X.A X.env X.xe) (hc : X.calm = true) (hg : PG X tg g) (hst : ∀ x, GTo g (T x) (st x)) (I : Nat → List Sl → Prop) (hi : EvI false X ss tg iter T xs) (h0 : I 0 ss)
    (hs : ∀ k (y : α) ss', xs[k]? = some y → I k ss' → EvSs X (st y ss') body { D with nx := I (k + 1), ct := I (k + 1), bk := D.nx }) (hd : ∀ ss', I xs.length ss' → D.nx ss') (hfs : ∀ x, foldedSetIterable iter X.env x = pure x := by intro _; rfl) :
    EvS X ss (.For tg iter body [] pos) D := .mk fun B F H σ h tk => by
  intro pins sh inv
  refine (toS (ps_for hp hc (PIw) hg PSsw hfs) (D := dn B D) (σ := σ) (H := H) ?_) pins sh inv
  refine hi.go B F H σ h _ fun J F1 H1 G Y g1 w hG hY => ?_
  have h1 := h.grow g1
  refine for_it w (fun i σ' H' => ∃ F' ss', Sat ⟨F1, B.H⟩ F' H' σ' ss' ∧ I i ss') ⟨F1, ss, sat_lift h1, h0⟩ (fun i σ' H' _ ⟨F', ss', hs', _⟩ => hG F' H' hs'.g.f hs'.s fun z => by cases z) (fun i x σ' H' H'' hin hP y => ?_) fun σ' H' ⟨F', ss', hs', hI⟩ => ⟨F', ss', sat_base h1 hs', hd ss' hI⟩
  obtain ⟨F', ss', hs', hI⟩ := hP
  obtain ⟨F3, z, g3, hz, rz⟩ := hY i F' H' x H'' hin hs'.g.f hs'.s (fun z => by cases z) y
  refine hst z ⟨F1, B.H⟩ F3 H'' σ' ss' x _ (hs'.grow g3) rz fun σ2 hs2 => ?_
  exact wpSs_mono (hs i z ss' hz hI ⟨F1, B.H⟩ F3 H'' _ hs2 (tk.lift h1.g)) (fun _ _ q => q) (fun v H z => RtP.base h1.g z) (fun _ _ ⟨F2, s2, g2, q2⟩ => ⟨F2, s2, sat_base h1 g2, q2⟩) (fun _ _ q => q)
end
end Sx
/-! zip and enumerate of lists and tuples in any mix -/
namespace Sx
variable [Tbs]
open PySem
def sqN : Bool → String
  | true => "list"
  | false => "tuple"
def itN (b : Bool) : String := sqN b ++ "_iterator"
/-- an iterator of a list (true), of a tuple (false) -/
def SqI (b : Bool) (h : Heap) (it l : Addr) (i : Nat) : Prop := ∃ o, h.get? it = some o ∧ o.cls = .type (itN b) ∧ o.data = .fields #[.ref l, .int i 0]
def SqA (b : Bool) (h : Heap) (l : Addr) (xs : Array Value) : Prop := ∃ o, h.get? l = some o ∧ o.cls = .type (sqN b) ∧ ∃ n, o.data = .seq xs n
theorem SqI.at {b : Bool} {h h' : Heap} {it l : Addr} {i : Nat} (x : SqI b h it l i) (e : ∀ o, h.get? it = some o → h'.get? it = some o) : SqI b h' it l i := let ⟨o, ho, r⟩ := x; ⟨o, e o ho, r⟩
theorem SqA.at {b : Bool} {h h' : Heap} {l : Addr} {xs : Array Value} (x : SqA b h l xs) (e : ∀ o, h.get? l = some o → h'.get? l = some o) : SqA b h' l xs := let ⟨o, ho, r⟩ := x; ⟨o, e o ho, r⟩
theorem SqI.ext {b : Bool} {h h' : Heap} {it l c : Addr} {i : Nat} (x : SqI b h it l i) (hs : Heap.ExtBut c h h') (n : it ≠ c) : SqI b h' it l i := x.at fun o e => hs _ _ n e
theorem SqA.ext {b : Bool} {h h' : Heap} {l c : Addr} {xs : Array Value} (x : SqA b h l xs) (hs : Heap.ExtBut c h h') (n : l ≠ c) : SqA b h' l xs := x.at fun o e => hs _ _ n e
theorem SqI.lt {b : Bool} {h : Heap} {it l : Addr} {i : Nat} (x : SqI b h it l i) : it < h.objs.size := let ⟨_, e, _⟩ := x; Heap.lt_size e
theorem SqA.lt {b : Bool} {h : Heap} {l : Addr} {xs : Array Value} (x : SqA b h l xs) : l < h.objs.size := let ⟨_, e, _⟩ := x; Heap.lt_size e
section
variable {prog : Program} {w : World} {A : Around} {E : Value → Shared → Prop} {s : Shared}
theorem nx_item {b : Bool} {it l : Addr} {i : Nat} {xs : Array Value} {x : Value} {Q : Value → Shared → Prop} (st : SqI b s.heap it l i) (hl : SqA b s.heap l xs) (hx : xs[i]? = some x)
    (q : ∀ h', SqI b h' it l (i + 1) → Heap.SameBut it s.heap h' → Q x { s with heap := h' }) : wpAny (model prog w) A (Builtin.SmallTypes.nextOf (.ref it)) Q E s := by
  cases b with
  | true => exact wpAny_nextOf_list_item (show s.heap.IsListIter it l i from st) (show s.heap.IsList l xs from hl) hx fun h' a c => q h' a c
  | false => exact RZ.nextOf_tuple_item (show s.heap.IsTupleIter it l i from st) (show s.heap.IsTuple l xs from hl) hx fun h' a c => q h' a c
theorem nx_end {b : Bool} {it l : Addr} {i : Nat} {xs : Array Value} {Q : Value → Shared → Prop} (hh : A.handled = none) (st : SqI b s.heap it l i) (hl : SqA b s.heap l xs) (hx : xs[i]? = none)
    (q : ∀ h' e, Heap.ExtBut it s.heap h' → (∃ o, h'.get? e = some o ∧ o.cls = .type "StopIteration") → E (.ref e) { s with heap := h' }) : wpAny (model prog w) A (Builtin.SmallTypes.nextOf (.ref it)) Q E s := by
  cases b with
  | true => exact wpAny_nextOf_list_end hh (show s.heap.IsListIter it l i from st) (show s.heap.IsList l xs from hl) hx q
  | false => exact RZ.nextOf_tuple_end hh (show s.heap.IsTupleIter it l i from st) (show s.heap.IsTuple l xs from hl) hx q

/-! #### zip -/
theorem zz_item {b1 b2 : Bool} {z TI TO i1 i2 l1 l2 : Addr} {m n : Nat} {xs ys : Array Value} {x y a b : Value} {Q : Value → Shared → Prop} (D : ZipApart z TI TO i1 i2 l1 l2)
    (hz : IsZip s.heap z TI TO .none) (hI : IsPair s.heap TI (.ref i1) (.ref i2)) (hO : IsPair s.heap TO a b)
    (u1 : SqI b1 s.heap i1 l1 m) (u2 : SqI b2 s.heap i2 l2 n) (w1 : SqA b1 s.heap l1 xs) (w2 : SqA b2 s.heap l2 ys) (hx : xs[m]? = some x) (hy : ys[n]? = some y)
    (q : ∀ h', IsZip h' z TI TO (rawInt s.heap.objs.size) → IsPair h' TO x y → SqI b1 h' i1 l1 (m + 1) → SqI b2 h' i2 l2 (n + 1) → IsPair h' s.heap.objs.size x y → h'.objs.size = s.heap.objs.size + 1 →
      (∀ c o, c ≠ z → c ≠ TO → c ≠ i1 → c ≠ i2 → s.heap.get? c = some o → h'.get? c = some o) → Q (.ref s.heap.objs.size) { s with heap := h' }) :
    wpAny (model prog w) A (Builtin.«zip.__next__» ⟨[.ref z], []⟩) (fun fin s' => ∃ v, fin = .done (.ret v) ∧ Q v s') E s := by
  show wpAny _ _ (field (.ref z) 2 >>= _) _ _ _; refine wpAny_bind (wpAny_field hz rfl (x := .bool false) rfl ?_)
  show wpAny _ _ (field (.ref z) 3 >>= _) _ _ _; refine wpAny_bind (wpAny_field hz rfl (x := .ref TI) rfl (wpAny_bind (wpAny_seqItems hI rfl ?_)))
  show wpAny _ _ (Builtin.SmallTypes.ownedTupleIsFree (.ref z) >>= _) _ _ _; refine wpAny_bind ?_
  unfold Builtin.SmallTypes.ownedTupleIsFree
  refine wpAny_bind (wpAny_field hz rfl (x := .none) rfl (wpAny_pure ?_)); simp only [if_true]
  refine wpAny_bind (wpAny_rule (wpAny_bind (wpAny_field hz rfl (x := .ref TO) rfl (wpAny_bind (wpAny_setField_rec hz (by simp) fun j1 z1 s1 => ?_)))))
  replace z1 : IsZip j1 z TI TO .ellipsis := z1
  refine wpAny_bind ?_; simp only [List.zipIdx_cons, List.zipIdx_nil, List.forIn_cons, List.forIn_nil]
  refine wpAny_bind (wpAny_bind (wpAny_onRaise ?_))
  show wpAny _ _ (Builtin.SmallTypes.nextOf (.ref i1) >>= _) _ _ _; refine wpAny_bind (nx_item (u1.ext s1.extBut D.i1z) (w1.ext s1.extBut D.l1z) hx fun j2 v1 s2 => wpAny_pure ?_)
  have o2 : IsPair j2 TO a b := s2.extBut _ _ D.TOi1 (s1.extBut _ _ D.TOz hO)
  refine wpAny_bind (wpAny_seqItems o2 rfl (wpAny_bind (wpAny_updateSeq_pair o2 fun j3 o3 s3 => ?_)))
  replace o3 : IsPair j3 TO x b := o3
  refine wpAny_bind (wpAny_letGo (wpAny_pure ?_)); refine wpAny_bind (wpAny_bind (wpAny_onRaise ?_))
  show wpAny _ _ (Builtin.SmallTypes.nextOf (.ref i2) >>= _) _ _ _
  refine wpAny_bind (nx_item (((u2.ext s1.extBut D.i2z).ext s2.extBut D.i12.symm).ext s3.extBut D.TOi2.symm) (((w2.ext s1.extBut D.l2z).ext s2.extBut D.l2i1).ext s3.extBut D.l2TO) hy fun j4 v2 s4 => wpAny_pure ?_)
  have o4 : IsPair j4 TO x b := s4.extBut _ _ D.TOi2 o3
  refine wpAny_bind (wpAny_seqItems o4 rfl (wpAny_bind (wpAny_updateSeq_pair o4 fun j5 o5 s5 => ?_)))
  replace o5 : IsPair j5 TO x y := o5
  refine wpAny_bind (wpAny_letGo (wpAny_pure (wpAny_pure ?_))); refine wpAny_bind (wpAny_seqItems o5 rfl (wpAny_bind (wpAny_newTuple ?_)))
  have sz : j5.objs.size = s.heap.objs.size := by rw [s5.1, s4.1, s3.1, s2.1, s1.1]
  have z5 : IsZip j5 z TI TO .ellipsis := s5.extBut _ _ D.TOz.symm (s4.extBut _ _ D.i2z.symm (s3.extBut _ _ D.TOz.symm (s2.extBut _ _ D.i1z.symm z1)))
  have k5 : ∀ c o, c ≠ z → c ≠ TO → c ≠ i1 → c ≠ i2 → s.heap.get? c = some o → j5.get? c = some o := fun c o c1 c2 c3 c4 e => s5.extBut _ _ c2 (s4.extBut _ _ c4 (s3.extBut _ _ c2 (s2.extBut _ _ c3 (s1.extBut _ _ c1 e))))
  have v1' : SqI b1 j5 i1 l1 (m + 1) := ((v1.ext s3.extBut D.TOi1.symm).ext s4.extBut D.i12).ext s5.extBut D.TOi1.symm
  have v2' : SqI b2 j5 i2 l2 (n + 1) := v2.ext s5.extBut D.TOi2.symm
  have zl : z < j5.objs.size := Heap.lt_size z5
  show wpAny _ _ (Builtin.SmallTypes.ownedTupleHandOut (.ref z) (.ref j5.objs.size) >>= _) _ _ _; refine wpAny_bind ?_
  unfold Builtin.SmallTypes.ownedTupleHandOut
  have z6 : IsZip (j5.push { cls := .type "tuple", data := .seq #[x, y] }) z TI TO .ellipsis := Heap.get?_push_of_some _ z5
  refine wpAny_bind (wpAny_setField_rec z6 (by simp) fun j7 z7 s7 => ?_)
  replace z7 : IsZip j7 z TI TO (rawInt j5.objs.size) := z7
  refine wpAny_setField_rec z7 (by simp) fun j8 z8 s8 => ?_
  replace z8 : IsZip j8 z TI TO (rawInt j5.objs.size) := z8
  have up : ∀ c o, c ≠ z → j5.get? c = some o → j8.get? c = some o := fun c o c1 e => s8.extBut _ _ c1 (s7.extBut _ _ c1 (Heap.get?_push_of_some _ e))
  have t8 : IsPair j8 j5.objs.size x y := s8.extBut _ _ (Nat.ne_of_gt zl) (s7.extBut _ _ (Nat.ne_of_gt zl) (Heap.get?_push_size _ rfl))
  have n8 : j8.objs.size = j5.objs.size + 1 := by rw [s8.1, s7.1, Heap.size_push]
  rw [sz] at z8 t8 n8
  refine wpAny_pure ⟨_, rfl, ?_⟩; show Q (.ref j5.objs.size) _; rw [sz]
  exact q j8 z8 (up _ _ D.TOz o5) (v1'.at fun o e => up _ o D.i1z e) (v2'.at fun o e => up _ o D.i2z e) t8 n8 fun c o c1 c2 c3 c4 e => up c o c1 (k5 c o c1 c2 c3 c4 e)
theorem zz_end {b1 b2 : Bool} {z TI TO i1 i2 l1 l2 : Addr} {m n : Nat} {xs ys : Array Value} {a b : Value} {Q : Fin → Shared → Prop} (hh : A.handled = none) (D : ZipApart z TI TO i1 i2 l1 l2)
    (hz : IsZip s.heap z TI TO .none) (hI : IsPair s.heap TI (.ref i1) (.ref i2)) (hO : IsPair s.heap TO a b)
    (u1 : SqI b1 s.heap i1 l1 m) (u2 : SqI b2 s.heap i2 l2 n) (w1 : SqA b1 s.heap l1 xs) (w2 : SqA b2 s.heap l2 ys) (hend : xs[m]? = none ∨ ys[n]? = none)
    (q : ∀ h' e, (∀ c o, c ≠ z → c ≠ TO → c ≠ i1 → c ≠ i2 → s.heap.get? c = some o → h'.get? c = some o) → (∃ o, h'.get? e = some o ∧ o.cls = .type "StopIteration") → E (.ref e) { s with heap := h' }) :
    wpAny (model prog w) A (Builtin.«zip.__next__» ⟨[.ref z], []⟩) Q E s := by
  show wpAny _ _ (field (.ref z) 2 >>= _) _ _ _; refine wpAny_bind (wpAny_field hz rfl (x := .bool false) rfl ?_)
  show wpAny _ _ (field (.ref z) 3 >>= _) _ _ _; refine wpAny_bind (wpAny_field hz rfl (x := .ref TI) rfl (wpAny_bind (wpAny_seqItems hI rfl ?_)))
  show wpAny _ _ (Builtin.SmallTypes.ownedTupleIsFree (.ref z) >>= _) _ _ _; refine wpAny_bind ?_
  unfold Builtin.SmallTypes.ownedTupleIsFree
  refine wpAny_bind (wpAny_field hz rfl (x := .none) rfl (wpAny_pure ?_)); simp only [if_true]
  refine wpAny_bind (wpAny_rule (wpAny_bind (wpAny_field hz rfl (x := .ref TO) rfl (wpAny_bind (wpAny_setField_rec hz (by simp) fun j1 z1 s1 => ?_)))))
  replace z1 : IsZip j1 z TI TO .ellipsis := z1
  refine wpAny_bind ?_; simp only [List.zipIdx_cons, List.zipIdx_nil, List.forIn_cons, List.forIn_nil]
  refine wpAny_bind (wpAny_bind (wpAny_onRaise ?_)); show wpAny _ _ (Builtin.SmallTypes.nextOf (.ref i1) >>= _) _ _ _
  cases hx : xs[m]? with
  | none =>
    refine wpAny_bind (nx_end hh (u1.ext s1.extBut D.i1z) (w1.ext s1.extBut D.l1z) hx fun j2 e s2 he => ?_)
    obtain ⟨oe, f1, f2⟩ := he
    have z2 : IsZip j2 z TI TO .ellipsis := s2 _ _ D.i1z.symm z1
    have ez : e ≠ z := fun x => by subst x; rw [z2] at f1; cases f1; simp at f2
    refine wpAny_setField_rec z2 (by simp) fun j3 _ s3 => q j3 e (fun c o c1 _ c3 _ x => s3.extBut _ _ c1 (s2 _ _ c3 (s1.extBut _ _ c1 x))) ⟨oe, s3.extBut _ _ ez f1, f2⟩
  | some x =>
    have hy : ys[n]? = none := by rcases hend with h | h; rw [hx] at h; cases h; exact h
    refine wpAny_bind (nx_item (u1.ext s1.extBut D.i1z) (w1.ext s1.extBut D.l1z) hx fun j2 v1 s2 => wpAny_pure ?_)
    have o2 : IsPair j2 TO a b := s2.extBut _ _ D.TOi1 (s1.extBut _ _ D.TOz hO)
    refine wpAny_bind (wpAny_seqItems o2 rfl (wpAny_bind (wpAny_updateSeq_pair o2 fun j3 o3 s3 => ?_)))
    refine wpAny_bind (wpAny_letGo (wpAny_pure ?_)); refine wpAny_bind (wpAny_bind (wpAny_onRaise ?_))
    show wpAny _ _ (Builtin.SmallTypes.nextOf (.ref i2) >>= _) _ _ _
    refine wpAny_bind (nx_end hh (((u2.ext s1.extBut D.i2z).ext s2.extBut D.i12.symm).ext s3.extBut D.TOi2.symm) (((w2.ext s1.extBut D.l2z).ext s2.extBut D.l2i1).ext s3.extBut D.l2TO) hy fun j4 e s4 he => ?_)
    obtain ⟨oe, f1, f2⟩ := he
    have z4 : IsZip j4 z TI TO .ellipsis := s4 _ _ D.i2z.symm (s3.extBut _ _ D.TOz.symm (s2.extBut _ _ D.i1z.symm z1))
    have ez : e ≠ z := fun x => by subst x; rw [z4] at f1; cases f1; simp at f2
    refine wpAny_setField_rec z4 (by simp) fun j5 _ s5 => q j5 e (fun c o c1 c2 c3 c4 x => s5.extBut _ _ c1 (s4 _ _ c4 (s3.extBut _ _ c2 (s2.extBut _ _ c3 (s1.extBut _ _ c1 x))))) ⟨oe, s5.extBut _ _ ez f1, f2⟩
theorem zz_next {b1 b2 : Bool} {z TI TO i1 i2 l1 l2 : Addr} {m n : Nat} {xs ys : Array Value} {x y a b : Value} {Q : Option Value → Shared → Prop} (D : ZipApart z TI TO i1 i2 l1 l2)
    (hz : IsZip s.heap z TI TO .none) (hI : IsPair s.heap TI (.ref i1) (.ref i2)) (hO : IsPair s.heap TO a b)
    (u1 : SqI b1 s.heap i1 l1 m) (u2 : SqI b2 s.heap i2 l2 n) (w1 : SqA b1 s.heap l1 xs) (w2 : SqA b2 s.heap l2 ys) (hx : xs[m]? = some x) (hy : ys[n]? = some y)
    (q : ∀ h', IsZip h' z TI TO (rawInt s.heap.objs.size) → IsPair h' TO x y → SqI b1 h' i1 l1 (m + 1) → SqI b2 h' i2 l2 (n + 1) → IsPair h' s.heap.objs.size x y → h'.objs.size = s.heap.objs.size + 1 →
      (∀ c o, c ≠ z → c ≠ TO → c ≠ i1 → c ≠ i2 → s.heap.get? c = some o → h'.get? c = some o) → Q (some (.ref s.heap.objs.size)) { s with heap := h' }) : wpAny (model prog w) A (pyNext (.ref z)) Q E s := by
  have hT : s.TypeIs (.ref z) "zip" := ⟨_, hz, rfl⟩
  unfold pyNext
  exact wpAny_bind (wpAny_attempt (wpAny_callSpecial?_slot (name := Str.ofString "__next__") hT F.slot_zip_next (wpAny_call_entry F.slot_zip_next hT F.entry_zip_next
    (zz_item D hz hI hO u1 u2 w1 w2 hx hy fun h' a1 a2 a3 a4 a5 a6 a7 => wpAny_pure (q h' a1 a2 a3 a4 a5 a6 a7)) (F.args_zip_next_1 _))))
theorem zz_stop {b1 b2 : Bool} {z TI TO i1 i2 l1 l2 : Addr} {m n : Nat} {xs ys : Array Value} {a b : Value} {Q : Option Value → Shared → Prop} (hh : A.handled = none) (D : ZipApart z TI TO i1 i2 l1 l2)
    (hz : IsZip s.heap z TI TO .none) (hI : IsPair s.heap TI (.ref i1) (.ref i2)) (hO : IsPair s.heap TO a b)
    (u1 : SqI b1 s.heap i1 l1 m) (u2 : SqI b2 s.heap i2 l2 n) (w1 : SqA b1 s.heap l1 xs) (w2 : SqA b2 s.heap l2 ys) (hend : xs[m]? = none ∨ ys[n]? = none)
    (q : ∀ h', (∀ c o, c ≠ z → c ≠ TO → c ≠ i1 → c ≠ i2 → s.heap.get? c = some o → h'.get? c = some o) → Q none { s with heap := h' }) : wpAny (model prog w) A (pyNext (.ref z)) Q E s := by
  have hT : s.TypeIs (.ref z) "zip" := ⟨_, hz, rfl⟩
  unfold pyNext
  refine wpAny_bind (wpAny_attempt (wpAny_callSpecial?_slot (name := Str.ofString "__next__") hT F.slot_zip_next (wpAny_call_entry F.slot_zip_next hT F.entry_zip_next
    (zz_end hh D hz hI hO u1 u2 w1 w2 hend fun h' e hk he => ?_) (F.args_zip_next_1 _))))
  obtain ⟨o, ho, hc⟩ := he
  exact wpAny_bind (wpAny_isInstance (T := "StopIteration") (b := true) ⟨o, ho, hc⟩ isSubtype_stop (wpAny_pure (q _ hk)))
end
def itO (b : Bool) (l : Addr) : Obj := { cls := .type (itN b), data := .fields #[.ref l, .int 0 0] }
def zzH1 (b : Bool) (h : Heap) (l : Addr) : Heap := h.push (itO b l)
def zzH (b1 b2 : Bool) (h : Heap) (l1 l2 : Addr) : Heap :=
  ((((zzH1 b1 h l1).push (itO b2 l2)).push { cls := .type "tuple", data := .seq #[.ref h.objs.size, .ref (zzH1 b1 h l1).objs.size] }).push { cls := .type "tuple", data := .seq #[.none, .none] }).push
    { cls := .type "zip", data := .fields #[.none, .bool false, .bool false, .ref ((zzH1 b1 h l1).push (itO b2 l2)).objs.size, .ref (((zzH1 b1 h l1).push (itO b2 l2)).push { cls := .type "tuple", data := .seq #[.ref h.objs.size, .ref (zzH1 b1 h l1).objs.size] }).objs.size] }
theorem zz_new (b1 : Bool) (l1 l2 : Addr) (xs ys : Array Value) :
    Meets (Builtin.«zip.__new__» ⟨[.type "zip", .ref l1, .ref l2], []⟩) (fun _ R s => SqA b1 s.heap l1 xs ∧ SqA false s.heap l2 ys ∧
      R (.ok (.ret (.ref ((((zzH1 b1 s.heap l1).push (itO false l2)).push { cls := .type "tuple", data := .seq #[.ref s.heap.objs.size, .ref (zzH1 b1 s.heap l1).objs.size] }).push { cls := .type "tuple", data := .seq #[.none, .none] }).objs.size))) { s with heap := zzH b1 false s.heap l1 l2 }) :=
  .of_wp fun prog w A R s h => by
    obtain ⟨hp, g, d, tk, os⟩ := s; obtain ⟨w1, w2, h⟩ := h
    have hsub := sub_zip
    have w2' : SqA false (Shared.heap ⟨hp.push (itO b1 l1), g, d, tk, os⟩) l2 ys := SqA.at (h := hp) w2 fun o e => Heap.get?_push_of_some _ e
    cases b1
    · have L1 : Heap.IsTuple (Shared.heap ⟨hp, g, d, tk, os⟩) l1 xs := w1
      have L2 : Heap.IsTuple (Shared.heap ⟨hp.push { cls := .type "tuple_iterator", data := .fields #[.ref l1, .int 0 0] }, g, d, tk, os⟩) l2 ys := w2'
      wp_walk using wpAny_pyIter_tuple L1, wpAny_pyIter_tuple L2
      exact ⟨_, rfl, h⟩
    · have L1 : Heap.IsList (Shared.heap ⟨hp, g, d, tk, os⟩) l1 xs := w1
      have L2 : Heap.IsTuple (Shared.heap ⟨hp.push { cls := .type "list_iterator", data := .fields #[.ref l1, .int 0 0] }, g, d, tk, os⟩) l2 ys := w2'
      wp_walk using wpAny_pyIter_list L1, wpAny_pyIter_tuple L2
      exact ⟨_, rfl, h⟩
section
variable {prog : Program} {w : World} {A : Around} {E : Value → Shared → Prop} {s : Shared}
theorem zz_call {b1 : Bool} {l1 l2 : Addr} {xs ys : Array Value} {Q : Value → Shared → Prop} (w1 : SqA b1 s.heap l1 xs) (w2 : SqA false s.heap l2 ys)
    (q : ∀ h', IsZip h' (s.heap.objs.size + 4) (s.heap.objs.size + 2) (s.heap.objs.size + 3) .none → IsPair h' (s.heap.objs.size + 2) (.ref s.heap.objs.size) (.ref (s.heap.objs.size + 1)) →
      IsPair h' (s.heap.objs.size + 3) .none .none → SqI b1 h' s.heap.objs.size l1 0 → SqI false h' (s.heap.objs.size + 1) l2 0 →
      (∀ c o, s.heap.get? c = some o → h'.get? c = some o) → Q (.ref (s.heap.objs.size + 4)) { s with heap := h' }) :
    wpAny (model prog w) A (call (.type "zip") [.ref l1, .ref l2]) Q E s := by
  refine callType_new F.called_zip (by decide) (F.typeCall_zip_2 _ _) (F.newCall_zip_2 _ _) (fun obj => F.args_object_init_3 obj _ _) F.entry_zip_new (zz_new b1 l1 l2 xs ys) ⟨w1, w2, ?_⟩
  have n1 : (zzH1 b1 s.heap l1).objs.size = s.heap.objs.size + 1 := Heap.size_push ..
  generalize ha : zzH1 b1 s.heap l1 = A1 at n1
  have n2 : (A1.push (itO false l2)).objs.size = s.heap.objs.size + 2 := by rw [Heap.size_push, n1]
  generalize hb : A1.push (itO false l2) = A2 at n2
  have n3 : (A2.push { cls := .type "tuple", data := .seq #[.ref s.heap.objs.size, .ref A1.objs.size] }).objs.size = s.heap.objs.size + 3 := by rw [Heap.size_push, n2]
  generalize hc : A2.push { cls := .type "tuple", data := .seq #[.ref s.heap.objs.size, .ref A1.objs.size] } = A3 at n3
  have n4 : (A3.push { cls := .type "tuple", data := .seq #[.none, .none] }).objs.size = s.heap.objs.size + 4 := by rw [Heap.size_push, n3]
  generalize hd : A3.push { cls := .type "tuple", data := .seq #[.none, .none] } = A4 at n4
  have eH : zzH b1 false s.heap l1 l2 = A4.push { cls := .type "zip", data := .fields #[.none, .bool false, .bool false, .ref A2.objs.size, .ref A3.objs.size] } := by
    unfold zzH
    rw [ha, hb, hc, hd]
  rw [eH, n2, n3, n4]
  have up5 : ∀ c o, A4.get? c = some o → (A4.push { cls := .type "zip", data := .fields #[.none, .bool false, .bool false, .ref (s.heap.objs.size + 2), .ref (s.heap.objs.size + 3)] }).get? c = some o := fun c o e => Heap.get?_push_of_some _ e
  have up4 : ∀ c o, A3.get? c = some o → A4.get? c = some o := fun c o e => by rw [← hd]; exact Heap.get?_push_of_some _ e
  have up3 : ∀ c o, A2.get? c = some o → A3.get? c = some o := fun c o e => by rw [← hc]; exact Heap.get?_push_of_some _ e
  have up2 : ∀ c o, A1.get? c = some o → A2.get? c = some o := fun c o e => by rw [← hb]; exact Heap.get?_push_of_some _ e
  have up1 : ∀ c o, s.heap.get? c = some o → A1.get? c = some o := fun c o e => by rw [← ha]; exact Heap.get?_push_of_some _ e
  have g5 : IsZip (A4.push { cls := .type "zip", data := .fields #[.none, .bool false, .bool false, .ref (s.heap.objs.size + 2), .ref (s.heap.objs.size + 3)] }) (s.heap.objs.size + 4) (s.heap.objs.size + 2) (s.heap.objs.size + 3) .none := by
    have := Heap.get?_push_size A4 (o := { cls := .type "zip", data := .fields #[.none, .bool false, .bool false, .ref (s.heap.objs.size + 2), .ref (s.heap.objs.size + 3)] }) rfl
    rwa [n4] at this
  have g4 : IsPair A4 (s.heap.objs.size + 3) .none .none := by rw [← n3, ← hd]; exact Heap.get?_push_size _ rfl
  have g3 : IsPair A3 (s.heap.objs.size + 2) (.ref s.heap.objs.size) (.ref A1.objs.size) := by rw [← n2, ← hc]; exact Heap.get?_push_size _ rfl
  rw [n1] at g3
  have g2 : A2.get? (s.heap.objs.size + 1) = some (itO false l2) := by rw [← n1, ← hb]; exact Heap.get?_push_size _ rfl
  have g1 : A1.get? s.heap.objs.size = some (itO b1 l1) := by rw [← ha]; exact Heap.get?_push_size _ rfl
  refine ⟨⟨_, g5, rfl⟩, ?_⟩
  exact q _ g5 (up5 _ _ (up4 _ _ g3)) (up5 _ _ g4) ⟨_, up5 _ _ (up4 _ _ (up3 _ _ (up2 _ _ g1))), rfl, rfl⟩ ⟨_, up5 _ _ (up4 _ _ (up3 _ _ g2)), rfl, rfl⟩ fun c o e => up5 _ _ (up4 _ _ (up3 _ _ (up2 _ _ (up1 _ _ e))))
end
end Sx
namespace Sx
variable [Tbs]
open PySem PySem.Spec PyProof.Rows L2

def SqB (b : Bool) (K : PySem.W.Frag) (H : Hp) (a : Addr) (xs : List V) : Prop := match b with
  | true => SqL K H a xs
  | false => SqT K H a xs
theorem SqB.same {b : Bool} {K : PySem.W.Frag} {H H' : Hp} {a : Addr} {xs : List V} (e : Same H H') (h : SqB b K H a xs) : SqB b K H' a xs := by
  cases b with
  | true => exact SqL.same e h
  | false => exact SqT.same e h
section
variable {X : Cx} {pins : List (Addr × Obj)} {σ : L2.St} {H : Hp} {s : Shared} {b : Bool} {a : Addr} {xs ys : List V}
theorem sqb_at (I : L2.Inv X pins σ H s) (q : SqB b X.K H a xs) : ∃ its : List Value, Vals xs its ∧ SqA b s.heap a its.toArray := by
  cases b with
  | true =>
    obtain ⟨its, rv, p, _⟩ := I.list q
    exact ⟨its, rv, p.isList⟩
  | false =>
    obtain ⟨its, rv, p, _⟩ := I.tuple q
    exact ⟨its, rv, p⟩
theorem sqb_inj (I : L2.Inv X pins σ H s) (p : SqB b X.K H a xs) (q : SqB b X.K H a ys) : xs = ys := by
  cases b with
  | true => exact I.list_inj p q
  | false => exact I.tuple_inj p q
end
/-- the pairs of two at each turn -/
def Itq (K : PySem.W.Frag) (b1 b2 : Bool) (a b : Addr) : It where
  go := fun i H => ∃ (xs ys : List V) (x y : V), SqB b1 K H a xs ∧ SqB b2 K H b ys ∧ xs[i]? = some x ∧ ys[i]? = some y
  yld := fun i H v H' => ∃ T x y, v = .ref T ∧ H T = none ∧ H' = upd H T (.tup [x, y]) ∧ (∀ xs, SqB b1 K H a xs → xs[i]? = some x) ∧ ∀ ys, SqB b2 K H b ys → ys[i]? = some y
  stop := fun i H => ∃ xs ys : List V, SqB b1 K H a xs ∧ SqB b2 K H b ys ∧ (xs.length ≤ i ∨ ys.length ≤ i)
def ZzSt (b1 b2 : Bool) (z TI TO i1 i2 a b : Addr) (i : Nat) (h : Heap) : Prop := IsZip h z TI TO .none ∧ IsPair h TI (.ref i1) (.ref i2) ∧ (∃ x y, IsPair h TO x y) ∧ SqI b1 h i1 a i ∧ SqI b2 h i2 b i
theorem five {c z TI TO i1 i2 : Addr} (h : c ∈ [z, TI, TO, i1, i2]) : c = z ∨ c = TI ∨ c = TO ∨ c = i1 ∨ c = i2 := by simpa using h
theorem five_ne {c z TI TO i1 i2 : Addr} (h : c ∉ [z, TI, TO, i1, i2]) : c ≠ z ∧ c ≠ TI ∧ c ≠ TO ∧ c ≠ i1 ∧ c ≠ i2 := by simpa using h
theorem turn_zz {P : Program} {w : World} {K : PySem.W.Frag} {b1 b2 : Bool} {es : List Expr} {n : Nat} {tp : Pos} {a b z TI TO i1 i2 : Addr} (D : ZipApart z TI TO i1 i2 a b) : Turn P w K (.Tuple es n tp) (Itq K b1 b2 a b) [z, TI, TO, i1, i2] z (ZzSt b1 b2 z TI TO i1 i2 a b) where
  mem := List.mem_cons_self
  obj := fun i h ⟨hz, hI, ⟨x, y, hO⟩, ⟨o1, e1, _, d1⟩, ⟨o2, e2, _, d2⟩⟩ c hc => by
    rcases five hc with rfl | rfl | rfl | rfl | rfl
    · exact ⟨_, hz, fun v q => nomatch q⟩
    · exact ⟨_, hI, fun v q => nomatch q⟩
    · exact ⟨_, hO, fun v q => nomatch q⟩
    · exact ⟨o1, e1, fun v q => by rw [d1] at q; cases q⟩
    · exact ⟨o2, e2, fun v q => by rw [d2] at q; cases q⟩
  keep := fun i h h' ⟨hz, hI, ⟨x, y, hO⟩, u1, u2⟩ k => ⟨k _ (by simp) _ hz, k _ (by simp) _ hI, ⟨x, y, k _ (by simp) _ hO⟩, u1.at fun o => k _ (by simp) o, u2.at fun o => k _ (by simp) o⟩
  item := by
    rintro X rfl rfl rfl hc i pins s σ H E I hf ⟨hz, hI, ⟨x0, y0, hO⟩, u1, u2⟩ ⟨xs, ys, x, y, qx, qy, hx, hy⟩
    obtain ⟨js, rv, w1⟩ := sqb_at I qx
    obtain ⟨ks, rv2, w2⟩ := sqb_at I qy
    obtain ⟨u, hu, ru⟩ := rv.get hx
    obtain ⟨u', hu', ru'⟩ := rv2.get hy
    refine zz_next D hz hI hO u1 u2 w1 w2 (x := u) (y := u') (by simpa using hu) (by simpa using hu') fun h' z' O' u1' u2' hT hsz hk => ?_
    refine ⟨_, rfl, wpAny_letOwnedTupleGo_zip (s := { s with heap := h' }) z' fun h2 z2 sb => ?_⟩
    have zl : z < s.heap.objs.size := Heap.lt_size hz
    have hT2 : IsPair h2 s.heap.objs.size u u' := (sb.2 _ (Nat.ne_of_gt zl)).trans hT
    have new : ObjOk X.prog X.w (upd H s.heap.objs.size (.tup [x, y])) h2 s.heap.objs.size (.tup [x, y]) := ⟨(by decide : 2 ≤ sizeLine), [u, u'], .cons ru (.cons ru' .nil), ⟨_, hT2, rfl, _, rfl⟩⟩
    have I1 : L2.Inv X pins σ (upd H s.heap.objs.size (.tup [x, y])) { s with heap := h2 } :=
      I.turnedNew (t' := s.toks) (ch := [z, TI, TO, i1, i2]) (fun c o hb q => let ⟨n1, _, n3, n4, n5⟩ := five_ne hb; (sb.2 c n1).trans (hk c o n1 n3 n4 n5 q)) hf (Nat.le_refl _) new
    refine ⟨.ref s.heap.objs.size, _, I1, rfl, ⟨_, x, y, rfl, I.hok.fresh (Nat.le_refl _), rfl, fun l hl => by rw [sqb_inj I hl qx]; exact hx, fun l hl => by rw [sqb_inj I hl qy]; exact hy⟩, ⟨z2, (sb.2 _ D.TIz).trans (hk _ _ D.TIz D.TITO D.TIi1 D.TIi2 hI), ⟨u, u', (sb.2 _ D.TOz).trans O'⟩, u1'.at fun o q => (sb.2 _ D.i1z).trans q, u2'.at fun o q => (sb.2 _ D.i2z).trans q⟩, fun c hcm => ?_⟩
    have hlt : c < s.heap.objs.size := by
      rcases five hcm with rfl | rfl | rfl | rfl | rfl
      · exact zl
      · exact Heap.lt_size hI
      · exact Heap.lt_size hO
      · exact u1.lt
      · exact u2.lt
    rw [upd_ne (Nat.ne_of_lt hlt)]
    exact (hf c hcm).1
  done := by
    rintro X rfl rfl rfl hc i pins s σ H E I hf ⟨hz, hI, ⟨x0, y0, hO⟩, u1, u2⟩ ⟨xs, ys, qx, qy, hend⟩
    obtain ⟨js, rv, w1⟩ := sqb_at I qx
    obtain ⟨ks, rv2, w2⟩ := sqb_at I qy
    have m1 := rv.length
    have m2 := rv2.length
    have he : js.toArray[i]? = none ∨ ks.toArray[i]? = none := hend.imp (fun q => by simp; omega) (fun q => by simp; omega)
    exact zz_stop (I.ok.hd hc) D hz hI hO u1 u2 w1 w2 he fun h' hk => ⟨rfl, I.turnedL (t' := s.toks) (ch := [z, TI, TO, i1, i2]) (fun c o hb q => let ⟨n1, _, n3, n4, n5⟩ := five_ne hb; hk c o n1 n3 n4 n5 q) hf⟩
  self := fun A i s Q E st h => wpAny_pyIter_zip st.1 h
theorem walk_zz {K : PySem.W.Frag} {b1 b2 : Bool} {a b : Addr} {xs ys : List V} {n : Nat} (hn : n = min xs.length ys.length) : Walk (Itq K b1 b2 a b) n (fun H => SqB b1 K H a xs ∧ SqB b2 K H b ys) (YPair (fun i => xs[i]?) (fun i => ys[i]?)) := by
  subst hn
  refine ⟨fun i _ hi q => ⟨xs, ys, xs[i]'(by omega), ys[i]'(by omega), q.1, q.2, by simp, by simp⟩, fun _ q => ⟨xs, ys, q.1, q.2, by omega⟩, fun i H v H' _ q y => ?_⟩
  obtain ⟨T, x, z, h1, h2, h3, h4, h5⟩ := y
  exact ⟨T, x, z, h1, h2, h3, h4 xs q.1, h5 ys q.2⟩
/-- a list or a tuple, whichever -/
theorem sq_b {K : PySem.W.Frag} {H : Hp} {p : Addr} {vs : List V} (h : SqL K H p vs ∨ SqT K H p vs) : ∃ b, SqB b K H p vs := h.elim (fun h => ⟨true, h⟩) fun h => ⟨false, h⟩
theorem pair_new {α β : Type} {T : α → S} {U : β → S} {F H : Hp} {q : Addr} {x y : V} {a : α} {b : β} (sF : Sm F H) (n : H q = none) (rx : (T a).r F x) (ry : (U b).r F y) :
    Grow F H (upd F q (.tup [x, y])) (upd H q (.tup [x, y])) ∧ (sPair T U (a, b)).r (upd F q (.tup [x, y])) (.ref q) :=
  ⟨grow_new1 sF n, q, hp1 q (.tup [x, y]), rfl, hp1_in, [x, y], hp1_same, Its.cons ((T a).mono (same_new (sF.free n)) rx) (Its.cons ((U b).mono (same_new (sF.free n)) ry) Its.nil)⟩
section
variable {X : Cx} {ss : List Sl} {e e2 : Expr} {es : List Expr} {n : Nat} {s t : S} {α β : Type} {T : α → S} {U : β → S} {xs : List α} {ys : List β} {pos p tp : Pos}
/-- zip(a list or a tuple, a tuple), both known -/
theorem ei_zip [hx : AsSq X.K (sv s) T xs] [hy : AsTp X.K (sv t) U ys] (hm : X.mg "zip" = none) (ha : EvE X ss e (sv s)) (hb : EvE X ss e2 (sv t)) (hg : Gl X "zip" := by rfl)
    (hs : starEach [e, e2] X.env = (false, eval e X.env) :: starEach [e2] X.env := by exact star_ok rfl) (hs2 : starEach [e2] X.env = (false, eval e2 X.env) :: starEach [] X.env := by exact star_ok rfl) (hpl : (backTo pos (starEach [e2] X.env)).any (·.1) = false := by rfl) :
    EvI false X ss (.Tuple es n tp) (.Call (.Name "zip" p) [e, e2] [] pos) (sPair T U) (xs.zip ys) := .mk fun B F H σ h Rr q => by
  intro pins s0 inv
  have hA : PA X [e, e2] (wpA X [e, e2]) := PAw
  refine Call_ (ld_blt inv hg hm PyProof.Rows.boot_zip (PyProof.Rows.callWith_type1 (thn (hA.run pos pins s0 σ H (fun vs H1 => ∃ F1, Grow F H F1 H1 ∧ Paired (fun (a : R) v => a.r F1 H1 v) [sv s, sv t] vs) inv ?_) fun us s1 ⟨vs, H1, I1, r1, F1, g1, rs⟩ => ?_) hs hpl))
  · exact (ea_cons ha (ea_cons hb ea_nil hs2) hs).go B F H σ h _ fun vs F' H' g r => ⟨F', g, r⟩
  cases rs with
  | cons ra rs =>
  cases rs with
  | cons rb rs =>
  cases rs
  obtain ⟨pa, va, ea, ka, ia⟩ := hx.w F1 F1 _ (Same.refl _) ra
  obtain ⟨pb, vb, eb, kb, ib⟩ := hy.w F1 F1 _ (Same.refl _) rb
  subst ea eb
  cases r1 with
  | cons z1 r1 =>
  cases r1 with
  | cons z2 r1 =>
  cases r1
  cases z1
  cases z2
  obtain ⟨b1, ka⟩ := sq_b ka
  have kb' : SqB false X.K F1 pb vb := kb
  obtain ⟨js, rv, w1⟩ := sqb_at I1 (SqB.same g1.s ka)
  obtain ⟨ks, rv2, w2⟩ := sqb_at I1 (SqB.same g1.s kb')
  refine zz_call w1 w2 fun h' hz hTI hTO h1 h2 hk => wpAny_pyIter_zip hz ?_
  have I2 : L2.Inv X pins σ H1 { s1 with heap := h' } := I1.kept (t' := s1.toks) hk
  refine ⟨s1.heap.objs.size + 4, [s1.heap.objs.size + 4, s1.heap.objs.size + 2, s1.heap.objs.size + 3, s1.heap.objs.size, s1.heap.objs.size + 1], _, _, H1, rfl, I2, turn_zz (b1 := b1) (b2 := false) (PySem.W.ktu_apart s1.heap.objs.size pa pb w1.lt w2.lt), ⟨hz, hTI, ⟨_, _, hTO⟩, h1, h2⟩, fun c hcm => ?_, ?_⟩
  · have hle : s1.heap.objs.size ≤ c := by rcases five hcm with rfl | rfl | rfl | rfl | rfl <;> omega
    exact I1.fpOk hle (I1.hok.fresh hle)
  · have l1 : va.length = xs.length := ia.len
    have l2 : vb.length = ys.length := ib.len
    refine q (Itq X.K b1 false pa pb) F1 H1 _ _ g1 (walk_zz (xs := va) (ys := vb) (by rw [List.length_zip, l1, l2])) (fun F2 H2 a b _ => ⟨SqB.same (a.trans b) ka, SqB.same (a.trans b) kb'⟩) fun i F2 H2 v H3 hi a b _ y => ?_
    obtain ⟨T1, x, z, rfl, nT, rfl, fx, fy⟩ := y
    obtain ⟨u, hu, ru⟩ := ia.get fx
    obtain ⟨u', hu', ru'⟩ := ib.get fy
    obtain ⟨gg, rr⟩ := pair_new (T := T) (U := U) b nT ((T u).mono a ru) ((U u').mono a ru')
    exact ⟨_, (u, u'), gg, by rw [List.getElem?_zip_eq_some]; exact ⟨hu, hu'⟩, rr⟩
end

/-! ### enumerate -/
theorem draws_sq {prog : Program} {w : World} {A : Around} (hh : A.handled = none) (b : Bool) (it l : Addr) (hne : l ≠ it) (xs : Array Value) : Draws prog w A it [it, l] xs.size (fun i v => xs[i]? = some v) (fun i h => SqI b h it l i ∧ SqA b h l xs) where
  live := fun _ _ st => let ⟨o, ho, _⟩ := st.1; ⟨o, ho⟩
  frame := fun _ _ _ st hk => ⟨st.1.at fun o e => hk it (by simp) o e, st.2.at fun o e => hk l (by simp) o e⟩
  item := fun i s Q E hi st hQ => nx_item st.1 st.2 (x := xs[i]) (by simp [hi]) fun h' u hs => hQ _ h' s.toks (by simp [hi]) ⟨u, st.2.ext hs.extBut hne⟩ hs
  done := fun s Q E st hE => nx_end hh st.1 st.2 (by simp) hE
theorem en_new (b : Bool) (l : Addr) (xs : Array Value) (dct : Option Addr) (n : Nat) (sl : Array (Option Value)) :
    Meets (Builtin.«enumerate.__new__» ⟨[.type "enumerate", .ref l], []⟩) (fun _ R s => s.heap.get? l = some { cls := .type (sqN b), dict := dct, data := .seq xs n, slots := sl } ∧
      R (.ok (.ret (.ref (s.heap.push (itO b l)).objs.size))) { s with heap := (s.heap.push (itO b l)).push { cls := .type "enumerate", data := .fields #[.none, .bool false, .ref s.heap.objs.size, rawInt 0, .none, .none] } }) :=
  .of_wp fun prog w A R s h => by
    obtain ⟨hp, g, d, tk, os⟩ := s
    obtain ⟨hl, h⟩ := h
    have hsub := sub_enumerate
    cases b
    · have hL : Heap.IsTuple (Shared.heap ⟨hp, g, d, tk, os⟩) l xs := ⟨_, hl, rfl, n, rfl⟩
      wp_walk using AutoSeq1.wpAny_loadPart' hl
      refine wpAny_stack_any fun st => wpAny_pure ?_
      split
      · rename_i c _ _ _ _ _
        cases (c == Value.type "enumerate") <;> (wp_walk using AutoSeq1.wpAny_loadPart' hl, wpAny_pyIter_tuple hL; exact ⟨_, rfl, h⟩)
      · wp_walk using AutoSeq1.wpAny_loadPart' hl, wpAny_pyIter_tuple hL
        exact ⟨_, rfl, h⟩
    · have hL : Heap.IsList (Shared.heap ⟨hp, g, d, tk, os⟩) l xs := ⟨_, hl, rfl, n, rfl⟩
      wp_walk using AutoSeq1.wpAny_loadPart' hl
      refine wpAny_stack_any fun st => wpAny_pure ?_
      split
      · rename_i c _ _ _ _ _
        cases (c == Value.type "enumerate") <;> (wp_walk using AutoSeq1.wpAny_loadPart' hl, wpAny_pyIter_list hL; exact ⟨_, rfl, h⟩)
      · wp_walk using AutoSeq1.wpAny_loadPart' hl, wpAny_pyIter_list hL
        exact ⟨_, rfl, h⟩
theorem en_call {prog : Program} {w : World} {A : Around} {E : Value → Shared → Prop} {s : Shared} {b : Bool} {l : Addr} {xs : Array Value} {Q : Value → Shared → Prop} (hL : SqA b s.heap l xs)
    (q : ∀ h', IsEnum h' (s.heap.objs.size + 1) s.heap.objs.size 0 .none → SqI b h' s.heap.objs.size l 0 → (∀ c o, s.heap.get? c = some o → h'.get? c = some o) → Q (.ref (s.heap.objs.size + 1)) { s with heap := h' }) :
    wpAny (model prog w) A (call (.type "enumerate") [.ref l]) Q E s := by
  obtain ⟨⟨c, dct, dt, sl⟩, hl, hc, n, hd⟩ := hL
  have hc' : c = .type (sqN b) := hc
  have hd' : dt = .seq xs n := hd
  subst hc' hd'
  refine callType_new F.called_enumerate (by decide) (F.typeCall_enumerate_1 _) (F.newCall_enumerate_1 _) (fun obj => F.args_object_init_2 obj _) F.entry_enumerate_new (en_new b l xs dct n sl) ⟨hl, ?_⟩
  have n1 : (s.heap.push (itO b l)).objs.size = s.heap.objs.size + 1 := Heap.size_push ..
  have g1 : (s.heap.push (itO b l)).get? s.heap.objs.size = some (itO b l) := Heap.get?_push_size _ rfl
  have up : ∀ c o, s.heap.get? c = some o → (s.heap.push (itO b l)).get? c = some o := fun c o e => Heap.get?_push_of_some _ e
  generalize s.heap.push (itO b l) = A1 at n1 g1 up
  have he : IsEnum (A1.push { cls := .type "enumerate", data := .fields #[.none, .bool false, .ref s.heap.objs.size, rawInt 0, .none, .none] }) (s.heap.objs.size + 1) s.heap.objs.size 0 .none := by
    rw [← n1]
    exact Heap.get?_push_size _ rfl
  rw [n1]
  exact ⟨⟨_, he, rfl⟩, q _ he ⟨_, Heap.get?_push_of_some _ g1, rfl, rfl⟩ fun c o e => Heap.get?_push_of_some _ (up c o e)⟩
def Ieq (K : PySem.W.Frag) (b : Bool) (a : Addr) : It where
  go := fun i H => ∃ (xs : List V) (x : V), SqB b K H a xs ∧ xs[i]? = some x
  yld := fun i H v H' => ∃ T x, v = .ref T ∧ H T = none ∧ H' = upd H T (.tup [.int (i : Nat), x]) ∧ ∀ xs, SqB b K H a xs → xs[i]? = some x
  stop := fun i H => ∃ xs : List V, SqB b K H a xs ∧ xs.length ≤ i
theorem turn_en {P : Program} {w : World} {K : PySem.W.Frag} {b : Bool} {es : List Expr} {n : Nat} {tp : Pos} {a e it : Addr} (ne : e ≠ it) (na : a ≠ it) (nea : e ≠ a) : Turn P w K (.Tuple es n tp) (Ieq K b a) [e, it] e (fun i h => (∃ old, IsEnum h e it ((i : Nat) : Int) old) ∧ SqI b h it a i) where
  mem := List.mem_cons_self
  obj := fun i h ⟨⟨old, he⟩, ⟨o, ho, _, hd⟩⟩ c hc => by
    rcases (by simpa using hc : c = e ∨ c = it) with rfl | rfl
    · exact ⟨_, he, fun v q => nomatch q⟩
    · exact ⟨o, ho, fun v q => by rw [hd] at q; cases q⟩
  keep := fun i h h' ⟨⟨old, he⟩, u⟩ k => ⟨⟨old, k _ (by simp) _ he⟩, u.at fun o => k _ (by simp) o⟩
  item := by
    rintro X rfl rfl rfl hc i pins s σ H E I hf ⟨⟨old, he⟩, u⟩ ⟨xs, x, qx, hx⟩
    obtain ⟨js, rv, w1⟩ := sqb_at I qx
    obtain ⟨y, hy, ry⟩ := rv.get hx
    have hh : X.A.in1.handled = none := I.ok.hd hc
    have hil : i < js.toArray.size := by
      have := (List.getElem?_eq_some_iff.mp hy).1
      simpa using this
    refine wpAny_pyNext_enum_itemD (draws_sq hh b it a na js.toArray) he ⟨u, w1⟩ hil ne (by simp [ne, nea]) fun y' h' tk hP ho u' hT hsz hk => ?_
    have ey : y' = y := by
      have hP' : js.toArray[i]? = some y' := hP
      rw [List.getElem?_toArray, hy] at hP'
      exact (Option.some.inj hP').symm
    subst ey
    refine ⟨_, rfl, wpAny_letOwnedTupleGo_enum (s := { s with heap := h', toks := tk + 1 }) ho fun h2 he2 sb => ?_⟩
    have el : e < s.heap.objs.size := Heap.lt_size he
    have hT2 : h2.get? s.heap.objs.size = some { cls := .type "tuple", data := .seq #[.int i tk, y'] } := (sb.2 _ (Nat.ne_of_gt el)).trans hT
    have new : ObjOk X.prog X.w (upd H s.heap.objs.size (.tup [.int (i : Nat), x])) h2 s.heap.objs.size (.tup [.int (i : Nat), x]) := ⟨(by decide : 2 ≤ sizeLine), [.int i tk, y'], .cons ⟨_, rfl⟩ (.cons ry .nil), ⟨_, hT2, rfl, _, rfl⟩⟩
    have I1 : L2.Inv X pins σ (upd H s.heap.objs.size (.tup [.int (i : Nat), x])) { s with heap := h2, toks := tk + 1 } :=
      I.turnedNew (t' := tk + 1) (ch := [e, it]) (fun c o hb q => let ⟨n1, n2⟩ := (by simpa using hb : c ≠ e ∧ c ≠ it); (sb.2 c n1).trans (hk c o n1 n2 q)) hf (Nat.le_refl _) new
    refine ⟨.ref s.heap.objs.size, _, I1, rfl, ⟨_, x, rfl, I.hok.fresh (Nat.le_refl _), rfl, fun l hl => by rw [sqb_inj I hl qx]; exact hx⟩, ⟨⟨y', ?_⟩, u'.1.at fun o q => (sb.2 it ne.symm).trans q⟩, fun c hcm => ?_⟩
    · rw [show ((i + 1 : Nat) : Int) = (i : Int) + 1 by omega]
      exact he2
    · have hlt : c < s.heap.objs.size := by
        rcases (by simpa using hcm : c = e ∨ c = it) with rfl | rfl
        · exact el
        · exact u.lt
      rw [upd_ne (Nat.ne_of_lt hlt)]
      exact (hf c hcm).1
  done := by
    rintro X rfl rfl rfl hc i pins s σ H E I hf ⟨⟨old, he⟩, u⟩ ⟨xs, qx, hx⟩
    obtain ⟨js, rv, w1⟩ := sqb_at I qx
    have hl := rv.length
    obtain ⟨f0, f1, f2, f3, f4, f5⟩ := hf it (by simp)
    have hT : s.TypeIs (.ref e) "enumerate" := ⟨_, he, rfl⟩
    unfold pyNext
    refine wpAny_bind (wpAny_attempt (wpAny_callSpecial?_slot (name := Str.ofString "__next__") hT F.slot_enumerate_next (wpAny_call_entry F.slot_enumerate_next hT F.entry_enumerate_next ?_ (F.args_enumerate_next_1 _))))
    show wpAny _ _ (field (.ref e) 2 >>= _) _ _ _
    refine wpAny_bind (wpAny_field he rfl (x := .ref it) rfl (wpAny_bind (nx_end (show X.A.in1.handled = none from I.ok.hd hc) u w1 (by simp; omega) fun h' x he' hx' => ?_)))
    obtain ⟨o, ho, hcc⟩ := hx'
    exact wpAny_bind (wpAny_isInstance (T := "StopIteration") (b := true) ⟨o, ho, hcc⟩ isSubtype_stop (wpAny_pure ⟨rfl, I.turned (t' := s.toks) (fun b o hb q => he' b o hb q) f0 f1 f3 f4 f5⟩))
  self := fun A i s Q E st h => let ⟨⟨_, he⟩, _⟩ := st; wpAny_pyIter_enum he h
theorem walk_en {K : PySem.W.Frag} {b : Bool} {a : Addr} {xs : List V} : Walk (Ieq K b a) xs.length (fun H => SqB b K H a xs) (YPair (fun i => some (.int (i : Nat))) (fun i => xs[i]?)) := by
  refine ⟨fun i _ hi q => ⟨xs, xs[i], q, by simp⟩, fun _ q => ⟨xs, q, Nat.le_refl _⟩, fun i H v H' _ q y => ?_⟩
  obtain ⟨T, x, h1, h2, h3, h4⟩ := y
  exact ⟨T, .int (i : Nat), x, h1, h2, h3, rfl, h4 xs q⟩
/-- the items with their places -/
def enumL {α : Type} (xs : List α) : List (Nat × α) := (List.range xs.length).zip xs
theorem enumL_len {α : Type} (xs : List α) : (enumL xs).length = xs.length := by unfold enumL; rw [List.length_zip, List.length_range, Nat.min_self]
theorem enumL_get {α : Type} {xs : List α} {i : Nat} {x : α} (h : xs[i]? = some x) : (enumL xs)[i]? = some (i, x) := by
  unfold enumL
  rw [List.getElem?_zip_eq_some]
  exact ⟨List.getElem?_range (List.getElem?_eq_some_iff.mp h).1, h⟩
theorem enumL_at {α : Type} {xs : List α} {i : Nat} {y : Nat × α} (h : (enumL xs)[i]? = some y) : y.1 = i ∧ xs[i]? = some y.2 := by
  have hl := (List.getElem?_eq_some_iff.mp h).1
  rw [enumL_len] at hl
  have hx : xs[i]? = some xs[i] := List.getElem?_eq_getElem hl
  rw [enumL_get hx] at h
  cases h
  exact ⟨rfl, hx⟩
section
variable {X : Cx} {ss : List Sl} {e : Expr} {es : List Expr} {n : Nat} {s : S} {α : Type} {T : α → S} {xs : List α} {pos p tp : Pos}
theorem ei_enum [hx : AsSq X.K (sv s) T xs] (hm : X.mg "enumerate" = none) (ha : EvE X ss e (sv s)) (hg : Gl X "enumerate" := by rfl)
    (hs : starEach [e] X.env = (false, eval e X.env) :: starEach [] X.env := by exact star_ok rfl) (hs1 : starEach [e] X.env = [(false, eval e X.env)] := by exact star_one rfl) :
    EvI false X ss (.Tuple es n tp) (.Call (.Name "enumerate" p) [e] [] pos) (sPair sNat T) (enumL xs) := .mk fun B F H σ h Rr q => by
  intro pins s0 inv
  have hA : PA X [e] (wpA X [e]) := PAw
  refine Call_ (ld_blt inv hg hm boot_enumerate (PyProof.Rows.callWith_type1 (thn (hA.run pos pins s0 σ H (fun vs H1 => ∃ F1, Grow F H F1 H1 ∧ Paired (fun (a : R) v => a.r F1 H1 v) [sv s] vs) inv ?_) fun us s1 ⟨vs, H1, I1, r1, F1, g1, rs⟩ => ?_) hs1 rfl))
  · exact (ea_cons ha ea_nil hs).go B F H σ h _ fun vs F' H' g r => ⟨F', g, r⟩
  cases rs with
  | cons ra rs =>
  cases rs
  obtain ⟨pa, va, ea, ka, ia⟩ := hx.w F1 F1 _ (Same.refl _) ra
  subst ea
  cases r1 with
  | cons z1 r1 =>
  cases r1
  cases z1
  obtain ⟨b1, ka⟩ := sq_b ka
  obtain ⟨js, rv, w1⟩ := sqb_at I1 (SqB.same g1.s ka)
  refine en_call w1 fun h' he hit hk => wpAny_pyIter_enum he ?_
  have I2 : L2.Inv X pins σ H1 { s1 with heap := h' } := I1.kept (t' := s1.toks) hk
  have pl := w1.lt
  refine ⟨s1.heap.objs.size + 1, [s1.heap.objs.size + 1, s1.heap.objs.size], _, _, H1, rfl, I2, turn_en (b := b1) (a := pa) (e := s1.heap.objs.size + 1) (it := s1.heap.objs.size) (Nat.succ_ne_self _) (Nat.ne_of_lt pl) (Nat.ne_of_gt (Nat.lt_succ_of_lt pl)), ⟨⟨.none, he⟩, hit⟩, fun c hcm => ?_, ?_⟩
  · have hle : s1.heap.objs.size ≤ c := by rcases (by simpa using hcm : c = s1.heap.objs.size + 1 ∨ c = s1.heap.objs.size) with rfl | rfl <;> omega
    exact I1.fpOk hle (I1.hok.fresh hle)
  · have l1 : va.length = xs.length := ia.len
    refine q (Ieq X.K b1 pa) F1 H1 _ _ g1 (by rw [enumL_len, ← l1]; exact walk_en (xs := va)) (fun F2 H2 a b _ => SqB.same (a.trans b) ka) fun i F2 H2 v H3 hi a b _ y => ?_
    obtain ⟨T1, x, z, rfl, nT, rfl, fx, fy⟩ := y
    obtain ⟨u, hu, ru⟩ := ia.get fy
    cases fx
    obtain ⟨gg, rr⟩ := pair_new (T := sNat) (U := T) (a := i) b nT rfl ((T u).mono a ru)
    exact ⟨_, (i, u), gg, enumL_get hu, rr⟩
end
end Sx
namespace Sx
variable [Tbs]
open PySem PySem.Spec PyProof.Rows L2

/-! ### a dict is locked and handed out: from here on it is read alone -/
section
variable {X : Cx} {ss : List Sl} {sts : List Stmt} {D : Ds} {κ α : Type} [DecidableEq κ] {U : κ → S} [hN : KeyN U] {T : α → S} {kvs : List (κ × α)}
theorem r_lockN (i : Nat) (hi : ss[i]? = some (.own (oDN X.w U T kvs))) (h : EvSs X (ss.set i (.val (sO (oDF X.w U T kvs)))) sts D) : EvSs X ss sts D := .mk fun B F H σ hS tk => by
  intro pins s I
  obtain ⟨d, c, e0, hc, ⟨ws, hd, hk⟩, wr⟩ := hS.write hi
  obtain ⟨od, I2⟩ := I.lock (hc _ _ hd).1 (by exact True.intro)
  obtain ⟨w0, w1, w2, w3⟩ := cell_wr (o1 := .frz od (dNo X.w d ws)) hd dNo_nt (fun a ob ea => (hc a ob ea).1)
  have hS2 := wr (oDF X.w U T kvs) _ _ w0 w1 w2 w3 ⟨od, ws, upd_same, hk⟩
  have hl : (ss.set i (.own (oDF X.w U T kvs)))[i]? = some (.own (oDF X.w U T kvs)) := List.getElem?_set_self (List.getElem?_eq_some_iff.mp hi).1
  obtain ⟨F', sF, hS3⟩ := hS2.pub hl
  rw [List.set_set] at hS3
  exact h.go B F' _ σ hS3 tk pins s I2
end
/-! ### the keys of a locked dict -/
section
variable {X : Cx} {pins : List (Addr × Obj)} {σ : L2.St} {H : Hp} {s : Shared} {d : Addr} {o : Obj} {ws : List Went}
theorem paired_at {α β : Type} {G : α → β → Prop} : ∀ {l : List α} {m : List β}, Paired G l m → ∀ {i : Nat} {a : α}, l[i]? = some a → ∃ b, m[i]? = some b ∧ G a b
  | _, _, .nil, _, _, e => by simp at e
  | _, _, .cons r t, 0, _, e => by simp at e; subst e; exact ⟨_, rfl, r⟩
  | _, _, .cons r t, i + 1, a, e => by
    obtain ⟨b, h1, h2⟩ := paired_at t (i := i) (a := a) (by simpa using e)
    exact ⟨b, by simpa using h1, h2⟩
theorem frzN (I : L2.Inv X pins σ H s) (h : H d = some (.frz o (dNo X.w d ws))) : (d == sysModules) = false ∧ s.heap.get? d = some o ∧ o.ExactDict ∧ ∃ (es : Array DictEntry) (ep : Nat), o.data = .dict es ep ∧ es.size = ws.length ∧
    ∀ (i : Nat) (x : Went), ws[i]? = some x → ∃ en : DictEntry, es[i]? = some en ∧ en.key = .ref x.2.1 := by
  obtain ⟨hg, hx⟩ := I.hok d _ h
  obtain ⟨⟨n1, n2, nd, xs, r, o', es, ep, ho, hc, hdt, he⟩, _⟩ := hx
  rw [hg] at ho
  cases ho
  have hl : ws.length = xs.length := Paired.length r
  have hs : es.size = xs.length := by
    have := congrArg List.length he
    simpa using this
  refine ⟨n1, hg, hc, es, ep, hdt, by omega, fun i x hx => ?_⟩
  obtain ⟨y, hy, e1, e2, _⟩ := paired_at r hx
  have q : es.toList[i]? = some (⟨y.1.hash X.w, .ref y.2.1, y.2.2⟩ : DictEntry) := by rw [he, List.getElem?_map, hy]; rfl
  exact ⟨_, by rw [← Array.getElem?_toList]; exact q, by rw [e2]⟩
end
def Ikn (w : World) (d : Addr) (o : Obj) (ws : List Went) : It where
  go := fun i H => H d = some (.frz o (dNo w d ws)) ∧ i < ws.length
  yld := fun i H x H' => H' = H ∧ ∃ y : Went, ws[i]? = some y ∧ x = .ref y.2.1
  stop := fun i H => H d = some (.frz o (dNo w d ws)) ∧ ws.length ≤ i
theorem turn_kn {P : Program} {w : World} {K : PySem.W.Frag} {tg : Expr} {d : Addr} {o : Obj} {es : Array DictEntry} {ep : Nat} {ws : List Went} (it : Addr) (hod : o.data = .dict es ep) : Turn P w K tg (Ikn w d o ws) [it] it (fun i h => h.IsKeyIter it d i ws.length ep) where
  mem := List.mem_cons_self
  obj := fun i h st b hb => by
    obtain rfl := List.mem_singleton.mp hb
    obtain ⟨oi, e, _, dd⟩ := st
    exact ⟨oi, e, fun v z => by rw [dd] at z; cases z⟩
  keep := fun i h h' st k => st.at fun oi e => k it List.mem_cons_self oi e
  item := by
    rintro X rfl rfl rfl hc i pins s σ H E I hf st ⟨hd, hi⟩
    obtain ⟨f0, f1, f2, f3, f4, f5⟩ := hf it List.mem_cons_self
    obtain ⟨_, hg, _, es', ep', hdt, hsz, ent⟩ := frzN I hd
    obtain ⟨rfl, rfl⟩ := dict_ep hod hdt
    have hy : ws[i]? = some ws[i] := List.getElem?_eq_getElem hi
    obtain ⟨en, he, ek⟩ := ent i _ hy
    refine next_key_item st hg hdt hsz he fun h' st' sb => ?_
    have I1 : L2.Inv X pins σ H { s with heap := h' } := I.turned (t' := s.toks) (fun b ob hb e => (sb.2 b hb).trans e) f0 f1 f3 f4 f5
    obtain ⟨oi, e, c, dd⟩ := id st'
    exact ⟨en.key, rfl, go_of (s := { s with heap := h' }) e c dd (by decide) ⟨.ref ws[i].2.1, H, I1, ek, ⟨rfl, _, hy, rfl⟩, st', fun b hb => (hf b hb).1⟩⟩
  done := by
    rintro X rfl rfl rfl hc i pins s σ H E I hf st ⟨hd, hi⟩
    obtain ⟨f0, f1, f2, f3, f4, f5⟩ := hf it List.mem_cons_self
    obtain ⟨_, hg, _, es', ep', hdt, hsz, ent⟩ := frzN I hd
    obtain ⟨rfl, rfl⟩ := dict_ep hod hdt
    exact next_key_end (I.ok.hd hc) st hg hdt hsz hi fun h' eb => ⟨rfl, I.turned (t' := s.toks) (fun b ob hb e => eb b ob hb e) f0 f1 f3 f4 f5⟩
  self := fun A i s Q E st h => wpAny_pyIter_keyiter st h
theorem walk_kn {w : World} {d : Addr} {o : Obj} {ws : List Went} : Walk (Ikn w d o ws) ws.length (fun H => H d = some (.frz o (dNo w d ws))) (fun i H x H' => H' = H ∧ ∃ y : Went, ws[i]? = some y ∧ x = .ref y.2.1) :=
  ⟨fun i _ hi q => ⟨q, hi⟩, fun _ q => ⟨q, Nat.le_refl _⟩, fun _ _ _ _ _ _ y => y⟩
theorem pr_back {α β : Type} {G : α → β → Prop} : ∀ {l : List α} {m : List β}, Paired G l m → ∀ {i : Nat} {b : β}, m[i]? = some b → ∃ a, l[i]? = some a ∧ G a b
  | _, _, .nil, _, _, e => by simp at e
  | _, _, .cons r t, 0, _, e => by simp at e; subst e; exact ⟨_, rfl, r⟩
  | _, _, .cons r t, i + 1, b, e => by
    obtain ⟨a, h1, h2⟩ := pr_back t (i := i) (b := b) (by simpa using e)
    exact ⟨a, by simpa using h1, h2⟩
section
variable {X : Cx} {ss : List Sl} {tg e : Expr} {κ α : Type} [DecidableEq κ] {U : κ → S} [hN : KeyN U] {T : α → S} {kvs : List (κ × α)}
theorem ei_keysF (he : EvE X ss e (sv (sO (oDF X.w U T kvs)))) : EvI false X ss tg e U (kvs.map (·.1)) := .mk fun B F H σ h Rr q => by
  intro pins s1 inv
  refine thn (he.go B F H σ h (fun v H' => ∃ F', Grow F H F' H' ∧ (sO (oDF X.w U T kvs)).r F' v) (fun v F' H' g r => ⟨F', g, r⟩) pins s1 inv) fun u s3 ⟨v, H1, I3, rv, F1, g1, r1⟩ => ?_
  obtain ⟨d, c, ev, hk, od, ws, hd, hw⟩ := r1
  subst ev
  obtain rfl : u = Value.ref d := rv
  have hF : F1 d = some (.frz od (dNo X.w d ws)) := hk _ _ hd
  obtain ⟨n1, hg, hc, es, ep, hdt, hsz, ent⟩ := frzN I3 (g1.s _ _ hF)
  have hl : ws.length = kvs.length := hw.len
  refine iter_keys n1 hg hc hdt (pi_one (tk := s3.toks) I3 _ (turn_kn (d := d) (ws := ws) _ hdt) ⟨_, Heap.get?_push_size _ rfl, rfl, ?_⟩ ?_)
  · rw [hsz]
    rfl
  · refine q (Ikn X.w d od ws) F1 H1 _ _ g1 (by rw [List.length_map, ← hl]; exact walk_kn) (fun F2 H2 a b _ => b _ _ (a _ _ hF)) fun i F2 H2 v H3 hi a b _ y => ?_
    obtain ⟨rfl, y, hy, rfl⟩ := y
    obtain ⟨kv, hkv, e1, e2, e3⟩ := pr_back hw hy
    exact ⟨F2, kv.1, .refl b, by rw [List.getElem?_map, hkv]; rfl, (U kv.1).mono a e2⟩
end
end Sx
/-! sets of tuples of texts -/
namespace Sx
variable [Tbs]
open PySem PySem.Spec PyProof.Rows L2

abbrev tHs (P : Program) (w : World) (k : List Str) : Int := tupleKeyHash (PySem.strKind P w) k
abbrev IsTS (P : Program) (w : World) (h : Heap) (k : List Str) (a : Addr) : Prop := IsTupleKey (PySem.strKind P w) h k a
section
variable {P : Program} {w : World} {A : Around} {E : Value → Shared → Prop} {s : Shared}
theorem strs_all {k : List Str} {vs : List Value} (h : ItemsAre (PySem.strKind P w) k vs) : ∀ v ∈ vs, ∃ x t, v = Value.str x t := by
  induction h with
  | nil => exact fun v hv => nomatch hv
  | @cons k0 v' ks vs h1 _ ih =>
    intro v hv
    rcases List.mem_cons.mp hv with rfl | hv
    · obtain ⟨t, e⟩ := Value.isStrOf_shape h1
      exact ⟨k0, t, e⟩
    · exact ih v hv
theorem noClass_str (n : Nat) (x : Str) (t : Tok) : ofAClassStatement n (.str x t) = pure false := by cases n <;> rfl
theorem noHash_str (n : Nat) (x : Str) (t : Tok) : hashByValue n (.str x t) = pure false := by cases n <;> rfl
theorem noClass_ts {k : List Str} {b : Addr} {Q : Bool → Shared → Prop} (hk : IsTS P w s.heap k b) (q : Q false s) : wpAny (model P w) A (ofAClassStatement 8 (.ref b)) Q E s := by
  have hT := hk.typeIs
  obtain ⟨o, its, n, ho, _, hd, hi⟩ := hk
  unfold ofAClassStatement
  refine wpAny_bind (wpAny_typeOf hT ?_)
  simp only [show (("tuple" : String) == "tuple") = true by decide, if_true, Bool.not_true, Bool.false_eq_true, if_false]
  try refine wpAny_bind (wpAny_pure ?_)
  try simp only [Bool.not_true, Bool.false_eq_true, if_false]
  show wpAny _ _ (seqItems? (.ref b) >>= _) _ _ s; refine wpAny_bind (wpAny_seqItems ho hd ?_)
  show wpAny _ _ (forIn its _ _ >>= _) _ _ s; rw [← Array.forIn_toList]
  refine wpAny_bind (wpAny_forIn_list _ (fun rest r s' => r.1 = none ∧ s' = s ∧ ∀ v ∈ rest, ∃ x t, v = Value.str x t) _ ?_ ?_ _ _ ⟨rfl, rfl, strs_all hi⟩)
  · rintro v rest r s' ⟨_, rfl, hall⟩
    obtain ⟨x, t, rfl⟩ := hall v List.mem_cons_self
    rw [noClass_str]
    refine wpAny_bind (wpAny_pure ?_); simp only [Bool.false_eq_true, if_false]
    exact wpAny_pure ⟨rfl, rfl, fun u hu => hall u (List.mem_cons_of_mem _ hu)⟩
  · rintro ⟨r1, r2⟩ s' ⟨hr, rfl, _⟩
    have hr' : r1 = none := hr
    subst hr'
    exact wpAny_pure q
theorem hashBy_ts {k : List Str} {b : Addr} {Q : Bool → Shared → Prop} (hk : IsTS P w s.heap k b) (q : ∀ c, Q c s) : wpAny (model P w) A (hashByValue 8 (.ref b)) Q E s := by
  have hT := hk.typeIs
  obtain ⟨o, its, n, ho, _, hd, hi⟩ := hk
  unfold hashByValue
  refine wpAny_bind (wpAny_specialOf hT F.slot_tuple_hash.lookup ?_)
  show wpAny _ _ (seqItems? (.ref b) >>= _) _ _ s; refine wpAny_bind (wpAny_seqItems ho hd ?_)
  show wpAny _ _ (forIn its _ _ >>= _) _ _ s; rw [← Array.forIn_toList]
  refine wpAny_bind (wpAny_forIn_list _ (fun rest r s' => r.1 = none ∧ s' = s ∧ ∀ v ∈ rest, ∃ x t, v = Value.str x t) _ ?_ ?_ _ _ ⟨rfl, rfl, strs_all hi⟩)
  · rintro v rest r s' ⟨_, rfl, hall⟩
    obtain ⟨x, t, rfl⟩ := hall v List.mem_cons_self
    rw [noHash_str]
    refine wpAny_bind (wpAny_pure ?_); simp only [Bool.not_false, if_true]
    exact wpAny_pure (wpAny_pure (q false))
  · rintro ⟨r1, r2⟩ s' ⟨hr, rfl, _⟩
    have hr' : r1 = none := hr
    subst hr'
    exact wpAny_pure (q true)
theorem hidden_ts {k : List Str} {b : Addr} {Q : Bool → Shared → Prop} (hk : IsTS P w s.heap k b) {ys : List Value} (hy : ∀ y ∈ ys, ∃ k' c, y = Value.ref c ∧ IsTS P w s.heap k' c) (q : Q false s) : wpAny (model P w) A (searchCouldBeSeen (.ref b) ys) Q E s := by
  unfold searchCouldBeSeen
  refine wpAny_bind (wpAny_forIn_list _ (fun rest r s' => r.1 = none ∧ s' = s ∧ ∀ y ∈ rest, ∃ k' c, y = Value.ref c ∧ IsTS P w s.heap k' c) _ ?_ ?_ _ _ ⟨rfl, rfl, hy⟩)
  · rintro v rest r s' ⟨_, rfl, hall⟩
    obtain ⟨k', c, rfl, hc⟩ := hall v List.mem_cons_self
    have more : ∀ y ∈ rest, ∃ k' c, y = Value.ref c ∧ IsTS P w s'.heap k' c := fun u hu => hall u (List.mem_cons_of_mem _ hu)
    dsimp only
    by_cases hv : (b == c || (carriedByValue (.ref b) && carriedByValue (.ref c))) = true
    · exact wp_if_pos hv (wpAny_pure ⟨rfl, rfl, more⟩)
    · refine wp_if_neg hv (wpAny_bind (wpAny_eqIsQuiet_tuple hk ?_))
      simp only [Bool.not_true, Bool.false_eq_true, if_false]; refine wpAny_bind (wpAny_eqIsQuiet_tuple hc ?_)
      simp only [Bool.not_true, Bool.false_eq_true, if_false]; refine wpAny_bind (noClass_ts hk ?_)
      simp only [Bool.false_eq_true, if_false]; refine wpAny_bind (noClass_ts hc ?_)
      simp only [Bool.false_eq_true, if_false]; exact wpAny_pure ⟨rfl, rfl, more⟩
  · rintro ⟨r1, r2⟩ s' ⟨hr, rfl, _⟩
    have hr' : r1 = none := hr
    subst hr'
    exact wpAny_pure q

/-! #### what such a set is -/
abbrev Mem := Addr × List Str
def rwS (P : Program) (w : World) (L : List Mem) : List (Int × Value) := L.map fun p => (tHs P w p.2, Value.ref p.1)
structure SetW (P : Program) (w : World) (h : Heap) (a : Addr) (L : List Mem) (es : Array (Int × Value)) (ep : Nat) (t : SetTable) : Prop where
  ob : ∃ o, h.get? a = some o ∧ o.ExactSet ∧ o.data = .set es ep t
  rows : es.toList = rwS P w L
  tab : TabOk t (L.map fun p => tHs P w p.2)
  nd : (L.map (·.2)).Nodup
  tup : ∀ p ∈ L, IsTS P w h p.2 p.1
  room : L.length * 5 < t.mask * 3
  few : L.length < 64
variable {a : Addr} {L : List Mem} {es : Array (Int × Value)} {ep : Nat} {t : SetTable}
theorem rwS_len (h : es.toList = rwS P w L) : es.size = L.length := by
  have := congrArg List.length h
  simpa [rwS] using this
theorem SetW.fits (R : SetW P w s.heap a L es ep t) : t.fits es.size = true := by
  have h1 := R.tab.sz
  have h2 := rwS_len R.rows
  have h3 := R.room
  rw [List.length_map] at h1
  unfold SetTable.fits SetTable.fill
  rw [R.tab.dm, Bool.and_eq_true, beq_iff_eq, decide_eq_true_eq]
  exact ⟨by omega, by show t.place.size + 0 ≤ t.mask; omega⟩
theorem SetW.entry (R : SetW P w s.heap a L es ep t) {i : Nat} {p : Mem} (h : L[i]? = some p) : es[i]? = some (tHs P w p.2, Value.ref p.1) := by
  rw [← Array.getElem?_toList, R.rows, rwS, List.getElem?_map, h]
  rfl
/-- c steps on the way -/
abbrev stepN (t : SetTable) (h : Int) (c : Nat) : SetTable.Probe := nth t.mask (runAt t.mask (SetTable.bits h % (t.mask + 1)) (SetTable.bits h)) c
theorem stepN_dummy (t : SetTable) (h : Int) : ∀ c, (stepN t h c).dummy = none := by
  have key : ∀ (n : Nat) (p : SetTable.Probe), p.dummy = none → (nth t.mask p n).dummy = none := by
    intro n
    induction n with
    | zero => exact fun p h => h
    | succ n ih =>
      intro p h
      refine ih (adv t.mask p) ?_
      unfold adv
      split <;> exact h
  exact fun c => key c _ rfl
theorem search_ts (R : SetW P w s.heap a L es ep t) {x : Addr} {k : List Str} (hx : IsTS P w s.heap k x) (hu : A.units < cLine) {n : Nat} (hn : n < 10 * SetTable.turns t.mask)
    (hK : way t.mask (tHs P w k) n ∉ t.place.toList) (hKb : ∀ c, c < n → way t.mask (tHs P w k) c ∈ t.place.toList) {Q : SetFound → Shared → Prop}
    (qin : k ∈ L.map (·.2) → Q (.there none) s) (qout : k ∉ L.map (·.2) → Q (.free (way t.mask (tHs P w k) n) false) s) :
    ∀ (f c : Nat) (stand : Option SetTable.Probe), stand.getD (t.probeStart (tHs P w k)) = stepN t (tHs P w k) c → c ≤ n → n - c < f →
      (∀ (i : Nat) p, L[i]? = some p → p.2 = k → ∃ c', c ≤ c' ∧ c' < n ∧ t.place.toList[i]? = some (way t.mask (tHs P w k) c')) → wpAny (model P w) A (setSearchFrom a (.ref x) (tHs P w k) true f stand) Q E s
  | 0, _, _, _, _, hf, _ => absurd hf (Nat.not_lt_zero _)
  | f + 1, c, stand, hst, hc, hf, hre => by
    obtain ⟨o, ho, hex, hd⟩ := R.ob
    generalize hH : tHs P w k = H at hK hKb qout hst hre ⊢
    have nogw : ¬ t.gaveWay = true := by unfold SetTable.gaveWay; rw [mask_odd R.tab.mok]; decide
    rw [setSearchFrom_succ]; refine wpAny_bind (wpAny_setState_of ho hd R.fits (wp_if_neg nogw ?_))
    try refine wpAny_bind (wpAny_pure ?_)
    have sh : ∀ q, nth t.mask (stepN t H c) q = stepN t H (c + q) := fun q => (nth_add t.mask c _ q).symm
    have e1 : ∀ q, (nth t.mask (stepN t H c) q).j = way t.mask H (c + q) := fun q => congrArg SetTable.Probe.j (sh q)
    have hat : ∀ (i : Nat) p, L[i]? = some p → (es[i]?.map (·.1)).getD 0 = tHs P w p.2 := fun i p hp => by rw [R.entry hp]; rfl
    rcases go_spec t R.tab.ris R.tab.dm (fun i => (es[i]?.map (·.1)).getD 0) H (10 * SetTable.turns t.mask) (n - c) (stepN t H c) (stepN_dummy t H c) (by omega) (fun q hq => by rw [e1]; exact hKb (c + q) (by omega)) (by rw [e1, show c + (n - c) = n by omega]; exact hK) with ⟨q, i, hq, hi, hh, hno, hpr⟩ | ⟨hno, hpr⟩
    · rw [e1] at hi
      have hpr' : t.probe (fun i => (es[i]?.map (·.1)).getD 0) H (stand.getD (t.probeStart H)) = some (.candidate (way t.mask H (c + q)) i (stepN t H (c + (q + 1)))) := by
        rw [hst, ← e1, ← sh]
        exact hpr
      rw [hpr']
      have hil : i < L.length := by
        have h1 := (List.getElem?_eq_some_iff.mp hi).1
        have h2 := R.tab.sz
        rw [List.length_map] at h2
        rw [Array.length_toList] at h1
        omega
      obtain ⟨p, hp⟩ : ∃ p, L[i]? = some p := ⟨L[i], List.getElem?_eq_getElem hil⟩
      have hmem : p ∈ L := List.mem_of_getElem? hp
      have go_on : wpAny (model P w) A (searchRest a (.ref x) H true f es t (way t.mask H (c + q)) i (stepN t H (c + (q + 1)))) Q E s := by
        unfold searchRest
        rw [R.entry hp]
        refine wpAny_bind (wpAny_holding (wpAny_eqBool_tuple hu (R.tup p hmem) hx (wpAny_bind (wpAny_setState_of ho hd R.fits ?_))))
        dsimp only
        by_cases hkk : p.2 = k
        · exact wp_if_pos (by simp [hkk]) (wpAny_pure (qin (List.mem_map.mpr ⟨p, hmem, hkk⟩)))
        · refine wp_if_neg (by simp [hkk]) ?_
          try refine wpAny_bind (wpAny_pure ?_)
          have hsl : t.slot (way t.mask H (c + q)) = .live i := slot_live R.tab.ris hi
          rw [sameMem]; simp only [if_true, hsl, R.entry hp]
          refine wpAny_bind (wpAny_isSame_ref_self (wpAny_bind (wpAny_pure ?_))); simp only [if_true]
          refine wp_if_neg (by simp [hkk]) ?_
          rw [← hH] at hK hKb qout ⊢
          refine search_ts R hx hu hn hK hKb qin qout f (c + (q + 1)) _ rfl (by omega) (by omega) fun j p0 h0 hk0 => ?_
          rw [hH]
          obtain ⟨c', a1, a2, a3⟩ := hre j p0 h0 hk0
          refine ⟨c', ?_, a2, a3⟩
          have hp0 : (es[j]?.map (·.1)).getD 0 = H := by rw [hat j p0 h0, hk0, hH]
          by_cases z : c' < c + q
          · exact absurd hp0 (hno (c' - c) j (by omega) (by rw [e1, show c + (c' - c) = c' by omega]; exact a3))
          · by_cases y : c' = c + q
            · exfalso
              rw [y] at a3
              have s0 := slot_live R.tab.ris a3
              rw [hsl] at s0
              injection s0 with s0
              rw [← s0, hp] at h0
              exact hkk ((congrArg Prod.snd (Option.some.inj h0)).trans hk0)
            · omega
      by_cases hl : t.led = true
      · refine wp_if_neg (by simp [hl]) ?_
        try refine wpAny_bind (wpAny_pure ?_)
        exact go_on
      · refine wp_if_pos (by simp [hl]) (wpAny_bind (hidden_ts hx (fun y hy => ?_) ?_))
        · obtain ⟨e, he, ee⟩ := List.mem_map.mp hy
          have he2 : e ∈ es.toList := by
            have : e ∈ es ∧ e.1 = H := by simpa using he
            simpa using this.1
          rw [R.rows] at he2
          obtain ⟨p2, hp2, e2⟩ := List.mem_map.mp he2
          exact ⟨p2.2, p2.1, by rw [← ee, ← e2], R.tup p2 hp2⟩
        · refine wp_if_neg (by decide) ?_
          try refine wpAny_bind (wpAny_pure ?_)
          exact go_on
    · have hpr' : t.probe (fun i => (es[i]?.map (·.1)).getD 0) H (stand.getD (t.probeStart H)) = some (.empty (way t.mask H n) none) := by
        have e2 : way t.mask H n = (nth t.mask (stepN t H c) (n - c)).j := by rw [e1, show c + (n - c) = n by omega]
        rw [hst, e2]
        exact hpr
      rw [hpr']
      refine wpAny_pure (qout fun hm => ?_)
      obtain ⟨p0, h0, hk0⟩ := List.mem_map.mp hm
      obtain ⟨j, hj, e0⟩ := List.getElem_of_mem h0
      have h00 : L[j]? = some p0 := by rw [List.getElem?_eq_getElem hj, e0]
      obtain ⟨c', a1, a2, a3⟩ := hre j p0 h00 hk0
      exact hno (c' - c) j (by omega) (by rw [e1, show c + (c' - c) = c' by omega]; exact a3) (by rw [hat j p0 h00, hk0, hH])
theorem find_ts (R : SetW P w s.heap a L es ep t) {x : Addr} {k : List Str} (hx : IsTS P w s.heap k x) (hu : A.units < cLine) {Q : SetFound → Shared → Prop} (qin : k ∈ L.map (·.2) → Q (.there none) s)
    (qout : ∀ n, k ∉ L.map (·.2) → way t.mask (tHs P w k) n ∉ t.place.toList → (∀ c, c < n → way t.mask (tHs P w k) c ∈ t.place.toList) → Q (.free (way t.mask (tHs P w k) n) false) s) : wpAny (model P w) A (setSearch a (.ref x) (tHs P w k) true) Q E s := by
  have hroom := R.room
  obtain ⟨n, hn, hK, hKb⟩ := R.tab.first (by rw [List.length_map]; omega) (tHs P w k)
  have hbig : n < 100000 := by
    have : 10 * SetTable.turns t.mask ≤ 1420 := by
      unfold SetTable.turns
      rcases R.tab.mok with e | e | e <;> omega
    omega
  unfold setSearch
  refine search_ts R hx hu hn hK hKb qin (fun h => qout n h hK hKb) 100000 0 none rfl (Nat.zero_le _) (by omega) fun i p hp hk => ?_
  have hil : i < t.place.toList.length := by
    have h1 := (List.getElem?_eq_some_iff.mp hp).1
    have h2 := R.tab.sz
    rw [List.length_map] at h2
    rw [Array.length_toList]
    omega
  have hj := List.getElem?_eq_getElem hil
  obtain ⟨c, hc, e⟩ := R.tab.before hK (show (L.map fun p => tHs P w p.2)[i]? = some (tHs P w k) by rw [List.getElem?_map, hp, ← hk]; rfl) hj
  exact ⟨c, Nat.zero_le _, hc, by rw [hj, e]⟩
theorem isTS_but {h h' : Heap} {k : List Str} {a b : Addr} {o : Obj} {es : Array (Int × Value)} {ep : Nat} {t : SetTable} (hb : IsTS P w h k b) (ho : h.get? a = some o) (hd : o.data = .set es ep t) (hs : Heap.SameBut a h h') : IsTS P w h' k b := by
  obtain ⟨o', its, n, ho', hc, hd', hi⟩ := hb
  have hne : b ≠ a := fun z => by
    rw [z, ho] at ho'
    cases ho'
    rw [hd] at hd'
    cases hd'
  exact ⟨o', its, n, (hs.2 b hne).trans ho', hc, hd', hi⟩
/-- the rows in another order -/
theorem reorder_ts (order : List Nat) (hr : es.toList = rwS P w L) (hp : order.Perm (List.range L.length)) :
    ∃ L2, (order.filterMap fun i => es[i]?) = rwS P w L2 ∧ L2.Perm L ∧ (L2.map fun p => tHs P w p.2) = order.map fun i => (es.map (·.1)).getD i 0 := by
  have ent : ∀ i (h : i < L.length), es[i]? = some (tHs P w (L[i]).2, Value.ref (L[i]).1) := fun i h => by
    rw [← Array.getElem?_toList, hr, rwS, List.getElem?_map, List.getElem?_eq_getElem h]
    rfl
  have key : ∀ l : List Nat, (∀ i ∈ l, i < L.length) → (l.filterMap fun i => es[i]?) = rwS P w (l.filterMap fun i => L[i]?) ∧ ((l.filterMap fun i => L[i]?).map fun p => tHs P w p.2) = l.map fun i => (es.map (·.1)).getD i 0 := by
    intro l
    induction l with
    | nil => exact fun _ => ⟨rfl, rfl⟩
    | cons i l ih =>
      intro hl
      have hi := hl i List.mem_cons_self
      obtain ⟨e1, e2⟩ := ih fun j hj => hl j (List.mem_cons_of_mem _ hj)
      have e5 : (es.map (·.1)).getD i 0 = tHs P w (L[i]).2 := by
        have : (es.map (·.1))[i]? = some (tHs P w (L[i]).2) := by rw [Array.getElem?_map, ent i hi]; rfl
        rw [Array.getD_eq_getD_getElem?, this]
        rfl
      rw [List.filterMap_cons_some (ent i hi), List.filterMap_cons_some (List.getElem?_eq_getElem hi), e1, List.map_cons, List.map_cons, e2, e5]
      exact ⟨rfl, rfl⟩
  obtain ⟨e1, e2⟩ := key order fun i hi => List.mem_range.mp (hp.mem_iff.mp hi)
  refine ⟨_, e1, ?_, e2⟩
  have h2 : ∀ m, m ≤ L.length → (List.range m).filterMap (fun i => L[i]?) = L.take m := by
    intro m
    induction m with
    | zero => exact fun _ => rfl
    | succ m ih =>
      intro hm
      rw [List.range_succ, List.filterMap_append, ih (Nat.le_of_succ_le hm), List.take_add_one, List.getElem?_eq_getElem hm, List.filterMap_cons_some (List.getElem?_eq_getElem hm)]
      rfl
  have h3 := hp.filterMap fun i => L[i]?
  rw [h2 L.length (Nat.le_refl _), List.take_length] at h3
  exact h3
theorem relay_ts {o : Obj} (ho : s.heap.get? a = some o) (hex : o.ExactSet) (hd : o.data = .set es ep t) (hrows : es.toList = rwS P w L) (hsz : t.place.size = es.size) (hdm : t.dummies = #[]) (hfl : es.size ≤ t.mask)
    (nd : (L.map (·.2)).Nodup) (tup : ∀ p ∈ L, IsTS P w s.heap p.2 p.1) (few : L.length < 64) {wanted m : Nat} (hw : SetTable.sizeAbove wanted - 1 = m) (hM : MaskOk m) (hw2 : SetTable.sizeAbove wanted ≤ 128) (hn : L.length * 5 < m * 3) {Q : Unit → Shared → Prop}
    (q : ∀ h' L' es' ep' t', Heap.SameBut a s.heap h' → SetW P w h' a L' es' ep' t' → L'.Perm L → Q () { s with heap := h' }) : wpAny (model P w) A (setRelay a wanted) Q E s := by
  have hsl := rwS_len hrows
  have hfits : t.fits es.size = true := by
    unfold SetTable.fits SetTable.fill
    rw [hdm, Bool.and_eq_true, beq_iff_eq, decide_eq_true_eq]
    exact ⟨hsz, by show t.place.size + 0 ≤ t.mask; omega⟩
  obtain ⟨t', order, e, hp, T, em, _, _, ed⟩ := relaid_ok t (hs := es.map (·.1)) (wanted := wanted) hw hM (by rw [Array.size_map, hsl]; omega)
  rw [Array.size_map, hsl] at hp
  obtain ⟨L2, r1, r2, r3⟩ := reorder_ts order.toList hrows hp
  rw [← r3] at T
  have r1' : (order.filterMap (es[·]?)).toList = rwS P w L2 := by rw [Array.toList_filterMap]; exact r1
  have hs2 : (order.filterMap (es[·]?)).size = es.size := by rw [rwS_len r1', r2.length_eq, hsl]
  rw [setRelay_eq]; refine wpAny_bind (wpAny_setState_of ho hd hfits (wp_if_neg (by rw [sizeLine_eq]; omega) ?_))
  try refine wpAny_bind (wpAny_pure ?_)
  rw [e]
  refine wpAny_bind (wp_if_neg (by rw [hs2]; simp) ?_)
  try refine wpAny_bind (wpAny_pure ?_)
  refine wpAny_pure (wpAny_storeSet_of ho hd ?_ (by rw [hs2, hsl, sizeLine_eq]; omega))
  have sb : Heap.SameBut a s.heap (s.heap.update a (Obj.putSet (order.filterMap (es[·]?)) t')) := Heap.SameBut.update ..
  exact q _ L2 _ (ep + 1) t' sb ⟨⟨_, store_at ho hd, ⟨hex.1, hex.2.1, hex.2.2⟩, rfl⟩, r1', T, (r2.map (·.2)).nodup_iff.mpr nd, fun p hpm => isTS_but (tup p (r2.mem_iff.mp hpm)) ho hd sb, by rw [r2.length_eq, em]; exact hn, by rw [r2.length_eq]; exact few⟩ r2
theorem add_ts (R : SetW P w s.heap a L es ep t) {x : Addr} {k : List Str} (hx : IsTS P w s.heap k x) (hu : A.units < cLine) (hfew : L.length + 1 < 64) {Q : Bool → Shared → Prop}
    (q : ∀ b h' L' es' ep' t', Heap.SameBut a s.heap h' → SetW P w h' a L' es' ep' t' → (k ∈ L.map (·.2) → L' = L) → (k ∉ L.map (·.2) → L'.Perm ((x, k) :: L)) → Q b { s with heap := h' }) : wpAny (model P w) A (setAddHashed a (.ref x) (tHs P w k)) Q E s := by
  obtain ⟨o, ho, hex, hd⟩ := R.ob
  have hsl := rwS_len R.rows
  have hroom := R.room
  unfold setAddHashed
  refine wpAny_holding ?_
  rw [show (100000 : Nat) = 99999 + 1 from rfl, setAddHashedIn_succ]; refine wpAny_bind (wpAny_setState_of ho hd R.fits (wp_if_neg (by simp [byScan, Value.scannable]) ?_))
  try refine wpAny_bind (wpAny_pure ?_)
  refine wpAny_bind (find_ts R hx hu (fun hm => wpAny_pure (q false s.heap L es ep t (Heap.SameBut.refl a s.heap) R (fun _ => rfl) fun z => absurd hm z)) fun n hm hK hb => wpAny_bind (wpAny_setState_of ho hd R.fits ?_))
  obtain ⟨q1, q2, q3, q4, q5, q6, q7, q8, q9⟩ := R.tab.put hK hb
  dsimp only
  generalize t.put (way t.mask (tHs P w k) n) = pt at q1 q3 q4 q5 q6 q7 q8 q9 ⊢
  obtain ⟨t1, p⟩ := pt
  have q1' : p = SetTable.below t.place (way t.mask (tHs P w k) n) := q1
  subst q1'
  have after : ∀ t2 : SetTable, t2.place = t1.place → t2.dummies = t1.dummies → t2.mask = t1.mask → t2.tooFull = t1.tooFull →
      wpAny (model P w) A (storeSet a (SetTable.insertAt es (SetTable.below t.place (way t.mask (tHs P w k) n)) (tHs P w k, .ref x)) t2 >>= fun _ =>
        if (!false && t2.tooFull) = true then (setRelay a (SetTable.grown (es.size + 1)) >>= fun _ => pure true) else pure true) Q E s := by
    intro t2 f1 f2 f3 f4
    have hin : (SetTable.insertAt es (SetTable.below t.place (way t.mask (tHs P w k) n)) (tHs P w k, Value.ref x)).toList = rwS P w (L.take (SetTable.below t.place (way t.mask (tHs P w k) n)) ++ (x, k) :: L.drop (SetTable.below t.place (way t.mask (tHs P w k) n))) := by
      rw [SetTable.toList_insertAt, R.rows]
      unfold rwS
      rw [List.map_append, List.map_cons, List.map_take, List.map_drop]
    have q3 : TabOk t1 _ := q3
    have q4 : t1.mask = t.mask := q4
    have q9 : t1.fill = _ := q9
    generalize SetTable.below t.place (way t.mask (tHs P w k) n) = p at q2 q3 hin ⊢
    have pm := put_perm L p (x, k)
    have hlen : (L.take p ++ (x, k) :: L.drop p).length = L.length + 1 := pm.length_eq
    rw [← show (L.take p ++ (x, k) :: L.drop p).map (fun p => tHs P w p.2) = (L.map fun p => tHs P w p.2).take p ++ tHs P w k :: (L.map fun p => tHs P w p.2).drop p by rw [List.map_append, List.map_cons, List.map_take, List.map_drop]] at q3
    have nd1 : ((L.take p ++ (x, k) :: L.drop p).map (·.2)).Nodup := (pm.map (·.2)).nodup_iff.mpr (by rw [List.map_cons]; exact List.nodup_cons.mpr ⟨hm, R.nd⟩)
    have hes := rwS_len hin
    rw [hlen] at hes
    generalize SetTable.insertAt es p (tHs P w k, Value.ref x) = es1 at hin hes ⊢
    generalize L.take p ++ (x, k) :: L.drop p = L1 at pm hlen q3 nd1 hin
    have T2 : TabOk t2 (L1.map fun p => tHs P w p.2) := ⟨by rw [f1]; exact q3.ris, by rw [f2]; exact q3.dm, by rw [f1]; exact q3.sz, by rw [f3]; exact q3.mok, by rw [f1, f3]; exact q3.bd, by rw [f1, f3]; exact q3.reach⟩
    have q4' : t2.mask = t.mask := f3.trans q4
    have hfill : t2.fill = L.length + 1 := by
      have e : t2.fill = t1.fill := by unfold SetTable.fill; rw [f1, f2]
      rw [e, q9, List.length_map]
    refine wpAny_bind (wpAny_storeSet_of ho hd ?_ (by rw [hes, sizeLine_eq]; omega))
    have sb : Heap.SameBut a s.heap (s.heap.update a (Obj.putSet es1 t2)) := Heap.SameBut.update ..
    have ho1 := store_at (es' := es1) (t' := t2) ho hd
    generalize s.heap.update a (Obj.putSet es1 t2) = h1 at sb ho1 ⊢
    have tup1 : ∀ p ∈ L1, IsTS P w h1 p.2 p.1 := fun p hp => by
      rcases List.mem_cons.mp (pm.mem_iff.mp hp) with e | hp
      · rw [e]; exact isTS_but hx ho hd sb
      · exact isTS_but (R.tup p hp) ho hd sb
    by_cases hf : t2.tooFull = true
    · have hfull : (L.length + 1) * 5 ≥ t2.mask * 3 := by
        have h := hf
        unfold SetTable.tooFull at h
        rw [decide_eq_true_eq, hfill] at h
        exact h
      rw [q4'] at hfull
      rw [hsl]
      have two : (t.mask = 7 ∧ L.length = 4) ∨ (t.mask = 31 ∧ L.length = 18) := by
        rcases R.tab.mok with e | e | e
        · left; rw [e] at hfull hroom; exact ⟨e, by omega⟩
        · right; rw [e] at hfull hroom; exact ⟨e, by omega⟩
        · exfalso; rw [e] at hfull; omega
      have go : ∀ m, SetTable.sizeAbove (SetTable.grown (L.length + 1)) - 1 = m → MaskOk m → SetTable.sizeAbove (SetTable.grown (L.length + 1)) ≤ 128 → (L.length + 1) * 5 < m * 3 →
          wpAny (model P w) A (setRelay a (SetTable.grown (L.length + 1))) (fun _ s' => wpAny (model P w) A (pure true) Q E s') E { s with heap := h1 } := fun m g1 g2 g3 g4 =>
        relay_ts (s := { s with heap := h1 }) ho1 ⟨hex.1, hex.2.1, hex.2.2⟩ rfl hin (by have := T2.sz; rw [List.length_map, hlen] at this; rw [this, hes]) T2.dm (by rw [hes, q4']; rcases two with ⟨e, e2⟩ | ⟨e, e2⟩ <;> omega) nd1 tup1 (by rw [hlen]; exact hfew) g1 g2 g3 (by rw [hlen]; exact g4)
          fun h2 L2 es2 ep2 t3 sb2 R2 pm2 => wpAny_pure (q true h2 L2 es2 ep2 t3 (sb.trans sb2) R2 (fun z => absurd z hm) fun _ => pm2.trans pm)
      have both : wpAny (model P w) A (setRelay a (SetTable.grown (L.length + 1))) (fun _ s' => wpAny (model P w) A (pure true) Q E s') E { s with heap := h1 } := by
        rcases two with ⟨_, e2⟩ | ⟨_, e2⟩
        · exact go 31 (by rw [e2, size_20]) (.inr (.inl rfl)) (by rw [e2, size_20]; decide) (by omega)
        · exact go 127 (by rw [e2, size_76]) (.inr (.inr rfl)) (by rw [e2, size_76]; decide) (by omega)
      first
        | exact wpAny_bind (wp_if_pos (by simp [hf]) both)
        | exact wp_if_pos (by simp [hf]) (wpAny_bind both)
    · have last : Q true { s with heap := h1 } := q true h1 L1 es1 (ep + 1) t2 sb ⟨⟨_, ho1, ⟨hex.1, hex.2.1, hex.2.2⟩, rfl⟩, hin, T2, nd1, tup1, by
          have h := hf
          unfold SetTable.tooFull at h
          rw [decide_eq_true_eq, hfill] at h
          rw [hlen]
          omega, by rw [hlen]; exact hfew⟩ (fun z => absurd z hm) fun _ => pm
      first
        | exact wp_if_neg (by simp [hf]) (wpAny_pure last)
        | exact wpAny_bind (wp_if_neg (by simp [hf]) (wpAny_pure (wpAny_pure last)))
  dsimp only
  by_cases hpl : t1.plain = true
  · first
      | refine wpAny_bind (wp_if_pos hpl (hashBy_ts hx fun c => ?_))
      | refine wp_if_pos hpl (wpAny_bind (hashBy_ts hx fun c => ?_))
    cases c with
    | true => simp only [if_true]; exact after t1 rfl rfl rfl rfl
    | false => simp only [Bool.false_eq_true, if_false]; exact after { t1 with plain := false } rfl rfl rfl rfl
  · first
      | refine wpAny_bind (wp_if_neg hpl (wpAny_pure ?_))
      | refine wp_if_neg hpl (wpAny_bind (wpAny_pure ?_))
    simp only [if_true]; exact after t1 rfl rfl rfl rfl
theorem fresh_ts {h : Heap} {a : Addr} {led : Bool} (ho : h.get? a = some { cls := .type "set", dict := none, data := .set #[] 0 (.fresh 0 0 led) }) : SetW P w h a [] #[] 0 (.fresh 0 0 led) :=
  ⟨⟨_, ho, ⟨rfl, rfl, rfl⟩, rfl⟩, rfl, ⟨List.Pairwise.nil, rfl, rfl, .inl rfl, (fun x hx => by cases hx), (fun i h j hi => by simp at hi)⟩, List.nodup_nil, (fun p hp => by cases hp), (by decide : 0 * 5 < 7 * 3), (by decide : 0 < 64)⟩
/-- found.add(k) -/
theorem setadd_ts (R : SetW P w s.heap a L es ep t) {x : Addr} {k : List Str} (hx : IsTS P w s.heap k x) (hu : A.units + 8 < cLine) (hfew : L.length + 1 < 64) {Q : Value → Shared → Prop}
    (q : ∀ h' L' es' ep' t' tk, Heap.SameBut a s.heap h' → SetW P w h' a L' es' ep' t' → (k ∈ L.map (·.2) → L' = L) → (k ∉ L.map (·.2) → L'.Perm ((x, k) :: L)) → Q .none { s with heap := h', toks := tk }) :
    wpAny (model P w) A (call (.builtin "set.add") [.ref a, .ref x]) Q E s := by
  obtain ⟨o, ho, hex, hd⟩ := id R.ob
  have hT : s.TypeIs (.ref a) "set" := ⟨o, ho, hex.1⟩
  refine wpAny_call_entry F.slot_set_add hT F.entry_set_add ?_ (F.args_set_add_2 _ _)
  unfold Builtin.«set.add» Builtin.Frozenset.oneOther
  simp only [List.isEmpty_nil, bind_assoc]
  unfold Builtin.Frozenset.addrOf setAdd
  refine wpAny_bind (wpAny_pure ?_)
  try dsimp only
  refine wpAny_bind (wpAny_pure ?_)
  try dsimp only
  have hu1 : A.in1.units < cLine := by show A.units + 1 < cLine; omega
  refine wpAny_bind (wpAny_holding (wpAny_bind (wpAny_pyHash_tuple hu1 hx ?_)))
  refine add_ts (s := { s with toks := s.toks + (k.length + 1) }) ⟨⟨o, ho, hex, hd⟩, R.rows, R.tab, R.nd, R.tup, R.room, R.few⟩ hx hu1 hfew fun b h' L' es' ep' t' sb R' i1 i2 => ?_
  show wpAny _ _ (ret Value.none) _ _ _
  exact wpAny_pure ⟨_, rfl, q h' L' es' ep' t' _ sb ⟨R'.ob, R'.rows, R'.tab, R'.nd, R'.tup, R'.room, R'.few⟩ i1 i2⟩
end
end Sx
/-! len(set(texts)) -/
namespace Sx
variable [Tbs]
open PySem PySem.Spec PyProof.Rows L2

/-! ### each once -/
section
variable {α : Type} [DecidableEq α]
def ddAdd (acc : List α) (x : α) : List α := if x ∈ acc then acc else acc ++ [x]
def dd (l : List α) : List α := l.foldl ddAdd []
theorem mem_ddAdd {acc : List α} {x y : α} : y ∈ ddAdd acc x ↔ y ∈ acc ∨ y = x := by
  unfold ddAdd
  by_cases h : x ∈ acc
  · rw [if_pos h]
    exact ⟨.inl, fun q => q.elim id fun e => e ▸ h⟩
  · rw [if_neg h, List.mem_append, List.mem_singleton]
theorem mem_ddFold {y : α} : ∀ {l acc : List α}, y ∈ l.foldl ddAdd acc ↔ y ∈ acc ∨ y ∈ l
  | [], acc => by simp
  | x :: l, acc => by
    rw [List.foldl_cons, mem_ddFold, mem_ddAdd, List.mem_cons]
    exact ⟨fun h => h.elim (fun h => h.elim .inl fun e => .inr (.inl e)) fun h => .inr (.inr h), fun h => h.elim (fun h => .inl (.inl h)) fun h => h.elim (fun e => .inl (.inr e)) .inr⟩
theorem mem_dd {y : α} {l : List α} : y ∈ dd l ↔ y ∈ l := by
  unfold dd
  rw [mem_ddFold]
  simp
theorem dd_take {l : List α} {i : Nat} {x : α} (h : l[i]? = some x) : dd (l.take (i + 1)) = ddAdd (dd (l.take i)) x := by
  unfold dd
  rw [List.take_add_one, h, Option.toList_some, List.foldl_append]
  rfl
theorem ddFold_nd : ∀ {l acc : List α}, acc.Nodup → (l.foldl ddAdd acc).Nodup
  | [], _, h => h
  | x :: l, acc, h => by
    refine ddFold_nd (l := l) (acc := ddAdd acc x) ?_
    unfold ddAdd
    by_cases e : x ∈ acc
    · rw [if_pos e]; exact h
    · rw [if_neg e, List.nodup_append]
      exact ⟨h, by simp, fun a ha b hb z => e (by rw [List.mem_singleton.mp hb] at z; exact z ▸ ha)⟩
theorem dd_nd (l : List α) : (dd l).Nodup := ddFold_nd List.nodup_nil
theorem ddFold_le : ∀ (l acc : List α), (l.foldl ddAdd acc).length ≤ acc.length + l.length ∧ ((l.foldl ddAdd acc).length = acc.length + l.length → acc.Nodup → (acc ++ l).Nodup)
  | [], acc => ⟨Nat.le_refl _, fun _ h => by rw [List.append_nil]; exact h⟩
  | x :: l, acc => by
    obtain ⟨h1, h2⟩ := ddFold_le l (ddAdd acc x)
    rw [List.foldl_cons, List.length_cons]
    unfold ddAdd at h1 h2 ⊢
    by_cases e : x ∈ acc
    · rw [if_pos e] at h1 h2 ⊢
      exact ⟨by omega, fun z => by omega⟩
    · rw [if_neg e] at h1 h2 ⊢
      rw [List.length_append, List.length_singleton] at h1 h2
      refine ⟨by omega, fun z hn => ?_⟩
      have h3 := h2 (by omega) (by
        rw [List.nodup_append]
        exact ⟨hn, by simp, fun a ha b hb q => e (by rw [List.mem_singleton.mp hb] at q; exact q ▸ ha)⟩)
      rwa [List.append_assoc] at h3
theorem dd_len (l : List α) : (dd l).length ≤ l.length := by
  have := (ddFold_le l []).1
  simpa [dd] using this
theorem dd_full {l : List α} : (dd l).length = l.length ↔ l.Nodup := by
  constructor
  · intro h
    have := (ddFold_le l []).2 (by simpa [dd] using h) List.nodup_nil
    simpa using this
  · intro h
    have key : ∀ {l acc : List α}, (acc ++ l).Nodup → (l.foldl ddAdd acc).length = acc.length + l.length := by
      intro l
      induction l with
      | nil => intro acc _; rfl
      | cons x l ih =>
        intro acc h
        have e : x ∉ acc := fun z => by
          rw [List.nodup_append] at h
          exact h.2.2 x z x List.mem_cons_self rfl
        rw [List.foldl_cons, show ddAdd acc x = acc ++ [x] by unfold ddAdd; rw [if_neg e], ih (acc := acc ++ [x]) (by rw [List.append_assoc]; exact h), List.length_append, List.length_singleton, List.length_cons]
        omega
    have := key (l := l) (acc := []) (by simpa using h)
    simpa [dd] using this
end

/-! ### set(texts) -/
abbrev eSet (led : Bool) : Obj := { cls := .type "set", dict := none, data := .set #[] 0 (.fresh 0 0 led) }
section
variable {prog : Program} {w : World} {A : Around} {R : Result → Shared → Prop} {it : Addr} {fp wr : List Addr} {G : Array GenState → Array GenState → Prop} {n : Nat} {Pv : Nat → Value → Prop} {St : Nat → Shared → Prop}
theorem set_strs (W : WalksS prog w A.in1 it fp wr G n Pv St) (D : Addr) (hD : D ∉ fp) (xs : List Str) (hn : xs.length = n) (hb : n < 4000) (hv : ∀ i v, Pv i v → ∃ x t, xs[i]? = some x ∧ v = .str x t) :
    ∀ (m i : Nat) (s : Shared), n - i = m → i ≤ n → St i s → s.heap.SetOf (PySem.strKind prog w) D (fun x => decide (x ∈ dd (xs.take i))) (dd (xs.take i)).length →
      (∀ s', Moved (D :: wr) G s s' → s'.heap.SetOf (PySem.strKind prog w) D (fun x => decide (x ∈ dd (xs.take n))) (dd (xs.take n)).length → R (.ok (.ret .none)) s') →
      codeAny (model prog w) A (.builtin "set.update.loop" ⟨[.ref D, .ref it], []⟩) R s := by
  have hDw : D ∉ wr := fun h => hD (W.sub _ h)
  intro m
  induction m with
  | zero =>
    intro i s hm hi st hS q
    obtain rfl : i = n := by omega
    refine codeAny_builtin PyProof.Rows.F.entry_set_update_loop ?_; rw [Around.under_plainId PyProof.Rows.F.plain_set_update_loop _]
    show wpAny _ A.in1 (pyNext (.ref it) >>= _) _ _ s; refine wpAny_bind (W.done s _ _ st fun s' mv => ?_)
    show wpAny _ A.in1 (ret Value.none) _ _ s'
    obtain ⟨o, es, ep, t, ho, r⟩ := hS
    exact wpAny_pure (q s' (mv.mono fun b hb => List.mem_cons_of_mem _ hb) ⟨o, es, ep, t, mv.heap D _ hDw ho, r⟩)
  | succ m ih =>
    intro i s hm hi st hS q
    have hlt : i < n := by omega
    refine codeAny_builtin PyProof.Rows.F.entry_set_update_loop ?_; rw [Around.under_plainId PyProof.Rows.F.plain_set_update_loop _]
    show wpAny _ A.in1 (pyNext (.ref it) >>= _) _ _ s; refine wpAny_bind (W.item i s _ _ hlt st fun v s' hP st' mv => ?_)
    obtain ⟨x, t, hx, rfl⟩ := hv i v hP
    have hS' : s'.heap.SetOf (PySem.strKind prog w) D (fun x => decide (x ∈ dd (xs.take i))) (dd (xs.take i)).length := by
      obtain ⟨o, es, ep, tb, ho, r⟩ := hS
      exact ⟨o, es, ep, tb, mv.heap D _ hDw ho, r⟩
    show wpAny _ A.in1 (holding [Value.str x t] (setAdd D (.str x t)) >>= _) _ _ s'
    refine wpAny_bind (wpAny_holding ?_)
    unfold setAdd
    have hkey : (PySem.strKind prog w).is x (.str x t) = true := strKind_is _ _ _ _
    have hl := dd_len (xs.take i)
    rw [List.length_take] at hl
    refine wpAny_holding (wpAny_bind ((PySem.strKind prog w).pyHash (k := x) hkey ?_))
    refine wpAny_setAddHashed_of (knd := PySem.strKind prog w) (s := { s' with toks := s'.toks + 1 }) hkey rfl hS' (by unfold scanBound; omega) fun h' sb hS2 => ?_
    have hS3 : h'.SetOf (PySem.strKind prog w) D (fun x => decide (x ∈ dd (xs.take (i + 1)))) (dd (xs.take (i + 1))).length := by
      refine SetOf_congr hS2 (fun y => ?_) ?_
      · rw [dd_take hx, ← Bool.decide_or]
        exact decide_eq_decide.mpr mem_ddAdd.symm
      · rw [dd_take hx]
        unfold ddAdd
        by_cases e : x ∈ dd (xs.take i)
        · rw [if_pos e, if_pos (decide_eq_true e)]
        · rw [if_neg e, if_neg (by simp [e]), List.length_append]
          rfl
    refine wpAny_pure ⟨plainId_quiet PyProof.Rows.F.plain_set_update_loop _, ih (i + 1) _ (by omega) hlt (W.frame _ s' _ _ st' (Nat.le_succ _) fun b hb o e => ?_) hS3 fun s2 mv2 hS4 => ?_⟩
    · rw [sb.2 b (fun z : b = D => hD (z ▸ hb))]
      exact e
    · refine q s2 (Moved.trans W.gtrans ((mv.mono fun b hb => List.mem_cons_of_mem _ hb).then_heap (Nat.le_succ _) fun b o hb e => ?_) mv2) hS4
      rw [sb.2 b (fun z : b = D => hb (z ▸ List.mem_cons_self))]
      exact e
end
section
variable {prog : Program} {w : World} {A : Around} {E : Value → Shared → Prop} {s : Shared}
theorem strs_get : ∀ {us : List Value} {xs : List Str}, StrsAre us xs → ∀ (i : Nat) (v : Value), us[i]? = some v → ∃ x t, xs[i]? = some x ∧ v = .str x t
  | _, _, .nil, i, v, h => by simp at h
  | _, _, .cons n t hr, 0, v, h => by simp at h; exact ⟨n, t, rfl, h.symm⟩
  | _, _, .cons n t hr, i + 1, v, h => by
    obtain ⟨x, t', e1, e2⟩ := strs_get hr i v (by simpa using h)
    exact ⟨x, t', by simpa using e1, e2⟩
theorem set_callL {b : Bool} (hbt : b = true) {l : Addr} {items : Array Value} {xs : List Str} {Q : Value → Shared → Prop} (hh : A.handled = none) (hl : SqA b s.heap l items) (hi : StrsAre items.toList xs) (hb : xs.length < 4000)
    (q : ∀ (h' : Heap) (tk : Nat), h'.SetOf (PySem.strKind prog w) s.heap.objs.size (fun x => decide (x ∈ dd xs)) (dd xs).length → (∀ c o, c < s.heap.objs.size → s.heap.get? c = some o → h'.get? c = some o) → Q (.ref s.heap.objs.size) { s with heap := h', toks := tk }) :
    wpAny (model prog w) A (call (.type "set") [.ref l]) Q E s := by
  obtain ⟨c, tl, hmro⟩ := PySem.F.called_set.mro
  have hmade := PySem.F.called_set.made; have hsub := PySem.F.called_set.sub
  refine wpAny_call (codeAny_of_tree ?_); show wpAny _ _ (callAny (.type "set") _) _ _ _
  refine wpAny_pure ⟨Code.quiet_builtin _ (by decide +kernel), codeAny_builtin PySem.F.entry_type_call ?_⟩; rw [Around.under_plain (weight_type_call_type "set" [.ref l] []) rfl]
  have h1 := PySem.F.called_set.notType; have h2 := PySem.F.called_set.canCreate; have hct := PySem.F.typeCall_set_1 (.ref l)
  repeat (any_goals (first | assumption | wp_step))
  refine codeAny_mono (code_set_new_1 (.ref l) (E := E) (Q₁ := fun obj s₁ => ∃ led : Bool, obj = .ref s.heap.objs.size ∧ s₁ = { s with heap := s.heap.push (eSet led) }) fun led => ⟨led, rfl, rfl⟩) fun r s₁ hr => ?_
  cases r with
  | error e => exact hr
  | ok fl =>
    cases fl with
    | ret obj =>
      obtain ⟨led, rfl, rfl⟩ := hr
      have hS : (s.heap.push (eSet led)).get? s.heap.objs.size = some (eSet led) := Heap.get?_push_size _ rfl
      have hT : Shared.TypeIs { s with heap := s.heap.push (eSet led) } (.ref s.heap.objs.size) "set" := ⟨_, hS, rfl⟩
      have hli := PySem.F.called_set.init.lookup; have hbi := PySem.F.called_set.init.bind (.ref s.heap.objs.size)
      repeat (any_goals (first | assumption | wp_step))
      refine codeAny_mono (codeAny_call_builtin (R := wants (fun r s₂ => r = .none ∧ ∃ h' tk, s₂ = { s with heap := h', toks := tk } ∧ h'.SetOf (PySem.strKind prog w) s.heap.objs.size (fun x => decide (x ∈ dd xs)) (dd xs).length ∧
          (∀ c o, c < s.heap.objs.size → s.heap.get? c = some o → h'.get? c = some o)) E) PySem.F.called_set.init.plain PySem.F.entry_set_init (check_set_init_1 hT ?_)) fun r₂ s₂ hr₂ => ?_
      · have hl1 : SqA b (s.heap.push (eSet led)) l items := hl.at fun o e => Heap.get?_push_of_some _ e
        have hlS := hl.lt
        have hsz : xs.length = items.size := by rw [← StrsAre.len_eq hi, Array.length_toList]
        have hval : ∀ (i : Nat) (v : Value), items[i]? = some v → ∃ x t, xs[i]? = some x ∧ v = .str x t := fun i v hv => strs_get hi i v (by rw [Array.getElem?_toList]; exact hv)
        have hh3 : A.in1.in1.in1.handled = none := by simp [hh]
        have hneI : l ≠ (s.heap.push (eSet led)).objs.size := by rw [Heap.size_push]; exact Nat.ne_of_lt (Nat.lt_succ_of_lt hlS)
        have hSf : s.heap.objs.size ∉ [(s.heap.push (eSet led)).objs.size, l] := by
          rw [Heap.size_push]
          simp only [List.mem_cons, List.not_mem_nil, or_false, not_or]; exact ⟨Nat.ne_of_lt (Nat.lt_succ_self _), Nat.ne_of_gt hlS⟩
        have hend : ∀ (o1 : Obj) (s' : Shared), Moved (s.heap.objs.size :: [(s.heap.push (eSet led)).objs.size]) (fun a b => b = a) { s with heap := (s.heap.push (eSet led)).push o1 } s' → s'.heap.SetOf (PySem.strKind prog w) s.heap.objs.size (fun x => decide (x ∈ dd (xs.take items.size))) (dd (xs.take items.size)).length →
            ∃ h' tk, s' = { s with heap := h', toks := tk } ∧ h'.SetOf (PySem.strKind prog w) s.heap.objs.size (fun x => decide (x ∈ dd xs)) (dd xs).length ∧ (∀ c o, c < s.heap.objs.size → s.heap.get? c = some o → h'.get? c = some o) := by
          intro o1 s' hm hS'
          obtain ⟨h', g', d', tk', os'⟩ := s'
          have eg : g' = s.gens := hm.gens
          have ed : d' = s.drawn := hm.drawn; have eo : os' = s.os := hm.os
          subst eg ed eo
          rw [← hsz, List.take_length] at hS'
          refine ⟨h', tk', rfl, hS', fun c o hc e => hm.heap c o ?_ (Heap.get?_push_of_some _ (Heap.get?_push_of_some _ e))⟩
          simp only [List.mem_cons, List.not_mem_nil, or_false, not_or]
          exact ⟨Nat.ne_of_lt hc, by rw [Heap.size_push]; exact Nat.ne_of_lt (Nat.lt_succ_of_lt hc)⟩
        obtain ⟨⟨oc, od, odt, osl⟩, hol, hcl, nl, hdl⟩ := id hl
        have hcl' : oc = .type (sqN b) := hcl
        have hdl' : odt = .seq items nl := hdl
        subst hcl' hdl'
        have hol' : (s.heap.push (eSet led)).get? l = some { cls := .type (sqN b), dict := od, data := .seq items nl, slots := osl } := Heap.get?_push_of_some _ hol
        have start : ∀ o1 : Obj, ((s.heap.push (eSet led)).push o1).SetOf (PySem.strKind prog w) s.heap.objs.size (fun x => decide (x ∈ dd (xs.take 0))) (dd (xs.take 0)).length := fun o1 =>
          SetOf_congr ((setObjOf_fresh (knd := PySem.strKind prog w) led).setOf (Heap.get?_push_of_some _ hS) (by unfold scanBound; omega)) (fun _ => rfl) rfl
        cases b with
        | true =>
          have hsls := PySem.F.sub_list_set; have hslf := PySem.F.sub_list_frozenset
          have hne : (Value.type "list" == Value.type "dict") = false := by decide
          have hl2 : (s.heap.push (eSet led)).IsList l items := hl1
          have hol2 : (s.heap.push (eSet led)).get? l = some { cls := .type "list", dict := od, data := .seq items nl, slots := osl } := hol'
          clear hol hol' hl
          unfold Builtin.«set.__init__» noKeywords Builtin.Frozenset.updateFrom
          generalize hPI : pyIter = PI
          wp_walk
          subst hPI
          refine wpAny_pyIter_list hl2 (wpAny_bind (wpAny_runValue ?_))
          refine set_strs ((Walks.list hh3 _ l hneI items).toS) s.heap.objs.size hSf xs hsz (by omega) hval (items.size - 0) 0 _ (by omega) (Nat.zero_le _) ⟨⟨_, Heap.get?_push_size _ rfl, rfl, rfl⟩, (hl2.push _)⟩ (start _) fun s' hm hS' => ?_
          obtain ⟨h', tk, rfl, hS2, hk⟩ := hend _ s' hm hS'
          show wpAny _ _ _ _ _ _; refine wpAny_pure ?_
          show wpAny _ _ (ret Value.none) _ _ _; exact wpAny_pure ⟨rfl, h', tk, rfl, hS2, hk⟩
        | false => cases hbt
      · cases r₂ with
        | error e => exact hr₂
        | ok fl₂ =>
          cases fl₂ with
          | ret r =>
            obtain ⟨rfl, h', tk, rfl, hS', hk'⟩ := hr₂
            repeat (any_goals (first | assumption | wp_step))
            exact q _ _ hS' hk'
          | _ => exact hr₂.elim
    | _ => exact hr.elim
end
end Sx
/-! comprehensions that gather into an object of their own: sets of tuples of texts, dicts with tuples as keys -/
namespace Sx
variable [Tbs]
open PySem PySem.Spec PyProof.Rows L2

abbrev noX : Value → Shared → Prop := fun _ _ => False
/-- what is gathered: where, and what follows -/
abbrev TM := L2.St → Hp → Addr → (Hp → Prop) → Prop
/-- a turn of the machine's loop -/
def mTurn (prog : Program) (w : World) (A : Around) (tg : Expr) (ifs : List Expr) (em : Env → Addr → Shared → (Shared → Prop) → Prop) (R : Result → Shared → Prop) (it D : Addr) (env : Env) (Nx : Shared → Prop) (s : Shared) : Prop :=
  wpAny (model prog w) A (pyNext (.ref it)) (fun r s1 => match r with
    | none => R (.ok .next) s1
    | some v => wpAny (model prog w) A (letOwnedTupleGo tg (.ref it) v) (fun _ s2 => wpAny (model prog w) A (assign tg env v) (fun _ s3 =>
        wpAny (model prog w) A (forIn ifs true fun c r => if r = true then do let ok ← isTrue c env (eval c env); pure (ForInStep.yield ok) else pure (ForInStep.yield r)) (fun ok s4 => if ok = true then em env D s4 Nx else Nx s4) noX s3) noX s2) noX s1) noX s
/-- a form of gathering: the expression, its new object, what a turn gathers -/
structure Gath (prog : Program) (w : World) (A : Around) (CE tg : Expr) (ifs : List Expr) (mk : Sem Value) (o0 : Addr → HO) (em : Env → Addr → Shared → (Shared → Prop) → Prop) : Prop where
  new : ∀ (s : Shared) (Q : Value → Shared → Prop) (E : Value → Shared → Prop), (∀ h', (∀ b u, s.heap.get? b = some u → h'.get? b = some u) → h'.objs.size = s.heap.objs.size + 1 → (s.heap.objs.size == sysModules) = false → (∀ H, ObjOk prog w H h' s.heap.objs.size (o0 s.heap.objs.size)) → Q (.ref s.heap.objs.size) { s with heap := h' }) →
    (s.heap.objs.size == sysModules) = false → wpAny (model prog w) A mk Q E s
  loop : ∀ (R : Result → Shared → Prop) (it D : Addr) (env : Env) (I : Nat → Shared → Prop), (∀ n s, I n s → mTurn prog w A tg ifs em R it D env (fun s' => ∃ m, m < n ∧ I m s') s) → ∀ n s, I n s → codeAny (model prog w) A (.compLoop CE 0 (.ref it) (.ref D) env) R s
  start : ∀ (R : Result → Shared → Prop) (it D : Addr) (env : Env) (s : Shared), codeAny (model prog w) A (.compLoop CE 0 (.ref it) (.ref D) env) R s →
    wpAny (model prog w) A (pyIter (.ref it)) (fun v s' => codeAny (model prog w) A (.compLoop CE 0 v (.ref D) env) R s') (notedBy (model prog w) A env fun x s' => R (.error x) s') s → codeAny (model prog w) A (.compStart CE 0 (.ref it) (.ref D) env) R s
section
variable {X : Cx}
/-- the gathering as it is read -/
def tGa (wi : TI) (g : TG) (tt : TT) (tm : TM) (o0 : Addr → HO) (vs : List Nat) : TE := fun σ H Q => wi σ H fun J H1 => ∀ D, H1 D = none → ∃ W : Nat → Nat → Hp → Prop, (∃ m, W 0 m (upd H1 D (o0 D))) ∧ ∀ i m H, W i m H →
  (J.stop i H ∧ Q (.ref D) H) ∨ (J.go i H ∧ ∃ Nx : Hp → Prop, (∀ H', Nx H' → ∃ m', m' < m ∧ W (i + 1) m' H') ∧ ∀ x H', J.yld i H x H' → g x (wipe σ vs) H' fun σ2 H2 => wipe σ2 vs = wipe σ vs ∧ tt σ2 H2 fun b H3 => if b = true then tm σ2 H3 D Nx else Nx H3)
/-- what em does, by its reading tm -/
def Reads (X : Cx) (em : Env → Addr → Shared → (Shared → Prop) → Prop) (tm : TM) : Prop := ∀ (pins : List (Addr × Obj)) (s : Shared) (σ : L2.St) (H : Hp) (D : Addr) (Nx : Hp → Prop) (Post : Shared → Prop), L2.Inv X pins σ H s → tm σ H D Nx → (∀ s' H', L2.Inv X pins σ H' s' → Nx H' → Post s') → em X.env D s Post
theorem pe_gath {CE tg iter : Expr} {ifs : List Expr} {scope : Scope} {own : List (Str × Nat)} {wi : TI} {g : TG} {tt : TT} {tm : TM} {mk : Sem Value} {o0 : Addr → HO} {em : Env → Addr → Shared → (Shared → Prop) → Prop} {pos' : Pos} {gs : List Comprehension}
    (hc : X.calm = true) (hN : X.N.Nodup) (hi : PI X tg iter wi) (ok : BlkOk X.N X.env.scope scope own) (ga : Gath X.prog X.w X.A CE tg ifs mk o0 em)
    (hev : eval CE X.env = comprehension CE scope X.env pos' mk false (eval iter X.env)) (hcl : clausesOf CE = ⟨tg, iter, ifs, 0⟩ :: gs)
    (hg : ∀ (s : Shared) (H : Hp) (C : Addr) (cl : List (Str × Addr)) (fp : List Addr), PG (X.blk s H scope (compEnvC scope cl C X.env) fp) tg g)
    (ht : ∀ (s : Shared) (H : Hp) (C : Addr) (cl : List (Str × Addr)) (fp : List Addr), PTs (X.blk s H scope (compEnvC scope cl C X.env) fp) ifs tt)
    (hm : ∀ (s : Shared) (H : Hp) (C : Addr) (cl : List (Str × Addr)) (fp : List Addr), Reads (X.blk s H scope (compEnvC scope cl C X.env) fp) em tm)
    (hs : ∀ x, foldedSetIterable iter X.env x = pure x) : PE X CE (tGa wi g tt tm o0 (own.map (·.2))) := by
  refine ⟨fun pins s σ H Q I h => ?_⟩
  rw [hev]
  have fr : ∀ z ∈ scope.names, z.2 = .free → ∃ c, X.env.cells.lookup z.1 = some c := fun z hz e => (ok.free z hz e).elim (fun k => I.ok.has _ (.inl k)) fun k => I.ok.has _ (.inr k)
  refine wpAny_comprehension_free (use := none) hcl hs (closure_ok fr) ok.kind (fun z hz e => by rw [ok.uniq z hz, e]) (thn (hi.run pins s σ H _ I h) fun xv s1 hx => thn hx fun itv s2 ⟨it, fp, tn, J, H2, e, I2, T, st2, f2, q⟩ => ?_)
  subst e
  refine ga.new s2 _ _ (fun h3 up hsz _ newo => newEnv_comp ?_) (beq_eq_false_iff_ne.mpr (Ne.symm (Nat.ne_of_lt I2.big)))
  have Dn : H2 s2.heap.objs.size = none := I2.hok.fresh (Nat.le_refl _)
  have I3 : L2.Inv X pins σ (upd H2 s2.heap.objs.size (o0 s2.heap.objs.size)) { s2 with heap := h3 } := I2.laid (t' := s2.toks) up (Nat.le_refl _) (newo _)
  have young : ∀ b ∈ fp, b < s2.heap.objs.size := fun b hb => let ⟨_, e, _⟩ := T.obj _ _ st2 b hb; Heap.lt_size e
  generalize s2.heap.objs.size = D at hsz I3 Dn young ⊢
  obtain ⟨W, ⟨m0, w0⟩, turn⟩ := q D Dn
  generalize hH3 : upd H2 D (o0 D) = H3 at I3 w0
  have f3 : ∀ b ∈ fp, FpOk X pins H3 b ∧ b < h3.objs.size := fun b hb => by
    have hlt := young b hb
    refine ⟨⟨?_, (f2 b hb).2⟩, by rw [hsz]; exact Nat.lt_succ_of_lt hlt⟩
    rw [← hH3, upd_ne (Nat.ne_of_lt hlt)]
    exact (f2 b hb).1
  have st3 : tn 0 h3 := T.keep _ _ _ st2 fun b _ o e => up b o e
  have I4 := block_start I3 ok hN f3
  generalize hcl0 : cellsFrom (h3.objs.size + 1) scope.names (cloFrom X.env.cells scope.names []) = cl0 at I4 ⊢
  have pg := hg { s2 with heap := h3 } H3 h3.objs.size cl0 fp; have pt := ht { s2 with heap := h3 } H3 h3.objs.size cl0 fp; have pm := hm { s2 with heap := h3 } H3 h3.objs.size cl0 fp
  show codeAny _ _ (.compStart CE 0 (.ref it) (.ref D) (compEnvC scope cl0 h3.objs.size X.env)) (compPost (model X.prog X.w) X.A X.xe none _ (.ref D) h3.objs.size) { s2 with heap := pushCells (h3.push { cls := .type "dict", data := .dict #[] }) scope.names }
  have eL : (compEnvC scope cl0 h3.objs.size X.env).locals = h3.objs.size := rfl
  generalize compEnvC scope cl0 h3.objs.size X.env = ce at I4 pg pt pm eL ⊢
  have st4 : tn 0 (pushCells (h3.push { cls := .type "dict", data := .dict #[] }) scope.names) := T.keep _ _ _ st3 fun b _ o e => pushCells_keeps _ _ _ _ (Heap.get?_push_of_some _ e)
  generalize hs4 : ({ s2 with heap := pushCells (h3.push { cls := .type "dict", data := .dict #[] }) scope.names } : Shared) = s4 at I4 ⊢
  have st4 : tn 0 s4.heap := by rw [← hs4]; exact st4
  have still : ∀ {σ' : L2.St} {H' : Hp} {s' : Shared}, L2.Inv (X.blk { s2 with heap := h3 } H3 scope ce fp) [] σ' H' s' → (∀ b ∈ fp, H' b = none) → ∀ b ∈ fp, FpOk (X.blk { s2 with heap := h3 } H3 scope ce fp) [] H' b := fun {σ' H' s'} I' hn b hb =>
    ⟨hn b hb, (I'.ok.exf b hb).1, I'.ok.exfs b hb, .inl hb, fun x c e => (I'.ok.exf b hb).2 x c e, fun p hp => absurd (show p ∈ ([] : List (Addr × Obj)) ++ [] from hp) (by simp)⟩
  have walk : codeAny (model X.prog X.w) X.A (.compLoop CE 0 (.ref it) (.ref D) ce) (compPost (model X.prog X.w) X.A X.xe none (EP X pins σ Q) (.ref D) h3.objs.size) s4 := by
    refine ga.loop _ it D ce (fun n s' => ∃ i H', L2.Inv (X.blk { s2 with heap := h3 } H3 scope ce fp) [] (wipe σ (own.map (·.2))) H' s' ∧ tn i s'.heap ∧ (∀ b ∈ fp, H' b = none) ∧ W i n H') ?_ m0 s4 ⟨0, H3, I4, st4, fun b hb => (f3 b hb).1.1, w0⟩
    rintro n s5 ⟨i, H5, I5, st5, n5, w5⟩
    unfold mTurn
    rcases turn i n H5 w5 with ⟨stop, qq⟩ | ⟨go, Nx, hNx, step⟩
    · refine thnF (T.done (X.blk { s2 with heap := h3 } H3 scope ce fp) rfl rfl rfl hc i [] s5 _ H5 noX I5 (still I5 n5) st5 stop) fun r s6 ⟨hr, I6⟩ => ?_
      subst hr
      have I7 : L2.Inv X pins σ H5 s6 := I3.call' (ch := fp) I6.os I6.base I6.hok I6.bare fun b hb => ⟨(f3 b hb).1.2.2.2.1, (f3 b hb).1.2.1, (f3 b hb).1.2.2.2.2.1, (f3 b hb).1.2.2.2.2.2⟩
      have nC : H5 h3.objs.size = none := eL ▸ (show H5 ce.locals = none from I6.free)
      obtain ⟨mm, hn, _⟩ := I6.loc
      have hn : s6.heap.Ns ce.locals mm := hn
      rw [eL] at hn
      obtain ⟨e0, e1, e2, e3, e4, e5⟩ := I3.fpOk (Nat.le_refl _) nC
      exact ⟨mm, hn, fun h'' sb => ⟨.ref D, H5, I7.turned (t' := s6.toks) (fun b o hb e => (sb.2 b hb).trans e) e0 e1 e3 e4 e5, rfl, qq⟩⟩
    · refine thnF (T.item (X.blk { s2 with heap := h3 } H3 scope ce fp) rfl rfl rfl hc i [] s5 _ H5 noX I5 (still I5 n5) st5 go) fun r s6 ⟨u, hr, h6⟩ => ?_
      subst hr
      refine thnF h6 fun _ s7 ⟨x, H7, I7, r7, y7, st7, n7⟩ => ?_
      have I8 := I7.pinned (still I7 n7) (T.obj _ _ st7)
      refine thnF (pg.run _ s7 _ H7 x u _ I8 r7 (step x H7 y7)) fun _ s8 ⟨σ8, H8, I9, hw8, q8⟩ => ?_
      refine thnF (pt.run _ s8 σ8 H8 _ I9 q8) fun b s9 ⟨H9, I10, q9⟩ => ?_
      have over : ∀ (s' : Shared) (H' : Hp), L2.Inv (X.blk { s2 with heap := h3 } H3 scope ce fp) ([] ++ pinsAt fp s7.heap) σ8 H' s' → Nx H' → ∃ m, m < n ∧ ∃ i H', L2.Inv (X.blk { s2 with heap := h3 } H3 scope ce fp) [] (wipe σ (own.map (·.2))) H' s' ∧ tn i s'.heap ∧ (∀ b ∈ fp, H' b = none) ∧ W i m H' := fun s' H' I' nx => by
        obtain ⟨m', hm', w'⟩ := hNx H' nx
        have pinned : ∀ b ∈ fp, ∀ o, s7.heap.get? b = some o → s'.heap.get? b = some o ∧ H' b = none := fun b hb o e => let z := I'.pin (b, o) (List.mem_append_right _ (List.mem_append_right _ (mem_pinsAt hb e))); ⟨z.1, z.2.1⟩
        refine ⟨m', hm', i + 1, H', (I'.unpinned (pins := [])).weak (by rw [← hw8, wipe_length]) (fun j v e => ?_), T.keep _ _ _ st7 fun b hb o e => (pinned b hb o e).1, fun b hb => ?_, w'⟩
        · rw [← hw8] at e
          exact (wipe_some e).1
        · obtain ⟨o, e, _⟩ := T.obj _ _ st7 b hb
          exact (pinned b hb o e).2
      cases b with
      | false =>
        simp only [Bool.false_eq_true, if_false] at q9 ⊢; exact over _ _ I10 q9
      | true =>
        simp only [if_true] at q9 ⊢; exact pm _ s9 σ8 H9 D Nx _ I10 q9 fun s' H' I' nx => over s' H' I' nx
  exact ga.start _ it D ce s4 walk (T.self X.A 0 _ _ _ st4 walk)
end
end Sx
namespace Sx
variable [Tbs]
open PySem PySem.Spec PyProof.Rows L2

/-! ### {k: v for ..}, keys tuples -/
def emD (prog : Program) (w : World) (A : Around) (kx vx : Expr) (env : Env) (D : Addr) (s : Shared) (Post : Shared → Prop) : Prop :=
  wpAny (model prog w) A (eval kx env) (fun k s1 => wpAny (model prog w) A (eval vx env) (fun v s2 => wpAny (model prog w) A (dictSet D k v) (fun _ s3 => Post s3) noX s2) noX s1) noX s
section
variable {prog : Program} {w : World} {A : Around} {s : Shared} {M : Model}
theorem wpF {α : Type} {t : Sem α} {Q Q' : α → Shared → Prop} {E : Value → Shared → Prop} (h : wpAny M A t Q noX s) (hQ : ∀ a s, Q a s → Q' a s) : wpAny M A t Q' E s := wpAny_mono h hQ fun _ _ z => False.elim z
theorem gath_dict {kx vx tg iter : Expr} {ifs : List Expr} {scope : Scope} {pos : Pos} : Gath prog w A (.DictComp kx vx [⟨tg, iter, ifs, 0⟩] scope pos) tg ifs newDict (fun D => dNo w D []) (emD prog w A kx vx) where
  new := fun s Q E h hs => wpAny_newObj_type (h _ (fun b u e => Heap.get?_push_of_some _ e) (Heap.size_push ..) hs fun H => dNo_ok ⟨hs, Nat.zero_le _, List.nodup_nil, [], .nil, _, #[], 0, Heap.get?_push_size _ rfl, ⟨rfl, rfl, rfl⟩, rfl, rfl⟩)
  loop := fun R it D env I turn n s h => compLoop_anyD I (fun n s hI => wpF (turn n s hI) fun r s1 h1 => by
    cases r with
    | none => exact h1
    | some v =>
      refine wpF h1 fun _ s2 h2 => wpF h2 fun _ s3 h3 => wpF h3 fun ok s4 h4 => ?_
      cases ok with
      | false => exact h4
      | true => exact wpF (show emD prog w A kx vx env D s4 _ from h4) fun k s5 h5 => wpF h5 fun v s6 h6 => wpF h6 fun _ s7 h7 => h7) n h
  start := fun R it D env s h0 h1 => codeAny_compStart_dict h0 h1
end
section
variable {X : Cx} {κ α : Type} [DecidableEq κ] {U : κ → S} [hN : KeyN U] [hR : KeyR U] {T : α → S} {k : Nat}
def tmD (w : World) (U : κ → S) [KeyN U] (T : α → S) (tk tv : TE) : TM := fun σ H D Nx => tk σ H fun y H1 => tv σ H1 fun z H2 => ∃ (F : Hp) (p : Addr) (ws : List Went) (kvs : List (κ × α)) (key : κ), Sm F H2 ∧ y = .ref p ∧ (U key).r F (.ref p) ∧ H2 D = some (dNo w D ws) ∧ KnR U T F kvs ws ∧ ws.length < sizeLine ∧
  Nx (upd H2 D (dNo w D (storedW ws (KeyN.enc U key) p z)))
theorem reads_dict {kx vx : Expr} {tk tv : TE} (hx : X.xe = noX) (hr : Room k X.A) (hdp : KeyN.dep U ≤ 8) (hk : PE X kx tk) (hv : PE X vx tv) : Reads X (emD X.prog X.w X.A kx vx) (tmD X.w U T tk tv) := fun pins s σ H D Nx Post I h q => by
  have h1 := hk.run pins s σ H _ I h
  rw [hx] at h1
  refine wpF h1 fun u s1 ⟨y, H1, I1, ry, q1⟩ => ?_
  have h2 := hv.run pins s1 σ H1 _ I1 q1
  rw [hx] at h2
  refine wpF h2 fun v s2 ⟨z, H2, I2, rz, F, p, ws, kvs, key, sF, ey, rk, hd, hw, hl, nx⟩ => ?_
  subst ey
  cases (show u = Value.ref p from ry)
  obtain ⟨n1, n2, xs, r, hm⟩ := dn_lib I2 sF hdp (.inl hd) hw
  have hxs : xs.length ≤ sizeLine := by rw [← Paired.length r]; exact n2
  have hu : (nestedKind X.prog X.w).room X.A := by
    have := hr.units
    show X.A.units + 8 < cLine
    omega
  refine wpAny_dictSet_heap (knd := nestedKind X.prog X.w) (hsz := hxs) hu ⟨hN.is I2 sF rk rfl, Nat.le_trans (hN.depth _) hdp⟩ hm fun h' hm' hs' => ?_
  obtain ⟨o, es, ep, ho', hc', hd', he', _, hnd'⟩ := hm'
  have rel2 := r.put (k := KeyN.enc U key) (b := p) rz
  have hl2 := storedW_len ws (KeyN.enc U key) p z
  exact q _ _ (d_write I2 (by rw [hd]; exact True.intro) hs' ⟨o, ho'⟩ (dNo_ok ⟨n1, by omega, by rw [← rel2.nodup]; exact hnd', _, rel2, o, es, ep, ho', hc', hd', he'⟩)) nx
/-- the dict so far, at D -/
def DcPv (w : World) (U : κ → S) [KeyN U] (T : α → S) (F1 H1 : Hp) (D : Addr) (kvs : List (κ × α)) (H : Hp) : Prop := ∃ F ws, Grow F1 H1 F H ∧ F D = none ∧ H D = some (dNo w D ws) ∧ KnR U T F kvs ws
end
section
variable {X : Cx} {ss : List Sl} {kx vx tg iter : Expr} {scope : Scope} {α β κ : Type} [DecidableEq κ] {Te : β → S} {U : κ → S} [hN : KeyN U] [hR : KeyR U] {T : α → S} {xs : List β} {pos : Pos} {g : TG} {k : Nat}
def dcAll (fk : β → κ) (fv : β → α) (xs : List β) : List (κ × α) := xs.foldl (fun d x => pK d (fk x) (fv x)) []
theorem dcAll_take {fk : β → κ} {fv : β → α} {i : Nat} {x : β} (h : xs[i]? = some x) : dcAll fk fv (xs.take (i + 1)) = pK (dcAll fk fv (xs.take i)) (fk x) (fv x) := by
  unfold dcAll
  rw [List.take_add_one, h, Option.toList_some, List.foldl_append]
  rfl
theorem dcAll_len (fk : β → κ) (fv : β → α) : ∀ (l : List β), (dcAll fk fv l).length ≤ l.length := by
  have key : ∀ (l : List β) (d : List (κ × α)), (l.foldl (fun d x => pK d (fk x) (fv x)) d).length ≤ d.length + l.length := by
    intro l
    induction l with
    | nil => exact fun d => Nat.le_refl _
    | cons x l ih =>
      intro d
      have h1 := ih (pK d (fk x) (fv x))
      have h2 := pK_len d (fk x) (fv x)
      rw [List.foldl_cons, List.length_cons]
      omega
  intro l
  have := key l []
  simpa [dcAll] using this
theorem ev_dc {b : Bool} {own : List (Str × Nat)} (st : β → List Sl) (fk : β → κ) (fv : β → α) (hr : Room k X.A) (hi : EvI b X ss tg iter Te xs) (hl : xs.length < sizeLine) (hg : ∀ x, GTw g (Te x) (own.map (·.2)) ss (st x))
    (hk : ∀ (i : Nat) x, xs[i]? = some x → BlkE X scope (st x) kx (sv (U (fk x)))) (hv : ∀ (i : Nat) x, xs[i]? = some x → BlkE X scope (st x) vx (sv (T (fv x))))
    (hc : X.calm = true) (hN : X.N.Nodup) (ok : blkC X.N X.env.scope scope own = true)
    (hpg : ∀ (s : Shared) (H : Hp) (C : Addr) (cl : List (Str × Addr)) (fp : List Addr), PG (X.blk s H scope (compEnvC scope cl C X.env) fp) tg g)
    (hdp : KeyN.dep U ≤ 8 := by decide) (hs : ∀ x, foldedSetIterable iter X.env x = pure x := by intro _; rfl) :
    EvN X ss (.DictComp kx vx [⟨tg, iter, [], 0⟩] scope pos) (oDN X.w U T (dcAll fk fv xs)) := .mk fun B F H σ hS Q q => by
  refine toE (pe_gath (own := own) (g := g) (tt := ttB X scope []) (tm := tmD X.w U T (teB X scope kx) (teB X scope vx)) hc hN PIw (blkOk_by ok) gath_dict (arm_eval_DictComp ..) rfl hpg PTsb (fun s0 H0 C cl fp => reads_dict (X := X.blk s0 H0 scope (compEnvC scope cl C X.env) fp) rfl hr hdp (PEb s0 H0 C cl fp) (PEb s0 H0 C cl fp)) hs) ?_
  refine hi.any.go B F H σ hS _ fun J F1 H1 G Y g1 w hG hY => fun D nD => ?_
  have h1 := hS.grow g1
  have nt : ∀ l, ¬ IsT (dNo X.w D l) := fun _ => dNo_nt
  have hlen : ∀ i, (dcAll fk fv (xs.take i)).length ≤ xs.length := fun i => by
    have h1 := dcAll_len fk fv (xs.take i)
    rw [List.length_take] at h1
    omega
  refine ⟨fun i m H => m = xs.length - i ∧ i ≤ xs.length ∧ DcPv X.w U T F1 H1 D (dcAll fk fv (xs.take i)) H, ⟨_, rfl, Nat.zero_le _, F1, [], .new g1.s nD, g1.s.free nD, upd_same, .nil⟩, ?_⟩
  rintro i m H2 ⟨rfl, hile, F2, ws, gg, fD, hD, hw⟩
  have hG2 := hG F2 H2 gg.f gg.s fun _ => gg.h
  by_cases hlt : i < xs.length
  · refine .inr ⟨w.goes i H2 hlt hG2, fun H' => DcPv X.w U T F1 H1 D (dcAll fk fv (xs.take (i + 1))) H', fun H' z => ⟨_, by omega, rfl, hlt, z⟩, fun x H3 y => ?_⟩
    obtain ⟨F3, z, g3, hz, rz⟩ := hY i F2 H2 x H3 hlt gg.f gg.s (fun _ => gg.h) (w.yields i H2 x H3 hlt hG2 y)
    have gA := gg.trans g3
    have fD3 := grow_none g3 fD hD (nt _)
    have hD3 := g3.h.c hD
    refine hg z B F3 H3 σ x _ (h1.grow gA) rz fun σ2 hs2 hwp => ⟨hwp, fun s0 H0 C cl fp => ets_nil.go B F3 H3 _ hs2 _ fun F4 H4 g4 => ?_⟩
    rw [if_pos rfl]
    have fD4 := grow_none g4 fD3 hD3 (nt _)
    have hD4 := g4.h.c hD3
    refine fun s1 H01 C1 cl1 fp1 => (hk i z hz s1 H01 C1 cl1 fp1).go B F4 H4 _ (hs2.grow g4) _ fun ky F5 H5 g5 rk => fun s2 H02 C2 cl2 fp2 => (hv i z hz s2 H02 C2 cl2 fp2).go B F5 H5 _ ((hs2.grow g4).grow g5) _ fun vy F6 H6 g6 rv => ?_
    have g56 := g5.trans g6
    have gB := (gA.trans g4).trans g56
    have fD6 := grow_none g56 fD4 hD4 (nt _)
    have hD6 := g56.h.c hD4
    obtain ⟨p, ep⟩ := hR.ref rk
    subst ep
    have rk6 := (U (fk z)).mono g6.f rk
    have hw6 := ((hw.mono g3.f).mono g4.f).mono g56.f
    refine ⟨F6, p, ws, _, fk z, gB.s, rfl, rk6, hD6, hw6, by rw [hw.len]; exact Nat.lt_of_le_of_lt (hlen i) hl, F6, _, ⟨gB.f, gB.h.put nD hD6, gB.s.put fD6 hD6, gB.n⟩, fD6, upd_same, by rw [dcAll_take hz]; exact hw6.put rk6 rv⟩
  · obtain rfl : i = xs.length := by omega
    rw [List.take_length] at hw
    exact .inl ⟨w.stops H2 hG2, q D F2 H2 (hp1 D (dNo X.w D ws)) (g1.trans gg) (fun a ob ea => by
      obtain ⟨rfl, rfl⟩ := hp1_some ea
      exact ⟨g1.h.free nD, .inl fD, hD⟩) ⟨ws, hp1_same, hw⟩⟩
end
end Sx
namespace Sx
variable [Tbs]
open PySem PySem.Spec PyProof.Rows L2

/-! ### {tuple for ..}, its len -/
def SetT0 (P : Program) (w : World) (h : Heap) (a : Addr) (L : List Mem) : Prop := ∃ es ep t, (∃ o, h.get? a = some o ∧ o.ExactSet ∧ o.data = .set es ep t) ∧ es.toList = rwS P w L ∧ TabOk t (L.map fun p => tHs P w p.2) ∧ (L.map (·.2)).Nodup ∧ L.length * 5 < t.mask * 3 ∧ L.length < 64
def soT (P : Program) (w : World) (a : Addr) (L : List Mem) : HO := .ext fun h => SetT0 P w h a L
instance {P : Program} {w : World} {a : Addr} {L : List Mem} : NC (soT P w a L) := nc_ext fun hp z ⟨_, _, _, ⟨o, e, _, e2⟩, _⟩ => by
  obtain ⟨vs, e3⟩ := z a o e
  rw [e2] at e3
  cases e3
theorem soT_nt {P : Program} {w : World} {a : Addr} {L : List Mem} : ¬ IsT (soT P w a L) := nt_ext (inferInstanceAs (NC (soT P w a L)))
theorem soT_ok {P : Program} {w : World} {H : Hp} {h : Heap} {a : Addr} {L : List Mem} (x : SetT0 P w h a L) : ObjOk P w H h a (soT P w a L) := by
  refine ⟨x, ?_, fun h1 h2 ⟨es, ep, t, ⟨o, ho, r⟩, q⟩ k => ⟨es, ep, t, ⟨o, k o ho, r⟩, q⟩⟩
  obtain ⟨_, _, _, ⟨o, ho, _⟩, _⟩ := x
  exact ⟨o, ho⟩
theorem setW_0 {P : Program} {w : World} {h : Heap} {a : Addr} {L : List Mem} {es : Array (Int × Value)} {ep : Nat} {t : SetTable} (R : SetW P w h a L es ep t) : SetT0 P w h a L := ⟨es, ep, t, R.ob, R.rows, R.tab, R.nd, R.room, R.few⟩
theorem items_of {P : Program} {w : World} : ∀ {k : List Str} {us : List Value}, Vals (k.map V.str) us → ItemsAre (PySem.strKind P w) k us
  | [], _, .nil => .nil
  | x :: k, _, .cons (b := u) r t => by
    obtain ⟨tk, rfl⟩ := (show ∃ tk, u = Value.str x tk from r)
    exact .cons (strKind_is _ _ _ _) (items_of t)
theorem isTS_of {X : Cx} {pins : List (Addr × Obj)} {σ : L2.St} {F H : Hp} {s : Shared} {p : Addr} {k : List Str} (I : L2.Inv X pins σ H s) (sF : Sm F H) (r : (sTup sStr k).r F (.ref p)) : IsTS X.prog X.w s.heap k p := by
  obtain ⟨p', c, e, hk, vs, hp, hi⟩ := r
  cases e
  have ev := its_strs hi
  subst ev
  obtain ⟨its, rv, ⟨o, ho, hc, n, hd⟩, _⟩ := I.tuple (SqT.of (sF _ _ (hk _ _ hp)))
  exact ⟨o, its.toArray, n, ho, hc, hd, items_of rv⟩
def oSetT (P : Program) (w : World) (n : Nat) : O := ⟨fun _ h p => ∃ L, h p = some (soT P w p L) ∧ L.length = n, fun _ h => h⟩
def emS (prog : Program) (w : World) (A : Around) (elt : Expr) (env : Env) (D : Addr) (s : Shared) (Post : Shared → Prop) : Prop :=
  wpAny (model prog w) A (eval elt env) (fun x s1 => wpAny (model prog w) A (call (.builtin "set.add") [.ref D, x]) (fun _ s2 => Post s2) noX s1) noX s
theorem gath_set {prog : Program} {w : World} {A : Around} {elt tg iter : Expr} {ifs : List Expr} {scope : Scope} {pos : Pos} : Gath prog w A (.SetComp elt [⟨tg, iter, ifs, 0⟩] scope pos) tg ifs (newSet (.type "set")) (fun D => soT prog w D []) (emS prog w A elt) where
  new := fun s Q E h hs => PpSet.newSet_ok (h _ (fun b u e => Heap.get?_push_of_some _ e) (Heap.size_push ..) hs fun H => soT_ok (setW_0 (fresh_ts (Heap.get?_push_size _ rfl))))
  loop := fun R it D env I turn n s h => PpSet.compLoopS_any I (fun n s hI => wpF (turn n s hI) fun r s1 h1 => by
    cases r with
    | none => exact h1
    | some v =>
      refine wpF h1 fun _ s2 h2 => wpF h2 fun _ s3 h3 => wpF h3 fun ok s4 h4 => ?_
      cases ok with
      | false => exact h4
      | true => exact wpF (show emS prog w A elt env D s4 _ from h4) fun x s5 h5 => wpF h5 fun _ s6 h6 => h6) n h
  start := fun R it D env s h0 h1 => PpSet.codeAny_compStart_set h0 h1
def tmS (P : Program) (w : World) (te : TE) : TM := fun σ H D Nx => te σ H fun y H1 => ∃ (F : Hp) (p : Addr) (k : List Str) (L : List Mem), Sm F H1 ∧ y = .ref p ∧ (sTup sStr k).r F (.ref p) ∧ H1 D = some (soT P w D L) ∧ L.length + 1 < 64 ∧ (∀ q ∈ L, (sTup sStr q.2).r F (.ref q.1)) ∧
  ∀ L' : List Mem, (k ∈ L.map (·.2) → L' = L) → (k ∉ L.map (·.2) → L'.Perm ((p, k) :: L)) → Nx (upd H1 D (soT P w D L'))
section
variable {X : Cx} {k : Nat}
theorem reads_set {elt : Expr} {te : TE} (hx : X.xe = noX) (hr : Room k X.A) (he : PE X elt te) : Reads X (emS X.prog X.w X.A elt) (tmS X.prog X.w te) := fun pins s σ H D Nx Post I h q => by
  have h1 := he.run pins s σ H _ I h
  rw [hx] at h1
  refine wpF h1 fun u s1 ⟨y, H1, I1, ry, F, p, key, L, sF, ey, rk, hd, hl, hL, nx⟩ => ?_
  subst ey
  cases (show u = Value.ref p from ry)
  obtain ⟨es, ep, t, ob, rows, tab, nd, room, few⟩ := (I1.hok D _ hd).1
  have R : SetW X.prog X.w s1.heap D L es ep t := ⟨ob, rows, tab, nd, fun q hq => isTS_of I1 sF (hL q hq), room, few⟩
  refine setadd_ts R (isTS_of I1 sF rk) (by have := hr.units; omega) hl fun h' L' es' ep' t' tk sb R' i1 i2 => ?_
  obtain ⟨o', ho', _⟩ := R'.ob
  exact q _ _ (d_write I1 (by rw [hd]; exact True.intro) sb ⟨o', ho'⟩ (soT_ok (setW_0 R'))) (nx L' i1 i2)
end
def ScPv (P : Program) (w : World) (F1 H1 : Hp) (D : Addr) (ks : List (List Str)) (H : Hp) : Prop := ∃ F L, Grow F1 H1 F H ∧ F D = none ∧ H D = some (soT P w D L) ∧ (∀ q ∈ L, (sTup sStr q.2).r F (.ref q.1)) ∧ (∀ k, k ∈ L.map (·.2) ↔ k ∈ ks) ∧ L.length = (dd ks).length
section
variable {X : Cx} {ss : List Sl} {elt tg iter : Expr} {scope : Scope} {β : Type} {Te : β → S} {xs : List β} {pos p : Pos} {g : TG} {k : Nat}
theorem ev_sc {b : Bool} {own : List (Str × Nat)} (st : β → List Sl) (f : β → List Str) (hr : Room k X.A) (hi : EvI b X ss tg iter Te xs) (hl : xs.length < 60) (hg : ∀ x, GTw g (Te x) (own.map (·.2)) ss (st x))
    (he : ∀ (i : Nat) x, xs[i]? = some x → BlkE X scope (st x) elt (sv (sTup sStr (f x)))) (hc : X.calm = true) (hN : X.N.Nodup) (ok : blkC X.N X.env.scope scope own = true)
    (hpg : ∀ (s : Shared) (H : Hp) (C : Addr) (cl : List (Str × Addr)) (fp : List Addr), PG (X.blk s H scope (compEnvC scope cl C X.env) fp) tg g)
    (hs : ∀ x, foldedSetIterable iter X.env x = pure x := by intro _; rfl) :
    EvN X ss (.SetComp elt [⟨tg, iter, [], 0⟩] scope pos) (oSetT X.prog X.w (dd (xs.map f)).length) := .mk fun B F H σ hS Q q => by
  refine toE (pe_gath (own := own) (g := g) (tt := ttB X scope []) (tm := tmS X.prog X.w (teB X scope elt)) hc hN PIw (blkOk_by ok) gath_set (PpSet.eval_SetComp ..) rfl hpg PTsb (fun s0 H0 C cl fp => reads_set (X := X.blk s0 H0 scope (compEnvC scope cl C X.env) fp) rfl hr (PEb s0 H0 C cl fp)) hs) ?_
  refine hi.any.go B F H σ hS _ fun J F1 H1 G Y g1 w hG hY => fun D nD => ?_
  have h1 := hS.grow g1
  have nt : ∀ l, ¬ IsT (soT X.prog X.w D l) := fun _ => soT_nt
  refine ⟨fun i m H => m = xs.length - i ∧ i ≤ xs.length ∧ ScPv X.prog X.w F1 H1 D ((xs.take i).map f) H, ⟨_, rfl, Nat.zero_le _, F1, [], .new g1.s nD, g1.s.free nD, upd_same, (fun q hq => by cases hq), (fun k => by simp), rfl⟩, ?_⟩
  rintro i m H2 ⟨rfl, hile, F2, L, gg, fD, hD, hL, hm, hlen⟩
  have hG2 := hG F2 H2 gg.f gg.s fun _ => gg.h
  by_cases hlt : i < xs.length
  · refine .inr ⟨w.goes i H2 hlt hG2, fun H' => ScPv X.prog X.w F1 H1 D ((xs.take (i + 1)).map f) H', fun H' z => ⟨_, by omega, rfl, hlt, z⟩, fun x H3 y => ?_⟩
    obtain ⟨F3, z, g3, hz, rz⟩ := hY i F2 H2 x H3 hlt gg.f gg.s (fun _ => gg.h) (w.yields i H2 x H3 hlt hG2 y)
    have gA := gg.trans g3
    have fD3 := grow_none g3 fD hD (nt _)
    have hD3 := g3.h.c hD
    refine hg z B F3 H3 σ x _ (h1.grow gA) rz fun σ2 hs2 hwp => ⟨hwp, fun s0 H0 C cl fp => ets_nil.go B F3 H3 _ hs2 _ fun F4 H4 g4 => ?_⟩
    rw [if_pos rfl]
    have fD4 := grow_none g4 fD3 hD3 (nt _)
    have hD4 := g4.h.c hD3
    refine fun s1 H01 C1 cl1 fp1 => (he i z hz s1 H01 C1 cl1 fp1).go B F4 H4 _ (hs2.grow g4) _ fun v F5 H5 g5 rv => ?_
    have gB := (gA.trans g4).trans g5
    have fD5 := grow_none g5 fD4 hD4 (nt _)
    have hD5 := g5.h.c hD4
    obtain ⟨p, ep⟩ := KeyR.ref (U := sTup sStr) rv
    subst ep
    have hL5 : ∀ q ∈ L, (sTup sStr q.2).r F5 (.ref q.1) := fun q hq => (sTup sStr q.2).mono ((g3.f.trans g4.f).trans g5.f) (hL q hq)
    have hll : L.length ≤ i := by
      have := dd_len ((xs.take i).map f)
      rw [List.length_map, List.length_take] at this
      omega
    refine ⟨F5, p, f z, L, gB.s, rfl, rv, hD5, by omega, hL5, fun L' i1 i2 => ?_⟩
    have gE : Grow F1 H1 F5 (upd H5 D (soT X.prog X.w D L')) := ⟨gB.f, gB.h.put nD hD5, gB.s.put fD5 hD5, gB.n⟩
    have et : (xs.take (i + 1)).map f = (xs.take i).map f ++ [f z] := by rw [List.take_add_one, hz, List.map_append]; rfl
    have ed : dd ((xs.take (i + 1)).map f) = ddAdd (dd ((xs.take i).map f)) (f z) := by
      rw [et]
      unfold dd
      rw [List.foldl_append]
      rfl
    by_cases hin : f z ∈ L.map (·.2)
    · obtain rfl := i1 hin
      refine ⟨F5, L', gE, fD5, upd_same, hL5, fun k => ?_, ?_⟩
      · rw [hm, et, List.mem_append, List.mem_singleton]
        exact ⟨.inl, fun z => z.elim id fun e => e ▸ (hm _).mp hin⟩
      · rw [ed, hlen]
        unfold ddAdd
        rw [if_pos (mem_dd.mpr ((hm _).mp hin))]
    · have pm := i2 hin
      refine ⟨F5, L', gE, fD5, upd_same, fun q hq => ?_, fun k => ?_, ?_⟩
      · rcases List.mem_cons.mp (pm.mem_iff.mp hq) with rfl | hq
        · exact rv
        · exact hL5 q hq
      · rw [(pm.map (·.2)).mem_iff, List.map_cons, List.mem_cons, hm, et, List.mem_append, List.mem_singleton]
        exact Or.comm
      · rw [ed, pm.length_eq, List.length_cons, hlen]
        unfold ddAdd
        rw [if_neg (fun e => hin ((hm _).mpr (mem_dd.mp e))), List.length_append]
        rfl
  · obtain rfl : i = xs.length := by omega
    rw [List.take_length] at hlen
    exact .inl ⟨w.stops H2 hG2, q D F2 H2 (hp1 D (soT X.prog X.w D L)) (g1.trans gg) (fun a ob ea => by
      obtain ⟨rfl, rfl⟩ := hp1_some ea
      exact ⟨g1.h.free nD, .inl fD, hD⟩) ⟨L, hp1_same, hlen⟩⟩
/-- len of such a set -/
theorem ev_lenT {a : Expr} {n : Nat} (hm : X.mg "len" = none) (ha : EvE X ss a (bO (oSetT X.prog X.w n))) (hg : Gl X "len" := by rfl) (he : starEach [a] X.env = (false, eval a X.env) :: starEach [] X.env := by exact star_ok rfl) (hpl : (backTo pos (starEach [] X.env)).any (·.1) = false := by rfl) :
    EvE X ss (.Call (.Name "len" p) [a] [] pos) (sv (sInt (n : Int))) :=
  ev_cb (id := "len") (r := fun vs H Q => ∃ (D : Addr) (L : List Mem), vs = [.ref D] ∧ H D = some (soT X.prog X.w D L) ∧ Q (.int (L.length : Int)) H) (fun pins s σ H vs us Q I r h => by
    obtain ⟨D, L, rfl, hd, q⟩ := h
    obtain ⟨u, rfl, ru⟩ := vals1 r
    cases ru
    obtain ⟨es, ep, t, ⟨o, ho, hex, hdt⟩, rows, tab, nd, room, few⟩ := (I.hok D _ hd).1
    have R : t.fits es.size = true ∧ es.size = L.length := by
      have h2 := rwS_len rows
      have h1 := tab.sz
      rw [List.length_map] at h1
      refine ⟨?_, h2⟩
      unfold SetTable.fits SetTable.fill
      rw [tab.dm, Bool.and_eq_true, beq_iff_eq, decide_eq_true_eq]
      exact ⟨by omega, by show t.place.size + 0 ≤ t.mask; omega⟩
    refine call_len_set ho hex hdt R.1 (by rw [R.2]; omega) ⟨.int L.length, H, I.tok _, ⟨_, by rw [R.2]⟩, q⟩) hm (by decide +kernel) (ea_cons ha ea_nil he) (fun F H vs Q sF rs q => by
    cases rs with
    | cons r rr =>
      cases rr
      obtain ⟨D, c, e, hk, L, hd, hn⟩ := r
      subst e
      exact ⟨D, L, rfl, hk _ _ hd, q _ F H (.refl sF) (by rw [hn]; rfl)⟩) hg (he := he) (hpl := hpl)
/-- len(set(texts)), a list -/
theorem ev_lenSet {ρ : R} {a : Expr} {ns : List Str} {p2 q : Pos} [hq : AsLs X.K ρ sStr ns] (hc : X.calm = true) (hm : X.mg "len" = none) (hm2 : X.mg "set" = none) (ha : EvE X ss a ρ) (hl : ns.length < 4000) (hg : Gl X "len" := by rfl) (hg2 : Gl X "set" := by rfl)
    (he : starEach [a] X.env = (false, eval a X.env) :: starEach [] X.env := by exact star_ok rfl) : EvE X ss (.Call (.Name "len" p) [.Call (.Name "set" p2) [a] [] q] [] pos) (sv (sInt ((dd ns).length : Int))) := .mk fun B F H σ hS Q q0 => by
  intro pins s I
  refine Call_ (ld_blt I hg hm boot_len (PyProof.Rows.callWith_builtin1 (PyProof.Rows.args_cons ?_ rfl) rfl rfl))
  refine Call_ (ld_blt I hg2 hm2 boot_set (PyProof.Rows.callWith_type1 (PyProof.Rows.args_cons (thn (ha.go B F H σ hS (fun v H' => ∃ F', Grow F H F' H' ∧ ρ.r F' H' v) (fun v F' H' g r => ⟨F', g, r⟩) pins s I) fun v s1 ⟨x, H1, I1, rx, F1, g1, r1⟩ => PyProof.Rows.args_nil ?_) he) he rfl))
  obtain ⟨l, vs, ex, hk, hi⟩ := hq.w F1 H1 x g1.s r1
  subst ex
  cases rx
  have ev := its_strs hi
  subst ev
  obtain ⟨its, rv, pl, hz⟩ := I1.list hk
  refine set_callL (b := true) rfl (I1.ok.hd hc) (show SqA true s1.heap l its.toArray from pl.isList) (by simpa using strsAre_of rv) hl fun h' tk hSt hkp => PyProof.Rows.args_nil ?_
  obtain ⟨o, es, ep, t, ho, hex, hd, _, _, _, hf, hn⟩ := hSt
  have I2 : L2.Inv X pins σ H1 { s1 with heap := h', toks := tk } := I1.kept fun b o e => hkp b o (Heap.lt_size e) e
  have hle := dd_len ns
  exact call_len_set ho hex hd hf (by rw [hn]; omega) ⟨.int (dd ns).length, H1, I2.tok _, ⟨_, by rw [hn]⟩, q0 _ F1 H1 g1 rfl⟩
end
end Sx
namespace Sx
variable [Tbs]
open PySem PySem.Spec PyProof.Rows L2

/-! ### isinstance(x, (T1, T2)) -/
variable {X : Cx} {ss : List Sl} {a b : Expr} {ρ τ : R} {p pos : Pos} {α : Type} {T : α → S} {xs : List α}
theorem kit2_l {K : PySem.W.Frag} {w n1 n2 : String} (h : kitB w n1 = some true) : PySem.W.kitAny K (.type w) [.type n1, .type n2] = some true := by
  show (match PySem.W.kitOne K (.type w) (.type n1) with | some true => some true | some false => PySem.W.kitAny K (.type w) [.type n2] | none => none) = some true
  rw [kit_ty h]
theorem kit2_r {K : PySem.W.Frag} {w n1 n2 : String} {r : Bool} (h : kitB w n1 = some false) (h2 : kitB w n2 = some r) : PySem.W.kitAny K (.type w) [.type n1, .type n2] = some r := by
  show (match PySem.W.kitOne K (.type w) (.type n1) with | some true => some true | some false => (match PySem.W.kitOne K (.type w) (.type n2) with | some true => some true | some false => some false | none => none) | none => none) = some r
  rw [kit_ty h, kit_ty h2]
  cases r <;> rfl
theorem ev_isiT {n1 n2 : String} {r : Bool} (hm : X.mg "isinstance" = none) (ha : EvE X ss a ρ) (hb : EvE X ss b (sv (sTup id [sC (.ty n1), sC (.ty n2)]))) (ht : ∀ F H v, Sm F H → ρ.r F H v → ∃ t, TyX X.K H v t ∧ PySem.W.kitAny X.K t [.type n1, .type n2] = some r) (hg : Gl X "isinstance" := by rfl)
    (he : starEach [a, b] X.env = (false, eval a X.env) :: starEach [b] X.env := by exact star_ok rfl) (he2 : starEach [b] X.env = (false, eval b X.env) :: starEach [] X.env := by exact star_ok rfl) (hpl : (backTo pos (starEach [b] X.env)).any (·.1) = false := by rfl) :
    EvE X ss (.Call (.Name "isinstance" p) [a, b] [] pos) (sv (sBool r)) :=
  ev_cb call_isiT hm PyProof.Rows.boot_isinstance (ea_cons ha (ea_cons hb ea_nil he2) he) (fun F H vs Q sF rs q => by
    cases rs with
    | cons r1 rr =>
      cases rr with
      | cons r2 rr =>
        cases rr
        obtain ⟨tp, k, rfl, hk, cs, hp, hi⟩ := r2
        obtain ⟨c1, c2, rfl, e1, e2⟩ := its2 hi
        obtain ⟨t, ty, kt⟩ := ht F H _ sF r1
        have e1' : c1 = V.ty n1 := e1
        have e2' : c2 = V.ty n2 := e2
        subst e1' e2'
        exact ⟨_, tp, _, t, _, r, rfl, sF _ _ (hk _ _ hp), .cons (.ty n1) (.cons (.ty n2) .nil), ty, kt, q _ F H (.refl sF) rfl⟩) hg (he := he) (hpl := hpl)
theorem row_lst {K : PySem.W.Frag} {F H : Hp} {v : V} (e : Sm F H) (r : (sv (sLst T xs)).r F H v) : ∃ t, TyX K H v t ∧ PySem.W.kitAny K t [.type "list", .type "tuple"] = some true := ⟨_, ty_lst e r, kit2_l (by decide +kernel)⟩
theorem row_tup {K : PySem.W.Frag} {F H : Hp} {v : V} (e : Sm F H) (r : (sv (sTup T xs)).r F H v) : ∃ t, TyX K H v t ∧ PySem.W.kitAny K t [.type "list", .type "tuple"] = some true := ⟨_, ty_tup e r, kit2_r (by decide +kernel) (by decide +kernel)⟩
theorem row_sq {K : PySem.W.Frag} {F H : Hp} {v : V} (e : Sm F H) (r : (sv (sSq T xs)).r F H v) : ∃ t, TyX K H v t ∧ PySem.W.kitAny K t [.type "list", .type "tuple"] = some true := by
  obtain ⟨p, k, e1, hk, vs, hp, _⟩ := r
  subst e1
  rcases hp with hp | hp
  · exact ⟨_, .base (.lst (e _ _ (hk _ _ hp))), kit2_l (by decide +kernel)⟩
  · exact ⟨_, .base (.tup (e _ _ (hk _ _ hp))), kit2_r (by decide +kernel) (by decide +kernel)⟩
/-! ### what raises, within a comparison -/
variable {ex : Xo → List Sl → Prop}
theorem er_cmp {op : CmpOp} {r : R2} (ho : OpR X (compareOp op) r) (ha : EvR X ss a ex) (hm : behindInMarks op b = false := by rfl) : EvR X ss (.Compare a [op] [b] pos) ex := .mk fun B F H σ h tk Q =>
  toE (pe_cmpR ho PEw (PEw (e := b)) hm) (ha.go B F H σ h tk _)
theorem ev_ninS {z : Str} {xs : List Str} [hq : AsSq X.K ρ sStr xs] (ha : EvE X ss a (sv (sStr z))) (hb : EvE X ss b ρ) (hm : behindInMarks .NotIn b = false := by rfl) : EvE X ss (.Compare a [.NotIn] [b] pos) (sv (sBool (!decide (z ∈ xs)))) :=
  ev_cmp op_notIn_seq ha hb (fun F H v w Q sF e1 e2 q => by
    obtain ⟨p, vs, e3, hs, hi⟩ := hq.w F H w sF e2
    obtain ⟨a1, a2⟩ := inV_strs (z := z) hi
    rw [e1.1]
    refine ⟨p, vs, e3, hs, rfl, a2, ?_⟩
    rw [if_pos rfl, a1]
    exact q _ F H (.refl sF) rfl) hm
/-- a < b < c of ints, as a test -/
theorem et_chain {c : Expr} {op op' : CmpOp} {g g' : Int → Int → Bool} {i j k : Int} (ho : OpR X (compareOp op) (rI0 fun i j => .bl (g i j))) (ho' : OpR X (compareOp op') (rI0 fun i j => .bl (g' i j))) (ha : EvE X ss a (sv (sInt i))) (hb : EvE X ss b (sv (sInt j))) (hc : EvE X ss c (sv (sInt k)))
    (hm : lastMarks [op, op'] [b, c] = false := by with_unfolding_all rfl) : EvT X ss (.Compare a [op, op'] [b, c] pos) (g i j && g' j k) := .mk fun B F H σ hs Q q =>
  toT (pt_chain ho ho' PEw PEw PEw hm) (ha B F H σ hs _ fun v F1 H1 g1 r1 => hb B F1 H1 σ (hs.grow g1) _ fun u F2 H2 g2 r2 => ⟨i, j, r1, r2, g i j, rfl, by
    cases q1 : g i j with
    | true => exact iteT (hc B F2 H2 σ ((hs.grow g1).grow g2) _ fun u F3 H3 g3 r3 => ⟨j, k, r2, r3, _, rfl, by
        have := q F3 H3 ((g1.trans g2).trans g3)
        rw [q1] at this
        exact this⟩)
    | false => exact iteF ⟨_, rfl, by
        have := q F2 H2 (g1.trans g2)
        rw [q1] at this
        exact this⟩⟩)
/-- x.f of an instance that is known whole -/
theorem ev_gv {e : Expr} {C : Addr} {q : Addr → Prop} {fs : List (Str × Sl)} {f : Str} {s : S} (he : EvE X ss e (sv (sO (oInsG C q fs)))) (hl : fs.lookup f = some (.val s)) (hc : Cls X.K C) (hn : NoAttr X.K C f) (hb : attributeBase e f X.env (eval e X.env) = eval e X.env := by rfl) : EvE X ss (.Attribute e f pos) (sv s) := ev_gfld he.toB hl hc hn hb
/-- a new object, read here and now -/
theorem EvN.toB {e : Expr} {o : O} (h : EvN X ss e o) : EvE X ss e (bO o) := EvE.toB h.toE
end Sx
namespace Sx
variable [Tbs]
open PySem PySem.Spec PyProof.Rows L2

/-! ### dicts whose keys are ints or texts -/
class KeyF (κ : Type) where
  enc : κ → Key
  inj : ∀ a b, enc a = enc b → a = b
  good : κ → Prop
class KeyFS {κ : Type} [KeyF κ] (U : κ → S) : Prop where
  to_ : ∀ {F : Hp} {v : V} {k : κ}, (U k).r F v → v = kV (KeyF.enc k) ∧ KeyF.good k
  of_ : ∀ {F : Hp} {k : κ}, KeyF.good k → (U k).r F (kV (KeyF.enc k))
instance : KeyF Int := ⟨Sum.inl, fun a b h => Sum.inl.inj h, fun _ => True⟩
instance : KeyF Nat := ⟨fun n => Sum.inl (n : Int), fun a b h => Int.ofNat_inj.mp (Sum.inl.inj h), fun _ => True⟩
instance : KeyF Str := ⟨Sum.inr, fun a b h => Sum.inr.inj h, fun x => PyData.strOk x = true⟩
instance : KeyFS sInt := ⟨fun {F v k} r => ⟨r, trivial⟩, fun {F k} _ => rfl⟩
instance : KeyFS sNat := ⟨fun {F v k} r => ⟨r, trivial⟩, fun {F k} _ => rfl⟩
instance : KeyFS sStr := ⟨fun {F v k} r => ⟨r.1, r.2⟩, fun {F k} g => ⟨rfl, g⟩⟩
section
variable {κ α : Type} [DecidableEq κ] [KeyF κ] {T : α → S}
def KfR (T : α → S) (F : Hp) (kvs : List (κ × α)) (ws : List (Key × V)) : Prop := Paired (fun (a : κ × α) (b : Key × V) => (b.1 = KeyF.enc a.1 ∧ KeyF.good a.1) ∧ (T a.2).r F b.2) kvs ws
omit [Tbs] in
omit [Tbs] in
theorem KfR.mono {F F' : Hp} {kvs : List (κ × α)} {ws : List (Key × V)} (e : Same F F') (h : KfR T F kvs ws) : KfR T F' kvs ws := Paired.mapP h fun _ _ q => ⟨q.1, (T _).mono e q.2⟩
omit [Tbs] in
omit [Tbs] in
theorem KfR.len {F : Hp} {kvs : List (κ × α)} {ws : List (Key × V)} (h : KfR T F kvs ws) : ws.length = kvs.length := (Paired.length h).symm
omit [Tbs] in
omit [Tbs] in
theorem KfR.get {F : Hp} {k : κ} : ∀ {kvs : List (κ × α)} {ws : List (Key × V)}, KfR T F kvs ws → (match gK kvs k with
    | none => valV ws (KeyF.enc k) = none
    | some x => ∃ v, valV ws (KeyF.enc k) = some v ∧ (T x).r F v)
  | [], ws, h => by
    have h' : Paired (fun (a : κ × α) (b : Key × V) => (b.1 = KeyF.enc a.1 ∧ KeyF.good a.1) ∧ (T a.2).r F b.2) [] ws := h
    cases h'
    rfl
  | (j, x) :: kvs, ws, h => by
    have h' : Paired (fun (a : κ × α) (b : Key × V) => (b.1 = KeyF.enc a.1 ∧ KeyF.good a.1) ∧ (T a.2).r F b.2) ((j, x) :: kvs) ws := h
    cases h' with
    | @cons _ b _ ws' r t =>
      have ih := KfR.get (k := k) (show KfR T F kvs ws' from t)
      by_cases e : j = k
      · have e1 : gK ((j, x) :: kvs) k = some x := by simp [gK, List.find?_cons, e]
        rw [e1]
        exact ⟨b.2, valV_pos (by rw [r.1.1, e]), r.2⟩
      · have e1 : gK ((j, x) :: kvs) k = gK kvs k := by simp [gK, List.find?_cons, e]
        rw [e1]
        have e2 : valV (b :: ws') (KeyF.enc k) = valV ws' (KeyF.enc k) := valV_neg fun z => e (KeyF.inj _ _ (r.1.1.symm.trans z))
        rw [e2]
        exact ih
omit [Tbs] in
omit [Tbs] in
theorem KfR.any {F : Hp} {k : κ} : ∀ {kvs : List (κ × α)} {ws : List (Key × V)}, KfR T F kvs ws → (ws.any fun kv => decide (kv.1 = KeyF.enc k)) = kvs.any fun kv => decide (kv.1 = k)
  | [], ws, h => by
    have h' : Paired (fun (a : κ × α) (b : Key × V) => (b.1 = KeyF.enc a.1 ∧ KeyF.good a.1) ∧ (T a.2).r F b.2) [] ws := h
    cases h'
    rfl
  | (j, x) :: kvs, ws, h => by
    have h' : Paired (fun (a : κ × α) (b : Key × V) => (b.1 = KeyF.enc a.1 ∧ KeyF.good a.1) ∧ (T a.2).r F b.2) ((j, x) :: kvs) ws := h
    cases h' with
    | @cons _ b _ ws' r t =>
      rw [List.any_cons, List.any_cons, KfR.any (k := k) (show KfR T F kvs ws' from t)]
      by_cases e : j = k
      · rw [decide_eq_true (show b.1 = KeyF.enc k by rw [r.1.1, e]), decide_eq_true (show (j, x).1 = k from e)]
      · rw [decide_eq_false (show ¬ b.1 = KeyF.enc k from fun z => e (KeyF.inj _ _ (r.1.1.symm.trans z))), decide_eq_false (show ¬ (j, x).1 = k from e)]
omit [Tbs] in
omit [Tbs] in
theorem KfR.put {F : Hp} {k : κ} {x : α} {v : V} (g : KeyF.good k) (r : (T x).r F v) {kvs : List (κ × α)} {ws : List (Key × V)} (h : KfR T F kvs ws) : KfR T F (pK kvs k x) (putK ws (KeyF.enc k) v) := by
  unfold pK putK
  rw [KfR.any h (k := k)]
  by_cases e : (kvs.any fun kv => decide (kv.1 = k)) = true
  · rw [if_pos e, if_pos e]
    clear e
    have h' : Paired (fun (a : κ × α) (b : Key × V) => (b.1 = KeyF.enc a.1 ∧ KeyF.good a.1) ∧ (T a.2).r F b.2) kvs ws := h
    show Paired _ _ _
    clear h
    induction h' with
    | nil => exact .nil
    | @cons a b as bs q t ih =>
      rw [List.map_cons, List.map_cons]
      refine .cons ?_ ih
      by_cases e : a.1 = k
      · rw [if_pos e, if_pos (show b.1 = KeyF.enc k by rw [q.1.1, e])]
        exact ⟨q.1, r⟩
      · rw [if_neg e, if_neg (fun z => e (KeyF.inj _ _ (q.1.1.symm.trans z)))]
        exact q
  · rw [if_neg e, if_neg e]
    exact pr_app h (.cons ⟨⟨rfl, g⟩, r⟩ .nil)
def oDK (T : α → S) (kvs : List (κ × α)) : O := ⟨fun F h p => ∃ ws, h p = some (.dK ws) ∧ KfR T F kvs ws, fun e ⟨ws, q, h⟩ => ⟨ws, q, h.mono e⟩⟩
/-- .. locked -/
def oDL (T : α → S) (kvs : List (κ × α)) : O := ⟨fun F h p => ∃ od ws, h p = some (.frz od (.dK ws)) ∧ KfR T F kvs ws, fun e ⟨od, ws, q, h⟩ => ⟨od, ws, q, h.mono e⟩⟩
/-- what may be read as such a dict -/
class AsDK (ρ : R) (T : outParam (α → S)) (kvs : outParam (List (κ × α))) : Prop where
  w : ∀ F H v, Same F H → ρ.r F H v → ∃ d ws, v = .ref d ∧ Rd H d (.dK ws) ∧ KfR T F kvs ws
instance {kvs : List (κ × α)} : AsDK (bO (oDK T kvs)) T kvs := ⟨fun F H v e ⟨p, h, e1, hk, ws, hd, hw⟩ => ⟨p, ws, e1, .inl (hk _ _ hd), hw⟩⟩
instance {kvs : List (κ × α)} : AsDK (sv (sO (oDK T kvs))) T kvs := ⟨fun F H v e ⟨p, h, e1, hk, ws, hd, hw⟩ => ⟨p, ws, e1, .inl (e _ _ (hk _ _ hd)), hw⟩⟩
instance {kvs : List (κ × α)} : AsDK (bO (oDL T kvs)) T kvs := ⟨fun F H v e ⟨p, h, e1, hk, od, ws, hd, hw⟩ => ⟨p, ws, e1, .inr ⟨od, hk _ _ hd⟩, hw⟩⟩
instance {kvs : List (κ × α)} : AsDK (sv (sO (oDL T kvs))) T kvs := ⟨fun F H v e ⟨p, h, e1, hk, od, ws, hd, hw⟩ => ⟨p, ws, e1, .inr ⟨od, e _ _ (hk _ _ hd)⟩, hw⟩⟩
omit [Tbs] in
omit [Tbs] in
theorem KfR.isSome {F : Hp} {k : κ} {kvs : List (κ × α)} {ws : List (Key × V)} (h : KfR T F kvs ws) : (valV ws (KeyF.enc k)).isSome = inB k (kvs.map (·.1)) := by
  have e := gK_isSome (kvs := kvs) (k := k)
  have := h.get (k := k)
  show _ = decide _
  rw [← e]
  cases z : gK kvs k with
  | none => rw [z] at this; rw [this]; rfl
  | some y => rw [z] at this; obtain ⟨v, hv, _⟩ := this; rw [hv]; rfl
end
omit [Tbs] in
omit [Tbs] in
theorem DGet.rk {H : Hp} {a : Addr} {kvs : List (Key × V)} {k : Key} (e : Rd H a (.dK kvs)) : DGet H a (kV k) (valV kvs k) := .inl ⟨kvs, k, e, rfl, rfl⟩
section
variable {X : Cx} {ss : List Sl} {e a b c : Expr} {es : List Expr} {ρ τ : R} {s t : S} {o : O} {pos pos' p p2 : Pos} {k : Nat} {κ α β : Type} [DecidableEq κ] [KeyF κ] {T : α → S} {U : κ → S} {kvs : List (κ × α)} {key : κ} {x : α} {D : Ds}
theorem ev_dnewK : EvN X ss (.Dict [] [] pos) (oDK T ([] : List (κ × α))) := .mk fun B F H σ h Q q => toE pe_dnewK fun p np => fresh1 q (.refl h.s) np ⟨[], hp1_same, .nil⟩
theorem ev_inK [hU : KeyFS U] [hq : AsDK ρ T kvs] (hr : Room k X.A) (ha : EvE X ss a (sv (U key))) (hb : EvE X ss b ρ) (hm : behindInMarks .In b = false := by rfl) : EvE X ss (.Compare a [.In] [b] pos) (sv (sBool (inB key (kvs.map (·.1))))) := .mk fun B F H σ h Q q =>
  toE (pe_cmp (pc_din (hu_of hr) PEw PEw) hm) (ha B F H σ h _ fun v F1 H1 g1 r1 => hb B F1 H1 σ (h.grow g1) _ fun w F2 H2 g2 r2 => by
    obtain ⟨d, ws, rfl, hd, hw⟩ := hq.w _ _ _ g2.s r2
    obtain ⟨rfl, _⟩ := hU.to_ r1
    exact ⟨d, _, rfl, DGet.rk hd, by rw [hw.isSome]; exact q _ F2 H2 (g1.trans g2) rfl⟩)
theorem et_inK [hU : KeyFS U] [hq : AsDK ρ T kvs] (hr : Room k X.A) (ha : EvE X ss a (sv (U key))) (hb : EvE X ss b ρ) (hm : behindInMarks .In b = false := by rfl) : EvT X ss (.Compare a [.In] [b] pos) (inB key (kvs.map (·.1))) := .mk fun B F H σ h Q q =>
  toT (pt_cmp (pc_din (hu_of hr) PEw PEw) hm) (ha B F H σ h _ fun v F1 H1 g1 r1 => hb B F1 H1 σ (h.grow g1) _ fun w F2 H2 g2 r2 => by
    obtain ⟨d, ws, rfl, hd, hw⟩ := hq.w _ _ _ g2.s r2
    obtain ⟨rfl, _⟩ := hU.to_ r1
    exact ⟨d, _, rfl, DGet.rk hd, _, rfl, by rw [hw.isSome]; exact q F2 H2 (g1.trans g2)⟩)
theorem et_ninK [hU : KeyFS U] [hq : AsDK ρ T kvs] (hr : Room k X.A) (ha : EvE X ss a (sv (U key))) (hb : EvE X ss b ρ) (hm : behindInMarks .NotIn b = false := by rfl) : EvT X ss (.Compare a [.NotIn] [b] pos) (!inB key (kvs.map (·.1))) := .mk fun B F H σ h Q q =>
  toT (pt_cmp (pc_dnotin (hu_of hr) PEw PEw) hm) (ha B F H σ h _ fun v F1 H1 g1 r1 => hb B F1 H1 σ (h.grow g1) _ fun w F2 H2 g2 r2 => by
    obtain ⟨d, ws, rfl, hd, hw⟩ := hq.w _ _ _ g2.s r2
    obtain ⟨rfl, _⟩ := hU.to_ r1
    exact ⟨d, _, rfl, DGet.rk hd, _, rfl, by rw [hw.isSome]; exact q F2 H2 (g1.trans g2)⟩)
omit [Tbs] in
omit [Tbs] in
theorem rd_same {H H' : Hp} {d : Addr} {o : HO} (e : Same H H') (h : Rd H d o) : Rd H' d o := by
  rcases h with h | ⟨od, h⟩
  · exact .inl (e _ _ h)
  · exact .inr ⟨od, e _ _ h⟩
/-- d[k] -/
theorem ev_getK [hU : KeyFS U] [hq : AsDK ρ T kvs] (hr : Room k X.A) (hb : EvE X ss b ρ) (ha : EvE X ss a (sv (U key))) (hx : gK kvs key = some x) (hp : NoSl a := by exact fun _ _ => rfl) : EvE X ss (.Subscript b a pos) (sv (T x)) := .mk fun B F H σ h Q q =>
  toE (pe_dget (hu_of hr) PEw PEw hp) (hb B F H σ h _ fun w F1 H1 g1 r1 => ha B F1 H1 σ (h.grow g1) _ fun v F2 H2 g2 r2 => by
    obtain ⟨d, ws, rfl, hd, hw⟩ := hq.w _ _ _ g1.s r1
    obtain ⟨rfl, _⟩ := hU.to_ r2
    have := hw.get (k := key)
    rw [hx] at this
    obtain ⟨u, hu, ru⟩ := this
    exact ⟨d, u, rfl, by rw [← hu]; exact DGet.rk (rd_gr g2.h hd), q u F2 H2 (g1.trans g2) ((T x).mono g2.f ru)⟩)
/-- d[k] = v, d an own dict -/
theorem s_putK (i : Nat) {z : Str} {p1 : Pos} [hU : KeyFS U] (hr : Room k X.A) (hi : ss[i]? = some (.own (oDK T kvs))) (hv : EvE X ss e (sv (T x))) (ha : EvE X ss a (sv (U key))) (hl : kvs.length < sizeLine) (kk : D.nx (ss.set i (.own (oDK T (pK kvs key x))))) (hN : X.N[i]? = some z := by rfl)
    (hvs : Vis X.env.scope z := by first | exact Or.inl rfl | exact Or.inr (Or.inl rfl) | exact Or.inr (Or.inr rfl)) (hd : (z == ("__debug__" : Str)) = false := by decide) (hcd : (z == ("__classdict__" : Str)) = false := by decide)
    (hs : swapsWith e (some (.Subscript (.Name z p1) a pos')) pos.line X.env = pure false := by rfl) : EvS X ss (.Assign [.Subscript (.Name z p1) a pos'] e pos) D := .mk fun B F H σ h tk =>
  toS (ps_dput (hu_of hr) (pe_var hN hvs hd hcd) PEw PEw hs) (hv B F H σ h _ fun v F1 H1 g1 r1 => by
    obtain ⟨d0, c0, e0, _⟩ := (h.grow g1).own hi
    refine ⟨_, e0, ha B F1 H1 σ (h.grow g1) _ fun w F2 H2 g2 r2 => ?_⟩
    obtain ⟨d, c, e1, hc, ⟨ws, hd, hk⟩, wr⟩ := ((h.grow g1).grow g2).write hi
    rw [e0] at e1
    cases e1
    obtain ⟨rfl, gb⟩ := hU.to_ r2
    obtain ⟨w0, w1, w2, w3⟩ := cell_wr (o1 := .dK (putK ws (KeyF.enc key) v)) hd (fun z => z) (fun a ob ea => (hc a ob ea).1)
    exact ⟨d0, _, rfl, DPut.k (hc _ _ hd).1 (by rw [hk.len]; exact hl), F2, _, wr (oDK T (pK kvs key x)) _ _ w0 w1 w2 w3 ⟨_, upd_same, hk.put gb ((T x).mono g2.f r1)⟩, kk⟩)
/-- x.f[k] = v, x an own instance, x.f its own dict -/
theorem s_gputK {C : Addr} {q : Addr → Prop} {fs : List (Str × Sl)} {f : Str} (i : Nat) {z : Str} {p1 pa pos' : Pos} [hU : KeyFS U] (hr : Room k X.A) (hi : ss[i]? = some (.own (oInsG C q fs))) (hl : fs.lookup f = some (.own (oDK T kvs))) (hc : Cls X.K C) (hn : NoAttr X.K C f)
    (hv : EvE X ss e (sv (T x))) (ha : EvE X ss a (sv (U key))) (hlen : kvs.length < sizeLine) (kk : D.nx (ss.set i (.own (oInsG C q (putG f (.own (oDK T (pK kvs key x))) fs))))) (hN : X.N[i]? = some z := by rfl)
    (hvs : Vis X.env.scope z := by first | exact Or.inl rfl | exact Or.inr (Or.inl rfl) | exact Or.inr (Or.inr rfl)) (hd : (z == ("__debug__" : Str)) = false := by decide) (hcd : (z == ("__classdict__" : Str)) = false := by decide)
    (hb : attributeBase (.Name z p1) f X.env (eval (.Name z p1) X.env) = eval (.Name z p1) X.env := by rfl)
    (hs : swapsWith e (some (.Subscript (.Attribute (.Name z p1) f pa) a pos')) pos.line X.env = pure false := by rfl) : EvS X ss (.Assign [.Subscript (.Attribute (.Name z p1) f pa) a pos'] e pos) D := .mk fun B F H σ h tk =>
  toS (ps_dput (hu_of hr) (pe_fld (pe_var hN hvs hd hcd) hb) PEw PEw hs) (hv B F H σ h _ fun v F1 H1 g1 r1 => by
    obtain ⟨p0, c0, e0, hc0, ⟨_, dx0, vs0, fp0, hp0, hf0, hfp0, _⟩⟩ := (h.grow g1).own hi
    obtain ⟨u0, hu0, d0, ed0, _⟩ := fdg_get hf0 hl
    cases ed0
    refine ⟨_, e0, p0, C, dx0, vs0, _, rfl, (hc0 _ _ hp0).1, hc, hn, hu0, ha B F1 H1 σ (h.grow g1) _ fun w F2 H2 g2 r2 => ?_⟩
    obtain ⟨p, c, e1, hc', ⟨⟨hq, hnd⟩, dx, vs, fp, hp, hf, hfp, hdj⟩, wr⟩ := ((h.grow g1).grow g2).write hi
    rw [e0] at e1
    cases e1
    have eI : HO.ins C dx0 vs0 = HO.ins C dx vs := by
      have z1 := g2.h.c (hc0 _ _ hp0).1
      rw [(hc' _ _ hp).1] at z1
      exact (Option.some.inj z1).symm
    injection eI with _ edx evs
    subst evs
    obtain ⟨u1, hu1, d1, ed1, ws, hd1, hk1⟩ := fdg_get hf hl
    rw [hu0] at hu1
    cases hu1
    cases ed1
    obtain ⟨rfl, gb⟩ := hU.to_ r2
    have hcd' : ∀ a ob, fp f a = some ob → H2 a = some ob := fun a ob ea => (hc' _ _ (hfp f a ob ea).2).1
    obtain ⟨w0, w1, w2, w3⟩ := cell_wr (o1 := .dK (putK ws (KeyF.enc key) v)) hd1 (fun z => z) hcd'
    obtain ⟨v0, v1, v2, v3, v4⟩ := ins_write (F := F2) (H := H2) (h := c) (p := p0) (C := C) (q := q) (o := oDK T kvs) (o' := oDK T (pK kvs key x)) hnd hq (fun a ob ea => (hc' _ _ ea).1) hp hf hfp hdj hl hu0 w0 w1 w2 w3 ⟨_, upd_same, hk1.put gb ((T x).mono g2.f r1)⟩
    exact ⟨d0, _, rfl, DPut.k (hcd' _ _ hd1) (by rw [hk1.len]; exact hlen), F2, _, wr _ _ _ v0 v1 v2 v3 v4, kk⟩)
omit [Tbs] in
omit [Tbs] in
theorem its_keysK [hU : KeyFS U] {F : Hp} : ∀ {kvs : List (κ × α)} {ws : List (Key × V)}, KfR T F kvs ws → Its U F (kvs.map (·.1)) (ws.map fun kv => kV kv.1)
  | [], ws, h => by
    have h' : Paired (fun (a : κ × α) (b : Key × V) => (b.1 = KeyF.enc a.1 ∧ KeyF.good a.1) ∧ (T a.2).r F b.2) [] ws := h
    cases h'
    exact .nil
  | (j, x) :: kvs, ws, h => by
    have h' : Paired (fun (a : κ × α) (b : Key × V) => (b.1 = KeyF.enc a.1 ∧ KeyF.good a.1) ∧ (T a.2).r F b.2) ((j, x) :: kvs) ws := h
    cases h' with
    | @cons _ b _ ws' r t => exact Its.cons (show (U j).r F (kV b.1) by rw [show b.1 = KeyF.enc j from r.1.1]; exact hU.of_ r.1.2) (its_keysK (show KfR T F kvs ws' from t))
/-- list(d) -/
theorem ev_listDK (U : κ → S) [hU : KeyFS U] [hq : AsDK ρ T kvs] (hc : X.calm = true) (hm : X.mg "list" = none) (ha : EvE X ss a ρ) (hg : Gl X "list" := by rfl) (he : starEach [a] X.env = (false, eval a X.env) :: starEach [] X.env := by exact star_ok rfl) (hpl : (backTo pos (starEach [] X.env)).any (·.1) = false := by rfl) :
    EvN X ss (.Call (.Name "list" p) [a] [] pos) (oLst U (kvs.map (·.1))) :=
  ev_ctN (call_listD hc) hm (by decide +kernel) (ea_cons ha ea_nil he) (fun F H vs Q sF rs q => by
    cases rs with
    | cons r rr =>
      cases rr
      obtain ⟨d, ws, rfl, hd, hw⟩ := hq.w F H _ sF r
      exact ⟨d, ws, rfl, hd, fun l hl => q l _ hl ⟨_, hp1_same, its_keysK hw⟩⟩) hg (he := he) (hpl := hpl)
/-- dict(d): a copy -/
theorem ev_dictK [hq : AsDK ρ T kvs] (hm : X.mg "dict" = none) (ha : EvE X ss a ρ) (hg : Gl X "dict" := by rfl) (he : starEach [a] X.env = (false, eval a X.env) :: starEach [] X.env := by exact star_ok rfl) (hpl : (backTo pos (starEach [] X.env)).any (·.1) = false := by rfl) :
    EvN X ss (.Call (.Name "dict" p) [a] [] pos) (oDK T kvs) :=
  ev_ctN call_dictD hm (by decide +kernel) (ea_cons ha ea_nil he) (fun F H vs Q sF rs q => by
    cases rs with
    | cons r rr =>
      cases rr
      obtain ⟨d, ws, rfl, hd, hw⟩ := hq.w F H _ sF r
      exact ⟨d, ws, rfl, hd, fun l hl => q l _ hl ⟨_, hp1_same, hw⟩⟩) hg (he := he) (hpl := hpl)
/-- d.get(k, x) -/
theorem ev_dgetK {apos cpos : Pos} {y : α} [hU : KeyFS U] [hq : AsDK ρ T kvs] (hr : Room k X.A) (hb : EvE X ss b ρ) (ha : EvE X ss a (sv (U key))) (hy : EvE X ss c (sv (T y)))
    (hbase : attributeBase b "get" X.env (eval b X.env) = eval b X.env := by rfl)
    (hfew : ((backTo cpos (starEach [a, c] X.env)).all (fun x => !x.1) && (backToKw cpos (keywordEach [] X.env)).all (fun x => x.1.isSome) && decide (([a, c] : List Expr).length + ([] : List Keyword).length + (if ([] : List Keyword).isEmpty then 0 else 1) < 30)) = true := by rfl)
    (hline : (apos.endLine == cpos.line) = true := by rfl) (htr : backTo cpos (starEach [a, c] X.env) = [(false, eval a X.env), (false, eval c X.env)] := by rfl) :
    EvE X ss (.Call (.Attribute b "get" apos) [a, c] [] cpos) (sv (T ((gK kvs key).getD y))) := .mk fun B F H σ h Q q =>
  toE (pe_dget2 (hu_of hr) PEw PEw PEw ⟨hbase, hfew, hline, htr⟩) (hb B F H σ h _ fun w F1 H1 g1 r1 => by
    obtain ⟨d, ws, rfl, hd, hw⟩ := hq.w _ _ _ g1.s r1
    refine ⟨d, rfl, .inl ⟨ws, hd⟩, ha B F1 H1 σ (h.grow g1) _ fun v F2 H2 g2 r2 => hy B F2 H2 σ ((h.grow g1).grow g2) _ fun u F3 H3 g3 r3 => ?_⟩
    obtain ⟨rfl, _⟩ := hU.to_ r2
    refine ⟨_, DGet.rk (rd_gr (g2.h.trans g3.h) hd), q _ F3 H3 ((g1.trans g2).trans g3) ?_⟩
    have := hw.get (k := key)
    show (T _).r F3 _
    cases z : gK kvs key with
    | none => rw [z] at this; rw [this]; exact r3
    | some y' => rw [z] at this; obtain ⟨v, hv, rv⟩ := this; rw [hv]; exact (T y').mono (g2.f.trans g3.f) rv)
/-- len(d) -/
theorem ev_lenK [hq : AsDK ρ T kvs] (hm : X.mg "len" = none) (ha : EvE X ss a (bO (oDK T kvs))) (hg : Gl X "len" := by rfl) (he : starEach [a] X.env = (false, eval a X.env) :: starEach [] X.env := by exact star_ok rfl) (hpl : (backTo pos (starEach [] X.env)).any (·.1) = false := by rfl) :
    EvE X ss (.Call (.Name "len" p) [a] [] pos) (sv (sInt (kvs.length : Int))) :=
  ev_cb call_lenD hm (by decide +kernel) (ea_cons ha ea_nil he) (fun F H vs Q sF rs q => by
    cases rs with
    | cons r rr =>
      cases rr
      obtain ⟨d, h, rfl, hk, ws, hd, hw⟩ := r
      exact ⟨d, ws, rfl, hk _ _ hd, by rw [hw.len]; exact q _ F H (.refl sF) rfl⟩) hg (he := he) (hpl := hpl)
/-- a dict is locked and handed out -/
theorem r_lockK {sts : List Stmt} (i : Nat) (hi : ss[i]? = some (.own (oDK T kvs))) (h : EvSs X (ss.set i (.val (sO (oDL T kvs)))) sts D) : EvSs X ss sts D := .mk fun B F H σ hS tk => by
  intro pins s I
  obtain ⟨d, c, e0, hc, ⟨ws, hd, hk⟩, wr⟩ := hS.write hi
  obtain ⟨od, I2⟩ := I.lock (hc _ _ hd).1 (by exact True.intro)
  obtain ⟨w0, w1, w2, w3⟩ := cell_wr (o1 := .frz od (.dK ws)) hd (fun z => z) (fun a ob ea => (hc a ob ea).1)
  have hS2 := wr (oDL T kvs) _ _ w0 w1 w2 w3 ⟨od, ws, upd_same, hk⟩
  have hl : (ss.set i (.own (oDL T kvs)))[i]? = some (.own (oDL T kvs)) := List.getElem?_set_self (List.getElem?_eq_some_iff.mp hi).1
  obtain ⟨F', sF, hS3⟩ := hS2.pub hl
  rw [List.set_set] at hS3
  exact h.go B F' _ σ hS3 tk pins s I2
omit [Tbs] in
omit [Tbs] in
/-- the keys of a locked dict -/
theorem walk_kk {d : Addr} {o : Obj} {ws : List (Key × V)} : Walk (Itk d o ws) ws.length (fun H => H d = some (.frz o (.dK ws))) (fun i H x H' => H' = H ∧ ∃ k v, ws[i]? = some (k, v) ∧ x = kV k) :=
  ⟨fun i _ hi q => ⟨q, hi⟩, fun _ q => ⟨q, Nat.le_refl _⟩, fun _ _ _ _ _ _ y => y⟩
theorem ei_keysK {tg : Expr} [hU : KeyFS U] (he : EvE X ss e (sv (sO (oDL T kvs)))) : EvI false X ss tg e U (kvs.map (·.1)) := .mk fun B F H σ h Rr q => by
  intro pins s1 inv
  refine thn (he.go B F H σ h (fun v H' => ∃ F', Grow F H F' H' ∧ (sO (oDL T kvs)).r F' v) (fun v F' H' g r => ⟨F', g, r⟩) pins s1 inv) fun u s3 ⟨v, H1, I3, rv, F1, g1, r1⟩ => ?_
  obtain ⟨d, c, ev, hk, od, ws, hd, hw⟩ := r1
  subst ev
  obtain rfl : u = Value.ref d := rv
  have hF : F1 d = some (.frz od (.dK ws)) := hk _ _ hd
  obtain ⟨n1, hg, hc, es, ep, vs, hdt, hsz, kv, hm⟩ := I3.frzK (g1.s _ _ hF)
  have hl : ws.length = kvs.length := hw.len
  have hl2 : ws.length = vs.length := Paired.length kv
  refine iter_keys n1 hg hc hdt (pi_one (tk := s3.toks) I3 _ (turn_keys (d := d) (kvs := ws) _ hdt) ⟨_, Heap.get?_push_size _ rfl, rfl, ?_⟩ ?_)
  · rw [hsz, hl2]
    rfl
  · refine q (Itk d od ws) F1 H1 _ _ g1 (by rw [List.length_map, ← hl]; exact walk_kk) (fun F2 H2 a b _ => b _ _ (a _ _ hF)) fun i F2 H2 v H3 hi a b _ y => ?_
    obtain ⟨rfl, k', v', hy, rfl⟩ := y
    obtain ⟨kv, hkv, ⟨e1, e2⟩, e3⟩ := pr_back hw hy
    exact ⟨F2, kv.1, .refl b, by rw [List.getElem?_map, hkv]; rfl, by rw [show k' = KeyF.enc kv.1 from e1]; exact hU.of_ e2⟩
end
end Sx
namespace Sx
variable [Tbs]
open PySem PySem.Spec PyProof.Rows L2

/-! ### sets of numbers as whole numbers -/
theorem bAndN (a b : Nat) : Builtin.bitAnd (a : Int) (b : Int) = ((a &&& b : Nat) : Int) := by
  unfold Builtin.bitAnd
  rw [decide_eq_true (Int.natCast_nonneg a), decide_eq_true (Int.natCast_nonneg b)]
  rfl
theorem bNotNot (x : Int) : Builtin.bitNot (Builtin.bitNot x) = x := by
  show -(-x - 1) - 1 = x
  omega
theorem bOrN (a b : Nat) : Builtin.bitOr (a : Int) (b : Int) = ((a ||| b : Nat) : Int) := by
  unfold Builtin.bitOr Builtin.bitAnd
  have h1 : ¬ (0 : Int) ≤ Builtin.bitNot (a : Int) := by
    show ¬ (0 : Int) ≤ -(a : Int) - 1
    omega
  have h2 : ¬ (0 : Int) ≤ Builtin.bitNot (b : Int) := by
    show ¬ (0 : Int) ≤ -(b : Int) - 1
    omega
  rw [decide_eq_false h1, decide_eq_false h2]
  show Builtin.bitNot (Builtin.bitNot _) = _
  rw [bNotNot, bNotNot, bNotNot]
  rfl
def bitLen (m : Nat) : Nat := if m = 0 then 0 else m.log2 + 1
theorem intBitsN (m : Nat) : Builtin.Int.intBits (m : Int) = bitLen m := by
  unfold Builtin.Int.intBits bitLen
  by_cases h : m = 0
  · subst h; rfl
  · rw [if_neg h, if_neg (by simpa using (show (m : Int) ≠ 0 by omega))]
    rfl
theorem bitLen_lt {m i : Nat} (h : m.testBit i = true) : i < bitLen m := by
  have h0 : m ≠ 0 := fun e => by rw [e, Nat.zero_testBit] at h; cases h
  unfold bitLen
  rw [if_neg h0]
  have h1 := Nat.ge_two_pow_of_testBit h
  have h2 := (Nat.le_log2 h0).mpr h1
  omega
/-- the numbers of a set -/
def bitsOf (m : Nat) : List Nat := (List.range (bitLen m)).filter fun i => m.testBit i
theorem mem_bitsOf {m i : Nat} : i ∈ bitsOf m ↔ m.testBit i = true := by
  unfold bitsOf
  rw [List.mem_filter, List.mem_range]
  exact ⟨fun h => h.2, fun h => ⟨bitLen_lt h, h⟩⟩
theorem bitsOf_asc (m : Nat) : (bitsOf m).Pairwise (· < ·) := List.pairwise_lt_range.sublist List.filter_sublist
section
variable {X : Cx} {ss : List Sl} {a b : Expr} {pos : Pos} {n m : Nat}
theorem ev_andN (ha : EvE X ss a (sv (sNat n))) (hb : EvE X ss b (sv (sNat m))) : EvE X ss (.BinOp a .BitAnd b pos) (sv (sNat (n &&& m))) := EvE.to (ev_I0 op_and ha hb) (by rw [bAndN]; rfl)
theorem ev_orN (ha : EvE X ss a (sv (sNat n))) (hb : EvE X ss b (sv (sNat m))) : EvE X ss (.BinOp a .BitOr b pos) (sv (sNat (n ||| m))) := EvE.to (ev_I0 op_or ha hb) (by rw [bOrN]; rfl)
theorem ev_shrN (ha : EvE X ss a (sv (sNat n))) (hb : EvE X ss b (sv (sNat m))) : EvE X ss (.BinOp a .RShift b pos) (sv (sNat (n >>> m))) := EvE.to (ev_I op_shr ha hb (Int.natCast_nonneg m)) (by
  rw [Int.toNat_natCast, Nat.shiftRight_eq_div_pow]
  rfl)
theorem ev_oneShl (ha : EvE X ss a (sv (sInt 1))) (hb : EvE X ss b (sv (sNat n))) (hn : n ≤ 1000) : EvE X ss (.BinOp a .LShift b pos) (sv (sNat (2 ^ n))) := EvE.to (ev_bin op_oneShl ha hb (κ := sv (sInt (2 ^ n))) fun F H x y Q sF ex ey q => ⟨n, ex, ey, by omega, q _ F H (.refl sF) rfl⟩) (by
  unfold sNat
  congr 2)
/-- x.bit_length() -/
theorem ev_bits {apos : Pos} (ha : EvE X ss a (sv (sNat n))) (hbase : attributeBase a "bit_length" X.env (eval a X.env) = eval a X.env := by rfl) (hline : (apos.endLine == pos.line) = true := by rfl) : EvE X ss (.Call (.Attribute a "bit_length" apos) [] [] pos) (sv (sNat (bitLen n))) := .mk fun B F H σ h Q q =>
  toE (pe_bits PEw hbase hline) (ha B F H σ h _ fun v F1 H1 g1 r1 => ⟨(n : Int), r1, by rw [intBitsN]; exact q _ F1 H1 g1 rfl⟩)
end
end Sx
namespace Sx
variable [Tbs]
open PySem PySem.Spec PyProof.Rows L2

/-! ### an object of our own is lent to a def (its first argument), which may write it -/
/-- H without the cells k -/
def hidK (k H : Hp) : Hp := fun a => match k a with
  | some _ => none
  | none => H a
theorem hidK_some {k H : Hp} {a : Addr} {o : HO} (h : hidK k H a = some o) : k a = none ∧ H a = some o := by
  unfold hidK at h
  cases q : k a with
  | none => rw [q] at h; exact ⟨rfl, h⟩
  | some x => rw [q] at h; cases h
theorem hidK_ne {k H : Hp} {a : Addr} (h : k a = none) : hidK k H a = H a := by unfold hidK; rw [h]
theorem hidK_in {k H : Hp} {a : Addr} {o : HO} (h : k a = some o) : hidK k H a = none := by unfold hidK; rw [h]
theorem hidK_none {k H : Hp} {a : Addr} (h : hidK k H a = none) : (∃ o, k a = some o) ∨ H a = none := by
  unfold hidK at h
  cases q : k a with
  | none => rw [q] at h; exact .inr h
  | some x => exact .inl ⟨x, rfl⟩
/-- how the lent object lies: its cells -/
def LentC (F H k : Hp) : Prop := ∀ a ob, k a = some ob → (H a = some ob ∧ (F a = none ∨ IsT ob)) ∧ ¬ Tb a ∧ ∀ c q, ob ≠ LamX.CodeO c q
theorem LentC.tb {F H k : Hp} (l : LentC F H k) (t : TbOk H) : TbOk (hidK k H) := fun pq hp => by
  obtain ⟨ps, e1, e2, e3⟩ := t pq hp
  refine ⟨ps, ?_, e2, fun pos cv hc => ?_⟩
  · rw [hidK_ne]
    · exact e1
    · cases q : k pq.1 with
      | none => rfl
      | some o => exact absurd ⟨pq.2, hp⟩ (l _ _ q).2.1
  · obtain ⟨c, z1, z2⟩ := e3 pos cv hc
    refine ⟨c, z1, ?_⟩
    rw [hidK_ne]
    · exact z2
    · cases q : k c with
      | none => rfl
      | some o =>
        have z3 := (l _ _ q).1.1
        rw [z2] at z3
        cases z3
        exact absurd rfl ((l _ _ q).2.2 _ _)
theorem LentC.gr {F H k : Hp} (l : LentC F H k) (t : TbOk H) : Gr (hidK k H) H := ⟨fun _ _ _ e => (hidK_some e).2, l.tb t, t⟩
/-- behind: its cells are k', it lies at x as o' tells -/
structure Back (F H k : Hp) (x : Addr) (o' : O) (F' H' k' : Hp) : Prop where
  g : Grow F (hidK k H) F' H'
  c : ∀ a ob, k' a = some ob → H' a = some ob ∧ hidK k H a = none ∧ (F' a = none ∨ IsT ob)
  r : o'.r F' k' x
inductive Rb where
  | ok (o : O) (s : S)
  | new (o o2 : O)
  | ex (o : O) (x : Xo)
def RbP (F H k : Hp) (x : Addr) (Q : VK) (E : XK) : Rb → Prop
  | .ok o s => ∀ v F' H' k', Back F H k x o F' H' k' → s.r F' v → Q v H'
  | .new o o2 => ∀ p F' H' k' k2, Back F H k x o F' H' k' → (∀ a ob, k2 a = some ob → H' a = some ob ∧ hidK k H a = none ∧ (F' a = none ∨ IsT ob)) → (∀ a ob, k' a = some ob → k2 a = none) → o2.r F' k2 p → Q (.ref p) H'
  | .ex o z => ∀ cls d F' H' k', Back F H k x o F' H' k' → XoR z F' cls d → E cls d H'
def spB (Φ : O → List S → Rb → Prop) : Sp := fun vs H Q E => ∃ (F k : Hp) (x : Addr) (ws : List V) (o : O) (as : List S) (r : Rb), vs = .ref x :: ws ∧ Sm F H ∧ LentC F H k ∧ o.r F k x ∧ Paired (fun (a : S) v => a.r F v) as ws ∧ Φ o as r ∧ RbP F H k x Q E r
/-- .. at y -/
def oAt (y : Addr) (o : O) : O := ⟨fun F h p => p = y ∧ o.r F h p, fun e ⟨a, b⟩ => ⟨a, o.mono e b⟩⟩
theorem EvE.at {X : Cx} {ss : List Sl} {e : Expr} {y : Addr} {o : O} (h : EvE X ss e (bO (oAt y o))) : EvE X ss e (bO o) := h.imp fun F H v _ ⟨p, k, e1, hk, _, r⟩ => ⟨p, k, e1, hk, r⟩
/-- what o tells holds at y alone -/
def AtY (y : Addr) (o : O) : Prop := ∀ F k p, o.r F k p → p = y
def dsB (y : Addr) : Rb → Ds
  | .ok o s => { nx := fun ss' => ∃ o', ss'[0]? = some (.own o') ∧ AtY y o' ∧ (∀ F k p, o'.r F k p → o.r F k p) ∧ ∀ F : Hp, s.r F .non, rt := fun _ => False, rb := fun o' s' => AtY y o' ∧ (∀ F k p, o'.r F k p → o.r F k p) ∧ ∀ F v, s'.r F v → s.r F v }
  | .new o o2 => { nx := fun _ => False, rt := fun _ => False, rbn := fun o' o2' => AtY y o' ∧ (∀ F k p, o'.r F k p → o.r F k p) ∧ ∀ F k p, o2'.r F k p → o2.r F k p }
  | .ex o x => { nx := fun _ => False, rt := fun _ => False, ex := fun x' ss' => x' = x ∧ ∃ o', ss'[0]? = some (.own o') ∧ AtY y o' ∧ ∀ F k p, o'.r F k p → o.r F k p }
theorem sat_startB {F H0 k : Hp} {N : List Str} {as : List S} {ws : List V} {y : Addr} {o : O} (sF : Sm F H0) (hk : LentC F H0 k) (ho : o.r F k y) (hp : Paired (fun (a : S) v => a.r F v) as ws) :
    Sat ⟨F, hidK k H0⟩ F H0 (L2.start N (.ref y :: ws)) (.own o :: (as.map Sl.val ++ List.replicate (N.length - (as.length + 1)) .any)) := by
  have hlen : ws.length = as.length := (Paired.length hp).symm
  have g0 : Grow F (hidK k H0) F H0 := ⟨Same.refl _, hk.gr sF.t, sF, fun p o e n => by rw [n] at e; cases e⟩
  refine ⟨g0, ?_, fun i => if i = 0 then k else hp0, fun i x v e1 e2 => ?_, ⟨fun i a ob e => ?_, fun i j a o1 o2 e1 e2 => ?_⟩⟩
  · unfold L2.start
    simp only [List.length_cons, List.length_append, List.length_map, List.length_replicate, hlen]
    omega
  · cases i with
    | zero =>
      rw [List.getElem?_cons_zero] at e1
      unfold L2.start at e2
      rw [List.map_cons, List.cons_append, List.getElem?_cons_zero] at e2
      cases e1; cases e2
      exact ⟨y, rfl, ho⟩
    | succ i =>
      rw [List.getElem?_cons_succ] at e1
      unfold L2.start at e2
      rw [List.map_cons, List.cons_append, List.getElem?_cons_succ] at e2
      by_cases hi : i < as.length
      · rw [List.getElem?_append_left (by rw [List.length_map]; exact hi), List.getElem?_map] at e1
        rw [List.getElem?_append_left (by rw [List.length_map, hlen]; exact hi), List.getElem?_map] at e2
        cases q1 : as[i]? with
        | none => rw [q1] at e1; cases e1
        | some a =>
          obtain ⟨u, hu, ru⟩ := pr_at hp q1
          rw [q1] at e1
          rw [hu] at e2
          cases e1; cases e2
          exact ⟨u, rfl, ru⟩
      · rw [List.getElem?_append_right (by rw [List.length_map]; omega), List.length_map] at e1
        have : x = .any := by
          obtain ⟨_, h2⟩ := List.getElem?_eq_some_iff.mp e1
          rw [← h2, List.getElem_replicate]
        subst this
        trivial
  · by_cases hi : i = 0
    · subst hi
      have e' : k a = some ob := e
      obtain ⟨⟨h1, h2⟩, _⟩ := hk a ob e'
      exact ⟨h1, hidK_in e', h2⟩
    · have e' : (if i = 0 then k else hp0) a = some ob := e
      rw [if_neg hi] at e'
      cases (show (none : Option HO) = some ob from e')
  · by_cases hi : i = 0
    · by_cases hj : j = 0
      · rw [hi, hj]
      · have e' : (if j = 0 then k else hp0) a = some o2 := e2
        rw [if_neg hj] at e'
        cases (show (none : Option HO) = some o2 from e')
    · have e' : (if i = 0 then k else hp0) a = some o1 := e1
      rw [if_neg hi] at e'
      cases (show (none : Option HO) = some o1 from e')
section
variable {P : Program} {w : World} {K : PySem.W.Frag} {mg : Str → Option Value} {base : Heap} {x qual : Str} {st : Stmt} {f C : Addr} {fd : FuncData} {N ps : List Str} {k : Nat} {Φ : O → List S → Rb → Prop}
/-- Ψ: what is lent, at y -/
theorem fn_okB (F : FunE K x qual st f fd) (Sc : FnScope N ps (defScope st)) (len : ∀ o as r, Φ o as r → as.length + 1 = ps.length)
    (body : ∀ (cdv : Value) (A : Around) (outer : List Env) (s0 : Shared) (H0 : Hp) (E : XK) (y : Addr) (o : O) (as : List S) (r : Rb), Room k (A.deeper (envOfC qual (defScope st) s0.heap.objs.size f cdv)) →
      PassesOwn (model P w) (cxOf (L2.CX P w) P w K mg base N qual (defScope st) f cdv A outer s0 H0 E).A (cxOf (L2.CX P w) P w K mg base N qual (defScope st) f cdv A outer s0 H0 E).env (cxOf (L2.CX P w) P w K mg base N qual (defScope st) f cdv A outer s0 H0 E).xe → Φ o as r →
      EvSs (cxOf (L2.CX P w) P w K mg base N qual (defScope st) f cdv A outer s0 H0 E) (.own (oAt y o) :: (as.map Sl.val ++ List.replicate (N.length - (as.length + 1)) .any)) (defBody st) (dsB y r)) :
    FnOk P w K mg base (L2.CX P w) (k + 1) f fd ps (spB Φ) := by
  refine F.okX Sc (fun vs H Q E ⟨F, k, x, ws, o, as, r, ev, _, _, _, hp, hΦ, _⟩ => by rw [ev, List.length_cons, ← Paired.length hp]; exact len o as r hΦ) (fun cdv A outer s0 H0 vs Q E hr h => ?_)
  obtain ⟨F, kc, y, ws, o, as, r, rfl, sF, hk, ho, hp, hΦ, q⟩ := h
  refine ⟨_, PSsw, ?_⟩
  have tk : Tk (cxOf (L2.CX P w) P w K mg base N qual (defScope st) f cdv A outer s0 H0 E) ⟨F, hidK kc H0⟩ (dsB y r).ex := by
    refine Takes.imp (takes_of (E := E) rfl rfl rfl rfl) fun cls d σ H z => ?_
    obtain ⟨x', F', ss', hx, hs', hr'⟩ := z
    cases r with
    | ok o' s => exact (show False from hx).elim
    | new o' o2 => exact (show False from hx).elim
    | ex o' z =>
      obtain ⟨e, o1, h1, h2, h3⟩ := hx
      subst e
      obtain ⟨p, c, _, hc, hr2⟩ := hs'.own h1
      obtain rfl := h2 _ _ _ hr2
      exact q cls d F' H c ⟨hs'.g, hc, h3 _ _ _ hr2⟩ hr'
  refine wpSs_mono (body cdv A outer s0 H0 E y o as r hr (passes_of rfl) hΦ ⟨F, hidK kc H0⟩ F H0 _ (sat_startB sF hk ⟨rfl, ho⟩ hp) tk) (fun σ' H' ⟨F', ss', hs', z⟩ => ?_) (fun v H' z => ?_) (fun _ _ ⟨_, _, _, z⟩ => ?_) (fun _ _ ⟨_, _, _, z⟩ => ?_)
  · cases r with
    | ok o' s =>
      obtain ⟨o1, h1, h2, h3, h4⟩ := z
      obtain ⟨p, c, _, hc, hr2⟩ := hs'.own h1
      obtain rfl := h2 _ _ _ hr2
      exact q _ F' H' c ⟨hs'.g, hc, h3 _ _ _ hr2⟩ (h4 F')
    | new o' o2 => exact (show False from z).elim
    | ex o' x' => exact (show False from z).elim
  · cases r with
    | ok o' s =>
      rcases z with ⟨_, _, _, _, z⟩ | ⟨_, _, _, _, _, _, _, _, z⟩ | ⟨F', c, p, o1, s1, g, r1, hc, hr2, z1, z2, z3⟩ | ⟨_, _, _, _, _, _, _, _, _, _, _, _, _, _, z⟩
      · exact (show False from z).elim
      · exact (show False from z).elim
      · obtain rfl := z1 _ _ _ hr2
        exact q v F' H' c ⟨g, hc, z2 _ _ _ hr2⟩ (z3 _ _ r1)
      · exact (show False from z).elim
    | new o' o2 =>
      rcases z with ⟨_, _, _, _, z⟩ | ⟨_, _, _, _, _, _, _, _, z⟩ | ⟨_, _, _, _, _, _, _, _, _, z⟩ | ⟨F', c, p, o1, c2, p2, o3, rfl, g, hc, hr2, hc2, hr3, ap, z1, z2, z3⟩
      · exact (show False from z).elim
      · exact (show False from z).elim
      · exact (show False from z).elim
      · obtain rfl := z1 _ _ _ hr2
        exact q p2 F' H' c c2 ⟨g, hc, z2 _ _ _ hr2⟩ hc2 ap (z3 _ _ _ hr3)
    | ex o' x' =>
      rcases z with ⟨_, _, _, _, z⟩ | ⟨_, _, _, _, _, _, _, _, z⟩ | ⟨_, _, _, _, _, _, _, _, _, z⟩ | ⟨_, _, _, _, _, _, _, _, _, _, _, _, _, _, z⟩ <;> exact (show False from z).elim
  · cases r <;> exact (show False from z).elim
  · cases r <;> exact (show False from z).elim
end
/-! ### return, where an object is lent -/
section
variable {X : Cx} {ss : List Sl} {e : Expr} {s : S} {o o2 : O} {D : Ds} {pos p : Pos}
theorem s_retB (i : Nat) (hi : ss[i]? = some (.own o)) (he : EvE X ss e (sv s)) (k : D.rb o s) : EvS X ss (.Return (some e) pos) D := .mk fun B F H σ h tk =>
  toS (ps_ret PEw) (he B F H σ h _ fun v F' H' g r => by
    obtain ⟨q, c, e1, hc, ro⟩ := (h.grow g).own hi
    exact .lent F' c q o s (h.g.trans g) r hc ro k)
theorem s_retBN (i : Nat) (hi : ss[i]? = some (.own o)) (he : EvN X ss e o2) (k : D.rbn o o2) : EvS X ss (.Return (some e) pos) D := .mk fun B F H σ h tk =>
  toS (ps_ret PEw) (he B F H σ h _ fun p F' H' c2 g n r => by
    obtain ⟨v, e0⟩ := h.there hi
    obtain ⟨fp, h1, h0⟩ := h.fp
    obtain ⟨q, eq, ro⟩ := h1 i _ _ hi e0
    exact .lentN F' (fp i) q o c2 p o2 rfl (h.g.trans g) ((h0.grow g h.g.h.t).at_ i) (o.mono g.f ro) (fun a ob e => ⟨(n a ob e).2.2, h.g.h.free (n a ob e).1, (n a ob e).2.1⟩) r (fun a ob e => by
      cases z : c2 a with
      | none => rfl
      | some ob2 =>
        have e1 := (h0.at_ i a ob e).1
        rw [(n a ob2 z).1] at e1
        cases e1) k)
end
end Sx
namespace Sx
variable [Tbs]
open PySem PySem.Spec PyProof.Rows L2

/-! ### a dict that only fills up by what is true: known to all, by what holds of its entries -/
def cacheO (P : Program) (w : World) (I : List (Key × V) → Prop) (d : Addr) : HO := .ext fun h => ∃ ws, I ws ∧ ObjOk P w (fun _ => none) h d (.dK ws)
instance {P : Program} {w : World} {I : List (Key × V) → Prop} {d : Addr} : NC (cacheO P w I d) := nc_ext fun hp z ⟨ws, _, _, _, vs, _, o, es, ep, e, c⟩ => by
  obtain ⟨vs, e3⟩ := z d o e
  have e2 := c.2.1
  rw [e2] at e3
  cases e3
theorem cacheO_nt {P : Program} {w : World} {I : List (Key × V) → Prop} {d : Addr} : ¬ IsT (cacheO P w I d) := nt_ext (inferInstanceAs (NC (cacheO P w I d)))
section
variable {P : Program} {w : World} {I : List (Key × V) → Prop} {d : Addr} {H H' : Hp} {h h' B : Heap} {ws : List (Key × V)} {fs ex : List Addr}
theorem cache_ok (q : ObjOk P w H h d (.dK ws)) (i : I ws) {H2 : Hp} : ObjOk P w H2 h d (cacheO P w I d) := by
  refine ⟨⟨ws, i, q⟩, ?_, fun h1 h2 ⟨ws', i', z, y, vs, r, o, es, ep, e, c⟩ k => ⟨ws', i', z, y, vs, r, o, es, ep, k _ e, c⟩⟩
  obtain ⟨_, _, _, _, o, _, _, e, _⟩ := q
  exact ⟨o, e⟩
theorem hok_swap {o1 o2 : HO} (ok : HOk P w H h) (e : H d = some o1) (n1 : ∀ y, o1 ≠ .own y) (n2 : ∀ xs, o1 ≠ .tup xs) (q : ObjOk P w (upd H d o2) h d o2) : HOk P w (upd H d o2) h := fun a o ea => by
  by_cases ha : a = d
  · subst ha
    rw [upd_same] at ea
    cases ea
    exact q
  · rw [upd_ne ha] at ea
    refine (ok a o ea).stay (fun b u _ z => z) (fun b z => ?_) (fun b xs z => ?_)
    · rw [upd_ne (fun y => by subst y; rw [e] at z; cases z; exact n1 _ rfl)]; exact z
    · rw [upd_ne (fun y => by subst y; rw [e] at z; cases z; exact n2 _ rfl)]; exact z
theorem cache_open (ok : HOk P w H h) (e : H d = some (cacheO P w I d)) : ∃ ws, I ws ∧ HOk P w (upd H d (.dK ws)) h := by
  obtain ⟨⟨ws, i, q⟩, _⟩ := ok d _ e
  exact ⟨ws, i, hok_swap ok e (fun y z => by cases z) (fun y z => by cases z) q⟩
theorem cache_close (ok : HOk P w H h) (e : H d = some (.dK ws)) (i : I ws) : HOk P w (upd H d (cacheO P w I d)) h :=
  hok_swap ok e (fun y z => by cases z) (fun y z => by cases z) (cache_ok (ok d _ e) i)
/-- what no word of another object leans on -/
def Loose : HO → Prop
  | .tup _ => False
  | .frz _ _ => False
  | .tbl _ => False
  | _ => True
theorem un_swap {o1 o2 o3 o4 : HO} (e : H d = some o1) (l1 : Loose o1) (e' : H' d = some o3) (u : Un fs ex (upd H d o2) H' h h') : Un fs ex H (upd H' d o4) h h' where
  keep := fun b o x n => u.keep b o x (by rw [upd_ne (fun y => by subst y; rw [e] at n; cases n)]; exact n)
  slot := fun b o x n => u.slot b o x (by rw [upd_ne (fun y => by subst y; rw [e] at n; cases n)]; exact n)
  free := fun b o x n k => by
    have hb : b ≠ d := fun y => by subst y; rw [e] at n; cases n
    rw [upd_ne hb]
    exact u.free b o x (by rw [upd_ne hb]; exact n) k
  there := u.there
  tups := fun b xs z => by
    have hb : b ≠ d := fun y => by subst y; rw [e] at z; cases z; exact l1
    rw [upd_ne hb]
    exact u.tups b xs (by rw [upd_ne hb]; exact z)
  frzs := fun b o xs z => by
    have hb : b ≠ d := fun y => by subst y; rw [e] at z; cases z; exact l1
    rw [upd_ne hb]
    exact u.frzs b o xs (by rw [upd_ne hb]; exact z)
  tbls := fun b xs z => by
    have hb : b ≠ d := fun y => by subst y; rw [e] at z; cases z; exact l1
    rw [upd_ne hb]
    exact u.tbls b xs (by rw [upd_ne hb]; exact z)
theorem ub_swap {o1 o2 o3 o4 : HO} (e : H d = some o1) (l1 : Loose o1) (e' : H' d = some o3) (u : UB fs (upd H d o2) H' h B h') : UB fs H (upd H' d o4) h B h' where
  keep := fun b o x n => u.keep b o x (by rw [upd_ne (fun y => by subst y; rw [e] at n; cases n)]; exact n)
  slot := u.slot
  free := fun b o x n => by
    have hb : b ≠ d := fun y => by subst y; rw [e] at n; cases n
    rw [upd_ne hb]
    exact u.free b o x (by rw [upd_ne hb]; exact n)
  there := u.there
  tups := fun b xs z => by
    have hb : b ≠ d := fun y => by subst y; rw [e] at z; cases z; exact l1
    rw [upd_ne hb]
    exact u.tups b xs (by rw [upd_ne hb]; exact z)
  frzs := fun b o xs z => by
    have hb : b ≠ d := fun y => by subst y; rw [e] at z; cases z; exact l1
    rw [upd_ne hb]
    exact u.frzs b o xs (by rw [upd_ne hb]; exact z)
  tbls := fun b xs z => by
    have hb : b ≠ d := fun y => by subst y; rw [e] at z; cases z; exact l1
    rw [upd_ne hb]
    exact u.tbls b xs (by rw [upd_ne hb]; exact z)
end
theorem fn_open {P : Program} {w : World} {K : PySem.W.Frag} {mg : Str → Option Value} {base : Heap} {k : Nat} {f : Addr} {fd : FuncData} {ps : List Str} {sp sp1 : Sp} (G : FnOk P w K mg base (L2.CX P w) k f fd ps sp1)
    (h : ∀ vs H Q E, sp vs H Q E → vs.length = ps.length ∧ ∃ (d : Addr) (I : List (Key × V) → Prop), H d = some (cacheO P w I d) ∧ ∀ ws, I ws →
      sp1 vs (upd H d (.dK ws)) (fun v H' => ∃ ws', H' d = some (.dK ws') ∧ I ws' ∧ Q v (upd H' d (cacheO P w I d))) (fun c dd H' => ∃ ws', H' d = some (.dK ws') ∧ I ws' ∧ E c dd (upd H' d (cacheO P w I d)))) :
    FnOk P w K mg base (L2.CX P w) k f fd ps sp := by
  refine ⟨fun vs H Q E q => (h vs H Q E q).1, fun A outer s H args us vs Q E hr he hb hv hs => ?_⟩
  obtain ⟨_, d, I, hd, hsp⟩ := h vs H Q E hs
  obtain ⟨ws, i, ok⟩ := cache_open he.hok hd
  have he1 : Env0 P w K mg base A outer s (upd H d (.dK ws)) := ⟨he.frames, he.mod, fun b o e => ⟨(he.bs b o e).1, by
      rw [upd_ne (fun y => by have := (he.bs b o e).2; subst y; rw [hd] at this; cases this)]
      exact (he.bs b o e).2⟩, he.bsz, he.funs, fun b hb => by
      rw [upd_ne (fun y => by have := he.frf b hb; subst y; rw [hd] at this; cases this)]
      exact he.frf b hb, ok, he.bare⟩
  refine codeAny_mono (G.run A outer s _ args us vs _ _ hr he1 hb hv (hsp ws i)) fun r s' hq => ?_
  cases r with
  | error e =>
    obtain ⟨a, B, H', cls, dd, e1, fl, ok', ub, na, os, ag, ws', e2, i', z⟩ := hq
    refine ⟨a, B, _, cls, dd, e1, fl, cache_close ok' e2 i', ub_swap hd trivial e2 ub, ?_, os, ag, z⟩
    rw [upd_ne (fun y => by subst y; rw [e2] at na; cases na)]
    exact na
  | ok fl =>
    cases fl with
    | ret u =>
      obtain ⟨v, H', os, ag, un, ok', rv, ws', e2, i', z⟩ := hq
      exact ⟨v, _, os, ag, un_swap hd trivial e2 un, cache_close ok' e2 i', rv, z⟩
    | next => exact hq
    | brk => exact hq
    | cont => exact hq
end Sx
namespace Sx
variable [Tbs]
open PySem PySem.Spec PyProof.Rows L2

/-! ### an instance with a cache: a dict of its own that only fills up by what is true -/
/-- the fields; none: the cache, at d -/
def Fdc (F : Hp) (d : Addr) (fs : List (Str × Option S)) (vs : List (Str × V)) : Prop := Paired (fun (a : Str × Option S) (b : Str × V) => a.1 = b.1 ∧ (match a.2 with
  | some s => s.r F b.2
  | none => b.2 = .ref d)) fs vs
theorem Fdc.mono {F F' : Hp} {d : Addr} {fs : List (Str × Option S)} {vs : List (Str × V)} (e : Same F F') (h : Fdc F d fs vs) : Fdc F' d fs vs := Paired.mapP h fun a _ ⟨h1, h2⟩ => ⟨h1, by
  cases q : a.2 with
  | none => rw [q] at h2; exact h2
  | some s => rw [q] at h2; exact s.mono e h2⟩
theorem fdc_get {F : Hp} {d : Addr} {f : Str} {x : Option S} : ∀ {fs : List (Str × Option S)} {vs : List (Str × V)}, Fdc F d fs vs → fs.lookup f = some x → ∃ v, vs.lookup f = some v ∧ (match x with
    | some s => s.r F v
    | none => v = .ref d)
  | [], _, _, e => by cases e
  | (g, y) :: fs, vs, h, e => by
    have h' : Paired (fun (a : Str × Option S) (b : Str × V) => a.1 = b.1 ∧ (match a.2 with
      | some s => s.r F b.2
      | none => b.2 = .ref d)) ((g, y) :: fs) vs := h
    cases h' with
    | @cons _ b _ vs' r t =>
      obtain ⟨b1, b2⟩ := b
      obtain ⟨r1, r2⟩ := r
      have r1' : g = b1 := r1
      subst r1'
      by_cases q : f = g
      · subst q
        rw [List.lookup_cons_self] at e
        cases e
        exact ⟨b2, by rw [List.lookup_cons_self], r2⟩
      · have qb : (f == g) = false := by simpa using q
        rw [List.lookup_cons, qb] at e
        obtain ⟨v, h1, h2⟩ := fdc_get (show Fdc F d fs vs' from t) e
        exact ⟨v, by rw [List.lookup_cons, qb]; exact h1, h2⟩
theorem fdc_none {F : Hp} {d : Addr} {f : Str} : ∀ {fs : List (Str × Option S)} {vs : List (Str × V)}, Fdc F d fs vs → fs.lookup f = none → vs.lookup f = none
  | [], vs, h, _ => by
    have h' : Paired (fun (a : Str × Option S) (b : Str × V) => a.1 = b.1 ∧ (match a.2 with
      | some s => s.r F b.2
      | none => b.2 = .ref d)) [] vs := h
    cases h'
    rfl
  | (g, y) :: fs, vs, h, e => by
    have h' : Paired (fun (a : Str × Option S) (b : Str × V) => a.1 = b.1 ∧ (match a.2 with
      | some s => s.r F b.2
      | none => b.2 = .ref d)) ((g, y) :: fs) vs := h
    cases h' with
    | @cons _ b _ vs' r t =>
      obtain ⟨b1, b2⟩ := b
      have r1' : g = b1 := r.1
      subst r1'
      cases qb : (f == g) with
      | true => rw [List.lookup_cons, qb] at e; cases e
      | false =>
        rw [List.lookup_cons, qb] at e
        rw [List.lookup_cons, qb]
        exact fdc_none (show Fdc F d fs vs' from t) e
/-- what the cache may hold -/
def cI (inv : List (Nat × Bool) → Prop) : List (Key × V) → Prop := fun ws => ∃ kvs : List (Nat × Bool), inv kvs ∧ KfR sBool (fun _ => none) kvs ws
def oCach (P : Program) (w : World) (C : Addr) (inv : List (Nat × Bool) → Prop) (fs : List (Str × Option S)) : O :=
  ⟨fun F h p => ∃ (F0 : Hp) (d dx : Addr) (vs : List (Str × V)), Same F0 F ∧ F0 p = none ∧ F0 d = none ∧ p ≠ d ∧ h p = some (.ins C dx vs) ∧ h d = some (cacheO P w (cI inv) d) ∧ Fdc F0 d fs vs, fun e ⟨F0, d, dx, vs, s, q⟩ => ⟨F0, d, dx, vs, s.trans e, q⟩⟩
/-- such an instance, known to all -/
abbrev sCach (P : Program) (w : World) (C : Addr) (inv : List (Nat × Bool) → Prop) (fs : List (Str × Option S)) : S := sO (oCach P w C inv fs)
/-- such an instance, lent: its cell, its dict -/
def oLent (C dx : Addr) (vs : List (Str × V)) (d : Addr) (fs : List (Str × Option S)) (kvs : List (Nat × Bool)) : O :=
  ⟨fun F h p => h p = some (.ins C dx vs) ∧ p ≠ d ∧ Fdc F d fs vs ∧ (∃ ws, h d = some (.dK ws) ∧ KfR sBool F kvs ws) ∧ ∀ a ob, h a = some ob → a = p ∨ a = d, fun e ⟨a, b, c, ⟨ws, q1, q2⟩, z⟩ => ⟨a, b, c.mono e, ⟨ws, q1, q2.mono e⟩, z⟩⟩
/-- .. with some entries -/
def oLentE (C dx : Addr) (vs : List (Str × V)) (d : Addr) (fs : List (Str × Option S)) (inv : List (Nat × Bool) → Prop) : O :=
  ⟨fun F h p => ∃ kvs, inv kvs ∧ (oLent C dx vs d fs kvs).r F h p, fun e ⟨kvs, i, r⟩ => ⟨kvs, i, (oLent C dx vs d fs kvs).mono e r⟩⟩
section
variable {X : Cx} {ss : List Sl} {e a b c : Expr} {es : List Expr} {ρ τ κ : R} {s t : S} {o : O} {pos p p2 : Pos} {k : Nat} {C dx d y : Addr} {vs : List (Str × V)} {fs : List (Str × Option S)} {kvs : List (Nat × Bool)} {inv : List (Nat × Bool) → Prop} {D : Ds} {f : Str} {P : Program} {w : World}
/-- x.f of a known one -/
theorem ev_cf (he : EvE X ss e (sv (sCach P w C inv fs))) (hl : fs.lookup f = some (some s)) (hc : Cls X.K C) (hn : NoAttr X.K C f) (hb : attributeBase e f X.env (eval e X.env) = eval e X.env := by rfl) : EvE X ss (.Attribute e f pos) (sv s) := .mk fun B F H σ h Q z =>
  toE (pe_fld PEw hb) (he B F H σ h _ fun v F' H' g ⟨p, k, e1, hk, F0, d, dx, vs, s0, n1, n2, ne, hp, hd, hf⟩ => by
    obtain ⟨u, hu, ru⟩ := fdc_get hf hl
    exact ⟨p, C, dx, vs, u, e1, g.s _ _ (hk _ _ hp), hc, hn, hu, z u F' H' g (s.mono s0 ru)⟩)
/-- x.f of a lent one -/
theorem ev_lf (he : EvE X ss e (bO (oLent C dx vs d fs kvs))) (hl : fs.lookup f = some (some s)) (hc : Cls X.K C) (hn : NoAttr X.K C f) (hb : attributeBase e f X.env (eval e X.env) = eval e X.env := by rfl) : EvE X ss (.Attribute e f pos) (sv s) := .mk fun B F H σ h Q z =>
  toE (pe_fld PEw hb) (he B F H σ h _ fun v F' H' g ⟨p, k, e1, hk, hp, ne, hf, _⟩ => by
    obtain ⟨u, hu, ru⟩ := fdc_get hf hl
    exact ⟨p, C, dx, vs, u, e1, hk _ _ hp, hc, hn, hu, z u F' H' g ru⟩)
/-- its dict, here and now -/
theorem ev_ld (he : EvE X ss e (bO (oLent C dx vs d fs kvs))) (hl : fs.lookup f = some none) (hc : Cls X.K C) (hn : NoAttr X.K C f) (hb : attributeBase e f X.env (eval e X.env) = eval e X.env := by rfl) : EvE X ss (.Attribute e f pos) (bO (oDK sBool kvs)) := .mk fun B F H σ h Q z =>
  toE (pe_fld PEw hb) (he B F H σ h _ fun v F' H' g ⟨p, k, e1, hk, hp, ne, hf, ⟨ws, hd, hw⟩, _⟩ => by
    obtain ⟨u, hu, ru⟩ := fdc_get hf hl
    exact ⟨p, C, dx, vs, u, e1, hk _ _ hp, hc, hn, hu, z u F' H' g ⟨d, k, ru, hk, ws, hd, hw⟩⟩)
/-- x.f[key] = v -/
theorem s_lput {key : Nat} {x : Bool} (i : Nat) {z : Str} {p1 pa pos' : Pos} (hr : Room k X.A) (hi : ss[i]? = some (.own (oAt y (oLent C dx vs d fs kvs)))) (hl : fs.lookup f = some none) (hc : Cls X.K C) (hn : NoAttr X.K C f)
    (hv : EvE X ss e (sv (sBool x))) (ha : EvE X ss a (sv (sNat key))) (hlen : kvs.length < sizeLine) (kk : D.nx (ss.set i (.own (oAt y (oLent C dx vs d fs (pK kvs key x)))))) (hN : X.N[i]? = some z := by rfl)
    (hvs : Vis X.env.scope z := by first | exact Or.inl rfl | exact Or.inr (Or.inl rfl) | exact Or.inr (Or.inr rfl)) (hd : (z == ("__debug__" : Str)) = false := by decide) (hcd : (z == ("__classdict__" : Str)) = false := by decide)
    (hb : attributeBase (.Name z p1) f X.env (eval (.Name z p1) X.env) = eval (.Name z p1) X.env := by rfl)
    (hs : swapsWith e (some (.Subscript (.Attribute (.Name z p1) f pa) a pos')) pos.line X.env = pure false := by rfl) : EvS X ss (.Assign [.Subscript (.Attribute (.Name z p1) f pa) a pos'] e pos) D := .mk fun B F H σ h tk =>
  toS (ps_dput (hu_of hr) (pe_fld (pe_var hN hvs hd hcd) hb) PEw PEw hs) (hv B F H σ h _ fun v F1 H1 g1 r1 => by
    obtain ⟨p0, c0, e0, hc0, ⟨rfl, hp0, ne0, hf0, _⟩⟩ := (h.grow g1).own hi
    obtain ⟨u0, hu0, ru0⟩ := fdc_get hf0 hl
    refine ⟨_, e0, p0, C, dx, vs, _, rfl, (hc0 _ _ hp0).1, hc, hn, hu0, ha B F1 H1 σ (h.grow g1) _ fun w F2 H2 g2 r2 => ?_⟩
    obtain ⟨p, c, e1, hc', ⟨rfl, hp, ne, hf, ⟨ws, hd1, hk1⟩, on⟩, wr⟩ := ((h.grow g1).grow g2).write hi
    obtain ⟨rfl, gb⟩ := KeyFS.to_ (U := sNat) (F := F2) r2
    have hcd' : ∀ a ob, c a = some ob → H2 a = some ob := fun a ob ea => (hc' a ob ea).1
    obtain ⟨w0, w1, w2, w3⟩ := cell_wr (o1 := .dK (putK ws (KeyF.enc key) v)) hd1 (fun z => z) hcd'
    have ru0' : u0 = .ref d := ru0
    refine ⟨d, _, ru0', DPut.k (hcd' _ _ hd1) (by rw [hk1.len]; exact hlen), F2, _, wr (oAt p (oLent C dx vs d fs (pK kvs key x))) _ _ w0 w1 w2 w3 ⟨rfl, ?_, ne, hf, ⟨_, upd_same, hk1.put gb ((sBool x).mono g2.f r1)⟩, fun a ob ea => ?_⟩, kk⟩
    · rw [upd_ne ne]
      exact hp
    · by_cases ha : a = d
      · exact .inr ha
      · rw [upd_ne ha] at ea
        exact on a ob ea)
/-- .. where the value raises -/
theorem s_sputR {o : Expr} {pos' : Pos} (hr : Room k X.A) (he : EvR X ss e D.ex) (hs : swapsWith e (some (.Subscript o a pos')) pos.line X.env = pure false := by rfl) : EvS X ss (.Assign [.Subscript o a pos'] e pos) D := .mk fun B F H σ h tk =>
  toS (ps_dput (hu_of hr) (PEw (e := o)) (PEw (e := a)) PEw hs) (he.go B F H σ h tk _)
end
/-! ### a new instance with an empty cache is handed out -/
theorem inv_swap {X : Cx} {pins : List (Addr × Obj)} {σ : L2.St} {H : Hp} {s : Shared} {d : Addr} {o1 o2 : HO} (I : L2.Inv X pins σ H s) (e : H d = some o1) (l1 : Loose o1) (n1 : ∀ y, o1 ≠ .own y) (q : ObjOk X.prog X.w (upd H d o2) s.heap d o2) : L2.Inv X pins σ (upd H d o2) s where
  ok := I.ok
  os := I.os
  bare := I.bare
  base := ⟨I.base.keep, I.base.slot, fun b o x n k => by
      have z := I.base.free b o x n k
      rw [upd_ne (fun y => by subst y; rw [e] at z; cases z)]
      exact z, I.base.there, fun b xs x => by
      have z := I.base.tups b xs x
      rw [upd_ne (fun y => by subst y; rw [e] at z; cases z; exact l1)]
      exact z, fun b o xs x => by
      have z := I.base.frzs b o xs x
      rw [upd_ne (fun y => by subst y; rw [e] at z; cases z; exact l1)]
      exact z, fun b xs x => by
      obtain ⟨more, z⟩ := I.base.tbls b xs x
      refine ⟨more, ?_⟩
      rw [upd_ne (fun y => by subst y; rw [e] at z; cases z; exact l1)]
      exact z⟩
  loc := I.loc
  cell := I.cell
  free := by
    have z := I.free
    rw [upd_ne (fun y => by rw [y, e] at z; cases z)]
    exact z
  freeC := fun x c hx => by
    have z := I.freeC x c hx
    rw [upd_ne (fun y => by rw [y, e] at z; cases z)]
    exact z
  pin := fun p hp => by
    obtain ⟨h1, h2, h3⟩ := I.pin p hp
    refine ⟨h1, ?_, h3⟩
    rw [upd_ne (fun y => by rw [y, e] at h2; cases h2)]
    exact h2
  hok := hok_swap I.hok e n1 (fun xs z => by subst z; exact l1) q
  len := I.len
/-- the fields ks, the cache behind them -/
def fsOf (ks : List (Str × S)) (f : Str) : List (Str × Option S) := ks.map (fun a => (a.1, some a.2)) ++ [(f, none)]
def madeOf (ks : List (Str × S)) (f : Str) : List (Str × Sl) := ks.map (fun a => (a.1, Sl.val a.2)) ++ [(f, .own (oDK (κ := Nat) sBool []))]
theorem fdg_made {F : Hp} {fp : Str → Hp} {f : Str} : ∀ {ks : List (Str × S)} {vs : List (Str × V)}, Fdg F fp (madeOf ks f) vs → ∃ d, (oDK (κ := Nat) sBool []).r F (fp f) d ∧ Fdc F d (fsOf ks f) vs
  | [], vs, h => by
    have h' : Paired (fun (a : Str × Sl) (b : Str × V) => a.1 = b.1 ∧ SlOk F (fp a.1) a.2 (some b.2)) [(f, .own (oDK (κ := Nat) sBool []))] vs := h
    cases h' with
    | cons r t =>
      cases t
      obtain ⟨r1, d, ed, rd⟩ := r
      exact ⟨d, rd, .cons ⟨r1, Option.some.inj ed⟩ .nil⟩
  | a :: ks, vs, h => by
    have h' : Paired (fun (a : Str × Sl) (b : Str × V) => a.1 = b.1 ∧ SlOk F (fp a.1) a.2 (some b.2)) ((a.1, Sl.val a.2) :: madeOf ks f) vs := h
    cases h' with
    | cons r t =>
      obtain ⟨d, rd, hd⟩ := fdg_made (ks := ks) t
      obtain ⟨r1, u, hu, ru⟩ := r
      cases hu
      exact ⟨d, rd, .cons ⟨r1, ru⟩ hd⟩
section
variable {X : Cx} {ss : List Sl} {sts : List Stmt} {D : Ds} {C : Addr} {ks : List (Str × S)}
theorem r_pubC (i : Nat) (f : Str) (inv : List (Nat × Bool) → Prop) (hi : ss[i]? = some (.own (oInsG C (fun _ => True) (madeOf ks f)))) (h0 : inv [])
    (h : EvSs X (ss.set i (.val (sCach X.prog X.w C inv (fsOf ks f)))) sts D) : EvSs X ss sts D := .mk fun B F H σ hS tk => by
  intro pins s I
  obtain ⟨p, c, e0, hc, ⟨⟨_, hnd⟩, dx, vs, fp, hp, hf, hfp, _⟩, wr⟩ := hS.write hi
  obtain ⟨d, ⟨ws, hd, hw⟩, hF⟩ := fdg_made hf
  have hcd : c d = some (.dK ws) := (hfp f _ _ hd).2
  have hpd : p ≠ d := fun z => (hfp f _ _ hd).1 z.symm
  have ew : ws = [] := by
    have : Paired (fun (a : Nat × Bool) (b : Key × V) => (b.1 = KeyF.enc a.1 ∧ KeyF.good a.1) ∧ (sBool a.2).r F b.2) [] ws := hw
    cases this
    rfl
  subst ew
  have hci : cI inv [] := ⟨[], h0, .nil⟩
  have I2 : L2.Inv X pins σ (upd H d (cacheO X.prog X.w (cI inv) d)) s := inv_swap I (hc _ _ hcd).1 trivial (fun y z => by cases z) (cache_ok (I.hok _ _ (hc _ _ hcd).1) hci)
  obtain ⟨w0, w1, w2, w3⟩ := cell_wr (o1 := cacheO X.prog X.w (cI inv) d) hcd (fun z => z) (fun a ob ea => (hc a ob ea).1)
  have nF : ∀ {a ob}, c a = some ob → ¬ IsT ob → F a = none := fun {a ob} ea nt => (hc _ _ ea).2.2.elim id fun z => absurd z nt
  have hS2 := wr (oCach X.prog X.w C inv (fsOf ks f)) _ _ w0 w1 w2 w3 ⟨F, d, dx, vs, Same.refl _, nF hp (fun z => z), nF hcd (fun z => z), hpd, by rw [upd_ne hpd]; exact hp, upd_same, hF⟩
  have hli : (ss.set i (.own (oCach X.prog X.w C inv (fsOf ks f))))[i]? = some (.own (oCach X.prog X.w C inv (fsOf ks f))) := List.getElem?_set_self (List.getElem?_eq_some_iff.mp hi).1
  obtain ⟨F', sF, hS3⟩ := hS2.pub hli
  rw [List.set_set] at hS3
  exact h.go B F' _ σ hS3 tk pins s I2
end
/-! ### a method that may fill the cache, told of one that is known to all -/
section
variable {P : Program} {w : World} {K : PySem.W.Frag} {mg : Str → Option Value} {base : Heap} {k : Nat} {f : Addr} {fd : FuncData} {ps : List Str} {C : Addr}
/-- what the body is shown for -/
def Filled (C : Addr) (fs : List (Str × Option S)) (inv : List (Nat × Bool) → Prop) (as : List S) (r : Rs) (Φ1 : O → List S → Rb → Prop) : Prop := ∀ dx vs d kvs, inv kvs → Φ1 (oLent C dx vs d fs kvs) as (match r with
  | .ok s => .ok (oLentE C dx vs d fs inv) s
  | .new o => .new (oLentE C dx vs d fs inv) o
  | .ex x => .ex (oLentE C dx vs d fs inv) x)
theorem kf_any {F F' : Hp} {kvs : List (Nat × Bool)} {ws : List (Key × V)} (h : KfR sBool F kvs ws) : KfR sBool F' kvs ws := Paired.mapP h fun _ _ q => q
theorem fn_cache {Φ1 : O → List S → Rb → Prop} {Φ2 : List S → Rs → Prop} (G : FnOk P w K mg base (L2.CX P w) k f fd ps (spB Φ1)) (hlen : ∀ as r, Φ2 as r → as.length = ps.length)
    (hΦ : ∀ as r, Φ2 as r → ∃ inv fs as1, as = sCach P w C inv fs :: as1 ∧ (∀ a ∈ as1, ∀ F F0 v, a.r F v → a.r F0 v) ∧ (∀ o, r ≠ .new o) ∧ Filled C fs inv as1 r Φ1) : FnOk P w K mg base (L2.CX P w) k f fd ps (spOfX Φ2) := by
  refine fn_open G fun vs H Q E ⟨F, as, r, sF, hp, h2, hq⟩ => ⟨by rw [← Paired.length hp]; exact hlen as r h2, ?_⟩
  obtain ⟨inv, fs, as1, rfl, flat, nn, fill⟩ := hΦ as r h2
  cases hp with
  | @cons _ v _ vs1 r1 rt =>
    obtain ⟨a, hc, rfl, hk, F0, d, dx, vs2, s0, n1, n2, ne, ha, hd, hf⟩ := r1
    have HA : H a = some (.ins C dx vs2) := sF _ _ (hk _ _ ha)
    have HD : H d = some (cacheO P w (cI inv) d) := sF _ _ (hk _ _ hd)
    have FA : F a = some (.ins C dx vs2) := hk _ _ ha
    have FD : F d = some (cacheO P w (cI inv) d) := hk _ _ hd
    refine ⟨d, cI inv, HD, fun ws ⟨kvs, i0, hw⟩ => ?_⟩
    let kc : Hp := fun b => if b = a then some (.ins C dx vs2) else if b = d then some (.dK ws) else none
    have kca : kc a = some (.ins C dx vs2) := if_pos rfl
    have kcd : kc d = some (.dK ws) := by show (if d = a then _ else if d = d then _ else none) = _; rw [if_neg (Ne.symm ne), if_pos rfl]
    have kcn : ∀ {b}, b ≠ a → b ≠ d → kc b = none := fun {b} h1 h2 => by show (if b = a then _ else if b = d then _ else none) = _; rw [if_neg h1, if_neg h2]
    have kcs : ∀ {b ob}, kc b = some ob → b = a ∨ b = d := fun {b ob} e => by
      by_cases h1 : b = a
      · exact .inl h1
      · by_cases h2 : b = d
        · exact .inr h2
        · rw [kcn h1 h2] at e; cases e
    have tU : TbOk (upd H d (.dK ws)) := sF.t.put HD
    have sF0 : Same F0 (upd H d (.dK ws)) := fun b o e => by
      rw [upd_ne (fun y => by rw [y, n2] at e; cases e)]
      exact sF _ _ (s0 _ _ e)
    have hl : LentC F0 (upd H d (.dK ws)) kc := fun b ob e => by
      rcases kcs e with rfl | rfl
      · rw [kca] at e; cases e
        exact ⟨⟨by rw [upd_ne ne]; exact HA, .inl n1⟩, sF.n _ _ FA, NC.nc⟩
      · rw [kcd] at e; cases e
        exact ⟨⟨upd_same, .inl n2⟩, sF.n _ _ FD, NC.nc⟩
    have hids : ∀ {b o}, F b = some o → b ≠ a → b ≠ d → hidK kc (upd H d (.dK ws)) b = some o := fun {b o} e h1 h2 => by
      rw [hidK_ne (kcn h1 h2), upd_ne h2]
      exact sF _ _ e
    have back : ∀ {F1 H1 k1 : Hp}, Back F0 (upd H d (.dK ws)) kc a (oLentE C dx vs2 d fs inv) F1 H1 k1 → ∃ ws', H1 d = some (.dK ws') ∧ cI inv ws' ∧ ∃ F', Same F1 F' ∧ Grow F H F' (upd H1 d (cacheO P w (cI inv) d)) := fun {F1 H1 k1} bk => by
      obtain ⟨kvs', i', h1, ne', hf', ⟨ws', hd', hw'⟩, on⟩ := bk.r
      obtain ⟨c1, c2, c3⟩ := bk.c _ _ h1
      obtain ⟨c4, c5, c6⟩ := bk.c _ _ hd'
      have fa : F1 a = none := c3.elim id fun z => z.elim
      have fD : F1 d = none := c6.elim id fun z => z.elim
      refine ⟨ws', c4, ⟨kvs', i', kf_any hw'⟩, fun b => match F b with
        | some o => some o
        | none => F1 b, fun b o e => ?_, ⟨fun b o e => ?_, ⟨fun b o nt e => ?_, sF.t, bk.g.h.t'.put c4⟩, ⟨fun b o e => ?_, bk.g.h.t'.put c4, fun b o e => ?_⟩, fun b o e n => ?_⟩⟩
      · show (match F b with | some o => some o | none => F1 b) = some o
        cases q : F b with
        | none => exact e
        | some o1 =>
          have h1 : b ≠ a := fun y => by rw [y, fa] at e; cases e
          have h2 : b ≠ d := fun y => by rw [y, fD] at e; cases e
          have e1 := bk.g.h.k _ _ (sF.n _ _ q) (hids q h1 h2)
          rw [bk.g.s _ _ e] at e1
          cases e1
          rfl
      · show (match F b with | some o => some o | none => F1 b) = some o
        rw [e]
      · by_cases h2 : b = d
        · subst h2
          rw [HD] at e; cases e
          exact upd_same
        · rw [upd_ne h2]
          by_cases h3 : b = a
          · subst h3
            rw [HA] at e; cases e
            exact c1
          · exact bk.g.h.k _ _ nt (by rw [hidK_ne (kcn h3 h2), upd_ne h2]; exact e)
      · have e' : (match F b with | some o => some o | none => F1 b) = some o := e
        cases q : F b with
        | some o1 =>
          rw [q] at e'
          cases e'
          by_cases h2 : b = d
          · subst h2
            rw [FD] at q; cases q
            exact upd_same
          · rw [upd_ne h2]
            by_cases h3 : b = a
            · subst h3
              rw [FA] at q; cases q
              exact c1
            · exact bk.g.h.k _ _ (sF.n _ _ q) (hids q h3 h2)
        | none =>
          rw [q] at e'
          have h2 : b ≠ d := fun y => by rw [y, fD] at e'; cases e'
          rw [upd_ne h2]
          exact bk.g.s _ _ e'
      · have e' : (match F b with | some o => some o | none => F1 b) = some o := e
        cases q : F b with
        | some o1 => exact sF.n _ _ q
        | none =>
          rw [q] at e'
          exact bk.g.s.n _ _ e'
      · have e' : (match F b with | some o => some o | none => F1 b) = some o := e
        rw [n] at e'
        have z : F0 b = none := by
          cases q : F0 b with
          | none => rfl
          | some o1 => rw [s0 _ _ q] at n; cases n
        rcases bk.g.n b o e' z with q | q
        · have h1 : b ≠ a := fun y => by rw [y, FA] at n; cases n
          have h2 : b ≠ d := fun y => by rw [y, FD] at n; cases n
          rw [hidK_ne (kcn h1 h2), upd_ne h2] at q
          exact .inl q
        · exact .inr q
    refine ⟨F0, kc, a, vs1, oLent C dx vs2 d fs kvs, as1, _, rfl, ⟨sF0, tU, fun b o e => sF.n b o (s0 b o e)⟩, hl, ⟨kca, ne, hf, ⟨ws, kcd, kf_any hw⟩, fun b ob e => kcs e⟩, ?_, fill dx vs2 d kvs i0, ?_⟩
    · have aux : ∀ {l : List S} {us : List V}, (∀ a ∈ l, ∀ F F0 v, a.r F v → a.r F0 v) → Paired (fun (a : S) v => a.r F v) l us → Paired (fun (a : S) v => a.r F0 v) l us := fun {l us} fl pr => by
        induction pr with
        | nil => exact .nil
        | cons r t ih => exact .cons (fl _ (.head _) _ _ _ r) (ih fun a ha => fl a (.tail _ ha))
      exact aux flat rt
    · cases r with
      | new o => exact absurd rfl (nn o)
      | ok s =>
        intro v F1 H1 k1 bk rv
        obtain ⟨ws', e1, i1, F', s1, g⟩ := back bk
        exact ⟨ws', e1, i1, hq v F' _ g (s.mono s1 rv)⟩
      | ex x =>
        intro cls dd F1 H1 k1 bk rv
        obtain ⟨ws', e1, i1, F', s1, g⟩ := back bk
        refine ⟨ws', e1, i1, hq cls dd F' _ g ?_⟩
        obtain ⟨x1, x2⟩ := rv
        refine ⟨x1, ?_⟩
        cases q : x.fs with
        | none => rw [q] at x2; exact x2
        | some l =>
          rw [q] at x2
          obtain ⟨a, vs, h1, h2, h3⟩ := x2
          exact ⟨a, vs, h1, s1 _ _ h2, Paired.mapP h3 fun a b z => ⟨z.1, a.2.mono s1 z.2⟩⟩
end
end Sx
namespace Sx
variable [Tbs]
open PySem PySem.Spec PyProof.Rows L2

/-! ### more methods: without arguments, that hand back a new object, that may raise -/
/-- values of s are instances of C without an attribute m of their own -/
def InsAt (s : S) (C : Addr) (m : Str) : Prop := ∀ {F : Hp} {v : V}, s.r F v → ∃ a dx vs, v = .ref a ∧ F a = some (.ins C dx vs) ∧ vs.lookup m = none
theorem insG_at {C : Addr} {q : Addr → Prop} {fs : List (Str × Sl)} {m : Str} (hl : fs.lookup m = none) : InsAt (sO (oInsG C q fs)) C m := fun {F v} ⟨p, h, e, hk, _, dx, vs, fp, hp, hf, _⟩ => ⟨p, dx, vs, e, hk _ _ hp, fdg_none hf hl⟩
theorem insC_at {P : Program} {w : World} {C : Addr} {inv : List (Nat × Bool) → Prop} {fs : List (Str × Option S)} {m : Str} (hl : fs.lookup m = none) : InsAt (sCach P w C inv fs) C m := fun {F v} ⟨p, h, e, hk, F0, d, dx, vs, _, _, _, _, hp, _, hf⟩ => ⟨p, dx, vs, e, hk _ _ hp, fdc_none hf hl⟩
structure CalleeMN (P : Program) (w : World) (K : PySem.W.Frag) (mg : Str → Option Value) (base : Heap) (k : Nat) (C : Addr) (m : Str) (Φ : List S → O → Prop) : Prop where
  ex : ∃ (f : Addr) (fd : FuncData) (ps : List Str), Meth K C m f ∧ FnOk P w K mg base CX0 k f fd ps (spOfN Φ) ∧ Binds K fd ps []
structure CalleeMX (P : Program) (w : World) (K : PySem.W.Frag) (mg : Str → Option Value) (base : Heap) (k : Nat) (C : Addr) (m : Str) (Φ : List S → Rs → Prop) : Prop where
  ex : ∃ (f : Addr) (fd : FuncData) (ps : List Str), Meth K C m f ∧ FnOk P w K mg base (L2.CX P w) k f fd ps (spOfX Φ) ∧ Binds K fd ps []
section
variable {P : Program} {w : World} {K : PySem.W.Frag} {mg : Str → Option Value} {base : Heap} {k : Nat} {x m : Str} {f C : Addr} {fd : FuncData} {ps : List Str}
theorem callee_mkMN {Φ : List S → O → Prop} (G : FnOk P w K mg base CX0 k f fd ps (spOfN Φ)) (M : Meth K C m f) (hb : Binds K fd ps []) : CalleeMN P w K mg base k C m Φ := ⟨f, fd, ps, M, G, hb⟩
theorem callee_mkMX {Φ : List S → Rs → Prop} (G : FnOk P w K mg base (L2.CX P w) k f fd ps (spOfX Φ)) (M : Meth K C m f) (hb : Binds K fd ps []) : CalleeMX P w K mg base k C m Φ := ⟨f, fd, ps, M, G, hb⟩
end
section
variable {X : Cx} {CX : CXT} {k : Nat} {f C : Addr} {fd : FuncData} {ps : List Str} {sp : Sp} {E : L2.St → XK} {m : Str} {pos apos : Pos} {e o : Expr} {es : List Expr} {ta : TE} {t : TA}
def tMethS (C : Addr) (m : Str) (sp : Sp) (E : L2.St → XK) (ta : TE) (t : TA) : TE := fun σ H Q => ta σ H fun x H1 => ∃ a dx fs, x = .ref a ∧ H1 a = some (.ins C dx fs) ∧ fs.lookup m = none ∧ t σ H1 fun vs H2 => sp (.ref a :: vs) H2 Q (E σ)
theorem pe_methS' {pl : Sem Bool} (he : PE X o ta) (c : Cls X.K C) (hm : Meth X.K C m f) (F : FnOk X.prog X.w X.K X.mg X.base CX k f fd ps sp) (hr : Room k X.A) (hb : Binds X.K fd ps []) (hx : ∀ σ, PassesAt CX X σ (E σ)) (ha : PA X (e :: es) t)
    (hst : starEach (e :: es) X.env = (false, eval e X.env) :: starEach es X.env) (hpl : (backTo pos (starEach es X.env)).any (·.1) = false)
    (ht : eval (.Call (.Attribute o m apos) (e :: es) [] pos) X.env = (do
      let ov ← eval o X.env
      standAt apos.atName
      let (f, first) ← holding [ov] (getMethod ov m pl)
      callWith pos f first (backTo pos (starEach (e :: es) X.env)) (backToKw pos (keywordEach [] X.env)))) :
    PE X (.Call (.Attribute o m apos) (e :: es) [] pos) (tMethS C m sp E ta t) := by
  refine ⟨fun pins s σ H Q I h => ?_⟩
  refine PySem.W.methodCall_KW (pl := pl) (thn (he.run pins s σ H _ I h) fun u s1 ⟨x, H1, I1, rx, a, dx, fs, ex, ea, l, q⟩ => ?_) ht
  subst ex
  obtain rfl : u = Value.ref a := rx
  refine getmeth_ok I1 ea c hm l ?_
  refine PySem.W.callWith_K (first := [.ref a]) (h₀ := X.base) I.ok.mod.kin hm.kp (thn (ha.run pos pins s1 σ H1 _ I1 q) fun us s2 ⟨vs, H2, I2, r, q2⟩ => ⟨I2.kIn, ?_⟩) hst hpl
  exact run_fnSD (dvs := []) (ds := []) (us := .ref a :: us) (vs := .ref a :: vs) F hr hb .nil (hx σ) I2 (.cons rfl r) (by rw [List.append_nil]; exact q2)
end
section
variable {X : Cx} {ss : List Sl} {e o a b c : Expr} {es : List Expr} {s t s0 : S} {o2 : O} {pos p p2 apos : Pos} {j k : Nat} {as : List S} {x m : Str} {C : Addr} {z : Xo} {ex : Xo → List Sl → Prop}
theorem ev_methX {Φ : List S → Rs → Prop} {pl : Sem Bool} (G : CalleeMX X.prog X.w X.K X.mg X.base j C m Φ) (hc : Cls X.K C) (hr : Room k X.A) (ho : EvE X ss o (sv s0)) (hI : InsAt s0 C m) (ha : EvAs X ss (e :: es) as) (hΦ : Φ (s0 :: as) (.ok s)) (hj : j ≤ k := by decide)
    (he : starEach (e :: es) X.env = (false, eval e X.env) :: starEach es X.env := by exact star_ok rfl) (hpl : (backTo pos (starEach es X.env)).any (·.1) = false := by rfl)
    (ht : eval (.Call (.Attribute o m apos) (e :: es) [] pos) X.env = (do
      let ov ← eval o X.env
      standAt apos.atName
      let (f, first) ← holding [ov] (getMethod ov m pl)
      callWith pos f first (backTo pos (starEach (e :: es) X.env)) (backToKw pos (keywordEach [] X.env))) := by rfl) :
    EvE X ss (.Call (.Attribute o m apos) (e :: es) [] pos) (sv s) := .mk fun B F H σ h Q z => by
  obtain ⟨f, fd, ps, M, G, hb⟩ := G.ex
  refine toE (pe_meth PEw hc M G (hr.mono hj) hb .nil passL PAw he hpl ht) ?_
  refine ho B F H σ h _ fun v F1 H1 g1 r1 => ?_
  obtain ⟨y, dx, vs, rfl, hp, hl⟩ := hI r1
  refine ⟨y, dx, vs, rfl, g1.s _ _ hp, hl, ?_⟩
  refine ha.go B F1 H1 σ (h.grow g1) _ fun ws F2 H2 g2 rs => ?_
  rw [List.append_nil]
  exact ⟨F2, s0 :: as, .ok s, g2.s, .cons (s0.mono g2.f r1) (paired_sv rs), hΦ, fun v F3 H3 g3 r => z v F3 H3 ((g1.trans g2).trans g3) r⟩
theorem ev_methR {Φ : List S → Rs → Prop} {pl : Sem Bool} (G : CalleeMX X.prog X.w X.K X.mg X.base j C m Φ) (hc : Cls X.K C) (hr : Room k X.A) (ho : EvE X ss o (sv s0)) (hI : InsAt s0 C m) (ha : EvAs X ss (e :: es) as) (hΦ : Φ (s0 :: as) (.ex z)) (hz : ex z ss) (hj : j ≤ k := by decide)
    (he : starEach (e :: es) X.env = (false, eval e X.env) :: starEach es X.env := by exact star_ok rfl) (hpl : (backTo pos (starEach es X.env)).any (·.1) = false := by rfl)
    (ht : eval (.Call (.Attribute o m apos) (e :: es) [] pos) X.env = (do
      let ov ← eval o X.env
      standAt apos.atName
      let (f, first) ← holding [ov] (getMethod ov m pl)
      callWith pos f first (backTo pos (starEach (e :: es) X.env)) (backToKw pos (keywordEach [] X.env))) := by rfl) :
    EvR X ss (.Call (.Attribute o m apos) (e :: es) [] pos) ex := .mk fun B F H σ h tk Q => by
  obtain ⟨f, fd, ps, M, G, hb⟩ := G.ex
  refine toE (pe_methS' (E := WE (wX B ex)) PEw hc M G (hr.mono hj) hb (fun σ => passAt tk σ) PAw he hpl ht) ?_
  refine ho B F H σ h _ fun v F1 H1 g1 r1 => ?_
  obtain ⟨y, dx, vs, rfl, hp, hl⟩ := hI r1
  refine ⟨y, dx, vs, rfl, g1.s _ _ hp, hl, ?_⟩
  refine ha.go B F1 H1 σ (h.grow g1) _ fun ws F2 H2 g2 rs => ?_
  exact ⟨F2, s0 :: as, .ex z, g2.s, .cons (s0.mono g2.f r1) (paired_sv rs), hΦ, fun cls d F3 H3 g3 r => ⟨z, F3, ss, hz, ((h.grow g1).grow g2).grow g3, r⟩⟩
/-- a method of an instance of any kind that is known -/
theorem ev_methI {Φ : List S → S → Prop} {pl : Sem Bool} (G : CalleeM X.prog X.w X.K X.mg X.base j C m Φ) (hc : Cls X.K C) (hr : Room k X.A) (ho : EvE X ss o (sv s0)) (hI : InsAt s0 C m) (ha : EvAs X ss (e :: es) as) (hΦ : Φ (s0 :: as) s) (hj : j ≤ k := by decide)
    (he : starEach (e :: es) X.env = (false, eval e X.env) :: starEach es X.env := by exact star_ok rfl) (hpl : (backTo pos (starEach es X.env)).any (·.1) = false := by rfl)
    (ht : eval (.Call (.Attribute o m apos) (e :: es) [] pos) X.env = (do
      let ov ← eval o X.env
      standAt apos.atName
      let (f, first) ← holding [ov] (getMethod ov m pl)
      callWith pos f first (backTo pos (starEach (e :: es) X.env)) (backToKw pos (keywordEach [] X.env))) := by rfl) :
    EvE X ss (.Call (.Attribute o m apos) (e :: es) [] pos) (sv s) := .mk fun B F H σ h Q z => by
  obtain ⟨f, fd, ps, M, G, hb⟩ := G.ex
  refine toE (pe_meth PEw hc M G (hr.mono hj) hb .nil pass0 PAw he hpl ht) ?_
  refine ho B F H σ h _ fun v F1 H1 g1 r1 => ?_
  obtain ⟨y, dx, vs, rfl, hp, hl⟩ := hI r1
  refine ⟨y, dx, vs, rfl, g1.s _ _ hp, hl, ?_⟩
  refine ha.go B F1 H1 σ (h.grow g1) _ fun ws F2 H2 g2 rs => ?_
  rw [List.append_nil]
  exact ⟨F2, s0 :: as, s, g2.s, .cons (s0.mono g2.f r1) (paired_sv rs), hΦ, fun v F3 H3 g3 r => z v F3 H3 ((g1.trans g2).trans g3) r⟩
/-- x.m() -/
theorem ev_meth0N {Φ : List S → O → Prop} {pl : Sem Bool} (G : CalleeMN X.prog X.w X.K X.mg X.base j C m Φ) (hc : Cls X.K C) (hr : Room k X.A) (ho : EvE X ss o (sv s0)) (hI : InsAt s0 C m) (hΦ : Φ [s0] o2) (hj : j ≤ k := by decide)
    (ht : eval (.Call (.Attribute o m apos) [] [] pos) X.env = (do
      let ov ← eval o X.env
      standAt apos.atName
      let (f, first) ← holding [ov] (getMethod ov m pl)
      callWith pos f first (backTo pos (starEach [] X.env)) (backToKw pos (keywordEach [] X.env))) := by rfl) :
    EvN X ss (.Call (.Attribute o m apos) [] [] pos) o2 := .mk fun B F H σ h Q z => by
  obtain ⟨f, fd, ps, M, G, hb⟩ := G.ex
  refine toE (pe_meth0 PEw hc M G (hr.mono hj) hb .nil pass0 ht) ?_
  refine ho B F H σ h _ fun v F1 H1 g1 r1 => ?_
  obtain ⟨y, dx, vs, rfl, hp, hl⟩ := hI r1
  refine ⟨y, dx, vs, rfl, g1.s _ _ hp, hl, ?_⟩
  exact ⟨F1, [s0], o2, g1.s, .cons r1 .nil, hΦ, fun p F' H' k g n r => z p F' H' k (g1.trans g) (fun a ob e => ⟨g1.h.free (n a ob e).1, (n a ob e).2⟩) r⟩
theorem ev_meth0 {Φ : List S → S → Prop} {pl : Sem Bool} (G : CalleeM X.prog X.w X.K X.mg X.base j C m Φ) (hc : Cls X.K C) (hr : Room k X.A) (ho : EvE X ss o (sv s0)) (hI : InsAt s0 C m) (hΦ : Φ [s0] s) (hj : j ≤ k := by decide)
    (ht : eval (.Call (.Attribute o m apos) [] [] pos) X.env = (do
      let ov ← eval o X.env
      standAt apos.atName
      let (f, first) ← holding [ov] (getMethod ov m pl)
      callWith pos f first (backTo pos (starEach [] X.env)) (backToKw pos (keywordEach [] X.env))) := by rfl) :
    EvE X ss (.Call (.Attribute o m apos) [] [] pos) (sv s) := .mk fun B F H σ h Q z => by
  obtain ⟨f, fd, ps, M, G, hb⟩ := G.ex
  refine toE (pe_meth0 PEw hc M G (hr.mono hj) hb .nil pass0 ht) ?_
  refine ho B F H σ h _ fun v F1 H1 g1 r1 => ?_
  obtain ⟨y, dx, vs, rfl, hp, hl⟩ := hI r1
  refine ⟨y, dx, vs, rfl, g1.s _ _ hp, hl, ?_⟩
  exact ⟨F1, [s0], s, g1.s, .cons r1 .nil, hΦ, fun v F' H' g r => z v F' H' (g1.trans g) r⟩
end
/-! ### what raises, within an expression -/
section
variable {X : Cx} {ss : List Sl} {a b c elt tg iter : Expr} {es : List Expr} {pos p : Pos} {ex : Xo → List Sl → Prop}
/-- not a, where a raises -/
theorem er_call1 {x : Str} {f : Addr} {fd : FuncData} {ps : List Str} {Φ : List S → S → Prop} {j k : Nat} (C : Callee X.prog X.w X.K X.mg X.base j x Φ) (hr : Room k X.A) (ha : EvR X ss a ex) (hj : j ≤ k := by decide) (hg : Gl X x := by rfl)
    (hdb : (x == ("__debug__" : Str)) = false := by decide) (he : starEach (a :: es) X.env = (false, eval a X.env) :: starEach es X.env := by exact star_ok rfl) (hpl : (backTo pos (starEach es X.env)).any (·.1) = false := by rfl) (hes : es = [] := by rfl) :
    EvR X ss (.Call (.Name x p) (a :: es) [] pos) ex := .mk fun B F H σ h tk Q => by
  subst hes
  obtain ⟨f, fd, ps, G, hm, hk, hb⟩ := C.ex
  refine toE (pe_call G (hr.mono hj) hg hm hk hb .nil pass0 (pa_cons PEw pa_nil he) hdb he hpl) ?_
  exact ha.go B F H σ h tk _
end
end Sx
namespace Sx
variable [Tbs]
open PySem PySem.Spec PyProof.Rows L2 LamX
/-! ### a lambda of one parameter, handed to a def that calls it -/
theorem among_more {pos : Pos} {cv : Value} (l more : List Value) (h : TriplesOk l) (hc : codeAmong pos l = some cv) : codeAmong pos (l ++ more) = some cv := by
  fun_induction TriplesOk l with
  | case1 =>
    have z : (none : Option Value) = some cv := hc
    cases z
  | case2 a t b u x rest ih =>
    simp only [List.cons_append, codeAmong] at hc ⊢
    split at hc
    · rename_i q
      rw [if_pos q]
      exact hc
    · rename_i q
      rw [if_neg q]
      exact ih h hc
  | case3 l h1 h2 => exact h.elim
/-- a: the parameter; the other names are captured or the module's -/
structure Lam1S (sc scope : Scope) (a : Str) : Prop where
  kind : scope.kind = .function
  co : scope.isCoroutine = false
  gen : scope.isGenerator = false
  nocell : ∀ y ∈ scope.names, y.2 ≠ .cell
  loc : ∀ y ∈ scope.names, y.2 = .local → y.1 = a
  par : scope.names.lookup a = some .local
  free : ∀ y ∈ scope.names, y.2 = .free → sc.names.lookup y.1 = some .cell ∨ sc.names.lookup y.1 = some .free
def lam1SB (sc scope : Scope) (a : Str) : Bool :=
  decide (scope.kind = .function) && !scope.isCoroutine && !scope.isGenerator && decide (scope.names.lookup a = some .local) &&
    scope.names.all fun y => !decide (y.2 = .cell) && (!decide (y.2 = .local) || decide (y.1 = a)) && (!decide (y.2 = .free) || decide (sc.names.lookup y.1 = some .cell) || decide (sc.names.lookup y.1 = some .free))
theorem lam1S_by {sc scope : Scope} {a : Str} (h : lam1SB sc scope a = true) : Lam1S sc scope a := by
  unfold lam1SB at h
  simp only [Bool.and_eq_true, Bool.or_eq_true, Bool.not_eq_true', decide_eq_true_eq, decide_eq_false_iff_not, List.all_eq_true] at h
  obtain ⟨⟨⟨⟨h1, h2⟩, h3⟩, h5⟩, h4⟩ := h
  refine ⟨h1, h2, h3, fun y hy => (h4 y hy).1.1, fun y hy e => ?_, h5, fun y hy e => ?_⟩
  · rcases (h4 y hy).1.2 with z | z
    · exact absurd e z
    · exact z
  · rcases (h4 y hy).2 with (z | z) | z
    · exact absurd e z
    · exact .inl z
    · exact .inr z
theorem Lam1S.has {X : Cx} {scope : Scope} {a : Str} (L : Lam1S X.env.scope scope a) (ok : X.Ok) : ∀ y ∈ scope.names, y.2 = .free → ∃ c, X.env.cells.lookup y.1 = some c := fun y hy e => by
  rcases L.free y hy e with k | k
  · exact ok.has _ (.inl k)
  · exact ok.has _ (.inr k)
/-- within the lambda: the names of the maker, then the parameter -/
def lamY (X : Cx) (a : Str) (A : Around) (outer : List Env) (s : Shared) (H : Hp) (scope : Scope) (f c' : Addr) : Cx := { lamCx X A outer s H (fun _ _ _ => False) scope f c' with N := X.N ++ [a] }
theorem lam_start1 {X : Cx} {pins : List (Addr × Obj)} {σ : L2.St} {H HZ : Hp} {s s1 : Shared} {a : Str} {A : Around} {outer : List Env} {scope : Scope} {f c' : Addr} {h1 : Heap} {tk : Nat} {v : V} {u : Value} (I : Inv X pins σ H s) (L : Lam1S X.env.scope scope a) (na : a ∉ X.N)
    (e0 : Env0 X.prog X.w X.K X.mg X.base A outer s1 HZ) (hd : A.handled = none) (un : Un (frs X.stack) [] H HZ s.heap s1.heap) (hns : h1.Ns s1.heap.objs.size fun y => ([(a, u)] : List (Str × Value)).reverse.lookup y)
    (kp : ∀ b o, s1.heap.get? b = some o → h1.get? b = some o) (rv : RelV v u) : Inv (lamY X a A outer s1 HZ scope f c') [] (σ ++ [some v]) HZ { s1 with heap := h1, toks := tk } := by
  have hfree := L.has I.ok
  have cm : ∀ {y c}, (cloFrom X.env.cells scope.names []).lookup y = some c → X.env.cells.lookup y = some c := fun {y c} e => by
    rcases cloFrom_mem (PySem.mem_of_lookup e) with hm | ⟨q1, q2⟩
    · cases hm
    · obtain ⟨c1, hc⟩ := hfree _ q1 rfl
      have hc : X.env.cells.lookup y = some c1 := hc
      have e2 : c = c1 := by rw [q2, hc] <;> rfl
      rw [e2]
      exact hc
  have look : ∀ {y}, scope.names.lookup y = some .free → ∃ c, (cloFrom X.env.cells scope.names []).lookup y = some c := fun {y} hl =>
    mem_lookup (cloFrom_has (cells := X.env.cells) (acc := []) (PySem.mem_of_lookup hl))
  have cellK : ∀ {c : Addr} {z : Option Value}, H c = none → s.heap.IsCell c z → h1.IsCell c z := fun {c z} n ⟨o, ho, hd⟩ => by
    obtain ⟨sl, q⟩ := un.any ho n (by simp)
    exact ⟨_, kp _ _ q, hd⟩
  have noA : ∀ b : Addr, b ∉ (lamY X a A outer s1 HZ scope f c').ex := fun b z => absurd (show b ∈ ([] : List Addr) from z) (by simp)
  refine ⟨⟨e0.mod, L.kind, rfl, rfl, Nat.le_refl _, fun y z c e1 e2 => I.ok.inj y z c (cm e1) (cm e2), fun y hy => ?_, fun y c z _ => ?_, fun _ => hd, Around.frames_deeper e0.frames, .inr ⟨rfl, rfl⟩, fun b z => absurd z (noA b), e0.bs, e0.bsz, fun b _ _ => noA b,
      fun b z => absurd z (noA b), e0.funs, e0.frf⟩,
    rfl, e0.bare, Un.kept kp, ⟨_, hns, fun i y z e1 e2 e3 => ?_⟩, fun y c e => ?_, e0.hok.fresh (Nat.le_refl _), fun y c e => ?_, fun q hq => absurd (show q ∈ ([] : List (Addr × Obj)) ++ [] from hq) (by simp), e0.hok.kept kp, ?_⟩
  · have hy : scope.names.lookup y = some .cell ∨ scope.names.lookup y = some .free := hy
    rcases hy with hy | hy
    · exact absurd rfl (L.nocell _ (PySem.mem_of_lookup hy))
    · exact look hy
  · have z : false = true := z
    cases z
  · have e3 : Vis scope y := e3
    have e1 : (X.N ++ [a])[i]? = some y := e1
    by_cases hi : i < σ.length
    · have hi2 : i < X.N.length := by rw [← I.len]; exact hi
      rw [List.getElem?_append_left hi] at e2
      rw [List.getElem?_append_left hi2] at e1
      have ny : y ≠ a := fun q => na (q ▸ List.mem_of_getElem? e1)
      rcases e3 with k | k | k
      · exact absurd (L.loc _ (PySem.mem_of_lookup k) rfl) ny
      · exact absurd rfl (L.nocell _ (PySem.mem_of_lookup k))
      · obtain ⟨m, hn, hl⟩ := I.loc
        have hvis : Vis X.env.scope y := (L.free _ (PySem.mem_of_lookup k) rfl).elim (fun k => .inr (.inl k)) (fun k => .inr (.inr k))
        obtain ⟨w', r, q⟩ := hl i y z e1 e2 hvis
        obtain ⟨c2, h2⟩ := look k
        refine ⟨w', r, .inr ⟨.inr k, c2, h2, ?_⟩⟩
        have c1 := cm h2
        rcases q with ⟨k', _⟩ | ⟨_, c3, e', z⟩
        · have k' : X.env.scope.names.lookup y = some .local := k'
          rcases L.free _ (PySem.mem_of_lookup k) rfl with k2 | k2 <;> rw [show X.env.scope.names.lookup y = _ from k2] at k' <;> cases k'
        · rw [c1] at e'
          cases e'
          exact cellK (I.freeC y _ c1) z
    · have hlN : σ.length = X.N.length := I.len
      have hii : i = σ.length := by
        have := (List.getElem?_eq_some_iff.mp e2).1
        rw [List.length_append, List.length_singleton] at this
        omega
      subst hii
      rw [List.getElem?_append_right (Nat.le_refl _), Nat.sub_self] at e2
      rw [List.getElem?_append_right (by rw [hlN]; exact Nat.le_refl _), hlN, Nat.sub_self] at e1
      have ea : a = y := by simpa using e1
      have ev : v = z := by simpa using e2
      subst ea
      subst ev
      refine ⟨u, rv, .inl ⟨L.par, ?_⟩⟩
      simp
  · obtain ⟨w', z⟩ := I.cell y c (cm e)
    exact ⟨w', cellK (I.freeC y c (cm e)) z⟩
  · obtain ⟨z, o, ho, hd⟩ := I.cell y c (cm e)
    exact un.free c o ho (I.freeC y c (cm e)) (by simp)
  · show (σ ++ [some v]).length = (X.N ++ [a]).length
    rw [List.length_append, List.length_append, I.len]
    rfl
abbrev lamO (X : Cx) (params : Arguments) (body : Expr) (scope : Scope) (pm ctv : Value) (c' : Addr) : Obj := PySem.W.kla_obj "<lambda>" (X.env.qual ++ "<lambda>") params body scope (cloFrom X.env.cells scope.names []) pm c' ctv
/-- the def that got the lambda, running: entered at s from X -/
abbrev lamZ (X : Cx) (Ng : List Str) (qg : Str) (sg : Scope) (g : Addr) (cdg : Value) (s : Shared) (H : Hp) (Eg : XK) : Cx := cxOf (L2.CX X.prog X.w) X.prog X.w X.K X.mg X.base Ng qg sg g cdg X.A X.stack s H Eg
/-- x(e) there, x the lambda -/
theorem lam_act {X : Cx} {pins : List (Addr × Obj)} {σ : L2.St} {H : Hp} {s : Shared} {Ng : List Str} {qg : Str} {sg : Scope} {g f c' P : Addr} {cdg pm ctv : Value} {Eg : XK} {params : Arguments} {body arg : Expr} {scope : Scope} {k i : Nat} {a x : Str} {ps : Array Value} {lpos p1 p2 : Pos}
    (I : Inv X pins σ H s) (L : Lam1S X.env.scope scope a) (na : a ∉ X.N) (hf : s.heap.get? f = some (lamO X params body scope pm ctv c')) (hfn : H f = none) (hfr : f ∉ frs X.stack)
    (hP : H P = some (.tbl ps)) (hT : TriplesOk ps.toList) (hc : codeAmong lpos ps.toList = some (.ref c'))
    (hbind : ∀ u : Value, bindArgs (PySem.W.kla_fn "<lambda>" (X.env.qual ++ "<lambda>") params body scope (cloFrom X.env.cells scope.names []) pm (.ref c') ctv) ⟨[u], []⟩ = pure [(a, u)])
    (hr : Room (k + 1) (lamZ X Ng qg sg g cdg s H Eg).A) (hN : Ng[i]? = some x) (hv : Vis sg x) (he : starEach [arg] (lamZ X Ng qg sg g cdg s H Eg).env = (false, eval arg (lamZ X Ng qg sg g cdg s H Eg).env) :: starEach [] (lamZ X Ng qg sg g cdg s H Eg).env)
    {pinsZ : List (Addr × Obj)} {sZ : Shared} {σZ : L2.St} {HZ : Hp} {Q : VK} (IZ : Inv (lamZ X Ng qg sg g cdg s H Eg) pinsZ σZ HZ sZ) (hs : σZ[i]? = some (some (.ref f)))
    (ha : wpE (lamZ X Ng qg sg g cdg s H Eg) arg σZ HZ fun v H1 => TabS H1 P (X.env.qual ++ "<lambda>") ∧ ∀ (A : Around) (outer : List Env) (s1 : Shared), Room k (A.deeper (lamEnv X scope s1.heap.objs.size f c')) → wpE (lamY X a A outer s1 H1 scope f c') body (σ ++ [some v]) H1 Q)
    (hd : (x == ("__debug__" : Str)) = false := by decide) (hcd : (x == ("__classdict__" : Str)) = false := by decide) :
    wpAny (model (lamZ X Ng qg sg g cdg s H Eg).prog (lamZ X Ng qg sg g cdg s H Eg).w) (lamZ X Ng qg sg g cdg s H Eg).A (eval (.Call (.Name x p1) [arg] [] p2) (lamZ X Ng qg sg g cdg s H Eg).env) (EP (lamZ X Ng qg sg g cdg s H Eg) pinsZ σZ Q) (lamZ X Ng qg sg g cdg s H Eg).xe sZ := by
  refine wpAny_Call_Name_kw (thn ((pe_var (X := lamZ X Ng qg sg g cdg s H Eg) (pos := p1) (i := i) hN hv hd hcd).run pinsZ sZ σZ HZ (fun v H1 => v = .ref f ∧ H1 = HZ) IZ ⟨.ref f, hs, rfl, rfl⟩) fun u s1 ⟨v, H1, I1, r1, q1⟩ => ?_)
  obtain ⟨ev, eH⟩ := q1
  subst ev
  rw [eH] at I1
  obtain rfl : u = Value.ref f := r1
  have ofn : ∀ {s3 : Shared} {H3 : Hp} {pn : List (Addr × Obj)}, Inv (lamZ X Ng qg sg g cdg s H Eg) pn σZ H3 s3 → s3.heap.get? f = some (lamO X params body scope pm ctv c') := fun {s3 H3 pn} J => J.base.keep f _ hf hfn hfr (fun z => nomatch (show f ∈ ([] : List Addr) from z))
  refine PySem.W.callWith_F ⟨_, _, _, _, ofn I1⟩ (thn ((pa_cons PEw pa_nil he).run p2 pinsZ s1 σZ HZ (fun vs H2 => ∃ v, vs = [v] ∧ TabS H2 P (X.env.qual ++ "<lambda>") ∧ ∀ (A : Around) (outer : List Env) (s1 : Shared), Room k (A.deeper (lamEnv X scope s1.heap.objs.size f c')) → wpE (lamY X a A outer s1 H2 scope f c') body (σ ++ [some v]) H2 Q) I1
    (wpE_mono ha fun v H1 q => ⟨v, rfl, q⟩)) fun us s2 ⟨vs, H2, I2, rvs, v, ev, hT2, hb⟩ => ⟨⟨_, _, _, _, ofn I2⟩, ?_⟩) he rfl
  subst ev
  cases rvs with
  | @cons _ u _ us rv rn =>
    cases rn
    have of2 := ofn I2
    obtain ⟨more, eP⟩ := I2.base.tbls P ps hP
    obtain ⟨ps2, eP2, hT3, hco⟩ := hT2
    have e3 : ps2 = ps ++ more := by
      have z : some (HO.tbl ps2) = some (HO.tbl (ps ++ more)) := eP2.symm.trans eP
      injection z with z
      injection z
    subst e3
    obtain ⟨c2, ec, hc2⟩ := hco lpos (.ref c') (by rw [Array.toList_append]; exact among_more _ _ hT hc)
    cases ec
    obtain ⟨⟨oc, vs, t, hoc, hdc, hvc⟩, _, _⟩ := I2.hok c' _ hc2
    have un : Un (frs X.stack) [] H H2 s.heap s2.heap := I2.base
    have rc : codeAny (model X.prog X.w) (lamZ X Ng qg sg g cdg s H Eg).A (.call (.ref f) ⟨[u], []⟩) (CR (L2.CX X.prog X.w) (lamZ X Ng qg sg g cdg s H Eg).stack X.prog X.w H2 s2 Q (fun _ _ _ => False)) s2 := by
      refine PySem.W.kla_callFunE hr.depth of2 rfl L.co L.gen rfl ⟨c', oc, vs, t, rfl, hoc, hdc, hvc⟩ ?_
      rw [hbind u]
      refine wpAny_pure (wpAny_newFunctionEnv (fun y hy => L.nocell y hy) (fun y hy => ?_) (fun h1 hns hsb => ⟨I2.nolimit.fresh _ hsb, ?_⟩) L.kind)
      · rw [List.mem_singleton] at hy
        rw [hy]
        exact L.par
      show codeAny _ _ (.expr body (lamEnv X scope s2.heap.objs.size f c')) _ _
      have kp : ∀ b o, s2.heap.get? b = some o → h1.get? b = some o := fun b o e => hsb.extBut b o (Nat.ne_of_lt (Heap.lt_size e)) (Heap.get?_push_of_some _ e)
      have J := lam_start1 (f := f) (c' := c') (tk := s2.toks + ([(a, u)] : List (Str × Value)).length) I L na I2.env0 hr.hd un hns kp rv
      refine PySem.W.kla_codeExpr (wpAny_mono (hb _ _ s2 (hr.deeper _) [] _ J) (fun v s' hq => ?_) fun e s' hq => hq)
      obtain ⟨w', H', J', rv, q⟩ := hq
      exact ⟨w', H', J'.os, J'.bare, J'.base, J'.hok, rv, q⟩
    refine wpAny_call (codeAny_mono rc fun r s' hq => ?_)
    cases r with
    | error e => exact (passes_call (L2.takes0) (fun _ _ _ _ z => z) pinsZ σZ H2 s2 e s' I2 hq)
    | ok fl =>
      cases fl with
      | ret u => exact I2.after hq
      | next => exact False.elim hq
      | brk => exact False.elim hq
      | cont => exact False.elim hq
/-- the lambda is made -/
theorem lam_mk {X : Cx} {pins : List (Addr × Obj)} {σ : L2.St} {F H : Hp} {s : Shared} {c P : Addr} {params : Arguments} {body : Expr} {scope : Scope} {lpos : Pos} {E : Value → Shared → Prop} {Q : Value → Shared → Prop} (I : Inv X pins σ H s) (sF : Sm F H) (B : TabB X.base X.mg c P) (hcode : X.env.code = .ref c)
    (hm : (P, X.env.qual ++ "<lambda>") ∈ Tbs.T) (hu : ∀ q ∈ Tbs.T, q.1 = P → q.2 = X.env.qual ++ "<lambda>") (hdef : defaultsOf params X.env = ([], [])) (hfree : ∀ y ∈ scope.names, y.2 = .free → ∃ c, X.env.cells.lookup y.1 = some c)
    (h : ∀ (f c' : Addr) (pm ctv : Value) (ps : Array Value) (H1 : Hp) (s' : Shared), Inv X (pins ++ [(f, lamO X params body scope pm ctv c')]) σ H1 s' → Grow F H F H1 → H1 P = some (.tbl ps) → TriplesOk ps.toList → codeAmong lpos ps.toList = some (.ref c') → f ∉ frs X.stack → Q (.ref f) s') :
    wpAny (model X.prog X.w) X.A (eval (.Lambda params body scope lpos) X.env) Q E s := by
  obtain ⟨ps, hP, ht, ha⟩ := sF.t _ hm
  refine PySem.W.kla_eval hdef ?_
  have bP : s.heap.BuiltinsAt X.mg P := B.bm.keeps I.bk
  have hP' : s.heap.get? P = some { cls := .none, data := .fields ps } := I.hok P _ hP
  have tP : Tb P := ⟨_, hm⟩
  have nofr : ∀ f, s.heap.objs.size ≤ f → f ∉ frs X.stack := fun f hf z => by
    rcases List.mem_cons.mp (I.stkSub _ z) with e | e
    · have h1 := I.lt
      rw [← e] at h1
      exact Nat.lt_irrefl _ (Nat.lt_of_lt_of_le h1 hf)
    · exact I.nofs hf e
  have pin : ∀ {s' : Shared} {H1 : Hp} {f c' : Addr} {pm ctv : Value}, Inv X pins σ H1 s' → s.heap.objs.size ≤ f → H1 f = none → s'.heap.get? f = some (lamO X params body scope pm ctv c') → Inv X (pins ++ [(f, lamO X params body scope pm ctv c')]) σ H1 s' := fun {s' H1 f c' pm ctv} J hf n e =>
    J.pins_of fun q hq => (List.mem_append.mp hq).elim (fun z => J.pin q (List.mem_append_right _ z)) fun z => by
      rw [List.mem_singleton] at z
      subst z
      exact ⟨e, n, fun z => by
        have e2 : f = X.env.locals := z
        have e3 := I.lt
        rw [← e2] at e3
        exact Nat.lt_irrefl _ (Nat.lt_of_lt_of_le e3 hf), I.nofs hf, fun _ z => by cases z⟩
  cases hc : codeAmong lpos ps.toList with
  | none =>
    refine PySem.W.kla_makeFunction (mg := X.mg) (c := c) (P := P) (ps := ps) (closure_ok hfree) I.ok.glob (I.mod.glob.keeps I.bk) hcode (B.code.keeps I.bk) hP' ht hc B.gP bP fun c' ctv h' tk hx hge hlt hrec htb => ?_
    obtain ⟨c2, oc, vs, t, e2, hoc, hd, hv⟩ := hrec
    cases e2
    have hsz : s.heap.objs.size ≤ h'.objs.size := Nat.le_trans hge (Nat.le_of_lt hlt)
    have nC : H c' = none := I.hok.fresh hge
    have I1 := inv_table (t' := tk) (more := #[rawInt lpos.line, rawInt lpos.col, .ref c']) (h' := h'.push (lamO X params body scope ((X.mg "__name__").getD .none) ctv c')) I hP
      (fun b o hb e => Heap.get?_push_of_some _ (hx b o hb e)) (Heap.get?_push_of_some _ htb) hge ⟨oc, vs, t, Heap.get?_push_of_some _ hoc, hd, hv⟩
    have eL : (ps ++ #[rawInt lpos.line, rawInt lpos.col, .ref c']).toList = ps.toList ++ [rawInt lpos.line, rawInt lpos.col, .ref c'] := by simp
    have at_ : ∀ b o, b ≠ P → H b = some o → upd (upd H P (.tbl (ps ++ #[rawInt lpos.line, rawInt lpos.col, .ref c']))) c' (CodeO c' (X.env.qual ++ "<lambda>")) b = some o := fun b o n e => by
      rw [upd_ne (ne_of_none e nC), upd_ne n]
      exact e
    have atP : upd (upd H P (.tbl (ps ++ #[rawInt lpos.line, rawInt lpos.col, .ref c']))) c' (CodeO c' (X.env.qual ++ "<lambda>")) P = some (.tbl (ps ++ #[rawInt lpos.line, rawInt lpos.col, .ref c'])) := by
      rw [upd_ne (ne_of_none hP nC), upd_same]
    have noP : ∀ (d : Addr) (q : Str), H d = some (CodeO d q) → d ≠ P := fun d q e z => by
      rw [z, hP] at e
      exact codeO_ne _ (Option.some.inj e).symm
    have tT : TbOk (upd (upd H P (.tbl (ps ++ #[rawInt lpos.line, rawInt lpos.col, .ref c']))) c' (CodeO c' (X.env.qual ++ "<lambda>"))) := fun q hq => by
      by_cases hb : q.1 = P
      · rw [hu q hq hb, hb]
        refine ⟨_, atP, by rw [eL]; exact PySem.TriplesOk_snoc _ _ _ _ ht, fun p' cv hcv => ?_⟩
        rw [eL] at hcv
        rcases among_app _ ht hcv with z | z
        · obtain ⟨c0, e1, e2⟩ := ha p' cv z
          exact ⟨c0, e1, at_ _ _ (noP _ _ e2) e2⟩
        · exact ⟨c', z, upd_same⟩
      · obtain ⟨ps', a1, a2, a3⟩ := sF.t q hq
        refine ⟨ps', at_ _ _ hb a1, a2, fun p' cv hcv => ?_⟩
        obtain ⟨c0, e1, e2⟩ := a3 p' cv hcv
        exact ⟨c0, e1, at_ _ _ (noP _ _ e2) e2⟩
    have gr : Gr H (upd (upd H P (.tbl (ps ++ #[rawInt lpos.line, rawInt lpos.col, .ref c']))) c' (CodeO c' (X.env.qual ++ "<lambda>"))) := ⟨fun b o nt e => at_ b o (fun z => nt (z ▸ tP)) e, sF.t, tT⟩
    have nf : upd (upd H P (.tbl (ps ++ #[rawInt lpos.line, rawInt lpos.col, .ref c']))) c' (CodeO c' (X.env.qual ++ "<lambda>")) h'.objs.size = none := by
      rw [upd_ne (Nat.ne_of_gt hlt), upd_ne (Nat.ne_of_gt (Nat.lt_of_lt_of_le (Heap.lt_size hP') hsz))]
      exact I.hok.fresh hsz
    refine h h'.objs.size c' ((X.mg "__name__").getD .none) ctv _ _ _ (pin I1 hsz nf (Heap.get?_push_size _ rfl)) ⟨Same.refl _, gr, ⟨fun b o e => gr.k b o (sF.n b o e) (sF.s b o e), tT, sF.n⟩, fun b o e n => by rw [n] at e; cases e⟩ atP (by rw [eL]; exact PySem.TriplesOk_snoc _ _ _ _ ht) (by rw [eL]; exact codeAmong_snoc _ ht hc) (nofr _ hsz)
  | some cv =>
    obtain ⟨c', e, hco⟩ := ha lpos cv hc
    subst e
    refine PySem.W.kla_makeFunctionHit (mg := X.mg) (c := c) (P := P) (ps := ps) (closure_ok hfree) I.ok.glob (I.mod.glob.keeps I.bk) hcode (B.code.keeps I.bk) hP' ht hc bP fun ctv h' tk hx hsz => ?_
    have I1 : Inv X pins σ H { s with heap := h'.push (lamO X params body scope ((X.mg "__name__").getD .none) ctv c'), toks := tk } := I.kept fun b o e => Heap.get?_push_of_some _ (hx b o e)
    exact h h'.objs.size c' ((X.mg "__name__").getD .none) ctv ps H _ (pin I1 hsz (I.hok.fresh hsz) (Heap.get?_push_size _ rfl)) (.refl sF) hP ht hc (nofr _ hsz)
/-- the lambda at f, made where FX was known -/
def sFn (FX : Hp) (f : Addr) : S := ⟨fun F v => v = .ref f ∧ Same FX F, fun e ⟨a, b⟩ => ⟨a, b.trans e⟩⟩
/-- what a lambda may read -/
def capS : Sl → Sl
  | .val s => .val s
  | _ => .any
/-- a def that is gone through anew at each call (its text: st); dvs: what fills up -/
structure Inl (K : PySem.W.Frag) (mg : Str → Option Value) (x : Str) (st : Stmt) (psg : List Str) (dvs : List V) : Prop where
  ex : ∃ (g : Addr) (fd : FuncData) (ds : List Value), FunE K x x st g fd ∧ mg x = some (.ref g) ∧ PySem.W.keepIn K (.ref g) = true ∧ Binds K fd psg ds ∧ Vals dvs ds
/-- what stands behind the lambda -/
structure Cst (X : Cx) (es : List Expr) (ws : List V) : Prop where
  pa : PA X es (fun _ H Q => Q ws H)
theorem cst_nil {X : Cx} : Cst X [] [] := ⟨pa_nil⟩
theorem cst_glob {X : Cx} {y : Str} {v : V} {u : Value} {p : Pos} (hm : X.mg y = some u) (r : RelV v u) (hg : Gl X y := by rfl) (hd : (y == ("__debug__" : Str)) = false := by decide)
    (hs : starEach [.Name y p] X.env = (false, eval (.Name y p) X.env) :: starEach [] X.env := by exact star_ok rfl) : Cst X [.Name y p] [v] := ⟨⟨fun pos pins s σ H Q I h => (pa_cons (pe_glob hg hm r hd) pa_nil hs).run pos pins s σ H Q I h⟩⟩
/-- the call of a lambda, as a rule within Z -/
def LamRule (X : Cx) (Z : Cx) (ss : List Sl) (FX : Hp) (f c' : Addr) (a : Str) (scope : Scope) (body : Expr) (k : Nat) : Prop :=
  ∀ {ss' : List Sl} {i : Nat} {y : Str} {arg : Expr} {p1 p2 : Pos} {s : S} {o : O}, ss'[i]? = some (.val (sFn FX f)) → EvE Z ss' arg (sv s) →
    (∀ (A : Around) (outer : List Env) (s1 : Shared) (H1 : Hp), Room k (A.deeper (lamEnv X scope s1.heap.objs.size f c')) → EvN (lamY X a A outer s1 H1 scope f c') (ss.map capS ++ [.val s]) body o) →
    Z.N[i]? = some y → Vis Z.env.scope y → (y == ("__debug__" : Str)) = false → (y == ("__classdict__" : Str)) = false → starEach [arg] Z.env = (false, eval arg Z.env) :: starEach [] Z.env →
    EvN Z ss' (.Call (.Name y p1) [arg] [] p2) o
theorem sat_cap {B B' : Bs} {FX HX F H : Hp} {σ : L2.St} {ss : List Sl} {v : V} {s : S} (h : Sat B FX HX σ ss) (e : Same FX F) (hB : Grow B'.F B'.H F H) (r : s.r F v) : Sat B' F H (σ ++ [some v]) (ss.map capS ++ [.val s]) := by
  obtain ⟨fp, h1, _⟩ := h.fp
  refine ⟨hB, by rw [List.length_append, List.length_append, List.length_map, h.len]; rfl, fun _ => hp0, fun i x w e1 e2 => ?_, own0⟩
  by_cases hi : i < ss.length
  · rw [List.getElem?_append_left (by rw [List.length_map]; exact hi), List.getElem?_map] at e1
    rw [List.getElem?_append_left (by rw [← h.len]; exact hi)] at e2
    cases q : ss[i]? with
    | none => rw [q] at e1; cases e1
    | some z =>
      rw [q] at e1
      cases e1
      have := h1 i z w q e2
      cases z with
      | any => trivial
      | own o => trivial
      | val t =>
        obtain ⟨u, e3, r3⟩ := this
        exact ⟨u, e3, t.mono e r3⟩
  · rw [List.getElem?_append_right (by rw [List.length_map]; omega), List.length_map] at e1
    rw [List.getElem?_append_right (by rw [← h.len]; omega)] at e2
    rw [← h.len] at e2
    cases q : i - ss.length with
    | zero =>
      rw [q] at e1 e2
      cases e1
      cases e2
      exact ⟨v, rfl, r⟩
    | succ j =>
      rw [q] at e1
      cases e1
/-- x(e, lambda a: body, ..): what the def's body does, told in its own context -/
theorem lam_core {X : Cx} {ss : List Sl} {x a : Str} {st : Stmt} {Ng psg : List Str} {dvs ws : List V} {e1 body : Expr} {params : Arguments} {scope : Scope} {es : List Expr} {s1 : S} {as2 : List S} {c P : Addr} {k : Nat} {p lpos pos : Pos} {r : Rs}
    (G : Inl X.K X.mg x st psg dvs) (Sg : FnScope Ng psg (defScope st)) (ha : EvE X ss e1 (sv s1)) (hb : Cst X es ws) (h2 : Paired (fun (a : S) v => ∀ F : Hp, a.r F v) as2 (ws ++ dvs)) (hn : as2.length + 2 = psg.length)
    (TB : TabB X.base X.mg c P) (hcode : X.env.code = .ref c) (hmT : (P, X.env.qual ++ "<lambda>") ∈ Tbs.T) (hu : ∀ q ∈ Tbs.T, q.1 = P → q.2 = X.env.qual ++ "<lambda>")
    (L : Lam1S X.env.scope scope a) (na : a ∉ X.N) (hdef : defaultsOf params X.env = ([], []))
    (hbind : ∀ (q : Str) (cl : List (Str × Addr)) (pm cv ctv u : Value), bindArgs (PySem.W.kla_fn "<lambda>" q params body scope cl pm cv ctv) ⟨[u], []⟩ = pure [(a, u)])
    (hr : Room (k + 2) X.A) (hg : Gl X x)
    (main : ∀ (FX : Hp) (f c' g : Addr) (cdv : Value) (s0 : Shared) (H0 : Hp) (E : XK), Room (k + 1) (lamZ X Ng x (defScope st) g cdv s0 H0 E).A →
      PassesOwn (model X.prog X.w) (lamZ X Ng x (defScope st) g cdv s0 H0 E).A (lamZ X Ng x (defScope st) g cdv s0 H0 E).env (lamZ X Ng x (defScope st) g cdv s0 H0 E).xe →
      LamRule X (lamZ X Ng x (defScope st) g cdv s0 H0 E) ss FX f c' a scope body k →
      EvSs (lamZ X Ng x (defScope st) g cdv s0 H0 E) (.val s1 :: .val (sFn FX f) :: (as2.map Sl.val ++ List.replicate (Ng.length - (as2.length + 2)) .any)) (defBody st) (dsX r))
    (hdb : (x == ("__debug__" : Str)) = false) (he : starEach (e1 :: .Lambda params body scope lpos :: es) X.env = (false, eval e1 X.env) :: starEach (.Lambda params body scope lpos :: es) X.env)
    (he2 : starEach (.Lambda params body scope lpos :: es) X.env = (false, eval (.Lambda params body scope lpos) X.env) :: starEach es X.env) (hpl : (backTo pos (starEach (.Lambda params body scope lpos :: es) X.env)).any (·.1) = false)
    {B : Bs} {F H : Hp} {σ : L2.St} (hs : Sat B F H σ ss) {Q : VK} {E : XK} (hx : PassesAt (L2.CX X.prog X.w) X σ E) (hq : ∀ F1 H1, Grow F H F1 H1 → Sat B F1 H1 σ ss → RsP F1 H1 Q E r) : wpE X (.Call (.Name x p) (e1 :: .Lambda params body scope lpos :: es) [] pos) σ H Q := by
  intro pins s I
  obtain ⟨g, fd, ds, ⟨oc, od, dV, kV, doc, pm0, an, cdv, ct, osl, rfl, lk, hcd⟩, hm, hk, hbd, hds⟩ := G.ex
  refine wpAny_Call_Name_kw (ld_glob I hg hm ?_ hdb)
  refine PySem.W.callWith_K (h₀ := X.base) I.ok.mod.kin hk ?_ he hpl
  rw [he]
  show wpAny _ _ (spliced ((false, eval e1 X.env) :: backTo pos (starEach (.Lambda params body scope lpos :: es) X.env))) _ _ s
  refine Calls.spliced_cons (thn (ha.go B F H σ hs (fun v H' => ∃ F', Grow F H F' H' ∧ s1.r F' v) (fun v F' H' g rr => ⟨F', g, rr⟩) pins s I) fun u1 t1 ⟨v1, H1, I1, r1, F1, g1, q1⟩ => ?_)
  rw [he2]
  show wpAny _ _ (spliced ((false, eval (.Lambda params body scope lpos) X.env) :: backTo pos (starEach es X.env))) _ _ t1
  refine Calls.spliced_cons (lam_mk I1 g1.s TB hcode hmT hu hdef (L.has I.ok) fun f c' pm ctv ps H2 t2 I2 g2 hP hT hc hfr => ?_)
  refine thn (hb.pa.run pos (pins ++ [(f, lamO X params body scope pm ctv c')]) t2 σ H2 (fun vs H' => vs = ws ∧ H' = H2) I2 ⟨rfl, rfl⟩) fun us t3 ⟨vs, H3, I3, rvs, e1, e2⟩ => ⟨I3.kIn, ?_⟩
  subst e1
  subst e2
  have h3 := (hs.grow g1).grow g2
  have g3 := g1.trans g2
  obtain ⟨pf, nf, _, _, _⟩ := I3.pin (f, lamO X params body scope pm ctv c') (List.mem_append_right _ (List.mem_append_right _ (List.mem_singleton.mpr rfl)))
  have rall : Vals (v1 :: .ref f :: vs ++ dvs) (u1 :: .ref f :: us ++ ds) := (show Vals (v1 :: .ref f :: vs) (u1 :: .ref f :: us) from .cons r1 (.cons rfl rvs)).append hds
  have hlen : (v1 :: .ref f :: vs ++ dvs).length = psg.length := by
    have h4 := Paired.length h2
    rw [List.length_append] at h4
    simp only [List.length_cons, List.length_append]
    omega
  have hlen2 : ((u1 :: .ref f :: us) ++ ds).length = psg.length := by rw [← hlen, ← rall.length]
  have rc : codeAny (model X.prog X.w) X.A (.call (.ref g) ⟨u1 :: .ref f :: us, []⟩) (CR (L2.CX X.prog X.w) X.stack X.prog X.w H3 t3 Q E) t3 := by
    refine run_ofS (N := Ng) (ps := psg) (us := u1 :: .ref f :: us ++ ds) (vs := v1 :: .ref f :: vs ++ dvs) lk hcd Sg hr I3.env0 (hbd t3 (u1 :: .ref f :: us) I3.kIn hlen2) rall hlen fun hr' => ⟨_, PSsw, ?_⟩
    have hRs := hq F1 H3 g3 h3
    have hp2 : Paired (fun (a : S) v => a.r F1 v) (s1 :: sFn F1 f :: as2) (v1 :: .ref f :: vs ++ dvs) := .cons q1 (.cons ⟨rfl, Same.refl _⟩ (Paired.mapP h2 fun _ _ z => z F1))
    have tk : Tk (lamZ X Ng x (defScope st) g cdv t3 H3 E) ⟨F1, H3⟩ (dsX r).ex := by
      refine Takes.imp (takes_of (E := E) rfl rfl rfl rfl) fun cls d σ H z => ?_
      obtain ⟨x', F', ss', hx, hs', hr'⟩ := z
      cases r with
      | ok s => exact (show False from hx).elim
      | new o => exact (show False from hx).elim
      | ex y =>
        have e : x' = y := hx
        subst e
        exact hRs cls d F' H hs'.g hr'
    have hm2 := main F1 f c' g cdv t3 H3 E hr' (passes_of rfl) (fun {ss'} {i} {y} {arg} {p1} {p2} {s} {o} hi harg hbody hN hv hd1 hd2 hst => .mk fun B' F' H' σ' hS Q' q' pinsZ sZ IZ => by
      obtain ⟨w, ew, ew2, sX⟩ := hS.val hi
      subst ew2
      refine lam_act (k := k) I3 L na pf nf hfr hP hT hc (fun u => hbind _ _ _ _ _ u) hr' hN hv hst IZ ew (harg.go B' F' H' σ' hS _ fun v F2 H4 g4 rv => ⟨g4.s.t _ hmT, fun A outer s4 hrm => ?_⟩) hd1 hd2
      refine (hbody A outer s4 H4 hrm).go ⟨F2, H4⟩ F2 H4 _ (sat_cap h3 (sX.trans g4.f) (.refl g4.s) rv) _ fun p F5 H5 k5 g5 n5 r5 => q' p F5 H5 k5 (g4.trans g5) (fun a ob e => ⟨g4.h.free (n5 a ob e).1, (n5 a ob e).2⟩) r5)
    have hm3 := hm2.go ⟨F1, H3⟩ F1 H3 _ (sat_start (N := Ng) g3.s hp2) tk
    refine wpSs_mono hm3 (fun σ' H' ⟨F', ss', hs', z⟩ => ?_) (fun v H' z => ?_) (fun _ _ ⟨_, _, _, z⟩ => ?_) (fun _ _ ⟨_, _, _, z⟩ => ?_)
    · cases r with
      | ok s => exact hRs _ F' H' hs'.g (z F')
      | new o => exact (show False from z).elim
      | ex y => exact (show False from z).elim
    · cases r with
      | ok s =>
        rcases RtP.two z (fun _ _ q => q) (fun _ _ q => q) with ⟨F', s', g, r', z⟩ | ⟨_, _, _, _, _, _, _, _, z⟩
        · exact hRs v F' H' g (z F' v r')
        · exact (show False from z).elim
      | new o =>
        rcases RtP.two z (fun _ _ q => q) (fun _ _ q => q) with ⟨_, _, _, _, z⟩ | ⟨F', c, p, o', rfl, g, n, r', z⟩
        · exact (show False from z).elim
        · exact hRs p F' H' c g (fun a ob e => ⟨(n a ob e).2.1, (n a ob e).2.2, (n a ob e).1⟩) (z _ _ _ r')
      | ex y =>
        rcases RtP.two z (fun _ _ q => q) (fun _ _ q => q) with ⟨_, _, _, _, z⟩ | ⟨_, _, _, _, _, _, _, _, z⟩
        · exact (show False from z).elim
        · exact (show False from z).elim
    · cases r <;> exact (show False from z).elim
    · cases r <;> exact (show False from z).elim
  refine wpAny_call (codeAny_mono rc fun rr s' hq => ?_)
  cases rr with
  | error e => exact hx _ _ _ e s' I3 hq
  | ok fl =>
    cases fl with
    | ret u =>
      obtain ⟨v, H', J, rv, q⟩ := I3.after hq
      exact ⟨v, H', J.unpinned, rv, q⟩
    | next => exact False.elim hq
    | brk => exact False.elim hq
    | cont => exact False.elim hq
/-- .. a new object is handed back -/
theorem ev_lamN {X : Cx} {ss : List Sl} {x a : Str} {st : Stmt} {Ng psg : List Str} {dvs ws : List V} {e1 body : Expr} {params : Arguments} {scope : Scope} {es : List Expr} {s1 : S} {as2 : List S} {c P : Addr} {k : Nat} {p lpos pos : Pos} {o : O}
    (G : Inl X.K X.mg x st psg dvs) (Sg : FnScope Ng psg (defScope st)) (ha : EvE X ss e1 (sv s1)) (hb : Cst X es ws) (h2 : Paired (fun (a : S) v => ∀ F : Hp, a.r F v) as2 (ws ++ dvs)) (hn : as2.length + 2 = psg.length := by rfl)
    (TB : TabB X.base X.mg c P) (hcode : X.env.code = .ref c) (hmT : (P, X.env.qual ++ "<lambda>") ∈ Tbs.T) (hu : ∀ q ∈ Tbs.T, q.1 = P → q.2 = X.env.qual ++ "<lambda>")
    (L : Lam1S X.env.scope scope a) (na : a ∉ X.N := by decide) (hdef : defaultsOf params X.env = ([], []) := by rfl)
    (hbind : ∀ (q : Str) (cl : List (Str × Addr)) (pm cv ctv u : Value), bindArgs (PySem.W.kla_fn "<lambda>" q params body scope cl pm cv ctv) ⟨[u], []⟩ = pure [(a, u)] := by intros; rfl)
    (hr : Room (k + 2) X.A) (hg : Gl X x := by rfl)
    (main : ∀ (FX : Hp) (f c' g : Addr) (cdv : Value) (s0 : Shared) (H0 : Hp) (E : XK), Room (k + 1) (lamZ X Ng x (defScope st) g cdv s0 H0 E).A →
      PassesOwn (model X.prog X.w) (lamZ X Ng x (defScope st) g cdv s0 H0 E).A (lamZ X Ng x (defScope st) g cdv s0 H0 E).env (lamZ X Ng x (defScope st) g cdv s0 H0 E).xe →
      LamRule X (lamZ X Ng x (defScope st) g cdv s0 H0 E) ss FX f c' a scope body k →
      EvSs (lamZ X Ng x (defScope st) g cdv s0 H0 E) (.val s1 :: .val (sFn FX f) :: (as2.map Sl.val ++ List.replicate (Ng.length - (as2.length + 2)) .any)) (defBody st) (dsX (.new o)))
    (hdb : (x == ("__debug__" : Str)) = false := by decide) (he : starEach (e1 :: .Lambda params body scope lpos :: es) X.env = (false, eval e1 X.env) :: starEach (.Lambda params body scope lpos :: es) X.env := by exact star_ok rfl)
    (he2 : starEach (.Lambda params body scope lpos :: es) X.env = (false, eval (.Lambda params body scope lpos) X.env) :: starEach es X.env := by exact star_ok rfl) (hpl : (backTo pos (starEach (.Lambda params body scope lpos :: es) X.env)).any (·.1) = false := by rfl)
 : EvN X ss (.Call (.Name x p) (e1 :: .Lambda params body scope lpos :: es) [] pos) o := .mk fun B F H σ hs Q q =>
  lam_core G Sg ha hb h2 hn TB hcode hmT hu L na hdef hbind hr hg main hdb he he2 hpl hs (E := fun _ _ _ => False) (fun pins H s e s' I z => passes_call (W := fun _ _ _ _ => False) L2.takes0 (fun _ _ _ _ z => z) pins σ H s e s' I z) fun F1 H1 g1 _ p F2 H2 k2 g2 n r => q p F2 H2 k2 (g1.trans g2) (fun a ob e => ⟨g1.h.free (n a ob e).1, (n a ob e).2⟩) r
/-- .. a known one -/
theorem ev_lamE {X : Cx} {ss : List Sl} {x a : Str} {st : Stmt} {Ng psg : List Str} {dvs ws : List V} {e1 body : Expr} {params : Arguments} {scope : Scope} {es : List Expr} {s1 : S} {as2 : List S} {c P : Addr} {k : Nat} {p lpos pos : Pos} {s : S}
    (G : Inl X.K X.mg x st psg dvs) (Sg : FnScope Ng psg (defScope st)) (ha : EvE X ss e1 (sv s1)) (hb : Cst X es ws) (h2 : Paired (fun (a : S) v => ∀ F : Hp, a.r F v) as2 (ws ++ dvs)) (hn : as2.length + 2 = psg.length := by rfl)
    (TB : TabB X.base X.mg c P) (hcode : X.env.code = .ref c) (hmT : (P, X.env.qual ++ "<lambda>") ∈ Tbs.T) (hu : ∀ q ∈ Tbs.T, q.1 = P → q.2 = X.env.qual ++ "<lambda>")
    (L : Lam1S X.env.scope scope a) (na : a ∉ X.N := by decide) (hdef : defaultsOf params X.env = ([], []) := by rfl)
    (hbind : ∀ (q : Str) (cl : List (Str × Addr)) (pm cv ctv u : Value), bindArgs (PySem.W.kla_fn "<lambda>" q params body scope cl pm cv ctv) ⟨[u], []⟩ = pure [(a, u)] := by intros; rfl)
    (hr : Room (k + 2) X.A) (hg : Gl X x := by rfl)
    (main : ∀ (FX : Hp) (f c' g : Addr) (cdv : Value) (s0 : Shared) (H0 : Hp) (E : XK), Room (k + 1) (lamZ X Ng x (defScope st) g cdv s0 H0 E).A →
      PassesOwn (model X.prog X.w) (lamZ X Ng x (defScope st) g cdv s0 H0 E).A (lamZ X Ng x (defScope st) g cdv s0 H0 E).env (lamZ X Ng x (defScope st) g cdv s0 H0 E).xe →
      LamRule X (lamZ X Ng x (defScope st) g cdv s0 H0 E) ss FX f c' a scope body k →
      EvSs (lamZ X Ng x (defScope st) g cdv s0 H0 E) (.val s1 :: .val (sFn FX f) :: (as2.map Sl.val ++ List.replicate (Ng.length - (as2.length + 2)) .any)) (defBody st) (dsX (.ok s)))
    (hdb : (x == ("__debug__" : Str)) = false := by decide) (he : starEach (e1 :: .Lambda params body scope lpos :: es) X.env = (false, eval e1 X.env) :: starEach (.Lambda params body scope lpos :: es) X.env := by exact star_ok rfl)
    (he2 : starEach (.Lambda params body scope lpos :: es) X.env = (false, eval (.Lambda params body scope lpos) X.env) :: starEach es X.env := by exact star_ok rfl) (hpl : (backTo pos (starEach (.Lambda params body scope lpos :: es) X.env)).any (·.1) = false := by rfl)
 : EvE X ss (.Call (.Name x p) (e1 :: .Lambda params body scope lpos :: es) [] pos) (sv s) := .mk fun B F H σ hs Q q =>
  lam_core G Sg ha hb h2 hn TB hcode hmT hu L na hdef hbind hr hg main hdb he he2 hpl hs (E := fun _ _ _ => False) (fun pins H s e s' I z => passes_call (W := fun _ _ _ _ => False) L2.takes0 (fun _ _ _ _ z => z) pins σ H s e s' I z) fun F1 H1 g1 _ v F2 H2 g2 r => q v F2 H2 (g1.trans g2) r
/-- .. it raises -/
theorem ev_lamR {X : Cx} {ss : List Sl} {x a : Str} {st : Stmt} {Ng psg : List Str} {dvs ws : List V} {e1 body : Expr} {params : Arguments} {scope : Scope} {es : List Expr} {s1 : S} {as2 : List S} {c P : Addr} {k : Nat} {p lpos pos : Pos} {z : Xo} {ex : Xo → List Sl → Prop} (hz : ex z ss)
    (G : Inl X.K X.mg x st psg dvs) (Sg : FnScope Ng psg (defScope st)) (ha : EvE X ss e1 (sv s1)) (hb : Cst X es ws) (h2 : Paired (fun (a : S) v => ∀ F : Hp, a.r F v) as2 (ws ++ dvs)) (hn : as2.length + 2 = psg.length := by rfl)
    (TB : TabB X.base X.mg c P) (hcode : X.env.code = .ref c) (hmT : (P, X.env.qual ++ "<lambda>") ∈ Tbs.T) (hu : ∀ q ∈ Tbs.T, q.1 = P → q.2 = X.env.qual ++ "<lambda>")
    (L : Lam1S X.env.scope scope a) (na : a ∉ X.N := by decide) (hdef : defaultsOf params X.env = ([], []) := by rfl)
    (hbind : ∀ (q : Str) (cl : List (Str × Addr)) (pm cv ctv u : Value), bindArgs (PySem.W.kla_fn "<lambda>" q params body scope cl pm cv ctv) ⟨[u], []⟩ = pure [(a, u)] := by intros; rfl)
    (hr : Room (k + 2) X.A) (hg : Gl X x := by rfl)
    (main : ∀ (FX : Hp) (f c' g : Addr) (cdv : Value) (s0 : Shared) (H0 : Hp) (E : XK), Room (k + 1) (lamZ X Ng x (defScope st) g cdv s0 H0 E).A →
      PassesOwn (model X.prog X.w) (lamZ X Ng x (defScope st) g cdv s0 H0 E).A (lamZ X Ng x (defScope st) g cdv s0 H0 E).env (lamZ X Ng x (defScope st) g cdv s0 H0 E).xe →
      LamRule X (lamZ X Ng x (defScope st) g cdv s0 H0 E) ss FX f c' a scope body k →
      EvSs (lamZ X Ng x (defScope st) g cdv s0 H0 E) (.val s1 :: .val (sFn FX f) :: (as2.map Sl.val ++ List.replicate (Ng.length - (as2.length + 2)) .any)) (defBody st) (dsX (.ex z)))
    (hdb : (x == ("__debug__" : Str)) = false := by decide) (he : starEach (e1 :: .Lambda params body scope lpos :: es) X.env = (false, eval e1 X.env) :: starEach (.Lambda params body scope lpos :: es) X.env := by exact star_ok rfl)
    (he2 : starEach (.Lambda params body scope lpos :: es) X.env = (false, eval (.Lambda params body scope lpos) X.env) :: starEach es X.env := by exact star_ok rfl) (hpl : (backTo pos (starEach (.Lambda params body scope lpos :: es) X.env)).any (·.1) = false := by rfl)
 : EvR X ss (.Call (.Name x p) (e1 :: .Lambda params body scope lpos :: es) [] pos) ex := .mk fun B F H σ hs tk Q =>
  lam_core G Sg ha hb h2 hn TB hcode hmT hu L na hdef hbind hr hg main hdb he he2 hpl hs (E := WE (wX B ex) σ) (passAt tk σ) fun F1 H1 g1 h1 cls d F2 H2 g2 r => ⟨z, F2, ss, hz, h1.grow g2, r⟩
end Sx
namespace Sx
variable [Tbs]
open PySem PySem.Spec PyProof.Rows L2 LamX
/-! ### a def that makes a lambda: its code object is known -/
structure FunC (K : PySem.W.Frag) (x qual : Str) (st : Stmt) (f : Addr) (fd : FuncData) (c : Addr) : Prop where
  ex : ∃ (oc : Value) (od : Option Addr) (dV kV doc pm : Value) (an : Option Addr) (ct : Value) (osl : Array (Option Value)), fd = PySem.W.fnOf x qual (defArgs st) (defBody st) (defScope st) dV kV doc pm an (.ref c) ct ∧ K.lookup f = some ⟨oc, od, .func fd, osl⟩ ∧ PySem.W.codeIn K (.ref c) qual = true
/-- the table of its code object is watched -/
structure TabX (base : Heap) (mg : Str → Option Value) (c P : Addr) (q : Str) : Prop where
  tb : TabB base mg c P
  m : (P, q) ∈ Tbs.T
  u : ∀ x ∈ Tbs.T, x.1 = P → x.2 = q
def lamQ (qual : Str) : Str := qual ++ ".<locals>." ++ "<lambda>"
section
variable {P : Program} {w : World} {K : PySem.W.Frag} {mg : Str → Option Value} {base : Heap} {x qual : Str} {st : Stmt} {f c : Addr} {fd : FuncData} {N ps : List Str} {k : Nat} {sp : Sp}
theorem FunC.okX (F : FunC K x qual st f fd c) (S : FnScope N ps (defScope st)) (len : ∀ vs H Q E, sp vs H Q E → vs.length = ps.length)
    (body : ∀ (A : Around) (outer : List Env) (s : Shared) (H : Hp) (vs : List V) (Q : VK) (E : XK), Room k (A.deeper (envOfC qual (defScope st) s.heap.objs.size f (.ref c))) → sp vs H Q E →
      ∃ t, PSs (cxOf (L2.CX P w) P w K mg base N qual (defScope st) f (.ref c) A outer s H E) (defBody st) t ∧ t { nx := fun _ H' => Q .non H', rt := Q } (L2.start N vs) H) : FnOk P w K mg base (L2.CX P w) (k + 1) f fd ps sp := by
  obtain ⟨oc, od, dV, kV, doc, pm, an, ct, osl, rfl, lk, hcd⟩ := F.ex
  exact fn_of lk hcd S len fun A outer s H vs Q E hr hsp => body A outer s H vs Q E hr hsp
theorem fn_okXc {Φ : List S → Rs → Prop} (F : FunC K x qual st f fd c) (Sc : FnScope N ps (defScope st)) (len : ∀ as r, Φ as r → as.length = ps.length)
    (body : ∀ (A : Around) (outer : List Env) (s0 : Shared) (H0 : Hp) (E : XK) (as : List S) (r : Rs), Room k (A.deeper (envOfC qual (defScope st) s0.heap.objs.size f (.ref c))) →
      PassesOwn (model P w) (cxOf (L2.CX P w) P w K mg base N qual (defScope st) f (.ref c) A outer s0 H0 E).A (cxOf (L2.CX P w) P w K mg base N qual (defScope st) f (.ref c) A outer s0 H0 E).env (cxOf (L2.CX P w) P w K mg base N qual (defScope st) f (.ref c) A outer s0 H0 E).xe → Φ as r →
      EvSs (cxOf (L2.CX P w) P w K mg base N qual (defScope st) f (.ref c) A outer s0 H0 E) (as.map Sl.val ++ List.replicate (N.length - as.length) .any) (defBody st) (dsX r)) :
    FnOk P w K mg base (L2.CX P w) (k + 1) f fd ps (spOfX Φ) := by
  refine F.okX Sc (fun vs H Q E ⟨F, as, r, _, hp, hΦ, _⟩ => by rw [← Paired.length hp]; exact len as r hΦ) (fun A outer s0 H0 vs Q E hr h => ?_)
  obtain ⟨F, as, r, sF, hp, hΦ, q⟩ := h
  refine ⟨_, PSsw, ?_⟩
  have tk : Tk (cxOf (L2.CX P w) P w K mg base N qual (defScope st) f (.ref c) A outer s0 H0 E) ⟨F, H0⟩ (dsX r).ex := by
    refine Takes.imp (takes_of (E := E) rfl rfl rfl rfl) fun cls d σ H z => ?_
    obtain ⟨x', F', ss', hx, hs', hr'⟩ := z
    cases r with
    | ok s => exact (show False from hx).elim
    | new o => exact (show False from hx).elim
    | ex y =>
      have e : x' = y := hx
      subst e
      exact q cls d F' H hs'.g hr'
  refine wpSs_mono (body A outer s0 H0 E as r hr (passes_of rfl) hΦ ⟨F, H0⟩ F H0 _ (sat_start sF hp) tk) (fun σ' H' ⟨F', ss', hs', z⟩ => ?_) (fun v H' z => ?_) (fun _ _ ⟨_, _, _, z⟩ => ?_) (fun _ _ ⟨_, _, _, z⟩ => ?_)
  · cases r with
    | ok s => exact q _ F' H' hs'.g (z F')
    | new o => exact (show False from z).elim
    | ex y => exact (show False from z).elim
  · cases r with
    | ok s =>
      rcases RtP.two z (fun _ _ q => q) (fun _ _ q => q) with ⟨F', s', g, r', z⟩ | ⟨_, _, _, _, _, _, _, _, z⟩
      · exact q v F' H' g (z F' v r')
      · exact (show False from z).elim
    | new o =>
      rcases RtP.two z (fun _ _ q => q) (fun _ _ q => q) with ⟨_, _, _, _, z⟩ | ⟨F', c, p, o', rfl, g, n, r', z⟩
      · exact (show False from z).elim
      · exact q p F' H' c g (fun a ob e => ⟨(n a ob e).2.1, (n a ob e).2.2, (n a ob e).1⟩) (z _ _ _ r')
    | ex y =>
      rcases RtP.two z (fun _ _ q => q) (fun _ _ q => q) with ⟨_, _, _, _, z⟩ | ⟨_, _, _, _, _, _, _, _, z⟩
      · exact (show False from z).elim
      · exact (show False from z).elim
  · cases r <;> exact (show False from z).elim
  · cases r <;> exact (show False from z).elim
end
end Sx
namespace Sx
open PySem PySem.Spec PyProof.Rows L2 LamX
/-- the def nm: its code object, the table there (empty), at the law's call -/
def DefTab (mg : Str → Option Value) (nm : Str) (h : Heap) : Prop := ∃ (a : Addr) (o : Obj) (fd : FuncData) (c P : Addr), mg nm = some (.ref a) ∧ h.get? a = some o ∧ o.data = .func fd ∧ fd.code = .ref c ∧ PySem.W.CodeHd h c P ∧ h.get? P = some { cls := .none, data := .fields #[] } ∧ ∃ oc vc, h.get? c = some oc ∧ oc.data = .fields vc ∧ vc[11]? = some (.ref P)
theorem walk_ofDef {l : PySem.W.OpenLaw} {n k : Nat} {q : Program} {loose : List Str} {XP : (Str → Option Value) → Heap → Prop} {YP : World → Heap → Prop} {d : DefRec} {K : Params → PySem.W.Frag} {CX : World → CXT} {x : Str} (nm : Str)
    (hn : l.most = some n) (hn2 : n ≤ sizeLine) (hdf : d.params.defaults = []) (hr : Room k callerA) (hrec : ((recsOf q).any fun e => e.name == nm) = true) (hY : ∀ (w : World) (h : Heap), YP w h → (K w.params).In h)
    (F : ∀ (w : World) (mg : Str → Option Value) (fa : Addr) (h : Heap), (K w.params).In h → h.Ns mainGlobals mg → mg d.name = some (.ref fa) → DefTab mg nm h → LawAtS l w (K w.params) (CX w) k n x mg fa h)
    (hCX : ∀ (w : World) (H : Hp) (s : Shared) (e : Value) (s' : Shared), CX w [] H s (fun _ _ _ => False) e s' → False) :
    PySem.W.WalkO q loose XP YP l.row.toRowW d [] (fun f vs => PySem.call f vs) := by
  refine Att.attach_callB hn hdf fun w s₀ s₁ mg mb fa o pm cd doc a vs ns G Y ho hd hcd hmg hobj hints hlen hbits hg => ?_
  have KX := hY w _ Y
  have tab : DefTab mg nm s₁.heap := by
    obtain ⟨dL, hm, hn1⟩ := List.any_eq_true.mp hrec
    have hn2 : dL.name = nm := beq_iff_eq.mp hn1
    obtain ⟨a', o', fd', c', P', h1, h2, h3, h4, h5, h6⟩ := G.T.tab dL hm
    rw [hn2] at h1
    have hd := PySem.W.CodeHd.of h5 h6
    obtain ⟨⟨oc, vc, e1, _, e3, e4⟩, hP⟩ := h6
    exact ⟨a', o', fd', c', P', h1, h2, h3, h4, hd, hP, oc, vc, e1, e3, e4⟩
  obtain ⟨fd, cs, sp, hT, nT, C, hb, hsp, hF⟩ := F w mg fa _ KX G.T.g hmg tab
  exact law_callTs KX G.T.g G.T.b G.T.builtins G.T.nolimit hg hT nT C G.T.bmain hobj hints (Nat.le_trans hlen hn2) hr hF hb (fun H hH hS => hsp H a ns hlen hbits hH hS) fun H e s' => hCX w H s₁ e s'
/-- the tables at the law's entry -/
theorem sm_tab {K : PySem.W.Frag} {PT a : Addr} {q : Str} {H : Hp} {ns : List V} (hT : H PT = some (.tbl #[])) (hS : SqL K H a ns) : ∃ F : Hp, (@Sm ⟨[(PT, q)]⟩ F H) ∧ SqL K F a ns := by
  refine ⟨fun b => if b = PT then none else H b, @Sm.mk ⟨[(PT, q)]⟩ _ _ (fun b o e => ?_) (fun p hp => ?_) (fun b o e hb => ?_), ?_⟩
  · by_cases hb : b = PT
    · rw [if_pos hb] at e
      cases e
    · rw [if_neg hb] at e
      exact e
  · have e : p = (PT, q) := List.mem_singleton.mp hp
    rw [e]
    exact TabS.nil hT
  · obtain ⟨q', hq⟩ := hb
    have e2 := List.mem_singleton.mp hq
    injection e2 with e2 _
    rw [if_pos e2] at e
    cases e
  · rcases hS with (h | ⟨o, h⟩) | h
    · refine .inl (.inl ?_)
      show (if a = PT then none else H a) = _
      rw [if_neg]
      · exact h
      · intro z
        rw [z, hT] at h
        cases h
    · refine .inl (.inr ⟨o, ?_⟩)
      show (if a = PT then none else H a) = _
      rw [if_neg]
      · exact h
      · intro z
        rw [z, hT] at h
        cases h
    · exact .inr h
theorem defTab_link {K : PySem.W.Frag} {mg : Str → Option Value} {nm : Str} {h : Heap} {fT cT PT : Addr} {oc e : Value} {od dd : Option Addr} {fd : FuncData} {sl sl2 : Array (Option Value)} {vs : Array Value} (KX : K.In h) (tab : DefTab mg nm h) (hm : mg nm = some (.ref fT))
    (l : K.lookup fT = some ⟨oc, od, .func fd, sl⟩) (hc : fd.code = .ref cT) (lc : K.lookup cT = some ⟨e, dd, .fields vs, sl2⟩) (h11 : vs[11]? = some (.ref PT)) : PySem.W.CodeHd h cT PT ∧ h.get? PT = some { cls := .none, data := .fields #[] } := by
  obtain ⟨a, o, fd2, c, P, q1, q2, q3, q4, q5, q6, oc2, vc, r1, r2, r3⟩ := tab
  rw [hm] at q1
  cases q1
  have g1 := KX _ _ l
  rw [g1] at q2
  cases q2
  cases q3
  rw [hc] at q4
  cases q4
  have g2 := KX _ _ lc
  rw [g2] at r1
  cases r1
  cases r2
  rw [h11] at r3
  cases r3
  exact ⟨q5, q6⟩
end Sx
/-! ### tuples of three -/
namespace Sx
variable [Tbs]
open PySem PySem.Spec PyProof.Rows L2
def sTri {α β γ : Type} (T : α → S) (U : β → S) (W : γ → S) (p : α × β × γ) : S := sTup id [T p.1, U p.2.1, W p.2.2]
omit [Tbs] in
theorem its3 {F : Hp} {s t u : S} {vs : List V} (h : Its id F [s, t, u] vs) : ∃ a b c, vs = [a, b, c] ∧ s.r F a ∧ t.r F b ∧ u.r F c := by
  have h' : Paired (fun (x : S) v => x.r F v) [s, t, u] vs := h
  cases h' with
  | cons r1 t1 =>
    cases t1 with
    | cons r2 t2 =>
      cases t2 with
      | cons r3 t3 =>
        cases t3
        exact ⟨_, _, _, rfl, r1, r2, r3⟩
section
variable {α β γ : Type} {U : α → S} {U' : β → S} {U'' : γ → S}
instance [KeyN U] [KeyN U'] [KeyN U''] : KeyN (sTri U U' U'') where
  enc := fun p => .tup [KeyN.enc U p.1, KeyN.enc U' p.2.1, KeyN.enc U'' p.2.2]
  dep := max (KeyN.dep U) (max (KeyN.dep U') (KeyN.dep U'')) + 1
  depth := fun p => by
    have h1 := KeyN.depth (U := U) p.1
    have h2 := KeyN.depth (U := U') p.2.1
    have h3 := KeyN.depth (U := U'') p.2.2
    rw [NestedKey.depth, NestedKey.depthAll, NestedKey.depthAll, NestedKey.depthAll, NestedKey.depthAll]
    omega
  is := fun {X pins σ F H s k v u} I sF r ru => by
    obtain ⟨p, c, e, hk, vs, hp, hi⟩ := r
    subst e
    have e2 : u = .ref p := ru
    subst e2
    obtain ⟨a, b, d, rfl, ra, rb, rd⟩ := its3 hi
    obtain ⟨its, rv, ⟨o, ho, hc, n, hd⟩, _⟩ := I.tuple (SqT.of (sF _ _ (hk _ _ hp)))
    cases rv with
    | cons q1 t1 =>
      cases t1 with
      | cons q2 t2 =>
        cases t2 with
        | cons q3 t3 =>
          cases t3
          exact .tup ho hc hd (.cons (KeyN.is I sF ra q1) (.cons (KeyN.is I sF rb q2) (.cons (KeyN.is I sF rd q3) .nil)))
  inj := fun a b e => by
    injection e with e
    injection e with e1 e2
    injection e2 with e2 e3
    injection e3 with e3 _
    exact Prod.ext (KeyN.inj _ _ e1) (Prod.ext (KeyN.inj _ _ e2) (KeyN.inj _ _ e3))
instance : KeyR (sTri U U' U'') := ⟨fun ⟨p, _, e, _⟩ => ⟨p, e⟩⟩
end
theorem gto_tup3 {K : PySem.W.Frag} {s t u : S} {i j l : Nat} : GTo (gTup K 3 (gCons (gName i) (gCons (gName j) (gCons (gName l) gNil)))) (sTup id [s, t, u]) (fun ss => ((ss.set i (.val s)).set j (.val t)).set l (.val u)) := fun B F H σ ss v Q h r q => by
  obtain ⟨p, c, e, hk, vs, hp, hi⟩ := r
  obtain ⟨x, y, z, rfl, rx, ry, rz⟩ := its3 hi
  exact ⟨p, _, e, SqT.of (h.s _ _ (hk _ _ hp)), rfl, x, _, rfl, y, _, rfl, z, _, rfl, rfl, q _ (((h.set rx).set ry).set rz)⟩
theorem gto_tri {α β γ : Type} {T : α → S} {U : β → S} {W : γ → S} {K : PySem.W.Frag} {p : α × β × γ} {i j l : Nat} : GTo (gTup K 3 (gCons (gName i) (gCons (gName j) (gCons (gName l) gNil)))) (sTri T U W p) (fun ss => ((ss.set i (.val (T p.1))).set j (.val (U p.2.1))).set l (.val (W p.2.2))) := gto_tup3
end Sx
/-! name = {k: v for ..} on one line -/
namespace Sx
variable [Tbs]
open PySem PySem.Spec PyProof.Rows L2
section
variable {X : Cx}
theorem ga_core {pins : List (Addr × Obj)} {s : Shared} {σ : L2.St} {H : Hp} {Q : VK} {use : Option (Value → Sem Unit)} {Qf : Value → Shared → Prop} {CE tg iter : Expr} {ifs : List Expr} {scope : Scope} {own : List (Str × Nat)} {wi : TI} {g : TG} {tt : TT} {tm : TM} {mk : Sem Value} {o0 : Addr → HO} {em : Env → Addr → Shared → (Shared → Prop) → Prop} {pos' : Pos} {gs : List Comprehension}
    (hc : X.calm = true) (I : L2.Inv X pins σ H s) (hN : X.N.Nodup) (hi : PI X tg iter wi) (ok : BlkOk X.N X.env.scope scope own) (ga : Gath X.prog X.w X.A CE tg ifs mk o0 em)
    (hcl : clausesOf CE = ⟨tg, iter, ifs, 0⟩ :: gs)
    (hg : ∀ (s : Shared) (H : Hp) (C : Addr) (cl : List (Str × Addr)) (fp : List Addr), PG (X.blk s H scope (compEnvC scope cl C X.env) fp) tg g)
    (ht : ∀ (s : Shared) (H : Hp) (C : Addr) (cl : List (Str × Addr)) (fp : List Addr), PTs (X.blk s H scope (compEnvC scope cl C X.env) fp) ifs tt)
    (hm : ∀ (s : Shared) (H : Hp) (C : Addr) (cl : List (Str × Addr)) (fp : List Addr), Reads (X.blk s H scope (compEnvC scope cl C X.env) fp) em tm)
    (hs : ∀ x, foldedSetIterable iter X.env x = pure x) (h : tGa wi g tt tm o0 (own.map (·.2)) σ H Q)
    (hRR : ∀ D C s' m H', L2.Inv X pins σ H' s' → Q (.ref D) H' → s'.heap.Ns C m → FpOk X pins H' C → compPost (model X.prog X.w) X.A X.xe use Qf (.ref D) C (.ok .next) s') :
    wpAny (model X.prog X.w) X.A (comprehension CE scope X.env pos' mk false (eval iter X.env) use) Qf X.xe s := by
  have fr : ∀ z ∈ scope.names, z.2 = .free → ∃ c, X.env.cells.lookup z.1 = some c := fun z hz e => (ok.free z hz e).elim (fun k => I.ok.has _ (.inl k)) fun k => I.ok.has _ (.inr k)
  refine wpAny_comprehension_free (use := use) hcl hs (closure_ok fr) ok.kind (fun z hz e => by rw [ok.uniq z hz, e]) (thn (hi.run pins s σ H _ I h) fun xv s1 hx => thn hx fun itv s2 ⟨it, fp, tn, J, H2, e, I2, T, st2, f2, q⟩ => ?_)
  subst e
  refine ga.new s2 _ _ (fun h3 up hsz _ newo => newEnv_comp ?_) (beq_eq_false_iff_ne.mpr (Ne.symm (Nat.ne_of_lt I2.big)))
  have Dn : H2 s2.heap.objs.size = none := I2.hok.fresh (Nat.le_refl _)
  have I3 : L2.Inv X pins σ (upd H2 s2.heap.objs.size (o0 s2.heap.objs.size)) { s2 with heap := h3 } := I2.laid (t' := s2.toks) up (Nat.le_refl _) (newo _)
  have young : ∀ b ∈ fp, b < s2.heap.objs.size := fun b hb => let ⟨_, e, _⟩ := T.obj _ _ st2 b hb; Heap.lt_size e
  generalize s2.heap.objs.size = D at hsz I3 Dn young ⊢
  obtain ⟨W, ⟨m0, w0⟩, turn⟩ := q D Dn
  generalize hH3 : upd H2 D (o0 D) = H3 at I3 w0
  have f3 : ∀ b ∈ fp, FpOk X pins H3 b ∧ b < h3.objs.size := fun b hb => by
    have hlt := young b hb
    refine ⟨⟨?_, (f2 b hb).2⟩, by rw [hsz]; exact Nat.lt_succ_of_lt hlt⟩
    rw [← hH3, upd_ne (Nat.ne_of_lt hlt)]
    exact (f2 b hb).1
  have st3 : tn 0 h3 := T.keep _ _ _ st2 fun b _ o e => up b o e
  have I4 := block_start I3 ok hN f3
  generalize hcl0 : cellsFrom (h3.objs.size + 1) scope.names (cloFrom X.env.cells scope.names []) = cl0 at I4 ⊢
  have pg := hg { s2 with heap := h3 } H3 h3.objs.size cl0 fp; have pt := ht { s2 with heap := h3 } H3 h3.objs.size cl0 fp; have pm := hm { s2 with heap := h3 } H3 h3.objs.size cl0 fp
  show codeAny _ _ (.compStart CE 0 (.ref it) (.ref D) (compEnvC scope cl0 h3.objs.size X.env)) (compPost (model X.prog X.w) X.A X.xe use Qf (.ref D) h3.objs.size) { s2 with heap := pushCells (h3.push { cls := .type "dict", data := .dict #[] }) scope.names }
  have eL : (compEnvC scope cl0 h3.objs.size X.env).locals = h3.objs.size := rfl
  generalize compEnvC scope cl0 h3.objs.size X.env = ce at I4 pg pt pm eL ⊢
  have st4 : tn 0 (pushCells (h3.push { cls := .type "dict", data := .dict #[] }) scope.names) := T.keep _ _ _ st3 fun b _ o e => pushCells_keeps _ _ _ _ (Heap.get?_push_of_some _ e)
  generalize hs4 : ({ s2 with heap := pushCells (h3.push { cls := .type "dict", data := .dict #[] }) scope.names } : Shared) = s4 at I4 ⊢
  have st4 : tn 0 s4.heap := by rw [← hs4]; exact st4
  have still : ∀ {σ' : L2.St} {H' : Hp} {s' : Shared}, L2.Inv (X.blk { s2 with heap := h3 } H3 scope ce fp) [] σ' H' s' → (∀ b ∈ fp, H' b = none) → ∀ b ∈ fp, FpOk (X.blk { s2 with heap := h3 } H3 scope ce fp) [] H' b := fun {σ' H' s'} I' hn b hb =>
    ⟨hn b hb, (I'.ok.exf b hb).1, I'.ok.exfs b hb, .inl hb, fun x c e => (I'.ok.exf b hb).2 x c e, fun p hp => absurd (show p ∈ ([] : List (Addr × Obj)) ++ [] from hp) (by simp)⟩
  have walk : codeAny (model X.prog X.w) X.A (.compLoop CE 0 (.ref it) (.ref D) ce) (compPost (model X.prog X.w) X.A X.xe use Qf (.ref D) h3.objs.size) s4 := by
    refine ga.loop _ it D ce (fun n s' => ∃ i H', L2.Inv (X.blk { s2 with heap := h3 } H3 scope ce fp) [] (wipe σ (own.map (·.2))) H' s' ∧ tn i s'.heap ∧ (∀ b ∈ fp, H' b = none) ∧ W i n H') ?_ m0 s4 ⟨0, H3, I4, st4, fun b hb => (f3 b hb).1.1, w0⟩
    rintro n s5 ⟨i, H5, I5, st5, n5, w5⟩
    unfold mTurn
    rcases turn i n H5 w5 with ⟨stop, qq⟩ | ⟨go, Nx, hNx, step⟩
    · refine thnF (T.done (X.blk { s2 with heap := h3 } H3 scope ce fp) rfl rfl rfl hc i [] s5 _ H5 noX I5 (still I5 n5) st5 stop) fun r s6 ⟨hr, I6⟩ => ?_
      subst hr
      have I7 : L2.Inv X pins σ H5 s6 := I3.call' (ch := fp) I6.os I6.base I6.hok I6.bare fun b hb => ⟨(f3 b hb).1.2.2.2.1, (f3 b hb).1.2.1, (f3 b hb).1.2.2.2.2.1, (f3 b hb).1.2.2.2.2.2⟩
      have nC : H5 h3.objs.size = none := eL ▸ (show H5 ce.locals = none from I6.free)
      obtain ⟨mm, hn, _⟩ := I6.loc
      have hn : s6.heap.Ns ce.locals mm := hn
      rw [eL] at hn
      exact hRR D h3.objs.size s6 mm H5 I7 qq hn (I3.fpOk (Nat.le_refl _) nC)
    · refine thnF (T.item (X.blk { s2 with heap := h3 } H3 scope ce fp) rfl rfl rfl hc i [] s5 _ H5 noX I5 (still I5 n5) st5 go) fun r s6 ⟨u, hr, h6⟩ => ?_
      subst hr
      refine thnF h6 fun _ s7 ⟨x, H7, I7, r7, y7, st7, n7⟩ => ?_
      have I8 := I7.pinned (still I7 n7) (T.obj _ _ st7)
      refine thnF (pg.run _ s7 _ H7 x u _ I8 r7 (step x H7 y7)) fun _ s8 ⟨σ8, H8, I9, hw8, q8⟩ => ?_
      refine thnF (pt.run _ s8 σ8 H8 _ I9 q8) fun b s9 ⟨H9, I10, q9⟩ => ?_
      have over : ∀ (s' : Shared) (H' : Hp), L2.Inv (X.blk { s2 with heap := h3 } H3 scope ce fp) ([] ++ pinsAt fp s7.heap) σ8 H' s' → Nx H' → ∃ m, m < n ∧ ∃ i H', L2.Inv (X.blk { s2 with heap := h3 } H3 scope ce fp) [] (wipe σ (own.map (·.2))) H' s' ∧ tn i s'.heap ∧ (∀ b ∈ fp, H' b = none) ∧ W i m H' := fun s' H' I' nx => by
        obtain ⟨m', hm', w'⟩ := hNx H' nx
        have pinned : ∀ b ∈ fp, ∀ o, s7.heap.get? b = some o → s'.heap.get? b = some o ∧ H' b = none := fun b hb o e => let z := I'.pin (b, o) (List.mem_append_right _ (List.mem_append_right _ (mem_pinsAt hb e))); ⟨z.1, z.2.1⟩
        refine ⟨m', hm', i + 1, H', (I'.unpinned (pins := [])).weak (by rw [← hw8, wipe_length]) (fun j v e => ?_), T.keep _ _ _ st7 fun b hb o e => (pinned b hb o e).1, fun b hb => ?_, w'⟩
        · rw [← hw8] at e
          exact (wipe_some e).1
        · obtain ⟨o, e, _⟩ := T.obj _ _ st7 b hb
          exact (pinned b hb o e).2
      cases b with
      | false =>
        simp only [Bool.false_eq_true, if_false] at q9 ⊢; exact over _ _ I10 q9
      | true =>
        simp only [if_true] at q9 ⊢; exact pm _ s9 σ8 H9 D Nx _ I10 q9 fun s' H' I' nx => over s' H' I' nx
  exact ga.start _ it D ce s4 walk (T.self X.A 0 _ _ _ st4 walk)

theorem ps_setDc {i : Nat} {y : Str} {py : Pos} {kx vx tg iter : Expr} {ifs : List Expr} {scope : Scope} {own : List (Str × Nat)} {pos spos : Pos} {wi : TI} {g : TG} {tt : TT} {tm : TM} {o0 : Addr → HO} {em : Env → Addr → Shared → (Shared → Prop) → Prop} (hc : X.calm = true) (hN : X.N.Nodup) (hy : X.N[i]? = some y) (hyl : X.env.scope.names.lookup y = some .local)
    (hsw : swapsWith (.DictComp kx vx [⟨tg, iter, ifs, 0⟩] scope pos) (some (.Name y py)) spos.line X.env = pure true) (hi : PI X tg iter wi) (ok : BlkOk X.N X.env.scope scope own) (ga : Gath X.prog X.w X.A (.DictComp kx vx [⟨tg, iter, ifs, 0⟩] scope pos) tg ifs newDict o0 em)
    (hg : ∀ (s : Shared) (H : Hp) (C : Addr) (cl : List (Str × Addr)) (fp : List Addr), PG (X.blk s H scope (compEnvC scope cl C X.env) fp) tg g) (ht : ∀ (s : Shared) (H : Hp) (C : Addr) (cl : List (Str × Addr)) (fp : List Addr), PTs (X.blk s H scope (compEnvC scope cl C X.env) fp) ifs tt)
    (hm : ∀ (s : Shared) (H : Hp) (C : Addr) (cl : List (Str × Addr)) (fp : List Addr), Reads (X.blk s H scope (compEnvC scope cl C X.env) fp) em tm) (hs : ∀ x, foldedSetIterable iter X.env x = pure x := by intro _; rfl) :
    PS X (.Assign [.Name y py] (.DictComp kx vx [⟨tg, iter, ifs, 0⟩] scope pos) spos) (tAsg (tGa wi g tt tm o0 (own.map (·.2))) (gName i)) := by
  refine ⟨fun pins s σ H D I h => ?_⟩
  rw [exec_Assign_Name_used _ _ _ _ hsw]
  refine wpAny_bind (wpAny_standAt (wpAny_bind ?_))
  show wpAny _ X.A (do let _ ← comprehension (.DictComp kx vx [⟨tg, iter, ifs, 0⟩] scope pos) scope X.env (firstIterPos [⟨tg, iter, ifs, 0⟩] pos) newDict false (eval iter X.env) (some (assign (.Name y py) X.env))) _ _ s
  have h : tGa wi g tt tm o0 (own.map (·.2)) σ H (fun x H1 => gName i x σ H1 D.nx) := h
  refine wpAny_bind (thn (ga_core (Qf := fun _ s' => SP X pins D .next s') hc I hN hi ok ga rfl hg ht hm hs h fun L C s' m H' I' q hn f => ?_) fun _ s' hq => wpAny_pure (wpAny_pure hq))
  show wpAny _ _ (assign (.Name y py) X.env (.ref L)) _ _ _
  refine wpAny_assign_Name (store_ok2 (v := V.ref L) I' hN hy (.inl hyl) rfl (fun s2 I2 ⟨a, sb, ha⟩ => ?_) (.inr hyl))
  obtain ⟨f0, f1, f2, f3, f4, f5⟩ := f
  have haC : C ≠ a := by
    rcases ha with z | z
    · rw [z]; exact f1
    · exact fun e => f4 y a z e.symm
  refine ⟨m, hn.sameBut sb haC, fun h3 sb3 => ?_⟩
  exact ⟨_, H', I2.turned (t' := s2.toks) (fun b o hb e => (sb3.2 b hb).trans e) f0 f1 f3 f4 f5, q⟩
theorem sw_dict {kx vx : Expr} {gs : List Comprehension} {scope : Scope} {pos py : Pos} {y : Str} {l : Nat} {env : Env} (hk : env.scope.kind = .function) (hy : env.scope.names.lookup y = some .local) (hl : (py.line == pos.line) = true)
    (ha : (scope.names.any fun (n, k) => n == y && (k == .local || k == .cell)) = false) : swapsWith (.DictComp kx vx gs scope pos) (some (.Name y py)) l env = pure true := by
  have ky : env.kindOf y = some .local := hy
  have hb : env.blockKind = .function := by unfold Env.blockKind; rw [hk]; rfl
  unfold swapsWith
  simp only [hb, ky, ha, Expr.pos, hl]
  rfl
end
section
variable {X : Cx} {ss : List Sl} {kx vx tg iter : Expr} {scope : Scope} {α β κ : Type} [DecidableEq κ] {Te : β → S} {U : κ → S} [hN : KeyN U] [hR : KeyR U] {T : α → S} {xs : List β} {pos : Pos} {g : TG} {k : Nat}
/-- what the loop of {k: v for ..} does -/
structure DcG (X : Cx) (ss : List Sl) (tg iter : Expr) (scope : Scope) (g : TG) (vs : List Nat) (tm : TM) (o : O) : Prop where
  go : ∀ (B : Bs) (F H : Hp) (σ : L2.St), Sat B F H σ ss → ∀ Q : VK,
    (∀ p F' H' k, Grow F H F' H' → (∀ a ob, k a = some ob → H a = none ∧ (F' a = none ∨ IsT ob) ∧ H' a = some ob) → o.r F' k p → Q (.ref p) H') → tGa (wpI X tg iter) g (ttB X scope []) tm (fun D => dNo X.w D []) vs σ H Q
theorem dc_any {b : Bool} {vs : List Nat} (st : β → List Sl) (fk : β → κ) (fv : β → α) (hi : EvI b X ss tg iter Te xs) (hl : xs.length < sizeLine) (hg : ∀ x, GTw g (Te x) vs ss (st x))
    (hk : ∀ (i : Nat) x, xs[i]? = some x → BlkE X scope (st x) kx (sv (U (fk x)))) (hv : ∀ (i : Nat) x, xs[i]? = some x → BlkE X scope (st x) vx (sv (T (fv x)))) :
    DcG X ss tg iter scope g vs (tmD X.w U T (teB X scope kx) (teB X scope vx)) (oDN X.w U T (dcAll fk fv xs)) := .mk fun B F H σ hS Q q => by
  refine hi.any.go B F H σ hS _ fun J F1 H1 G Y g1 w hG hY => fun D nD => ?_
  have h1 := hS.grow g1
  have nt : ∀ l, ¬ IsT (dNo X.w D l) := fun _ => dNo_nt
  have hlen : ∀ i, (dcAll fk fv (xs.take i)).length ≤ xs.length := fun i => by
    have h1 := dcAll_len fk fv (xs.take i)
    rw [List.length_take] at h1
    omega
  refine ⟨fun i m H => m = xs.length - i ∧ i ≤ xs.length ∧ DcPv X.w U T F1 H1 D (dcAll fk fv (xs.take i)) H, ⟨_, rfl, Nat.zero_le _, F1, [], .new g1.s nD, g1.s.free nD, upd_same, .nil⟩, ?_⟩
  rintro i m H2 ⟨rfl, hile, F2, ws, gg, fD, hD, hw⟩
  have hG2 := hG F2 H2 gg.f gg.s fun _ => gg.h
  by_cases hlt : i < xs.length
  · refine .inr ⟨w.goes i H2 hlt hG2, fun H' => DcPv X.w U T F1 H1 D (dcAll fk fv (xs.take (i + 1))) H', fun H' z => ⟨_, by omega, rfl, hlt, z⟩, fun x H3 y => ?_⟩
    obtain ⟨F3, z, g3, hz, rz⟩ := hY i F2 H2 x H3 hlt gg.f gg.s (fun _ => gg.h) (w.yields i H2 x H3 hlt hG2 y)
    have gA := gg.trans g3
    have fD3 := grow_none g3 fD hD (nt _)
    have hD3 := g3.h.c hD
    refine hg z B F3 H3 σ x _ (h1.grow gA) rz fun σ2 hs2 hwp => ⟨hwp, fun s0 H0 C cl fp => ets_nil.go B F3 H3 _ hs2 _ fun F4 H4 g4 => ?_⟩
    rw [if_pos rfl]
    have fD4 := grow_none g4 fD3 hD3 (nt _)
    have hD4 := g4.h.c hD3
    refine fun s1 H01 C1 cl1 fp1 => (hk i z hz s1 H01 C1 cl1 fp1).go B F4 H4 _ (hs2.grow g4) _ fun ky F5 H5 g5 rk => fun s2 H02 C2 cl2 fp2 => (hv i z hz s2 H02 C2 cl2 fp2).go B F5 H5 _ ((hs2.grow g4).grow g5) _ fun vy F6 H6 g6 rv => ?_
    have g56 := g5.trans g6
    have gB := (gA.trans g4).trans g56
    have fD6 := grow_none g56 fD4 hD4 (nt _)
    have hD6 := g56.h.c hD4
    obtain ⟨p, ep⟩ := hR.ref rk
    subst ep
    have rk6 := (U (fk z)).mono g6.f rk
    have hw6 := ((hw.mono g3.f).mono g4.f).mono g56.f
    refine ⟨F6, p, ws, _, fk z, gB.s, rfl, rk6, hD6, hw6, by rw [hw.len]; exact Nat.lt_of_le_of_lt (hlen i) hl, F6, _, ⟨gB.f, gB.h.put nD hD6, gB.s.put fD6 hD6, gB.n⟩, fD6, upd_same, by rw [dcAll_take hz]; exact hw6.put rk6 rv⟩
  · obtain rfl : i = xs.length := by omega
    rw [List.take_length] at hw
    exact .inl ⟨w.stops H2 hG2, q D F2 H2 (hp1 D (dNo X.w D ws)) (g1.trans gg) (fun a ob ea => by
      obtain ⟨rfl, rfl⟩ := hp1_some ea
      exact ⟨g1.h.free nD, .inl fD, hD⟩) ⟨ws, hp1_same, hw⟩⟩
/-- name = {k: v for ..} on one line, the name a local -/
theorem s_asgDc {own : List (Str × Nat)} {y : Str} {py spos : Pos} {D : Ds} {b : Bool} (i : Nat) (st : β → List Sl) (fk : β → κ) (fv : β → α) (hr : Room k X.A) (hi : EvI b X ss tg iter Te xs) (hl : xs.length < sizeLine) (hg : ∀ x, GTw g (Te x) (own.map (·.2)) ss (st x))
    (hk : ∀ (i : Nat) x, xs[i]? = some x → BlkE X scope (st x) kx (sv (U (fk x)))) (hv : ∀ (i : Nat) x, xs[i]? = some x → BlkE X scope (st x) vx (sv (T (fv x))))
    (hc : X.calm = true) (hN : X.N.Nodup) (ok : blkC X.N X.env.scope scope own = true)
    (hpg : ∀ (s : Shared) (H : Hp) (C : Addr) (cl : List (Str × Addr)) (fp : List Addr), PG (X.blk s H scope (compEnvC scope cl C X.env) fp) tg g)
    (k : D.nx (ss.set i (.own (oDN X.w U T (dcAll fk fv xs))))) (hdp : KeyN.dep U ≤ 8 := by decide) (hy : X.N[i]? = some y := by rfl) (hyl : X.env.scope.names.lookup y = some .local := by rfl)
    (hsw : swapsWith (.DictComp kx vx [⟨tg, iter, [], 0⟩] scope pos) (some (.Name y py)) spos.line X.env = pure true := by exact sw_dict rfl rfl rfl (by decide +kernel))
    (hs : ∀ x, foldedSetIterable iter X.env x = pure x := by intro _; rfl) : EvS X ss (.Assign [.Name y py] (.DictComp kx vx [⟨tg, iter, [], 0⟩] scope pos) spos) D := .mk fun B F H σ hS tk =>
  toS (ps_setDc (i := i) (own := own) (g := g) (tt := ttB X scope []) (tm := tmD X.w U T (teB X scope kx) (teB X scope vx)) (o0 := fun D => dNo X.w D []) hc hN hy hyl hsw PIw (blkOk_by ok) gath_dict hpg PTsb (fun s0 H0 C cl fp => reads_dict (X := X.blk s0 H0 scope (compEnvC scope cl C X.env) fp) rfl hr hdp (PEb s0 H0 C cl fp) (PEb s0 H0 C cl fp)) hs)
    ((dc_any st fk fv hi hl hg hk hv).go B F H σ hS _ fun p F' H' c g n r => ⟨F', _, hS.setO g n r, k⟩)
end
/-! ### a call whose first argument raises -/
section
variable {X : Cx} {ss : List Sl} {a : Expr} {es : List Expr} {pos p : Pos} {ex : Xo → List Sl → Prop}
theorem er_callX1 {x : Str} {Φ : List S → Rs → Prop} {j k : Nat} (C : CalleeX X.prog X.w X.K X.mg X.base j x Φ) (hr : Room k X.A) (ha : EvR X ss a ex) (hj : j ≤ k := by decide) (hg : Gl X x := by rfl)
    (hdb : (x == ("__debug__" : Str)) = false := by decide) (he : starEach (a :: es) X.env = (false, eval a X.env) :: starEach es X.env := by exact star_ok rfl) (hpl : (backTo pos (starEach es X.env)).any (·.1) = false := by rfl) :
    EvR X ss (.Call (.Name x p) (a :: es) [] pos) ex := .mk fun B F H σ h tk Q => by
  obtain ⟨f, fd, ps, G, hm, hk, hb⟩ := C.ex
  refine toE (pe_call G (hr.mono hj) hg hm hk hb .nil passL (pa_cons PEw PAw he) hdb he hpl) ?_
  exact ha.go B F H σ h tk _
end
end Sx
namespace Sx
variable [Tbs]
open PySem PySem.Spec PyProof.Rows L2
/-! ### lists of the same objects -/
section
variable {α : Type} {T : α → S}
/-- what is known, and which value it is -/
def sAt (T : α → S) (p : α × V) : S := ⟨fun F v => v = p.2 ∧ (T p.1).r F v, fun e ⟨a, b⟩ => ⟨a, (T p.1).mono e b⟩⟩
theorem its_at {F : Hp} : ∀ {xs : List α} {vs : List V}, Its T F xs vs → ∃ l : List (α × V), l.map (·.1) = xs ∧ l.map (·.2) = vs ∧ Its (sAt T) F l vs
  | [], vs, h => by
    have e : vs = [] := List.eq_nil_of_length_eq_zero h.len
    subst e
    exact ⟨[], rfl, rfl, .nil⟩
  | x :: xs, vs, h => by
    have h' : Paired (fun x v => (T x).r F v) (x :: xs) vs := h
    cases h' with
    | cons r t =>
      obtain ⟨l, e1, e2, q⟩ := its_at (show Its T F _ _ from t)
      exact ⟨(x, _) :: l, by rw [List.map_cons, e1], by rw [List.map_cons, e2], .cons ⟨rfl, r⟩ q⟩
theorem its_un {F : Hp} {l : List (α × V)} {vs : List V} (h : Its (sAt T) F l vs) : Its T F (l.map (·.1)) vs ∧ l.map (·.2) = vs := by
  induction l generalizing vs with
  | nil =>
    have e : vs = [] := List.eq_nil_of_length_eq_zero h.len
    subst e
    exact ⟨.nil, rfl⟩
  | cons x l ih =>
    have h' : Paired (fun x v => (sAt T x).r F v) (x :: l) vs := h
    cases h' with
    | cons r t =>
      obtain ⟨a, b⟩ := ih (show Its (sAt T) F _ _ from t)
      exact ⟨.cons r.2 a, by rw [List.map_cons, b, r.1]⟩
theorem lst_at {xs : List α} (hT : ∀ x F v, (T x).r F v → ∃ a, v = .ref a) {F : Hp} {v : V} (h : (sLst T xs).r F v) : (sEx (fun l : List (α × V) => l.map (·.1) = xs ∧ ∀ p ∈ l, ∃ a, p.2 = .ref a) (sLst (sAt T))).r F v := by
  obtain ⟨p, k, e, hk, vs, hp, hi⟩ := h
  obtain ⟨l, e1, e2, q⟩ := its_at hi
  refine ⟨l, ⟨e1, fun z hz => ?_⟩, p, k, e, hk, vs, hp, q⟩
  obtain ⟨i, hi', rfl⟩ := List.getElem_of_mem hz
  obtain ⟨w, hw, r⟩ := q.at (List.getElem?_eq_getElem hi')
  obtain ⟨a, ea⟩ := hT _ _ _ r.2
  exact ⟨a, by rw [← r.1, ea]⟩
theorem at_lst {xs : List α} {l : List (α × V)} (e : l.map (·.1) = xs) {F : Hp} {v : V} (h : (sLst (sAt T) l).r F v) : (sLst T xs).r F v := by
  subst e
  obtain ⟨p, k, e, hk, vs, hp, hi⟩ := h
  exact ⟨p, k, e, hk, vs, hp, (its_un hi).1⟩
theorem at_tup {xs : List α} {l : List (α × V)} (e : l.map (·.1) = xs) {F : Hp} {v : V} (h : (sTup (sAt T) l).r F v) : (sTup T xs).r F v := by
  subst e
  obtain ⟨p, k, e, hk, vs, hp, hi⟩ := h
  exact ⟨p, k, e, hk, vs, hp, (its_un hi).1⟩
end
section
variable {X : Cx}
/-- two lists of the same objects -/
def rNeAt (K : PySem.W.Frag) : R2 := fun x y H Q => ∃ a b vs, x = .ref a ∧ y = .ref b ∧ SqL K H a vs ∧ SqL K H b vs ∧ (∀ v ∈ vs, ∃ c, v = .ref c) ∧ Q (.bl false) H
omit [Tbs] in
theorem vals_ref : ∀ {vs : List V} {us ws : List Value}, (∀ v ∈ vs, ∃ c, v = .ref c) → Vals vs us → Vals vs ws → us = ws
  | [], _, _, _, .nil, .nil => rfl
  | v :: vs, _, _, h, .cons r t, .cons r2 t2 => by
    obtain ⟨c, rfl⟩ := h v List.mem_cons_self
    rw [show _ = Value.ref c from r, show _ = Value.ref c from r2, vals_ref (fun v hv => h v (List.mem_cons_of_mem _ hv)) t t2]
omit [Tbs] in
theorem op_neAt (hu : X.A.units < cLine) : OpR X (compareOp .NotEq) (rNeAt X.K) := by
  intro pins s σ H x y v u Q I rx ry h
  obtain ⟨a, b, vs, rfl, rfl, h1, h2, hr, q⟩ := h
  obtain ⟨its, r1, p1, _⟩ := I.list h1
  obtain ⟨its2, r2, p2, _⟩ := I.list h2
  have e := vals_ref hr r1 r2
  subst e
  obtain rfl : v = Value.ref a := rx
  obtain rfl : u = Value.ref b := ry
  have L : ∀ {a : Addr}, PlainL s.heap a its.toArray → s.heap.IsList a its.toArray := fun ⟨o, n, ho, hc, _, hd⟩ => ⟨o, ho, hc, n, hd⟩
  have z := SeqAt.RcNeAt.lists (A := X.A) (s := s) (e := fun _ => true) (L p1) (L p2) rfl hu (fun j _ _ => SeqAt.EqAt.same _)
  refine z X.prog X.w _ _ ?_
  have e0 : (List.range its.toArray.size).all (fun _ => true) = true := by simp
  rw [e0]
  exact ⟨.bl _, H, I, rfl, q⟩
end
section
variable {X : Cx} {ss : List Sl} {a b : Expr} {pos : Pos} {k : Nat} {α : Type} {T : α → S} {l : List (α × V)}
theorem et_neAt (hr : Room k X.A) (ha : EvE X ss a (sv (sLst (sAt T) l))) (hb : EvE X ss b (sv (sLst (sAt T) l))) (hl : ∀ p ∈ l, ∃ c, p.2 = .ref c) : EvT X ss (.Compare a [.NotEq] [b] pos) false :=
  ev_cmpT (op_neAt (Nat.lt_of_le_of_lt (Nat.le_add_right _ 64) hr.units)) ha hb (fun F H v w Q sF rx ry q => by
    obtain ⟨p1, k1, e1, hk1, vs1, hp1, hi1⟩ := rx
    obtain ⟨p2, k2, e2, hk2, vs2, hp2, hi2⟩ := ry
    have z1 := (its_un hi1).2
    have z2 := (its_un hi2).2
    rw [← z1] at hp1
    rw [← z2] at hp2
    refine ⟨p1, p2, l.map (·.2), e1, e2, SqL.of (sF _ _ (hk1 _ _ hp1)), SqL.of (sF _ _ (hk2 _ _ hp2)), fun v hv => ?_, q⟩
    obtain ⟨x, hx, rfl⟩ := List.mem_map.mp hv
    exact hl x hx) (nomark _)
end
end Sx
namespace Sx
variable [Tbs]
open PySem PySem.Spec PyProof.Rows L2
/-! ### ranges, as values -/
def oRg (n : Nat) : O := ⟨fun _ h p => h p = some (.rng 0 (n : Int)), fun _ h => h⟩
section
variable {X : Cx} {ss : List Sl} {e a tg : Expr} {pos p : Pos} {n : Nat}
omit [Tbs] in
theorem cr_range1 : CallR X (.type "range") (fun vs H Q => ∃ j, vs = [V.int j] ∧ ∀ p, H p = none → Q (.ref p) (upd H p (.rng 0 j))) := by
  intro pins s σ H vs us Q I r h
  obtain ⟨j, rfl, q⟩ := h
  cases r with
  | cons rj rr =>
    cases rr
    obtain ⟨t, rfl⟩ := rj
    refine call_range_1 ⟨.ref s.heap.objs.size, upd H s.heap.objs.size (.rng 0 j), I.laid (t' := s.toks + 1 + 1) (fun b o e => Heap.get?_push_of_some _ e) (Nat.le_refl _) ?_, rfl, q _ (I.hok.fresh (Nat.le_refl _))⟩
    exact ⟨s.toks, t, s.toks + 1, Heap.get?_push_size _ rfl⟩
/-- range(n) -/
theorem ev_rg (hm : X.mg "range" = none) (ha : EvE X ss a (sv (sNat n))) (hg : Gl X "range" := by rfl) (he : starEach [a] X.env = (false, eval a X.env) :: starEach [] X.env := by exact star_ok rfl) (hpl : (backTo pos (starEach [] X.env)).any (·.1) = false := by rfl) : EvN X ss (.Call (.Name "range" p) [a] [] pos) (oRg n) :=
  ev_ctN cr_range1 hm (by decide +kernel) (ea_cons ha ea_nil he) (fun F H vs Q sF rs q => by
    cases rs with
    | cons r t =>
      cases t
      have e1 : _ = V.int (n : Int) := r
      subst e1
      exact ⟨_, rfl, fun p np => q p _ np hp1_same⟩) hg (he := he) (hpl := hpl)
theorem ei_rg (hn : n ≤ 16777216) (he : EvE X ss e (sv (sO (oRg n)))) : EvI false X ss tg e sNat (List.range n) := .mk fun B F H σ h Rr q => by
  intro pins s1 inv
  refine thn (he.go B F H σ h (fun v H' => ∃ F', Grow F H F' H' ∧ (sO (oRg n)).r F' v) (fun v F' H' g r => ⟨F', g, r⟩) pins s1 inv) fun u s3 ⟨v, H1, I3, rv, F1, g1, r1⟩ => ?_
  obtain ⟨d, c, ev, hk, hd⟩ := r1
  subst ev
  obtain rfl : u = Value.ref d := rv
  obtain ⟨t1, t2, t3, ho⟩ := I3.hok d _ (g1.s _ _ (hk _ _ hd))
  refine wpAny_pyIter_range (show IsRange s3.heap d 0 (n : Int) 1 t1 t2 t3 from ho) (small_one (by omega) (by omega) (by omega) (by omega)) ?_
  refine ⟨s3.heap.objs.size, [s3.heap.objs.size], _, _, H1, rfl, I3.kept (t' := s3.toks) fun b o e => Heap.get?_push_of_some _ e, turn_range _ 0 n, ?_, fun b hb => ?_, ?_⟩
  · have e1 : (0 : Int) + ((0 : Nat) : Int) * 1 = 0 := by simp
    have e2 : ((n : Nat) : Int) - ((0 : Nat) : Int) = Builtin.Range.rangeSize 0 (n : Int) 1 := by rw [rangeSize_one]; split <;> omega
    show IsRangeIter _ _ ((0 : Int) + ((0 : Nat) : Int) * 1) (((n : Nat) : Int) - ((0 : Nat) : Int)) 1
    rw [e1, e2]
    exact Heap.get?_push_size _ rfl
  · have e : b = s3.heap.objs.size := by simpa using hb
    subst e
    exact I3.fpOk (Nat.le_refl _) (I3.hok.fresh (Nat.le_refl _))
  · refine q (Itr 0 n) F1 H1 (fun _ => True) (YFn fun i => .int (0 + i)) g1 (by rw [List.length_range]; exact walk_range) (fun F2 H2 _ _ _ => trivial) fun i F2 H2 v H3 hi a b _ y => ?_
    rw [List.length_range] at hi
    obtain ⟨rfl, rfl⟩ := y
    exact ⟨F2, i, .refl b, List.getElem?_range hi, by show V.int (0 + (i : Int)) = V.int (i : Int); rw [Int.zero_add]⟩
/-- an attribute of what raises -/
theorem er_attr {f : Str} {ex : Xo → List Sl → Prop} (ha : EvR X ss e ex) (hb : attributeBase e f X.env (eval e X.env) = eval e X.env := by rfl) : EvR X ss (.Attribute e f pos) ex := .mk fun B F H σ h tk Q =>
  toE (pe_fld PEw hb) (ha.go B F H σ h tk _)
end
end Sx
namespace Sx
variable [Tbs]
open PySem PySem.Spec PyProof.Rows L2
/-! ### dict(pairs), d.get(k), list(d), keys with None -/
section
variable {κ α : Type} [DecidableEq κ] [KeyF κ] {U : κ → S} {T : α → S} {kvs : List (κ × α)}
def mergeP (kvs : List (κ × α)) : List (κ × α) := kvs.foldl (fun d kv => pK d kv.1 kv.2) []
omit [KeyF κ] in
theorem mergeF_nd : ∀ {l acc : List (κ × α)}, ((acc ++ l).map (·.1)).Nodup → l.foldl (fun d kv => pK d kv.1 kv.2) acc = acc ++ l
  | [], acc, _ => by simp
  | kv :: l, acc, h => by
    have hn : kv.1 ∉ acc.map (·.1) := fun q => by
      rw [List.map_append, List.map_cons, List.nodup_append] at h
      exact h.2.2 _ q _ List.mem_cons_self rfl
    rw [List.foldl_cons, pK_new hn, mergeF_nd (by simpa using h)]
    simp
omit [KeyF κ] in
theorem mergeP_nd (h : (kvs.map (·.1)).Nodup) : mergeP kvs = kvs := by
  unfold mergeP
  rw [mergeF_nd (by simpa using h)]
  rfl
theorem kfr_merge {F : Hp} : ∀ {l acc : List (κ × α)} {ws kws : List (Key × V)}, KfR T F acc ws → Paired (fun (a : κ × α) (b : Key × V) => (b.1 = KeyF.enc a.1 ∧ KeyF.good a.1) ∧ (T a.2).r F b.2) l kws → KfR T F (l.foldl (fun d kv => pK d kv.1 kv.2) acc) (mergeK ws kws)
  | _, _, _, _, h, .nil => h
  | a :: l, acc, ws, b :: kws, h, .cons r t => by
    obtain ⟨k, v⟩ := b
    obtain ⟨⟨e, g⟩, rv⟩ := r
    have e' : k = KeyF.enc a.1 := e
    subst e'
    have z : KfR T F (pK acc a.1 a.2) (putK ws (KeyF.enc a.1) v) := h.put g rv
    exact kfr_merge (l := l) (acc := pK acc a.1 a.2) (ws := putK ws (KeyF.enc a.1) v) (kws := kws) z t
theorem pairs_at [hU : KeyFS U] {K : PySem.W.Frag} {F H : Hp} (sF : Sm F H) : ∀ {l : List (κ × α)} {vs : List V}, Its (sPair U T) F l vs → ∃ (ps : List Addr) (kws : List (Key × V)), vs = ps.map V.ref ∧ Paired (fun p (kv : Key × V) => SqT K H p [kV kv.1, kv.2]) ps kws ∧ Paired (fun (a : κ × α) (b : Key × V) => (b.1 = KeyF.enc a.1 ∧ KeyF.good a.1) ∧ (T a.2).r F b.2) l kws
  | [], vs, h => by
    have e : vs = [] := List.eq_nil_of_length_eq_zero h.len
    subst e
    exact ⟨[], [], rfl, .nil, .nil⟩
  | a :: l, vs, h => by
    have h' : Paired (fun x v => (sPair U T x).r F v) (a :: l) vs := h
    cases h' with
    | cons r t =>
      obtain ⟨ps, kws, e, h1, h2⟩ := pairs_at sF (show Its (sPair U T) F _ _ from t)
      obtain ⟨q, c, eq, hk, ws, hq, hi⟩ := r
      obtain ⟨x, y, rfl, rx, ry⟩ := its2 hi
      obtain ⟨ex, g⟩ := hU.to_ rx
      subst ex
      exact ⟨q :: ps, (KeyF.enc a.1, y) :: kws, by rw [eq, e]; rfl, .cons (SqT.of (sF _ _ (hk _ _ hq))) h1, .cons ⟨⟨rfl, g⟩, ry⟩ h2⟩
end
section
variable {X : Cx} {ss : List Sl} {e a b : Expr} {pos p : Pos} {k : Nat} {ρ : R} {κ α : Type} [DecidableEq κ] [KeyF κ] {U : κ → S} {T : α → S} {kvs : List (κ × α)} {key : κ}
/-- dict(pairs) -/
theorem ev_dictPr [hU : KeyFS U] [hq : AsLs X.K ρ (sPair U T) kvs] (hc : X.calm = true) (hm : X.mg "dict" = none) (ha : EvE X ss a ρ) (hg : Gl X "dict" := by rfl) (he : starEach [a] X.env = (false, eval a X.env) :: starEach [] X.env := by exact star_ok rfl) (hpl : (backTo pos (starEach [] X.env)).any (·.1) = false := by rfl) :
    EvN X ss (.Call (.Name "dict" p) [a] [] pos) (oDK T (mergeP kvs)) :=
  ev_ctN (call_dictP hc) hm (by decide +kernel) (ea_cons ha ea_nil he) (fun F H vs Q sF rs q => by
    cases rs with
    | cons r rr =>
      cases rr
      obtain ⟨d, vs, rfl, hd, hw⟩ := hq.w F H _ sF r
      obtain ⟨ps, kws, rfl, h1, h2⟩ := pairs_at (K := X.K) sF hw
      exact ⟨d, ps, kws, rfl, hd, h1, fun l hl => q l _ hl ⟨_, hp1_same, kfr_merge (ws := []) .nil h2⟩⟩) hg (he := he) (hpl := hpl)
/-- d.get(k) -/
theorem ev_dget1K {apos cpos : Pos} [hU : KeyFS U] [hq : AsDK ρ T kvs] (hr : Room k X.A) (hb : EvE X ss b ρ) (ha : EvE X ss a (sv (U key)))
    (hbase : attributeBase b "get" X.env (eval b X.env) = eval b X.env := by rfl)
    (hfew : ((backTo cpos (starEach [a] X.env)).all (fun x => !x.1) && (backToKw cpos (keywordEach [] X.env)).all (fun x => x.1.isSome) && decide (([a] : List Expr).length + ([] : List Keyword).length + (if ([] : List Keyword).isEmpty then 0 else 1) < 30)) = true := by rfl)
    (hline : (apos.endLine == cpos.line) = true := by rfl) (htr : backTo cpos (starEach [a] X.env) = [(false, eval a X.env)] := by rfl) :
    EvE X ss (.Call (.Attribute b "get" apos) [a] [] cpos) (sv (sOpt T (gK kvs key))) := .mk fun B F H σ h Q q =>
  toE (pe_dget1 (hu_of hr) PEw PEw ⟨hbase, hfew, hline, htr⟩) (hb B F H σ h _ fun w F1 H1 g1 r1 => by
    obtain ⟨d, ws, rfl, hd, hw⟩ := hq.w _ _ _ g1.s r1
    refine ⟨d, rfl, .inl ⟨ws, hd⟩, ha B F1 H1 σ (h.grow g1) _ fun v F2 H2 g2 r2 => ?_⟩
    obtain ⟨rfl, _⟩ := hU.to_ r2
    refine ⟨_, DGet.rk (rd_gr g2.h hd), q _ F2 H2 (g1.trans g2) ?_⟩
    have := hw.get (k := key)
    show (sOpt T _).r F2 _
    cases z : gK kvs key with
    | none => rw [z] at this; rw [this]; rfl
    | some y' => rw [z] at this; obtain ⟨v, hv, rv⟩ := this; rw [hv]; exact (T y').mono g2.f rv)
end
/-! ### list(d), keys of any depth -/
section
variable {X : Cx}
theorem call_listN (hcalm : X.calm = true) : CallR X (.type "list") (fun xs H Q => ∃ (d : Addr) (ws : List Went), xs = [.ref d] ∧ Rd H d (dNo X.w d ws) ∧ ∀ p, H p = none → Q (.ref p) (upd H p (.lst (ws.map fun x => V.ref x.2.1)))) := by
  intro pins s σ H xs us Q I r q
  obtain ⟨d, ws, ex, hd, q⟩ := q
  subst ex
  obtain ⟨u, eu, rx⟩ := vals1 r
  subst eu
  cases rx
  obtain ⟨lo, z, nd, xs, rel, o, es, ep, ho, hc, hdt, he⟩ := dNo_rd I.hok hd
  have hl : ws.length = xs.length := Paired.length rel
  have hs : es.size = xs.length := by
    have := congrArg List.length he
    simpa using this
  refine PySem.W.kdl_call (KdlSrc.rawDict lo) (I.ok.hd hcalm) (show s.heap.DictRaw d es ep from ⟨o, ho, hc, hdt⟩) (by omega) fun h' tk acc c' hk hD hacc => ?_
  have ea : acc.toList = ws.map fun x => Value.ref x.2.1 := by
    refine List.ext_getElem? fun i => ?_
    by_cases hi : i < ws.length
    · have hy : ws[i]? = some ws[i] := List.getElem?_eq_getElem hi
      obtain ⟨y, hx, e1, e2, _⟩ := paired_at rel hy
      have hen : es.toList[i]? = some (⟨y.1.hash X.w, .ref y.2.1, y.2.2⟩ : DictEntry) := by rw [he, List.getElem?_map, hx]; rfl
      have hai : i < acc.size := by rw [hacc.1]; omega
      obtain ⟨hlt, hv⟩ := hacc.2 i acc[i] (Array.getElem?_eq_getElem hai)
      have : es[i] = (⟨y.1.hash X.w, .ref y.2.1, y.2.2⟩ : DictEntry) := by
        rw [Array.getElem?_toList, Array.getElem?_eq_getElem hlt] at hen
        exact Option.some.inj hen
      rw [Array.getElem?_toList, Array.getElem?_eq_getElem hai, hv, this, List.getElem?_map, hy]
      show some (Value.ref y.2.1) = some (Value.ref ws[i].2.1)
      rw [e2]
    · have h1 : acc.toList.length ≤ i := by rw [Array.length_toList, hacc.1]; omega
      have h2 : (ws.map fun x => Value.ref x.2.1).length ≤ i := by rw [List.length_map]; omega
      rw [List.getElem?_eq_none h1, List.getElem?_eq_none h2]
  have hv : Vals (ws.map fun x => V.ref x.2.1) acc.toList := by
    rw [ea]
    clear ea hacc hD z nd rel hl hs q hd he
    induction ws with
    | nil => exact .nil
    | cons x l ih => exact .cons rfl ih
  refine ⟨.ref s.heap.objs.size, upd H s.heap.objs.size (.lst (ws.map fun x => V.ref x.2.1)), I.laid (t' := tk) hk (Nat.le_refl _)
    (show ObjOk X.prog X.w _ _ _ (.lst (ws.map fun x => V.ref x.2.1)) from ⟨by rw [List.length_map]; exact z, acc.toList, c', hv, by rw [Array.toArray_toList]; exact hD⟩), rfl, q _ (I.hok.fresh (Nat.le_refl _))⟩
end
section
variable {X : Cx} {ss : List Sl} {e a : Expr} {pos p : Pos} {ρ : R} {κ α : Type} [DecidableEq κ] {U : κ → S} [hN : KeyN U] {T : α → S} {kvs : List (κ × α)}
theorem knr_refs {F : Hp} : ∀ {kvs : List (κ × α)} {ws : List Went}, KnR U T F kvs ws → Its U F (kvs.map (·.1)) (ws.map fun x => V.ref x.2.1)
  | _, _, .nil => .nil
  | _, _, .cons r t => .cons r.2.1 (knr_refs t)
theorem ev_listDN [hq : AsDN X.w ρ U T kvs] (hc : X.calm = true) (hm : X.mg "list" = none) (ha : EvE X ss a ρ) (hg : Gl X "list" := by rfl) (he : starEach [a] X.env = (false, eval a X.env) :: starEach [] X.env := by exact star_ok rfl) (hpl : (backTo pos (starEach [] X.env)).any (·.1) = false := by rfl) :
    EvN X ss (.Call (.Name "list" p) [a] [] pos) (oLst U (kvs.map (·.1))) :=
  ev_ctN (call_listN hc) hm (by decide +kernel) (ea_cons ha ea_nil he) (fun F H vs Q sF rs q => by
    cases rs with
    | cons r rr =>
      cases rr
      obtain ⟨d, ws, rfl, hd, hw⟩ := hq.w F H _ sF r
      exact ⟨d, ws, rfl, hd, fun l hl => q l _ hl ⟨_, hp1_same, knr_refs hw⟩⟩) hg (he := he) (hpl := hpl)
end
instance {κ : Type} {U : κ → S} [KeyN U] : KeyN (sOpt (sTup U)) where
  enc := fun o => match o with
    | none => .none
    | some ks => .tup (ks.map (KeyN.enc U))
  dep := KeyN.dep U + 1
  depth := fun o => by
    cases o with
    | none => simp [NestedKey.depth]
    | some ks => exact KeyN.depth (U := sTup U) ks
  is := fun {X pins σ F H s o v u} I sF r ru => by
    cases o with
    | none =>
      have e : v = .non := r
      subst e
      obtain rfl : u = Value.none := ru
      exact .none
    | some ks => exact KeyN.is (U := sTup U) I sF r ru
  inj := fun a b e => by
    cases a with
    | none =>
      cases b with
      | none => rfl
      | some b => cases e
    | some a =>
      cases b with
      | none => cases e
      | some b => rw [KeyN.inj (U := sTup U) a b e]
end Sx
namespace Sx
variable [Tbs]
open PySem PySem.Spec PyProof.Rows L2
/-! ### zip, enumerate, also of own lists -/
theorem SqB.gr {b : Bool} {K : PySem.W.Frag} {H H' : Hp} {a : Addr} {xs : List V} (g : Gr H H') (h : SqB b K H a xs) : SqB b K H' a xs := by
  cases b
  · exact SqT.gr g h
  · exact SqL.gr g h
theorem zz_newB (b1 b2 : Bool) (l1 l2 : Addr) (xs ys : Array Value) :
    Meets (Builtin.«zip.__new__» ⟨[.type "zip", .ref l1, .ref l2], []⟩) (fun _ R s => SqA b1 s.heap l1 xs ∧ SqA b2 s.heap l2 ys ∧
      R (.ok (.ret (.ref ((((zzH1 b1 s.heap l1).push (itO b2 l2)).push { cls := .type "tuple", data := .seq #[.ref s.heap.objs.size, .ref (zzH1 b1 s.heap l1).objs.size] }).push { cls := .type "tuple", data := .seq #[.none, .none] }).objs.size))) { s with heap := zzH b1 b2 s.heap l1 l2 }) :=
  .of_wp fun prog w A R s h => by
    obtain ⟨hp, g, d, tk, os⟩ := s; obtain ⟨w1, w2, h⟩ := h
    have hsub := sub_zip
    have w2' : SqA b2 (Shared.heap ⟨hp.push (itO b1 l1), g, d, tk, os⟩) l2 ys := SqA.at (h := hp) w2 fun o e => Heap.get?_push_of_some _ e
    cases b1
    · have L1 : Heap.IsTuple (Shared.heap ⟨hp, g, d, tk, os⟩) l1 xs := w1
      cases b2
      · have L2 : Heap.IsTuple (Shared.heap ⟨hp.push { cls := .type "tuple_iterator", data := .fields #[.ref l1, .int 0 0] }, g, d, tk, os⟩) l2 ys := w2'
        wp_walk using wpAny_pyIter_tuple L1, wpAny_pyIter_tuple L2
        exact ⟨_, rfl, h⟩
      · have L2 : Heap.IsList (Shared.heap ⟨hp.push { cls := .type "tuple_iterator", data := .fields #[.ref l1, .int 0 0] }, g, d, tk, os⟩) l2 ys := w2'
        wp_walk using wpAny_pyIter_tuple L1, wpAny_pyIter_list L2
        exact ⟨_, rfl, h⟩
    · have L1 : Heap.IsList (Shared.heap ⟨hp, g, d, tk, os⟩) l1 xs := w1
      cases b2
      · have L2 : Heap.IsTuple (Shared.heap ⟨hp.push { cls := .type "list_iterator", data := .fields #[.ref l1, .int 0 0] }, g, d, tk, os⟩) l2 ys := w2'
        wp_walk using wpAny_pyIter_list L1, wpAny_pyIter_tuple L2
        exact ⟨_, rfl, h⟩
      · have L2 : Heap.IsList (Shared.heap ⟨hp.push { cls := .type "list_iterator", data := .fields #[.ref l1, .int 0 0] }, g, d, tk, os⟩) l2 ys := w2'
        wp_walk using wpAny_pyIter_list L1, wpAny_pyIter_list L2
        exact ⟨_, rfl, h⟩
section
variable {prog : Program} {w : World} {A : Around} {E : Value → Shared → Prop} {s : Shared}
theorem zz_callB {b1 b2 : Bool} {l1 l2 : Addr} {xs ys : Array Value} {Q : Value → Shared → Prop} (w1 : SqA b1 s.heap l1 xs) (w2 : SqA b2 s.heap l2 ys)
    (q : ∀ h', IsZip h' (s.heap.objs.size + 4) (s.heap.objs.size + 2) (s.heap.objs.size + 3) .none → IsPair h' (s.heap.objs.size + 2) (.ref s.heap.objs.size) (.ref (s.heap.objs.size + 1)) →
      IsPair h' (s.heap.objs.size + 3) .none .none → SqI b1 h' s.heap.objs.size l1 0 → SqI b2 h' (s.heap.objs.size + 1) l2 0 →
      (∀ c o, s.heap.get? c = some o → h'.get? c = some o) → Q (.ref (s.heap.objs.size + 4)) { s with heap := h' }) :
    wpAny (model prog w) A (call (.type "zip") [.ref l1, .ref l2]) Q E s := by
  refine callType_new F.called_zip (by decide) (F.typeCall_zip_2 _ _) (F.newCall_zip_2 _ _) (fun obj => F.args_object_init_3 obj _ _) F.entry_zip_new (zz_newB b1 b2 l1 l2 xs ys) ⟨w1, w2, ?_⟩
  have n1 : (zzH1 b1 s.heap l1).objs.size = s.heap.objs.size + 1 := Heap.size_push ..
  generalize ha : zzH1 b1 s.heap l1 = A1 at n1
  have n2 : (A1.push (itO b2 l2)).objs.size = s.heap.objs.size + 2 := by rw [Heap.size_push, n1]
  generalize hb : A1.push (itO b2 l2) = A2 at n2
  have n3 : (A2.push { cls := .type "tuple", data := .seq #[.ref s.heap.objs.size, .ref A1.objs.size] }).objs.size = s.heap.objs.size + 3 := by rw [Heap.size_push, n2]
  generalize hc : A2.push { cls := .type "tuple", data := .seq #[.ref s.heap.objs.size, .ref A1.objs.size] } = A3 at n3
  have n4 : (A3.push { cls := .type "tuple", data := .seq #[.none, .none] }).objs.size = s.heap.objs.size + 4 := by rw [Heap.size_push, n3]
  generalize hd : A3.push { cls := .type "tuple", data := .seq #[.none, .none] } = A4 at n4
  have eH : zzH b1 b2 s.heap l1 l2 = A4.push { cls := .type "zip", data := .fields #[.none, .bool false, .bool false, .ref A2.objs.size, .ref A3.objs.size] } := by
    unfold zzH
    rw [ha, hb, hc, hd]
  rw [eH, n2, n3, n4]
  have up5 : ∀ c o, A4.get? c = some o → (A4.push { cls := .type "zip", data := .fields #[.none, .bool false, .bool false, .ref (s.heap.objs.size + 2), .ref (s.heap.objs.size + 3)] }).get? c = some o := fun c o e => Heap.get?_push_of_some _ e
  have up4 : ∀ c o, A3.get? c = some o → A4.get? c = some o := fun c o e => by rw [← hd]; exact Heap.get?_push_of_some _ e
  have up3 : ∀ c o, A2.get? c = some o → A3.get? c = some o := fun c o e => by rw [← hc]; exact Heap.get?_push_of_some _ e
  have up2 : ∀ c o, A1.get? c = some o → A2.get? c = some o := fun c o e => by rw [← hb]; exact Heap.get?_push_of_some _ e
  have up1 : ∀ c o, s.heap.get? c = some o → A1.get? c = some o := fun c o e => by rw [← ha]; exact Heap.get?_push_of_some _ e
  have g5 : IsZip (A4.push { cls := .type "zip", data := .fields #[.none, .bool false, .bool false, .ref (s.heap.objs.size + 2), .ref (s.heap.objs.size + 3)] }) (s.heap.objs.size + 4) (s.heap.objs.size + 2) (s.heap.objs.size + 3) .none := by
    have := Heap.get?_push_size A4 (o := { cls := .type "zip", data := .fields #[.none, .bool false, .bool false, .ref (s.heap.objs.size + 2), .ref (s.heap.objs.size + 3)] }) rfl
    rwa [n4] at this
  have g4 : IsPair A4 (s.heap.objs.size + 3) .none .none := by rw [← n3, ← hd]; exact Heap.get?_push_size _ rfl
  have g3 : IsPair A3 (s.heap.objs.size + 2) (.ref s.heap.objs.size) (.ref A1.objs.size) := by rw [← n2, ← hc]; exact Heap.get?_push_size _ rfl
  rw [n1] at g3
  have g2 : A2.get? (s.heap.objs.size + 1) = some (itO b2 l2) := by rw [← n1, ← hb]; exact Heap.get?_push_size _ rfl
  have g1 : A1.get? s.heap.objs.size = some (itO b1 l1) := by rw [← ha]; exact Heap.get?_push_size _ rfl
  refine ⟨⟨_, g5, rfl⟩, ?_⟩
  exact q _ g5 (up5 _ _ (up4 _ _ g3)) (up5 _ _ g4) ⟨_, up5 _ _ (up4 _ _ (up3 _ _ (up2 _ _ g1))), rfl, rfl⟩ ⟨_, up5 _ _ (up4 _ _ (up3 _ _ g2)), rfl, rfl⟩ fun c o e => up5 _ _ (up4 _ _ (up3 _ _ (up2 _ _ (up1 _ _ e))))
end
section
variable {X : Cx} {ss : List Sl} {e e2 : Expr} {es : List Expr} {n : Nat} {ρ τ : R} {α β : Type} {T : α → S} {U : β → S} {xs : List α} {ys : List β} {pos p tp : Pos}
theorem ei_zipB [hx : AsSq X.K ρ T xs] [hy : AsSq X.K τ U ys] (hm : X.mg "zip" = none) (ha : EvE X ss e ρ) (hb : EvE X ss e2 τ) (hg : Gl X "zip" := by rfl)
    (hs : starEach [e, e2] X.env = (false, eval e X.env) :: starEach [e2] X.env := by exact star_ok rfl) (hs2 : starEach [e2] X.env = (false, eval e2 X.env) :: starEach [] X.env := by exact star_ok rfl) (hpl : (backTo pos (starEach [e2] X.env)).any (·.1) = false := by rfl) :
    EvI true X ss (.Tuple es n tp) (.Call (.Name "zip" p) [e, e2] [] pos) (sPair T U) (xs.zip ys) := .mk fun B F H σ h Rr q => by
  intro pins s0 inv
  have hA : PA X [e, e2] (wpA X [e, e2]) := PAw
  refine Call_ (ld_blt inv hg hm PyProof.Rows.boot_zip (PyProof.Rows.callWith_type1 (thn (hA.run pos pins s0 σ H (fun vs H1 => ∃ F1, Grow F H F1 H1 ∧ Paired (fun (a : R) v => a.r F1 H1 v) [ρ, τ] vs) inv ?_) fun us s1 ⟨vs, H1, I1, r1, F1, g1, rs⟩ => ?_) hs hpl))
  · exact (ea_cons ha (ea_cons hb ea_nil hs2) hs).go B F H σ h _ fun vs F' H' g r => ⟨F', g, r⟩
  cases rs with
  | cons ra rs =>
  cases rs with
  | cons rb rs =>
  cases rs
  obtain ⟨pa, va, ea, ka, ia⟩ := hx.w F1 H1 _ g1.s ra
  obtain ⟨pb, vb, eb, kb, ib⟩ := hy.w F1 H1 _ g1.s rb
  subst ea eb
  cases r1 with
  | cons z1 r1 =>
  cases r1 with
  | cons z2 r1 =>
  cases r1
  cases z1
  cases z2
  obtain ⟨b1, ka⟩ := sq_b ka
  obtain ⟨b2, kb⟩ := sq_b kb
  obtain ⟨js, rv, w1⟩ := sqb_at I1 ka
  obtain ⟨ks, rv2, w2⟩ := sqb_at I1 kb
  refine zz_callB w1 w2 fun h' hz hTI hTO h1 h2 hk => wpAny_pyIter_zip hz ?_
  have I2 : L2.Inv X pins σ H1 { s1 with heap := h' } := I1.kept (t' := s1.toks) hk
  refine ⟨s1.heap.objs.size + 4, [s1.heap.objs.size + 4, s1.heap.objs.size + 2, s1.heap.objs.size + 3, s1.heap.objs.size, s1.heap.objs.size + 1], _, _, H1, rfl, I2, turn_zz (b1 := b1) (b2 := b2) (PySem.W.ktu_apart s1.heap.objs.size pa pb w1.lt w2.lt), ⟨hz, hTI, ⟨_, _, hTO⟩, h1, h2⟩, fun c hcm => ?_, ?_⟩
  · have hle : s1.heap.objs.size ≤ c := by rcases five hcm with rfl | rfl | rfl | rfl | rfl <;> omega
    exact I1.fpOk hle (I1.hok.fresh hle)
  · have l1 : va.length = xs.length := ia.len
    have l2 : vb.length = ys.length := ib.len
    refine q (Itq X.K b1 b2 pa pb) F1 H1 _ _ g1 (walk_zz (xs := va) (ys := vb) (by rw [List.length_zip, l1, l2])) (fun F2 H2 a b h3 => ⟨SqB.gr (h3 rfl) ka, SqB.gr (h3 rfl) kb⟩) fun i F2 H2 v H3 hi a b _ y => ?_
    obtain ⟨T1, x, z, rfl, nT, rfl, fx, fy⟩ := y
    obtain ⟨u, hu, ru⟩ := ia.get fx
    obtain ⟨u', hu', ru'⟩ := ib.get fy
    obtain ⟨gg, rr⟩ := pair_new (T := T) (U := U) b nT ((T u).mono a ru) ((U u').mono a ru')
    exact ⟨_, (u, u'), gg, by rw [List.getElem?_zip_eq_some]; exact ⟨hu, hu'⟩, rr⟩
theorem ei_enumB [hx : AsSq X.K ρ T xs] (hm : X.mg "enumerate" = none) (ha : EvE X ss e ρ) (hg : Gl X "enumerate" := by rfl)
    (hs : starEach [e] X.env = (false, eval e X.env) :: starEach [] X.env := by exact star_ok rfl) (hs1 : starEach [e] X.env = [(false, eval e X.env)] := by exact star_one rfl) :
    EvI true X ss (.Tuple es n tp) (.Call (.Name "enumerate" p) [e] [] pos) (sPair sNat T) (enumL xs) := .mk fun B F H σ h Rr q => by
  intro pins s0 inv
  have hA : PA X [e] (wpA X [e]) := PAw
  refine Call_ (ld_blt inv hg hm boot_enumerate (PyProof.Rows.callWith_type1 (thn (hA.run pos pins s0 σ H (fun vs H1 => ∃ F1, Grow F H F1 H1 ∧ Paired (fun (a : R) v => a.r F1 H1 v) [ρ] vs) inv ?_) fun us s1 ⟨vs, H1, I1, r1, F1, g1, rs⟩ => ?_) hs1 rfl))
  · exact (ea_cons ha ea_nil hs).go B F H σ h _ fun vs F' H' g r => ⟨F', g, r⟩
  cases rs with
  | cons ra rs =>
  cases rs
  obtain ⟨pa, va, ea, ka, ia⟩ := hx.w F1 H1 _ g1.s ra
  subst ea
  cases r1 with
  | cons z1 r1 =>
  cases r1
  cases z1
  obtain ⟨b1, ka⟩ := sq_b ka
  obtain ⟨js, rv, w1⟩ := sqb_at I1 ka
  refine en_call w1 fun h' he hit hk => wpAny_pyIter_enum he ?_
  have I2 : L2.Inv X pins σ H1 { s1 with heap := h' } := I1.kept (t' := s1.toks) hk
  have pl := w1.lt
  refine ⟨s1.heap.objs.size + 1, [s1.heap.objs.size + 1, s1.heap.objs.size], _, _, H1, rfl, I2, turn_en (b := b1) (a := pa) (e := s1.heap.objs.size + 1) (it := s1.heap.objs.size) (Nat.succ_ne_self _) (Nat.ne_of_lt pl) (Nat.ne_of_gt (Nat.lt_succ_of_lt pl)), ⟨⟨.none, he⟩, hit⟩, fun c hcm => ?_, ?_⟩
  · have hle : s1.heap.objs.size ≤ c := by rcases (by simpa using hcm : c = s1.heap.objs.size + 1 ∨ c = s1.heap.objs.size) with rfl | rfl <;> omega
    exact I1.fpOk hle (I1.hok.fresh hle)
  · have l1 : va.length = xs.length := ia.len
    refine q (Ieq X.K b1 pa) F1 H1 _ _ g1 (by rw [enumL_len, ← l1]; exact walk_en (xs := va)) (fun F2 H2 a b h3 => SqB.gr (h3 rfl) ka) fun i F2 H2 v H3 hi a b _ y => ?_
    obtain ⟨T1, x, z, rfl, nT, rfl, fx, fy⟩ := y
    obtain ⟨u, hu, ru⟩ := ia.get fy
    cases fx
    obtain ⟨gg, rr⟩ := pair_new (T := sNat) (U := T) (a := i) b nT rfl ((T u).mono a ru)
    exact ⟨_, (i, u), gg, enumL_get hu, rr⟩
end
end Sx
namespace Sx
variable [Tbs]
open PySem PySem.Spec PyProof.Rows L2
/-! ### own lists of own lists -/
section
variable {α : Type} {T : α → S}
def LLs (T : α → S) (F h : Hp) (xss : List (List α)) (qs : List Addr) : Prop := Paired (fun xs q => ∃ vs, h q = some (.lst vs) ∧ Its T F xs vs) xss qs
def oLL (T : α → S) (xss : List (List α)) : O := ⟨fun F h p => ∃ qs : List Addr, h p = some (.lst (qs.map V.ref)) ∧ (p :: qs).Nodup ∧ LLs T F h xss qs, fun e ⟨qs, a, b, c⟩ => ⟨qs, a, b, Paired.mapP c fun _ _ ⟨vs, q, h⟩ => ⟨vs, q, h.mono e⟩⟩⟩
theorem lls_its {F k : Hp} (hk : Same k F) : ∀ {xss : List (List α)} {qs : List Addr}, LLs T F k xss qs → Its (sLst T) F xss (qs.map V.ref)
  | _, _, .nil => .nil
  | _, _, .cons (b := q) ⟨vs, hq, hi⟩ t => .cons ⟨q, k, rfl, hk, vs, hq, hi⟩ (lls_its hk t)
theorem ll_lst {xss : List (List α)} {F : Hp} {v : V} (h : (sO (oLL T xss)).r F v) : (sLst (sLst T) xss).r F v := by
  obtain ⟨p, k, e, hk, qs, hp, _, hq⟩ := h
  exact ⟨p, k, e, hk, qs.map V.ref, hp, lls_its hk hq⟩
theorem lls_upd {F h : Hp} {q : Addr} {o : HO} {xss : List (List α)} {qs : List Addr} (hn : q ∉ qs) (c : LLs T F h xss qs) : LLs T F (upd h q o) xss qs := by
  unfold LLs at c ⊢
  induction c with
  | nil => exact .nil
  | cons r t ih =>
    obtain ⟨vs, hq, hi⟩ := r
    exact .cons ⟨vs, by rw [upd_ne (fun z => hn (by rw [z]; exact List.mem_cons_self))]; exact hq, hi⟩ (ih fun z => hn (List.mem_cons_of_mem _ z))
theorem lls_set {F h : Hp} {q : Addr} {vs : List V} {xs : List α} {y : α} {v : V} (hi : Its T F xs vs) (r : (T y).r F v) {xss : List (List α)} {qs : List Addr} (c : LLs T F h xss qs) : ∀ {n : Nat}, qs.Nodup → xss[n]? = some xs → qs[n]? = some q → LLs T F (upd h q (.lst (vs ++ [v]))) (xss.set n (xs ++ [y])) qs := by
  unfold LLs at c ⊢
  induction c with
  | nil => intro n _ e; simp at e
  | @cons x0 q' l ql rr t ih =>
    intro n nd e1 e2
    rw [List.nodup_cons] at nd
    cases n with
    | zero =>
      have eq : q' = q := by simpa using e2
      subst eq
      exact .cons ⟨vs ++ [v], upd_same, hi.snoc r⟩ (lls_upd nd.1 t)
    | succ n =>
      obtain ⟨ws, hq', hi'⟩ := rr
      have e2' : ql[n]? = some q := by simpa using e2
      have hne : q' ≠ q := fun z => nd.1 (by rw [z]; exact List.mem_of_getElem? e2')
      exact .cons ⟨ws, by rw [upd_ne hne]; exact hq', hi'⟩ (ih nd.2 (by simpa using e1) e2')
theorem lls_at {F h : Hp} : ∀ {xss : List (List α)} {qs : List Addr} {n : Nat} {xs : List α}, LLs T F h xss qs → xss[n]? = some xs → ∃ q vs, qs[n]? = some q ∧ h q = some (.lst vs) ∧ Its T F xs vs
  | _, _, n, _, .nil, e => by simp at e
  | _, _, 0, _, .cons (b := q) ⟨vs, hq, hi⟩ t, e => by
    simp at e
    subst e
    exact ⟨q, vs, rfl, hq, hi⟩
  | _, _, n + 1, _, .cons r t, e => by
    obtain ⟨q, vs, a, b, c⟩ := lls_at t (n := n) (by simpa using e)
    exact ⟨q, vs, by simpa using a, b, c⟩
theorem LLs.len {F h : Hp} {xss : List (List α)} {qs : List Addr} (c : LLs T F h xss qs) : qs.length = xss.length := (Paired.length c).symm
theorem lls_new {F h : Hp} : ∀ {xss : List (List α)} {qs : List Addr}, qs.length = xss.length → (∀ xs ∈ xss, xs = []) → (∀ q ∈ qs, h q = some (.lst [])) → LLs T F h xss qs
  | [], [], _, _, _ => .nil
  | [], _ :: _, e, _, _ => by cases e
  | _ :: _, [], e, _, _ => by cases e
  | xs :: xss, q :: qs, e, h1, h2 => by
    rw [h1 xs List.mem_cons_self]
    exact .cons ⟨[], h2 q List.mem_cons_self, Its.nil⟩ (lls_new (by simpa using e) (fun x hx => h1 x (List.mem_cons_of_mem _ hx)) fun x hx => h2 x (List.mem_cons_of_mem _ hx))
/-- the list so far, at D: n new empty lists -/
def LlPv (F1 H1 : Hp) (D : Addr) (n : Nat) (H : Hp) : Prop := ∃ (F : Hp) (qs : List Addr), qs.length = n ∧ Grow F1 H1 F H ∧ F D = none ∧ H D = some (.lst (qs.map V.ref)) ∧ (D :: qs).Nodup ∧ ∀ q ∈ qs, H1 q = none ∧ F q = none ∧ H q = some (.lst [])
end
section
variable {X : Cx} {ss : List Sl} {tg iter : Expr} {scope : Scope} {α β : Type} {Te : β → S} {T : α → S} {xs : List β} {pos : Pos} {g : TG} {vs : List Nat}
/-- [[] for _ in ..] -/
theorem lc_LL {b : Bool} (T : α → S) (st : β → List Sl) (hi : EvI b X ss tg iter Te xs) (hl : xs.length ≤ sizeLine) (hg : ∀ x, GTw g (Te x) vs ss (st x)) :
    LcG X ss (.List [] pos) tg iter [] scope g vs (oLL T (xs.map fun _ => [])) := .mk fun B F H σ h Q q => by
  refine hi.any.go B F H σ h _ fun J F1 H1 G Y g1 w hG hY => fun D nD => ?_
  have h1 := h.grow g1
  have nt : ∀ l, ¬ IsT (.lst l) := fun _ z => z
  refine lc_it w (fun i H' => LlPv F1 H1 D i H') ⟨F1, [], rfl, .new g1.s nD, g1.s.free nD, upd_same, by simp, fun q hq => by cases hq⟩ (fun i H' _ ⟨F', _, _, gg, _⟩ => hG F' H' gg.f gg.s fun _ => gg.h) (fun i v H2 H3 hin hP y => ?_) fun H' hP => ?_
  · obtain ⟨F2, qs, hn, gg, fD, hD, nd, hq⟩ := hP
    obtain ⟨F3, x, g3, hx, rx⟩ := hY i F2 H2 v H3 hin gg.f gg.s (fun _ => gg.h) y
    have gA := gg.trans g3
    refine hg x B F3 H3 σ v _ (h1.grow gA) rx fun σ2 hs2 hw => ⟨hw, fun s0 H0 C cl fp => (bt_nil s0 H0 C cl fp).go B F3 H3 _ hs2 _ fun F4 H4 g4 => ?_⟩
    rw [if_pos rfl]
    refine fun s0 H0 C cl fp => (ev_lst (T := T) (X := X.blk s0 H0 scope (compEnvC scope cl C X.env) fp) (ss := st x) em_nil (Nat.zero_le _)).go B F4 H4 _ (hs2.grow g4) _ fun p F5 H5 k g5 n r => ?_
    obtain ⟨ws, hp, hi0⟩ := r
    have ew : ws = [] := List.eq_nil_of_length_eq_zero hi0.len
    subst ew
    obtain ⟨n1, n2, n3⟩ := n p _ hp
    have gB := ((gA.trans g4).trans g5)
    have g35 := (g3.trans g4).trans g5
    have hD5 := g35.h.c hD
    have fD5 := grow_none g35 fD hD (nt _)
    have hpD : p ≠ D := fun z => by
      subst z
      rw [(g3.trans g4).h.c hD] at n1
      cases n1
    have hpq : p ∉ qs := fun z => by
      rw [(g3.trans g4).h.c (hq p z).2.2] at n1
      cases n1
    have fp5 : F5 p = none := n2.resolve_right (fun z => nt _ z)
    refine ⟨qs.map V.ref, hD5, by rw [List.length_map, hn]; have : i < xs.length := hin; omega, F5, qs ++ [p], by rw [List.length_append, hn]; rfl, ⟨gB.f, gB.h.put nD hD5, gB.s.put fD5 hD5, gB.n⟩, fD5, by rw [upd_same, List.map_append]; rfl, ?_, fun c hc => ?_⟩
    · rw [List.nodup_cons] at nd ⊢
      refine ⟨fun z => ?_, ?_⟩
      · rcases List.mem_append.mp z with z | z
        · exact nd.1 z
        · exact hpD (List.mem_singleton.mp z).symm
      · rw [List.nodup_append]
        refine ⟨nd.2, by simp, fun a ha c hc e => ?_⟩
        rw [List.mem_singleton.mp hc] at e
        subst e
        exact hpq ha
    · rcases List.mem_append.mp hc with z | z
      · obtain ⟨a1, a2, a3⟩ := hq c z
        have hcD : c ≠ D := fun e => by
          rw [List.nodup_cons] at nd
          exact nd.1 (e ▸ z)
        exact ⟨a1, grow_none g35 a2 a3 (nt _), by rw [upd_ne hcD]; exact g35.h.c a3⟩
      · rw [List.mem_singleton.mp z]
        exact ⟨(gA.trans g4).h.free n1, fp5, by rw [upd_ne hpD]; exact n3⟩
  · obtain ⟨F', qs, hn, gg, fD, hD, nd, hq⟩ := hP
    refine q D F' H' (fun a => if a ∈ D :: qs then H' a else none) (g1.trans gg) (fun a ob ea => ?_) ⟨qs, (if_pos List.mem_cons_self).trans hD, nd, lls_new (by rw [List.length_map, hn]) (fun ys hy => ?_) fun c hc => ?_⟩
    · have ea2 : (if a ∈ D :: qs then H' a else none) = some ob := ea
      by_cases ha : a ∈ D :: qs
      · rw [if_pos ha] at ea2
        rcases List.mem_cons.mp ha with e | e
        · rw [e] at ea2 ⊢
          exact ⟨g1.h.free nD, .inl fD, ea2⟩
        · obtain ⟨a1, a2, a3⟩ := hq a e
          exact ⟨g1.h.free a1, .inl a2, ea2⟩
      · rw [if_neg ha] at ea2
        cases ea2
    · obtain ⟨_, _, rfl⟩ := List.mem_map.mp hy
      rfl
    · exact (if_pos (List.mem_cons_of_mem _ hc)).trans (hq c hc).2.2
end
section
variable {X : Cx} {ss : List Sl} {e b : Expr} {D : Ds} {pos : Pos} {α : Type} {T : α → S} {xss : List (List α)} {xs : List α} {y : α}
/-- rows[n].append(e), an own list of own lists -/
theorem s_appLL (i : Nat) {x : Str} {p1 p2 apos cpos : Pos} {n : Nat} (hi : ss[i]? = some (.own (oLL T xss))) (hb : EvE X ss b (sv (sNat n))) (hx : xss[n]? = some xs) (he : EvE X ss e (sv (T y))) (hl : xs.length < sizeLine) (k : D.nx (ss.set i (.own (oLL T (xss.set n (xs ++ [y])))))) (hN : X.N[i]? = some x := by rfl)
    (hv : Vis X.env.scope x := by first | exact Or.inl rfl | exact Or.inr (Or.inl rfl) | exact Or.inr (Or.inr rfl)) (hd : (x == ("__debug__" : Str)) = false := by decide) (hcd : (x == ("__classdict__" : Str)) = false := by decide) (hpx : PlainIx b := by exact fun _ _ => rfl)
    (hbase : attributeBase (.Subscript (.Name x p1) b p2) "append" X.env (eval (.Subscript (.Name x p1) b p2) X.env) = eval (.Subscript (.Name x p1) b p2) X.env := by rfl)
    (hfew : ((backTo cpos (starEach [e] X.env)).all (fun x => !x.1) && (backToKw cpos (keywordEach [] X.env)).all (fun x => x.1.isSome) && decide ([e].length + ([] : List Keyword).length + (if ([] : List Keyword).isEmpty then 0 else 1) < 30)) = true := by rfl)
    (hline : (apos.endLine == cpos.line) = true := by rfl) (hs : starEach [e] X.env = (false, eval e X.env) :: starEach [] X.env := by exact star_ok rfl) (hplain : (backTo cpos (starEach [] X.env)).any (·.1) = false := by rfl)
    (hsw : swapsWith (.Call (.Attribute (.Subscript (.Name x p1) b p2) "append" apos) [e] [] cpos) none pos.line X.env = pure false := by rfl) : EvS X ss (.Expr (.Call (.Attribute (.Subscript (.Name x p1) b p2) "append" apos) [e] [] cpos) pos) D := .mk fun B F H σ h tk => by
  obtain ⟨p, c, e1, hc, qs, hp, nd, hq⟩ := h.own hi
  obtain ⟨q, vs, hqn, hqv, hqi⟩ := lls_at hq hx
  refine toS (ps_expr (pe_bm PySem.F.plainAttrs_list PySem.F.slot_list_append PySem.F.type_list_append mt_append (pe_ix ix_list (pe_var hN hv hd hcd) PEw hpx) (pa_cons PEw pa_nil hs) hbase hfew hline hs hplain) hsw) ?_
  refine ⟨_, e1, hb B F H σ h _ fun w F1 H1 g1 r1 => ?_⟩
  have ew : w = .int (n : Int) := r1
  subst ew
  have hpH := (hc _ _ hp).1
  have hqH := (hc _ _ hqv).1
  refine ⟨p, qs.map V.ref, (n : Int), .ref q, rfl, rfl, SqL.of (g1.h.c hpH), ?_, .inl ⟨rfl, vs, SqL.of (g1.h.c hqH)⟩, he B F1 H1 σ (h.grow g1) _ fun v F2 H2 g2 r => ?_⟩
  · exact atI_nat (by rw [List.getElem?_map, hqn]; rfl)
  have g := g1.trans g2
  refine ⟨q, vs, v, rfl, rfl, g.h.c hqH, by rw [hqi.len]; exact hl, ?_⟩
  obtain ⟨p', c', e1', hc', ⟨qs', hp', nd', hq'⟩, wr⟩ := (h.grow g).write hi
  rw [e1] at e1'
  injection e1' with e1'
  injection e1' with e1'
  injection e1' with e1'
  subst e1'
  have eqs : qs' = qs := by
    have q1 := (hc' _ _ hp').1
    rw [g.h.c hpH] at q1
    injection q1 with q1
    injection q1 with q1
    exact (List.map_inj_right (fun a b z => by injection z)).mp q1.symm
  subst eqs
  obtain ⟨q', vs', hqn', hqv', hqi'⟩ := lls_at hq' hx
  rw [hqn] at hqn'
  cases hqn'
  have evs : vs' = vs := by
    have q1 := (hc' _ _ hqv').1
    rw [g.h.c hqH] at q1
    injection q1 with q1
    injection q1 with q1
    exact q1.symm
  subst evs
  obtain ⟨w0, w1, w2, w3⟩ := cell_wr (o1 := .lst (vs' ++ [v])) hqv' (fun z => z) (fun a ob ea => (hc' a ob ea).1)
  have hne : p ≠ q := fun z => by
    rw [List.nodup_cons] at nd'
    exact nd'.1 (by rw [z]; exact List.mem_of_getElem? hqn)
  refine ⟨F2, _, wr (oLL T (xss.set n (xs ++ [y]))) _ _ w0 w1 w2 w3 ⟨qs', by rw [upd_ne hne]; exact hp', nd', lls_set hqi' r hq' (List.nodup_cons.mp nd').2 hx hqn⟩, k⟩
end
end Sx
namespace Sx
variable [Tbs]
open PySem PySem.Spec PyProof.Rows L2
section
variable {X : Cx} {ss : List Sl} {a : Expr} {pos p : Pos} {ex : Xo → List Sl → Prop}
/-- list(e), e raises -/
theorem er_list (hc : X.calm = true) (hm : X.mg "list" = none) (ha : EvR X ss a ex) (hg : Gl X "list" := by rfl) (he : starEach [a] X.env = (false, eval a X.env) :: starEach [] X.env := by exact star_ok rfl) (hpl : (backTo pos (starEach [] X.env)).any (·.1) = false := by rfl) : EvR X ss (.Call (.Name "list" p) [a] [] pos) ex := .mk fun B F H σ h tk Q => by
  refine toE (pe_callTy (call_listN hc) hg hm (by decide +kernel) (pa_cons PEw PAw he) (by decide) (by decide) he hpl) ?_
  exact ha.go B F H σ h tk _
end
end Sx
namespace Sx
variable [Tbs]
open PySem PySem.Spec PyProof.Rows L2
/-! ### one of two shapes -/
section
variable {α β : Type} {T : α → S} {U : β → S}
noncomputable def sSum (T : α → S) (U : β → S) : α ⊕ β → S
  | .inl x => T x
  | .inr y => U y
/-- no value of the one is equal to one of the other -/
class Apart (T : α → S) (U : β → S) [TyD T] [TyD U] : Prop where
  lr : ∀ x y, PyData.eqv (TyD.d T x) (TyD.d U y) = false
  rl : ∀ x y, PyData.eqv (TyD.d U y) (TyD.d T x) = false
noncomputable instance [TyD T] [TyD U] : TyD (sSum T U) where
  d := fun
    | .inl x => TyD.d T x
    | .inr y => TyD.d U y
  dep := max (TyD.dep T) (TyD.dep U)
  ok := fun {K F v x} h => by
    cases x with
    | inl x =>
      obtain ⟨a, b, c⟩ := TyD.ok (T := T) (K := K) h
      exact ⟨a, b, Nat.le_trans c (Nat.le_max_left _ _)⟩
    | inr y =>
      obtain ⟨a, b, c⟩ := TyD.ok (T := U) (K := K) h
      exact ⟨a, b, Nat.le_trans c (Nat.le_max_right _ _)⟩
noncomputable instance [DecidableEq α] [DecidableEq β] [TyQ T] [TyQ U] [Apart T U] : TyQ (sSum T U) where
  q := fun x y => by
    cases x with
    | inl x =>
      cases y with
      | inl y => exact (TyQ.q (T := T) x y).trans (decide_eq_decide.mpr ⟨fun e => by rw [e], fun e => Sum.inl.inj e⟩)
      | inr y => exact (Apart.lr (T := T) (U := U) x y).trans (decide_eq_false (fun e => nomatch e)).symm
    | inr x =>
      cases y with
      | inl y => exact (Apart.rl (T := T) (U := U) y x).trans (decide_eq_false (fun e => nomatch e)).symm
      | inr y => exact (TyQ.q (T := U) x y).trans (decide_eq_decide.mpr ⟨fun e => by rw [e], fun e => Sum.inr.inj e⟩)
instance : Apart sStr sBool := ⟨fun x y => by show PyData.eqv (.str x) (.bool y) = false; rw [PyData.eqv], fun x y => by show PyData.eqv (.bool y) (.str x) = false; rw [PyData.eqv]⟩
instance {T : α → S} [TyD T] : Apart sNat (sLst T) := ⟨fun x y => by show PyData.eqv (.int x) (.list _) = false; rw [PyData.eqv], fun x y => by show PyData.eqv (.list _) (.int x) = false; rw [PyData.eqv]⟩
end
/-! ### a method that gives something new -/
section
variable {X : Cx} {ss : List Sl} {e o : Expr} {es : List Expr} {s0 : S} {o2 : O} {pos apos : Pos} {j k : Nat} {as : List S} {m : Str} {C : Addr}
theorem ev_methN {Φ : List S → O → Prop} {pl : Sem Bool} (G : CalleeMN X.prog X.w X.K X.mg X.base j C m Φ) (hc : Cls X.K C) (hr : Room k X.A) (ho : EvE X ss o (sv s0)) (hI : InsAt s0 C m) (ha : EvAs X ss (e :: es) as) (hΦ : Φ (s0 :: as) o2) (hj : j ≤ k := by decide)
    (he : starEach (e :: es) X.env = (false, eval e X.env) :: starEach es X.env := by exact star_ok rfl) (hpl : (backTo pos (starEach es X.env)).any (·.1) = false := by rfl)
    (ht : eval (.Call (.Attribute o m apos) (e :: es) [] pos) X.env = (do
      let ov ← eval o X.env
      standAt apos.atName
      let (f, first) ← holding [ov] (getMethod ov m pl)
      callWith pos f first (backTo pos (starEach (e :: es) X.env)) (backToKw pos (keywordEach [] X.env))) := by rfl) :
    EvN X ss (.Call (.Attribute o m apos) (e :: es) [] pos) o2 := .mk fun B F H σ h Q z => by
  obtain ⟨f, fd, ps, M, G, hb⟩ := G.ex
  refine toE (pe_meth PEw hc M G (hr.mono hj) hb .nil pass0 PAw he hpl ht) ?_
  refine ho B F H σ h _ fun v F1 H1 g1 r1 => ?_
  obtain ⟨y, dx, vs, rfl, hp, hl⟩ := hI r1
  refine ⟨y, dx, vs, rfl, g1.s _ _ hp, hl, ?_⟩
  refine ha.go B F1 H1 σ (h.grow g1) _ fun ws F2 H2 g2 rs => ?_
  rw [List.append_nil]
  exact ⟨F2, s0 :: as, o2, g2.s, .cons (s0.mono g2.f r1) (paired_sv rs), hΦ, fun p F' H' c g n r => z p F' H' c ((g1.trans g2).trans g) (fun a ob ea => ⟨(g1.trans g2).h.free (n a ob ea).1, (n a ob ea).2⟩) r⟩
end
end Sx
namespace Sx
variable [Tbs]
open PySem PySem.Spec PyProof.Rows L2
/-! ### range(a, b) in a for loop -/
def oRg2 (lo n : Nat) : O := ⟨fun _ h p => h p = some (.rng (lo : Int) ((lo + n : Nat) : Int)), fun _ h => h⟩
section
variable {X : Cx} {ss : List Sl} {e a b tg : Expr} {pos p : Pos} {lo n : Nat}
omit [Tbs] in
theorem cr_rng2 : CallR X (.type "range") (fun vs H Q => ∃ i j, vs = [V.int i, V.int j] ∧ ∀ p, H p = none → Q (.ref p) (upd H p (.rng i j))) := by
  intro pins s σ H vs us Q I r h
  obtain ⟨i, j, rfl, q⟩ := h
  cases r with
  | cons ri rr =>
    cases rr with
    | cons rj rr =>
      cases rr
      obtain ⟨t, rfl⟩ := ri
      obtain ⟨u, rfl⟩ := rj
      refine call_range_2 ⟨.ref s.heap.objs.size, upd H s.heap.objs.size (.rng i j), I.laid (t' := s.toks + 1) (fun b o e => Heap.get?_push_of_some _ e) (Nat.le_refl _) ?_, rfl, q _ (I.hok.fresh (Nat.le_refl _))⟩
      exact ⟨t, u, s.toks, Heap.get?_push_size _ rfl⟩
theorem ev_rg2 (hm : X.mg "range" = none) (ha : EvE X ss a (sv (sNat lo))) (hb : EvE X ss b (sv (sNat (lo + n)))) (hg : Gl X "range" := by rfl) (he : starEach [a, b] X.env = (false, eval a X.env) :: starEach [b] X.env := by exact star_ok rfl) (he2 : starEach [b] X.env = (false, eval b X.env) :: starEach [] X.env := by exact star_ok rfl) (hpl : (backTo pos (starEach [b] X.env)).any (·.1) = false := by rfl) :
    EvN X ss (.Call (.Name "range" p) [a, b] [] pos) (oRg2 lo n) :=
  ev_ctN cr_rng2 hm (by decide +kernel) (ea_cons ha (ea_cons hb ea_nil he2) he) (fun F H vs Q sF rs q => by
    cases rs with
    | cons r t =>
      cases t with
      | cons r2 t =>
        cases t
        have e1 : _ = V.int (lo : Int) := r
        have e2 : _ = V.int ((lo + n : Nat) : Int) := r2
        subst e1
        subst e2
        exact ⟨_, _, rfl, fun p np => q p _ np hp1_same⟩) hg (he := he) (hpl := hpl)
theorem ei_rg2 (hn : lo + n ≤ 16777216) (he : EvE X ss e (sv (sO (oRg2 lo n)))) : EvI false X ss tg e sNat (List.range' lo n) := .mk fun B F H σ h Rr q => by
  intro pins s1 inv
  refine thn (he.go B F H σ h (fun v H' => ∃ F', Grow F H F' H' ∧ (sO (oRg2 lo n)).r F' v) (fun v F' H' g r => ⟨F', g, r⟩) pins s1 inv) fun u s3 ⟨v, H1, I3, rv, F1, g1, r1⟩ => ?_
  obtain ⟨d, c, ev, hk, hd⟩ := r1
  subst ev
  obtain rfl : u = Value.ref d := rv
  obtain ⟨t1, t2, t3, ho⟩ := I3.hok d _ (g1.s _ _ (hk _ _ hd))
  refine wpAny_pyIter_range (show IsRange s3.heap d (lo : Int) ((lo + n : Nat) : Int) 1 t1 t2 t3 from ho) (small_one (by omega) (by omega) (by omega) (by omega)) ?_
  refine ⟨s3.heap.objs.size, [s3.heap.objs.size], _, _, H1, rfl, I3.kept (t' := s3.toks) fun b o e => Heap.get?_push_of_some _ e, turn_range _ (lo : Int) n, ?_, fun b hb => ?_, ?_⟩
  · have e1 : (lo : Int) + ((0 : Nat) : Int) * 1 = (lo : Int) := by simp
    have e2 : ((n : Nat) : Int) - ((0 : Nat) : Int) = Builtin.Range.rangeSize (lo : Int) ((lo + n : Nat) : Int) 1 := by rw [rangeSize_one]; split <;> omega
    show IsRangeIter _ _ ((lo : Int) + ((0 : Nat) : Int) * 1) (((n : Nat) : Int) - ((0 : Nat) : Int)) 1
    rw [e1, e2]
    exact Heap.get?_push_size _ rfl
  · have e : b = s3.heap.objs.size := by simpa using hb
    subst e
    exact I3.fpOk (Nat.le_refl _) (I3.hok.fresh (Nat.le_refl _))
  · refine q (Itr (lo : Int) n) F1 H1 (fun _ => True) (YFn fun i => .int ((lo : Int) + i)) g1 (by rw [List.length_range']; exact walk_range) (fun F2 H2 _ _ _ => trivial) fun i F2 H2 v H3 hi a b _ y => ?_
    rw [List.length_range'] at hi
    obtain ⟨rfl, rfl⟩ := y
    exact ⟨F2, lo + i, .refl b, by rw [List.getElem?_range' hi, Nat.one_mul], by show V.int ((lo : Int) + (i : Int)) = V.int ((lo + i : Nat) : Int); rw [Int.natCast_add]⟩
end
end Sx
namespace Sx
variable [Tbs]
open PySem PySem.Spec PyProof.Rows L2
/-! ### a method that may raise and gives something new -/
section
variable {X : Cx} {ss : List Sl} {e o : Expr} {es : List Expr} {s0 : S} {o2 : O} {pos apos : Pos} {j k : Nat} {as : List S} {m : Str} {C : Addr}
theorem ev_methXN {Φ : List S → Rs → Prop} {pl : Sem Bool} (G : CalleeMX X.prog X.w X.K X.mg X.base j C m Φ) (hc : Cls X.K C) (hr : Room k X.A) (ho : EvE X ss o (sv s0)) (hI : InsAt s0 C m) (ha : EvAs X ss (e :: es) as) (hΦ : Φ (s0 :: as) (.new o2)) (hj : j ≤ k := by decide)
    (he : starEach (e :: es) X.env = (false, eval e X.env) :: starEach es X.env := by exact star_ok rfl) (hpl : (backTo pos (starEach es X.env)).any (·.1) = false := by rfl)
    (ht : eval (.Call (.Attribute o m apos) (e :: es) [] pos) X.env = (do
      let ov ← eval o X.env
      standAt apos.atName
      let (f, first) ← holding [ov] (getMethod ov m pl)
      callWith pos f first (backTo pos (starEach (e :: es) X.env)) (backToKw pos (keywordEach [] X.env))) := by rfl) :
    EvN X ss (.Call (.Attribute o m apos) (e :: es) [] pos) o2 := .mk fun B F H σ h Q z => by
  obtain ⟨f, fd, ps, M, G, hb⟩ := G.ex
  refine toE (pe_meth PEw hc M G (hr.mono hj) hb .nil passL PAw he hpl ht) ?_
  refine ho B F H σ h _ fun v F1 H1 g1 r1 => ?_
  obtain ⟨y, dx, vs, rfl, hp, hl⟩ := hI r1
  refine ⟨y, dx, vs, rfl, g1.s _ _ hp, hl, ?_⟩
  refine ha.go B F1 H1 σ (h.grow g1) _ fun ws F2 H2 g2 rs => ?_
  rw [List.append_nil]
  exact ⟨F2, s0 :: as, .new o2, g2.s, .cons (s0.mono g2.f r1) (paired_sv rs), hΦ, fun p F' H' c g n r => z p F' H' c ((g1.trans g2).trans g) (fun a ob ea => ⟨(g1.trans g2).h.free (n a ob ea).1, (n a ob ea).2⟩) r⟩
end
end Sx
namespace Sx
variable [Tbs]
open PySem PySem.Spec PyProof.Rows L2
/-! ### own objects that are shown for a while; data compared by < -/
section
variable {X : Cx} {ss : List Sl} {e a b : Expr} {s : S} {o : O} {pos : Pos} {k : Nat} {i : Nat}
/-- an own object is shown while a value is found that says nothing of objects -/
theorem ev_lend (i : Nat) (hi : ss[i]? = some (.own o)) (h : EvE X (ss.set i (.val (sO o))) e (sv s)) (flat : ∀ F F' v, s.r F v → s.r F' v) : EvE X ss e (sv s) := .mk fun B F H σ z Q q => by
  obtain ⟨F', e1, z'⟩ := z.pub hi
  exact h B F' H σ z' _ fun v F2 H2 g r => q v F H2 ⟨Same.refl _, g.h, ⟨e1.trans (g.f.trans g.s.s), g.s.t, fun a o ea => g.s.n a o (g.f a o (e1 a o ea))⟩, fun p o e n => by rw [n] at e; cases e⟩ (flat _ _ _ r)
theorem et_lend {x : Bool} (i : Nat) (hi : ss[i]? = some (.own o)) (h : EvT X (ss.set i (.val (sO o))) e x) : EvT X ss e x := .mk fun B F H σ z Q q => by
  obtain ⟨F', e1, z'⟩ := z.pub hi
  exact h B F' H σ z' _ fun F2 H2 g => q F H2 ⟨Same.refl _, g.h, ⟨e1.trans (g.f.trans g.s.s), g.s.t, fun a o ea => g.s.n a o (g.f a o (e1 a o ea))⟩, fun p o e n => by rw [n] at e; cases e⟩
/-- something new is made while an own object is shown, of data alone -/
def rLtD (K : PySem.W.Frag) : R2 := fun x y H Q => ∃ d e, Dp K H x d ∧ Dp K H y e ∧ PySem.W.alike d e = true ∧ d ≠ .none ∧ d.depth ≤ 60 ∧ Q (.bl (PySem.W.dataLt d e)) H
theorem op_ltD (hu : X.A.units + 64 < cLine) : OpR X (compareOp .Lt) (rLtD X.K) := by
  intro pins s σ H x y v u Q I rx ry h
  obtain ⟨d, e, hd, he, al, nn, dp, q⟩ := h
  obtain ⟨as, r1⟩ := Dp.reads I d x v hd rx
  obtain ⟨bs, r2⟩ := Dp.reads I e y u he ry
  exact PySem.W.lt_data r1 r2 al nn (by omega) ⟨.bl _, H, I, rfl, q⟩
variable {α : Type} {T : α → S} {x y : α}
theorem nn_ne [TyD T] [TyNN T] (x : α) : TyD.d T x ≠ .none := fun z => by
  have := (TyNN.nn (T := T) x).1
  rw [z] at this
  simp [PyData.eqv] at this
theorem ev_ltD [TyD T] [TyA T] [TyNN T] (hr : Room k X.A) (ha : EvE X ss a (sv (T x))) (hb : EvE X ss b (sv (T y))) (hd : TyD.dep T ≤ 60 := by decide) :
    EvE X ss (.Compare a [.Lt] [b] pos) (sv (sBool (PySem.W.dataLt (TyD.d T x) (TyD.d T y)))) :=
  ev_cmp (op_ltD (room64 hr)) ha hb (fun F H v w Q sF rx ry q => by
    obtain ⟨d1, _, l1⟩ := TyD.ok (K := X.K) rx
    obtain ⟨d2, _, _⟩ := TyD.ok (K := X.K) ry
    exact ⟨_, _, dp_same sF d1, dp_same sF d2, TyA.al x y, nn_ne x, Nat.le_trans l1 hd, q _ F H (.refl sF) rfl⟩) (nomark _)
end
end Sx
namespace Sx
variable [Tbs]
open PySem PySem.Spec PyProof.Rows L2
/-! ### tuples of three as data -/
section
variable {α β γ : Type} {T : α → S} {U : β → S} {W : γ → S}
instance [TyD T] [TyD U] [TyD W] : TyD (sTri T U W) where
  d := fun p => .tuple [TyD.d T p.1, TyD.d U p.2.1, TyD.d W p.2.2]
  dep := max (TyD.dep T) (max (TyD.dep U) (TyD.dep W)) + 1
  ok := fun {K F v x} h => by
    obtain ⟨p, k, e, hk, vs, hp, hi⟩ := h
    subst e
    obtain ⟨a, b, c, rfl, ra, rb, rc⟩ := its3 hi
    obtain ⟨a1, a2, a3⟩ := TyD.ok (T := T) (K := K) ra
    obtain ⟨b1, b2, b3⟩ := TyD.ok (T := U) (K := K) rb
    obtain ⟨c1, c2, c3⟩ := TyD.ok (T := W) (K := K) rc
    refine ⟨.tup (SqT.of (hk _ _ hp)) (.cons a1 (.cons b1 (.cons c1 .nil))), ?_, ?_⟩
    · rw [PyData.canLay0, PyData.canLayAll0, PyData.canLayAll0, PyData.canLayAll0, PyData.canLayAll0, a2, b2, c2]
      rfl
    · rw [PyData.depth, PyData.depthAll, PyData.depthAll, PyData.depthAll, PyData.depthAll]
      omega
instance [DecidableEq α] [DecidableEq β] [DecidableEq γ] [TyQ T] [TyQ U] [TyQ W] : TyQ (sTri T U W) where
  q := fun x y => by
    show PyData.eqv (.tuple _) (.tuple _) = _
    rw [PyData.eqv, PyData.eqvAll, PyData.eqvAll, PyData.eqvAll, PyData.eqvAll, TyQ.q, TyQ.q, TyQ.q]
    obtain ⟨a, b, c⟩ := x
    obtain ⟨d, e, f⟩ := y
    simp [Prod.ext_iff, Bool.decide_and]
instance [TyD T] [TyD U] [TyD W] [TyA T] [TyA U] [TyA W] : TyA (sTri T U W) where
  al := fun x y => by
    show PySem.W.alike (.tuple _) (.tuple _) = true
    have h1 := TyA.al (T := T) x.1 y.1
    have h2 := TyA.al (T := U) x.2.1 y.2.1
    have h3 := TyA.al (T := W) x.2.2 y.2.2
    simp [PySem.W.alike, PySem.W.alikeAll, h1, h2, h3]
end
/-! ### slices of a list or a tuple -/
section
variable {X : Cx} {ss : List Sl} {a e : Expr} {pos p2 : Pos} {α : Type} {T : α → S} {xs : List α}
theorem ev_slQ {lo hi : Option Expr} {l u : Option Int} (ha : EvE X ss a (sv (sO (oSq T xs)))) (hl : EvO X ss lo l) (hu : EvO X ss hi u) : EvE X ss (.Subscript a (.Slice lo hi none p2) pos) (sv (sO (oSq T (cutL xs l u)))) := .mk fun B F H σ h Q q => by
  obtain ⟨tl, pl, kl⟩ := hl
  obtain ⟨tu, pu, ku⟩ := hu
  exact toE (pe_slice (SlR.or sl_list sl_tupA) PEw pl pu) (ha B F H σ h _ fun v F1 H1 g1 r1 => kl B F1 H1 σ (h.grow g1) _ fun F2 H2 g2 => ku B F2 H2 σ ((h.grow g1).grow g2) _ fun F3 H3 g3 => by
    obtain ⟨p, k, e1, hk, vs, hp, hi⟩ := (sO (oSq T xs)).mono (g2.f.trans g3.f) r1
    subst e1
    have g := (g1.trans g2).trans g3
    rcases hp with hp | hp
    · refine .inl ⟨p, vs, rfl, SqL.of (g3.s _ _ (hk _ _ hp)), fun q' nq => ?_⟩
      have gn := grow_new1 (ob := .lst (cutV vs l u)) g.s nq
      exact q _ _ _ (g.trans gn) ⟨q', hp1 q' _, rfl, hp1_in, _, .inl hp1_same, (hi.cut).mono gn.f⟩
    · refine .inr ⟨p, vs, rfl, SqT.of (g3.s _ _ (hk _ _ hp)), fun hw => ?_, fun hw q' nq => ?_⟩
      · refine q _ F3 H3 g ⟨p, k, rfl, hk, vs, .inr hp, ?_⟩
        have hc : cutL xs l u = xs := by
          unfold cutL
          rw [← hi.len, hw.1, hw.2]
          simp only [List.drop_zero, Nat.sub_zero]
          rw [hi.len]
          exact List.take_length
        rw [hc]
        exact hi
      · have gn := grow_new1 (ob := .tup (cutV vs l u)) g.s nq
        exact q _ _ _ (g.trans gn) ⟨q', hp1 q' _, rfl, hp1_in, _, .inr hp1_same, (hi.cut).mono gn.f⟩)
end
/-! ### lists of new lists -/
section
variable {X : Cx} {ss : List Sl} {elt tg iter : Expr} {scope : Scope} {α β : Type} {Te : β → S} {T : α → S} {xs : List β} {pos : Pos} {g : TG} {vs : List Nat}
theorem lls_mono {F F' h h' : Hp} (e : Same F F') : ∀ {xss : List (List α)} {qs : List Addr}, (∀ q ∈ qs, ∀ vs, h q = some (.lst vs) → h' q = some (.lst vs)) → LLs T F h xss qs → LLs T F' h' xss qs
  | _, _, _, .nil => .nil
  | _, _, hq, .cons ⟨vs, a, b⟩ t => .cons ⟨vs, hq _ List.mem_cons_self vs a, b.mono e⟩ (lls_mono e (fun q hm => hq q (List.mem_cons_of_mem _ hm)) t)
omit [Tbs] in
theorem lls_snoc {F h : Hp} {ys : List α} {q : Addr} (hy : ∃ vs, h q = some (.lst vs) ∧ Its T F ys vs) : ∀ {xss : List (List α)} {qs : List Addr}, LLs T F h xss qs → LLs T F h (xss ++ [ys]) (qs ++ [q])
  | _, _, .nil => .cons hy .nil
  | _, _, .cons a t => .cons a (lls_snoc hy t)
def LnPv (T : α → S) (F1 H1 : Hp) (D : Addr) (xss : List (List α)) (H : Hp) : Prop := ∃ (F : Hp) (qs : List Addr), Grow F1 H1 F H ∧ F D = none ∧ H D = some (.lst (qs.map V.ref)) ∧ (D :: qs).Nodup ∧ (∀ q ∈ qs, H1 q = none ∧ F q = none) ∧ LLs T F H xss qs
/-- [NEW LIST for .. in ..] -/
theorem lc_newL {b : Bool} (st : β → List Sl) (f : β → List α) (hi : EvI b X ss tg iter Te xs) (hl : xs.length ≤ sizeLine) (hg : ∀ x, GTw g (Te x) vs ss (st x))
    (he : ∀ (i : Nat) x, xs[i]? = some x → ∀ (s : Shared) (H0 : Hp) (C : Addr) (cl : List (Str × Addr)) (fp : List Addr), EvN (X.blk s H0 scope (compEnvC scope cl C X.env) fp) (st x) elt (oLst T (f x))) :
    LcG X ss elt tg iter [] scope g vs (oLL T (xs.map f)) := .mk fun B F H σ h Q q => by
  refine hi.any.go B F H σ h _ fun J F1 H1 G Y g1 w hG hY => fun D nD => ?_
  have h1 := h.grow g1
  have nt : ∀ l, ¬ IsT (.lst l) := fun _ z => z
  refine lc_it w (fun i H' => i ≤ xs.length ∧ LnPv T F1 H1 D ((xs.take i).map f) H') ⟨Nat.zero_le _, F1, [], .new g1.s nD, g1.s.free nD, upd_same, by simp, (fun q hq => by cases hq), .nil⟩ (fun i H' _ ⟨_, F', _, gg, _⟩ => hG F' H' gg.f gg.s fun _ => gg.h) (fun i v H2 H3 hin hP y => ?_) fun H' hP => ?_
  · obtain ⟨hix, F2, qs, gg, fD, hD, nd, hq, hL⟩ := hP
    obtain ⟨F3, x, g3, hx, rx⟩ := hY i F2 H2 v H3 hin gg.f gg.s (fun _ => gg.h) y
    have gA := gg.trans g3
    have hn : qs.length = i := by
      rw [hL.len, List.length_map, List.length_take]
      omega
    refine hg x B F3 H3 σ v _ (h1.grow gA) rx fun σ2 hs2 hw => ⟨hw, fun s0 H0 C cl fp => (bt_nil s0 H0 C cl fp).go B F3 H3 _ hs2 _ fun F4 H4 g4 => ?_⟩
    rw [if_pos rfl]
    refine fun s0 H0 C cl fp => (he i x hx s0 H0 C cl fp).go B F4 H4 _ (hs2.grow g4) _ fun p F5 H5 k g5 n r => ?_
    obtain ⟨ws, hp, hi0⟩ := r
    obtain ⟨n1, n2, n3⟩ := n p _ hp
    have gB := ((gA.trans g4).trans g5)
    have g35 := (g3.trans g4).trans g5
    have hD5 := g35.h.c hD
    have fD5 := grow_none g35 fD hD (nt _)
    have hpD : p ≠ D := fun z => by
      subst z
      rw [(g3.trans g4).h.c hD] at n1
      cases n1
    have hcell : ∀ c ∈ qs, ∃ us, H2 c = some (.lst us) := fun c hc => by
      obtain ⟨j, hj, ej⟩ := List.getElem_of_mem hc
      obtain ⟨ys, hy, hus⟩ := pr_get (G := fun xs q => ∃ vs, H2 q = some (.lst vs) ∧ Its T F2 xs vs) hL (i := j) (v := c) (List.getElem?_eq_some_iff.mpr ⟨hj, ej⟩)
      obtain ⟨us, a1, _⟩ := hus
      exact ⟨us, a1⟩
    have hpq : p ∉ qs := fun z => by
      obtain ⟨us, a1⟩ := hcell p z
      rw [(g3.trans g4).h.c a1] at n1
      cases n1
    have fp5 : F5 p = none := n2.resolve_right (fun z => nt _ z)
    have hxs : (xs.take (i + 1)).map f = (xs.take i).map f ++ [f x] := by
      rw [List.take_succ, hx, Option.toList_some, List.map_append]
      rfl
    refine ⟨qs.map V.ref, hD5, by rw [List.length_map, hn]; have : i < xs.length := hin; omega, hin, F5, qs ++ [p], ⟨gB.f, gB.h.put nD hD5, gB.s.put fD5 hD5, gB.n⟩, fD5, by rw [upd_same, List.map_append]; rfl, ?_, fun c hc => ?_, ?_⟩
    · rw [List.nodup_cons] at nd ⊢
      refine ⟨fun z => ?_, ?_⟩
      · rcases List.mem_append.mp z with z | z
        · exact nd.1 z
        · exact hpD (List.mem_singleton.mp z).symm
      · rw [List.nodup_append]
        refine ⟨nd.2, by simp, fun a ha c hc e => ?_⟩
        rw [List.mem_singleton.mp hc] at e
        subst e
        exact hpq ha
    · rcases List.mem_append.mp hc with z | z
      · obtain ⟨a1, a2⟩ := hq c z
        obtain ⟨us, a3⟩ := hcell c z
        exact ⟨a1, grow_none g35 a2 a3 (nt _)⟩
      · rw [List.mem_singleton.mp z]
        exact ⟨(gA.trans g4).h.free n1, fp5⟩
    · rw [hxs]
      refine lls_snoc ⟨ws, by rw [upd_ne hpD]; exact n3, hi0⟩ (lls_mono g35.f (fun c hc us ec => ?_) hL)
      have hcD : c ≠ D := fun e => by
        rw [List.nodup_cons] at nd
        exact nd.1 (e ▸ hc)
      rw [upd_ne hcD]
      exact g35.h.c ec
  · obtain ⟨_, F', qs, gg, fD, hD, nd, hq, hL⟩ := hP
    rw [List.take_length] at hL
    have hcell : ∀ c ∈ qs, ∃ us, H' c = some (.lst us) := fun c hc => by
      obtain ⟨j, hj, ej⟩ := List.getElem_of_mem hc
      obtain ⟨ys, hy, hus⟩ := pr_get (G := fun xs q => ∃ vs, H' q = some (.lst vs) ∧ Its T F' xs vs) hL (i := j) (v := c) (List.getElem?_eq_some_iff.mpr ⟨hj, ej⟩)
      obtain ⟨us, a1, _⟩ := hus
      exact ⟨us, a1⟩
    refine q D F' H' (fun a => if a ∈ D :: qs then H' a else none) (g1.trans gg) (fun a ob ea => ?_) ⟨qs, (if_pos List.mem_cons_self).trans hD, nd, lls_mono (Same.refl _) (fun c hc us ec => (if_pos (List.mem_cons_of_mem _ hc)).trans ec) hL⟩
    have ea2 : (if a ∈ D :: qs then H' a else none) = some ob := ea
    by_cases ha : a ∈ D :: qs
    · rw [if_pos ha] at ea2
      rcases List.mem_cons.mp ha with e | e
      · rw [e] at ea2 ⊢
        exact ⟨g1.h.free nD, .inl fD, ea2⟩
      · obtain ⟨a1, a2⟩ := hq a e
        exact ⟨g1.h.free a1, .inl a2, ea2⟩
    · rw [if_neg ha] at ea2
      cases ea2
end
/-! ### anything put into a list of lists -/
section
variable {X : Cx} {ss : List Sl} {e : Expr} {D : Ds} {pos : Pos} {α : Type} {T : α → S} {xss : List (List α)} {ρ : R}
def oJunk : O := ⟨fun _ h p => ∃ vs, h p = some (.lst vs), fun _ h => h⟩
theorem s_appJ (i : Nat) {x : Str} {p1 apos cpos : Pos} (hi : ss[i]? = some (.own (oLL T xss))) (he : EvE X ss e ρ) (hl : xss.length < sizeLine) (k : D.nx (ss.set i (.own oJunk))) (hN : X.N[i]? = some x := by rfl)
    (hv : Vis X.env.scope x := by first | exact Or.inl rfl | exact Or.inr (Or.inl rfl) | exact Or.inr (Or.inr rfl)) (hd : (x == ("__debug__" : Str)) = false := by decide) (hcd : (x == ("__classdict__" : Str)) = false := by decide)
    (hbase : attributeBase (.Name x p1) "append" X.env (eval (.Name x p1) X.env) = eval (.Name x p1) X.env := by rfl)
    (hfew : ((backTo cpos (starEach [e] X.env)).all (fun x => !x.1) && (backToKw cpos (keywordEach [] X.env)).all (fun x => x.1.isSome) && decide ([e].length + ([] : List Keyword).length + (if ([] : List Keyword).isEmpty then 0 else 1) < 30)) = true := by rfl)
    (hline : (apos.endLine == cpos.line) = true := by rfl) (hs : starEach [e] X.env = (false, eval e X.env) :: starEach [] X.env := by exact star_ok rfl) (hplain : (backTo cpos (starEach [] X.env)).any (·.1) = false := by rfl)
    (hsw : swapsWith (.Call (.Attribute (.Name x p1) "append" apos) [e] [] cpos) none pos.line X.env = pure false := by rfl) : EvS X ss (.Expr (.Call (.Attribute (.Name x p1) "append" apos) [e] [] cpos) pos) D := .mk fun B F H σ h tk => by
  obtain ⟨p, c, e1, hc, qs, e2, nd, hq⟩ := h.own hi
  have hh := (hc _ _ e2).1
  refine toS (ps_expr (pe_bm PySem.F.plainAttrs_list PySem.F.slot_list_append PySem.F.type_list_append mt_append (pe_var hN hv hd hcd) (pa_cons PEw pa_nil hs) hbase hfew hline hs hplain) hsw) ?_
  refine ⟨_, e1, .inl ⟨rfl, _, SqL.of hh⟩, ?_⟩
  refine he B F H σ h _ fun v F' H' g r => ?_
  refine ⟨p, _, v, rfl, rfl, g.h.c hh, by rw [List.length_map, hq.len]; exact hl, ?_⟩
  obtain ⟨p', c', e1', hc', ⟨qs', e2', nd', hq'⟩, wr⟩ := (h.grow g).write hi
  rw [e1] at e1'
  injection e1' with e1'
  injection e1' with e1'
  injection e1' with e1'
  subst e1'
  obtain ⟨w0, w1, w2, w3⟩ := cell_wr (o1 := .lst (qs.map V.ref ++ [v])) e2' (fun z => z) (fun a ob ea => (hc' a ob ea).1)
  exact ⟨F', _, wr oJunk _ _ w0 w1 w2 w3 ⟨_, upd_same⟩, k⟩
end
/-! ### the same dict -/
section
variable {X : Cx} {ss : List Sl} {a b : Expr} {pos : Pos} {k : Nat} {ρ τ : R} {κ : Type} [DecidableEq κ] [KeyF κ] {kvs : List (κ × Nat)}
def rNeDK : R2 := fun x y H Q => ∃ a b ks, x = .ref a ∧ y = .ref b ∧ Rd H a (.dK ks) ∧ Rd H b (.dK ks) ∧ (ks.map (·.1)).Nodup ∧ (∀ p ∈ ks, flatB p.2 = true) ∧ Q (.bl false) H
theorem rd_dk {X : Cx} {pins : List (Addr × Obj)} {σ : L2.St} {H : Hp} {s : Shared} {d : Addr} {ks : List (Key × V)} (I : L2.Inv X pins σ H s) (h : Rd H d (.dK ks)) : ∃ H2 : Hp, ObjOk X.prog X.w H2 s.heap d (.dK ks) := by
  rcases h with h | ⟨o, h⟩
  · exact ⟨H, I.hok d _ h⟩
  · obtain ⟨_, h2⟩ := I.hok d _ h
    exact ⟨_, h2⟩
omit [Tbs] in
theorem valV_self : ∀ {ks : List (Key × V)}, (ks.map (·.1)).Nodup → ∀ p ∈ ks, valV ks p.1 = some p.2
  | [], _, _, h => by cases h
  | q :: ks, hn, p, h => by
    rw [List.map_cons, List.nodup_cons] at hn
    rcases List.mem_cons.mp h with e | e
    · subst e
      simp [valV]
    · have hne : ¬ q.1 = p.1 := fun z => hn.1 (by rw [z]; exact List.mem_map_of_mem e)
      have ih := valV_self hn.2 p e
      unfold valV at ih ⊢
      rw [List.find?_cons]
      simp [hne]
      simpa using ih
theorem op_neDK (hu : X.A.units < cLine) : OpR X (compareOp .NotEq) rNeDK := by
  intro pins s σ H x y v u Q I rx ry h
  obtain ⟨a, b, ks, rfl, rfl, ea, eb, hnd, hp, q⟩ := h
  obtain rfl : v = Value.ref a := rx
  obtain rfl : u = Value.ref b := ry
  obtain ⟨Ha, _, ya, va, ra, da⟩ := rd_dk I ea
  obtain ⟨Hb, _, yb, vb, rb, db⟩ := rd_dk I eb
  have hl : va.length = vb.length := by rw [← ra.length, ← rb.length]
  exact PySem.W.keq_ne (knd := mixKind X.prog X.w) (r := true) ya yb da db hu (fun _ => hits_all rb ra fun p h => ⟨valV_self hnd p h, hp p h⟩) (fin_bl I q (by simp [hl]))
omit [Tbs] in
theorem kfr_nat {F : Hp} : ∀ {kvs : List (κ × Nat)} {ws : List (Key × V)}, KfR sNat F kvs ws → ws = kvs.map fun a => (KeyF.enc a.1, V.int (a.2 : Int))
  | _, _, .nil => rfl
  | _, _, .cons (b := b) ⟨⟨e, _⟩, r⟩ t => by
    rw [List.map_cons, ← kfr_nat t, ← e]
    have e2 : b.2 = V.int _ := r
    rw [← e2]
theorem et_neDK (hr : Room k X.A) [hq : AsDK ρ sNat kvs] [hq2 : AsDK τ sNat kvs] (ha : EvE X ss a ρ) (hb : EvE X ss b τ) (hn : (kvs.map (·.1)).Nodup) : EvT X ss (.Compare a [.NotEq] [b] pos) false :=
  ev_cmpT (op_neDK (by have := room64 hr; omega)) ha hb (fun F H v w Q sF rx ry q => by
    obtain ⟨d1, w1, rfl, h1, k1⟩ := hq.w F H _ sF rx
    obtain ⟨d2, w2, rfl, h2, k2⟩ := hq2.w F H _ sF ry
    rw [kfr_nat k1] at h1
    rw [kfr_nat k2] at h2
    refine ⟨d1, d2, _, rfl, rfl, h1, h2, ?_, fun p hp => ?_, q⟩
    · rw [List.map_map]
      show (kvs.map fun a => KeyF.enc a.1).Nodup
      have e : (kvs.map fun a => KeyF.enc a.1) = (kvs.map (·.1)).map KeyF.enc := by rw [List.map_map]; rfl
      rw [e]
      exact (List.pairwise_map.mpr (hn.imp fun h z => h (KeyF.inj _ _ z)))
    · obtain ⟨a, _, rfl⟩ := List.mem_map.mp hp
      rfl) (nomark _)
end
/-! ### a new dict, locked at once -/
section
variable {X : Cx} {ss : List Sl} {e : Expr} {κ α : Type} [DecidableEq κ] [KeyF κ] {T : α → S} {kvs : List (κ × α)}
theorem ev_lockK (h : EvN X ss e (oDK T kvs)) : EvE X ss e (sv (sO (oDL T kvs))) := .mk fun B F H σ hS Q q => by
  intro pins s I
  refine thn (h.go B F H σ hS (fun v H' => ∃ (p : Addr) (F' k : Hp), v = .ref p ∧ Grow F H F' H' ∧ (∀ a ob, k a = some ob → H a = none ∧ (F' a = none ∨ IsT ob) ∧ H' a = some ob) ∧ (oDK T kvs).r F' k p) (fun p F' H' k g n r => ⟨p, F', k, rfl, g, n, r⟩) pins s I) fun u s' hu => ?_
  obtain ⟨v, H1, I1, rv, p, F1, k, rfl, g1, n, ws, hp, hk⟩ := hu
  obtain ⟨n1, n2, n3⟩ := n p _ hp
  obtain ⟨od, I2⟩ := I1.lock n3 (by exact True.intro)
  have f1 : F1 p = none := n2.resolve_right (fun z => z)
  refine ⟨_, _, I2, rv, q _ (upd F1 p (.frz od (.dK ws))) _ ⟨g1.f.trans (same_new f1), g1.h.put n1 n3, ?_, ?_⟩ ⟨p, upd F1 p (.frz od (.dK ws)), rfl, fun _ _ h => h, od, ws, upd_same, hk.mono (same_new f1)⟩⟩
  · refine ⟨fun a o ea => ?_, g1.s.t.put n3, fun a o ea => ?_⟩
    · by_cases ha : a = p
      · subst ha; rw [upd_same] at ea ⊢; exact ea
      · rw [upd_ne ha] at ea ⊢; exact g1.s.s a o ea
    · by_cases ha : a = p
      · subst ha; exact g1.s.t.nl n3 (fun _ z => by cases z)
      · rw [upd_ne ha] at ea; exact g1.s.n a o ea
  · intro a o ea na
    by_cases ha : a = p
    · subst ha; exact .inl n1
    · rw [upd_ne ha] at ea; exact g1.n a o ea na
end
end Sx
namespace My
open PySem PySem.Spec PyProof.Rows L2 Sx
def topS (i : Nat) : Stmt := PySem.Challenge.pw_caseslive_k10_variants.main.body.getD i (.Pass ⟨0, 0, 0, 0⟩)
abbrev s_with_one_more : Stmt := topS 1
theorem sc_with_one_more : FnScope ["ends", "activity", "found", "end", "place"] ["ends", "activity"] (defScope s_with_one_more) := ⟨rfl, rfl, rfl, by decide +kernel, rfl, by decide +kernel, by decide +kernel⟩
abbrev s_in_order : Stmt := topS 2
theorem sc_in_order : FnScope ["traces", "names", "rows", "activity", "trace", "row"] ["traces", "names"] (defScope s_in_order) := ⟨rfl, rfl, rfl, by decide +kernel, rfl, by decide +kernel, by decide +kernel⟩
abbrev s_variants : Stmt := topS 3
theorem sc_variants : FnScope ["running", "late", "places", "names", "kept", "ends", "activity", "_", "start", "end"] ["running", "late", "places", "names"] (defScope s_variants) := ⟨rfl, rfl, rfl, by decide +kernel, rfl, by decide +kernel, by decide +kernel⟩
abbrev s_law_cell : Stmt := topS 5
theorem sc_law_cell : FnScope ["script", "k"] ["script", "k"] (defScope s_law_cell) := ⟨rfl, rfl, rfl, by decide +kernel, rfl, by decide +kernel, by decide +kernel⟩
abbrev s_law_row : Stmt := topS 6
theorem sc_law_row : FnScope ["cell", "count", "row", "rest", "seed", "k"] ["cell", "count"] (defScope s_law_row) := ⟨rfl, rfl, rfl, by decide +kernel, rfl, by decide +kernel, by decide +kernel⟩
abbrev s_law_word : Stmt := topS 7
theorem sc_law_word : FnScope ["number", "letters", "word"] ["number"] (defScope s_law_word) := ⟨rfl, rfl, rfl, by decide +kernel, rfl, by decide +kernel, by decide +kernel⟩
abbrev s_law_names : Stmt := topS 8
theorem sc_law_names : FnScope ["cell", "row", "names", "k", "word"] ["cell"] (defScope s_law_names) := ⟨rfl, rfl, rfl, by decide +kernel, rfl, by decide +kernel, by decide +kernel⟩
abbrev s_law_trace : Stmt := topS 9
theorem sc_law_trace : FnScope ["names", "cell", "size", "number"] ["names", "cell", "size"] (defScope s_law_trace) := ⟨rfl, rfl, rfl, by decide +kernel, rfl, by decide +kernel, by decide +kernel⟩
abbrev s_law_traces : Stmt := topS 10
theorem sc_law_traces : FnScope ["names", "cell", "count", "size", "row", "traces", "at", "k", "length", "number"] ["names", "cell", "count", "size"] (defScope s_law_traces) := ⟨rfl, rfl, rfl, by decide +kernel, rfl, by decide +kernel, by decide +kernel⟩
abbrev s_law_late : Stmt := topS 11
theorem sc_law_late : FnScope ["names", "cell", "late", "left", "k", "count"] ["names", "cell"] (defScope s_law_late) := ⟨rfl, rfl, rfl, by decide +kernel, rfl, by decide +kernel, by decide +kernel⟩
abbrev s_law_put : Stmt := topS 12
theorem sc_law_put : FnScope ["rows", "name", "found", "row", "at", "longer"] ["rows", "name"] (defScope s_law_put) := ⟨rfl, rfl, rfl, by decide +kernel, rfl, by decide +kernel, by decide +kernel⟩
abbrev s_law_all : Stmt := topS 13
theorem sc_law_all : FnScope ["last", "late", "names", "rows", "name", "found", "layer", "k"] ["last", "late", "names"] (defScope s_law_all) := ⟨rfl, rfl, rfl, by decide +kernel, rfl, by decide +kernel, by decide +kernel⟩
abbrev s_law : Stmt := topS 14
theorem sc_law : FnScope ["script", "names", "running", "cell", "late", "places", "kept", "rows", "ranks", "k", "name", "row", "due", "triple", "given", "passed"] ["script"] (defScope s_law) := ⟨rfl, rfl, rfl, by decide +kernel, rfl, by decide +kernel, by decide +kernel⟩
section
variable [Tbs]
variable {P : Program} {w : World} {K : PySem.W.Frag} {mg : Str → Option Value} {base : Heap} {f : Addr} {fd : FuncData}
/-! ### small facts -/
theorem sz {n : Nat} (h : n ≤ 16777216) : n ≤ sizeLine := by rw [sizeLine_eq]; exact h
theorem szl {n : Nat} (h : n < 16777216) : n < sizeLine := by rw [sizeLine_eq]; exact h
theorem atI_int {α : Type} {xs : List α} {i : Int} (d : α) (h0 : 0 ≤ i) (h1 : i < xs.length) : atI xs i = some (xs.getD i.toNat d) := by
  have e : i = ((i.toNat : Nat) : Int) := by omega
  have hl : i.toNat < xs.length := by omega
  have h := atI_nat (List.getElem?_eq_getElem hl)
  rw [← e] at h
  rw [h]
  simp [List.getD, hl]
theorem atI_n {α : Type} {xs : List α} {k : Nat} (d : α) (h : k < xs.length) : atI xs (k : Int) = some (xs.getD k d) := atI_int d (by omega) (by omega)
theorem len_app (x y : Str) : (x ++ y).length = x.length + y.length := Array.size_append
theorem foldl_take {α β : Type} {f : β → α → β} {b : β} {xs : List α} {k : Nat} {x : α} (h : xs[k]? = some x) : (xs.take (k + 1)).foldl f b = f ((xs.take k).foldl f b) x := by
  rw [List.take_add_one, h, Option.toList_some, List.foldl_append]
  rfl
theorem take_all {α : Type} (xs : List α) : xs.take xs.length = xs := List.take_length
def cellN (ns : List Int) (k : Nat) : Int := ns.getD k 0
def Phi_law_cell (K : PySem.W.Frag) (as : List S) (s : S) : Prop := ∃ (ns : List Int) (k : Nat), as = [sLq K sInt ns, sInt (k : Int)] ∧ s = sInt (cellN ns k)
theorem ok_law_cell (F : FunE K "_law_cell" "_law_cell" s_law_cell f fd) (m_len : mg "len" = none) : FnOk P w K mg base CX0 1 f fd ["script", "k"] (spOf (Phi_law_cell K)) := by
  refine fn_ok F sc_law_cell (fun as s h => by obtain ⟨ns, k, rfl, _⟩ := h; rfl) (fun cdv A outer s0 H0 E as s hr h => ?_)
  obtain ⟨ns, k, rfl, rfl⟩ := h
  refine r_cons (s_if (et_lt (ev_var 1 rfl) (ev_len m_len (ev_var 0 rfl).lq)) (fun h1 => ?_) (fun h1 => ?_))
  · have hk : k < ns.length := by have := of_decide_eq_true h1; omega
    exact r_one (s_ret (ev_ix (ev_var 0 rfl).lq (ev_var 1 rfl) (atI_n 0 hk)) (fun _ _ r => r))
  · have hk : ¬ k < ns.length := by have := of_decide_eq_false h1; omega
    exact r_nil (r_one (s_ret ev_int (fun _ _ r => by
      have e : cellN ns k = 0 := by simp [cellN, List.getD, hk]
      rw [e]; exact r)))
def rowSt (c : Int) : Nat → List Int × Int × Int
  | 0 => ([], c, c % 2147483629 + 1)
  | k + 1 => if 10 ^ 18 ≤ c then ((rowSt c k).1 ++ [(rowSt c k).2.1 % 840], (rowSt c k).2.1 / 840, (rowSt c k).2.2)
    else ((rowSt c k).1 ++ [((rowSt c k).2.2 * 48271 + k) % 2147483647 * 69621 % 2147483629 / 7 % 840], (rowSt c k).2.1, ((rowSt c k).2.2 * 48271 + k) % 2147483647)
@[irreducible] def lawRow (c : Int) (n : Nat) : List Int := (rowSt c n).1
theorem lawRow_eq (c : Int) (n : Nat) : lawRow c n = (rowSt c n).1 := by unfold lawRow; rfl
theorem rowSt_big {c : Int} (h : 10 ^ 18 ≤ c) (k : Nat) : rowSt c (k + 1) = ((rowSt c k).1 ++ [(rowSt c k).2.1 % 840], (rowSt c k).2.1 / 840, (rowSt c k).2.2) := if_pos h
theorem rowSt_small {c : Int} (h : ¬ 10 ^ 18 ≤ c) (k : Nat) : rowSt c (k + 1) = ((rowSt c k).1 ++ [((rowSt c k).2.2 * 48271 + k) % 2147483647 * 69621 % 2147483629 / 7 % 840], (rowSt c k).2.1, ((rowSt c k).2.2 * 48271 + k) % 2147483647) := if_neg h
theorem rowSt_ok (c : Int) : ∀ k, (rowSt c k).1.length = k ∧ (∀ x ∈ (rowSt c k).1, 0 ≤ x ∧ x < 840) ∧ 0 ≤ (rowSt c k).2.2 ∧ (rowSt c k).2.2 < 2147483648
  | 0 => by
    refine ⟨rfl, fun x hx => ?_, ?_, ?_⟩
    · have hx' : x ∈ ([] : List Int) := hx
      cases hx'
    · show 0 ≤ c % 2147483629 + 1
      omega
    · show c % 2147483629 + 1 < 2147483648
      omega
  | k + 1 => by
    obtain ⟨h1, h2, h3, h4⟩ := rowSt_ok c k
    by_cases h : 10 ^ 18 ≤ c
    · rw [rowSt_big h]
      refine ⟨by simp [h1], fun x hx => ?_, h3, h4⟩
      rcases List.mem_append.mp hx with q | q
      · exact h2 x q
      · have e : x = (rowSt c k).2.1 % 840 := by simpa using q
        omega
    · rw [rowSt_small h]
      refine ⟨by simp [h1], fun x hx => ?_, ?_, ?_⟩
      · rcases List.mem_append.mp hx with q | q
        · exact h2 x q
        · have e : x = ((rowSt c k).2.2 * 48271 + k) % 2147483647 * 69621 % 2147483629 / 7 % 840 := by simpa using q
          omega
      · show 0 ≤ ((rowSt c k).2.2 * 48271 + k) % 2147483647
        omega
      · show ((rowSt c k).2.2 * 48271 + k) % 2147483647 < 2147483648
        omega
theorem lawRow_len (c : Int) (n : Nat) : (lawRow c n).length = n := by rw [lawRow_eq]; exact (rowSt_ok c n).1
theorem lawRow_mem {c : Int} {n : Nat} {x : Int} (h : x ∈ lawRow c n) : 0 ≤ x ∧ x < 840 := by rw [lawRow_eq] at h; exact (rowSt_ok c n).2.1 x h
theorem lawRow_get {c : Int} {n k : Nat} : 0 ≤ (lawRow c n).getD k 0 ∧ (lawRow c n).getD k 0 < 840 := by
  by_cases h : k < (lawRow c n).length
  · have e : (lawRow c n).getD k 0 = (lawRow c n)[k] := by simp [List.getD, h]
    rw [e]
    exact lawRow_mem (List.getElem_mem h)
  · have e : (lawRow c n).getD k 0 = 0 := by simp [List.getD, h]
    rw [e]
    decide
def Phi_law_row (as : List S) (s : S) : Prop := ∃ (c : Int) (n : Nat), as = [sInt c, sInt (n : Int)] ∧ n ≤ 1000000 ∧ s = sLst sInt (lawRow c n)
theorem ok_law_row (F : FunE K "_law_row" "_law_row" s_law_row f fd) (m_range : mg "range" = none) (m_int : mg "int" = none) : FnOk P w K mg base CX0 1 f fd ["cell", "count"] (spOf Phi_law_row) := by
  refine fn_ok F sc_law_row (fun as s h => by obtain ⟨c, n, rfl, _⟩ := h; rfl) (fun cdv A outer s0 H0 E as s hr h => ?_)
  obtain ⟨c, n, rfl, hn, rfl⟩ := h
  refine r_cons (s_asgN 2 sc_law_row.nd (ev_lst (T := sInt) em_nil (Nat.zero_le _)) ?_)
  refine r_cons (s_asg 3 sc_law_row.nd (ev_var 0 rfl) ?_)
  refine r_cons (s_asg 4 sc_law_row.nd (ev_add (ev_mod (ev_intI m_int (ev_var 0 rfl)) ev_int (by decide)) ev_int) ?_)
  refine r_cons (s_forR 5 PassesOwn.never rfl sc_law_row.nd m_range (fun k ss' => ∃ x, ss' = [.val (sInt c), .val (sInt n), .own (oLst sInt (rowSt c k).1), .val (sInt (rowSt c k).2.1), .val (sInt (rowSt c k).2.2), x])
    (ev_var 1 rfl) (by omega) ⟨_, rfl⟩ ?_ ?_)
  · rintro k ss' hk ⟨x, rfl⟩
    obtain ⟨h1, _, h3, h4⟩ := rowSt_ok c k
    have hl : (rowSt c k).1.length < sizeLine := szl (by rw [h1]; omega)
    refine r_one (s_if (et_ge (ev_var 0 rfl) (ev_pow ev_int ev_int ⟨by decide, by decide, by decide⟩)) (fun hc => ?_) (fun hc => ?_))
    · refine r_cons (s_app 2 rfl (ev_mod (ev_intI m_int (ev_var 3 rfl)) ev_int (by decide)) hl ?_)
      refine r_one (s_asg 3 sc_law_row.nd (ev_div (ev_var 3 rfl) ev_int ⟨by decide, by decide⟩) ?_)
      refine ⟨.val (sInt (k : Int)), ?_⟩
      rw [rowSt_big (of_decide_eq_true hc)]
      rfl
    · refine r_cons (s_asg 4 sc_law_row.nd (ev_mod (ev_intI m_int (ev_add (ev_mul (ev_var 4 rfl) ev_int (.inr ⟨by decide, by decide⟩)) (ev_var 5 rfl))) ev_int (by decide)) ?_)
      refine r_one (s_app 2 rfl (ev_mod (ev_div (ev_mod (ev_intI m_int (ev_mul (ev_var 4 rfl) ev_int (.inr ⟨by decide, by decide⟩))) ev_int (by decide)) ev_int ⟨by decide, by decide⟩) ev_int (by decide)) hl ?_)
      refine ⟨.val (sInt (k : Int)), ?_⟩
      rw [rowSt_small (of_decide_eq_false hc)]
      rfl
  · rintro ss' ⟨x, rfl⟩
    exact r_pub 2 rfl (r_one (s_ret (ev_var 2 rfl) (fun F v hv => by rw [lawRow_eq]; exact hv)))
def lettersS : Str := "abcdefghijklmnopqrstuvwxyz"
def let1 (i : Int) : Str := ⟨#[97 + (i % 26).toNat]⟩
theorem letters_get : ∀ k : Nat, k < 26 → lettersS.cps.toList[k]? = some (97 + k) := by decide +kernel
theorem letters_at (i : Int) : atI lettersS.cps.toList (i % 26) = some (97 + (i % 26).toNat) := by
  have h0 : 0 ≤ i % 26 := by omega
  have e : i % 26 = (((i % 26).toNat : Nat) : Int) := by omega
  have h := atI_nat (letters_get (i % 26).toNat (by omega))
  rw [← e] at h
  exact h
def WordOk (lo hi : Nat) (x : Str) : Prop := lo ≤ x.length ∧ x.length ≤ hi ∧ ∀ n ∈ x.cps.toList, 97 ≤ n ∧ n ≤ 122
theorem let1_ok (i : Int) : WordOk 1 1 (let1 i) := ⟨Nat.le_refl _, Nat.le_refl _, fun n hn => by
  have e : n = 97 + (i % 26).toNat := by simpa [let1] using hn
  omega⟩
theorem WordOk.app {a b c d : Nat} {x y : Str} (hx : WordOk a b x) (hy : WordOk c d y) : WordOk (a + c) (b + d) (x ++ y) := ⟨by rw [len_app]; exact Nat.add_le_add hx.1 hy.1, by rw [len_app]; exact Nat.add_le_add hx.2.1 hy.2.1, fun n hn => by
  have hn' : n ∈ (x.cps ++ y.cps).toList := hn
  rw [Array.toList_append] at hn'
  rcases List.mem_append.mp hn' with q | q
  · exact hx.2.2 n q
  · exact hy.2.2 n q⟩
theorem WordOk.mono {a b c d : Nat} {x : Str} (h : WordOk a b x) (h1 : c ≤ a) (h2 : b ≤ d) : WordOk c d x := ⟨Nat.le_trans h1 h.1, Nat.le_trans h.2.1 h2, h.2.2⟩
theorem WordOk.sz' {a b : Nat} {x y : Str} (h : WordOk a b (x ++ y)) : x.length + y.length ≤ b := by
  have := h.2.1
  rwa [len_app] at this
theorem WordOk.sz {a b : Nat} {x : Str} (h : WordOk a b x) (hb : b ≤ 1000) : x.length ≤ 1000 := Nat.le_trans h.2.1 hb
def wordB (n : Int) : Str := if 0 < n / 26 % 3 then let1 n ++ let1 (n / 3) else let1 n
def lawWord (n : Int) : Str := if n / 26 % 3 = 2 then wordB n ++ let1 (n / 5) ++ let1 (n / 11) ++ let1 (n / 2) else wordB n
theorem wordB_ok (n : Int) : WordOk 1 2 (wordB n) := by
  unfold wordB
  by_cases h : 0 < n / 26 % 3
  · rw [if_pos h]
    exact ((let1_ok n).app (let1_ok _)).mono (by decide) (by decide)
  · rw [if_neg h]
    exact (let1_ok n).mono (by decide) (by decide)
theorem lawWord_ok (n : Int) : WordOk 1 5 (lawWord n) := by
  unfold lawWord
  by_cases h : n / 26 % 3 = 2
  · rw [if_pos h]
    exact ((((wordB_ok n).app (let1_ok _)).app (let1_ok _)).app (let1_ok _)).mono (by decide) (by decide)
  · rw [if_neg h]
    exact (wordB_ok n).mono (by decide) (by decide)
theorem sz1 {n : Nat} (h : n ≤ 2000) : n ≤ sizeLine := sz (Nat.le_trans h (by decide))
def Phi_law_word (as : List S) (s : S) : Prop := ∃ (n : Int), as = [sInt n] ∧ s = sStr (lawWord n)
theorem ok_law_word (F : FunE K "_law_word" "_law_word" s_law_word f fd) : FnOk P w K mg base CX0 1 f fd ["number"] (spOf Phi_law_word) := by
  refine fn_ok F sc_law_word (fun as s h => by obtain ⟨n, rfl, _⟩ := h; rfl) (fun cdv A outer s0 H0 E as s hr h => ?_)
  obtain ⟨n, rfl, rfl⟩ := h
  have hz : lettersS.length ≤ sizeLine := sz (by decide +kernel)
  refine r_cons (s_asg 1 sc_law_word.nd (s := sStr lettersS) ev_str ?_)
  refine r_cons (s_asg 2 sc_law_word.nd (s := sStr (let1 n)) (ev_ixS (ev_var 1 rfl) (ev_mod (ev_var 0 rfl) ev_int (by decide)) hz (letters_at n)) ?_)
  refine r_cut (fun ss' => ss' = [.val (sInt n), .val (sStr lettersS), .val (sStr (wordB n))]) (s_if (et_gt (ev_mod (ev_div (ev_var 0 rfl) ev_int ⟨by decide, by decide⟩) ev_int (by decide)) ev_int) (fun h => ?_) (fun h => ?_)) ?_
  · refine r_one (s_asg 2 sc_law_word.nd (s := sStr (let1 n ++ let1 (n / 3))) (ev_catS (ev_var 2 rfl) (ev_ixS (ev_var 1 rfl) (ev_mod (ev_div (ev_var 0 rfl) ev_int ⟨by decide, by decide⟩) ev_int (by decide)) hz (letters_at _)) (sz1 (show 1 + 1 ≤ 2000 by decide))) ?_)
    show _ = _
    unfold wordB
    rw [if_pos (of_decide_eq_true h)]
    rfl
  · refine r_nil ?_
    show _ = _
    unfold wordB
    rw [if_neg (of_decide_eq_false h)]
    rfl
  rintro ss' rfl
  have hw := wordB_ok n
  refine r_cons (s_if (et_eq sInt hr (ev_mod (ev_div (ev_var 0 rfl) ev_int ⟨by decide, by decide⟩) ev_int (by decide)) ev_int) (fun h => ?_) (fun h => ?_))
  · refine r_one (s_asg 2 sc_law_word.nd (s := sStr (wordB n ++ let1 (n / 5) ++ let1 (n / 11) ++ let1 (n / 2))) (ev_catS (ev_catS (ev_catS (ev_var 2 rfl) (ev_ixS (ev_var 1 rfl) (ev_mod (ev_div (ev_var 0 rfl) ev_int ⟨by decide, by decide⟩) ev_int (by decide)) hz (letters_at _)) (sz1 ?_))
      (ev_ixS (ev_var 1 rfl) (ev_mod (ev_div (ev_var 0 rfl) ev_int ⟨by decide, by decide⟩) ev_int (by decide)) hz (letters_at _)) (sz1 ?_)) (ev_ixS (ev_var 1 rfl) (ev_mod (ev_div (ev_var 0 rfl) ev_int ⟨by decide, by decide⟩) ev_int (by decide)) hz (letters_at _)) (sz1 ?_)) ?_)
    · exact Nat.le_trans (hw.app (let1_ok _)).sz' (by decide)
    · exact Nat.le_trans ((hw.app (let1_ok _)).app (let1_ok _)).sz' (by decide)
    · exact Nat.le_trans (((hw.app (let1_ok _)).app (let1_ok _)).app (let1_ok _)).sz' (by decide)
    · refine r_one (s_ret (ev_var 2 rfl) (fun F v hv => ?_))
      unfold lawWord
      rw [if_pos (of_decide_eq_true h)]
      exact hv
  · refine r_nil (r_one (s_ret (ev_var 2 rfl) (fun F v hv => ?_)))
    unfold lawWord
    rw [if_neg (of_decide_eq_false h)]
    exact hv
def nmExt : Str := "abcdefgh"
def nmQ : Str := "q"
def nm1 (r : List Int) (k : Nat) : Str := if r.getD k 0 / 50 % 6 = 5 then cutS (lawWord (r.getD k 0) ++ nmExt) none (some (7 + r.getD k 0 % 2)) else lawWord (r.getD k 0)
def nm2 (r : List Int) (k : Nat) (ns : List Str) : Str := if nm1 r k ∈ ns then cutS (nm1 r k ++ nmQ) (some (-8)) none else nm1 r k
def nmSt (r : List Int) : Nat → List Str
  | 0 => []
  | k + 1 => if nm2 r k (nmSt r k) ∈ nmSt r k then nmSt r k else nmSt r k ++ [nm2 r k (nmSt r k)]
def nmCounts : List Int := [1, 2, 2, 3, 3, 4, 2, 3, 5]
@[irreducible] def nmCount (r : List Int) : Int := nmCounts.getD (r.getD 5 0 % 9).toNat 0
def lawNames (c : Int) : List Str := nmSt (lawRow c 6) (nmCount (lawRow c 6)).toNat
theorem cutS_len (z : Str) (lo hi : Option Int) : (cutS z lo hi).length = HT.sIx z.length z.length hi - HT.sIx z.length 0 lo - 0 - (HT.sIx z.length z.length hi - HT.sIx z.length 0 lo - (z.length - HT.sIx z.length 0 lo)) := by
  have e : z.cps.toList.length = z.length := Array.length_toList
  show (((z.cps.toList.drop (HT.sIx z.length 0 lo)).take (HT.sIx z.length z.length hi - HT.sIx z.length 0 lo)).toArray).size = _
  rw [List.size_toArray, List.length_take, List.length_drop, e]
  omega
theorem cutS_mem {z : Str} {lo hi : Option Int} {n : Nat} (h : n ∈ (cutS z lo hi).cps.toList) : n ∈ z.cps.toList := List.mem_of_mem_drop (List.mem_of_mem_take h)
theorem nmExt_ok : WordOk 8 8 nmExt := ⟨by decide +kernel, by decide +kernel, by decide +kernel⟩
theorem nmQ_ok : WordOk 1 1 nmQ := ⟨by decide +kernel, by decide +kernel, by decide +kernel⟩
theorem sIx_neg8 {n : Nat} (h : 2 ≤ n) (h2 : n ≤ 9) : HT.sIx n 0 (some (-8)) ≤ n - 2 := by
  unfold HT.sIx
  show (if (-8 : Int) < 0 then (-8 + (n : Int)).toNat else _) ≤ _
  rw [if_pos (by decide)]
  omega
theorem nm1_ok (r : List Int) (k : Nat) : WordOk 1 8 (nm1 r k) := by
  unfold nm1
  by_cases h : r.getD k 0 / 50 % 6 = 5
  · rw [if_pos h]
    have hw := (lawWord_ok (r.getD k 0)).app nmExt_ok
    have hl := hw.1
    have hu := hw.2.1
    obtain ⟨m, hm, e⟩ : ∃ m : Nat, (m = 7 ∨ m = 8) ∧ 7 + r.getD k 0 % 2 = (m : Int) := by
      rcases (show r.getD k 0 % 2 = 0 ∨ r.getD k 0 % 2 = 1 by omega) with q | q
      · exact ⟨7, .inl rfl, by rw [q]; rfl⟩
      · exact ⟨8, .inr rfl, by rw [q]; rfl⟩
    have e2 := HT.sIx_nat (lawWord (r.getD k 0) ++ nmExt).length (lawWord (r.getD k 0) ++ nmExt).length m
    have e3 := HT.sIx_none (lawWord (r.getD k 0) ++ nmExt).length 0
    have e4 := cutS_len (lawWord (r.getD k 0) ++ nmExt) none (some (7 + r.getD k 0 % 2))
    rw [e, e2, e3] at e4
    rw [e]
    exact ⟨by rw [e4]; omega, by rw [e4]; omega, fun n hn => hw.2.2 n (cutS_mem hn)⟩
  · rw [if_neg h]
    exact (lawWord_ok _).mono (by decide) (by decide)
theorem nm2_ok (r : List Int) (k : Nat) (ns : List Str) : WordOk 1 8 (nm2 r k ns) := by
  unfold nm2
  by_cases h : nm1 r k ∈ ns
  · rw [if_pos h]
    have hw := (nm1_ok r k).app nmQ_ok
    have hl := hw.1
    have hu := hw.2.1
    have e2 := HT.sIx_none (nm1 r k ++ nmQ).length (nm1 r k ++ nmQ).length
    have e3 := sIx_neg8 hl hu
    have e4 := cutS_len (nm1 r k ++ nmQ) (some (-8)) none
    rw [e2] at e4
    have e5 : (nm1 r k ++ nmQ).length - 8 ≤ HT.sIx (nm1 r k ++ nmQ).length 0 (some (-8)) := by
      unfold HT.sIx
      show _ ≤ (if (-8 : Int) < 0 then (-8 + (((nm1 r k ++ nmQ).length : Nat) : Int)).toNat else _)
      rw [if_pos (by decide)]
      omega
    exact ⟨by rw [e4]; omega, by rw [e4]; omega, fun n hn => hw.2.2 n (cutS_mem hn)⟩
  · rw [if_neg h]
    exact nm1_ok r k
theorem nmSt_ok (r : List Int) : ∀ k, (nmSt r k).length ≤ k ∧ (nmSt r k).Nodup ∧ (∀ x ∈ nmSt r k, WordOk 1 8 x) ∧ (0 < k → nmSt r k ≠ [])
  | 0 => by
    refine ⟨Nat.le_refl _, List.nodup_nil, fun x hx => ?_, fun h => absurd h (by decide)⟩
    have hx' : x ∈ ([] : List Str) := hx
    cases hx'
  | k + 1 => by
    obtain ⟨h1, h2, h3, h4⟩ := nmSt_ok r k
    unfold nmSt
    by_cases h : nm2 r k (nmSt r k) ∈ nmSt r k
    · rw [if_pos h]
      exact ⟨Nat.le_succ_of_le h1, h2, h3, fun _ e => by rw [e] at h; cases h⟩
    · rw [if_neg h]
      refine ⟨by rw [List.length_append]; exact Nat.succ_le_succ h1, ?_, fun x hx => ?_, fun _ e => by simp at e⟩
      · rw [List.nodup_append]
        refine ⟨h2, by simp, fun a ha b hb e => ?_⟩
        have hb' : b = nm2 r k (nmSt r k) := by simpa using hb
        rw [e, hb'] at ha
        exact h ha
      · rcases List.mem_append.mp hx with q | q
        · exact h3 x q
        · have e : x = nm2 r k (nmSt r k) := by simpa using q
          rw [e]
          exact nm2_ok _ _ _
theorem nmCount_ok (r : List Int) : 1 ≤ nmCount r ∧ nmCount r ≤ 5 := by
  have h : ∀ j : Nat, j < 9 → 1 ≤ nmCounts.getD j 0 ∧ nmCounts.getD j 0 ≤ 5 := by decide
  unfold nmCount
  exact h _ (by omega)
structure NamesOk (ns : List Str) : Prop where
  ne : ns ≠ []
  le : ns.length ≤ 5
  nd : ns.Nodup
  wd : ∀ x ∈ ns, WordOk 1 8 x
theorem NamesOk.pos {ns : List Str} (h : NamesOk ns) : 0 < ns.length := List.length_pos_iff.mpr h.ne
theorem lawNames_ok (c : Int) : NamesOk (lawNames c) := by
  obtain ⟨h1, h2, h3, h4⟩ := nmSt_ok (lawRow c 6) (nmCount (lawRow c 6)).toNat
  have h5 := nmCount_ok (lawRow c 6)
  exact ⟨h4 (by omega), by unfold lawNames; omega, h2, h3⟩
def Phi_law_names (as : List S) (s : S) : Prop := ∃ (c : Int), as = [sInt c] ∧ s = sLst sStr (lawNames c)
theorem ok_law_names (F : FunE K "_law_names" "_law_names" s_law_names f fd) (m_range : mg "range" = none) (C_row : Callee P w K mg base 1 "_law_row" Phi_law_row) (C_word : Callee P w K mg base 1 "_law_word" Phi_law_word) : FnOk P w K mg base CX0 2 f fd ["cell"] (spOf Phi_law_names) := by
  refine fn_ok F sc_law_names (fun as s h => by obtain ⟨c, rfl, _⟩ := h; rfl) (fun cdv A outer s0 H0 E as s hr h => ?_)
  obtain ⟨c, rfl, rfl⟩ := h
  have hrl := lawRow_len c 6
  refine r_cons (s_asg 1 sc_law_names.nd (ev_call C_row hr (eas_cons (ev_var 0 rfl) (eas_cons ev_int eas_nil)) ⟨c, 6, rfl, by decide, rfl⟩) ?_)
  refine r_cons (s_asgN 2 sc_law_names.nd (ev_lst (T := sStr) em_nil (Nat.zero_le _)) ?_)
  have hc := nmCount_ok (lawRow c 6)
  have hat5 : atI nmCounts ((lawRow c 6).getD 5 0 % 9) = some (nmCount (lawRow c 6)) := by
    unfold nmCount
    exact atI_int 0 (by omega) (by show _ < (9 : Int); omega)
  refine r_cons (s_forR 3 PassesOwn.never rfl sc_law_names.nd m_range (n := nmCount (lawRow c 6)) (fun k ss' => ∃ x y, ss' = [.val (sInt c), .val (sLst sInt (lawRow c 6)), .own (oLst sStr (nmSt (lawRow c 6) k)), x, y])
    (ev_ix (T := sInt) (xs := nmCounts) (x := nmCount (lawRow c 6)) (ev_lst (T := sInt) (em_cons ev_int (em_cons ev_int (em_cons ev_int (em_cons ev_int (em_cons ev_int (em_cons ev_int (em_cons ev_int (em_cons ev_int (em_cons ev_int em_nil))))))))) (sz (by decide))).toE (ev_mod (ev_ix (ev_var 1 rfl) ev_int (atI_n (k := 5) 0 (by rw [hrl]; decide))) ev_int (by decide)) hat5) (by omega) ⟨_, _, rfl⟩ ?_ ?_)
  · rintro k ss' hk ⟨x, y, rfl⟩
    obtain ⟨h1, h2, h3, _⟩ := nmSt_ok (lawRow c 6) k
    have hat : atI (lawRow c 6) (k : Int) = some ((lawRow c 6).getD k 0) := atI_n 0 (by rw [hrl]; omega)
    have hw := lawWord_ok ((lawRow c 6).getD k 0)
    refine r_cons (s_asg 4 sc_law_names.nd (ev_call C_word hr (eas_cons (ev_ix (ev_var 1 rfl) (ev_var 3 rfl) hat) eas_nil) ⟨_, rfl, rfl⟩) ?_)
    refine r_cut (fun ss' => ss' = [.val (sInt c), .val (sLst sInt (lawRow c 6)), .own (oLst sStr (nmSt (lawRow c 6) k)), .val (sInt (k : Int)), .val (sStr (nm1 (lawRow c 6) k))]) (s_if (et_eq sInt hr (ev_mod (ev_div (ev_ix (ev_var 1 rfl) (ev_var 3 rfl) hat) ev_int ⟨by decide, by decide⟩) ev_int (by decide)) ev_int) (fun h => ?_) (fun h => ?_)) ?_
    · refine r_one (s_asg 4 sc_law_names.nd (ev_slS (ev_catS (ev_var 4 rfl) (ev_str (x := nmExt)) (sz1 (Nat.le_trans (hw.app nmExt_ok).sz' (by decide)))) eo_none (eo_some (ev_add ev_int (ev_mod (ev_ix (ev_var 1 rfl) (ev_var 3 rfl) hat) ev_int (by decide)))) (sz1 (Nat.le_trans (hw.app nmExt_ok).2.1 (by decide)))) ?_)
      show _ = _
      unfold nm1
      rw [if_pos (of_decide_eq_true h)]
      rfl
    · refine r_nil ?_
      show _ = _
      unfold nm1
      rw [if_neg (of_decide_eq_false h)]
      rfl
    rintro ss' rfl
    have hw1 := nm1_ok (lawRow c 6) k
    refine r_cut (fun ss' => ss' = [.val (sInt c), .val (sLst sInt (lawRow c 6)), .own (oLst sStr (nmSt (lawRow c 6) k)), .val (sInt (k : Int)), .val (sStr (nm2 (lawRow c 6) k (nmSt (lawRow c 6) k)))]) (s_if (et_in sStr hr (ev_var 4 rfl) (ev_own 2 rfl)) (fun h => ?_) (fun h => ?_)) ?_
    · refine r_one (s_asg 4 sc_law_names.nd (ev_slS (ev_catS (ev_var 4 rfl) (ev_str (x := nmQ)) (sz1 (Nat.le_trans (hw1.app nmQ_ok).sz' (by decide)))) (eo_some (ev_neg ev_int)) eo_none (sz1 (Nat.le_trans (hw1.app nmQ_ok).2.1 (by decide)))) ?_)
      show _ = _
      unfold nm2
      rw [if_pos (of_decide_eq_true h)]
      rfl
    · refine r_nil ?_
      show _ = _
      unfold nm2
      rw [if_neg (of_decide_eq_false h)]
    rintro ss' rfl
    refine r_one (s_if (et_nin sStr hr (ev_var 4 rfl) (ev_own 2 rfl)) (fun h => ?_) (fun h => ?_))
    · have hn : ¬ nm2 (lawRow c 6) k (nmSt (lawRow c 6) k) ∈ nmSt (lawRow c 6) k := by simpa using h
      refine r_one (s_app 2 rfl (ev_var 4 rfl) (szl (by omega)) ?_)
      refine ⟨.val (sInt (k : Int)), .val (sStr (nm2 (lawRow c 6) k (nmSt (lawRow c 6) k))), ?_⟩
      rw [show nmSt (lawRow c 6) (k + 1) = _ from if_neg hn]
      rfl
    · have hn : nm2 (lawRow c 6) k (nmSt (lawRow c 6) k) ∈ nmSt (lawRow c 6) k := by simpa using h
      refine r_nil ⟨.val (sInt (k : Int)), .val (sStr (nm2 (lawRow c 6) k (nmSt (lawRow c 6) k))), ?_⟩
      rw [show nmSt (lawRow c 6) (k + 1) = _ from if_pos hn]
  · rintro ss' ⟨x, y, rfl⟩
    exact r_pub 2 rfl (r_one (s_ret (ev_var 2 rfl) (fun F v hv => hv)))
/-! ### rules -/
abbrev RD := List Bool × List (List Nat)
structure RuleOk (n : Nat) (r : RD) : Prop where
  len : r.1.length = r.2.length
  pos : 0 < r.2.length
  le : r.2.length ≤ 6
  row : ∀ x ∈ r.2, x.length = n ∧ ∀ y ∈ x, y < r.2.length
def stepR (mv : List (List Nat)) (names : List Str) (st : Nat) (a : Str) : Nat := (mv.getD st []).getD (names.idxOf a) 0
def stFrom (mv : List (List Nat)) (names : List Str) (s : Nat) (tr : List Str) : Nat := tr.foldl (stepR mv names) s
@[irreducible] def stAfter (mv : List (List Nat)) (names : List Str) (tr : List Str) : Nat := stFrom mv names 0 tr
theorem stAfter_eq (mv : List (List Nat)) (names : List Str) (tr : List Str) : stAfter mv names tr = stFrom mv names 0 tr := by unfold stAfter; rfl
theorem getD_mem {α : Type} {xs : List α} {k : Nat} {d : α} (h : k < xs.length) : xs.getD k d ∈ xs := by
  have e : xs.getD k d = xs[k] := by simp [List.getD, h]
  rw [e]
  exact List.getElem_mem h
theorem RuleOk.rowAt {n : Nat} {r : RD} (h : RuleOk n r) {k : Nat} (hk : k < r.2.length) : (r.2.getD k []).length = n ∧ ∀ y ∈ r.2.getD k [], y < r.2.length := h.row _ (getD_mem hk)
theorem RuleOk.step {names : List Str} {r : RD} (h : RuleOk names.length r) {s : Nat} (hs : s < r.2.length) {a : Str} (ha : a ∈ names) : stepR r.2 names s a < r.2.length := by
  obtain ⟨h1, h2⟩ := h.rowAt hs
  exact h2 _ (getD_mem (by rw [h1]; exact List.idxOf_lt_length_iff.mpr ha))
theorem RuleOk.from {names : List Str} {r : RD} (h : RuleOk names.length r) : ∀ {tr : List Str} {s : Nat}, s < r.2.length → (∀ a ∈ tr, a ∈ names) → stFrom r.2 names s tr < r.2.length
  | [], _, hs, _ => hs
  | a :: tr, s, hs, ht => RuleOk.from h (tr := tr) (s := stepR r.2 names s a) (h.step hs (ht a List.mem_cons_self)) (fun b hb => ht b (List.mem_cons_of_mem _ hb))
theorem RuleOk.after {names : List Str} {r : RD} (h : RuleOk names.length r) {tr : List Str} (ht : ∀ a ∈ tr, a ∈ names) : stAfter r.2 names tr < r.2.length := by
  rw [stAfter_eq]
  exact h.from h.pos ht
/-- the states that can still come -/
inductive Reach (mv : List (List Nat)) (s : Nat) : Nat → Prop
  | refl : Reach mv s s
  | step {t u : Nat} : Reach mv s t → u ∈ mv.getD t [] → Reach mv s u
theorem Reach.lt {n : Nat} {r : RD} (h : RuleOk n r) {s t : Nat} (hs : s < r.2.length) (p : Reach r.2 s t) : t < r.2.length := by
  induction p with
  | refl => exact hs
  | step _ hu ih => exact (h.rowAt ih).2 _ hu
theorem Reach.of_closed {mv : List (List Nat)} {s : Nat} {l : List Nat} (h0 : s ∈ l) (hc : ∀ t ∈ l, ∀ u ∈ mv.getD t [], u ∈ l) {t : Nat} (p : Reach mv s t) : t ∈ l := by
  induction p with
  | refl => exact h0
  | step _ hu ih => exact hc _ ih _ hu
def vAlways : Str := "always"
def vNever : Str := "never"
def vYes : Str := "yes"
def vNo : Str := "no"
open Classical in
@[irreducible] noncomputable def verdF (r : RD) (s : Nat) : Str :=
  if ∀ t, Reach r.2 s t → r.1.getD t false = true then vAlways
  else if ∀ t, Reach r.2 s t → r.1.getD t false = false then vNever
  else if r.1.getD s false = true then vYes else vNo
theorem verd_always {r : RD} {s : Nat} (h : ∀ t, Reach r.2 s t → r.1.getD t false = true) : verdF r s = vAlways := by
  unfold verdF
  rw [if_pos h]
theorem verd_never {r : RD} {s : Nat} (h0 : ¬ ∀ t, Reach r.2 s t → r.1.getD t false = true) (h : ∀ t, Reach r.2 s t → r.1.getD t false = false) : verdF r s = vNever := by
  unfold verdF
  rw [if_neg h0, if_pos h]
theorem verd_else {r : RD} {s : Nat} (h0 : ¬ ∀ t, Reach r.2 s t → r.1.getD t false = true) (h1 : ¬ ∀ t, Reach r.2 s t → r.1.getD t false = false) : verdF r s = if r.1.getD s false = true then vYes else vNo := by
  unfold verdF
  rw [if_neg h0, if_neg h1]
abbrev sRule (C : Addr) (r : RD) : S := sIns C [(("accepting" : Str), sTup sBool r.1), (("moves" : Str), sTup (sTup sNat) r.2)]
structure RuleC (K : PySem.W.Frag) (C : Addr) : Prop where
  cl : Cls K C
  nA : NoAttr K C "accepting"
  nM : NoAttr K C "moves"
/-- all that the list holds, read off its set -/
theorem all_of {r : RD} {s : Nat} {l : List Nat} (h : ∀ t, t ∈ l ↔ Reach r.2 s t) : (l.map fun t => r.1.getD t false).all id = true ↔ ∀ t, Reach r.2 s t → r.1.getD t false = true := by
  rw [List.all_map, List.all_eq_true]
  exact ⟨fun q t p => q t ((h t).mpr p), fun q t m => q t ((h t).mp m)⟩
theorem any_of {r : RD} {s : Nat} {l : List Nat} (h : ∀ t, t ∈ l ↔ Reach r.2 s t) : (l.map fun t => r.1.getD t false).any id = false ↔ ∀ t, Reach r.2 s t → r.1.getD t false = false := by
  rw [List.any_map, List.any_eq_false]
  exact ⟨fun q t p => by simpa using q t ((h t).mpr p), fun q t m => by simpa using q t ((h t).mp m)⟩
/-! ### names, rules: a list or a tuple -/
abbrev sNames (names : List Str) : S := sO (oNm sStr names)
abbrev sRules (K : PySem.W.Frag) (C : Addr) (rs : List RD) : S := sSqK K (sRule C) rs
def pick (names : List Str) (x : Int) : Str := names.getD (x % (names.length : Int)).toNat Str.empty
theorem pick_mem {names : List Str} (h : 0 < names.length) (x : Int) : pick names x ∈ names := by
  have h1 := Int.emod_nonneg x (show ((names.length : Nat) : Int) ≠ 0 by omega)
  have h2 := Int.emod_lt_of_pos x (show 0 < ((names.length : Nat) : Int) by omega)
  exact getD_mem (by omega)
theorem pick_at {names : List Str} (h : 0 < names.length) (x : Int) : atI names (x % (names.length : Int)) = some (pick names x) := by
  have h1 := Int.emod_nonneg x (show ((names.length : Nat) : Int) ≠ 0 by omega)
  have h2 := Int.emod_lt_of_pos x (show 0 < ((names.length : Nat) : Int) by omega)
  exact atI_int _ h1 h2
@[irreducible] def lawTrace (names : List Str) (c : Int) (n : Nat) : List Str := (lawRow c n).map (pick names)
theorem lawTrace_eq (names : List Str) (c : Int) (n : Nat) : lawTrace names c n = (lawRow c n).map (pick names) := by unfold lawTrace; rfl
theorem lawTrace_mem {names : List Str} (h : 0 < names.length) {c : Int} {n : Nat} {a : Str} (ha : a ∈ lawTrace names c n) : a ∈ names := by
  rw [lawTrace_eq] at ha
  obtain ⟨x, _, rfl⟩ := List.mem_map.mp ha
  exact pick_mem h x
theorem lawTrace_len (names : List Str) (c : Int) (n : Nat) : (lawTrace names c n).length = n := by rw [lawTrace_eq, List.length_map, lawRow_len]
def Phi_law_trace (as : List S) (s : S) : Prop := ∃ (names : List Str) (c : Int) (n : Nat), as = [sLst sStr names, sInt c, sInt (n : Int)] ∧ 0 < names.length ∧ n ≤ 1000000 ∧ s = sLst sStr (lawTrace names c n)
theorem ok_law_trace (F : FunE K "_law_trace" "_law_trace" s_law_trace f fd) (m_len : mg "len" = none) (C_row : Callee P w K mg base 1 "_law_row" Phi_law_row) : FnOk P w K mg base CX0 2 f fd ["names", "cell", "size"] (spOf Phi_law_trace) := by
  refine fn_ok F sc_law_trace (fun as s h => by obtain ⟨names, c, n, rfl, _⟩ := h; rfl) (fun cdv A outer s0 H0 E as s hr h => ?_)
  obtain ⟨names, c, n, rfl, hp, hn, rfl⟩ := h
  refine r_one (s_ret (ev_lc rfl sc_law_trace.nd (lc_seqT (U := sStr) 3 (pick names) (ev_call C_row hr (eas_cons (ev_var 1 rfl) (eas_cons (ev_var 2 rfl) eas_nil)) ⟨c, n, rfl, hn, rfl⟩) (sz (by rw [lawRow_len]; omega)) (fun i x hx => (fun _ _ _ _ _ => (ev_ix (ev_var 0 rfl) (ev_mod (ev_var 3 rfl) (ev_len m_len (ev_var 0 rfl)) (by omega)) (pick_at hp x)))))).toE (fun _ _ r => ?_))
  rw [lawTrace_eq]
  exact r
/-! ### windows -/
def mB : Str := "<"
def mE : Str := ">"
def nbrs (k : Nat) (s : List Str) : List (List Str) := (List.range (s.length + 1 - k)).map fun i => (s.drop i).take k
def addW (acc : List (List Str)) (w : List Str) : List (List Str) := if w ∈ acc then acc else acc ++ [w]
def dedup (l : List (List Str)) : List (List Str) := l.foldl addW []
def marked (k : Nat) (tr : List Str) : List Str := List.replicate (k - 1) mB ++ tr ++ List.replicate (k - 1) mE
@[irreducible] def winsOf (k : Nat) (tr : List Str) : List (List Str) := dedup (nbrs k (marked k tr))
theorem winsOf_eq (k : Nat) (tr : List Str) : winsOf k tr = dedup (nbrs k (marked k tr)) := by unfold winsOf; rfl
@[irreducible] def tailOf (k : Nat) (tr : List Str) : List Str := (List.replicate (k - 1) mB ++ tr).drop ((List.replicate (k - 1) mB ++ tr).length - (k - 1))
theorem tailOf_eq (k : Nat) (tr : List Str) : tailOf k tr = (List.replicate (k - 1) mB ++ tr).drop ((List.replicate (k - 1) mB ++ tr).length - (k - 1)) := by unfold tailOf; rfl
def stopW (k : Nat) (tail : List Str) : List (List Str) := nbrs k (tail ++ List.replicate (k - 1) mE)
def hasAll (ws l : List (List Str)) : Bool := decide (∀ w ∈ l, w ∈ ws)
def stopsB (k : Nat) (ws : List (List Str)) (tail : List Str) : Bool := hasAll ws (stopW k tail)
def allowsB (k : Nat) (ws : List (List Str)) (tr : List Str) : Bool := hasAll ws (winsOf k tr)
def nextT (ws : List (List Str)) (names : List Str) (tail : List Str) : List (Str × List Str) := (names.filter fun a => decide (tail ++ [a] ∈ ws)).map fun a => (a, (tail ++ [a]).drop 1)
def goesB (k : Nat) (ws : List (List Str)) : List Str → List Str → Bool
  | tail, [] => stopsB k ws tail
  | tail, a :: tr => decide (tail ++ [a] ∈ ws) && goesB k ws ((tail ++ [a]).drop 1) tr
theorem mem_addW {acc : List (List Str)} {v w : List Str} : v ∈ addW acc w ↔ v ∈ acc ∨ v = w := by
  unfold addW
  by_cases h : w ∈ acc
  · rw [if_pos h]
    exact ⟨.inl, fun q => q.elim id fun e => by rw [e]; exact h⟩
  · rw [if_neg h, List.mem_append, List.mem_singleton]
theorem mem_foldW {v : List Str} : ∀ {l acc : List (List Str)}, v ∈ l.foldl addW acc ↔ v ∈ acc ∨ v ∈ l
  | [], acc => by simp
  | w :: l, acc => by
    rw [List.foldl_cons, mem_foldW, mem_addW, List.mem_cons]
    constructor
    · rintro ((h | h) | h)
      · exact .inl h
      · exact .inr (.inl h)
      · exact .inr (.inr h)
    · rintro (h | h | h)
      · exact .inl (.inl h)
      · exact .inl (.inr h)
      · exact .inr h
theorem mem_dedup {l : List (List Str)} {v : List Str} : v ∈ dedup l ↔ v ∈ l := by
  unfold dedup
  rw [mem_foldW]
  simp
theorem addW_nd {acc : List (List Str)} {w : List Str} (h : acc.Nodup) : (addW acc w).Nodup := by
  unfold addW
  by_cases e : w ∈ acc
  · rw [if_pos e]; exact h
  · rw [if_neg e, List.nodup_append]
    refine ⟨h, by simp, fun a ha b hb z => ?_⟩
    have eb : b = w := by simpa using hb
    rw [z, eb] at ha
    exact e ha
theorem foldW_nd : ∀ {l acc : List (List Str)}, acc.Nodup → (l.foldl addW acc).Nodup
  | [], _, h => h
  | _ :: l, _, h => foldW_nd (l := l) (addW_nd h)
theorem dedup_nd (l : List (List Str)) : (dedup l).Nodup := foldW_nd List.nodup_nil
theorem addW_len (acc : List (List Str)) (w : List Str) : (addW acc w).length ≤ acc.length + 1 := by
  unfold addW
  by_cases e : w ∈ acc
  · rw [if_pos e]; omega
  · rw [if_neg e, List.length_append]; exact Nat.le_refl _
theorem foldW_len : ∀ (l acc : List (List Str)), (l.foldl addW acc).length ≤ acc.length + l.length
  | [], _ => Nat.le_refl _
  | w :: l, acc => by
    have := foldW_len l (addW acc w)
    have := addW_len acc w
    rw [List.foldl_cons, List.length_cons]
    omega
theorem dedup_len (l : List (List Str)) : (dedup l).length ≤ l.length := by
  have := foldW_len l []
  simpa [dedup] using this
theorem nbrs_len (k : Nat) (s : List Str) : (nbrs k s).length = s.length + 1 - k := by unfold nbrs; rw [List.length_map, List.length_range]
theorem marked_len (k : Nat) (tr : List Str) : (marked k tr).length = tr.length + 2 * (k - 1) := by
  unfold marked
  rw [List.length_append, List.length_append, List.length_replicate, List.length_replicate]
  omega
theorem winsOf_len {k : Nat} (hk : 1 ≤ k) (tr : List Str) : (winsOf k tr).length ≤ tr.length + k := by
  rw [winsOf_eq]
  have := dedup_len (nbrs k (marked k tr))
  rw [nbrs_len, marked_len] at this
  omega
theorem nbrs_cons {k : Nat} (hk : 1 ≤ k) (x : Str) (s : List Str) (h : k ≤ s.length + 1) : nbrs k (x :: s) = (x :: s).take k :: nbrs k s := by
  unfold nbrs
  have e : (x :: s).length + 1 - k = (s.length + 1 - k) + 1 := by rw [List.length_cons]; omega
  rw [e, List.range_succ_eq_map, List.map_cons, List.map_map]
  rfl
theorem nbrs_get {k : Nat} {s : List Str} {i : Nat} (h : i + k ≤ s.length) : (nbrs k s)[i]? = some ((s.drop i).take k) := by
  unfold nbrs
  rw [List.getElem?_map, List.getElem?_range (by omega)]
  rfl
theorem hasAll_congr {ws l m : List (List Str)} (h : ∀ v, v ∈ l ↔ v ∈ m) : hasAll ws l = hasAll ws m := by
  unfold hasAll
  exact decide_eq_decide.mpr ⟨fun q w hw => q w ((h w).mpr hw), fun q w hw => q w ((h w).mp hw)⟩
theorem hasAll_cons {ws l : List (List Str)} {w : List Str} : hasAll ws (w :: l) = (decide (w ∈ ws) && hasAll ws l) := by
  unfold hasAll
  rw [← Bool.decide_and]
  exact decide_eq_decide.mpr List.forall_mem_cons
theorem hasAll_dedup {ws l : List (List Str)} : hasAll ws (dedup l) = hasAll ws l := hasAll_congr fun _ => mem_dedup
/-- point 8, from any tail on -/
theorem goes_from {k : Nat} (hk : 1 ≤ k) {ws : List (List Str)} : ∀ (tr tail : List Str), tail.length = k - 1 → goesB k ws tail tr = hasAll ws (nbrs k (tail ++ tr ++ List.replicate (k - 1) mE))
  | [], tail, ht => by
    unfold goesB stopsB stopW
    rw [List.append_nil]
  | a :: tr, tail, ht => by
    unfold goesB
    have hl : (tail ++ [a]).length = k := by rw [List.length_append, ht, List.length_singleton]; omega
    have h1 := goes_from hk (ws := ws) tr ((tail ++ [a]).drop 1) (by rw [List.length_drop, hl])
    rw [h1]
    cases e : tail ++ [a] with
    | nil => rw [e] at hl; simp at hl; omega
    | cons x s =>
      have e2 : tail ++ a :: tr ++ List.replicate (k - 1) mE = x :: (s ++ tr ++ List.replicate (k - 1) mE) := by
        have : tail ++ a :: tr ++ List.replicate (k - 1) mE = (tail ++ [a]) ++ tr ++ List.replicate (k - 1) mE := by simp
        rw [this, e]
        simp
      have hs : s.length + 1 = k := by rw [e] at hl; simpa using hl
      rw [e2, nbrs_cons hk _ _ (by simp only [List.length_append]; omega), hasAll_cons]
      have e3 : (x :: (s ++ tr ++ List.replicate (k - 1) mE)).take k = x :: s := by
        rw [← hs, List.take_succ_cons, List.append_assoc, List.take_left']
        rfl
      rw [e3]
      rfl
theorem tailOf_nil (k : Nat) : tailOf k [] = List.replicate (k - 1) mB := by
  rw [tailOf_eq]
  simp
theorem goes_allows {k : Nat} (hk : 1 ≤ k) {ws : List (List Str)} (tr : List Str) : goesB k ws (tailOf k []) tr = allowsB k ws tr := by
  rw [tailOf_nil, goes_from hk _ _ (List.length_replicate ..)]
  unfold allowsB
  rw [winsOf_eq, hasAll_dedup]
  rfl
theorem tailOf_len {k : Nat} (tr : List Str) : (tailOf k tr).length = k - 1 := by
  rw [tailOf_eq, List.length_drop, List.length_append, List.length_replicate]
  omega
theorem tailOf_drop {k : Nat} (hk : 1 ≤ k) {tail : List Str} (h : tail.length = k - 1) (a : Str) : ((tail ++ [a]).drop 1).length = k - 1 := by
  rw [List.length_drop, List.length_append, h, List.length_singleton]
  omega
/-! ### well formed windows -/
structure WfW (k : Nat) (w : List Str) : Prop where
  ex : ∃ (a b : Nat) (mid : List Str), w = List.replicate a mB ++ mid ++ List.replicate b mE ∧ a < k ∧ b < k ∧ (∀ x ∈ mid, WordOk 1 8 x)
  len : w.length = k
theorem word_ne {x : Str} {a b : Nat} (h : WordOk a b x) (ha : 1 ≤ a) : x ≠ mB ∧ x ≠ mE := by
  constructor
  · rintro rfl
    have := h.2.2 60 (by decide +kernel)
    omega
  · rintro rfl
    have := h.2.2 62 (by decide +kernel)
    omega
theorem mB_ne_mE : mB ≠ mE := by decide +kernel
theorem mE_ne_mB : mE ≠ mB := by decide +kernel
theorem filter_rep_self (a : Nat) (x : Str) : (List.replicate a x).filter (fun y => decide (y = x)) = List.replicate a x := by simp
theorem filter_rep_ne {a : Nat} {x z : Str} (h : x ≠ z) : (List.replicate a x).filter (fun y => decide (y = z)) = [] := by simp [h]
theorem filter_mid {mid : List Str} {z : Str} (h : ∀ x ∈ mid, x ≠ z) : mid.filter (fun y => decide (y = z)) = [] := List.filter_eq_nil_iff.mpr fun x hx => by simp [h x hx]
theorem wf_open {a b : Nat} {mid : List Str} (h : ∀ x ∈ mid, x ≠ mB ∧ x ≠ mE) : (List.replicate a mB ++ mid ++ List.replicate b mE).filter (fun y => decide (y = mB)) = List.replicate a mB := by
  rw [List.filter_append, List.filter_append, filter_rep_self, filter_mid fun x hx => (h x hx).1, filter_rep_ne mE_ne_mB]
  simp
theorem wf_close {a b : Nat} {mid : List Str} (h : ∀ x ∈ mid, x ≠ mB ∧ x ≠ mE) : (List.replicate a mB ++ mid ++ List.replicate b mE).filter (fun y => decide (y = mE)) = List.replicate b mE := by
  rw [List.filter_append, List.filter_append, filter_rep_self, filter_mid fun x hx => (h x hx).2, filter_rep_ne mB_ne_mE]
  simp
theorem wf_others {a b : Nat} {mid : List Str} (h : ∀ x ∈ mid, x ≠ mB ∧ x ≠ mE) : (List.replicate a mB ++ mid ++ List.replicate b mE).filter (fun y => !decide (y ∈ [mB, mE])) = mid := by
  have e1 : (List.replicate a mB).filter (fun y => !decide (y ∈ [mB, mE])) = [] := by
    refine List.filter_eq_nil_iff.mpr fun x hx => ?_
    rw [List.mem_replicate] at hx
    simp [hx.2]
  have e2 : (List.replicate b mE).filter (fun y => !decide (y ∈ [mB, mE])) = [] := by
    refine List.filter_eq_nil_iff.mpr fun x hx => ?_
    rw [List.mem_replicate] at hx
    simp [hx.2]
  have e3 : mid.filter (fun y => !decide (y ∈ [mB, mE])) = mid := List.filter_eq_self.mpr fun x hx => by simp [h x hx]
  rw [List.filter_append, List.filter_append, e1, e2, e3]
  simp
def wfB (k : Int) (w : List Str) : Bool :=
  !(decide (k ≤ ((w.filter fun y => decide (y = mB)).length : Int)) || decide (k ≤ ((w.filter fun y => decide (y = mE)).length : Int))) &&
    decide (w = (w.filter fun y => decide (y = mB)) ++ (w.filter fun y => !decide (y ∈ [mB, mE])) ++ (w.filter fun y => decide (y = mE)))
theorem WfW.wf {k : Nat} {w : List Str} (h : WfW k w) : wfB (k : Int) w = true := by
  obtain ⟨a, b, mid, rfl, ha, hb, hm⟩ := h.ex
  have hm' : ∀ x ∈ mid, x ≠ mB ∧ x ≠ mE := fun x hx => word_ne (hm x hx) (by decide)
  unfold wfB
  rw [wf_open hm', wf_close hm', wf_others hm', List.length_replicate, List.length_replicate]
  have h1 : ¬ ((k : Int) ≤ (a : Int)) := by omega
  have h2 : ¬ ((k : Int) ≤ (b : Int)) := by omega
  simp [h1, h2]
theorem wf_nbr {k : Nat} (hk : 1 ≤ k) {tr : List Str} (ht : ∀ x ∈ tr, WordOk 1 8 x) {w : List Str} (hw : w ∈ nbrs k (marked k tr)) : WfW k w := by
  unfold nbrs at hw
  obtain ⟨i, hi, rfl⟩ := List.mem_map.mp hw
  rw [List.mem_range, marked_len] at hi
  refine ⟨⟨min k (k - 1 - i), min (k - (min k (k - 1 - i) + (((tr.drop (i - (k - 1))).take (k - (k - 1 - i)))).length)) (k - 1 - (i - (tr.length + (k - 1)))), (tr.drop (i - (k - 1))).take (k - (k - 1 - i)), ?_, by omega, by omega, fun x hx => ht x (List.mem_of_mem_drop (List.mem_of_mem_take hx))⟩, ?_⟩
  · unfold marked
    rw [List.drop_append, List.take_append, List.drop_append, List.take_append, List.drop_replicate, List.drop_replicate, List.take_replicate, List.take_replicate]
    congr 2
    · simp only [List.length_replicate]
    · simp only [List.length_append, List.length_replicate, List.length_take, List.length_drop]
      omega
  · rw [List.length_take, List.length_drop, marked_len]
    omega
theorem wf_win {k : Nat} (hk : 1 ≤ k) {tr : List Str} (ht : ∀ x ∈ tr, WordOk 1 8 x) {w : List Str} (hw : w ∈ winsOf k tr) : WfW k w := by
  rw [winsOf_eq] at hw
  exact wf_nbr hk ht (mem_dedup.mp hw)
theorem WfW.signs {k : Nat} {w : List Str} (h : WfW k w) {x : Str} (hx : x ∈ w) : x = mB ∨ x = mE ∨ WordOk 1 8 x := by
  obtain ⟨a, b, mid, rfl, ha, hb, hm⟩ := h.ex
  rcases List.mem_append.mp hx with q | q
  · rcases List.mem_append.mp q with q | q
    · exact .inl (List.mem_replicate.mp q).2
    · exact .inr (.inr (hm x q))
  · exact .inr (.inl (List.mem_replicate.mp q).2)
theorem map_rep {α : Type} (n : Nat) (x : α) : (List.range n).map (fun _ => x) = List.replicate n x := by
  rw [List.map_const', List.length_range]
theorem first_idx {names : List Str} {a : Str} (h : a ∈ names) : ((List.range names.length).filter fun k => decide (names.getD k Str.empty = a))[0]? = some (names.idxOf a) := by
  induction names with
  | nil => cases h
  | cons x names ih =>
    rw [List.length_cons, List.range_succ_eq_map, List.filter_cons]
    by_cases hx : x = a
    · subst hx
      simp [List.idxOf_cons]
    · have hm : a ∈ names := by
        rcases List.mem_cons.mp h with q | q
        · exact absurd q.symm hx
        · exact q
      have e1 : decide ((x :: names).getD 0 Str.empty = a) = false := decide_eq_false hx
      rw [e1, if_neg Bool.false_ne_true, List.filter_map, List.getElem?_map]
      have e2 : ((fun k => decide ((x :: names).getD k Str.empty = a)) ∘ Nat.succ) = fun k => decide (names.getD k Str.empty = a) := by
        funext k
        simp only [List.getD, Function.comp, List.getElem?_cons_succ]
        exact decide_eq_decide.mpr Iff.rfl
      have hb : (x == a) = false := by simpa using hx
      rw [e2, ih hm, List.idxOf_cons, hb]
      rfl
/-! ### the order in which a search by width finds: by length, then by ranks -/
def tkeyF {α : Type} (rk : α → Nat) (n : Nat) (tr : List α) : Nat := tr.foldl (fun n a => 8 * n + rk a) n
def tkey {α : Type} (rk : α → Nat) (tr : List α) : Nat := tkeyF rk 1 tr
theorem tkey_snoc {α : Type} (rk : α → Nat) (tr : List α) (a : α) : tkey rk (tr ++ [a]) = 8 * tkey rk tr + rk a := by
  unfold tkey tkeyF
  rw [List.foldl_append]
  rfl
theorem tkeyF_lt {α : Type} {rk : α → Nat} (h7 : ∀ a, rk a ≤ 7) : ∀ {a b : List α} {n m : Nat}, a.length = b.length → n < m → tkeyF rk n a < tkeyF rk m b
  | [], [], _, _, _, h => h
  | x :: a, y :: b, n, m, hl, h => by
    have h1 := h7 x
    exact tkeyF_lt h7 (a := a) (b := b) (n := 8 * n + rk x) (m := 8 * m + rk y) (by simpa using hl) (by omega)
  | [], _ :: _, _, _, hl, _ => by simp at hl
  | _ :: _, [], _, _, hl, _ => by simp at hl
theorem tkeyF_lex {α : Type} {rk : α → Nat} (h7 : ∀ a, rk a ≤ 7) : ∀ {a b : List α} {n : Nat}, a.length = b.length → (a.map fun x => (rk x : Int)) < (b.map fun x => (rk x : Int)) → tkeyF rk n a < tkeyF rk n b
  | [], [], _, _, h => by simp at h
  | x :: a, y :: b, n, hl, h => by
    rw [List.map_cons, List.map_cons, List.cons_lt_cons_iff] at h
    rcases h with h | ⟨h1, h2⟩
    · exact tkeyF_lt h7 (a := a) (b := b) (n := 8 * n + rk x) (m := 8 * n + rk y) (by simpa using hl) (by omega)
    · have e : rk x = rk y := by omega
      show tkeyF rk (8 * n + rk x) a < tkeyF rk (8 * n + rk y) b
      rw [e]
      exact tkeyF_lex h7 (by simpa using hl) h2
  | [], _ :: _, _, hl, _ => by simp at hl
  | _ :: _, [], _, hl, _ => by simp at hl
theorem tkeyF_hi {α : Type} {rk : α → Nat} (h7 : ∀ a, rk a ≤ 7) : ∀ (a : List α) (n : Nat), tkeyF rk n a + 1 ≤ 8 ^ a.length * (n + 1) ∧ 8 ^ a.length * n ≤ tkeyF rk n a
  | [], n => by simp [tkeyF]
  | x :: a, n => by
    obtain ⟨h1, h2⟩ := tkeyF_hi h7 a (8 * n + rk x)
    have hx := h7 x
    show tkeyF rk (8 * n + rk x) a + 1 ≤ _ ∧ _ ≤ tkeyF rk (8 * n + rk x) a
    rw [List.length_cons, Nat.pow_succ, Nat.mul_assoc, Nat.mul_assoc]
    exact ⟨Nat.le_trans h1 (Nat.mul_le_mul_left _ (by omega)), Nat.le_trans (Nat.mul_le_mul_left _ (by omega)) h2⟩
theorem tkey_len {α : Type} {rk : α → Nat} (h7 : ∀ a, rk a ≤ 7) {a b : List α} (h : a.length < b.length) : tkey rk a < tkey rk b := by
  have h1 := (tkeyF_hi h7 a 1).1
  have h2 := (tkeyF_hi h7 b 1).2
  have h3 : 8 ^ (a.length + 1) ≤ 8 ^ b.length := Nat.pow_le_pow_right (by decide) h
  rw [Nat.pow_succ] at h3
  unfold tkey
  omega
/-! ### sorted lists are told by their members -/
section
open PySem.SeqAt PySem.W
theorem toks_inj {x y : PyData} (h : alike x y = true) (e : keyToks x = keyToks y) : PyData.eqv x y = true := by
  cases q : PyData.eqv x y with
  | true => rfl
  | false =>
    exfalso
    have h2 := (toks_eqv x y h).2 q [] [Sum.inl 0]
    rw [e, List.append_nil, lex_irrefl] at h2
    have h3 := lex_pre (keyToks y) [] [Sum.inl 0]
    rw [List.append_nil, h2] at h3
    cases (show false = true from h3.trans rfl)
theorem le_antisymm' {α : Type} {T : α → S} [DecidableEq α] [TyQ T] [TyA T] {x y : α} (h1 : dataLe false (TyD.d T) x y = true) (h2 : dataLe false (TyD.d T) y x = true) : x = y := by
  have a1 : PyProof.Rows.lexLt itemOrd (keyToks (TyD.d T y)) (keyToks (TyD.d T x)) = false := by
    have : (!PyProof.Rows.lexLt itemOrd (keyToks (TyD.d T y)) (keyToks (TyD.d T x))) = true := h1
    simpa using this
  have a2 : PyProof.Rows.lexLt itemOrd (keyToks (TyD.d T x)) (keyToks (TyD.d T y)) = false := by
    have : (!PyProof.Rows.lexLt itemOrd (keyToks (TyD.d T x)) (keyToks (TyD.d T y))) = true := h2
    simpa using this
  have e := lex_total _ _ a2 a1
  have q := toks_inj (TyA.al (T := T) x y) e
  rw [TyQ.q] at q
  exact of_decide_eq_true q
end
section
open PySem.SeqAt PySem.W
variable {α : Type} {T : α → S} [DecidableEq α] [TyQ T] [TyA T]
theorem srt_sorted (xs : List α) : (srt T xs).Pairwise fun a b => dataLe false (TyD.d T) a b = true := by
  have k := sortLe_total (listOrd itemOrd) false fun b => keyToks (TyD.d T b)
  exact List.pairwise_mergeSort k.trans (fun a b => by rcases k.total a b with h | h <;> simp [dataLe, h]) xs
theorem srt_filter (p : α → Bool) {xs ys : List α} (hx : xs.Nodup) (hy : ys.Nodup) (h : ∀ a, a ∈ xs ↔ a ∈ ys ∧ p a = true) : srt T xs = (srt T ys).filter p := by
  refine List.Perm.eq_of_pairwise (le := fun a b => dataLe false (TyD.d T) a b = true) (fun a b _ _ h1 h2 => le_antisymm' h1 h2) (srt_sorted xs) ((srt_sorted ys).sublist List.filter_sublist) ?_
  refine (srt_perm xs).trans ?_
  have hn : ((srt T ys).filter p).Nodup := ((srt_perm (T := T) ys).nodup_iff.mpr hy).sublist List.filter_sublist
  rw [List.perm_ext_iff_of_nodup hx hn]
  intro a
  rw [h, List.mem_filter, (srt_perm (T := T) ys).mem_iff]
end
/-! ### late activities put in -/
def insAll (a : Str) (e : List Str) : List (List Str) := (List.range (e.length + 1)).map fun i => e.take i ++ [a] ++ e.drop i
def oneMore (E : List (List Str)) (a : Str) : List (List Str) := dedup (E.flatMap fun e => e :: insAll a e)
def moreN (E : List (List Str)) (a : Str) : Nat → List (List Str)
  | 0 => E
  | n + 1 => oneMore (moreN E a n) a
def lateEnds (E : List (List Str)) (late : List (Str × Nat)) : List (List Str) := late.foldl (fun E kv => moreN E kv.1 kv.2) E
abbrev Tri := Int × List Nat × List Str
def triOf (names tr : List Str) : Tri := ((tr.length : Int), tr.map names.idxOf, tr)
abbrev sTriT : Tri → S := sTri sInt (sLst sNat) (sTup sStr)
abbrev sTriL : Tri → S := sTri sInt (sLst sNat) (sLst sStr)
noncomputable def sortedT (names : List Str) (E : List (List Str)) : List (List Str) := (srt sTriT (E.map (triOf names))).map (·.2.2)
noncomputable def sortedL (names : List Str) (E : List (List Str)) : List (List Str) := (srt sTriL (E.map (triOf names))).map (·.2.2)
noncomputable def varsOf (names running : List Str) (late : List (Str × Nat)) (places : Nat) : List (List Str) := (sortedT names (lateEnds [running.drop (running.length - places)] late)).map fun e => running.take (running.length - places) ++ e
theorem mem_insAll {a : Str} {e x : List Str} : x ∈ insAll a e ↔ ∃ i, i ≤ e.length ∧ x = e.take i ++ [a] ++ e.drop i := by
  unfold insAll
  rw [List.mem_map]
  constructor
  · rintro ⟨i, hi, rfl⟩
    exact ⟨i, by have := List.mem_range.mp hi; omega, rfl⟩
  · rintro ⟨i, hi, rfl⟩
    exact ⟨i, List.mem_range.mpr (by omega), rfl⟩
theorem insAll_len {a : Str} {e x : List Str} (h : x ∈ insAll a e) : x.length = e.length + 1 ∧ ∀ b ∈ x, b = a ∨ b ∈ e := by
  obtain ⟨i, hi, rfl⟩ := mem_insAll.mp h
  refine ⟨by simp only [List.length_append, List.length_take, List.length_drop, List.length_singleton]; omega, fun b hb => ?_⟩
  rcases List.mem_append.mp hb with hb | hb
  · rcases List.mem_append.mp hb with hb | hb
    · exact .inr (List.mem_of_mem_take hb)
    · exact .inl (List.mem_singleton.mp hb)
  · exact .inr (List.mem_of_mem_drop hb)
theorem mem_oneMore {E : List (List Str)} {a : Str} {x : List Str} : x ∈ oneMore E a ↔ x ∈ E ∨ x ∈ E.flatMap (insAll a) := by
  unfold oneMore
  rw [mem_dedup, List.mem_flatMap, List.mem_flatMap]
  constructor
  · rintro ⟨e, he, h⟩
    rcases List.mem_cons.mp h with q | q
    · exact .inl (q ▸ he)
    · exact .inr ⟨e, he, q⟩
  · rintro (h | ⟨e, he, h⟩)
    · exact ⟨x, h, List.mem_cons_self⟩
    · exact ⟨e, he, List.mem_cons_of_mem _ h⟩
theorem oneMore_len {E : List (List Str)} {m : Nat} (h : ∀ e ∈ E, e.length ≤ m) (a : Str) : (oneMore E a).length ≤ E.length * (m + 2) := by
  have h1 := dedup_len (E.flatMap fun e => e :: insAll a e)
  have h2 : ∀ E : List (List Str), (∀ e ∈ E, e.length ≤ m) → (E.flatMap fun e => e :: insAll a e).length ≤ E.length * (m + 2) := fun E => by
    induction E with
    | nil => intro _; simp
    | cons e E ih =>
      intro h
      have := ih fun x hx => h x (List.mem_cons_of_mem _ hx)
      have h3 := h e List.mem_cons_self
      have hl : (insAll a e).length = e.length + 1 := by
        unfold insAll
        rw [List.length_map, List.length_range]
      rw [List.flatMap_cons, List.length_append, List.length_cons, List.length_cons, Nat.succ_mul, hl]
      omega
  have := h2 E h
  unfold oneMore
  omega
/-- what is kept while activities are put in: t of them so far -/
structure EndOk (names : List Str) (L t : Nat) (E : List (List Str)) : Prop where
  nm : ∀ e ∈ E, ∀ a ∈ e, a ∈ names
  len : ∀ e ∈ E, e.length ≤ L + t
  few : E.length ≤ (L + 5) ^ t
  nd : E.Nodup
  ne : E ≠ []
theorem EndOk.more {names : List Str} {L t : Nat} {E : List (List Str)} (h : EndOk names L t E) (ht : t ≤ 2) {a : Str} (ha : a ∈ names) : EndOk names L (t + 1) (oneMore E a) := by
  refine ⟨fun e he b hb => ?_, fun e he => ?_, ?_, dedup_nd _, fun z => ?_⟩
  · rcases mem_oneMore.mp he with q | q
    · exact h.nm e q b hb
    · obtain ⟨e0, he0, q⟩ := List.mem_flatMap.mp q
      rcases (insAll_len q).2 b hb with z | z
      · rw [z]; exact ha
      · exact h.nm e0 he0 b z
  · rcases mem_oneMore.mp he with q | q
    · have := h.len e q; omega
    · obtain ⟨e0, he0, q⟩ := List.mem_flatMap.mp q
      have := (insAll_len q).1
      have := h.len e0 he0
      omega
  · refine Nat.le_trans (oneMore_len h.len a) ?_
    rw [Nat.pow_succ]
    exact Nat.mul_le_mul h.few (by omega)
  · obtain ⟨e, he⟩ := List.exists_mem_of_ne_nil _ h.ne
    have : e ∈ oneMore E a := mem_oneMore.mpr (.inl he)
    rw [z] at this
    cases this
theorem EndOk.moreK {names : List Str} {L t : Nat} {E : List (List Str)} (h : EndOk names L t E) {a : Str} (ha : a ∈ names) : ∀ c, t + c ≤ 3 → EndOk names L (t + c) (moreN E a c)
  | 0, _ => h
  | c + 1, hc => (h.moreK ha c (by omega)).more (by omega) ha
def lateSum (late : List (Str × Nat)) : Nat := (late.map (·.2)).sum
theorem EndOk.late {names : List Str} {L : Nat} : ∀ {late : List (Str × Nat)} {t : Nat} {E : List (List Str)}, EndOk names L t E → (∀ kv ∈ late, kv.1 ∈ names) → t + lateSum late ≤ 3 → EndOk names L (t + lateSum late) (lateEnds E late)
  | [], t, E, h, _, _ => h
  | kv :: late, t, E, h, hn, hs => by
    have e : lateSum (kv :: late) = kv.2 + lateSum late := by simp [lateSum]
    rw [e] at hs ⊢
    have h1 := (h.moreK (hn kv List.mem_cons_self) kv.2 (by omega)).late (late := late) (fun x hx => hn x (List.mem_cons_of_mem _ hx)) (by omega)
    rw [Nat.add_assoc] at h1
    exact h1
theorem EndOk.start {names tr : List Str} (h : ∀ a ∈ tr, a ∈ names) : EndOk names tr.length 0 [tr] := ⟨fun e he => by rw [List.mem_singleton.mp he]; exact h, fun e he => by rw [List.mem_singleton.mp he]; omega, by simp, by simp, by simp⟩
/-! ### in order -/
theorem ilt_tri : ∀ {x y : List Int}, x.length = y.length → x < y ∨ x = y ∨ y < x
  | [], [], _ => .inr (.inl rfl)
  | [], _ :: _, h => by simp at h
  | _ :: _, [], h => by simp at h
  | a :: x, b :: y, h => by
    rw [List.cons_lt_cons_iff, List.cons_lt_cons_iff]
    have ih := ilt_tri (x := x) (y := y) (by simpa using h)
    by_cases h1 : a < b
    · exact .inl (.inl h1)
    · by_cases h2 : b < a
      · exact .inr (.inr (.inl h2))
      · have e : a = b := by omega
        subst e
        rcases ih with q | q | q
        · exact .inl (.inr ⟨rfl, q⟩)
        · exact .inr (.inl (by rw [q]))
        · exact .inr (.inr (.inr ⟨rfl, q⟩))
theorem map_idx_inj {names : List Str} : ∀ {a b : List Str}, (∀ x ∈ a, x ∈ names) → (∀ x ∈ b, x ∈ names) → a.map names.idxOf = b.map names.idxOf → a = b
  | [], [], _, _, _ => rfl
  | [], _ :: _, _, _, h => by simp at h
  | _ :: _, [], _, _, h => by simp at h
  | x :: a, y :: b, ha, hb, h => by
    rw [List.map_cons, List.map_cons, List.cons.injEq] at h
    have e : x = y := by
      have h1 := List.idxOf_lt_length_iff.mpr (ha x List.mem_cons_self)
      have h2 := List.idxOf_lt_length_iff.mpr (hb y List.mem_cons_self)
      have g1 := List.getElem_idxOf h1
      have g2 := List.getElem_idxOf h2
      rw [← g1, ← g2]
      simp only [h.1]
    rw [e, map_idx_inj (fun z hz => ha z (List.mem_cons_of_mem _ hz)) (fun z hz => hb z (List.mem_cons_of_mem _ hz)) h.2]
theorem idx7 {names : List Str} (h : names.length ≤ 5) : ∀ a, names.idxOf a ≤ 7 := fun a => by have := List.idxOf_le_length (a := a) (l := names); omega
theorem tkey_inj {names : List Str} (h5 : names.length ≤ 5) {a b : List Str} (ha : ∀ x ∈ a, x ∈ names) (hb : ∀ x ∈ b, x ∈ names) (h : tkey names.idxOf a = tkey names.idxOf b) : a = b := by
  have h7 := idx7 h5
  have hl : a.length = b.length := by
    rcases Nat.lt_trichotomy a.length b.length with q | q | q
    · have := tkey_len h7 q; omega
    · exact q
    · have := tkey_len h7 q; omega
  rcases ilt_tri (x := a.map fun x => (names.idxOf x : Int)) (y := b.map fun x => (names.idxOf x : Int)) (by simp [hl]) with q | q | q
  · have := tkeyF_lex h7 (n := 1) hl q
    unfold tkey at h
    omega
  · refine map_idx_inj ha hb ?_
    have e : ∀ l : List Str, (l.map fun x => (names.idxOf x : Int)) = (l.map names.idxOf).map fun n : Nat => (n : Int) := fun l => by rw [List.map_map]; rfl
    rw [e, e] at q
    exact (List.map_inj_right (fun a b z => by omega)).mp q
  · have := tkeyF_lex h7 (n := 1) hl.symm q
    unfold tkey at h
    omega
/-- the order of triples is the order of keys -/
theorem tri_le {W : List Str → S} [TyD W] [TyA W] {names : List Str} (h5 : names.length ≤ 5) {a b : List Str} (h : PySem.W.dataLe false (TyD.d (sTri sInt (sLst sNat) W)) (triOf names a) (triOf names b) = true) : tkey names.idxOf a ≤ tkey names.idxOf b := by
  have h7 := idx7 h5
  have hd : ∀ tr : List Str, TyD.d (sTri sInt (sLst sNat) W) (triOf names tr) = .tuple [.int (tr.length : Int), .list ((tr.map fun x => (names.idxOf x : Int)).map PyData.int), TyD.d W tr] := fun tr => by
    show PyData.tuple [.int (tr.length : Int), .list ((tr.map names.idxOf).map fun n : Nat => .int (n : Int)), TyD.d W tr] = _
    rw [List.map_map, List.map_map]
    rfl
  have al : PySem.W.alike (TyD.d (sTri sInt (sLst sNat) W) (triOf names b)) (TyD.d (sTri sInt (sLst sNat) W) (triOf names a)) = true := TyA.al _ _
  have h' : PySem.W.dataLt (TyD.d (sTri sInt (sLst sNat) W) (triOf names b)) (TyD.d (sTri sInt (sLst sNat) W) (triOf names a)) = false := by
    have : (!PySem.W.dataLt (TyD.d (sTri sInt (sLst sNat) W) (triOf names b)) (TyD.d (sTri sInt (sLst sNat) W) (triOf names a))) = true := h
    simpa using this
  rw [hd, hd] at h' al
  have al2 := (PySem.W.alike_all_cons (show PySem.W.alikeAll [_, _, _] [_, _, _] = true from al))
  have al3 := (PySem.W.alike_all_cons al2.2)
  rw [PySem.W.dataLt_tuple, PySem.W.dataLt_cons al2.1, PySem.W.dataLt_cons al3.1, PySem.W.dataLt_int, PySem.W.dataLt_list] at h'
  by_cases hlt : tkey names.idxOf b < tkey names.idxOf a
  · exfalso
    by_cases e : (b.length : Int) = (a.length : Int)
    · have e1 : PyData.eqv (.int (b.length : Int)) (.int (a.length : Int)) = true := by simp [PyData.eqv, e]
      rw [if_pos e1] at h'
      have hl : b.length = a.length := by omega
      rcases ilt_tri (x := b.map fun x => (names.idxOf x : Int)) (y := a.map fun x => (names.idxOf x : Int)) (by simp [hl]) with q | q | q
      · have e2 : PyData.eqv (.list ((b.map fun x => (names.idxOf x : Int)).map PyData.int)) (.list ((a.map fun x => (names.idxOf x : Int)).map PyData.int)) = false := by
          have := TyQ.q (T := sLst sInt) (b.map fun x => (names.idxOf x : Int)) (a.map fun x => (names.idxOf x : Int))
          have hne : (b.map fun x => (names.idxOf x : Int)) ≠ (a.map fun x => (names.idxOf x : Int)) := fun z => by
            rw [z] at q
            exact absurd q (List.lt_irrefl _)
          rw [decide_eq_false hne] at this
          exact this
        rw [e2, if_neg Bool.false_ne_true] at h'
        have h'' : PySem.W.rowLt ((b.map fun x => (names.idxOf x : Int)).map PyData.int) ((a.map fun x => (names.idxOf x : Int)).map PyData.int) = false := h'
        rw [PySem.W.dataLt_ints, decide_eq_false_iff_not] at h''
        exact h'' q
      · have e3 : ∀ l : List Str, tkey names.idxOf l = tkeyF (fun n : Int => n.toNat) 1 (l.map fun x => (names.idxOf x : Int)) := fun l => by
          unfold tkey tkeyF
          rw [List.foldl_map]
          rfl
        rw [e3, e3, q] at hlt
        omega
      · have := tkeyF_lex h7 (n := 1) hl.symm q
        unfold tkey at hlt
        omega
    · have e1 : PyData.eqv (.int (b.length : Int)) (.int (a.length : Int)) = false := by simp only [PyData.eqv]; simpa using e
      rw [e1, if_neg Bool.false_ne_true, decide_eq_false_iff_not] at h'
      have := tkey_len h7 (show a.length < b.length by omega)
      omega
  · omega
theorem srt_le {W : List Str → S} [TyQ W] [TyA W] {names : List Str} (h5 : names.length ≤ 5) (E : List (List Str)) : ((srt (sTri sInt (sLst sNat) W) (E.map (triOf names))).map (·.2.2)).Pairwise fun a b => tkey names.idxOf a ≤ tkey names.idxOf b := by
  have h := srt_sorted (T := sTri sInt (sLst sNat) W) (E.map (triOf names))
  have hp := srt_perm (T := sTri sInt (sLst sNat) W) (E.map (triOf names))
  rw [List.pairwise_map]
  refine h.imp_of_mem fun {x y} hx hy q => ?_
  obtain ⟨a, _, rfl⟩ := List.mem_map.mp (hp.mem_iff.mp hx)
  obtain ⟨b, _, rfl⟩ := List.mem_map.mp (hp.mem_iff.mp hy)
  exact tri_le (W := W) h5 q
theorem srt_tri_perm {W : List Str → S} [TyD W] {names : List Str} (E : List (List Str)) : ((srt (sTri sInt (sLst sNat) W) (E.map (triOf names))).map (·.2.2)).Perm E := by
  have hp := (srt_perm (T := sTri sInt (sLst sNat) W) (E.map (triOf names))).map fun x : Tri => x.2.2
  rw [List.map_map] at hp
  have e : E.map ((fun x : Tri => x.2.2) ∘ triOf names) = E := by
    rw [show ((fun x : Tri => x.2.2) ∘ triOf names) = id from rfl, List.map_id]
  rw [e] at hp
  exact hp
theorem sorted_same {names : List Str} (h5 : names.length ≤ 5) {E R : List (List Str)} (hE : E.Nodup) (hR : R.Nodup) (hm : ∀ x, x ∈ E ↔ x ∈ R) (hn : ∀ e ∈ E, ∀ a ∈ e, a ∈ names) : sortedT names E = sortedL names R := by
  have p1 := srt_tri_perm (W := sTup sStr) (names := names) E
  have p2 := srt_tri_perm (W := sLst sStr) (names := names) R
  have pr : E.Perm R := (List.perm_ext_iff_of_nodup hE hR).mpr hm
  refine List.Perm.eq_of_pairwise (le := fun a b => tkey names.idxOf a ≤ tkey names.idxOf b) (fun a b ha hb h1 h2 => ?_) (srt_le (W := sTup sStr) h5 E) (srt_le (W := sLst sStr) h5 R) ((p1.trans pr).trans p2.symm)
  have ha' : a ∈ E := p1.mem_iff.mp ha
  have hb' : b ∈ E := (hm b).mpr (p2.mem_iff.mp hb)
  exact tkey_inj h5 (hn a ha') (hn b hb') (Nat.le_antisymm h1 h2)
theorem tri_sortable {W : List Str → S} [TyD W] {names : List Str} (E : List (List Str)) : Sortable2 ((E.map (triOf names)).map (TyD.d (sTri sInt (sLst sNat) W))) := .inl (.inl fun d hd => by
  obtain ⟨x, _, rfl⟩ := List.mem_map.mp hd
  exact ⟨_, _, rfl⟩)
/-! ### what the law puts in -/
def lawPut (E : List (List Str)) (a : Str) : List (List Str) := dedup (E.flatMap (insAll a))
def layN (E : List (List Str)) (a : Str) : Nat → List (List Str)
  | 0 => E
  | n + 1 => lawPut (layN E a n) a
def foundN (E : List (List Str)) (a : Str) : Nat → List (List Str)
  | 0 => E
  | n + 1 => foundN E a n ++ layN E a (n + 1)
def lawAll (late : List (Str × Nat)) (names : List Str) (last : List Str) : List (List Str) := names.foldl (fun rows a => dedup (foundN rows a ((gK late a).getD 0))) [last]
theorem mem_foundN {E : List (List Str)} {a : Str} {x : List Str} : ∀ {n : Nat}, x ∈ foundN E a n ↔ ∃ j, j ≤ n ∧ x ∈ layN E a j
  | 0 => ⟨fun h => ⟨0, Nat.le_refl _, h⟩, fun ⟨j, hj, h⟩ => by
      have e : j = 0 := by omega
      rw [e] at h; exact h⟩
  | n + 1 => by
    show x ∈ foundN E a n ++ layN E a (n + 1) ↔ _
    rw [List.mem_append, mem_foundN]
    constructor
    · rintro (⟨j, hj, h⟩ | h)
      · exact ⟨j, by omega, h⟩
      · exact ⟨n + 1, Nat.le_refl _, h⟩
    · rintro ⟨j, hj, h⟩
      by_cases e : j = n + 1
      · rw [e] at h; exact .inr h
      · exact .inl ⟨j, by omega, h⟩
theorem mem_moreN {E : List (List Str)} {a : Str} : ∀ {n : Nat} {x : List Str}, x ∈ moreN E a n ↔ ∃ j, j ≤ n ∧ x ∈ layN E a j
  | 0, x => ⟨fun h => ⟨0, Nat.le_refl _, h⟩, fun ⟨j, hj, h⟩ => by
      have e : j = 0 := by omega
      rw [e] at h; exact h⟩
  | n + 1, x => by
    show x ∈ oneMore (moreN E a n) a ↔ _
    rw [mem_oneMore, mem_moreN, List.mem_flatMap]
    constructor
    · rintro (⟨j, hj, h⟩ | ⟨e, he, h⟩)
      · exact ⟨j, by omega, h⟩
      · obtain ⟨j, hj, h2⟩ := mem_moreN.mp he
        exact ⟨j + 1, by omega, mem_dedup.mpr (List.mem_flatMap.mpr ⟨e, h2, h⟩)⟩
    · rintro ⟨j, hj, h⟩
      cases j with
      | zero => exact .inl ⟨0, Nat.zero_le _, h⟩
      | succ j =>
        obtain ⟨e, he, h2⟩ := List.mem_flatMap.mp (mem_dedup.mp (show x ∈ dedup _ from h))
        exact .inr ⟨e, mem_moreN.mpr ⟨j, by omega, he⟩, h2⟩
theorem layN_congr {E R : List (List Str)} (h : ∀ x, x ∈ E ↔ x ∈ R) {a : Str} : ∀ (n : Nat) (x : List Str), x ∈ layN E a n ↔ x ∈ layN R a n
  | 0, x => h x
  | n + 1, x => by
    show x ∈ dedup _ ↔ x ∈ dedup _
    rw [mem_dedup, mem_dedup, List.mem_flatMap, List.mem_flatMap]
    exact ⟨fun ⟨e, he, q⟩ => ⟨e, (layN_congr h n e).mp he, q⟩, fun ⟨e, he, q⟩ => ⟨e, (layN_congr h n e).mpr he, q⟩⟩
theorem more_found {E R : List (List Str)} (h : ∀ x, x ∈ E ↔ x ∈ R) (a : Str) (n : Nat) (x : List Str) : x ∈ moreN E a n ↔ x ∈ dedup (foundN R a n) := by
  rw [mem_moreN, mem_dedup, mem_foundN]
  exact ⟨fun ⟨j, hj, q⟩ => ⟨j, hj, (layN_congr h j x).mp q⟩, fun ⟨j, hj, q⟩ => ⟨j, hj, (layN_congr h j x).mpr q⟩⟩
/-- the same, when the dict is filled in the order of the names -/
theorem late_all {g : Str → Nat} : ∀ {l : List Str} {E R : List (List Str)}, (∀ x, x ∈ E ↔ x ∈ R) → ∀ x, x ∈ lateEnds E ((l.filter fun a => decide (0 < g a)).map fun a => (a, g a)) ↔ x ∈ l.foldl (fun rows a => dedup (foundN rows a (g a))) R
  | [], E, R, h, x => h x
  | a :: l, E, R, h, x => by
    rw [List.foldl_cons]
    by_cases q : 0 < g a
    · rw [List.filter_cons, if_pos (decide_eq_true q), List.map_cons]
      show x ∈ lateEnds (moreN E a (g a)) _ ↔ _
      exact late_all (fun y => more_found h a (g a) y) x
    · rw [List.filter_cons, if_neg (by simpa using q)]
      have e : g a = 0 := by omega
      refine late_all (fun y => ?_) x
      rw [e, mem_dedup]
      exact h y
instance {α β γ : Type} {T : α → S} {U : β → S} {W : γ → S} {p : α × β × γ} {K : PySem.W.Frag} : AsTp K (sv (sTri T U W p)) id [T p.1, U p.2.1, W p.2.2] := inferInstanceAs (AsTp K (sv (sO (oTup id [T p.1, U p.2.1, W p.2.2]))) id [T p.1, U p.2.1, W p.2.2])
theorem EndOk.len512 {names : List Str} {L t : Nat} {E : List (List Str)} (h : EndOk names L t E) (hL : L ≤ 3) (ht : t ≤ 3) : E.length ≤ 512 := by
  refine Nat.le_trans h.few (Nat.le_trans (Nat.pow_le_pow_left (show L + 5 ≤ 8 by omega) t) (Nat.le_trans (Nat.pow_le_pow_right (by decide) ht) (by decide)))
theorem EndOk.lay {names : List Str} {L t : Nat} {R : List (List Str)} (h : EndOk names L t R) (hL : L ≤ 3) {a : Str} (ha : a ∈ names) : ∀ j, t + j ≤ 3 → (∀ e ∈ layN R a j, (∀ b ∈ e, b ∈ names) ∧ e.length ≤ L + t + j) ∧ (layN R a j).length ≤ 8 ^ (t + j)
  | 0, _ => ⟨fun e he => ⟨h.nm e he, h.len e he⟩, Nat.le_trans h.few (Nat.pow_le_pow_left (by omega) t)⟩
  | j + 1, hj => by
    obtain ⟨h1, h2⟩ := h.lay hL ha j (by omega)
    refine ⟨fun e he => ?_, ?_⟩
    · obtain ⟨e0, he0, q⟩ := List.mem_flatMap.mp (mem_dedup.mp (show e ∈ dedup _ from he))
      obtain ⟨q1, q2⟩ := insAll_len q
      obtain ⟨g1, g2⟩ := h1 e0 he0
      refine ⟨fun b hb => ?_, by omega⟩
      rcases q2 b hb with z | z
      · rw [z]; exact ha
      · exact g1 b z
    · have hf : ∀ E : List (List Str), (∀ e ∈ E, e.length ≤ 6) → (E.flatMap (insAll a)).length ≤ E.length * 8 := fun E => by
        induction E with
        | nil => intro _; simp
        | cons e E ih =>
          intro h
          have := ih fun x hx => h x (List.mem_cons_of_mem _ hx)
          have h3 := h e List.mem_cons_self
          have hl : (insAll a e).length = e.length + 1 := by
            unfold insAll
            rw [List.length_map, List.length_range]
          rw [List.flatMap_cons, List.length_append, List.length_cons, Nat.succ_mul, hl]
          omega
      have h3 := hf (layN R a j) fun e he => by have := (h1 e he).2; omega
      have h4 := dedup_len ((layN R a j).flatMap (insAll a))
      show (dedup ((layN R a j).flatMap (insAll a))).length ≤ 8 ^ (t + j + 1)
      rw [Nat.pow_succ]
      omega
theorem EndOk.found {names : List Str} {L t : Nat} {R : List (List Str)} (h : EndOk names L t R) (hL : L ≤ 3) {a : Str} (ha : a ∈ names) : ∀ c, t + c ≤ 3 → (foundN R a c).length ≤ 512 * (c + 1)
  | 0, hc => by have := h.len512 hL (by omega); show R.length ≤ _; omega
  | c + 1, hc => by
    have h1 := h.found hL ha c (by omega)
    have h2 := (h.lay hL ha (c + 1) hc).2
    have h3 : 8 ^ (t + (c + 1)) ≤ 8 ^ 3 := Nat.pow_le_pow_right (by decide) hc
    show (foundN R a c ++ layN R a (c + 1)).length ≤ _
    rw [List.length_append]
    omega
theorem moreN_nd {E : List (List Str)} (h : E.Nodup) (a : Str) : ∀ n, (moreN E a n).Nodup
  | 0 => h
  | _ + 1 => dedup_nd _
theorem EndOk.dd {names : List Str} {L t : Nat} {R : List (List Str)} (h : EndOk names L t R) {a : Str} (ha : a ∈ names) {c : Nat} (hc : t + c ≤ 3) : EndOk names L (t + c) (dedup (foundN R a c)) := by
  have k := h.moreK ha c hc
  have hm := fun x => more_found (E := R) (R := R) (fun _ => Iff.rfl) a c x
  have hp : (moreN R a c).Perm (dedup (foundN R a c)) := (List.perm_ext_iff_of_nodup (moreN_nd h.nd a c) (dedup_nd _)).mpr hm
  exact ⟨fun e he => k.nm e ((hm e).mpr he), fun e he => k.len e ((hm e).mpr he), by rw [← hp.length_eq]; exact k.few, dedup_nd _, fun z => k.ne (by rw [z] at hp; exact hp.eq_nil)⟩
theorem getD_snoc_lt {α : Type} {l : List α} {x d : α} {k : Nat} (h : k < l.length) : (l ++ [x]).getD k d = l.getD k d := by
  simp [List.getD, List.getElem?_append_left h]
/-- what occurs for the first time -/
theorem first_occ (l : List (List Str)) : ((List.range l.length).filter fun k => !inB (l.getD k []) (l.take k)).map (fun k => l.getD k []) = dedup l := by
  suffices H : ∀ r : List (List Str), ((List.range r.reverse.length).filter fun k => !inB (r.reverse.getD k []) (r.reverse.take k)).map (fun k => r.reverse.getD k []) = dedup r.reverse by
    have := H l.reverse
    rwa [List.reverse_reverse] at this
  intro r
  induction r with
  | nil => rfl
  | cons x r ih =>
    rw [List.reverse_cons]
    generalize r.reverse = m at ih
    rw [List.length_append, List.length_singleton, List.range_succ, List.filter_append, List.map_append]
    have e1 : ((List.range m.length).filter fun k => !inB ((m ++ [x]).getD k []) ((m ++ [x]).take k)) = ((List.range m.length).filter fun k => !inB (m.getD k []) (m.take k)) := by
      refine List.filter_congr fun k hk => ?_
      have := List.mem_range.mp hk
      rw [getD_snoc_lt this, List.take_append_of_le_length (by omega)]
    have e2 : (((List.range m.length).filter fun k => !inB (m.getD k []) (m.take k)).map fun k => (m ++ [x]).getD k []) = ((List.range m.length).filter fun k => !inB (m.getD k []) (m.take k)).map fun k => m.getD k [] := by
      refine List.map_congr_left fun k hk => ?_
      exact getD_snoc_lt (List.mem_range.mp (List.mem_filter.mp hk).1)
    rw [e1, e2, ih]
    have ed : dedup (m ++ [x]) = if x ∈ dedup m then dedup m else dedup m ++ [x] := by
      unfold dedup
      rw [List.foldl_append]
      rfl
    rw [ed]
    have e3 : (m ++ [x]).getD m.length [] = x := by simp [List.getD]
    have e4 : (m ++ [x]).take m.length = m := by simp
    by_cases h : x ∈ m
    · rw [if_pos (mem_dedup.mpr h), List.filter_cons, e3, e4, inB_iff.mpr h]
      simp
    · have hb : inB x m = false := by
        cases q : inB x m with
        | false => rfl
        | true => exact absurd (inB_iff.mp q) h
      rw [if_neg (fun q => h (mem_dedup.mp q)), List.filter_cons, e3, e4, hb]
      simp [e3]
def putE (kv : List (List Str × Bool)) (w : List Str) : List (List Str × Bool) := pK kv w true
theorem putE_keys : ∀ (l : List (List Str)) (kv : List (List Str × Bool)), (l.foldl putE kv).map (·.1) = l.foldl addW (kv.map (·.1))
  | [], _ => rfl
  | w :: l, kv => by
    rw [List.foldl_cons, List.foldl_cons, putE_keys l]
    unfold putE addW
    rw [pK_keys]
    by_cases h : w ∈ kv.map (·.1)
    · rw [if_pos h, if_pos h]
    · rw [if_neg h, if_neg h]
theorem putE_len : ∀ (l : List (List Str)) (kv : List (List Str × Bool)), (l.foldl putE kv).length ≤ kv.length + l.length
  | [], _ => Nat.le_refl _
  | w :: l, kv => by
    have h1 := putE_len l (putE kv w)
    have h2 := pK_len kv w true
    rw [List.foldl_cons, List.length_cons]
    unfold putE at h1 ⊢
    omega
def putAll (a : Str) (kv : List (List Str × Bool)) (e : List Str) : List (List Str × Bool) := (insAll a e).foldl putE (putE kv e)
theorem putAll_len {a : Str} {m : Nat} : ∀ (E : List (List Str)) (kv : List (List Str × Bool)), (∀ e ∈ E, e.length ≤ m) → (E.foldl (putAll a) kv).length ≤ kv.length + E.length * (m + 2)
  | [], _, _ => by simp
  | e :: E, kv, h => by
    have h1 := putAll_len (a := a) E (putAll a kv e) fun x hx => h x (List.mem_cons_of_mem _ hx)
    have h2 := putE_len (insAll a e) (putE kv e)
    have h3 := pK_len kv e true
    have h4 := h e List.mem_cons_self
    have hl : (insAll a e).length = e.length + 1 := by
      unfold insAll
      rw [List.length_map, List.length_range]
    rw [List.foldl_cons, List.length_cons, Nat.succ_mul]
    unfold putAll at h1 ⊢
    unfold putE at h2
    unfold putE at h1 ⊢
    omega
theorem putAll_keys (a : Str) (E : List (List Str)) : (E.foldl (putAll a) []).map (·.1) = oneMore E a := by
  have h : ∀ (E : List (List Str)) (kv : List (List Str × Bool)), E.foldl (putAll a) kv = (E.flatMap fun e => e :: insAll a e).foldl putE kv := fun E => by
    induction E with
    | nil => intro kv; rfl
    | cons e E ih =>
      intro kv
      rw [List.foldl_cons, ih, List.flatMap_cons, List.foldl_append, List.foldl_cons]
      rfl
  rw [h, putE_keys]
  rfl
def Phi_with_one_more (as : List S) (o : O) : Prop := ∃ (E : List (List Str)) (a : Str), as = [sLst (sTup sStr) E, sStr a] ∧ E.length ≤ 10000 ∧ (∀ e ∈ E, e.length ≤ 100) ∧ o = oLst (sTup sStr) (oneMore E a)
theorem ok_with_one_more (F : FunE K "with_one_more" "with_one_more" s_with_one_more f fd) (m_len : mg "len" = none) (m_range : mg "range" = none) (m_list : mg "list" = none) : FnOk P w K mg base CX0 1 f fd ["ends", "activity"] (spOfN Phi_with_one_more) := by
  refine fn_okN F sc_with_one_more (fun as s h => by obtain ⟨E, a, rfl, _⟩ := h; rfl) (fun cdv A outer s0 H0 E0 as s hr h => ?_)
  obtain ⟨E, a, rfl, hl, hm, rfl⟩ := h
  refine r_cons (s_asgN 2 sc_with_one_more.nd (ev_dnewT (κ := List Str) (T := sBool)) ?_)
  refine r_cons (s_for (T := sTup sStr) (xs := E) 3 PassesOwn.never rfl sc_with_one_more.nd (fun i ss' => ∃ x y, ss' = [.val (sLst (sTup sStr) E), .val (sStr a), .own (oDT sBool ((E.take i).foldl (putAll a) [])), x, y]) (ev_var 0 rfl) ⟨_, _, rfl⟩ ?_ ?_)
  · rintro i e ss' he ⟨x, y, rfl⟩
    have hme := hm e (List.mem_of_getElem? he)
    have hkl := putAll_len (a := a) (E.take i) [] (m := 100) fun x hx => hm x (List.mem_of_mem_take hx)
    rw [List.length_take] at hkl
    have hkl2 : ((E.take i).foldl (putAll a) []).length ≤ 1020000 := Nat.le_trans hkl (by
      have : min i E.length * (100 + 2) ≤ 10000 * 102 := Nat.mul_le_mul (by omega) (by omega)
      simp only [List.length_nil]
      omega)
    rw [foldl_take he]
    generalize (E.take i).foldl (putAll a) [] = kv at hkl2 ⊢
    refine r_cons (s_dput (U := sTup sStr) 2 hr rfl ev_bl (ev_var 3 rfl) (szl (by omega)) ?_)
    refine r_one (s_forR 4 PassesOwn.never rfl sc_with_one_more.nd m_range (fun j ss' => ∃ y, ss' = [.val (sLst (sTup sStr) E), .val (sStr a), .own (oDT sBool (((insAll a e).take j).foldl putE (putE kv e))), .val (sTup sStr e), y]) (ev_add (ev_len m_len (ev_var 3 rfl)) ev_int) (by omega) ⟨_, rfl⟩ ?_ ?_)
    · rintro j ss' hj ⟨y, rfl⟩
      have hj' : j ≤ e.length := by omega
      have hg : (insAll a e)[j]? = some (e.take j ++ [a] ++ e.drop j) := by
        unfold insAll
        rw [List.getElem?_map, List.getElem?_range (by omega)]
        rfl
      have h2 := putE_len ((insAll a e).take j) (putE kv e)
      have h3 := pK_len kv e true
      rw [List.length_take] at h2
      refine r_one (s_dput (U := sTup sStr) 2 hr rfl ev_bl (ev_catT (ev_catT (EvE.to (ev_slT (ev_var 3 rfl) eo_none (eo_some (ev_var 4 rfl))) (by rw [cutL_pre])) (EvN.toE (ev_tup (T := sStr) (em_cons (ev_var 1 rfl) em_nil) (sz (show 1 ≤ 16777216 by decide)))) (sz (by rw [List.length_take, List.length_singleton]; omega))) (EvE.to (ev_slT (ev_var 3 rfl) (eo_some (ev_var 4 rfl)) eo_none) (by rw [cutL_suf])) (sz (by simp only [List.length_append, List.length_take, List.length_drop, List.length_singleton]; omega))) (szl ?_) ⟨.val (sInt (j : Int)), ?_⟩)
      · unfold putE at h2 ⊢
        omega
      · rw [foldl_take hg]
        rfl
    · rintro ss' ⟨y, rfl⟩
      have hl2 : ((e.length : Int) + 1).toNat = (insAll a e).length := by
        unfold insAll
        rw [List.length_map, List.length_range]
        omega
      rw [hl2, List.take_length]
      exact ⟨_, _, rfl⟩
  · rintro ss' ⟨x, y, rfl⟩
    rw [List.take_length]
    refine r_one (s_retN (ev_listDT (sTup sStr) rfl m_list (ev_own 2 rfl)) (fun F c p h => ?_))
    rw [putAll_keys] at h
    exact h
def Phi_in_order (as : List S) (o : O) : Prop := ∃ (E : List (List Str)) (names : List Str), as = [sLst (sTup sStr) E, sO (oNm sStr names)] ∧ E.length ≤ 1000000 ∧ (∀ e ∈ E, e.length ≤ 1000 ∧ ∀ a ∈ e, a ∈ names) ∧ o = oLst (sTup sStr) (sortedT names E)
theorem idx_first {names : List Str} {a : Str} : ∀ m, m < names.idxOf a → names[m]? ≠ some a := fun m hm e => by
  obtain ⟨hl, he⟩ := List.getElem?_eq_some_iff.mp e
  have h2 := List.not_of_lt_findIdx (show m < names.findIdx (· == a) from hm)
  rw [he] at h2
  simp at h2
theorem idx_at {names : List Str} {a : Str} (h : a ∈ names) : names[names.idxOf a]? = some a ∧ ∀ m, m < names.idxOf a → names[m]? ≠ some a := by
  have hl := List.idxOf_lt_length_iff.mpr h
  exact ⟨by rw [List.getElem?_eq_getElem hl, List.getElem_idxOf hl], idx_first⟩
theorem ok_in_order (F : FunE K "in_order" "in_order" s_in_order f fd) (m_len : mg "len" = none) (m_sorted : mg "sorted" = none) : FnOk P w K mg base CX0 1 f fd ["traces", "names"] (spOfN Phi_in_order) := by
  refine fn_okN F sc_in_order (fun as s h => by obtain ⟨E, a, rfl, _⟩ := h; rfl) (fun cdv A outer s0 H0 E0 as s hr h => ?_)
  obtain ⟨E, names, rfl, hl, hm, rfl⟩ := h
  refine r_cons (s_asgLc 2 rfl sc_in_order.nd (lc_seqT (T := sTup sStr) (U := sTriT) (xs := E) 4 (triOf names) (ev_var 0 rfl) (sz (by omega)) (fun i e he => fun _ _ _ _ _ => EvN.toE (ev_tup (T := id) (xs := [sInt (e.length : Int), sLst sNat (e.map names.idxOf), sTup sStr e]) (em_cons (x := sInt (e.length : Int)) (ev_len m_len (ev_var 4 rfl)) (em_cons (x := sLst sNat (e.map names.idxOf)) (EvN.toE (ev_lc rfl sc_in_order.nd (lc_seqT (T := sStr) (U := sNat) (xs := e) 3 (fun a => names.idxOf a) (ev_var 4 rfl) (sz (by have := (hm e (List.mem_of_getElem? he)).1; omega)) (fun j a ha => fun _ _ _ _ _ => ev_index (n := names.idxOf a) (ev_var 1 rfl) (ev_var 3 rfl) (idx_at ((hm e (List.mem_of_getElem? he)).2 a (List.mem_of_getElem? ha))).1 (idx_at ((hm e (List.mem_of_getElem? he)).2 a (List.mem_of_getElem? ha))).2)))) (em_cons (x := sTup sStr e) (ev_var 4 rfl) em_nil))) (sz (show 3 ≤ 16777216 by decide))))) ?_)
  have hs : (srt sTriT (E.map (triOf names))).length = E.length := by
    rw [(srt_perm (T := sTriT) _).length_eq, List.length_map]
  refine r_one (s_retN (ev_lc rfl sc_in_order.nd (lc_seqT (T := sTriT) (U := sTup sStr) (xs := srt sTriT (E.map (triOf names))) 5 (fun x => x.2.2) (EvN.toE (ev_sortedD (T := sTriT) hr m_sorted (ev_own 2 rfl) (tri_sortable E))) (sz (by omega)) (fun i x hx => fun _ _ _ _ _ => ev_at (s := sTup sStr x.2.2) 2 (ev_var 5 rfl) rfl))) (fun F c p h => h))
theorem gK_late {κ β : Type} [DecidableEq κ] : ∀ {l : List (κ × β)}, (l.map (·.1)).Nodup → ∀ {e : κ × β}, e ∈ l → gK l e.1 = some e.2
  | [], _, _, h => by cases h
  | x :: l, hn, e, h => by
    rw [List.map_cons, List.nodup_cons] at hn
    rcases List.mem_cons.mp h with q | q
    · subst q
      simp [gK, List.find?_cons]
    · have hne : ¬ x.1 = e.1 := fun z => hn.1 (by rw [z]; exact List.mem_map_of_mem q)
      have := gK_late hn.2 q
      unfold gK at this ⊢
      rw [List.find?_cons]
      simp [hne, this]
theorem lateEnds_take {E : List (List Str)} {late : List (Str × Nat)} {i : Nat} {kv : Str × Nat} (h : late[i]? = some kv) : lateEnds E (late.take (i + 1)) = moreN (lateEnds E (late.take i)) kv.1 kv.2 := by
  unfold lateEnds
  exact foldl_take h
theorem lateSum_app (a b : List (Str × Nat)) : lateSum (a ++ b) = lateSum a + lateSum b := by simp [lateSum]
theorem lateSum_take {late : List (Str × Nat)} {i : Nat} {kv : Str × Nat} (h : late[i]? = some kv) : lateSum (late.take i) + kv.2 ≤ lateSum late := by
  have e : late = late.take i ++ kv :: late.drop (i + 1) := by
    obtain ⟨hi, hk⟩ := List.getElem?_eq_some_iff.mp h
    rw [← hk, ← List.drop_eq_getElem_cons hi, List.take_append_drop]
  have : lateSum late = lateSum (late.take i) + (kv.2 + lateSum (late.drop (i + 1))) := by
    unfold lateSum
    rw [congrArg (fun l => (l.map (·.2)).sum) e]
    simp
  omega
def Phi_variants (as : List S) (o : O) : Prop := ∃ (running : List Str) (late : List (Str × Nat)) (p : Nat) (names : List Str), as = [sSq sStr running, sO (oDL sNat late), sInt (p : Int), sO (oNm sStr names)] ∧ running.length ≤ 10000 ∧ (∀ a ∈ running, a ∈ names) ∧ (late.map (·.1)).Nodup ∧ (∀ kv ∈ late, kv.1 ∈ names) ∧ lateSum late ≤ 3 ∧ p ≤ 3 ∧ names.length ≤ 5 ∧ o = oLL sStr (varsOf names running late p)
theorem ok_variants (F : FunE K "variants" "variants" s_variants f fd) (m_len : mg "len" = none) (m_max : mg "max" = none) (m_tuple : mg "tuple" = none) (m_range : mg "range" = none) (m_list : mg "list" = none) (C_with_one_more : CalleeN P w K mg base 1 "with_one_more" Phi_with_one_more) (C_in_order : CalleeN P w K mg base 1 "in_order" Phi_in_order) : FnOk P w K mg base CX0 2 f fd ["running", "late", "places", "names"] (spOfN Phi_variants) := by
  refine fn_okN F sc_variants (fun as s h => by obtain ⟨r, l, p, n, rfl, _⟩ := h; rfl) (fun cdv A outer s0 H0 E0 as s hr h => ?_)
  obtain ⟨tr, late, p, names, rfl, hl, hm, hnd, hln, hs, hp, h5, rfl⟩ := h
  have ek : max 0 ((tr.length : Int) - (p : Int)) = ((tr.length - p : Nat) : Int) := by omega
  have hd3 : (tr.drop (tr.length - p)).length ≤ 3 := by rw [List.length_drop]; omega
  have hdm : ∀ a ∈ tr.drop (tr.length - p), a ∈ names := fun a ha => hm a (List.mem_of_mem_drop ha)
  refine r_cons (s_asg 4 sc_variants.nd (s := sInt ((tr.length - p : Nat) : Int)) (EvE.to (ev_max2 rfl m_max ev_int (ev_sub (ev_len m_len (ev_var 0 rfl)) (ev_var 2 rfl))) (by rw [ek])) ?_)
  refine r_cons (s_asg 5 sc_variants.nd (s := sLst (sTup sStr) [tr.drop (tr.length - p)]) (EvN.toE (ev_lst (T := sTup sStr) (em_cons (x := tr.drop (tr.length - p)) (ev_tupQ m_tuple (EvE.to (ev_slQ (ev_var 0 rfl) (eo_some (ev_var 4 rfl)) eo_none) (by rw [cutL_suf]))) em_nil) (sz (show 1 ≤ 16777216 by decide)))) ?_)
  have start := EndOk.start (names := names) hdm
  have ok := fun i => (start.late (late := late.take i) (fun kv h => hln kv (List.mem_of_mem_take h)) (by
    have e : late = late.take i ++ late.drop i := (List.take_append_drop i late).symm
    have : lateSum late = lateSum (late.take i) + lateSum (late.drop i) := by rw [← lateSum_app, List.take_append_drop]
    omega))
  generalize hE : [tr.drop (tr.length - p)] = E at start ok ⊢
  refine r_cons (s_forI (T := sStr) (xs := late.map (·.1)) (g := gName 6) (fun a ss => ss.set 6 (.val (sStr a))) PassesOwn.never rfl (pg_name (i := 6) sc_variants.nd rfl (by first | exact .inl rfl | exact .inr rfl)) (fun a => gto_name)
    (fun i ss' => ∃ x6 x7, ss' = [.val (sSq sStr tr), .val (sO (oDL sNat late)), .val (sInt (p : Int)), .val (sO (oNm sStr names)), .val (sInt ((tr.length - p : Nat) : Int)), .val (sLst (sTup sStr) (lateEnds E (late.take i))), x6, x7, .any, .any])
    (ei_keysK (U := sStr) (T := sNat) (kvs := late) (ev_var 1 rfl)) ⟨_, _, rfl⟩ ?_ ?_)
  · rintro i a ss' ha ⟨x6, x7, rfl⟩
    rw [List.getElem?_map] at ha
    obtain ⟨⟨a', c⟩, hkv, rfl⟩ := Option.map_eq_some_iff.mp ha
    have hmem := List.mem_of_getElem? hkv
    have hgk := gK_late hnd hmem
    have hin := hln _ hmem
    have hst := lateSum_take hkv
    simp only at hgk hin hst
    rw [lateEnds_take hkv]
    have oki := ok i
    generalize lateEnds E (late.take i) = E1 at oki ⊢
    refine r_one (s_forR 7 PassesOwn.never rfl sc_variants.nd m_range (fun j ss' => ∃ x7, ss' = [.val (sSq sStr tr), .val (sO (oDL sNat late)), .val (sInt (p : Int)), .val (sO (oNm sStr names)), .val (sInt ((tr.length - p : Nat) : Int)), .val (sLst (sTup sStr) (moreN E1 a' j)), .val (sStr a'), x7, .any, .any]) (ev_getK (U := sStr) (T := sNat) (x := c) hr (ev_var 1 rfl) (ev_var 6 rfl) hgk) (by omega) ⟨_, rfl⟩ ?_ ?_)
    · rintro j ss' hj ⟨x7, rfl⟩
      have okj := oki.moreK hin j (by omega)
      have h512 := okj.len512 hd3 (by omega)
      refine r_one (s_asg 5 sc_variants.nd (s := sLst (sTup sStr) (moreN E1 a' (j + 1))) (EvN.toE (ev_callN C_with_one_more hr (eas_cons (ev_var 5 rfl) (eas_cons (ev_var 6 rfl) eas_nil)) ⟨moreN E1 a' j, a', rfl, by omega, fun e he => by have := okj.len e he; omega, rfl⟩)) ⟨_, rfl⟩)
    · rintro ss' ⟨x7, rfl⟩
      exact ⟨_, _, rfl⟩
  · rintro ss' ⟨x6, x7, rfl⟩
    rw [List.length_map, List.take_length]
    have okl := ok late.length
    rw [List.take_length] at okl
    have h512 := okl.len512 hd3 (by omega)
    have hsp := srt_tri_perm (W := sTup sStr) (names := names) (lateEnds E late)
    have hspl : (sortedT names (lateEnds E late)).length = (lateEnds E late).length := hsp.length_eq
    have hsm : ∀ e ∈ sortedT names (lateEnds E late), e.length ≤ 100 := fun e he => by
      have := okl.len e (hsp.mem_iff.mp he)
      omega
    refine r_cons (s_asg 8 sc_variants.nd (s := sLst sStr (tr.take (tr.length - p))) (EvN.toE (ev_list m_list (EvE.to (ev_slQ (ev_var 0 rfl) eo_none (eo_some (ev_var 4 rfl))) (by rw [cutL_pre])))) ?_)
    refine r_one (s_retN (ev_lcg (own := [("end", 9)]) rfl sc_variants.nd (lc_newL (T := sStr) (Te := sTup sStr) (xs := sortedT names (lateEnds E late)) (fun e => _) (fun e => tr.take (tr.length - p) ++ e) (ei_seq (EvN.toE (ev_callN C_in_order hr (eas_cons (ev_var 5 rfl) (eas_cons (ev_var 3 rfl) eas_nil)) ⟨lateEnds E late, names, rfl, by omega, fun e he => ⟨by have := okl.len e he; omega, okl.nm e he⟩, rfl⟩))) (sz (by omega)) (fun e => gtw_name) (fun i e he => fun _ _ _ _ _ => ev_catL (ev_var 8 rfl).toB (EvN.toE (ev_list m_list (ev_var 9 rfl))).toB (sz (by have := hsm e (List.mem_of_getElem? he); rw [List.length_take]; omega)))) (by kernel_rfl) (fun _ _ _ _ _ => pg_name (i := 9) sc_variants.nd rfl (by first | exact .inl rfl | exact .inr rfl))) (fun F c p h => ?_))
    unfold varsOf
    rw [hE]
    exact h
def cntOf (c : Int) (k l : Nat) : Nat := min l (c / 9 / (1 + 4 * (k : Int)) % 3).toNat
def leftL (c : Int) : Nat → Nat
  | 0 => 3
  | k + 1 => leftL c k - cntOf c k (leftL c k)
def cntAt (c : Int) (k : Nat) : Nat := cntOf c k (leftL c k)
def lateTo (names : List Str) (c : Int) (i : Nat) : List (Str × Nat) := ((List.range i).filter fun k => decide (0 < cntAt c k)).map fun k => (names.getD k Str.empty, cntAt c k)
@[irreducible] def lawLate (names : List Str) (c : Int) : List (Str × Nat) := lateTo names c names.length
def gOf (names : List Str) (c : Int) (a : Str) : Nat := cntAt c (names.idxOf a)
theorem leftL_le (c : Int) : ∀ k, leftL c k ≤ 3
  | 0 => Nat.le_refl _
  | k + 1 => by have := leftL_le c k; show leftL c k - _ ≤ 3; omega
theorem lateTo_succ (names : List Str) (c : Int) (i : Nat) : lateTo names c (i + 1) = if 0 < cntAt c i then lateTo names c i ++ [(names.getD i Str.empty, cntAt c i)] else lateTo names c i := by
  unfold lateTo
  rw [List.range_succ, List.filter_append, List.map_append]
  by_cases h : 0 < cntAt c i
  · rw [if_pos h, List.filter_cons, if_pos (decide_eq_true h)]
    rfl
  · rw [if_neg h, List.filter_cons, if_neg (by simpa using h)]
    simp
theorem lateTo_sum (names : List Str) (c : Int) : ∀ i, lateSum (lateTo names c i) + leftL c i = 3
  | 0 => rfl
  | i + 1 => by
    have ih := lateTo_sum names c i
    have h1 : cntAt c i ≤ leftL c i := by unfold cntAt cntOf; omega
    have h2 : leftL c (i + 1) = leftL c i - cntAt c i := rfl
    rw [lateTo_succ]
    by_cases h : 0 < cntAt c i
    · rw [if_pos h]
      have : lateSum (lateTo names c i ++ [(names.getD i Str.empty, cntAt c i)]) = lateSum (lateTo names c i) + cntAt c i := by simp [lateSum]
      omega
    · rw [if_neg h]
      omega
theorem getD_eq {α : Type} {l : List α} {k : Nat} (h : k < l.length) (d : α) : l.getD k d = l[k] := by simp [List.getD, h]
theorem idx_getD {names : List Str} (h : names.Nodup) {k : Nat} (hk : k < names.length) : names.idxOf (names.getD k Str.empty) = k := by
  rw [getD_eq hk]
  have hm : names.idxOf names[k] < names.length := List.idxOf_lt_length_iff.mpr (List.getElem_mem hk)
  exact (List.getElem_inj h).mp (List.getElem_idxOf hm)
theorem range_getDx {α : Type} (d : α) : ∀ l : List α, ((List.range l.length).map fun i => l.getD i d) = l
  | [] => rfl
  | x :: l => by
    rw [List.length_cons, List.range_succ_eq_map, List.map_cons, List.map_map]
    congr 1
    exact range_getDx d l
theorem lawLate_form {names : List Str} (h : names.Nodup) (c : Int) : lawLate names c = (names.filter fun a => decide (0 < gOf names c a)).map fun a => (a, gOf names c a) := by
  unfold lawLate lateTo
  have e : names.filter (fun a => decide (0 < gOf names c a)) = ((List.range names.length).filter fun k => decide (0 < cntAt c k)).map fun k => names.getD k Str.empty := by
    have e1 := congrArg (fun l : List Str => l.filter fun a => decide (0 < gOf names c a)) (range_getDx Str.empty names)
    rw [← e1, List.filter_map]
    congr 1
    refine List.filter_congr fun k hk => ?_
    show decide (0 < cntAt c (names.idxOf (names.getD k Str.empty))) = _
    rw [idx_getD h (List.mem_range.mp hk)]
  rw [e, List.map_map]
  refine List.map_congr_left fun k hk => ?_
  have hk' := List.mem_range.mp (List.mem_filter.mp hk).1
  show _ = (names.getD k Str.empty, cntAt c (names.idxOf (names.getD k Str.empty)))
  rw [idx_getD h hk']
theorem lawLate_ok {names : List Str} (h : names.Nodup) (c : Int) : ((lawLate names c).map (·.1)).Nodup ∧ (∀ kv ∈ lawLate names c, kv.1 ∈ names) ∧ lateSum (lawLate names c) ≤ 3 ∧ ∀ a ∈ names, (gK (lawLate names c) a).getD 0 = gOf names c a := by
  have hf := lawLate_form h c
  have hn : ((lawLate names c).map (·.1)).Nodup := by
    rw [hf, List.map_map]
    show ((names.filter _).map id).Nodup
    rw [List.map_id]
    exact h.sublist List.filter_sublist
  refine ⟨hn, fun kv hk => ?_, ?_, fun a ha => ?_⟩
  · rw [hf] at hk
    obtain ⟨b, hb, rfl⟩ := List.mem_map.mp hk
    exact (List.mem_filter.mp hb).1
  · have := lateTo_sum names c names.length
    unfold lawLate
    omega
  · by_cases q : 0 < gOf names c a
    · have : (a, gOf names c a) ∈ lawLate names c := by
        rw [hf]
        exact List.mem_map.mpr ⟨a, List.mem_filter.mpr ⟨ha, decide_eq_true q⟩, rfl⟩
      rw [gK_late hn this]
      rfl
    · have : gK (lawLate names c) a = none := gK_none fun kv hk e => by
        rw [hf] at hk
        obtain ⟨b, hb, rfl⟩ := List.mem_map.mp hk
        have e' : b = a := e
        have := of_decide_eq_true (List.mem_filter.mp hb).2
        rw [e'] at this
        omega
      rw [this]
      show 0 = _
      omega
def Phi_law_late (as : List S) (o : O) : Prop := ∃ (names : List Str) (c : Int), as = [sLst sStr names, sInt c] ∧ names.Nodup ∧ names.length ≤ 5 ∧ o = oDK sNat (lawLate names c)
theorem ok_law_late (F : FunE K "_law_late" "_law_late" s_law_late f fd) (m_len : mg "len" = none) (m_range : mg "range" = none) (m_min : mg "min" = none) (m_int : mg "int" = none) : FnOk P w K mg base CX0 1 f fd ["names", "cell"] (spOfN Phi_law_late) := by
  refine fn_okN F sc_law_late (fun as s h => by obtain ⟨n, c, rfl, _⟩ := h; rfl) (fun cdv A outer s0 H0 E0 as s hr h => ?_)
  obtain ⟨names, c, rfl, hnd, h5, rfl⟩ := h
  refine r_cons (s_asgN 2 sc_law_late.nd (o := oDK (κ := Str) sNat []) ev_dnewK ?_)
  refine r_cons (s_asg 3 sc_law_late.nd (s := sNat 3) ev_int ?_)
  refine r_cons (s_forR 4 PassesOwn.never rfl sc_law_late.nd m_range (fun i ss' => ∃ x y, ss' = [.val (sLst sStr names), .val (sInt c), .own (oDK sNat (lateTo names c i)), .val (sNat (leftL c i)), x, y]) (ev_len m_len (ev_var 0 rfl)) (by omega) ⟨_, _, rfl⟩ ?_ ?_)
  · rintro i ss' hi ⟨x, y, rfl⟩
    have hin : i < names.length := by omega
    have m1 := Int.emod_nonneg (c / 9 / (1 + 4 * (i : Int))) (show (3 : Int) ≠ 0 by decide)
    have hl := leftL_le c i
    have ec : min ((leftL c i : Nat) : Int) (c / 3 ^ (2 : Int).toNat / (1 + 4 * (i : Int)) % 3) = ((cntAt c i : Nat) : Int) := by
      have e9 : (3 : Int) ^ (2 : Int).toNat = 9 := by decide
      rw [e9]
      unfold cntAt cntOf
      omega
    have hc3 : cntAt c i ≤ leftL c i := by unfold cntAt cntOf; omega
    refine r_cons (s_asg 5 sc_law_late.nd (s := sNat (cntAt c i)) (EvE.to (ev_min2 rfl m_min (ev_var 3 rfl) (ev_mod (ev_intI m_int (ev_div (ev_div (ev_var 1 rfl) (ev_pow ev_int ev_int ⟨by decide, by decide, by decide⟩) ⟨by decide, by decide⟩) (ev_add ev_int (ev_mul ev_int (ev_var 4 rfl) (.inl ⟨by decide, by decide⟩))) ⟨by omega, by omega⟩)) ev_int (by decide))) (by rw [ec]; rfl)) ?_)
    refine r_cut (fun ss' => ss' = [.val (sLst sStr names), .val (sInt c), .own (oDK sNat (lateTo names c (i + 1))), .val (sNat (leftL c i)), .val (sInt (i : Int)), .val (sNat (cntAt c i))]) (s_if (et_gt (ev_var 5 rfl) ev_int) (fun h => ?_) (fun h => r_nil ?_)) ?_
    · have h' : 0 < cntAt c i := by have := of_decide_eq_true h; omega
      have hni : names.getD i Str.empty ∉ (lateTo names c i).map (·.1) := fun q => by
        obtain ⟨kv, hkv, e⟩ := List.mem_map.mp q
        obtain ⟨k, hk, rfl⟩ := List.mem_map.mp hkv
        have hki := List.mem_range.mp (List.mem_filter.mp hk).1
        have e1 := idx_getD hnd hin
        have e2 := idx_getD hnd (show k < names.length by omega)
        have e' : names.getD k Str.empty = names.getD i Str.empty := e
        rw [e', e1] at e2
        omega
      have hlen : (lateTo names c i).length ≤ i := by
        unfold lateTo
        rw [List.length_map]
        have := List.length_filter_le (fun k => decide (0 < cntAt c k)) (List.range i)
        rw [List.length_range] at this
        exact this
      refine r_one (s_putK (U := sStr) (T := sNat) 2 hr rfl (ev_var 5 rfl) (ev_ix (T := sStr) (x := names.getD i Str.empty) (ev_var 0 rfl) (ev_var 4 rfl) (atI_n _ hin)) (szl (by omega)) ?_)
      rw [pK_new hni, lateTo_succ, if_pos h']
      rfl
    · have h' : ¬ 0 < cntAt c i := by have := of_decide_eq_false h; omega
      rw [lateTo_succ, if_neg h']
      rfl
    rintro ss' rfl
    exact r_one (s_asg 3 sc_law_late.nd (s := sNat (leftL c (i + 1))) (EvE.to (ev_sub (ev_var 3 rfl) (ev_var 5 rfl)) (by
      show _ = sv (sInt ((leftL c i - cntAt c i : Nat) : Int))
      rw [show ((leftL c i - cntAt c i : Nat) : Int) = ((leftL c i : Nat) : Int) - ((cntAt c i : Nat) : Int) by omega])) ⟨_, _, rfl⟩)
  · rintro ss' ⟨x, y, rfl⟩
    refine r_one (s_retO 2 rfl (fun F c' p h => ?_))
    unfold lawLate
    exact h
def putIn (f : List (List Str)) (w : List Str) : List (List Str) := if !inB w f then f ++ [w] else f
theorem putIn_addW (f : List (List Str)) (w : List Str) : putIn f w = addW f w := by
  unfold putIn addW
  by_cases h : w ∈ f
  · rw [inB_iff.mpr h, if_pos h]
    rfl
  · have : inB w f = false := by
      cases q : inB w f with
      | false => rfl
      | true => exact absurd (inB_iff.mp q) h
    rw [this, if_neg h]
    rfl
def Phi_law_put (as : List S) (s : S) : Prop := ∃ (E : List (List Str)) (a : Str), as = [sLst (sLst sStr) E, sStr a] ∧ E.length ≤ 10000 ∧ (∀ e ∈ E, e.length ≤ 100) ∧ s = sLst (sLst sStr) (lawPut E a)
theorem ok_law_put (F : FunE K "_law_put" "_law_put" s_law_put f fd) (m_len : mg "len" = none) (m_range : mg "range" = none) : FnOk P w K mg base CX0 1 f fd ["rows", "name"] (spOf Phi_law_put) := by
  refine fn_ok F sc_law_put (fun as s h => by obtain ⟨E, a, rfl, _⟩ := h; rfl) (fun cdv A outer s0 H0 E0 as s hr h => ?_)
  obtain ⟨E, a, rfl, hl, hm, rfl⟩ := h
  have fl : ∀ (l : List (List Str)) (m : Nat), (∀ e ∈ l, e.length ≤ m) → ∀ acc : List (List Str), (l.foldl (fun f e => (insAll a e).foldl addW f) acc).length ≤ acc.length + l.length * (m + 1) := fun l m => by
    induction l with
    | nil => intro _ acc; simp
    | cons e l ih =>
      intro h acc
      have h1 := ih (fun x hx => h x (List.mem_cons_of_mem _ hx)) ((insAll a e).foldl addW acc)
      have h2 := foldW_len (insAll a e) acc
      have h3 := h e List.mem_cons_self
      have hl : (insAll a e).length = e.length + 1 := by
        unfold insAll
        rw [List.length_map, List.length_range]
      rw [List.foldl_cons, List.length_cons, Nat.succ_mul]
      omega
  refine r_cons (s_asgN 2 sc_law_put.nd (ev_lst (T := sLst sStr) em_nil (sz (by decide))) ?_)
  refine r_cons (s_for (T := sLst sStr) (xs := E) 3 PassesOwn.never rfl sc_law_put.nd (fun i ss' => ∃ x y z, ss' = [.val (sLst (sLst sStr) E), .val (sStr a), .own (oLst (sLst sStr) ((E.take i).foldl (fun f e => (insAll a e).foldl addW f) [])), x, y, z]) (ev_var 0 rfl) ⟨_, _, _, rfl⟩ ?_ ?_)
  · rintro i e ss' he ⟨x, y, z, rfl⟩
    have hme := hm e (List.mem_of_getElem? he)
    have hkl := fl (E.take i) 100 (fun x hx => hm x (List.mem_of_mem_take hx)) []
    rw [List.length_take] at hkl
    have hkl2 : ((E.take i).foldl (fun f e => (insAll a e).foldl addW f) []).length ≤ 1010000 := Nat.le_trans hkl (by
      have : min i E.length * (100 + 1) ≤ 10000 * 101 := Nat.mul_le_mul (by omega) (by omega)
      simp only [List.length_nil]
      omega)
    rw [foldl_take he]
    generalize (E.take i).foldl (fun f e => (insAll a e).foldl addW f) [] = kv at hkl2 ⊢
    refine r_one (s_forR 4 PassesOwn.never rfl sc_law_put.nd m_range (fun j ss' => ∃ y z, ss' = [.val (sLst (sLst sStr) E), .val (sStr a), .own (oLst (sLst sStr) (((insAll a e).take j).foldl addW kv)), .val (sLst sStr e), y, z]) (ev_add (ev_len m_len (ev_var 3 rfl)) ev_int) (by omega) ⟨_, _, rfl⟩ ?_ ?_)
    · rintro j ss' hj ⟨y, z, rfl⟩
      have hj' : j ≤ e.length := by omega
      have hg : (insAll a e)[j]? = some (e.take j ++ [a] ++ e.drop j) := by
        unfold insAll
        rw [List.getElem?_map, List.getElem?_range (by omega)]
        rfl
      have h2 := foldW_len ((insAll a e).take j) kv
      rw [List.length_take] at h2
      rw [foldl_take hg]
      generalize ((insAll a e).take j).foldl addW kv = kv2 at h2 ⊢
      refine r_cons (s_asg 5 sc_law_put.nd (s := sLst sStr (e.take j ++ [a] ++ e.drop j)) (EvN.toE (ev_catL (EvN.toB (ev_catL (EvN.toB (ev_slPre (ev_var 3 rfl) (eo_some (ev_var 4 rfl)))) (EvN.toB (ev_lst (T := sStr) (em_cons (ev_var 1 rfl) em_nil) (sz (show 1 ≤ 16777216 by decide)))) (sz (by rw [List.length_take, List.length_singleton]; omega)))) (EvN.toB (ev_slSuf (ev_var 3 rfl) (eo_some (ev_var 4 rfl)))) (sz (by simp only [List.length_append, List.length_take, List.length_drop, List.length_singleton]; omega)))) ?_)
      rw [← putIn_addW]
      unfold putIn
      refine r_one (s_if (et_nin (sLst sStr) hr (ev_var 5 rfl) (ev_own 2 rfl)) (fun h => ?_) (fun h => r_nil ?_))
      · refine r_one (s_app 2 rfl (y := e.take j ++ [a] ++ e.drop j) (ev_var 5 rfl) (szl (by omega)) ⟨.val (sInt (j : Int)), .val (sLst sStr (e.take j ++ [a] ++ e.drop j)), ?_⟩)
        rw [show (!inB (e.take j ++ [a] ++ e.drop j) kv2) = true from h, if_pos rfl]
        rfl
      · refine ⟨.val (sInt (j : Int)), .val (sLst sStr (e.take j ++ [a] ++ e.drop j)), ?_⟩
        rw [show (!inB (e.take j ++ [a] ++ e.drop j) kv2) = false from h, if_neg Bool.false_ne_true]
        rfl
    · rintro ss' ⟨y, z, rfl⟩
      have hl2 : ((e.length : Int) + 1).toNat = (insAll a e).length := by
        unfold insAll
        rw [List.length_map, List.length_range]
        omega
      rw [hl2, List.take_length]
      exact ⟨_, _, _, rfl⟩
  · rintro ss' ⟨x, y, z, rfl⟩
    rw [List.take_length]
    refine r_pub 2 rfl (r_one (s_ret (ev_var 2 rfl) (fun F v h => ?_)))
    unfold lawPut dedup
    rw [List.foldl_flatMap]
    exact h
def Phi_law_all (as : List S) (s : S) : Prop := ∃ (last : List Str) (late : List (Str × Nat)) (names : List Str), as = [sLst sStr last, sO (oDL sNat late), sLst sStr names] ∧ last.length ≤ 3 ∧ (∀ a ∈ last, a ∈ names) ∧ names.length ≤ 5 ∧ (∀ i, i ≤ names.length → ((names.take i).map fun a => (gK late a).getD 0).sum ≤ 3) ∧ s = sLst (sLst sStr) (lawAll late names last)
theorem ok_law_all (F : FunE K "_law_all" "_law_all" s_law_all f fd) (m_len : mg "len" = none) (m_range : mg "range" = none) (m_list : mg "list" = none) (C_law_put : Callee P w K mg base 1 "_law_put" Phi_law_put) : FnOk P w K mg base CX0 2 f fd ["last", "late", "names"] (spOf Phi_law_all) := by
  refine fn_ok F sc_law_all (fun as s h => by obtain ⟨l, t, n, rfl, _⟩ := h; rfl) (fun cdv A outer s0 H0 E0 as s hr h => ?_)
  obtain ⟨last, late, names, rfl, hl3, hlm, h5, hsum, rfl⟩ := h
  have start := EndOk.start (names := names) hlm
  have okA : ∀ i, i ≤ names.length → EndOk names last.length (((names.take i).map fun a => (gK late a).getD 0).sum) ((names.take i).foldl (fun rows a => dedup (foundN rows a ((gK late a).getD 0))) [last]) := fun i => by
    induction i with
    | zero => exact fun _ => start
    | succ i ih =>
      intro hi
      have ok := ih (by omega)
      have hg : names[i]? = some names[i] := List.getElem?_eq_getElem (by omega)
      have hs := hsum (i + 1) hi
      rw [foldl_take hg]
      rw [List.take_succ, hg, Option.toList_some, List.map_append, List.sum_append] at hs ⊢
      simp only [List.map_cons, List.map_nil, List.sum_cons, List.sum_nil, Nat.add_zero] at hs ⊢
      exact ok.dd (List.getElem_mem _) hs
  refine r_cons (s_asg 3 sc_law_all.nd (s := sLst (sLst sStr) [last]) (EvN.toE (ev_lst (T := sLst sStr) (em_cons (x := last) (EvN.toE (ev_list m_list (ev_var 0 rfl))) em_nil) (sz (show 1 ≤ 16777216 by decide)))) ?_)
  refine r_cons (s_for (T := sStr) (xs := names) 4 PassesOwn.never rfl sc_law_all.nd (fun i ss' => ∃ x4 x5 x6 x7, ss' = [.val (sLst sStr last), .val (sO (oDL sNat late)), .val (sLst sStr names), .val (sLst (sLst sStr) ((names.take i).foldl (fun rows a => dedup (foundN rows a ((gK late a).getD 0))) [last])), x4, x5, x6, x7]) (ev_var 2 rfl) ⟨_, _, _, _, rfl⟩ ?_ ?_)
  · rintro i a ss' ha ⟨x4, x5, x6, x7, rfl⟩
    have hi : i < names.length := (List.getElem?_eq_some_iff.mp ha).1
    have hin := List.mem_of_getElem? ha
    have ok := okA i (by omega)
    have hs := hsum (i + 1) (by omega)
    rw [List.take_succ, ha, Option.toList_some, List.map_append, List.sum_append] at hs
    simp only [List.map_cons, List.map_nil, List.sum_cons, List.sum_nil, Nat.add_zero] at hs
    rw [foldl_take ha]
    generalize ((names.take i).map fun a => (gK late a).getD 0).sum = t at ok hs
    generalize (names.take i).foldl (fun rows a => dedup (foundN rows a ((gK late a).getD 0))) [last] = R at ok ⊢
    refine r_cons (s_asg 5 sc_law_all.nd (s := sLst (sLst sStr) R) (EvN.toE (ev_list m_list (ev_var 3 rfl))) ?_)
    refine r_cons (s_asg 6 sc_law_all.nd (s := sLst (sLst sStr) R) (ev_var 3 rfl) ?_)
    generalize hc : (gK late a).getD 0 = c at hs ⊢
    refine r_cons (s_forR 7 PassesOwn.never rfl sc_law_all.nd m_range (fun j ss' => ∃ x7, ss' = [.val (sLst sStr last), .val (sO (oDL sNat late)), .val (sLst sStr names), .val (sLst (sLst sStr) R), .val (sStr a), .val (sLst (sLst sStr) (foundN R a j)), .val (sLst (sLst sStr) (layN R a j)), x7]) (n := (c : Int)) (EvE.to (ev_dgetK (U := sStr) (T := sNat) (y := 0) hr (ev_var 1 rfl) (ev_var 4 rfl) ev_int) (by rw [hc]; rfl)) (by omega) ⟨_, rfl⟩ ?_ ?_)
    · rintro j ss' hj ⟨x7, rfl⟩
      obtain ⟨b1, b2⟩ := ok.lay hl3 hin j (by omega)
      obtain ⟨b3, b4⟩ := ok.lay hl3 hin (j + 1) (by omega)
      have b5 := ok.found hl3 hin j (by omega)
      have h83 : 8 ^ (t + j) ≤ 8 ^ 3 := Nat.pow_le_pow_right (by decide) (by omega)
      have h84 : 8 ^ (t + (j + 1)) ≤ 8 ^ 3 := Nat.pow_le_pow_right (by decide) (by omega)
      refine r_cons (s_asg 6 sc_law_all.nd (s := sLst (sLst sStr) (layN R a (j + 1))) (ev_call C_law_put hr (eas_cons (ev_var 6 rfl) (eas_cons (ev_var 4 rfl) eas_nil)) ⟨layN R a j, a, rfl, by omega, fun e he => by have := (b1 e he).2; omega, rfl⟩) ?_)
      exact r_one (s_asg 5 sc_law_all.nd (s := sLst (sLst sStr) (foundN R a (j + 1))) (EvN.toE (ev_catL (ev_var 5 rfl).toB (ev_var 6 rfl).toB (sz (by omega)))) ⟨_, rfl⟩)
    · rintro ss' ⟨x7, rfl⟩
      rw [show ((c : Int)).toNat = c from rfl]
      have b5 := ok.found hl3 hin c (by omega)
      generalize hf : foundN R a c = f at b5 ⊢
      refine r_cons (s_asgLc 3 rfl sc_law_all.nd (lc_rng (U := sLst sStr) (n := (f.length : Int)) 7 (fun k => !inB (f.getD k []) (f.take k)) (fun k => f.getD k []) m_range (ev_len m_len (ev_var 5 rfl)) (by omega) (by omega) (fun k hk => fun _ _ _ _ _ => ets_one (et_nin (sLst sStr) hr (ev_ix (T := sLst sStr) (ev_var 5 rfl) (ev_var 7 rfl) (atI_n _ (by omega))) (EvN.toB (ev_slPre (T := sLst sStr) (ev_var 5 rfl) (eo_some (ev_var 7 rfl)))))) (fun k hk _ => fun _ _ _ _ _ => ev_ix (T := sLst sStr) (ev_var 5 rfl) (ev_var 7 rfl) (atI_n _ (by omega)))) ?_)
      rw [show ((f.length : Int)).toNat = f.length from rfl, first_occ f]
      exact r_pub 3 rfl (r_nil ⟨_, _, _, _, rfl⟩)
  · rintro ss' ⟨x4, x5, x6, x7, rfl⟩
    rw [List.take_length]
    exact r_one (s_ret (ev_var 3 rfl) (fun F v h => h))
theorem r_norm {X : Cx} {ss ss' : List Sl} {sts : List Stmt} {D : Ds} (e : ss = ss') (h : EvSs X ss' sts D) : EvSs X ss sts D := by rw [e]; exact h
theorem lateCnt_sum {names : List Str} (h : names.Nodup) (c : Int) : ∀ i, i ≤ names.length → ((names.take i).map fun a => (gK (lawLate names c) a).getD 0).sum + leftL c i = 3
  | 0, _ => rfl
  | i + 1, hi => by
    have ih := lateCnt_sum h c i (by omega)
    have hg : names[i]? = some names[i] := List.getElem?_eq_getElem (by omega)
    have h4 := (lawLate_ok h c).2.2.2 names[i] (List.getElem_mem _)
    have e : gOf names c names[i] = cntAt c i := by
      have := idx_getD h (show i < names.length by omega)
      rw [getD_eq (show i < names.length by omega)] at this
      unfold gOf
      rw [this]
    have h1 : cntAt c i ≤ leftL c i := by unfold cntAt cntOf; omega
    have h2 : leftL c (i + 1) = leftL c i - cntAt c i := rfl
    rw [List.take_succ, hg, Option.toList_some, List.map_append, List.sum_append]
    simp only [List.map_cons, List.map_nil, List.sum_cons, List.sum_nil, Nat.add_zero]
    rw [h4, e]
    omega
theorem lawAll_end {late : List (Str × Nat)} {names last : List Str} (hlm : ∀ a ∈ last, a ∈ names) (hsum : ∀ i, i ≤ names.length → ((names.take i).map fun a => (gK late a).getD 0).sum ≤ 3) : EndOk names last.length ((names.map fun a => (gK late a).getD 0).sum) (lawAll late names last) := by
  have okA : ∀ i, i ≤ names.length → EndOk names last.length (((names.take i).map fun a => (gK late a).getD 0).sum) ((names.take i).foldl (fun rows a => dedup (foundN rows a ((gK late a).getD 0))) [last]) := fun i => by
    induction i with
    | zero => exact fun _ => EndOk.start (names := names) hlm
    | succ i ih =>
      intro hi
      have ok := ih (by omega)
      have hg : names[i]? = some names[i] := List.getElem?_eq_getElem (by omega)
      have hs := hsum (i + 1) hi
      rw [foldl_take hg]
      rw [List.take_succ, hg, Option.toList_some, List.map_append, List.sum_append] at hs ⊢
      simp only [List.map_cons, List.map_nil, List.sum_cons, List.sum_nil, Nat.add_zero] at hs ⊢
      exact ok.dd (List.getElem_mem _) hs
  have := okA names.length (Nat.le_refl _)
  rw [List.take_length] at this
  exact this
theorem vars_law {names running : List Str} (hN : names.Nodup) (h5 : names.length ≤ 5) (hm : ∀ a ∈ running, a ∈ names) (c : Int) {p : Nat} (hp : p ≤ 3) : (sortedL names (lawAll (lawLate names c) names (running.drop (running.length - p)))).map (fun e => running.take (running.length - p) ++ e) = varsOf names running (lawLate names c) p := by
  have hdm : ∀ a ∈ running.drop (running.length - p), a ∈ names := fun a ha => hm a (List.mem_of_mem_drop ha)
  have hsum := fun i hi => Nat.le_trans (Nat.le_add_right _ _) (Nat.le_of_eq (lateCnt_sum hN c i hi))
  have eL := lawAll_end hdm hsum
  obtain ⟨k1, k2, k3, k4⟩ := lawLate_ok hN c
  have eP := (EndOk.start (names := names) hdm).late k2 (show 0 + lateSum (lawLate names c) ≤ 3 by omega)
  have hmem : ∀ x, x ∈ lateEnds [running.drop (running.length - p)] (lawLate names c) ↔ x ∈ lawAll (lawLate names c) names (running.drop (running.length - p)) := fun x => by
    have h := late_all (g := gOf names c) (l := names) (E := [running.drop (running.length - p)]) (R := [running.drop (running.length - p)]) (fun _ => Iff.rfl) x
    rw [← lawLate_form hN c] at h
    rw [h]
    unfold lawAll
    have e : ∀ (l : List Str) (R : List (List Str)), (∀ a ∈ l, a ∈ names) → l.foldl (fun rows a => dedup (foundN rows a (gOf names c a))) R = l.foldl (fun rows a => dedup (foundN rows a ((gK (lawLate names c) a).getD 0))) R := fun l => by
      induction l with
      | nil => intro R _; rfl
      | cons a l ih =>
        intro R hl
        rw [List.foldl_cons, List.foldl_cons, k4 a (hl a List.mem_cons_self)]
        exact ih _ fun b hb => hl b (List.mem_cons_of_mem _ hb)
    rw [e names _ fun a ha => ha]
  unfold varsOf
  rw [sorted_same h5 eP.nd eL.nd hmem eP.nm]
theorem vars_none {names running : List Str} {p : Nat} : varsOf names running [] p = [running] := by
  unfold varsOf
  have h : (sortedT names [running.drop (running.length - p)]).Perm [running.drop (running.length - p)] := srt_tri_perm (W := sTup sStr) _
  have e : lateEnds [running.drop (running.length - p)] [] = [running.drop (running.length - p)] := rfl
  rw [e, List.perm_singleton.mp h, List.map_cons, List.take_append_drop]
  rfl
def Phi_law (K : PySem.W.Frag) (as : List S) (s : S) : Prop := ∃ (ns : List Int), as = [sLq K sInt ns] ∧ ns.length ≤ 1000 ∧ s = sBool true
theorem ok_law (F : FunE K "law" "law" s_law f fd) (m_len : mg "len" = none) (m_list : mg "list" = none) (m_tuple : mg "tuple" = none) (m_max : mg "max" = none) (m_range : mg "range" = none) (m_sorted : mg "sorted" = none) (m_dict : mg "dict" = none)
    (C_law_cell : Callee P w K mg base 1 "_law_cell" (Phi_law_cell K)) (C_law_names : Callee P w K mg base 2 "_law_names" Phi_law_names) (C_law_trace : Callee P w K mg base 2 "_law_trace" Phi_law_trace) (C_law_late : CalleeN P w K mg base 1 "_law_late" Phi_law_late) (C_law_all : Callee P w K mg base 2 "_law_all" Phi_law_all) (C_variants : CalleeN P w K mg base 2 "variants" Phi_variants) :
    FnOk P w K mg base CX0 4 f fd ["script"] (spOf (Phi_law K)) := by
  refine fn_ok F sc_law (fun as s h => by obtain ⟨ns, rfl, _⟩ := h; rfl) (fun cdv A outer s0 H0 E as s hr h => ?_)
  obtain ⟨ns, rfl, hns, rfl⟩ := h
  have cl : ∀ j : Nat, Phi_law_cell K [sLq K sInt ns, sInt (j : Int)] (sInt (cellN ns j)) := fun j => ⟨ns, j, rfl, rfl⟩
  refine r_cons (s_asg 1 sc_law.nd (ev_call C_law_names hr (eas_cons (ev_call C_law_cell hr (eas_cons (ev_var 0 rfl) (eas_cons ev_int eas_nil)) (cl 0)) eas_nil) ⟨_, rfl, rfl⟩) ?_)
  have hN := lawNames_ok (cellN ns 0)
  generalize lawNames (cellN ns 0) = names at hN ⊢
  have h5 := hN.le
  have hpos := hN.pos
  have m1 := Int.emod_nonneg (cellN ns 2) (show (18 : Int) ≠ 0 by decide)
  have m2 := Int.emod_lt_of_pos (cellN ns 2) (show (0 : Int) < 18 by decide)
  refine r_cons (s_asg 2 sc_law.nd (ev_call C_law_trace hr (eas_cons (ev_var 1 rfl) (eas_cons (ev_call C_law_cell hr (eas_cons (ev_var 0 rfl) (eas_cons ev_int eas_nil)) (cl 1)) (eas_cons (ev_mod (ev_call C_law_cell hr (eas_cons (ev_var 0 rfl) (eas_cons ev_int eas_nil)) (cl 2)) ev_int (by decide)) eas_nil))) ⟨names, cellN ns 1, (cellN ns 2 % 18).toNat, by rw [Int.toNat_of_nonneg m1], hpos, by omega, rfl⟩) ?_)
  have t1 : ∀ a ∈ lawTrace names (cellN ns 1) (cellN ns 2 % 18).toNat, a ∈ names := fun a ha => lawTrace_mem hpos ha
  have t2 := lawTrace_len names (cellN ns 1) (cellN ns 2 % 18).toNat
  generalize lawTrace names (cellN ns 1) (cellN ns 2 % 18).toNat = tr0 at t1 t2 ⊢
  have hcl : (cutL ns (some 5) (some 7)).length ≤ ns.length := cutL_le
  refine r_cons (s_asg 2 sc_law.nd (s := sLst sStr (tr0 ++ (cutL ns (some 5) (some 7)).map (pick names))) (EvN.toE (ev_catL (ev_var 2 rfl).toB (EvN.toB (ev_lc rfl sc_law.nd (lc_seqT (T := sInt) (U := sStr) (xs := cutL ns (some 5) (some 7)) 3 (pick names) (EvN.toE (ev_slL (T := sInt) (xs := ns) (EvE.lq (ev_var 0 rfl)) (eo_some ev_int) (eo_some ev_int))) (sz (by omega)) (fun i c hc => fun _ _ _ _ _ => ev_ix (ev_var 1 rfl) (ev_mod (ev_var 3 rfl) (ev_len m_len (ev_var 1 rfl)) (by omega)) (pick_at hpos c))))) (sz (by rw [List.length_map]; omega)))) ?_)
  have hm : ∀ a ∈ tr0 ++ (cutL ns (some 5) (some 7)).map (pick names), a ∈ names := fun a ha => by
    rcases List.mem_append.mp ha with q | q
    · exact t1 a q
    · obtain ⟨c, _, rfl⟩ := List.mem_map.mp q
      exact pick_mem hpos c
  have htl : (tr0 ++ (cutL ns (some 5) (some 7)).map (pick names)).length ≤ 2000 := by rw [List.length_append, List.length_map]; omega
  generalize tr0 ++ (cutL ns (some 5) (some 7)).map (pick names) = tr at hm htl ⊢
  refine r_cons (s_asg 4 sc_law.nd (s := sO (oDL sNat (lawLate names (cellN ns 3)))) (ev_lockK (ev_callN C_law_late hr (eas_cons (ev_var 1 rfl) (eas_cons (ev_call C_law_cell hr (eas_cons (ev_var 0 rfl) (eas_cons ev_int eas_nil)) (cl 3)) eas_nil)) ⟨names, cellN ns 3, rfl, hN.nd, h5, rfl⟩)) ?_)
  have hvl := fun p (hp : p ≤ 3) => vars_law hN.nd h5 hm (cellN ns 3) hp
  have hsum := fun i hi => Nat.le_trans (Nat.le_add_right _ _) (Nat.le_of_eq (lateCnt_sum hN.nd (cellN ns 3) i hi))
  obtain ⟨l1, l2, l3, l4⟩ := lawLate_ok hN.nd (cellN ns 3)
  generalize lawLate names (cellN ns 3) = late at hvl hsum l1 l2 l3 l4 ⊢
  have p1 := Int.emod_nonneg (cellN ns 4) (show (4 : Int) ≠ 0 by decide)
  have p2 := Int.emod_lt_of_pos (cellN ns 4) (show (0 : Int) < 4 by decide)
  refine r_cons (s_asg 5 sc_law.nd (s := sInt (((cellN ns 4 % 4).toNat : Nat) : Int)) (EvE.to (ev_mod (ev_call C_law_cell hr (eas_cons (ev_var 0 rfl) (eas_cons ev_int eas_nil)) (cl 4)) ev_int (by decide)) (by rw [Int.toNat_of_nonneg p1])) ?_)
  have hp3 : (cellN ns 4 % 4).toNat ≤ 3 := by omega
  generalize (cellN ns 4 % 4).toNat = p at hp3 ⊢
  have hv := hvl p hp3
  have ek : max 0 ((tr.length : Int) - (p : Int)) = ((tr.length - p : Nat) : Int) := by omega
  refine r_cons (s_asg 6 sc_law.nd (s := sInt ((tr.length - p : Nat) : Int)) (EvE.to (ev_max2 rfl m_max ev_int (ev_sub (ev_len m_len (ev_var 2 rfl)) (ev_var 5 rfl))) (by rw [ek])) ?_)
  have hdl : (tr.drop (tr.length - p)).length ≤ 3 := by rw [List.length_drop]; omega
  have hdm : ∀ a ∈ tr.drop (tr.length - p), a ∈ names := fun a ha => hm a (List.mem_of_mem_drop ha)
  refine r_cons (s_asg 7 sc_law.nd (s := sLst (sLst sStr) (lawAll late names (tr.drop (tr.length - p)))) (ev_call C_law_all hr (eas_cons (EvN.toE (ev_slSuf (ev_var 2 rfl) (eo_some (ev_var 6 rfl)))) (eas_cons (ev_var 4 rfl) (eas_cons (ev_var 1 rfl) eas_nil))) ⟨tr.drop (tr.length - p), late, names, rfl, hdl, hdm, h5, hsum, rfl⟩) ?_)
  have eL := lawAll_end (late := late) hdm hsum
  have hs3 : (names.map fun a => (gK late a).getD 0).sum ≤ 3 := by have := hsum names.length (Nat.le_refl _); rw [List.take_length] at this; exact this
  generalize (names.map fun a => (gK late a).getD 0).sum = t at eL hs3
  generalize lawAll late names (tr.drop (tr.length - p)) = R at eL hv ⊢
  have h512 := eL.len512 hdl hs3
  have hRl : ∀ e ∈ R, e.length ≤ 6 := fun e he => by have := eL.len e he; omega
  refine r_cons (s_asgLc 8 rfl sc_law.nd (lc_seqT (T := sLst sStr) (U := sTriL) (xs := R) 11 (triOf names) (ev_var 7 rfl) (sz (by omega)) (fun i e he => fun _ _ _ _ _ => EvN.toE (ev_tup (T := id) (xs := [sInt (e.length : Int), sLst sNat (e.map names.idxOf), sLst sStr e]) (em_cons (x := sInt (e.length : Int)) (ev_len m_len (ev_var 11 rfl)) (em_cons (x := sLst sNat (e.map names.idxOf)) (EvN.toE (ev_lc rfl sc_law.nd (lc_seqT (T := sStr) (U := sNat) (xs := e) 10 (fun x => names.idxOf x) (ev_var 11 rfl) (sz (by have := hRl e (List.mem_of_getElem? he); omega)) (fun j x hx => fun _ _ _ _ _ => ev_ix (T := sNat) (x := names.idxOf x) (EvN.toE (ev_lc rfl sc_law.nd (lc_rng (U := sNat) (n := (names.length : Int)) 9 (fun k => decide (names.getD k Str.empty = x)) (fun k => k) m_range (ev_len m_len (ev_var 1 rfl)) (by omega) (by omega) (fun k hk => fun _ _ _ _ _ => ets_one (et_eq sStr hr (ev_ix (ev_var 1 rfl) (ev_var 9 rfl) (atI_n Str.empty (by omega))) (ev_var 10 rfl))) (fun k hk _ => fun _ _ _ _ _ => ev_var 9 rfl)))) ev_int (by rw [show ((names.length : Nat) : Int).toNat = names.length by omega, List.map_id']; exact atI_nat (first_idx (eL.nm e (List.mem_of_getElem? he) x (List.mem_of_getElem? hx)))))))) (em_cons (x := sLst sStr e) (ev_var 11 rfl) em_nil))) (sz (show 3 ≤ 16777216 by decide))))) ?_)
  have hsr : (srt sTriL (R.map (triOf names))).length = R.length := by rw [(srt_perm (T := sTriL) _).length_eq, List.length_map]
  have hsm : ∀ x ∈ srt sTriL (R.map (triOf names)), x.2.2.length ≤ 6 := fun x hx => by
    obtain ⟨e, he, rfl⟩ := List.mem_map.mp ((srt_perm (T := sTriL) _).mem_iff.mp hx)
    exact hRl e he
  refine r_cons (s_asgLc 12 rfl sc_law.nd (lc_seqT (T := sTriL) (U := sLst sStr) (xs := srt sTriL (R.map (triOf names))) 13 (fun x => tr.take (tr.length - p) ++ x.2.2) (EvN.toE (ev_sortedD (T := sTriL) hr m_sorted (ev_own 8 rfl) (tri_sortable R))) (sz (by omega)) (fun i x hx => fun _ _ _ _ _ => EvN.toE (ev_catL (EvN.toB (ev_slPre (ev_var 2 rfl) (eo_some (ev_var 6 rfl)))) (EvE.toB (ev_at (s := sLst sStr x.2.2) 2 (ev_var 13 rfl) rfl)) (sz (by have := hsm x (List.mem_of_getElem? hx); rw [List.length_take]; omega))))) ?_)
  have hv2 : (srt sTriL (R.map (triOf names))).map (fun x => tr.take (tr.length - p) ++ x.2.2) = varsOf names tr late p := by
    rw [← hv]
    unfold sortedL
    rw [List.map_map]
    rfl
  rw [hv2]
  refine r_pub 12 rfl ?_
  have hVl : (varsOf names tr late p).length ≤ 512 := by rw [← hv2, List.length_map]; omega
  have hV0 : varsOf names tr late p ≠ [] := fun z => by
    rw [z] at hv2
    have e0 := List.map_eq_nil_iff.mp hv2
    rw [e0] at hsr
    exact eL.ne (List.eq_nil_of_length_eq_zero hsr.symm)
  have hVe : ∀ x ∈ varsOf names tr late p, x.length ≤ 3000 := fun x hx => by
    rw [← hv2] at hx
    obtain ⟨y, hy, rfl⟩ := List.mem_map.mp hx
    have := hsm y hy
    rw [List.length_append, List.length_take]
    omega
  have vΦ : ∀ o, o = oLL sStr (varsOf names tr late p) → Phi_variants [sSq sStr tr, sO (oDL sNat late), sInt (p : Int), sO (oNm sStr names)] o := fun o e => ⟨tr, late, p, names, rfl, by omega, hm, l1, l2, l3, hp3, h5, e⟩
  refine r_cons (s_asg 14 sc_law.nd (s := sLst sStr tr) (EvN.toE (ev_list m_list (ev_var 2 rfl))) ?_)
  refine r_cons (s_asg 15 sc_law.nd (s := sO (oDL sNat late)) (ev_lockK (ev_dictK m_dict (ev_var 4 rfl))) ?_)
  refine r_norm (ss' := [.val (sLq K sInt ns), .val (sLst sStr names), .val (sLst sStr tr), .any, .val (sO (oDL sNat late)), .val (sInt (p : Int)), .val (sInt ((tr.length - p : Nat) : Int)), .val (sLst (sLst sStr) R), .own (oLst sTriL (R.map (triOf names))), .any, .any, .any, .val (sLst (sLst sStr) (varsOf names tr late p)), .any, .val (sLst sStr tr), .val (sO (oDL sNat late))]) rfl ?_
  refine r_cons (s_if (EvW.t (ew_or (et_ne (sLst (sLst sStr)) (x := varsOf names tr late p) hr (EvE.impS (EvN.toE (ev_callN C_variants hr (eas_cons (EvE.lsq (ev_var 14 rfl)) (eas_cons (ev_var 15 rfl) (eas_cons (ev_var 5 rfl) (eas_cons (EvE.tnm (EvN.toE (ev_tupX m_tuple (ev_var 1 rfl)))) eas_nil)))) (vΦ _ rfl))) (fun F v r => ll_lst r)) (ev_var 12 rfl)) (fun _ => ew_or (et_ne (sLst sStr) hr (ev_var 14 rfl) (ev_var 2 rfl)) (fun _ => ew_or1 (et_neDK (kvs := late) hr (ev_var 15 rfl) (ev_var 4 rfl) l1))))) (fun q => by simp at q) (fun _ => r_nil ?_))
  refine r_cons (s_if (et_ne (sLst (sLst sStr)) (x := varsOf names tr late p) hr (EvE.impS (EvN.toE (ev_callN C_variants hr (eas_cons (EvE.tsq (EvN.toE (ev_tupN m_tuple (ev_var 2 rfl)))) (eas_cons (ev_var 15 rfl) (eas_cons (ev_var 5 rfl) (eas_cons (EvE.lnm (EvN.toE (ev_list m_list (ev_var 1 rfl)))) eas_nil)))) (vΦ _ rfl))) (fun F v r => ll_lst r)) (ev_var 12 rfl)) (fun q => by simp at q) (fun _ => r_nil ?_))
  refine r_cons (s_asgN 7 sc_law.nd (o := oLL sStr (varsOf names tr late p)) (ev_callN C_variants hr (eas_cons (EvE.lsq (ev_var 14 rfl)) (eas_cons (ev_var 15 rfl) (eas_cons (ev_var 5 rfl) (eas_cons (EvE.tnm (EvN.toE (ev_tupX m_tuple (ev_var 1 rfl)))) eas_nil)))) (vΦ _ rfl)) ?_)
  obtain ⟨v0, hv0⟩ : ∃ v0, (varsOf names tr late p)[0]? = some v0 := by
    cases q : varsOf names tr late p with
    | nil => exact absurd q hV0
    | cons x r => exact ⟨x, rfl⟩
  refine r_cons (s_appLL (n := 0) 7 rfl ev_int hv0 (y := ("spoilt" : Str)) ev_str (szl (by have := hVe v0 (List.mem_of_getElem? hv0); omega)) ?_)
  refine r_cons (s_appJ 7 rfl (ρ := sv (sStr "spoilt")) ev_str (szl (by rw [List.length_set]; omega)) ?_)
  refine r_cons (s_if (EvW.t (ew_or (et_ne (sLst (sLst sStr)) (x := varsOf names tr late p) hr (EvE.impS (EvN.toE (ev_callN C_variants hr (eas_cons (EvE.lsq (ev_var 14 rfl)) (eas_cons (ev_var 15 rfl) (eas_cons (ev_var 5 rfl) (eas_cons (EvE.tnm (EvN.toE (ev_tupX m_tuple (ev_var 1 rfl)))) eas_nil)))) (vΦ _ rfl))) (fun F v r => ll_lst r)) (ev_var 12 rfl)) (fun _ => ew_or1 (et_ne (sLst sStr) hr (ev_var 14 rfl) (ev_var 2 rfl))))) (fun q => by simp at q) (fun _ => r_nil ?_))
  refine r_one (s_ret (ev_eq (sLst (sLst sStr)) (x := varsOf names tr [] p) (y := [tr]) hr (EvE.impS (EvN.toE (ev_callN C_variants hr (eas_cons (EvE.lsq (ev_var 14 rfl)) (eas_cons (ev_lockK (ev_dnewK (κ := Str) (T := sNat))) (eas_cons (ev_var 5 rfl) (eas_cons (EvE.tnm (EvN.toE (ev_tupX m_tuple (ev_var 1 rfl)))) eas_nil)))) ⟨tr, [], p, names, rfl, by omega, hm, by simp, (fun kv h => by cases h), by simp [lateSum], hp3, h5, rfl⟩)) (fun F v r => ll_lst r)) (EvN.toE (ev_lst (T := sLst sStr) (em_cons (x := tr) (ev_var 2 rfl) em_nil) (sz (show 1 ≤ 16777216 by decide))))) (fun F v r => ?_))
  rw [vars_none, decide_eq_true rfl] at r
  exact r
end
end My
--import HandS.ForMost
namespace My
open PySem PySem.Spec PyProof.Rows L2 Sx
instance tbs0 : Tbs := ⟨[]⟩
theorem sm0 {H : Hp} : Sm H H := ⟨L2.Same.refl _, fun p hp => absurd (show p ∈ ([] : List (Addr × Str)) from hp) List.not_mem_nil, fun a o _ hb => by
  obtain ⟨q, hq⟩ := hb
  exact absurd (show (a, q) ∈ ([] : List (Addr × Str)) from hq) List.not_mem_nil⟩
theorem its_ints {F : Hp} : ∀ ns : List Int, Its sInt F ns (ns.map V.int)
  | [] => .nil
  | n :: ns => .cons rfl (its_ints ns)
theorem all_mk {l : PySem.W.OpenLaw} {w : World} {K : PySem.W.Frag} {h : Heap} {mg : Str → Option Value} {fa  f0 f1 f2 f3 f4 f5 f6 f7 f8 f9 f10 f11 : Addr} (X : K.In h) (G : h.Ns mainGlobals mg) (hfa : mg "law" = some (.ref fa))
    {od0 an0 od1 an1 od2 an2 od3 an3 od4 an4 od5 an5 od6 an6 od7 an7 od8 an8 od9 an9 od10 an10 od11 an11 : Option Addr} {sl0 sl1 sl2 sl3 sl4 sl5 sl6 sl7 sl8 sl9 sl10 sl11 : Array (Option Value)} {oc0 kV0 dc0 pm0 cd0 ct0 oc1 kV1 dc1 pm1 cd1 ct1 oc2 kV2 dc2 pm2 cd2 ct2 oc3 kV3 dc3 pm3 cd3 ct3 oc4 kV4 dc4 pm4 cd4 ct4 oc5 kV5 dc5 pm5 cd5 ct5 oc6 kV6 dc6 pm6 cd6 ct6 oc7 kV7 dc7 pm7 cd7 ct7 oc8 kV8 dc8 pm8 cd8 ct8 oc9 kV9 dc9 pm9 cd9 ct9 oc10 kV10 dc10 pm10 cd10 ct10 oc11 kV11 dc11 pm11 cd11 ct11 : Value}
    (a0 : PySem.W.nsIn K mainGlobals "_law_cell" = some (some (.ref f0)))
    (l0 : K.lookup f0 = some ⟨oc0, od0, .func (PySem.W.fnOf "_law_cell" "_law_cell" (defArgs s_law_cell) (defBody s_law_cell) (defScope s_law_cell) .none kV0 dc0 pm0 an0 cd0 ct0), sl0⟩)
    (c0 : PySem.W.codeIn K cd0 "_law_cell" = true)
    (k0 : PySem.W.keepIn K (.ref f0) = true)
    (a1 : PySem.W.nsIn K mainGlobals "_law_row" = some (some (.ref f1)))
    (l1 : K.lookup f1 = some ⟨oc1, od1, .func (PySem.W.fnOf "_law_row" "_law_row" (defArgs s_law_row) (defBody s_law_row) (defScope s_law_row) .none kV1 dc1 pm1 an1 cd1 ct1), sl1⟩)
    (c1 : PySem.W.codeIn K cd1 "_law_row" = true)
    (k1 : PySem.W.keepIn K (.ref f1) = true)
    (a2 : PySem.W.nsIn K mainGlobals "_law_word" = some (some (.ref f2)))
    (l2 : K.lookup f2 = some ⟨oc2, od2, .func (PySem.W.fnOf "_law_word" "_law_word" (defArgs s_law_word) (defBody s_law_word) (defScope s_law_word) .none kV2 dc2 pm2 an2 cd2 ct2), sl2⟩)
    (c2 : PySem.W.codeIn K cd2 "_law_word" = true)
    (k2 : PySem.W.keepIn K (.ref f2) = true)
    (a3 : PySem.W.nsIn K mainGlobals "_law_names" = some (some (.ref f3)))
    (l3 : K.lookup f3 = some ⟨oc3, od3, .func (PySem.W.fnOf "_law_names" "_law_names" (defArgs s_law_names) (defBody s_law_names) (defScope s_law_names) .none kV3 dc3 pm3 an3 cd3 ct3), sl3⟩)
    (c3 : PySem.W.codeIn K cd3 "_law_names" = true)
    (k3 : PySem.W.keepIn K (.ref f3) = true)
    (a4 : PySem.W.nsIn K mainGlobals "_law_trace" = some (some (.ref f4)))
    (l4 : K.lookup f4 = some ⟨oc4, od4, .func (PySem.W.fnOf "_law_trace" "_law_trace" (defArgs s_law_trace) (defBody s_law_trace) (defScope s_law_trace) .none kV4 dc4 pm4 an4 cd4 ct4), sl4⟩)
    (c4 : PySem.W.codeIn K cd4 "_law_trace" = true)
    (k4 : PySem.W.keepIn K (.ref f4) = true)
    (a5 : PySem.W.nsIn K mainGlobals "with_one_more" = some (some (.ref f5)))
    (l5 : K.lookup f5 = some ⟨oc5, od5, .func (PySem.W.fnOf "with_one_more" "with_one_more" (defArgs s_with_one_more) (defBody s_with_one_more) (defScope s_with_one_more) .none kV5 dc5 pm5 an5 cd5 ct5), sl5⟩)
    (c5 : PySem.W.codeIn K cd5 "with_one_more" = true)
    (k5 : PySem.W.keepIn K (.ref f5) = true)
    (a6 : PySem.W.nsIn K mainGlobals "in_order" = some (some (.ref f6)))
    (l6 : K.lookup f6 = some ⟨oc6, od6, .func (PySem.W.fnOf "in_order" "in_order" (defArgs s_in_order) (defBody s_in_order) (defScope s_in_order) .none kV6 dc6 pm6 an6 cd6 ct6), sl6⟩)
    (c6 : PySem.W.codeIn K cd6 "in_order" = true)
    (k6 : PySem.W.keepIn K (.ref f6) = true)
    (a7 : PySem.W.nsIn K mainGlobals "variants" = some (some (.ref f7)))
    (l7 : K.lookup f7 = some ⟨oc7, od7, .func (PySem.W.fnOf "variants" "variants" (defArgs s_variants) (defBody s_variants) (defScope s_variants) .none kV7 dc7 pm7 an7 cd7 ct7), sl7⟩)
    (c7 : PySem.W.codeIn K cd7 "variants" = true)
    (k7 : PySem.W.keepIn K (.ref f7) = true)
    (a8 : PySem.W.nsIn K mainGlobals "_law_late" = some (some (.ref f8)))
    (l8 : K.lookup f8 = some ⟨oc8, od8, .func (PySem.W.fnOf "_law_late" "_law_late" (defArgs s_law_late) (defBody s_law_late) (defScope s_law_late) .none kV8 dc8 pm8 an8 cd8 ct8), sl8⟩)
    (c8 : PySem.W.codeIn K cd8 "_law_late" = true)
    (k8 : PySem.W.keepIn K (.ref f8) = true)
    (a9 : PySem.W.nsIn K mainGlobals "_law_put" = some (some (.ref f9)))
    (l9 : K.lookup f9 = some ⟨oc9, od9, .func (PySem.W.fnOf "_law_put" "_law_put" (defArgs s_law_put) (defBody s_law_put) (defScope s_law_put) .none kV9 dc9 pm9 an9 cd9 ct9), sl9⟩)
    (c9 : PySem.W.codeIn K cd9 "_law_put" = true)
    (k9 : PySem.W.keepIn K (.ref f9) = true)
    (a10 : PySem.W.nsIn K mainGlobals "_law_all" = some (some (.ref f10)))
    (l10 : K.lookup f10 = some ⟨oc10, od10, .func (PySem.W.fnOf "_law_all" "_law_all" (defArgs s_law_all) (defBody s_law_all) (defScope s_law_all) .none kV10 dc10 pm10 an10 cd10 ct10), sl10⟩)
    (c10 : PySem.W.codeIn K cd10 "_law_all" = true)
    (k10 : PySem.W.keepIn K (.ref f10) = true)
    (a11 : PySem.W.nsIn K mainGlobals "law" = some (some (.ref f11)))
    (l11 : K.lookup f11 = some ⟨oc11, od11, .func (PySem.W.fnOf "law" "law" (defArgs s_law) (defBody s_law) (defScope s_law) .none kV11 dc11 pm11 an11 cd11 ct11), sl11⟩)
    (c11 : PySem.W.codeIn K cd11 "law" = true)
    (k11 : PySem.W.keepIn K (.ref f11) = true)
    (z_dict : PySem.W.nsIn K mainGlobals "dict" = some none)
    (z_int : PySem.W.nsIn K mainGlobals "int" = some none)
    (z_len : PySem.W.nsIn K mainGlobals "len" = some none)
    (z_list : PySem.W.nsIn K mainGlobals "list" = some none)
    (z_max : PySem.W.nsIn K mainGlobals "max" = some none)
    (z_min : PySem.W.nsIn K mainGlobals "min" = some none)
    (z_range : PySem.W.nsIn K mainGlobals "range" = some none)
    (z_sorted : PySem.W.nsIn K mainGlobals "sorted" = some none)
    (z_tuple : PySem.W.nsIn K mainGlobals "tuple" = some none)
    : ∃ fd : FuncData, (∀ (s : Shared) (v : Value), BindsTo s fd ⟨[v], []⟩ [("script", v)]) ∧ ∀ base : Heap, K.In base → base.Ns mainGlobals mg → FnOk l.prog w K mg base CX0 4 fa fd ["script"] (spOf (Phi_law K)) := by
  have e := hfa.symm.trans (PySem.W.mg_of X G a11)
  cases e
  have m_dict := PySem.W.mg_none_of X G z_dict
  have m_int := PySem.W.mg_none_of X G z_int
  have m_len := PySem.W.mg_none_of X G z_len
  have m_list := PySem.W.mg_none_of X G z_list
  have m_max := PySem.W.mg_none_of X G z_max
  have m_min := PySem.W.mg_none_of X G z_min
  have m_range := PySem.W.mg_none_of X G z_range
  have m_sorted := PySem.W.mg_none_of X G z_sorted
  have m_tuple := PySem.W.mg_none_of X G z_tuple
  have F0 := fun_mk (st := s_law_cell) l0 c0 k0
  have E0 := fun_e F0
  have F1 := fun_mk (st := s_law_row) l1 c1 k1
  have E1 := fun_e F1
  have F2 := fun_mk (st := s_law_word) l2 c2 k2
  have E2 := fun_e F2
  have F3 := fun_mk (st := s_law_names) l3 c3 k3
  have E3 := fun_e F3
  have F4 := fun_mk (st := s_law_trace) l4 c4 k4
  have E4 := fun_e F4
  have F5 := fun_mk (st := s_with_one_more) l5 c5 k5
  have E5 := fun_e F5
  have F6 := fun_mk (st := s_in_order) l6 c6 k6
  have E6 := fun_e F6
  have F7 := fun_mk (st := s_variants) l7 c7 k7
  have E7 := fun_e F7
  have F8 := fun_mk (st := s_law_late) l8 c8 k8
  have E8 := fun_e F8
  have F9 := fun_mk (st := s_law_put) l9 c9 k9
  have E9 := fun_e F9
  have F10 := fun_mk (st := s_law_all) l10 c10 k10
  have E10 := fun_e F10
  have F11 := fun_mk (st := s_law) l11 c11 k11
  have E11 := fun_e F11
  refine ⟨PySem.W.fnOf "law" "law" (defArgs s_law) (defBody s_law) (defScope s_law) .none kV11 dc11 pm11 an11 cd11 ct11, fun s v => .of_eq rfl, fun base _ _ => ?_⟩
  have b0 := F0.binds (ps := ["script", "k"]) fun _ _ _ _ _ _ us hl => match us, hl with | [_, _], _ => rfl
  have C__law_cell := callee_mk (P := l.prog) (w := w) (mg := mg) (base := base) (ok_law_cell E0 m_len) (PySem.W.mg_of X G a0) k0 b0
  have b1 := F1.binds (ps := ["cell", "count"]) fun _ _ _ _ _ _ us hl => match us, hl with | [_, _], _ => rfl
  have C__law_row := callee_mk (P := l.prog) (w := w) (mg := mg) (base := base) (ok_law_row E1 m_range m_int) (PySem.W.mg_of X G a1) k1 b1
  have b2 := F2.binds (ps := ["number"]) fun _ _ _ _ _ _ us hl => match us, hl with | [_], _ => rfl
  have C__law_word := callee_mk (P := l.prog) (w := w) (mg := mg) (base := base) (ok_law_word E2) (PySem.W.mg_of X G a2) k2 b2
  have b3 := F3.binds (ps := ["cell"]) fun _ _ _ _ _ _ us hl => match us, hl with | [_], _ => rfl
  have C__law_names := callee_mk (P := l.prog) (w := w) (mg := mg) (base := base) (ok_law_names E3 m_range C__law_row C__law_word) (PySem.W.mg_of X G a3) k3 b3
  have b4 := F4.binds (ps := ["names", "cell", "size"]) fun _ _ _ _ _ _ us hl => match us, hl with | [_, _, _], _ => rfl
  have C__law_trace := callee_mk (P := l.prog) (w := w) (mg := mg) (base := base) (ok_law_trace E4 m_len C__law_row) (PySem.W.mg_of X G a4) k4 b4
  have b5 := F5.binds (ps := ["ends", "activity"]) fun _ _ _ _ _ _ us hl => match us, hl with | [_, _], _ => rfl
  have C_with_one_more := callee_mkN (P := l.prog) (w := w) (mg := mg) (base := base) (ok_with_one_more E5 m_len m_range m_list) (PySem.W.mg_of X G a5) k5 b5
  have b6 := F6.binds (ps := ["traces", "names"]) fun _ _ _ _ _ _ us hl => match us, hl with | [_, _], _ => rfl
  have C_in_order := callee_mkN (P := l.prog) (w := w) (mg := mg) (base := base) (ok_in_order E6 m_len m_sorted) (PySem.W.mg_of X G a6) k6 b6
  have b7 := F7.binds (ps := ["running", "late", "places", "names"]) fun _ _ _ _ _ _ us hl => match us, hl with | [_, _, _, _], _ => rfl
  have C_variants := callee_mkN (P := l.prog) (w := w) (mg := mg) (base := base) (ok_variants E7 m_len m_max m_tuple m_range m_list C_with_one_more C_in_order) (PySem.W.mg_of X G a7) k7 b7
  have b8 := F8.binds (ps := ["names", "cell"]) fun _ _ _ _ _ _ us hl => match us, hl with | [_, _], _ => rfl
  have C__law_late := callee_mkN (P := l.prog) (w := w) (mg := mg) (base := base) (ok_law_late E8 m_len m_range m_min m_int) (PySem.W.mg_of X G a8) k8 b8
  have b9 := F9.binds (ps := ["rows", "name"]) fun _ _ _ _ _ _ us hl => match us, hl with | [_, _], _ => rfl
  have C__law_put := callee_mk (P := l.prog) (w := w) (mg := mg) (base := base) (ok_law_put E9 m_len m_range) (PySem.W.mg_of X G a9) k9 b9
  have b10 := F10.binds (ps := ["last", "late", "names"]) fun _ _ _ _ _ _ us hl => match us, hl with | [_, _, _], _ => rfl
  have C__law_all := callee_mk (P := l.prog) (w := w) (mg := mg) (base := base) (ok_law_all E10 m_len m_range m_list C__law_put) (PySem.W.mg_of X G a10) k10 b10
  exact ok_law E11 m_len m_list m_tuple m_max m_range m_sorted m_dict C__law_cell C__law_names C__law_trace C__law_late C__law_all C_variants
end My
open PySem PySem.W PyProof.Rows
set_option maxHeartbeats 0 in
theorem PySem.Challenge.cw_caseslive_k10_variants_holds : PySem.Challenge.rw_caseslive_k10_variants.Holds := by
  w_on; o_law; k_head; (case hw => w_witness2)
  k_fill
  refine L2.walk_of (l := PySem.Challenge.rw_caseslive_k10_variants) (n := 63) (k := 4) (x := "script") (CX := fun _ => L2.CX0) (sp := fun w => Sx.spOf (My.Phi_law _)) rfl (by decide) rfl ⟨rfl, by decide, by decide⟩ (fun w h Y => PySem.W.kIn_of Y) ?F (fun _ H a ns hl _ hS => ⟨H, [Sx.sLq _ Sx.sInt ns], Sx.sBool true, My.sm0, .cons ⟨a, _, rfl, hS, My.its_ints ns⟩ .nil, ⟨ns, rfl, Nat.le_trans hl (by decide), rfl⟩, fun _ _ _ _ r => r⟩) (fun _ _ _ _ _ h => h)
  case F =>
    intro w mg fa h KX G hmg
    refine' My.all_mk KX G hmg ?a0 ?l0 ?c0 ?k0 ?a1 ?l1 ?c1 ?k1 ?a2 ?l2 ?c2 ?k2 ?a3 ?l3 ?c3 ?k3 ?a4 ?l4 ?c4 ?k4 ?a5 ?l5 ?c5 ?k5 ?a6 ?l6 ?c6 ?k6 ?a7 ?l7 ?c7 ?k7 ?a8 ?l8 ?c8 ?k8 ?a9 ?l9 ?c9 ?k9 ?a10 ?l10 ?c10 ?k10 ?a11 ?l11 ?c11 ?k11 ?z_dict ?z_int ?z_len ?z_list ?z_max ?z_min ?z_range ?z_sorted ?z_tuple
    (case a0 => k_is)
    (case l0 => k_is)
    (case c0 => k_is)
    (case k0 => k_is)
    (case a1 => k_is)
    (case l1 => k_is)
    (case c1 => k_is)
    (case k1 => k_is)
    (case a2 => k_is)
    (case l2 => k_is)
    (case c2 => k_is)
    (case k2 => k_is)
    (case a3 => k_is)
    (case l3 => k_is)
    (case c3 => k_is)
    (case k3 => k_is)
    (case a4 => k_is)
    (case l4 => k_is)
    (case c4 => k_is)
    (case k4 => k_is)
    (case a5 => k_is)
    (case l5 => k_is)
    (case c5 => k_is)
    (case k5 => k_is)
    (case a6 => k_is)
    (case l6 => k_is)
    (case c6 => k_is)
    (case k6 => k_is)
    (case a7 => k_is)
    (case l7 => k_is)
    (case c7 => k_is)
    (case k7 => k_is)
    (case a8 => k_is)
    (case l8 => k_is)
    (case c8 => k_is)
    (case k8 => k_is)
    (case a9 => k_is)
    (case l9 => k_is)
    (case c9 => k_is)
    (case k9 => k_is)
    (case a10 => k_is)
    (case l10 => k_is)
    (case c10 => k_is)
    (case k10 => k_is)
    (case a11 => k_is)
    (case l11 => k_is)
    (case c11 => k_is)
    (case k11 => k_is)
    (case z_dict => k_is)
    (case z_int => k_is)
    (case z_len => k_is)
    (case z_list => k_is)
    (case z_max => k_is)
    (case z_min => k_is)
    (case z_range => k_is)
    (case z_sorted => k_is)
    (case z_tuple => k_is)
