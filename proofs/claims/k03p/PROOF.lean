import PyProof.Rows.All
import Wide.All
import OpenK.AllK
import Wide.FinOn
import HandS.ForMost
import HandS.Lambda
import HandS.Wide
import HandS.Gcd
import HandS.IsInst
import HandS.Style
import HandS.ForExc
import HandS.ExcInit
import HandS.MakeKwOnly
import HandS.ExcIs
import HandS.ExcField
import KE.KExcIs
import KE.KNestM
import HandS.EndTab
import PySem.Challenge.RW_littlewebs_k03_fractions
set_option Elab.async false
set_option linter.all false
set_option maxRecDepth 100000
set_option maxHeartbeats 4000000
/-! Zc: regions, codecs, effects; what an expression gives (JT: total; J: with effects). -/
namespace Z
open PySem L2

/-! ### regions -/
abbrev Rg := Addr → Prop
structure Ext (A : Rg) (H H' : Hp) : Prop where
  keep : ∀ a o, A a → H a = some o → H' a = some o
  free : ∀ a, H' a = none → H a = none
structure Exz (Z : Rg) (H H' : Hp) : Prop where
  keep : ∀ a o, ¬ Z a → H a = some o → H' a = some o
  free : ∀ a, H' a = none → H a = none
def Fr (A : Rg) (H : Hp) : Prop := ∀ p, H p = none → A p
theorem Ext.refl (A : Rg) (H : Hp) : Ext A H H := ⟨fun _ _ _ h => h, fun _ h => h⟩
theorem Exz.refl (A : Rg) (H : Hp) : Exz A H H := ⟨fun _ _ _ h => h, fun _ h => h⟩
theorem Ext.trans {A : Rg} {H H1 H2 : Hp} (a : Ext A H H1) (b : Ext A H1 H2) : Ext A H H2 := ⟨fun p o h e => b.keep p o h (a.keep p o h e), fun p e => a.free p (b.free p e)⟩
theorem Exz.trans {A : Rg} {H H1 H2 : Hp} (a : Exz A H H1) (b : Exz A H1 H2) : Exz A H H2 := ⟨fun p o h e => b.keep p o h (a.keep p o h e), fun p e => a.free p (b.free p e)⟩
theorem sameExt {A : Rg} {H H' : Hp} (s : Same H H') : Ext A H H' := ⟨fun p o _ e => s p o e, fun _ e => s.free e⟩
theorem sameExz {A : Rg} {H H' : Hp} (s : Same H H') : Exz A H H' := ⟨fun p o _ e => s p o e, fun _ e => s.free e⟩
theorem Exz.ext {A Z : Rg} {H H' : Hp} (s : Exz Z H H') (nA : ∀ a, A a → ¬ Z a) : Ext A H H' := ⟨fun p o h e => s.keep p o (nA p h) e, s.free⟩
theorem Exz.wide {Y Z : Rg} {H H' : Hp} (s : Exz Z H H') (k : ∀ a, Z a → Y a) : Exz Y H H' := ⟨fun p o h e => s.keep p o (fun z => h (k p z)) e, s.free⟩
theorem Fr.ext {A : Rg} {H H' : Hp} (f : Fr A H) (e : Ext A H H') : Fr A H' := fun p h => f p (e.free p h)
theorem Fr.exz {A Z : Rg} {H H' : Hp} (f : Fr A H) (e : Exz Z H H') : Fr A H' := fun p h => f p (e.free p h)
theorem Fr.same {A : Rg} {H H' : Hp} (f : Fr A H) (e : Same H H') : Fr A H' := fun p h => f p (e.free h)
theorem same_new {H : Hp} {p : Addr} {o : HO} (h : H p = none) : Same H (upd H p o) := fun b x e => by
  rw [upd_ne (ne_of_none e h)]; exact e
/-- an object that was not there at H may change -/
theorem Exz.mut {Z : Rg} {H H' : Hp} {l : Addr} {o : HO} (e : Exz Z H H') (n : H l = none) : Exz Z H (upd H' l o) :=
  ⟨fun a u h q => by rw [upd_ne (ne_of_none q n)]; exact e.keep a u h q, fun a h => by
    by_cases q : a = l
    · rw [q, upd_same] at h; cases h
    · rw [upd_ne q] at h; exact e.free a h⟩
/-- an object outside of the region changes -/
theorem Ext.put {A : Rg} {H : Hp} {l : Addr} {o : HO} (n : ¬ A l) : Ext A H (upd H l o) :=
  ⟨fun a u h q => by rw [upd_ne (fun z => n (by rw [← z]; exact h))]; exact q, fun a h => by
    by_cases q : a = l
    · rw [q, upd_same] at h; cases h
    · rw [upd_ne q] at h; exact h⟩
/-- the region without one address -/
def Rg.less (A : Rg) (l : Addr) : Rg := fun a => A a ∧ a ≠ l
theorem Fr.less {A : Rg} {H : Hp} {l : Addr} {o : HO} (f : Fr A H) (h : H l = some o) : Fr (A.less l) H := fun p e => ⟨f p e, fun z => by rw [z, h] at e; cases e⟩
theorem less_no {A : Rg} {l : Addr} : ¬ (A.less l) l := fun h => h.2 rfl
theorem less_le {A : Rg} {l : Addr} : ∀ a, (A.less l) a → A a := fun _ h => h.1
/-- the region B at H' bears all that A bore at H -/
structure Sub (A : Rg) (H : Hp) (B : Rg) (H' : Hp) : Prop where
  le : ∀ a, B a → A a
  tr : ∀ a o, A a → H a = some o → B a ∧ H' a = some o
  fB : Fr B H'
theorem Sub.of {A : Rg} {H H' : Hp} (e : Ext A H H') (f : Fr A H') : Sub A H A H' := ⟨fun _ h => h, fun a o h q => ⟨h, e.keep a o h q⟩, f⟩
theorem Sub.ext {A B : Rg} {H H1 H2 : Hp} (s : Sub A H B H1) (e : Ext B H1 H2) : Sub A H B H2 := ⟨s.le, fun a o h q => ⟨(s.tr a o h q).1, e.keep a o (s.tr a o h q).1 (s.tr a o h q).2⟩, s.fB.ext e⟩

/-! ### codecs -/
structure Cd (α : Type) where
  r : Rg → Hp → V → α → Prop
  st : ∀ {A : Rg} {H H' : Hp} {v : V} {x : α}, (∀ a o, A a → H a = some o → H' a = some o) → r A H v x → r A H' v x
  mono : ∀ {A B : Rg} {H : Hp} {v : V} {x : α}, (∀ a, A a → H a ≠ none → B a) → r A H v x → r B H v x

section
variable {α β γ δ : Type} {A : Rg} {H H' : Hp} {v : V} {x : α} {c : Cd α}
theorem Cd.e (c : Cd α) (e : Ext A H H') (h : c.r A H v x) : c.r A H' v x := c.st e.keep h
theorem Cd.s (c : Cd α) (e : Same H H') (h : c.r A H v x) : c.r A H' v x := c.st (fun a o _ q => e a o q) h
/-- what stands for x knows nothing of an address that was not there -/
theorem Cd.av (c : Cd α) {l : Addr} (n : H l = none) (h : c.r A H v x) : c.r (A.less l) H v x := c.mono (fun a k t => ⟨k, fun z => t (by rw [z]; exact n)⟩) h
theorem Cd.up (c : Cd α) {l : Addr} (h : c.r (A.less l) H v x) : c.r A H v x := c.mono (fun a k _ => k.1) h
end
theorem Cd.sub {α : Type} (c : Cd α) {A B : Rg} {H H' : Hp} {v : V} {x : α} (s : Sub A H B H') (h : c.r A H v x) : c.r B H' v x := by
  have h1 : c.r B H v x := c.mono (fun a k t => by
    cases e : H a with
    | none => exact absurd e t
    | some o => exact (s.tr a o k e).1) h
  exact c.st (fun a o k e => (s.tr a o (s.le a k) e).2) h1
theorem pst {α : Type} {c : Cd α} {A : Rg} {H H' : Hp} (k : ∀ a o, A a → H a = some o → H' a = some o) {vs : List V} {xs : List α} (h : Paired (c.r A H) vs xs) : Paired (c.r A H') vs xs := Paired.mapP h fun _ _ q => c.st k q
theorem pmono {α : Type} {c : Cd α} {A B : Rg} {H : Hp} (k : ∀ a, A a → H a ≠ none → B a) {vs : List V} {xs : List α} (h : Paired (c.r A H) vs xs) : Paired (c.r B H) vs xs := Paired.mapP h fun _ _ q => c.mono k q

theorem psub {α : Type} {c : Cd α} {A B : Rg} {H H' : Hp} (s : Sub A H B H') {vs : List V} {xs : List α} (h : Paired (c.r A H) vs xs) : Paired (c.r B H') vs xs := Paired.mapP h fun _ _ q => c.sub s q
def cInt : Cd Int := ⟨fun _ _ v i => v = .int i, fun _ h => h, fun _ h => h⟩
def cBl : Cd Bool := ⟨fun _ _ v i => v = .bl i, fun _ h => h, fun _ h => h⟩
def cStr : Cd Str := ⟨fun _ _ v i => v = .str i, fun _ h => h, fun _ h => h⟩
def cNon : Cd Unit := ⟨fun _ _ v _ => v = .non, fun _ h => h, fun _ h => h⟩
/-- any value -/
def cAny : Cd V := ⟨fun _ _ v x => v = x, fun _ h => h, fun _ h => h⟩
/-- a list that stands in the heap -/
def cL {α : Type} (c : Cd α) : Cd (List α) where
  r A H v xs := ∃ (a : Addr) (vs : List V), v = .ref a ∧ A a ∧ H a = some (.lst vs) ∧ Paired (c.r A H) vs xs
  st k := fun ⟨a, vs, e, n, h, p⟩ => ⟨a, vs, e, n, k a _ n h, pst k p⟩
  mono k := fun ⟨a, vs, e, n, h, p⟩ => ⟨a, vs, e, k a n (by rw [h]; exact fun z => nomatch z), h, pmono k p⟩
/-- a list that was not there at Hb, and that nothing else knows -/
def cF {α : Type} (Hb : Hp) (c : Cd α) : Cd (List α) where
  r A H v xs := ∃ (a : Addr) (vs : List V), v = .ref a ∧ Hb a = none ∧ A a ∧ H a = some (.lst vs) ∧ Paired (c.r (A.less a) H) vs xs
  st k := fun ⟨a, vs, e, hb, n, h, p⟩ => ⟨a, vs, e, hb, n, k a _ n h, pst (fun b o kb q => k b o kb.1 q) p⟩
  mono k := fun ⟨a, vs, e, hb, n, h, p⟩ => ⟨a, vs, e, hb, k a n (by rw [h]; exact fun z => nomatch z), h, pmono (fun b kb t => ⟨k b kb.1 t, kb.2⟩) p⟩
theorem cF_l {α : Type} {Hb : Hp} {c : Cd α} {A : Rg} {H : Hp} {v : V} {xs : List α} (h : (cF Hb c).r A H v xs) : (cL c).r A H v xs := by
  obtain ⟨a, vs, e, _, n, h, p⟩ := h
  exact ⟨a, vs, e, n, h, pmono (fun b k _ => k.1) p⟩
/-- a tuple of the written part -/
def KT (K : PySem.W.Frag) (a : Addr) (xs : List V) : Prop := ∃ (o : Obj) (its : Array Value) (n : Nat), K.lookup a = some o ∧ o.cls = .type "tuple" ∧ o.data = .seq its n ∧ its.size ≤ sizeLine ∧ Vals xs its.toList
def TupAt (K : PySem.W.Frag) (A : Rg) (H : Hp) (a : Addr) (vs : List V) : Prop := (A a ∧ H a = some (.tup vs)) ∨ KT K a vs
theorem TupAt.st {K : PySem.W.Frag} {A : Rg} {H H' : Hp} {a : Addr} {vs : List V} (k : ∀ a o, A a → H a = some o → H' a = some o) (h : TupAt K A H a vs) : TupAt K A H' a vs := by
  rcases h with ⟨n, h⟩ | h
  · exact .inl ⟨n, k a _ n h⟩
  · exact .inr h
theorem TupAt.mono {K : PySem.W.Frag} {A B : Rg} {H : Hp} {a : Addr} {vs : List V} (k : ∀ a, A a → H a ≠ none → B a) (h : TupAt K A H a vs) : TupAt K B H a vs := by
  rcases h with ⟨n, h⟩ | h
  · exact .inl ⟨k a n (by rw [h]; exact fun z => nomatch z), h⟩
  · exact .inr h
theorem TupAt.sub {K : PySem.W.Frag} {A B : Rg} {H H' : Hp} {a : Addr} {vs : List V} (s : Sub A H B H') (h : TupAt K A H a vs) : TupAt K B H' a vs := by
  rcases h with ⟨n, h⟩ | h
  · exact .inl (s.tr a _ n h)
  · exact .inr h
theorem TupAt.sq {K : PySem.W.Frag} {A : Rg} {H : Hp} {a : Addr} {vs : List V} (h : TupAt K A H a vs) : SqT K H a vs := by
  rcases h with ⟨_, h⟩ | h
  · exact SqT.of h
  · exact .inr h
/-- a tuple of like items -/
def cU {α : Type} (K : PySem.W.Frag) (c : Cd α) : Cd (List α) where
  r A H v xs := ∃ (a : Addr) (vs : List V), v = .ref a ∧ TupAt K A H a vs ∧ Paired (c.r A H) vs xs
  st k := fun ⟨a, vs, e, h, p⟩ => ⟨a, vs, e, h.st k, pst k p⟩
  mono k := fun ⟨a, vs, e, h, p⟩ => ⟨a, vs, e, h.mono k, pmono k p⟩
def c2 {α β : Type} (K : PySem.W.Frag) (c : Cd α) (d : Cd β) : Cd (α × β) where
  r A H v x := ∃ (a : Addr) (v1 v2 : V), v = .ref a ∧ TupAt K A H a [v1, v2] ∧ c.r A H v1 x.1 ∧ d.r A H v2 x.2
  st k := fun ⟨a, v1, v2, e, h, p, q⟩ => ⟨a, v1, v2, e, h.st k, c.st k p, d.st k q⟩
  mono k := fun ⟨a, v1, v2, e, h, p, q⟩ => ⟨a, v1, v2, e, h.mono k, c.mono k p, d.mono k q⟩
def c3 {α β γ : Type} (K : PySem.W.Frag) (c : Cd α) (d : Cd β) (f : Cd γ) : Cd (α × β × γ) where
  r A H v x := ∃ (a : Addr) (v1 v2 v3 : V), v = .ref a ∧ TupAt K A H a [v1, v2, v3] ∧ c.r A H v1 x.1 ∧ d.r A H v2 x.2.1 ∧ f.r A H v3 x.2.2
  st k := fun ⟨a, v1, v2, v3, e, h, p, q, q3⟩ => ⟨a, v1, v2, v3, e, h.st k, c.st k p, d.st k q, f.st k q3⟩
  mono k := fun ⟨a, v1, v2, v3, e, h, p, q, q3⟩ => ⟨a, v1, v2, v3, e, h.mono k, c.mono k p, d.mono k q, f.mono k q3⟩
/-- the script: a list of ints that is read only -/
def KL (K : PySem.W.Frag) (a : Addr) (xs : List V) : Prop := ∃ (o : Obj) (its : Array Value) (n : Nat), K.lookup a = some o ∧ o.cls = .type "list" ∧ o.dict = none ∧ o.data = .seq its n ∧ its.size ≤ sizeLine ∧ Vals xs its.toList
def cScr (K : PySem.W.Frag) : Cd (List Int) where
  r A H v xs := ∃ (a : Addr), v = .ref a ∧ ((A a ∧ Rd H a (.lst (xs.map V.int))) ∨ KL K a (xs.map V.int))
  st k := fun ⟨a, e, h⟩ => ⟨a, e, by
    rcases h with ⟨n, h | ⟨o, h⟩⟩ | h
    · exact .inl ⟨n, .inl (k a _ n h)⟩
    · exact .inl ⟨n, .inr ⟨o, k a _ n h⟩⟩
    · exact .inr h⟩
  mono k := fun ⟨a, e, h⟩ => ⟨a, e, by
    rcases h with ⟨n, h⟩ | h
    · refine .inl ⟨k a n ?_, h⟩
      rcases h with h | ⟨o, h⟩
      · rw [h]; exact fun z => nomatch z
      · rw [h]; exact fun z => nomatch z
    · exact .inr h⟩
theorem cScr_sq {K : PySem.W.Frag} {A : Rg} {H : Hp} {v : V} {xs : List Int} (h : (cScr K).r A H v xs) : ∃ a, v = .ref a ∧ SqL K H a (xs.map V.int) := by
  obtain ⟨a, e, ⟨_, h⟩ | h⟩ := h
  · exact ⟨a, e, .inl h⟩
  · exact ⟨a, e, .inr h⟩

/-! ### effects: what is computed, with a count of draws -/
/-- an answer, or none -/
inductive M (α : Type) where
  | ok (x : α) | bad
def M.bind {α β : Type} (m : M α) (f : α → M β) : M β := match m with | .ok x => f x | .bad => .bad
instance : Monad M where
  pure := M.ok
  bind := M.bind
theorem M.bind_ok {α β : Type} {m : M α} {f : α → M β} {y : β} (h : (m >>= f) = .ok y) : ∃ x, m = .ok x ∧ f x = .ok y := by
  cases m with
  | ok x => exact ⟨x, rfl, h⟩
  | bad => cases h
@[simp] theorem M.ok_bind {α β : Type} {x : α} {f : α → M β} : (M.ok x >>= f) = f x := rfl
@[simp] theorem M.pure_eq {α : Type} {x : α} : (pure x : M α) = M.ok x := rfl
@[simp] theorem M.bad_bind {α β : Type} {f : α → M β} : (M.bad >>= f) = M.bad := rfl
def M.guard {α : Type} (b : Bool) (x : α) : M α := if b = true then .ok x else .bad
theorem M.guard_ok {α : Type} {b : Bool} {x y : α} (h : M.guard b x = .ok y) : b = true ∧ x = y := by
  unfold M.guard at h
  split at h
  · exact ⟨by assumption, M.ok.inj h⟩
  · cases h
@[simp] theorem M.guard_true {α : Type} {x : α} : M.guard true x = .ok x := rfl
def M.opt {α : Type} : Option α → M α | some x => .ok x | none => .bad
theorem M.opt_ok {α : Type} {o : Option α} {x : α} (h : M.opt o = .ok x) : o = some x := by
  cases o with
  | none => cases h
  | some y => cases h; rfl
/-- with draws: what is wanted of every way, from a count of draws on -/
structure D (α : Type) where
  run : Nat → (α → Nat → Prop) → Prop
  mono : ∀ {n : Nat} {Q R : α → Nat → Prop}, (∀ x k, Q x k → R x k) → run n Q → run n R
instance : Monad D where
  pure x := ⟨fun n Q => Q x n, fun k h => k _ _ h⟩
  bind m f := ⟨fun n Q => m.run n fun x k => (f x).run k Q, fun h q => m.mono (fun x k q => (f x).mono h q) q⟩
def D.lift {α : Type} (m : M α) : D α := ⟨fun n Q => ∃ x, m = .ok x ∧ Q x n, fun k ⟨x, e, h⟩ => ⟨x, e, k _ _ h⟩⟩
instance : MonadLift M D := ⟨D.lift⟩
def drawLine : Nat := 1000000
def D.draw (many : Int) : D Int := ⟨fun n Q => n < drawLine ∧ 0 < many ∧ many < 1073741824 ∧ ∀ v : Int, 0 ≤ v → v < many → Q v (n + 1), fun k ⟨a, b, c, h⟩ => ⟨a, b, c, fun v h1 h2 => k _ _ (h v h1 h2)⟩⟩
@[simp] theorem D.run_pure {α : Type} {x : α} {n : Nat} {Q : α → Nat → Prop} : (pure x : D α).run n Q ↔ Q x n := Iff.rfl
@[simp] theorem D.run_bind {α β : Type} {m : D α} {f : α → D β} {n : Nat} {Q : β → Nat → Prop} : (m >>= f).run n Q ↔ m.run n fun x k => (f x).run k Q := Iff.rfl
@[simp] theorem D.run_lift {α : Type} {m : M α} {n : Nat} {Q : α → Nat → Prop} : (D.lift m).run n Q ↔ ∃ x, m = .ok x ∧ Q x n := Iff.rfl
theorem D.lift_ok {α : Type} {x : α} : D.lift (.ok x) = pure x := by
  unfold D.lift
  have e : (fun (n : Nat) (Q : α → Nat → Prop) => ∃ y, M.ok x = M.ok y ∧ Q y n) = fun n Q => Q x n := by
    funext n Q
    exact propext ⟨fun ⟨y, e, h⟩ => by cases e; exact h, fun h => ⟨x, rfl, h⟩⟩
  show (⟨_, _⟩ : D α) = ⟨_, _⟩
  simp only [e]
/-- the common face of both -/
class Eff (F : Type → Type) extends Monad F where
  wp : {α : Type} → F α → Nat → (α → Nat → Prop) → Prop
  wp_ret : ∀ {α : Type} {x : α} {n : Nat} {Q : α → Nat → Prop}, wp (pure x) n Q → Q x n
  wp_bnd : ∀ {α β : Type} {m : F α} {f : α → F β} {n : Nat} {Q : β → Nat → Prop}, wp (m >>= f) n Q → wp m n fun x k => wp (f x) k Q
  wp_of_ret : ∀ {α : Type} {x : α} {n : Nat} {Q : α → Nat → Prop}, Q x n → wp (pure x) n Q
  bnd_wp : ∀ {α β : Type} {m : F α} {f : α → F β} {n : Nat} {Q : β → Nat → Prop}, wp m n (fun x k => wp (f x) k Q) → wp (m >>= f) n Q
  wp_mono : ∀ {α : Type} {m : F α} {n : Nat} {Q R : α → Nat → Prop}, (∀ x k, Q x k → R x k) → wp m n Q → wp m n R
  up : {α : Type} → M α → F α
  wp_up : ∀ {α : Type} {m : M α} {n : Nat} {Q : α → Nat → Prop}, wp (up m) n Q → ∃ x, m = .ok x ∧ Q x n
instance : Eff M where
  wp m n Q := ∃ x, m = .ok x ∧ Q x n
  wp_ret := fun ⟨_, e, h⟩ => by cases e; exact h
  wp_of_ret := fun h => ⟨_, rfl, h⟩
  wp_bnd := fun ⟨_, e, h⟩ => by
    obtain ⟨x, e1, e2⟩ := M.bind_ok e
    exact ⟨x, e1, _, e2, h⟩
  bnd_wp := fun ⟨x, e1, y, e2, h⟩ => ⟨y, by rw [e1]; exact e2, h⟩
  wp_mono := fun k ⟨x, e, h⟩ => ⟨x, e, k _ _ h⟩
  up := fun m => m
  wp_up := fun h => h
instance : Eff D where
  wp m n Q := m.run n Q
  wp_ret h := h
  wp_of_ret h := h
  wp_bnd h := h
  bnd_wp h := h
  wp_mono k h := D.mono _ k h
  up := D.lift
  wp_up h := h

/-! ### the world around: what may change, what is held of it by the count of draws -/
structure Wd where
  Z : Rg
  Y : Rg
  T : Nat → Hp → Prop
  stY : ∀ {n : Nat} {H H' : Hp}, (∀ a o, Y a → H a = some o → H' a = some o) → T n H → T n H'
  tr : ∀ {n : Nat} {H : Hp}, T n H → ∀ a, Y a → H a ≠ none
  zy : ∀ a, Z a → Y a
theorem Wd.st (w : Wd) {n : Nat} {H H' : Hp} (s : Same H H') (t : w.T n H) : w.T n H' := w.stY (fun a o _ h => s a o h) t
def wPure : Wd := ⟨fun _ => False, fun _ => False, fun _ _ => True, fun _ h => h, fun _ _ h => h.elim, fun _ h => h⟩

section
variable {F : Type → Type} [Eff F] {w : Wd} {A : Rg} {σ : St} {H H' : Hp} {α β γ δ ε : Type}
/-- total: te gives what stands for x, and leaves all that stood -/
def JT (A : Rg) (σ : St) (H : Hp) (c : Cd α) (te : TE) (x : α) : Prop := ∀ H1, Ext A H H1 → ∀ Q : VK, (∀ v H2, Same H1 H2 → c.r A H2 v x → Q v H2) → te σ H1 Q
/-- te does what m says -/
def J (w : Wd) (A : Rg) (σ : St) (H : Hp) (c : Cd α) (te : TE) (m : F α) : Prop := ∀ H1 n, Ext A H H1 → w.T n H1 → ∀ Q : VK, Eff.wp m n (fun x k => ∀ v H2, Exz w.Z H1 H2 → w.T k H2 → c.r A H2 v x → Q v H2) → te σ H1 Q
/-- an argument list -/
structure Ca (α : Type) where
  r : Rg → Hp → List V → α → Prop
  st : ∀ {A : Rg} {H H' : Hp} {v : List V} {x : α}, (∀ a o, A a → H a = some o → H' a = some o) → r A H v x → r A H' v x
  mono : ∀ {A B : Rg} {H : Hp} {v : List V} {x : α}, (∀ a, A a → H a ≠ none → B a) → r A H v x → r B H v x
def caN : Ca Unit := ⟨fun _ _ vs _ => vs = [], fun _ h => h, fun _ h => h⟩
def caC (c : Cd α) (d : Ca β) : Ca (α × β) := ⟨fun A H vs x => ∃ v r, vs = v :: r ∧ c.r A H v x.1 ∧ d.r A H r x.2, fun k ⟨v, r, e, p, q⟩ => ⟨v, r, e, c.st k p, d.st k q⟩, fun k ⟨v, r, e, p, q⟩ => ⟨v, r, e, c.mono k p, d.mono k q⟩⟩
def JTA (A : Rg) (σ : St) (H : Hp) (c : Ca α) (ta : TA) (x : α) : Prop := ∀ H1, Ext A H H1 → ∀ Q : List V → Hp → Prop, (∀ vs H2, Same H1 H2 → c.r A H2 vs x → Q vs H2) → ta σ H1 Q
def JA (w : Wd) (A : Rg) (σ : St) (H : Hp) (c : Ca α) (ta : TA) (m : F α) : Prop := ∀ H1 n, Ext A H H1 → w.T n H1 → ∀ Q : List V → Hp → Prop, Eff.wp m n (fun x k => ∀ vs H2, Exz w.Z H1 H2 → w.T k H2 → c.r A H2 vs x → Q vs H2) → ta σ H1 Q
/-- a test -/
def JTt (A : Rg) (σ : St) (H : Hp) (tt : TT) (b : Bool) : Prop := ∀ H1, Ext A H H1 → ∀ Q : Bool → Hp → Prop, (∀ H2, Same H1 H2 → Q b H2) → tt σ H1 Q
def Jt (w : Wd) (A : Rg) (σ : St) (H : Hp) (tt : TT) (m : F Bool) : Prop := ∀ H1 n, Ext A H H1 → w.T n H1 → ∀ Q : Bool → Hp → Prop, Eff.wp m n (fun b k => ∀ H2, Exz w.Z H1 H2 → w.T k H2 → Q b H2) → tt σ H1 Q

variable {c : Cd α} {d : Cd β} {f : Cd γ} {te ta tb : TE} {tt tu : TT} {x : α} {y : β} {z : γ}
theorem JT.later (e : Ext A H H') (h : JT A σ H c te x) : JT A σ H' c te x := fun H1 e1 => h H1 (e.trans e1)
theorem J.later {m : F α} (e : Ext A H H') (h : J w A σ H c te m) : J w A σ H' c te m := fun H1 n e1 => h H1 n (e.trans e1)
theorem J.of (h : JT A σ H c te x) : J w A σ H c te (pure x : F α) := fun H1 n e t Q q => h H1 e Q fun v H2 s r => Eff.wp_ret q v H2 (sameExz s) (w.st s t) r
theorem Jt.of {b : Bool} (h : JTt A σ H tt b) : Jt w A σ H tt (pure b : F Bool) := fun H1 n e t Q q => h H1 e Q fun H2 s => Eff.wp_ret q H2 (sameExz s) (w.st s t)
theorem JA.of {c : Ca α} {ta : TA} (h : JTA A σ H c ta x) : JA w A σ H c ta (pure x : F α) := fun H1 n e t Q q => h H1 e Q fun v H2 s r => Eff.wp_ret q v H2 (sameExz s) (w.st s t) r

/-! ### names, constants -/
theorem jt_var {i : Nat} {v : V} (h : σ[i]? = some (some v)) (r : c.r A H v x) : JT A σ H c (tVar i) x := fun H1 e Q q => ⟨v, h, q v H1 (Same.refl H1) (c.e e r)⟩
theorem jt_int {i : Int} : JT A σ H cInt (tC (.int i)) i := fun H1 e Q q => q _ H1 (Same.refl H1) rfl
theorem jt_bl {i : Bool} : JT A σ H cBl (tC (.bl i)) i := fun H1 e Q q => q _ H1 (Same.refl H1) rfl
theorem jt_str {i : Str} : JT A σ H cStr (tC (.str i)) i := fun H1 e Q q => q _ H1 (Same.refl H1) rfl
theorem jt_non : JT A σ H cNon (tC .non) () := fun H1 e Q q => q _ H1 (Same.refl H1) rfl
theorem jt_any {i : V} : JT A σ H cAny (tC i) i := fun H1 e Q q => q _ H1 (Same.refl H1) rfl
theorem jt_eq {x' : α} (h : JT A σ H c te x) (e : x = x') : JT A σ H c te x' := e ▸ h

/-! ### two-place operations, by values -/
def OT (A : Rg) (r : R2) (c : Cd α) (d : Cd β) (f : Cd γ) (g : α → β → γ) : Prop := ∀ H u v x y, Fr A H → c.r A H u x → d.r A H v y → ∀ Q : VK, (∀ z H2, Same H H2 → f.r A H2 z (g x y) → Q z H2) → r u v H Q
def OM (A : Rg) (r : R2) (c : Cd α) (d : Cd β) (f : Cd γ) (g : α → β → M γ) : Prop := ∀ H u v x y, Fr A H → c.r A H u x → d.r A H v y → ∀ t, g x y = .ok t → ∀ Q : VK, (∀ z H2, Same H H2 → f.r A H2 z t → Q z H2) → r u v H Q
theorem jt_op {r : R2} {g : α → β → γ} (fA : Fr A H) (o : OT A r c d f g) (ja : JT A σ H c ta x) (jb : JT A σ H d tb y) : JT A σ H f (tOp r ta tb) (g x y) := fun H1 e Q q =>
  ja H1 e _ fun u H2 s2 r2 => jb H2 (e.trans (sameExt s2)) _ fun v H3 s3 r3 => o H3 u v x y ((fA.ext e).same (s2.trans s3)) (c.s s3 r2) r3 Q fun z H4 s4 r4 => q z H4 ((s2.trans s3).trans s4) r4
/-- total operands, a partial operation -/
theorem j_opT {r : R2} {g : α → β → M γ} (fA : Fr A H) (o : OM A r c d f g) (ja : JT A σ H c ta x) (jb : JT A σ H d tb y) : J w A σ H f (tOp r ta tb) (Eff.up (g x y) : F γ) := fun H1 n e t Q q => by
  obtain ⟨t', e', q⟩ := Eff.wp_up q
  exact ja H1 e _ fun u H2 s2 r2 => jb H2 (e.trans (sameExt s2)) _ fun v H3 s3 r3 => o H3 u v x y ((fA.ext e).same (s2.trans s3)) (c.s s3 r2) r3 t' e' Q fun z H4 s4 r4 => q z H4 (sameExz ((s2.trans s3).trans s4)) (w.st ((s2.trans s3).trans s4) t) r4
theorem j_op {r : R2} {g : α → β → γ} {m : F α} {k : F β} (nA : ∀ a, A a → ¬ w.Z a) (fA : Fr A H) (o : OT A r c d f g) (ja : J w A σ H c ta m) (jb : J w A σ H d tb k) : J w A σ H f (tOp r ta tb) (m >>= fun x => k >>= fun y => (pure (g x y) : F γ)) := fun H1 n e t Q q => by
  refine ja H1 n e t _ (Eff.wp_mono (fun x n2 q2 u H2 e2 t2 r2 => ?_) (Eff.wp_bnd q))
  refine jb H2 n2 (e.trans (e2.ext nA)) t2 _ (Eff.wp_mono (fun y n3 q3 v H3 e3 t3 r3 => ?_) (Eff.wp_bnd q2))
  have q4 := Eff.wp_ret q3
  exact o H3 u v x y ((fA.ext e).exz (e2.trans e3)) (c.e (e3.ext nA) r2) r3 Q fun z H4 s4 r4 => q4 z H4 ((e2.trans e3).trans (sameExz s4)) (w.st s4 t3) r4
theorem j_opM {r : R2} {g : α → β → M γ} {m : F α} {k : F β} (nA : ∀ a, A a → ¬ w.Z a) (fA : Fr A H) (o : OM A r c d f g) (ja : J w A σ H c ta m) (jb : J w A σ H d tb k) : J w A σ H f (tOp r ta tb) (m >>= fun x => k >>= fun y => (Eff.up (g x y) : F γ)) := fun H1 n e t Q q => by
  refine ja H1 n e t _ (Eff.wp_mono (fun x n2 q2 u H2 e2 t2 r2 => ?_) (Eff.wp_bnd q))
  refine jb H2 n2 (e.trans (e2.ext nA)) t2 _ (Eff.wp_mono (fun y n3 q3 v H3 e3 t3 r3 => ?_) (Eff.wp_bnd q2))
  obtain ⟨t', e', q4⟩ := Eff.wp_up q3
  exact o H3 u v x y ((fA.ext e).exz (e2.trans e3)) (c.e (e3.ext nA) r2) r3 t' e' Q fun z H4 s4 r4 => q4 z H4 ((e2.trans e3).trans (sameExz s4)) (w.st s4 t3) r4
end
end Z

set_option Elab.async false
set_option linter.all false
set_option maxRecDepth 100000
set_option maxHeartbeats 4000000
set_option autoImplicit false
/-! Y1: values as trees, what stands for them; slots; where a body stands. -/
namespace Y
open PySem L2 Z

inductive Val where
  | non | bl (b : Bool) | int (i : Int) | str (s : Str) | ty (n : String) | wr (n : Nat)
  | tup (xs : List Val) | lst (xs : List Val)
  | dic (ks : List Key) (vs : List Val) | dit (ks : List (List Key)) (vs : List Val)
  | ins (c : Nat) (ns : List Str) (vs : List Val)
  | rng (lo hi : Int)
  | scr (ns : List Int)

/-- the written part's names -/
structure Cn where
  K : PySem.W.Frag
  ca : Nat → Addr
  wa : Nat → V
  T : List (Addr × Str)

def LstAt (K : PySem.W.Frag) (A : Rg) (H : Hp) (a : Addr) (vs : List V) : Prop := (A a ∧ Rd H a (.lst vs)) ∨ KL K a vs
mutual
def rep (C : Cn) (A : Rg) (H : Hp) (v : V) : Val → Prop
  | .non => v = .non
  | .bl b => v = .bl b
  | .int i => v = .int i
  | .str s => v = .str s
  | .ty n => v = .ty n
  | .wr n => v = C.wa n
  | .tup xs => ∃ a vs, v = .ref a ∧ TupAt C.K A H a vs ∧ reps C A H vs xs
  | .lst xs => ∃ a vs, v = .ref a ∧ A a ∧ H a = some (.lst vs) ∧ reps C A H vs xs
  | .dic ks xs => ∃ a vs, v = .ref a ∧ A a ∧ H a = some (.dK (ks.zip vs)) ∧ ks.length = xs.length ∧ reps C A H vs xs
  | .dit ks xs => ∃ a vs, v = .ref a ∧ A a ∧ H a = some (.dT (ks.zip vs)) ∧ ks.length = xs.length ∧ reps C A H vs xs
  | .ins c ns xs => ∃ a dx vs, v = .ref a ∧ A a ∧ A dx ∧ H a = some (.ins (C.ca c) dx (ns.zip vs)) ∧ H dx = some (.own a) ∧ ns.length = xs.length ∧ reps C A H vs xs
  | .rng lo hi => ∃ a, v = .ref a ∧ A a ∧ H a = some (.rng lo hi)
  | .scr ns => ∃ a, v = .ref a ∧ LstAt C.K A H a (ns.map V.int)
def reps (C : Cn) (A : Rg) (H : Hp) : List V → List Val → Prop
  | vs, [] => vs = []
  | vs, x :: xs => ∃ v r, vs = v :: r ∧ rep C A H v x ∧ reps C A H r xs
end

/-- what the region A bears at H the region A' bears at H' -/
def NT (o : HO) : Prop := ∀ ps, o ≠ .tbl ps
def Gr (A : Rg) (H : Hp) (A' : Rg) (H' : Hp) : Prop := ∀ a o, NT o → A a → H a = some o → A' a ∧ H' a = some o
theorem Gr.refl (A : Rg) (H : Hp) : Gr A H A H := fun _ _ _ a h => ⟨a, h⟩
theorem Gr.trans {A B D : Rg} {H H1 H2 : Hp} (g : Gr A H B H1) (k : Gr B H1 D H2) : Gr A H D H2 := fun a o n x h => k a o n (g a o n x h).1 (g a o n x h).2
theorem Gr.same {A : Rg} {H H' : Hp} (s : Same H H') : Gr A H A H' := fun a o _ x h => ⟨x, s a o h⟩
/-- nothing is there, or a table -/
def Fz (H : Hp) (a : Addr) : Prop := ∀ o, H a = some o → ¬ NT o
def Fq (A : Rg) (H : Hp) : Prop := ∀ p, Fz H p → A p
theorem Fz.of {H : Hp} {a : Addr} (h : H a = none) : Fz H a := fun o e => by rw [h] at e; cases e
theorem Fz.bk {H H' : Hp} (k : ∀ a o, NT o → H a = some o → H' a = some o) {a : Addr} (h : Fz H' a) : Fz H a := fun o e n => h o (k a o n e) n
theorem Fz.sm {H H' : Hp} (e : Same H H') {a : Addr} (h : Fz H' a) : Fz H a := Fz.bk (fun a o _ h => e a o h) h
theorem Fz.no {H : Hp} {a : Addr} {o : HO} (h : Fz H a) (e : H a = some o) (n : NT o) : False := h o e n
theorem Fq.same {A : Rg} {H H' : Hp} (f : Fq A H) (e : Same H H') : Fq A H' := fun p h => f p (h.sm e)
theorem nt {o : HO} (h : ∀ ps, o = .tbl ps → False := by exact fun _ z => nomatch z) : NT o := fun ps z => h ps z
theorem TupAt.gr {K : PySem.W.Frag} {A A' : Rg} {H H' : Hp} {a : Addr} {vs : List V} (g : Gr A H A' H') (h : TupAt K A H a vs) : TupAt K A' H' a vs := by
  rcases h with ⟨n, h⟩ | h
  · exact .inl (g a _ nt n h)
  · exact .inr h
theorem LstAt.gr {K : PySem.W.Frag} {A A' : Rg} {H H' : Hp} {a : Addr} {vs : List V} (g : Gr A H A' H') (h : LstAt K A H a vs) : LstAt K A' H' a vs := by
  rcases h with ⟨n, h | ⟨o, h⟩⟩ | h
  · exact .inl ⟨(g a _ nt n h).1, .inl (g a _ nt n h).2⟩
  · exact .inl ⟨(g a _ nt n h).1, .inr ⟨o, (g a _ nt n h).2⟩⟩
  · exact .inr h
theorem LstAt.sq {K : PySem.W.Frag} {A : Rg} {H : Hp} {a : Addr} {vs : List V} (h : LstAt K A H a vs) : SqL K H a vs := by
  rcases h with ⟨_, h⟩ | h
  · exact .inl h
  · exact .inr h
mutual
theorem rep.gr {C : Cn} {A A' : Rg} {H H' : Hp} (g : Gr A H A' H') : ∀ {x : Val} {v : V}, rep C A H v x → rep C A' H' v x
  | .non, _, h => h
  | .bl _, _, h => h
  | .int _, _, h => h
  | .str _, _, h => h
  | .ty _, _, h => h
  | .wr _, _, h => h
  | .tup xs, v, h => by
    unfold rep at h ⊢
    obtain ⟨a, vs, e, t, r⟩ := h
    exact ⟨a, vs, e, TupAt.gr g t, reps.gr g r⟩
  | .lst xs, v, h => by
    unfold rep at h ⊢
    obtain ⟨a, vs, e, n, t, r⟩ := h
    exact ⟨a, vs, e, (g a _ nt n t).1, (g a _ nt n t).2, reps.gr g r⟩
  | .dic ks xs, v, h => by
    unfold rep at h ⊢
    obtain ⟨a, vs, e, n, t, l, r⟩ := h
    exact ⟨a, vs, e, (g a _ nt n t).1, (g a _ nt n t).2, l, reps.gr g r⟩
  | .dit ks xs, v, h => by
    unfold rep at h ⊢
    obtain ⟨a, vs, e, n, t, l, r⟩ := h
    exact ⟨a, vs, e, (g a _ nt n t).1, (g a _ nt n t).2, l, reps.gr g r⟩
  | .ins c ns xs, v, h => by
    unfold rep at h ⊢
    obtain ⟨a, dx, vs, e, n, n2, t, t2, l, r⟩ := h
    exact ⟨a, dx, vs, e, (g a _ nt n t).1, (g dx _ nt n2 t2).1, (g a _ nt n t).2, (g dx _ nt n2 t2).2, l, reps.gr g r⟩
  | .rng lo hi, v, h => by
    unfold rep at h ⊢
    obtain ⟨a, e, n, t⟩ := h
    exact ⟨a, e, (g a _ nt n t).1, (g a _ nt n t).2⟩
  | .scr ns, v, h => by
    unfold rep at h ⊢
    obtain ⟨a, e, t⟩ := h
    exact ⟨a, e, LstAt.gr g t⟩
theorem reps.gr {C : Cn} {A A' : Rg} {H H' : Hp} (g : Gr A H A' H') : ∀ {xs : List Val} {vs : List V}, reps C A H vs xs → reps C A' H' vs xs
  | [], _, h => h
  | x :: xs, vs, h => by
    unfold reps at h ⊢
    obtain ⟨v, r, e, h1, h2⟩ := h
    exact ⟨v, r, e, rep.gr g h1, reps.gr g h2⟩
end
section
variable {C : Cn} {A : Rg} {H : Hp} {v : V}
@[simp] theorem rep_non : rep C A H v .non ↔ v = .non := by unfold rep; exact Iff.rfl
@[simp] theorem rep_bl {b : Bool} : rep C A H v (.bl b) ↔ v = .bl b := by unfold rep; exact Iff.rfl
@[simp] theorem rep_int {i : Int} : rep C A H v (.int i) ↔ v = .int i := by unfold rep; exact Iff.rfl
@[simp] theorem rep_str {s : Str} : rep C A H v (.str s) ↔ v = .str s := by unfold rep; exact Iff.rfl
@[simp] theorem rep_ty {s : String} : rep C A H v (.ty s) ↔ v = .ty s := by unfold rep; exact Iff.rfl
@[simp] theorem rep_wr {n : Nat} : rep C A H v (.wr n) ↔ v = C.wa n := by unfold rep; exact Iff.rfl
theorem rep_tup {xs : List Val} : rep C A H v (.tup xs) ↔ ∃ a vs, v = .ref a ∧ TupAt C.K A H a vs ∧ reps C A H vs xs := by unfold rep; exact Iff.rfl
theorem rep_lst {xs : List Val} : rep C A H v (.lst xs) ↔ ∃ a vs, v = .ref a ∧ A a ∧ H a = some (.lst vs) ∧ reps C A H vs xs := by unfold rep; exact Iff.rfl
theorem rep_dic {ks : List Key} {xs : List Val} : rep C A H v (.dic ks xs) ↔ ∃ a vs, v = .ref a ∧ A a ∧ H a = some (.dK (ks.zip vs)) ∧ ks.length = xs.length ∧ reps C A H vs xs := by unfold rep; exact Iff.rfl
theorem rep_ins {c : Nat} {ns : List Str} {xs : List Val} : rep C A H v (.ins c ns xs) ↔ ∃ a dx vs, v = .ref a ∧ A a ∧ A dx ∧ H a = some (.ins (C.ca c) dx (ns.zip vs)) ∧ H dx = some (.own a) ∧ ns.length = xs.length ∧ reps C A H vs xs := by unfold rep; exact Iff.rfl
theorem rep_rng {lo hi : Int} : rep C A H v (.rng lo hi) ↔ ∃ a, v = .ref a ∧ A a ∧ H a = some (.rng lo hi) := by unfold rep; exact Iff.rfl
theorem rep_scr {ns : List Int} : rep C A H v (.scr ns) ↔ ∃ a, v = .ref a ∧ LstAt C.K A H a (ns.map V.int) := by unfold rep; exact Iff.rfl
end
theorem reps_nil {C : Cn} {A : Rg} {H : Hp} : reps C A H [] [] := by unfold reps; rfl
theorem reps_cons {C : Cn} {A : Rg} {H : Hp} {v : V} {vs : List V} {x : Val} {xs : List Val} (h : rep C A H v x) (t : reps C A H vs xs) : reps C A H (v :: vs) (x :: xs) := by
  unfold reps; exact ⟨v, vs, rfl, h, t⟩
theorem reps.pair {C : Cn} {A : Rg} {H : Hp} : ∀ {xs : List Val} {vs : List V}, reps C A H vs xs → Paired (rep C A H) vs xs
  | [], _, h => by unfold reps at h; subst h; exact .nil
  | x :: xs, vs, h => by
    unfold reps at h
    obtain ⟨v, r, e, h1, h2⟩ := h
    subst e
    exact .cons h1 (reps.pair h2)
theorem reps_of {C : Cn} {A : Rg} {H : Hp} : ∀ {xs : List Val} {vs : List V}, Paired (rep C A H) vs xs → reps C A H vs xs
  | _, _, .nil => reps_nil
  | _, _, .cons h t => reps_cons h (reps_of t)
theorem reps.len {C : Cn} {A : Rg} {H : Hp} {xs : List Val} {vs : List V} (h : reps C A H vs xs) : vs.length = xs.length := Paired.length h.pair

/-! ### slots -/
inductive SV where
  | fz (x : Val)
  | ow (pin : Bool) (xs : List Val)
  | od (pin : Bool) (ks : List Key) (vs : List Val)
  | oi (pin : Bool) (c : Nat) (ns : List Str) (vs : List Val)
abbrev En := List (Option SV)
def SV.own : SV → Bool | .fz _ => false | _ => true
def SV.pin : SV → Bool | .fz _ => false | .ow p _ => p | .od p _ _ => p | .oi p _ _ _ => p
def slr (C : Cn) (A : Rg) (H : Hp) (v : V) : SV → Prop
  | .fz x => rep C A H v x
  | .ow _ xs => ∃ l vs, v = .ref l ∧ ¬ A l ∧ H l = some (.lst vs) ∧ reps C A H vs xs
  | .od _ ks xs => ∃ l vs, v = .ref l ∧ ¬ A l ∧ H l = some (.dK (ks.zip vs)) ∧ ks.length = xs.length ∧ reps C A H vs xs
  | .oi _ c ns xs => ∃ l dx vs, v = .ref l ∧ ¬ A l ∧ A dx ∧ H l = some (.ins (C.ca c) dx (ns.zip vs)) ∧ H dx = some (.own l) ∧ ns.length = xs.length ∧ reps C A H vs xs
structure EnvR (C : Cn) (A : Rg) (H : Hp) (σ : L2.St) (ρ : En) : Prop where
  len : σ.length = ρ.length
  sl : ∀ (i : Nat) (s : SV), ρ[i]? = some (some s) → ∃ v, σ[i]? = some (some v) ∧ slr C A H v s
  ne : ∀ (i j : Nat) (s t : SV) (v : V), i ≠ j → ρ[i]? = some (some s) → ρ[j]? = some (some t) → s.own = true → t.own = true → σ[i]? = some (some v) → σ[j]? ≠ some (some v)
/-- an own slot stands at an address -/
theorem slr.at {C : Cn} {A : Rg} {H : Hp} {v : V} {s : SV} (h : slr C A H v s) (o : s.own = true) : ∃ l, v = .ref l ∧ ¬ A l ∧ H l ≠ none := by
  cases s with
  | fz x => cases o
  | ow p xs => obtain ⟨l, vs, e, n, k, _⟩ := h; exact ⟨l, e, n, by rw [k]; exact fun z => nomatch z⟩
  | od p ks xs => obtain ⟨l, vs, e, n, k, _⟩ := h; exact ⟨l, e, n, by rw [k]; exact fun z => nomatch z⟩
  | oi p c ns xs => obtain ⟨l, dx, vs, e, n, _, k, _⟩ := h; exact ⟨l, e, n, by rw [k]; exact fun z => nomatch z⟩
theorem tabs_put {T : List (Addr × Str)} {H : Hp} {l : Addr} {o0 o : HO} (t : LamX.Tabs T H) (h : H l = some o0) (n1 : NT o0) (n2 : ∀ φ, o0 ≠ .ext φ) : LamX.Tabs T (upd H l o) := fun p hp => by
  obtain ⟨ps, h1, h2, h3⟩ := t p hp
  have ne : p.1 ≠ l := fun z => by rw [z, h] at h1; exact n1 _ (Option.some.inj h1)
  refine ⟨ps, by rw [upd_ne ne]; exact h1, h2, fun pos cv hc => ?_⟩
  obtain ⟨c, e1, e2⟩ := h3 pos cv hc
  exact ⟨c, e1, by rw [upd_ne (fun z => by rw [z, h] at e2; exact n2 _ (Option.some.inj e2))]; exact e2⟩
/-- where a body stands: what it began with -/
structure Bs where
  A0 : Rg
  H0 : Hp
  pins : List (Nat × Addr)
def Bs.Z (B : Bs) : Rg := fun a => ∃ i, (i, a) ∈ B.pins
structure Now (C : Cn) (B : Bs) (A : Rg) (H : Hp) (σ : L2.St) (ρ : En) : Prop where
  env : EnvR C A H σ ρ
  fr : Fq A H
  f0 : Fq B.A0 B.H0
  nz : ∀ a, B.Z a → ¬ B.A0 a
  le : ∀ a, A a → B.A0 a
  kp : ∀ a o, NT o → ¬ B.Z a → B.H0 a = some o → H a = some o
  tb : LamX.Tabs C.T H
  fe : ∀ a, Fz H a → Fz B.H0 a
  ow : ∀ (i : Nat) (s : SV) (l : Addr), ρ[i]? = some (some s) → s.own = true → σ[i]? = some (some (.ref l)) → (Fz B.H0 l ∧ s.pin = false) ∨ (B.Z l ∧ s.pin = true)
  pn : ∀ (i : Nat) (l : Addr), (i, l) ∈ B.pins → σ[i]? = some (some (.ref l)) ∧ ∃ s, ρ[i]? = some (some s) ∧ s.own = true ∧ s.pin = true

/-! ### what is computed -/
inductive Rs (α : Type) where
  | ok (x : α)
  | exc (c : Nat) (ns : List Str) (vs : List Val) (ρ : En)
  | bad
def Rs.bind {α β : Type} (m : Rs α) (f : α → Rs β) : Rs β := match m with | .ok x => f x | .exc c ns vs ρ => .exc c ns vs ρ | .bad => .bad
instance : Monad Rs where
  pure := Rs.ok
  bind := Rs.bind
@[simp] theorem Rs.ok_bind {α β : Type} {x : α} {f : α → Rs β} : (Rs.ok x >>= f) = f x := rfl
@[simp] theorem Rs.pure_eq {α : Type} {x : α} : (pure x : Rs α) = Rs.ok x := rfl
@[simp] theorem Rs.bad_bind {α β : Type} {f : α → Rs β} : (Rs.bad >>= f) = Rs.bad := rfl
@[simp] theorem Rs.exc_bind {α β : Type} {f : α → Rs β} {c ns vs ρ} : (Rs.exc c ns vs ρ >>= f) = Rs.exc c ns vs ρ := rfl
def Rs.opt {α : Type} : Option α → Rs α | some x => .ok x | none => .bad
@[simp] theorem Rs.opt_some {α : Type} {x : α} : Rs.opt (some x) = .ok x := rfl
@[simp] theorem Rs.opt_none {α : Type} : (Rs.opt none : Rs α) = .bad := rfl
abbrev XW := Nat → List Str → List Val → En → Prop
def Rs.wp {α : Type} (r : Rs α) (Q : α → Prop) (E : XW) : Prop := match r with | .ok x => Q x | .exc c ns vs ρ => E c ns vs ρ | .bad => False
theorem Rs.wp_bind {α β : Type} {r : Rs α} {f : α → Rs β} {Q : β → Prop} {E : XW} (h : (r >>= f).wp Q E) : r.wp (fun x => (f x).wp Q E) E := by
  cases r with
  | ok x => exact h
  | exc c ns vs ρ => exact h
  | bad => exact h
theorem Rs.bind_wp {α β : Type} {r : Rs α} {f : α → Rs β} {Q : β → Prop} {E : XW} (h : r.wp (fun x => (f x).wp Q E) E) : (r >>= f).wp Q E := by
  cases r with
  | ok x => exact h
  | exc c ns vs ρ => exact h
  | bad => exact h
theorem Rs.wp_mono {α : Type} {r : Rs α} {Q Q' : α → Prop} {E E' : XW} (h : r.wp Q E) (k : ∀ x, Q x → Q' x) (e : ∀ c ns vs ρ, E c ns vs ρ → E' c ns vs ρ) : r.wp Q' E' := by
  cases r with
  | ok x => exact k x h
  | exc c ns vs ρ => exact e c ns vs ρ h
  | bad => exact h
theorem Rs.wp_opt {α : Type} {o : Option α} {Q : α → Prop} {E : XW} (h : (Rs.opt o).wp Q E) : ∃ x, o = some x ∧ Q x := by
  cases o with
  | none => exact h.elim
  | some x => exact ⟨x, rfl, h⟩
/-- what is wanted of an exception -/
def EX (C : Cn) (E : XK) (B : Bs) : XW := fun c ns xs ρ' => ∀ d vs A' σ' H', Now C B A' H' σ' ρ' → A' d → H' d = some (.xd (ns.zip vs)) → ns.length = xs.length → reps C A' H' vs xs → E (.ref (C.ca c)) (some d) H'
/-- no slot becomes own in an expression -/
def Ow (ρ ρ' : En) : Prop := ∀ (j : Nat) (t : SV), ρ'[j]? = some (some t) → t.own = true → ∃ t0, ρ[j]? = some (some t0) ∧ t0.own = true
theorem Ow.refl (ρ : En) : Ow ρ ρ := fun _ t h o => ⟨t, h, o⟩
theorem Ow.trans {ρ ρ1 ρ2 : En} (a : Ow ρ ρ1) (b : Ow ρ1 ρ2) : Ow ρ ρ2 := fun j t h o => let ⟨t0, h0, o0⟩ := b j t h o; a j t0 h0 o0
def OwnAt (σ : L2.St) (ρ : En) (a : Addr) : Prop := ∃ (j : Nat) (t : SV), ρ[j]? = some (some t) ∧ t.own = true ∧ σ[j]? = some (some (.ref a))
theorem OwnAt.mono {σ : L2.St} {ρ ρ' : En} {a : Addr} (w : Ow ρ ρ') (h : OwnAt σ ρ' a) : OwnAt σ ρ a := by
  obtain ⟨j, t, h1, h2, h3⟩ := h
  obtain ⟨t0, k1, k2⟩ := w j t h1 h2
  exact ⟨j, t0, k1, k2, h3⟩
structure Gd (σ : L2.St) (A : Rg) (H : Hp) (ρ : En) (H' : Hp) (ρ' : En) : Prop where
  g : Gr A H A H'
  o : Ow ρ ρ'
  k : ∀ a o, NT o → H a = some o → ¬ OwnAt σ ρ a → H' a = some o
  f : ∀ a, Fz H' a → Fz H a
theorem Gd.refl (σ : L2.St) (A : Rg) (H : Hp) (ρ : En) : Gd σ A H ρ H ρ := ⟨.refl _ _, .refl _, fun _ _ _ h _ => h, fun _ h => h⟩
theorem Gd.trans {σ : L2.St} {A : Rg} {H H1 H2 : Hp} {ρ ρ1 ρ2 : En} (a : Gd σ A H ρ H1 ρ1) (b : Gd σ A H1 ρ1 H2 ρ2) : Gd σ A H ρ H2 ρ2 := ⟨a.g.trans b.g, a.o.trans b.o, fun p o t h n => b.k p o t (a.k p o t h n) fun z => n (z.mono a.o), fun p h => a.f p (b.f p h)⟩
theorem Gd.same {σ : L2.St} {A : Rg} {H H' : Hp} {ρ : En} (s : Same H H') : Gd σ A H ρ H' ρ := ⟨.same s, .refl _, fun a o _ h _ => s a o h, fun a h => h.sm s⟩
/-- .. in an expression: the slots are as they were -/
def EXe (C : Cn) (E : XK) (B : Bs) (A : Rg) (H : Hp) (σ : L2.St) (ρ : En) : XW := fun c ns xs ρ' => ∀ d vs H', Now C B A H' σ ρ' → Gd σ A H ρ H' ρ' → A d → H' d = some (.xd (ns.zip vs)) → ns.length = xs.length → reps C A H' vs xs → E (.ref (C.ca c)) (some d) H'
theorem EXe.tr {C : Cn} {E : XK} {B : Bs} {A : Rg} {H H1 : Hp} {σ : L2.St} {ρ ρ1 : En} (g : Gd σ A H ρ H1 ρ1) : ∀ c ns vs ρ', EXe C E B A H σ ρ c ns vs ρ' → EXe C E B A H1 σ ρ1 c ns vs ρ' := fun _ _ _ _ h d vs H' N g' => h d vs H' N (g.trans g')
theorem EXe.of {C : Cn} {E : XK} {B : Bs} {A : Rg} {H : Hp} {σ : L2.St} {ρ : En} : ∀ c ns vs ρ', EX C E B c ns vs ρ' → EXe C E B A H σ ρ c ns vs ρ' := fun _ _ _ _ h d vs H' N _ => h d vs A σ H' N
/-- readings -/
def SE (C : Cn) (E : XK) (m : En → Rs (Val × En)) : TE := fun σ H Q => ∃ B A ρ, Now C B A H σ ρ ∧ (m ρ).wp (fun x => ∀ v H', Now C B A H' σ x.2 → Gd σ A H ρ H' x.2 → rep C A H' v x.1 → Q v H') (EXe C E B A H σ ρ)
def SA (C : Cn) (E : XK) (m : En → Rs (List Val × En)) : TA := fun σ H Q => ∃ B A ρ, Now C B A H σ ρ ∧ (m ρ).wp (fun x => ∀ vs H', Now C B A H' σ x.2 → Gd σ A H ρ H' x.2 → reps C A H' vs x.1 → Q vs H') (EXe C E B A H σ ρ)
def SB (C : Cn) (E : XK) (m : En → Rs (Bool × En)) : TT := fun σ H Q => ∃ B A ρ, Now C B A H σ ρ ∧ (m ρ).wp (fun x => ∀ H', Now C B A H' σ x.2 → Gd σ A H ρ H' x.2 → Q x.1 H') (EXe C E B A H σ ρ)
inductive Out where
  | nx (ρ : En) | rt (x : Val) (ρ : En) | bk (ρ : En) | ct (ρ : En)
def Out.at (C : Cn) (B : Bs) (A : Rg) (H : Hp) (D : Ends) : Out → Prop
  | .nx ρ' => ∀ A' σ' H', Now C B A' H' σ' ρ' → Gr A H A' H' → D.nx σ' H'
  | .rt x ρ' => ∀ v A' σ' H', Now C B A' H' σ' ρ' → Gr A H A' H' → rep C A' H' v x → D.rt v H'
  | .bk ρ' => ∀ A' σ' H', Now C B A' H' σ' ρ' → Gr A H A' H' → D.bk σ' H'
  | .ct ρ' => ∀ A' σ' H', Now C B A' H' σ' ρ' → Gr A H A' H' → D.ct σ' H'
def SS (C : Cn) (E : XK) (m : En → Rs Out) : TS := fun D σ H => ∃ B A ρ, Now C B A H σ ρ ∧ (m ρ).wp (Out.at C B A H D) (EX C E B)
theorem PE.imp {X : Cx} {e : Expr} {t t' : TE} (h : PE X e t) (k : ∀ σ H Q, t' σ H Q → t σ H Q) : PE X e t' := ⟨fun pins s σ H Q I q => h.run pins s σ H Q I (k σ H Q q)⟩
theorem PT.imp {X : Cx} {e : Expr} {t t' : TT} (h : PT X e t) (k : ∀ σ H Q, t' σ H Q → t σ H Q) : PT X e t' := ⟨fun pins s σ H Q I q => h.run pins s σ H Q I (k σ H Q q)⟩
theorem PW.imp {X : Cx} {e : Expr} {t t' : TT} (h : PW X e t) (k : ∀ σ H Q, t' σ H Q → t σ H Q) : PW X e t' := ⟨fun wh pins s σ H Q I q => h.run wh pins s σ H Q I (k σ H Q q)⟩
theorem PA.imp {X : Cx} {e : List Expr} {t t' : TA} (h : PA X e t) (k : ∀ σ H Q, t' σ H Q → t σ H Q) : PA X e t' := ⟨fun p pins s σ H Q I q => h.run p pins s σ H Q I (k σ H Q q)⟩
theorem PK.imp {X : Cx} {e : List Keyword} {t t' : TA} (h : PK X e t) (k : ∀ σ H Q, t' σ H Q → t σ H Q) : PK X e t' := ⟨fun p pins s σ H Q I q => h.run p pins s σ H Q I (k σ H Q q)⟩
theorem PS.imp {X : Cx} {e : Stmt} {t t' : TS} (h : PS X e t) (k : ∀ D σ H, t' D σ H → t D σ H) : PS X e t' := ⟨fun pins s σ H Q I q => h.run pins s σ H Q I (k Q σ H q)⟩
theorem PSs.imp {X : Cx} {e : List Stmt} {t t' : TS} (h : PSs X e t) (k : ∀ D σ H, t' D σ H → t D σ H) : PSs X e t' := ⟨fun pins s σ H Q I q => h.run pins s σ H Q I (k Q σ H q)⟩
theorem PI.imp {X : Cx} {g e : Expr} {t t' : TI} (h : PI X g e t) (k : ∀ σ H R, t' σ H R → t σ H R) : PI X g e t' := ⟨fun pins s σ H Q I q => h.run pins s σ H Q I (k σ H Q q)⟩

section
variable {C : Cn} {B : Bs} {A A' : Rg} {H H' : Hp} {σ : L2.St} {ρ : En}
/-- all that was tracked stays: nothing but new objects -/
theorem slr.same {v : V} {s : SV} (e : Same H H') (h : slr C A H v s) : slr C A H' v s := by
  have g : Gr A H A H' := .same e
  cases s with
  | fz x => exact rep.gr g h
  | ow p xs => obtain ⟨l, vs, e1, n, k, r⟩ := h; exact ⟨l, vs, e1, n, e _ _ k, reps.gr g r⟩
  | od p ks xs => obtain ⟨l, vs, e1, n, k, z, r⟩ := h; exact ⟨l, vs, e1, n, e _ _ k, z, reps.gr g r⟩
  | oi p c ns xs => obtain ⟨l, dx, vs, e1, n, n2, k, k2, z, r⟩ := h; exact ⟨l, dx, vs, e1, n, n2, e _ _ k, e _ _ k2, z, reps.gr g r⟩
theorem EnvR.same (e : Same H H') (h : EnvR C A H σ ρ) : EnvR C A H' σ ρ := ⟨h.len, fun i s q => let ⟨v, h1, h2⟩ := h.sl i s q; ⟨v, h1, h2.same e⟩, h.ne⟩
theorem Now.same (N : Now C B A H σ ρ) (e : Same H H') : Now C B A H' σ ρ :=
  ⟨N.env.same e, N.fr.same e, N.f0, N.nz, N.le, fun a o t z h => e _ _ (N.kp a o t z h), N.tb.ext e, fun a h => N.fe a (h.sm e), N.ow, N.pn⟩
theorem Now.new (N : Now C B A H σ ρ) {p : Addr} {o : HO} (hp : H p = none) : Now C B A (upd H p o) σ ρ := N.same (same_new hp)
/-- a slot's value -/
theorem Now.slot (N : Now C B A H σ ρ) {i : Nat} {s : SV} (h : ρ[i]? = some (some s)) : ∃ v, σ[i]? = some (some v) ∧ slr C A H v s := N.env.sl i s h
end
end Y

set_option Elab.async false
set_option linter.all false
set_option maxRecDepth 100000
set_option maxHeartbeats 4000000
set_option autoImplicit false
/-! Y2: expressions. -/
namespace Y
open PySem L2 Z

abbrev ME := En → Rs (Val × En)
abbrev MA := En → Rs (List Val × En)
abbrev MB := En → Rs (Bool × En)
def cstM (x : Val) : ME := fun ρ => .ok (x, ρ)
def varM (i : Nat) : ME := fun ρ => match ρ[i]? with | some (some (.fz x)) => .ok (x, ρ) | _ => .bad
def binM (f : Val → Val → Option Val) (a b : ME) : ME := fun ρ => a ρ >>= fun x => b x.2 >>= fun y => Rs.opt (f x.1 y.1) >>= fun z => .ok (z, y.2)
def unM (f : Val → Option Val) (a : ME) : ME := fun ρ => a ρ >>= fun x => Rs.opt (f x.1) >>= fun z => .ok (z, x.2)
def tstM (f : Val → Option Bool) (a : ME) : MB := fun ρ => a ρ >>= fun x => Rs.opt (f x.1) >>= fun z => .ok (z, x.2)
def blV : Val → Option Bool | .bl b => some b | _ => none
def andB (a b : MB) : MB := fun ρ => a ρ >>= fun x => if x.1 = true then b x.2 else .ok (false, x.2)
def orB (a b : MB) : MB := fun ρ => a ρ >>= fun x => if x.1 = true then .ok (true, x.2) else b x.2
def notB (a : MB) : MB := fun ρ => a ρ >>= fun x => .ok (!x.1, x.2)
def andM (a b : ME) : ME := fun ρ => a ρ >>= fun x => Rs.opt (blV x.1) >>= fun k => if k = true then b x.2 else .ok (.bl false, x.2)
def orM (a b : ME) : ME := fun ρ => a ρ >>= fun x => Rs.opt (blV x.1) >>= fun k => if k = true then .ok (.bl true, x.2) else b x.2
def ifM (c : MB) (a b : ME) : ME := fun ρ => c ρ >>= fun k => if k.1 = true then a k.2 else b k.2
def nilA : MA := fun ρ => .ok ([], ρ)
def consA (a : ME) (b : MA) : MA := fun ρ => a ρ >>= fun x => b x.2 >>= fun y => .ok (x.1 :: y.1, y.2)
def tupM (a : MA) : ME := fun ρ => a ρ >>= fun x => if x.1.length ≤ sizeLine then .ok (.tup x.1, x.2) else .bad
def lstM (a : MA) : ME := fun ρ => a ρ >>= fun x => if x.1.length ≤ sizeLine then .ok (.lst x.1, x.2) else .bad
def cbM (f : List Val → Option Val) (a : MA) : ME := fun ρ => a ρ >>= fun x => Rs.opt (f x.1) >>= fun z => .ok (z, x.2)

section
variable {X : Cx} {C : Cn} {E : XK} {e a b : Expr} {ma mb : ME} {es : List Expr} {ml : MA} {pos : Pos}
theorem y_var {i : Nat} (h : PE X e (tVar i)) : PE X e (SE C E (varM i)) := PE.imp h fun σ H Q ⟨B, A, ρ, N, hm⟩ => by
  unfold varM at hm
  split at hm
  · rename_i x hx
    obtain ⟨v, h1, h2⟩ := N.slot hx
    exact ⟨v, h1, hm v H N (.refl _ _ _ _) h2⟩
  · exact hm.elim
theorem y_cst {v : V} {x : Val} (h : PE X e (tC v)) (r : ∀ A H, rep C A H v x) : PE X e (SE C E (cstM x)) := PE.imp h fun σ H Q ⟨B, A, ρ, N, hm⟩ => hm v H N (.refl _ _ _ _) (r A H)
theorem y_int {i : Int} {j : Nat} : PE X (.Constant (.int i) j pos) (SE C E (cstM (.int i))) := y_cst pe_int fun _ _ => rep_int.mpr rfl
theorem y_str {s : Str} {j : Nat} : PE X (.Constant (.str s) j pos) (SE C E (cstM (.str s))) := y_cst pe_str fun _ _ => rep_str.mpr rfl
theorem y_bl {s : Bool} {j : Nat} : PE X (.Constant (.bool s) j pos) (SE C E (cstM (.bl s))) := y_cst pe_bl fun _ _ => rep_bl.mpr rfl
theorem y_non {j : Nat} : PE X (.Constant .none j pos) (SE C E (cstM .non)) := y_cst pe_non fun _ _ => rep_non.mpr rfl
/-! ### two in a row -/
/-- what an operator makes of values -/
def OpV (C : Cn) (r : R2) (f : Val → Val → Option Val) : Prop := ∀ (A : Rg) (H : Hp) (u v : V) (x y z : Val), Fq A H → rep C A H u x → rep C A H v y → f x y = some z → ∀ Q : VK, (∀ w H', Same H H' → rep C A H' w z → Q w H') → r u v H Q
def UnV (C : Cn) (r : V → Hp → VK → Prop) (f : Val → Option Val) : Prop := ∀ (A : Rg) (H : Hp) (u : V) (x z : Val), Fq A H → rep C A H u x → f x = some z → ∀ Q : VK, (∀ w H', Same H H' → rep C A H' w z → Q w H') → r u H Q
theorem OpV.or {r r' : R2} {f g : Val → Val → Option Val} (h : OpV C r f) (h' : OpV C r' g) : OpV C (fun x y H Q => r x y H Q ∨ r' x y H Q) (fun x y => match f x y with | some z => some z | none => g x y) := fun A H u v x y z fA hu hv e Q q => by
  dsimp only at e
  split at e
  · cases e; exact .inl (h A H u v x y _ fA hu hv (by assumption) Q q)
  · exact .inr (h' A H u v x y _ fA hu hv e Q q)
theorem bin_rd {r : R2} {f : Val → Val → Option Val} (hv : OpV C r f) : ∀ σ H Q, SE C E (binM f ma mb) σ H Q → tOp r (SE C E ma) (SE C E mb) σ H Q := fun σ H Q ⟨B, A, ρ, N, hm⟩ =>
  ⟨B, A, ρ, N, Rs.wp_mono (Rs.wp_bind hm) (fun x hx u H1 N1 g1 r1 => ⟨B, A, x.2, N1, Rs.wp_mono (Rs.wp_bind hx) (fun y hy v H2 N2 g2 r2 => by
    obtain ⟨z, e, hz⟩ := Rs.wp_opt (Rs.wp_bind hy)
    exact hv A H2 u v x.1 y.1 z N2.fr (rep.gr g2.g r1) r2 e Q fun w H3 s r3 => hz w H3 (N2.same s) ((g1.trans g2).trans (.same s)) r3) (EXe.tr g1)⟩) fun _ _ _ _ h => h⟩
theorem y_op {op : Operator} {r : R2} {f : Val → Val → Option Val} (ho : OpR X (binaryOp op) r) (hv : OpV C r f) (ha : PE X a (SE C E ma)) (hb : PE X b (SE C E mb)) : PE X (.BinOp a op b pos) (SE C E (binM f ma mb)) := PE.imp (pe_op ho ha hb) (bin_rd hv)
theorem y_cmp {op : CmpOp} {r : R2} {f : Val → Val → Option Val} (ho : OpR X (compareOp op) r) (hv : OpV C r f) (ha : PE X a (SE C E ma)) (hb : PE X b (SE C E mb)) (hm : behindInMarks op b = false) : PE X (.Compare a [op] [b] pos) (SE C E (binM f ma mb)) := PE.imp (pe_cmpR ho ha hb hm) (bin_rd hv)
theorem y_ix {r : R2} {f : Val → Val → Option Val} (ho : IxR X r) (hv : OpV C r f) (ha : PE X a (SE C E ma)) (hb : PE X b (SE C E mb)) (hs : PlainIx b) : PE X (.Subscript a b pos) (SE C E (binM f ma mb)) := PE.imp (pe_ix ho ha hb hs) (bin_rd hv)
theorem y_un {op : UnaryOp} {r : V → Hp → VK → Prop} {f : Val → Option Val} (ho : UnR X (unaryOp op) r) (hv : UnV C r f) (ha : PE X a (SE C E ma)) : PE X (.UnaryOp op a pos) (SE C E (unM f ma)) := PE.imp (pe_un ho ha) fun σ H Q ⟨B, A, ρ, N, hm⟩ =>
  ⟨B, A, ρ, N, Rs.wp_mono (Rs.wp_bind hm) (fun x hx u H1 N1 g1 r1 => by
    obtain ⟨z, e, hz⟩ := Rs.wp_opt (Rs.wp_bind hx)
    exact hv A H1 u x.1 z N1.fr r1 e Q fun w H3 s r3 => hz w H3 (N1.same s) (g1.trans (.same s)) r3) fun _ _ _ _ h => h⟩
/-! ### tests -/
theorem blV_rep {A : Rg} {H : Hp} {v : V} {x : Val} {k : Bool} (e : blV x = some k) (r : rep C A H v x) : v = .bl k := by
  unfold blV at e
  split at e
  · cases e; exact rep_bl.mp r
  · cases e
/-- a comparison as a test -/
theorem yt_cmp {op : CmpOp} {r : R2} {f : Val → Val → Option Val} (ho : OpR X (compareOp op) r) (hv : OpV C r f) (ha : PE X a (SE C E ma)) (hb : PE X b (SE C E mb)) (hm : behindInMarks op b = false) : PT X (.Compare a [op] [b] pos) (SB C E (tstM blV (binM f ma mb))) := PT.imp (pt_cmpR ho ha hb hm) fun σ H Q ⟨B, A, ρ, N, hm⟩ =>
  bin_rd hv σ H _ ⟨B, A, ρ, N, Rs.wp_mono (Rs.wp_bind hm) (fun x hx v H' N' g' r' => by
    obtain ⟨k, e, hk⟩ := Rs.wp_opt (Rs.wp_bind hx)
    exact ⟨k, blV_rep e r', hk H' N' g'⟩) fun _ _ _ _ h => h⟩
theorem yt_not {ta : MB} (ha : PT X a (SB C E ta)) : PT X (.UnaryOp .Not a pos) (SB C E (notB ta)) := PT.imp (pt_not ha) fun σ H Q ⟨B, A, ρ, N, hm⟩ =>
  ⟨B, A, ρ, N, Rs.wp_mono (Rs.wp_bind hm) (fun x hx H' N' g' => hx H' N' g') fun _ _ _ _ h => h⟩
theorem yw_and1 {ta : MB} (ha : PT X a (SB C E ta)) : PW X (.BoolOp .And [a] pos) (SB C E ta) := pw_and1 ha
theorem yw_or1 {ta : MB} (ha : PT X a (SB C E ta)) : PW X (.BoolOp .Or [a] pos) (SB C E ta) := pw_or1 ha
theorem yw_and {ta tb : MB} {rest : List Expr} (ha : PT X a (SB C E ta)) (hb : PW X (.BoolOp .And (b :: rest) pos) (SB C E tb)) : PW X (.BoolOp .And (a :: b :: rest) pos) (SB C E (andB ta tb)) := PW.imp (pw_and ha hb) fun σ H Q ⟨B, A, ρ, N, hm⟩ =>
  ⟨B, A, ρ, N, Rs.wp_mono (Rs.wp_bind hm) (fun x hx H' N' g' => by
    by_cases h : x.1 = true
    · rw [if_pos h] at hx ⊢
      exact ⟨B, A, x.2, N', Rs.wp_mono hx (fun y hy H2 N2 g2 => hy H2 N2 (g'.trans g2)) (EXe.tr g')⟩
    · rw [if_neg h] at hx ⊢
      exact hx H' N' g') fun _ _ _ _ h => h⟩
theorem yw_or {ta tb : MB} {rest : List Expr} (ha : PT X a (SB C E ta)) (hb : PW X (.BoolOp .Or (b :: rest) pos) (SB C E tb)) : PW X (.BoolOp .Or (a :: b :: rest) pos) (SB C E (orB ta tb)) := PW.imp (pw_or ha hb) fun σ H Q ⟨B, A, ρ, N, hm⟩ =>
  ⟨B, A, ρ, N, Rs.wp_mono (Rs.wp_bind hm) (fun x hx H' N' g' => by
    by_cases h : x.1 = true
    · rw [if_pos h] at hx ⊢
      exact hx H' N' g'
    · rw [if_neg h] at hx ⊢
      exact ⟨B, A, x.2, N', Rs.wp_mono hx (fun y hy H2 N2 g2 => hy H2 N2 (g'.trans g2)) (EXe.tr g')⟩) fun _ _ _ _ h => h⟩
/-- and, or as values (of truths) -/
theorem y_one {op : BoolOp} (h : PE X a (SE C E ma)) : PE X (.BoolOp op [a] pos) (SE C E ma) := pe_one h
theorem y_and {rest : List Expr} (ha : PE X a (SE C E ma)) (hb : PE X (.BoolOp .And (b :: rest) pos) (SE C E mb)) : PE X (.BoolOp .And (a :: b :: rest) pos) (SE C E (andM ma mb)) := PE.imp (pe_and ha hb) fun σ H Q ⟨B, A, ρ, N, hm⟩ =>
  ⟨B, A, ρ, N, Rs.wp_mono (Rs.wp_bind hm) (fun x hx v H' N' g' r' => by
    obtain ⟨k, e, hk⟩ := Rs.wp_opt (Rs.wp_bind hx)
    refine ⟨k, blV_rep e r', ?_⟩
    by_cases h : k = true
    · rw [if_pos h] at hk ⊢
      exact ⟨B, A, x.2, N', Rs.wp_mono hk (fun y hy v2 H2 N2 g2 r2 => hy v2 H2 N2 (g'.trans g2) r2) (EXe.tr g')⟩
    · rw [if_neg h] at hk ⊢
      exact hk _ H' N' g' (rep_bl.mpr rfl)) fun _ _ _ _ h => h⟩
theorem y_or {rest : List Expr} (ha : PE X a (SE C E ma)) (hb : PE X (.BoolOp .Or (b :: rest) pos) (SE C E mb)) : PE X (.BoolOp .Or (a :: b :: rest) pos) (SE C E (orM ma mb)) := PE.imp (pe_or ha hb) fun σ H Q ⟨B, A, ρ, N, hm⟩ =>
  ⟨B, A, ρ, N, Rs.wp_mono (Rs.wp_bind hm) (fun x hx v H' N' g' r' => by
    obtain ⟨k, e, hk⟩ := Rs.wp_opt (Rs.wp_bind hx)
    refine ⟨k, blV_rep e r', ?_⟩
    by_cases h : k = true
    · rw [if_pos h] at hk ⊢
      exact hk _ H' N' g' (rep_bl.mpr rfl)
    · rw [if_neg h] at hk ⊢
      exact ⟨B, A, x.2, N', Rs.wp_mono hk (fun y hy v2 H2 N2 g2 r2 => hy v2 H2 N2 (g'.trans g2) r2) (EXe.tr g')⟩) fun _ _ _ _ h => h⟩
/-- not, as a value -/
def notV : Val → Option Val | .bl b => some (.bl (!b)) | _ => none
theorem y_not (ha : PE X a (SE C E ma)) : PE X (.UnaryOp .Not a pos) (SE C E (unM notV ma)) := PE.imp (pe_not ha) fun σ H Q ⟨B, A, ρ, N, hm⟩ =>
  ⟨B, A, ρ, N, Rs.wp_mono (Rs.wp_bind hm) (fun x hx v H' N' g' r' => by
    obtain ⟨z, e, hz⟩ := Rs.wp_opt (Rs.wp_bind hx)
    unfold notV at e
    split at e
    · rename_i b' hb'
      cases e
      rw [hb'] at r'
      exact ⟨b', rep_bl.mp r', hz _ H' N' g' (rep_bl.mpr rfl)⟩
    · cases e) fun _ _ _ _ h => h⟩
theorem y_if {c : Expr} {tc : MB} (hc : PT X c (SB C E tc)) (ha : PE X a (SE C E ma)) (hb : PE X b (SE C E mb)) : PE X (.IfExp c a b pos) (SE C E (ifM tc ma mb)) := PE.imp (pe_ifExp hc ha hb) fun σ H Q ⟨B, A, ρ, N, hm⟩ =>
  ⟨B, A, ρ, N, Rs.wp_mono (Rs.wp_bind hm) (fun x hx H' N' g' => by
    by_cases h : x.1 = true
    · rw [if_pos h] at hx ⊢
      exact ⟨B, A, x.2, N', Rs.wp_mono hx (fun y hy v2 H2 N2 g2 r2 => hy v2 H2 N2 (g'.trans g2) r2) (EXe.tr g')⟩
    · rw [if_neg h] at hx ⊢
      exact ⟨B, A, x.2, N', Rs.wp_mono hx (fun y hy v2 H2 N2 g2 r2 => hy v2 H2 N2 (g'.trans g2) r2) (EXe.tr g')⟩) fun _ _ _ _ h => h⟩
/-- any value's truth -/
def truV : Val → Option Bool
  | .non => some false | .bl b => some b | .int i => some (i != 0)
  | .str s => if s.length ≤ sizeLine then some ((s.length : Int) != 0) else none
  | .lst xs => some (!xs.isEmpty) | .tup xs => some (!xs.isEmpty) | .dic ks _ => some (!ks.isEmpty)
  | _ => none
theorem emp_len {α β : Type} {xs : List α} {ys : List β} (h : xs.length = ys.length) : xs.isEmpty = ys.isEmpty := by
  cases xs <;> cases ys <;> simp at h ⊢
theorem truV_ok {A : Rg} {H : Hp} {v : V} {x : Val} {k : Bool} (e : truV x = some k) (r : rep C A H v x) : TruV C.K v H k := by
  cases x with
  | non => cases e; rw [rep_non.mp r]; exact rfl
  | bl b => cases e; rw [rep_bl.mp r]; exact rfl
  | int i => cases e; rw [rep_int.mp r]; exact rfl
  | str s =>
    rw [rep_str.mp r]
    simp only [truV] at e
    split at e
    · cases e; exact ⟨by assumption, rfl⟩
    · cases e
  | lst xs =>
    cases e
    obtain ⟨a, vs, rfl, n, h, rs⟩ := rep_lst.mp r
    exact .inl ⟨vs, SqL.of h, by rw [emp_len rs.len]⟩
  | tup xs =>
    cases e
    obtain ⟨a, vs, rfl, h, rs⟩ := rep_tup.mp r
    exact .inr (.inl ⟨vs, h.sq, by rw [emp_len rs.len]⟩)
  | dic ks xs =>
    cases e
    obtain ⟨a, vs, rfl, n, h, l, rs⟩ := rep_dic.mp r
    refine .inr (.inr ⟨_, h, ?_⟩)
    rw [emp_len (show (ks.zip vs).length = ks.length by rw [List.length_zip, rs.len, l, Nat.min_self])]
  | _ => cases e
theorem yt_val (hK : X.K = C.K) (ha : PE X a (SE C E ma)) (he : ∀ whole, isTrue a X.env whole = (do let v ← whole; standAt a.pos; holding [v] (truthy v))) : PT X a (SB C E (tstM truV ma)) := PT.imp (pt_truth ha he) fun σ H Q ⟨B, A, ρ, N, hm⟩ =>
  ⟨B, A, ρ, N, Rs.wp_mono (Rs.wp_bind hm) (fun x hx v H' N' g' r' => by
    obtain ⟨k, e, hk⟩ := Rs.wp_opt (Rs.wp_bind hx)
    rw [hK]
    exact ⟨k, truV_ok e r', hk H' N' g'⟩) fun _ _ _ _ h => h⟩
/-! ### lists of expressions -/
theorem ya_nil : PA X [] (SA C E nilA) := PA.imp pa_nil fun σ H Q ⟨B, A, ρ, N, hm⟩ => hm [] H N (.refl _ _ _ _) reps_nil
theorem ya_cons (ha : PE X e (SE C E ma)) (hr : PA X es (SA C E ml)) (hs : starEach (e :: es) X.env = (false, eval e X.env) :: starEach es X.env := by rfl) : PA X (e :: es) (SA C E (consA ma ml)) := PA.imp (pa_cons ha hr hs) fun σ H Q ⟨B, A, ρ, N, hm⟩ =>
  ⟨B, A, ρ, N, Rs.wp_mono (Rs.wp_bind hm) (fun x hx v H1 N1 g1 r1 => ⟨B, A, x.2, N1, Rs.wp_mono (Rs.wp_bind hx) (fun y hy vs H2 N2 g2 r2 => hy (v :: vs) H2 N2 (g1.trans g2) (reps_cons (rep.gr g2.g r1) r2)) (EXe.tr g1)⟩) fun _ _ _ _ h => h⟩
theorem yk_nil : PK X [] (SA C E nilA) := PK.imp pk_nil fun σ H Q ⟨B, A, ρ, N, hm⟩ => hm [] H N (.refl _ _ _ _) reps_nil
theorem yk_cons {kws : List Keyword} {nm : Option Str} {kpos : Pos} (ha : PE X e (SE C E ma)) (hr : PK X kws (SA C E ml)) : PK X (⟨nm, e, kpos⟩ :: kws) (SA C E (consA ma ml)) := PK.imp (pk_cons ha hr) fun σ H Q ⟨B, A, ρ, N, hm⟩ =>
  ⟨B, A, ρ, N, Rs.wp_mono (Rs.wp_bind hm) (fun x hx v H1 N1 g1 r1 => ⟨B, A, x.2, N1, Rs.wp_mono (Rs.wp_bind hx) (fun y hy vs H2 N2 g2 r2 => hy (v :: vs) H2 N2 (g1.trans g2) (reps_cons (rep.gr g2.g r1) r2)) (EXe.tr g1)⟩) fun _ _ _ _ h => h⟩
theorem ite_bad {α : Type} {c : Prop} [Decidable c] {m : Rs α} {Q : α → Prop} {E : XW} (h : (if c then m else .bad).wp Q E) : c ∧ m.wp Q E := by
  split at h
  · exact ⟨by assumption, h⟩
  · exact h.elim
theorem gr_new {A : Rg} {H : Hp} {p : Addr} {o : HO} (h : H p = none) : Gr A H A (upd H p o) := .same (same_new h)
theorem y_tup {x1} (h : PA X es (SA C E ml)) : PE X (.Tuple es x1 pos) (SE C E (tupM ml)) := PE.imp (pe_tup h) fun σ H Q ⟨B, A, ρ, N, hm⟩ =>
  ⟨B, A, ρ, N, Rs.wp_mono (Rs.wp_bind hm) (fun x hx vs H1 N1 g1 r1 => by
    obtain ⟨hz, hx⟩ := ite_bad hx
    exact ⟨by rw [r1.len]; exact hz, fun p hp => hx _ _ (N1.new hp) (g1.trans (.same (same_new hp))) (rep_tup.mpr ⟨p, vs, rfl, .inl ⟨N1.fr p (.of hp), upd_same⟩, reps.gr (gr_new hp) r1⟩)⟩) fun _ _ _ _ h => h⟩
theorem y_lst (h : PA X es (SA C E ml)) : PE X (.List es pos) (SE C E (lstM ml)) := PE.imp (pe_lst h) fun σ H Q ⟨B, A, ρ, N, hm⟩ =>
  ⟨B, A, ρ, N, Rs.wp_mono (Rs.wp_bind hm) (fun x hx vs H1 N1 g1 r1 => by
    obtain ⟨hz, hx⟩ := ite_bad hx
    exact ⟨by rw [r1.len]; exact hz, fun p hp => hx _ _ (N1.new hp) (g1.trans (.same (same_new hp))) (rep_lst.mpr ⟨p, vs, rfl, N1.fr p (.of hp), upd_same, reps.gr (gr_new hp) r1⟩)⟩) fun _ _ _ _ h => h⟩
/-! ### built-in calls -/
def CbV (C : Cn) (r : List V → Hp → VK → Prop) (f : List Val → Option Val) : Prop := ∀ (A : Rg) (H : Hp) (us : List V) (xs : List Val) (z : Val), Fq A H → reps C A H us xs → f xs = some z → ∀ Q : VK, (∀ w H', Same H H' → rep C A H' w z → Q w H') → r us H Q
theorem cb_rd {r : List V → Hp → VK → Prop} {f : List Val → Option Val} (hv : CbV C r f) : ∀ σ H Q, SE C E (cbM f ml) σ H Q → tCB r (SA C E ml) σ H Q := fun σ H Q ⟨B, A, ρ, N, hm⟩ =>
  ⟨B, A, ρ, N, Rs.wp_mono (Rs.wp_bind hm) (fun x hx us H1 N1 g1 r1 => by
    obtain ⟨z, e, hz⟩ := Rs.wp_opt (Rs.wp_bind hx)
    exact hv A H1 us x.1 z N1.fr r1 e Q fun w H3 s r3 => hz w H3 (N1.same s) (g1.trans (.same s)) r3) fun _ _ _ _ h => h⟩
end
end Y

set_option Elab.async false
set_option linter.all false
set_option maxRecDepth 100000
set_option maxHeartbeats 4000000
set_option autoImplicit false
/-! Y3: slots stored, own objects, statements, loops. -/
namespace Y
open PySem L2 Z
section
variable {C : Cn} {B : Bs} {A A' : Rg} {H H' : Hp} {σ : L2.St} {ρ : En}
/-- the slot may be stored: it is no pinned own one -/
def freeS (ρ : En) (i : Nat) : Bool := match ρ[i]? with | some (some s) => !s.pin | some none => true | none => false
theorem getset {α : Type} {l : List α} {i j : Nat} {x y : α} (h : (l.set i x)[j]? = some y) : (j = i ∧ y = x ∧ i < l.length) ∨ (j ≠ i ∧ l[j]? = some y) := by
  by_cases e : j = i
  · subst e
    by_cases hl : j < l.length
    · rw [List.getElem?_set_self hl] at h; cases h; exact .inl ⟨rfl, rfl, hl⟩
    · rw [List.getElem?_eq_none (by simpa using hl)] at h; cases h
  · rw [List.getElem?_set_ne (Ne.symm e)] at h
    exact .inr ⟨e, h⟩
theorem slr.gr {v : V} {s : SV} (g : Gr A H A' H) (n : s.own = true → ∀ l, v = .ref l → ¬ A' l) (h : slr C A H v s) : slr C A' H v s := by
  cases s with
  | fz x => exact rep.gr g h
  | ow p xs => obtain ⟨l, vs, e1, _, k, r⟩ := h; exact ⟨l, vs, e1, n rfl l e1, k, reps.gr g r⟩
  | od p ks xs => obtain ⟨l, vs, e1, _, k, z, r⟩ := h; exact ⟨l, vs, e1, n rfl l e1, k, z, reps.gr g r⟩
  | oi p c ns xs => obtain ⟨l, dx, vs, e1, _, n2, k, k2, z, r⟩ := h; exact ⟨l, dx, vs, e1, n rfl l e1, (g dx _ nt n2 k2).1, k, k2, z, reps.gr g r⟩
/-- a slot gets a value -/
theorem Now.set {i : Nat} {v : V} {x : Val} (N : Now C B A H σ ρ) (hf : freeS ρ i = true) (r : rep C A H v x) : Now C B A H (σ.set i (some v)) (ρ.set i (some (.fz x))) := by
  have hi : i < σ.length := by
    rw [N.env.len]
    unfold freeS at hf
    by_cases h : i < ρ.length
    · exact h
    · rw [List.getElem?_eq_none (by omega)] at hf; cases hf
  have npin : ∀ l, (i, l) ∉ B.pins := fun l hp => by
    obtain ⟨_, s, h2, _, h4⟩ := N.pn i l hp
    unfold freeS at hf
    rw [h2] at hf
    simp [h4] at hf
  refine ⟨⟨by simp [N.env.len], fun j s h => ?_, fun j k s t u jk hs ht os ot hu => ?_⟩, N.fr, N.f0, N.nz, N.le, N.kp, N.tb, N.fe, fun j s l h o e => ?_, fun j l h => ?_⟩
  · rcases getset h with ⟨e, e2, _⟩ | ⟨ne, h⟩
    · subst e; cases e2
      exact ⟨v, List.getElem?_set_self hi, r⟩
    · obtain ⟨u, h1, h2⟩ := N.env.sl j s h
      exact ⟨u, by rw [List.getElem?_set_ne (Ne.symm ne)]; exact h1, h2⟩
  · rcases getset hs with ⟨_, e2, _⟩ | ⟨n1, hs⟩
    · cases e2; cases os
    rcases getset ht with ⟨_, e2, _⟩ | ⟨n2, ht⟩
    · cases e2; cases ot
    rw [List.getElem?_set_ne (Ne.symm n1)] at hu
    rw [List.getElem?_set_ne (Ne.symm n2)]
    exact N.env.ne j k s t u jk hs ht os ot hu
  · rcases getset h with ⟨_, e2, _⟩ | ⟨n1, h⟩
    · cases e2; cases o
    rw [List.getElem?_set_ne (Ne.symm n1)] at e
    exact N.ow j s l h o e
  · have ne : j ≠ i := fun e => npin l (by rw [← e]; exact h)
    rw [List.getElem?_set_ne (Ne.symm ne), List.getElem?_set_ne (Ne.symm ne)]
    exact N.pn j l h
/-- a new object, out of the region from now on -/
theorem Now.cut {p : Addr} {o : HO} (N : Now C B A H σ ρ) (hp : H p = none) (hno : NT o) : Now C B (A.less p) (upd H p o) σ ρ := by
  have g : Gr A H (A.less p) (upd H p o) := fun a u _ n h => ⟨⟨n, ne_of_none h hp⟩, same_new hp a u h⟩
  have hA : A p := N.fr p (.of hp)
  have N' := N.new (o := o) hp
  refine ⟨⟨N.env.len, fun i s h => ?_, N.env.ne⟩, fun q h => ?_, N.f0, N.nz, fun a h => N.le a h.1, N'.kp, N'.tb, N'.fe, N.ow, N.pn⟩
  · obtain ⟨v, h1, h2⟩ := N.env.sl i s h
    refine ⟨v, h1, ?_⟩
    cases s with
    | fz x => exact rep.gr g h2
    | ow p xs => obtain ⟨l, vs, e1, n, k, r⟩ := h2; exact ⟨l, vs, e1, fun z => n z.1, same_new hp _ _ k, reps.gr g r⟩
    | od p ks xs => obtain ⟨l, vs, e1, n, k, z, r⟩ := h2; exact ⟨l, vs, e1, fun z => n z.1, same_new hp _ _ k, z, reps.gr g r⟩
    | oi p c ns xs => obtain ⟨l, dx, vs, e1, n, n2, k, k2, z, r⟩ := h2; exact ⟨l, dx, vs, e1, fun z => n z.1, (g dx _ nt n2 k2).1, same_new hp _ _ k, same_new hp _ _ k2, z, reps.gr g r⟩
  · have e : q ≠ p := fun z => by rw [z] at h; exact h.no upd_same hno
    exact ⟨N.fr q (fun u z => h u (by rw [upd_ne e]; exact z)), e⟩
/-- l joins the region -/
def more (A : Rg) (l : Addr) : Rg := fun a => A a ∨ a = l
theorem gr_more {l : Addr} : Gr A H (more A l) H := fun a o _ n h => ⟨.inl n, h⟩
theorem gr_less {l : Addr} : Gr (A.less l) H A H := fun a o _ n h => ⟨n.1, h⟩
/-- a slot gets a new own object -/
theorem Now.own {i : Nat} {l : Addr} {s : SV} (N : Now C B A H σ ρ) (hf : freeS ρ i = true) (hs : s.own = true) (hp : s.pin = false) (r : slr C A H (.ref l) s) (h0 : Fz B.H0 l)
    (ne : ∀ (j : Nat) (t : SV), ρ[j]? = some (some t) → t.own = true → σ[j]? ≠ some (some (.ref l))) : Now C B A H (σ.set i (some (.ref l))) (ρ.set i (some s)) := by
  have hi : i < σ.length := by
    rw [N.env.len]
    unfold freeS at hf
    by_cases h : i < ρ.length
    · exact h
    · rw [List.getElem?_eq_none (by omega)] at hf; cases hf
  have npin : ∀ l, (i, l) ∉ B.pins := fun l hp => by
    obtain ⟨_, s, h2, _, h4⟩ := N.pn i l hp
    unfold freeS at hf
    rw [h2] at hf
    simp [h4] at hf
  refine ⟨⟨by simp [N.env.len], fun j t h => ?_, fun j k t t' u jk hs ht os ot hu => ?_⟩, N.fr, N.f0, N.nz, N.le, N.kp, N.tb, N.fe, fun j t m h o e => ?_, fun j m h => ?_⟩
  · rcases getset h with ⟨e, e2, _⟩ | ⟨n, h⟩
    · subst e; cases e2
      exact ⟨_, List.getElem?_set_self hi, r⟩
    · obtain ⟨u, h1, h2⟩ := N.env.sl j t h
      exact ⟨u, by rw [List.getElem?_set_ne (Ne.symm n)]; exact h1, h2⟩
  · rcases getset hs with ⟨e1, e2, _⟩ | ⟨n1, hs2⟩
    · subst e1; cases e2
      rw [List.getElem?_set_self hi] at hu
      cases hu
      rcases getset ht with ⟨e1, _, _⟩ | ⟨n2, ht2⟩
      · exact absurd e1.symm jk
      rw [List.getElem?_set_ne (Ne.symm n2)]
      exact ne k t' ht2 ot
    · rw [List.getElem?_set_ne (Ne.symm n1)] at hu
      rcases getset ht with ⟨e1, e2, _⟩ | ⟨n2, ht2⟩
      · rw [e1, List.getElem?_set_self hi]
        intro z
        cases z
        exact ne j t hs2 os hu
      rw [List.getElem?_set_ne (Ne.symm n2)]
      exact N.env.ne j k t t' u jk hs2 ht2 os ot hu
  · rcases getset h with ⟨e1, e2, _⟩ | ⟨n1, h⟩
    · subst e1; cases e2
      rw [List.getElem?_set_self hi] at e
      cases e
      exact .inl ⟨h0, hp⟩
    rw [List.getElem?_set_ne (Ne.symm n1)] at e
    exact N.ow j t m h o e
  · have ne : j ≠ i := fun e => npin m (by rw [← e]; exact h)
    rw [List.getElem?_set_ne (Ne.symm ne), List.getElem?_set_ne (Ne.symm ne)]
    exact N.pn j m h
theorem slr.kind {l : Addr} {s : SV} (h : slr C A H (.ref l) s) (o : s.own = true) : ∃ o, H l = some o ∧ NT o ∧ (∀ φ, o ≠ .ext φ) ∧ ∀ x, o ≠ .own x := by
  cases s with
  | fz x => cases o
  | ow p xs => obtain ⟨m, vs, e, _, k, _⟩ := h; cases e; exact ⟨_, k, nt, (fun _ z => nomatch z), (fun _ z => nomatch z)⟩
  | od p ks xs => obtain ⟨m, vs, e, _, k, _⟩ := h; cases e; exact ⟨_, k, nt, (fun _ z => nomatch z), (fun _ z => nomatch z)⟩
  | oi p c ns xs => obtain ⟨m, dx, vs, e, _, _, k, _⟩ := h; cases e; exact ⟨_, k, nt, (fun _ z => nomatch z), (fun _ z => nomatch z)⟩
/-- an own object changes -/
theorem Now.put {i : Nat} {l : Addr} {s s' : SV} {o0 o : HO} (N : Now C B A H σ ρ) (hs : ρ[i]? = some (some s)) (os : s.own = true) (hσ : σ[i]? = some (some (.ref l))) (h0 : H l = some o0) (no : ∀ x, o0 ≠ .own x) (hno : NT o) (os' : s'.own = true) (ps' : s'.pin = s.pin)
    (r : slr C A (upd H l o) (.ref l) s') : Now C B A (upd H l o) σ (ρ.set i (some s')) := by
  have hi : i < ρ.length := (List.getElem?_eq_some_iff.mp hs).1
  obtain ⟨v, hv, hr⟩ := N.env.sl i s hs
  rw [hσ] at hv; cases hv
  have nA : ¬ A l := by
    obtain ⟨m, e, n, _⟩ := hr.at os
    cases e; exact n
  have g : Gr A H A (upd H l o) := fun a u _ n h => ⟨n, by rw [upd_ne (fun z => nA (by rw [← z]; exact n))]; exact h⟩
  obtain ⟨ok, hk1, hk2, hk3, _⟩ := hr.kind os
  refine ⟨⟨by simp [N.env.len], fun j t h => ?_, fun j k t t' u jk hs2 ht2 os2 ot2 hu => ?_⟩, fun q h => ?_, N.f0, N.nz, N.le, fun a u t z h => ?_, tabs_put N.tb hk1 hk2 hk3, fun a h => ?_, fun j t m h o e => ?_, fun j m h => ?_⟩
  · rcases getset h with ⟨e, e2, _⟩ | ⟨n, h⟩
    · subst e; cases e2
      exact ⟨_, hσ, r⟩
    · obtain ⟨u, h1, h2⟩ := N.env.sl j t h
      refine ⟨u, h1, ?_⟩
      have lne : t.own = true → ∀ m, u = .ref m → m ≠ l := fun ot m e z => by
        subst e; subst z
        exact N.env.ne i j s t _ (Ne.symm n) hs h os ot hσ h1
      cases t with
      | fz x => exact rep.gr g h2
      | ow p xs => obtain ⟨m, vs, e1, n1, k, r⟩ := h2; exact ⟨m, vs, e1, n1, by rw [upd_ne (lne rfl m e1)]; exact k, reps.gr g r⟩
      | od p ks xs => obtain ⟨m, vs, e1, n1, k, z, r⟩ := h2; exact ⟨m, vs, e1, n1, by rw [upd_ne (lne rfl m e1)]; exact k, z, reps.gr g r⟩
      | oi p c ns xs =>
        obtain ⟨m, dx, vs, e1, n1, n2, k, k2, z, r⟩ := h2
        exact ⟨m, dx, vs, e1, n1, n2, by rw [upd_ne (lne rfl m e1)]; exact k, by rw [upd_ne (fun z => by rw [z, h0] at k2; exact no _ (Option.some.inj k2))]; exact k2, z, reps.gr g r⟩
  · have back : ∀ (j : Nat) (t : SV), (ρ.set i (some s'))[j]? = some (some t) → t.own = true → ∃ t', ρ[j]? = some (some t') ∧ t'.own = true := fun j t h o => by
      rcases getset h with ⟨e, e2, _⟩ | ⟨n, h⟩
      · subst e; exact ⟨s, hs, os⟩
      · exact ⟨t, h, o⟩
    obtain ⟨t1, h1, o1⟩ := back j t hs2 os2
    obtain ⟨t2, h2, o2⟩ := back k t' ht2 ot2
    exact N.env.ne j k t1 t2 u jk h1 h2 o1 o2 hu
  · have e : q ≠ l := fun z => by rw [z] at h; exact h.no upd_same hno
    exact N.fr q (fun u z => h u (by rw [upd_ne e]; exact z))
  · have ne : a ≠ l := fun e => by
      subst e
      rcases N.ow i s a hs os hσ with ⟨w, _⟩ | ⟨w, _⟩
      · exact w.no h t
      · exact z w
    rw [upd_ne ne]
    exact N.kp a u t z h
  · have e : a ≠ l := fun z => by rw [z] at h; exact h.no upd_same hno
    exact N.fe a (fun u z => h u (by rw [upd_ne e]; exact z))
  · rcases getset h with ⟨e1, e2, _⟩ | ⟨n, h⟩
    · subst e1; cases e2
      rw [ps']
      exact N.ow j s m hs os e
    · exact N.ow j t m h o e
  · obtain ⟨h1, t, h2, h3, h4⟩ := N.pn j m h
    refine ⟨h1, ?_⟩
    by_cases e : j = i
    · subst e
      rw [hs] at h2; cases h2
      exact ⟨s', List.getElem?_set_self hi, os', by rw [ps']; exact h4⟩
    · exact ⟨t, by rw [List.getElem?_set_ne (Ne.symm e)]; exact h2, h3, h4⟩
/-- an own list is given away: it joins the region -/
theorem Now.melt {i : Nat} {l : Addr} {xs : List Val} {vs : List V} (N : Now C B A H σ ρ) (hs : ρ[i]? = some (some (.ow false xs))) (hσ : σ[i]? = some (some (.ref l))) (hl : H l = some (.lst vs)) (nA : ¬ A l) (r : reps C A H vs xs) : Now C B (more A l) H σ (ρ.set i (some (.fz (.lst xs)))) := by
  have h0 : Fz B.H0 l := by
    rcases N.ow i _ l hs rfl hσ with ⟨h, _⟩ | ⟨_, h⟩
    · exact h
    · cases h
  have hi : i < ρ.length := (List.getElem?_eq_some_iff.mp hs).1
  refine ⟨⟨by simp [N.env.len], fun j t h => ?_, fun j k t t' u jk hs2 ht2 os2 ot2 hu => ?_⟩, fun q h => .inl (N.fr q h), N.f0, N.nz, fun a h => ?_, N.kp, N.tb, N.fe, fun j t m h o e => ?_, fun j m h => ?_⟩
  · rcases getset h with ⟨e, e2, _⟩ | ⟨n, h⟩
    · subst e; cases e2
      exact ⟨_, hσ, rep_lst.mpr ⟨l, vs, rfl, .inr rfl, hl, reps.gr gr_more r⟩⟩
    · obtain ⟨u, h1, h2⟩ := N.env.sl j t h
      refine ⟨u, h1, slr.gr gr_more (fun ot m e z => ?_) h2⟩
      subst e
      rcases z with z | z
      · obtain ⟨m', e', n', _⟩ := h2.at ot
        cases e'; exact n' z
      · subst z
        exact N.env.ne i j _ t _ (Ne.symm n) hs h rfl ot hσ h1
  · rcases getset hs2 with ⟨_, e2, _⟩ | ⟨n1, hs2⟩
    · cases e2; cases os2
    rcases getset ht2 with ⟨_, e2, _⟩ | ⟨n2, ht2⟩
    · cases e2; cases ot2
    exact N.env.ne j k t t' u jk hs2 ht2 os2 ot2 hu
  · rcases h with h | h
    · exact N.le a h
    · rw [h]; exact N.f0 l h0
  · rcases getset h with ⟨_, e2, _⟩ | ⟨n1, h⟩
    · cases e2; cases o
    exact N.ow j t m h o e
  · obtain ⟨h1, t, h2, h3, h4⟩ := N.pn j m h
    have ne : j ≠ i := fun e => by
      subst e
      rw [hs] at h2; cases h2; cases h4
    exact ⟨h1, t, by rw [List.getElem?_set_ne (Ne.symm ne)]; exact h2, h3, h4⟩
end
/-! ### statements -/
abbrev MS := En → Rs Out
def nextS : MS := fun ρ => .ok (.nx ρ)
def seqS (a b : MS) : MS := fun ρ => a ρ >>= fun o => match o with | .nx ρ' => b ρ' | .rt x ρ' => .ok (.rt x ρ') | .bk ρ' => .ok (.bk ρ') | .ct ρ' => .ok (.ct ρ')
def asgS (i : Nat) (m : ME) : MS := fun ρ => m ρ >>= fun x => if freeS x.2 i = true then .ok (.nx (x.2.set i (some (.fz x.1)))) else .bad
def retS (m : ME) : MS := fun ρ => m ρ >>= fun x => .ok (.rt x.1 x.2)
def dropS (m : ME) : MS := fun ρ => m ρ >>= fun x => .ok (.nx x.2)
def ifS (c : MB) (a b : MS) : MS := fun ρ => c ρ >>= fun k => if k.1 = true then a k.2 else b k.2
def meltS (i : Nat) (k : MS) : MS := fun ρ => match ρ[i]? with | some (some (.ow false xs)) => k (ρ.set i (some (.fz (.lst xs)))) | _ => .bad
section
variable {X : Cx} {C : Cn} {E : XK} {e a b : Expr} {ma mb : ME} {ms mk : MS} {es : List Expr} {ml : MA} {pos : Pos} {st : Stmt} {rest : List Stmt}
theorem Out.at_gr {C : Cn} {B : Bs} {A A1 : Rg} {H H1 : Hp} {D : Ends} {o : Out} (g : Gr A H A1 H1) (h : Out.at C B A H D o) : Out.at C B A1 H1 D o := by
  cases o with
  | nx ρ => exact fun A' σ' H' N g' => h A' σ' H' N (g.trans g')
  | rt x ρ => exact fun v A' σ' H' N g' r => h v A' σ' H' N (g.trans g') r
  | bk ρ => exact fun A' σ' H' N g' => h A' σ' H' N (g.trans g')
  | ct ρ => exact fun A' σ' H' N g' => h A' σ' H' N (g.trans g')
theorem ys_nil : PSs X [] (SS C E nextS) := PSs.imp pss_nil fun D σ H ⟨B, A, ρ, N, hm⟩ => hm A σ H N (.refl _ _)
theorem ys_pass : PS X (.Pass pos) (SS C E nextS) := PS.imp ps_pass fun D σ H ⟨B, A, ρ, N, hm⟩ => hm A σ H N (.refl _ _)
theorem ys_cons (h1 : PS X st (SS C E ms)) (h2 : PSs X rest (SS C E mk)) : PSs X (st :: rest) (SS C E (seqS ms mk)) := PSs.imp (pss_cons h1 h2) fun D σ H ⟨B, A, ρ, N, hm⟩ =>
  ⟨B, A, ρ, N, Rs.wp_mono (Rs.wp_bind hm) (fun o ho => by
    cases o with
    | nx ρ' => exact fun A' σ' H' N' g' => ⟨B, A', ρ', N', Rs.wp_mono ho (fun o h => Out.at_gr g' h) fun _ _ _ _ h => h⟩
    | rt x ρ' => exact ho
    | bk ρ' => exact ho
    | ct ρ' => exact ho) fun _ _ _ _ h => h⟩
theorem ys_one (h1 : PS X st (SS C E ms)) : PSs X [st] (SS C E ms) := pss_one h1
theorem ys_asg {i : Nat} {st : Stmt} (h : PS X st (tAsg (SE C E ma) (gName i))) : PS X st (SS C E (asgS i ma)) := PS.imp h fun D σ H ⟨B, A, ρ, N, hm⟩ =>
  ⟨B, A, ρ, N, Rs.wp_mono (Rs.wp_bind hm) (fun x hx v H1 N1 g1 r1 => by
    obtain ⟨hf, hx⟩ := ite_bad hx
    exact hx A _ H1 (N1.set hf r1) g1.g) EXe.of⟩
theorem ys_ret (he : PE X e (SE C E ma)) : PS X (.Return (some e) pos) (SS C E (retS ma)) := PS.imp (ps_ret he) fun D σ H ⟨B, A, ρ, N, hm⟩ =>
  ⟨B, A, ρ, N, Rs.wp_mono (Rs.wp_bind hm) (fun x hx v H1 N1 g1 r1 => hx v A σ H1 N1 g1.g r1) EXe.of⟩
theorem ys_retN : PS X (.Return none pos) (SS C E (retS (cstM .non))) := PS.imp ps_retN fun D σ H ⟨B, A, ρ, N, hm⟩ => hm .non A σ H N (.refl _ _) (rep_non.mpr rfl)
theorem ys_drop {st : Stmt} (h : PS X st (tDrop (SE C E ma))) : PS X st (SS C E (dropS ma)) := PS.imp h fun D σ H ⟨B, A, ρ, N, hm⟩ =>
  ⟨B, A, ρ, N, Rs.wp_mono (Rs.wp_bind hm) (fun x hx v H1 N1 g1 r1 => hx A σ H1 N1 g1.g) EXe.of⟩
theorem ys_if {c : Expr} {xs ys : List Stmt} {mc : MB} (hc : PT X c (SB C E mc)) (ha : PSs X xs (SS C E ms)) (hb : PSs X ys (SS C E mk)) : PS X (.If c xs ys pos) (SS C E (ifS mc ms mk)) := PS.imp (ps_if hc ha hb) fun D σ H ⟨B, A, ρ, N, hm⟩ =>
  ⟨B, A, ρ, N, Rs.wp_mono (Rs.wp_bind hm) (fun x hx H1 N1 g1 => by
    by_cases h : x.1 = true
    · rw [if_pos h] at hx ⊢
      exact ⟨B, A, x.2, N1, Rs.wp_mono hx (fun o h => Out.at_gr g1.g h) fun _ _ _ _ h => h⟩
    · rw [if_neg h] at hx ⊢
      exact ⟨B, A, x.2, N1, Rs.wp_mono hx (fun o h => Out.at_gr g1.g h) fun _ _ _ _ h => h⟩) EXe.of⟩
/-- nothing is done: the own list of a slot is given away ahead of the statements -/
theorem ys_melt {i : Nat} {xs : List Stmt} (h : PSs X xs (SS C E ms)) : PSs X xs (SS C E (meltS i ms)) := PSs.imp h fun D σ H ⟨B, A, ρ, N, hm⟩ => by
  unfold meltS at hm
  split at hm
  · rename_i ys hy
    obtain ⟨v, h1, l, vs, rfl, nA, hl, r⟩ := N.slot hy
    exact ⟨B, _, _, N.melt hy h1 hl nA r, Rs.wp_mono hm (fun o h => Out.at_gr (gr_more (l := l)) h) fun _ _ _ _ h => h⟩
  · exact hm.elim
end
end Y

set_option Elab.async false
set_option linter.all false
set_option maxRecDepth 100000
set_option maxHeartbeats 4000000
set_option autoImplicit false
/-! Y4: what is walked, targets, for, while, comprehensions. -/
namespace Y
open PySem L2 Z
/-! ### what is walked -/
abbrev MI := En → Rs (List Val × En)
def Wk (C : Cn) (A : Rg) (J : It) (H : Hp) (xs : List Val) : Prop := ∀ A' H', Gr A H A' H' → Fq A' H' → (∀ (i : Nat) (x : Val), xs[i]? = some x → J.go i H' ∧ ∀ v H2, J.yld i H' v H2 → Same H' H2 ∧ rep C A' H2 v x) ∧ J.stop xs.length H'
def SI (C : Cn) (E : XK) (m : MI) : TI := fun σ H R => ∃ B A ρ, Now C B A H σ ρ ∧ (m ρ).wp (fun x => ∀ J H', Now C B A H' σ x.2 → Gd σ A H ρ H' x.2 → Wk C A J H' x.1 → R J H') (EXe C E B A H σ ρ)
/-- a value that is walked as it stands -/
def seqV : Val → Option (List Val) | .lst xs => some xs | .tup xs => some xs | _ => none
def walkM (f : Val → Option (List Val)) (m : ME) : MI := fun ρ => m ρ >>= fun x => Rs.opt (f x.1) >>= fun xs => .ok (xs, x.2)
def lstV : Val → Option (List Val) | .lst xs => some xs | _ => none
def tuppV : Val → Option (List Val) | .tup xs => some xs | _ => none
section
variable {X : Cx} {C : Cn} {E : XK} {e a b tg : Expr} {ma mb : ME} {ms mk : MS} {mi : MI} {es : List Expr} {ml : MA} {pos : Pos}
theorem wk_list {A : Rg} {H : Hp} {a : Addr} {vs : List V} {xs : List Val} (n : A a) (h : H a = some (.lst vs)) (r : reps C A H vs xs) : Wk C A (Itl C.K a) H xs := fun A' H' g _ => by
  have h' : SqL C.K H' a vs := SqL.of (g a _ nt n h).2
  have r' := (reps.gr g r).pair
  refine ⟨fun i x hx => ?_, ⟨vs, h', by rw [r.len]; exact Nat.le_refl _⟩⟩
  obtain ⟨v, hv, rv⟩ := paired_at' r' hx
  refine ⟨⟨vs, v, h', hv⟩, fun v2 H2 ⟨e2, k⟩ => ?_⟩
  subst e2
  have hv2 := k vs h'
  rw [hv] at hv2
  cases hv2
  exact ⟨Same.refl _, rv⟩
where paired_at' {A' : Rg} {H' : Hp} : ∀ {vs : List V} {xs : List Val} {j : Nat} {x : Val}, Paired (rep C A' H') vs xs → xs[j]? = some x → ∃ v, vs[j]? = some v ∧ rep C A' H' v x
  | _, _, _, _, .nil, e => by simp at e
  | _, _, 0, _, .cons r _, e => by simp at e; subst e; exact ⟨_, rfl, r⟩
  | _, _, j + 1, x, .cons _ t, e => by
    obtain ⟨v, h1, h2⟩ := paired_at' (j := j) (x := x) t (by simpa using e)
    exact ⟨v, by simpa using h1, h2⟩
theorem wk_tup {A : Rg} {H : Hp} {a : Addr} {vs : List V} {xs : List Val} (h : TupAt C.K A H a vs) (r : reps C A H vs xs) : Wk C A (Itt C.K a) H xs := fun A' H' g _ => by
  have h' : SqT C.K H' a vs := (TupAt.gr g h).sq
  have r' := (reps.gr g r).pair
  refine ⟨fun i x hx => ?_, ⟨vs, h', by rw [r.len]; exact Nat.le_refl _⟩⟩
  obtain ⟨v, hv, rv⟩ := wk_list.paired_at' r' hx
  refine ⟨⟨vs, v, h', hv⟩, fun v2 H2 ⟨e2, k⟩ => ?_⟩
  subst e2
  have hv2 := k vs h'
  rw [hv] at hv2
  cases hv2
  exact ⟨Same.refl _, rv⟩
theorem yi_list (hK : X.K = C.K) (h : PE X e (SE C E ma)) : PI X tg e (SI C E (walkM lstV ma)) := PI.imp (pi_list h) fun σ H R ⟨B, A, ρ, N, hm⟩ =>
  ⟨B, A, ρ, N, Rs.wp_mono (Rs.wp_bind hm) (fun x hx v H1 N1 g1 r1 => by
    obtain ⟨xs, e, hz⟩ := Rs.wp_opt (Rs.wp_bind hx)
    rw [hK]
    unfold lstV at e
    split at e
    · rename_i q
      cases e
      rw [q] at r1
      obtain ⟨a, vs, rfl, n, h, r⟩ := rep_lst.mp r1
      exact ⟨a, rfl, ⟨vs, SqL.of h⟩, hz _ H1 N1 g1 (wk_list n h r)⟩
    · cases e) fun _ _ _ _ h => h⟩
theorem yi_tup (hK : X.K = C.K) (h : PE X e (SE C E ma)) : PI X tg e (SI C E (walkM tuppV ma)) := PI.imp (pi_tup h) fun σ H R ⟨B, A, ρ, N, hm⟩ =>
  ⟨B, A, ρ, N, Rs.wp_mono (Rs.wp_bind hm) (fun x hx v H1 N1 g1 r1 => by
    obtain ⟨xs, e, hz⟩ := Rs.wp_opt (Rs.wp_bind hx)
    rw [hK]
    unfold tuppV at e
    split at e
    · rename_i q
      cases e
      rw [q] at r1
      obtain ⟨a, vs, rfl, h, r⟩ := rep_tup.mp r1
      exact ⟨a, rfl, ⟨vs, h.sq⟩, hz _ H1 N1 g1 (wk_tup h r)⟩
    · cases e) fun _ _ _ _ h => h⟩
/-- range -/
def iota (lo : Int) : Nat → List Val
  | 0 => []
  | n + 1 => .int lo :: iota (lo + 1) n
theorem iota_length (lo : Int) : ∀ n, (iota lo n).length = n
  | 0 => rfl
  | n + 1 => by show (iota (lo + 1) n).length + 1 = n + 1; rw [iota_length]
theorem iota_get : ∀ (n : Nat) (lo : Int) (i : Nat), i < n → (iota lo n)[i]? = some (.int (lo + (i : Int)))
  | 0, _, _, h => absurd h (Nat.not_lt_zero _)
  | n + 1, lo, 0, _ => by show some (Val.int lo) = _; simp
  | n + 1, lo, i + 1, h => by
    show (iota (lo + 1) n)[i]? = _
    rw [iota_get n (lo + 1) i (by omega)]
    congr 2
    omega
theorem wk_rng {A : Rg} {H : Hp} (lo : Int) (m : Nat) : Wk C A (Itr lo m) H (iota lo m) := fun A' H' g _ => by
  refine ⟨fun i x hx => ?_, by show m ≤ _; rw [iota_length]; exact Nat.le_refl _⟩
  have hi : i < m := by
    have := (List.getElem?_eq_some_iff.mp hx).1
    rw [iota_length] at this
    exact this
  rw [iota_get m lo i hi] at hx
  cases hx
  refine ⟨hi, fun v2 H2 ⟨e2, k⟩ => ?_⟩
  subst e2
  exact ⟨Same.refl _, rep_int.mpr k⟩
def rng1M (a : MA) : MI := fun ρ => a ρ >>= fun x => match x.1 with | [.int j] => if -(2 ^ 62) ≤ j ∧ j < 2 ^ 62 then .ok (iota 0 j.toNat, x.2) else .bad | _ => .bad
def rng2M (a : MA) : MI := fun ρ => a ρ >>= fun x => match x.1 with | [.int i, .int j] => if -(2 ^ 62) ≤ i ∧ i < 2 ^ 62 ∧ -(2 ^ 62) ≤ j ∧ j < 2 ^ 62 then .ok (iota i (j - i).toNat, x.2) else .bad | _ => .bad
theorem reps1 {A : Rg} {H : Hp} {vs : List V} {x : Val} (h : reps C A H vs [x]) : ∃ v, vs = [v] ∧ rep C A H v x := by
  unfold reps at h
  obtain ⟨v, r, e, h1, h2⟩ := h
  unfold reps at h2
  subst h2
  exact ⟨v, e, h1⟩
theorem reps2 {A : Rg} {H : Hp} {vs : List V} {x y : Val} (h : reps C A H vs [x, y]) : ∃ v u, vs = [v, u] ∧ rep C A H v x ∧ rep C A H u y := by
  unfold reps at h
  obtain ⟨v, r, e, h1, h2⟩ := h
  obtain ⟨u, rfl, h3⟩ := reps1 h2
  exact ⟨v, u, e, h1, h3⟩
theorem yi_rng1 (h : PI X tg e (iRng1 (SA C E ml))) : PI X tg e (SI C E (rng1M ml)) := PI.imp h fun σ H R ⟨B, A, ρ, N, hm⟩ =>
  ⟨B, A, ρ, N, Rs.wp_mono (Rs.wp_bind hm) (fun x hx vs H1 N1 g1 r1 => by
    split at hx
    · rename_i j q
      obtain ⟨hb, hx⟩ := ite_bad hx
      rw [q] at r1
      obtain ⟨v, rfl, rv⟩ := reps1 r1
      exact ⟨j, by rw [rep_int.mp rv], hb.1, hb.2, hx _ H1 N1 g1 (wk_rng 0 _)⟩
    · exact hx.elim) fun _ _ _ _ h => h⟩
theorem yi_rng2 (h : PI X tg e (iRng2 (SA C E ml))) : PI X tg e (SI C E (rng2M ml)) := PI.imp h fun σ H R ⟨B, A, ρ, N, hm⟩ =>
  ⟨B, A, ρ, N, Rs.wp_mono (Rs.wp_bind hm) (fun x hx vs H1 N1 g1 r1 => by
    split at hx
    · rename_i i j q
      obtain ⟨hb, hx⟩ := ite_bad hx
      rw [q] at r1
      obtain ⟨v, u, rfl, rv, ru⟩ := reps2 r1
      exact ⟨i, j, by rw [rep_int.mp rv, rep_int.mp ru], hb, hx _ H1 N1 g1 (wk_rng i _)⟩
    · exact hx.elim) fun _ _ _ _ h => h⟩
/-! ### targets -/
abbrev MT := Val → En → Option En
def nameT (i : Nat) : MT := fun x ρ => if freeS ρ i = true then some (ρ.set i (some (.fz x))) else none
abbrev MTs := List Val → En → Option En
def nilT : MTs := fun xs ρ => match xs with | [] => some ρ | _ => none
def consT (t : MT) (u : MTs) : MTs := fun xs ρ => match xs with | x :: r => (t x ρ).bind (u r) | [] => none
def tupT (n : Nat) (u : MTs) : MT := fun x ρ => match x with | .tup xs => if xs.length = n then u xs ρ else none | _ => none
/-- only these slots are stored -/
structure Off (is : List Nat) (σ σ' : L2.St) (ρ ρ' : En) : Prop where
  len : σ'.length = σ.length
  out : ∀ j, j ∉ is → σ'[j]? = σ[j]?
  ow : Ow ρ ρ'
def SG (C : Cn) (is : List Nat) (t : MT) : TG := fun v σ H Q => ∃ B A ρ x ρ', Now C B A H σ ρ ∧ rep C A H v x ∧ t x ρ = some ρ' ∧ ∀ σ', Now C B A H σ' ρ' → Off is σ σ' ρ ρ' → Q σ' H
def SGs (C : Cn) (is : List Nat) (t : MTs) : TGs := fun vs σ H Q => ∃ B A ρ xs ρ', Now C B A H σ ρ ∧ reps C A H vs xs ∧ t xs ρ = some ρ' ∧ ∀ σ', Now C B A H σ' ρ' → Off is σ σ' ρ ρ' → Q σ' H
theorem PG.imp {t t' : TG} (h : PG X tg t) (k : ∀ v σ H Q, t' v σ H Q → t v σ H Q) : PG X tg t' := ⟨fun pins s σ H x v Q I r q => h.run pins s σ H x v Q I r (k _ _ _ _ q)⟩
theorem PGs.imp {ts : List Expr} {t t' : TGs} (h : PGs X ts t) (k : ∀ v σ H Q, t' v σ H Q → t v σ H Q) : PGs X ts t' := ⟨fun pins s σ H x v Q I r q => h.run pins s σ H x v Q I r (k _ _ _ _ q)⟩
theorem yg_name {i : Nat} (h : PG X tg (gName i)) : PG X tg (SG C [i] (nameT i)) := PG.imp h fun v σ H Q ⟨B, A, ρ, x, ρ', N, r, e, k⟩ => by
  unfold nameT at e
  split at e
  · cases e
    refine k _ (N.set (by assumption) r) ⟨by simp, fun j hj => List.getElem?_set_ne (fun z => hj (by simp [z])), fun j t h o => ?_⟩
    rcases getset h with ⟨_, e2, _⟩ | ⟨_, h⟩
    · cases e2; cases o
    · exact ⟨t, h, o⟩
  · cases e
theorem ygs_nil : PGs X [] (SGs C [] nilT) := PGs.imp pgs_nil fun vs σ H Q ⟨B, A, ρ, xs, ρ', N, r, e, k⟩ => by
  unfold nilT at e
  split at e
  · cases e
    unfold reps at r
    exact ⟨r, k _ N ⟨rfl, fun _ _ => rfl, .refl _⟩⟩
  · cases e
theorem ygs_cons {t : MT} {u : MTs} {is js : List Nat} (h1 : PG X e (SG C is t)) (h2 : PGs X es (SGs C js u)) (pc : ∀ {t : TG} {u : TGs}, PG X e t → PGs X es u → PGs X (e :: es) (gCons t u)) : PGs X (e :: es) (SGs C (is ++ js) (consT t u)) := PGs.imp (pc h1 h2) fun vs σ H Q ⟨B, A, ρ, xs, ρ', N, r, e, k⟩ => by
  unfold consT at e
  split at e
  · rename_i x r'
    unfold reps at r
    obtain ⟨v, rs, ev, r1, r2⟩ := r
    cases e1 : t x ρ with
    | none => rw [e1] at e; cases e
    | some ρ1 =>
      rw [e1] at e
      exact ⟨v, rs, ev, B, A, ρ, x, ρ1, N, r1, e1, fun σ1 N1 o1 => ⟨B, A, ρ1, _, ρ', N1, r2, e, fun σ2 N2 o2 => k σ2 N2 ⟨o2.len.trans o1.len, fun j hj => by
        rw [List.mem_append, not_or] at hj
        rw [o2.out j hj.2, o1.out j hj.1], o1.ow.trans o2.ow⟩⟩⟩
  · cases e
theorem yg_tup {n : Nat} {u : MTs} {is : List Nat} (hK : X.K = C.K) (h : PG X tg (gTup X.K n (SGs C is u))) : PG X tg (SG C is (tupT n u)) := PG.imp h fun v σ H Q ⟨B, A, ρ, x, ρ', N, r, e, k⟩ => by
  unfold tupT at e
  split at e
  · rename_i xs
    split at e
    · rename_i hl
      obtain ⟨a, vs, rfl, h, rs⟩ := rep_tup.mp r
      exact ⟨a, vs, rfl, by rw [hK]; exact h.sq, by rw [rs.len]; exact hl, B, A, ρ, xs, ρ', N, rs, e, k⟩
    · cases e
  · cases e
/-! ### for -/
def forL (t : MT) (body : MS) : List Val → MS
  | [], ρ => .ok (.nx ρ)
  | x :: xs, ρ => Rs.opt (t x ρ) >>= fun ρ1 => body ρ1 >>= fun o => match o with
    | .nx ρ2 => forL t body xs ρ2
    | .ct ρ2 => forL t body xs ρ2
    | .bk ρ2 => .ok (.nx ρ2)
    | .rt y ρ2 => .ok (.rt y ρ2)
def forS (mi : MI) (t : MT) (body : MS) : MS := fun ρ => mi ρ >>= fun x => forL t body x.1 x.2
theorem ys_for {t : MT} {is : List Nat} {st : Stmt} (h : PS X st (tFor (SI C E mi) (SG C is t) (SS C E ms))) : PS X st (SS C E (forS mi t ms)) := PS.imp h fun D σ H ⟨B, A, ρ, N, hm⟩ =>
  ⟨B, A, ρ, N, Rs.wp_mono (Rs.wp_bind hm) (fun x hx J H1 N1 g1 wk => by
    refine ⟨fun i m σ' H' => ∃ A' ρ', Now C B A' H' σ' ρ' ∧ Gr A H1 A' H' ∧ m = x.1.length - i ∧ i ≤ x.1.length ∧ (forL t ms (x.1.drop i) ρ').wp (Out.at C B A' H' D) (EX C E B), ⟨x.1.length, A, x.2, N1, .refl _ _, by simp, Nat.zero_le _, ?_⟩, ?_⟩
    · rw [List.drop_zero]
      exact Rs.wp_mono hx (fun o h => Out.at_gr g1.g h) fun _ _ _ _ h => h
    · rintro i m σ' H' ⟨A', ρ', N', g', rfl, hi, hw⟩
      obtain ⟨w1, w2⟩ := wk A' H' g' N'.fr
      by_cases hlt : i < x.1.length
      · obtain ⟨go, yl⟩ := w1 i x.1[i] (by simp [hlt])
        refine .inr ⟨go, fun σ2 H2 => ∃ A2 ρ2, Now C B A2 H2 σ2 ρ2 ∧ Gr A H1 A2 H2 ∧ (forL t ms (x.1.drop (i + 1)) ρ2).wp (Out.at C B A2 H2 D) (EX C E B), fun σ2 H2 ⟨A2, ρ2, n, g, w⟩ => ⟨x.1.length - (i + 1), by omega, A2, ρ2, n, g, rfl, hlt, w⟩, fun v H2 hy => ?_⟩
        obtain ⟨s2, rv⟩ := yl v H2 hy
        have N2 := N'.same s2
        rw [List.drop_eq_getElem_cons hlt] at hw
        unfold forL at hw
        obtain ⟨ρ1, e1, hb⟩ := Rs.wp_opt (Rs.wp_bind hw)
        refine ⟨B, A', ρ', x.1[i], ρ1, N2, rv, e1, fun σ3 N3 _ => ⟨B, A', ρ1, N3, Rs.wp_mono (Rs.wp_bind hb) (fun o ho => ?_) fun _ _ _ _ h => h⟩⟩
        have gs : Gr A' H' A' H2 := .same s2
        cases o with
        | nx ρ2 => exact fun A4 σ4 H4 N4 g4 => ⟨A4, ρ2, N4, (g'.trans gs).trans g4, Rs.wp_mono ho (fun o h => Out.at_gr (gs.trans g4) h) fun _ _ _ _ h => h⟩
        | ct ρ2 => exact fun A4 σ4 H4 N4 g4 => ⟨A4, ρ2, N4, (g'.trans gs).trans g4, Rs.wp_mono ho (fun o h => Out.at_gr (gs.trans g4) h) fun _ _ _ _ h => h⟩
        | bk ρ2 => exact fun A4 σ4 H4 N4 g4 => ho A4 σ4 H4 N4 (gs.trans g4)
        | rt y ρ2 => exact fun v4 A4 σ4 H4 N4 g4 r4 => ho v4 A4 σ4 H4 N4 (gs.trans g4) r4
      · have e : i = x.1.length := by omega
        subst e
        rw [List.drop_length] at hw
        exact .inl ⟨w2, hw A' σ' H' N' (.refl _ _)⟩) EXe.of⟩
/-! ### while -/
def whileL (c : MB) (body : MS) : Nat → MS
  | 0, _ => .bad
  | n + 1, ρ => c ρ >>= fun k => if k.1 = true then body k.2 >>= fun o => match o with
      | .nx ρ2 => whileL c body n ρ2
      | .ct ρ2 => whileL c body n ρ2
      | .bk ρ2 => .ok (.nx ρ2)
      | .rt y ρ2 => .ok (.rt y ρ2)
    else .ok (.nx k.2)
theorem ys_while {mc : MB} {n : Nat} {st : Stmt} (h : PS X st (tWhile (SB C E mc) (SS C E ms))) : PS X st (SS C E (whileL mc ms n)) := PS.imp h fun D σ H ⟨B, A, ρ, N, hm⟩ => by
  refine ⟨fun m σ' H' => ∃ A' ρ', Now C B A' H' σ' ρ' ∧ (whileL mc ms m ρ').wp (Out.at C B A' H' D) (EX C E B), ⟨n, A, ρ, N, hm⟩, ?_⟩
  rintro m σ' H' ⟨A', ρ', N', hw⟩
  cases m with
  | zero => exact hw.elim
  | succ m =>
    unfold whileL at hw
    refine ⟨B, A', ρ', N', Rs.wp_mono (Rs.wp_bind hw) (fun k hk H2 N2 g2 => ?_) EXe.of⟩
    by_cases h : k.1 = true
    · rw [if_pos h] at hk ⊢
      refine ⟨fun σ3 H3 => ∃ A3 ρ3, Now C B A3 H3 σ3 ρ3 ∧ (whileL mc ms m ρ3).wp (Out.at C B A3 H3 D) (EX C E B), fun σ3 H3 q => ⟨m, Nat.lt_succ_self _, q⟩, B, A', k.2, N2, Rs.wp_mono (Rs.wp_bind hk) (fun o ho => ?_) fun _ _ _ _ h => h⟩
      cases o with
      | nx ρ2 => exact fun A4 σ4 H4 N4 g4 => ⟨A4, ρ2, N4, Rs.wp_mono ho (fun o h => Out.at_gr (g2.g.trans g4) h) fun _ _ _ _ h => h⟩
      | ct ρ2 => exact fun A4 σ4 H4 N4 g4 => ⟨A4, ρ2, N4, Rs.wp_mono ho (fun o h => Out.at_gr (g2.g.trans g4) h) fun _ _ _ _ h => h⟩
      | bk ρ2 => exact fun A4 σ4 H4 N4 g4 => ho A4 σ4 H4 N4 (g2.g.trans g4)
      | rt y ρ2 => exact fun v4 A4 σ4 H4 N4 g4 r4 => ho v4 A4 σ4 H4 N4 (g2.g.trans g4) r4
    · rw [if_neg h] at hk ⊢
      exact hk A' σ' H2 N2 g2.g
end
end Y

set_option Elab.async false
set_option linter.all false
set_option maxRecDepth 100000
set_option maxHeartbeats 4000000
set_option autoImplicit false
/-! Y5: comprehensions; new lists; own lists. -/
namespace Y
open PySem L2 Z
section
variable {C : Cn} {B : Bs} {A A' : Rg} {H H' : Hp} {σ : L2.St} {ρ : En}
/-! ### slots forgotten -/
def wipeE (ρ : En) : List Nat → En
  | [] => ρ
  | v :: vs => (wipeE ρ vs).set v none
theorem Now.unset {i : Nat} (N : Now C B A H σ ρ) (hf : freeS ρ i = true) : Now C B A H (σ.set i none) (ρ.set i none) := by
  have hi : i < σ.length := by
    rw [N.env.len]
    unfold freeS at hf
    by_cases h : i < ρ.length
    · exact h
    · rw [List.getElem?_eq_none (by omega)] at hf; cases hf
  have back : ∀ {j : Nat} {s : SV}, (ρ.set i none)[j]? = some (some s) → j ≠ i ∧ ρ[j]? = some (some s) := fun {j s} h => by
    rcases getset h with ⟨_, e2, _⟩ | ⟨n1, h⟩
    · cases e2
    · exact ⟨n1, h⟩
  refine ⟨⟨by simp [N.env.len], fun j s h => ?_, fun j k s t u jk hs ht os ot hu => ?_⟩, N.fr, N.f0, N.nz, N.le, N.kp, N.tb, N.fe, fun j s l h o e => ?_, fun j l h => ?_⟩
  · obtain ⟨n, h⟩ := back h
    obtain ⟨u, h1, h2⟩ := N.env.sl j s h
    exact ⟨u, by rw [List.getElem?_set_ne (Ne.symm n)]; exact h1, h2⟩
  · obtain ⟨n1, hs⟩ := back hs
    obtain ⟨n2, ht⟩ := back ht
    rw [List.getElem?_set_ne (Ne.symm n1)] at hu
    rw [List.getElem?_set_ne (Ne.symm n2)]
    exact N.env.ne j k s t u jk hs ht os ot hu
  · obtain ⟨n1, h⟩ := back h
    rw [List.getElem?_set_ne (Ne.symm n1)] at e
    exact N.ow j s l h o e
  · have ne : j ≠ i := fun e => by
      obtain ⟨_, s, h2, _, h4⟩ := N.pn j l h
      unfold freeS at hf
      rw [← e, h2] at hf
      simp [h4] at hf
    rw [List.getElem?_set_ne (Ne.symm ne), List.getElem?_set_ne (Ne.symm ne)]
    exact N.pn j l h
theorem freeS_unset {i j : Nat} (h : freeS ρ j = true) : freeS (ρ.set i none) j = true := by
  unfold freeS at h ⊢
  by_cases e : i = j
  · subst e
    by_cases hl : i < ρ.length
    · rw [List.getElem?_set_self hl]
    · rw [List.getElem?_eq_none (by omega)] at h; cases h
  · rw [List.getElem?_set_ne e]; exact h
theorem freeS_wipe {j : Nat} (h : freeS ρ j = true) : ∀ vs : List Nat, freeS (wipeE ρ vs) j = true
  | [] => h
  | v :: vs => freeS_unset (freeS_wipe h vs)
theorem Now.wipe (N : Now C B A H σ ρ) : ∀ vs : List Nat, vs.all (freeS ρ) = true → Now C B A H (L2.wipe σ vs) (wipeE ρ vs)
  | [], _ => N
  | v :: vs, h => by
    rw [List.all_cons, Bool.and_eq_true] at h
    exact (Now.wipe N vs h.2).unset (freeS_wipe h.1 vs)
theorem wipeE_in {i : Nat} : ∀ {vs : List Nat}, i ∈ vs → (wipeE ρ vs)[i]? = none ∨ (wipeE ρ vs)[i]? = some none
  | v :: vs, h => by
    unfold wipeE
    by_cases e : v = i
    · subst e
      by_cases hl : v < (wipeE ρ vs).length
      · exact .inr (List.getElem?_set_self hl)
      · exact .inl (List.getElem?_eq_none (by simpa using hl))
    · rw [List.getElem?_set_ne e]
      rcases List.mem_cons.mp h with h | h
      · exact absurd h.symm e
      · exact wipeE_in h
theorem wipeE_out {i : Nat} : ∀ {vs : List Nat}, i ∉ vs → (wipeE ρ vs)[i]? = ρ[i]?
  | [], _ => rfl
  | v :: vs, h => by
    rw [List.mem_cons, not_or] at h
    unfold wipeE
    rw [List.getElem?_set_ne (Ne.symm h.1)]
    exact wipeE_out h.2
theorem Ow.wipe {vs : List Nat} : Ow ρ (wipeE ρ vs) := fun j t h o => by
  by_cases hj : j ∈ vs
  · rcases wipeE_in (ρ := ρ) hj with e | e <;> rw [e] at h <;> cases h
  · rw [wipeE_out hj] at h; exact ⟨t, h, o⟩
/-- the slots that were forgotten come back -/
theorem Now.back {vs : List Nat} (N : Now C B A H (L2.wipe σ vs) ρ) (hv : ∀ i ∈ vs, ∀ s, ρ[i]? ≠ some (some s)) : Now C B A H σ ρ := by
  have out : ∀ {i : Nat} {s : SV}, ρ[i]? = some (some s) → (L2.wipe σ vs)[i]? = σ[i]? := fun {i s} h => wipe_out fun z => hv i z s h
  refine ⟨⟨by rw [← N.env.len, L2.wipe_length], fun j s h => ?_, fun j k s t u jk hs ht os ot hu => ?_⟩, N.fr, N.f0, N.nz, N.le, N.kp, N.tb, N.fe, fun j s l h o e => ?_, fun j l h => ?_⟩
  · rw [← out h]; exact N.env.sl j s h
  · rw [← out hs] at hu
    rw [← out ht]
    exact N.env.ne j k s t u jk hs ht os ot hu
  · rw [← out h] at e
    exact N.ow j s l h o e
  · obtain ⟨h1, s, h2, h3⟩ := N.pn j l h
    exact ⟨by rw [← out h2]; exact h1, s, h2, h3⟩
/-- a list that was out of the region joins it -/
theorem Now.join {p : Addr} {vs : List V} (N : Now C B (A.less p) H σ ρ) (hp : A p) (hl : H p = some (.lst vs)) (hB : B.A0 p) (ne : ∀ (j : Nat) (t : SV), ρ[j]? = some (some t) → t.own = true → σ[j]? ≠ some (some (.ref p))) : Now C B A H σ ρ := by
  refine ⟨⟨N.env.len, fun i s h => ?_, N.env.ne⟩, fun q h => ?_, N.f0, N.nz, fun a h => ?_, N.kp, N.tb, N.fe, N.ow, N.pn⟩
  · obtain ⟨v, h1, h2⟩ := N.env.sl i s h
    refine ⟨v, h1, slr.gr gr_less (fun o l e z => ?_) h2⟩
    obtain ⟨l', e', n', _⟩ := h2.at o
    subst e
    cases e'
    by_cases el : l = p
    · subst el; exact ne i s h o h1
    · exact n' ⟨z, el⟩
  · by_cases e : q = p
    · rw [e]; exact hp
    · exact (N.fr q h).1
  · by_cases e : a = p
    · rw [e]; exact hB
    · exact N.le a ⟨h, e⟩
end
section
variable {C : Cn} {B : Bs} {A A' : Rg} {H H' : Hp} {σ : L2.St} {ρ : En}
/-- an object that is neither in the region nor a slot's changes (a comprehension's list) -/
theorem Now.outer {p : Addr} {us : List V} {o : HO} (N : Now C B A H σ ρ) (hA : ¬ A p) (hp : H p = some (.lst us)) (hB : Fz B.H0 p ∨ B.Z p) (hno : NT o) (ne : ∀ (j : Nat) (t : SV), ρ[j]? = some (some t) → t.own = true → σ[j]? ≠ some (some (.ref p))) : Now C B A (upd H p o) σ ρ := by
  have g : Gr A H A (upd H p o) := fun a u _ n h => ⟨n, by rw [upd_ne (fun z => hA (by rw [← z]; exact n))]; exact h⟩
  refine ⟨⟨N.env.len, fun j t h => ?_, N.env.ne⟩, fun q h => ?_, N.f0, N.nz, N.le, fun a u t z h => ?_, tabs_put N.tb hp nt (fun _ z => nomatch z), fun a h => ?_, N.ow, N.pn⟩
  · obtain ⟨u, h1, h2⟩ := N.env.sl j t h
    refine ⟨u, h1, ?_⟩
    have lne : t.own = true → ∀ m, u = .ref m → m ≠ p := fun ot m e z => by
      subst e; subst z
      exact ne j t h ot h1
    cases t with
    | fz x => exact rep.gr g h2
    | ow p xs => obtain ⟨m, vs, e1, n1, k, r⟩ := h2; exact ⟨m, vs, e1, n1, by rw [upd_ne (lne rfl m e1)]; exact k, reps.gr g r⟩
    | od p ks xs => obtain ⟨m, vs, e1, n1, k, z, r⟩ := h2; exact ⟨m, vs, e1, n1, by rw [upd_ne (lne rfl m e1)]; exact k, z, reps.gr g r⟩
    | oi p c ns xs =>
      obtain ⟨m, dx, vs, e1, n1, n2, k, k2, z, r⟩ := h2
      exact ⟨m, dx, vs, e1, n1, n2, by rw [upd_ne (lne rfl m e1)]; exact k, by rw [upd_ne (fun z => by rw [z, hp] at k2; cases k2)]; exact k2, z, reps.gr g r⟩
  · have e : q ≠ p := fun z => by rw [z] at h; exact h.no upd_same hno
    exact N.fr q (fun u z => h u (by rw [upd_ne e]; exact z))
  · have ne : a ≠ p := fun e => by
      subst e
      rcases hB with w | w
      · exact w.no h t
      · exact z w
    rw [upd_ne ne]
    exact N.kp a u t z h
  · have e : a ≠ p := fun z => by rw [z] at h; exact h.no upd_same hno
    exact N.fe a (fun u z => h u (by rw [upd_ne e]; exact z))
end
/-! ### a new list -/
abbrev ML := En → Rs (List Val × En)
/-- the list is new and nothing else knows it -/
structure Gf (σ : L2.St) (A : Rg) (H : Hp) (ρ : En) (l : Addr) (H' : Hp) (ρ' : En) : Prop where
  g : Gr A H (A.less l) H'
  o : Ow ρ ρ'
  k : ∀ a o, NT o → H a = some o → ¬ OwnAt σ ρ a → H' a = some o
  f : ∀ a, Fz H' a → Fz H a
def SF (C : Cn) (E : XK) (m : ML) : TE := fun σ H Q => ∃ B A ρ, Now C B A H σ ρ ∧ (m ρ).wp (fun x => ∀ l vs H', Fz H l → A l → Now C B (A.less l) H' σ x.2 → Gf σ A H ρ l H' x.2 → H' l = some (.lst vs) → reps C (A.less l) H' vs x.1 → Q (.ref l) H') (EXe C E B A H σ ρ)
def listM (m : ML) : ME := fun ρ => m ρ >>= fun x => .ok (.lst x.1, x.2)
section
variable {X : Cx} {C : Cn} {E : XK} {e a b tg : Expr} {ma mb : ME} {ms mk : MS} {mi : MI} {es : List Expr} {ml : MA} {mf : ML} {pos : Pos}
theorem own_ne {B : Bs} {A : Rg} {H : Hp} {σ : L2.St} {ρ ρ' : En} {l : Addr} (N : Now C B A H σ ρ) (o : Ow ρ ρ') (hl : A l) : ∀ (j : Nat) (t : SV), ρ'[j]? = some (some t) → t.own = true → σ[j]? ≠ some (some (.ref l)) := fun j t h ot z => by
  obtain ⟨t0, h0, o0⟩ := o j t h ot
  obtain ⟨v, h1, h2⟩ := N.env.sl j t0 h0
  rw [z] at h1; cases h1
  obtain ⟨l', e, n, _⟩ := h2.at o0
  cases e
  exact n hl
theorem SF.toE : ∀ σ H Q, SE C E (listM mf) σ H Q → SF C E mf σ H Q := fun σ H Q ⟨B, A, ρ, N, hm⟩ =>
  ⟨B, A, ρ, N, Rs.wp_mono (Rs.wp_bind hm) (fun x hx l vs H' h0 hA N' g hl r => hx _ H' (N'.join hA hl (N.le l hA) (own_ne N g.o hA)) ⟨g.g.trans gr_less, g.o, g.k, g.f⟩ (rep_lst.mpr ⟨l, vs, rfl, hA, hl, reps.gr gr_less r⟩)) fun _ _ _ _ h => h⟩
theorem y_new (h : PE X e (SF C E mf)) : PE X e (SE C E (listM mf)) := PE.imp h SF.toE
/-- name = a new list, which the def will change -/
def newS (i : Nat) (m : ML) : MS := fun ρ => m ρ >>= fun x => if freeS x.2 i = true then .ok (.nx (x.2.set i (some (.ow false x.1)))) else .bad
theorem ys_new {i : Nat} {st : Stmt} (h : PS X st (tAsg (SF C E mf) (gName i))) : PS X st (SS C E (newS i mf)) := PS.imp h fun D σ H ⟨B, A, ρ, N, hm⟩ =>
  ⟨B, A, ρ, N, Rs.wp_mono (Rs.wp_bind hm) (fun x hx l vs H' h0 hA N' g hl r => by
    obtain ⟨hf, hx⟩ := ite_bad hx
    exact hx _ _ H' (N'.own hf rfl rfl ⟨l, vs, rfl, less_no, hl, r⟩ (N.fe l h0) (own_ne N g.o hA)) g.g) EXe.of⟩
def dispF (a : MA) : ML := fun ρ => a ρ >>= fun x => if x.1.length ≤ sizeLine then .ok (x.1, x.2) else .bad
theorem yf_lst (h : PA X es (SA C E ml)) : PE X (.List es pos) (SF C E (dispF ml)) := PE.imp (pe_lst h) fun σ H Q ⟨B, A, ρ, N, hm⟩ =>
  ⟨B, A, ρ, N, Rs.wp_mono (Rs.wp_bind hm) (fun x hx vs H1 N1 g1 r1 => by
    obtain ⟨hz, hx⟩ := ite_bad hx
    refine ⟨by rw [r1.len]; exact hz, fun p hp => ?_⟩
    have gp : Gr A H1 (A.less p) (upd H1 p (.lst vs)) := fun a u _ n h => ⟨⟨n, ne_of_none h hp⟩, same_new hp a u h⟩
    exact hx p vs _ (g1.f p (.of hp)) (N1.fr p (.of hp)) (N1.cut hp nt) ⟨g1.g.trans gp, g1.o, fun a o t h n => same_new hp a o (g1.k a o t h n), fun a h => g1.f a (h.sm (same_new hp))⟩ upd_same (reps.gr gp r1)) fun _ _ _ _ h => h⟩
/-- a built-in that gives a new list -/
def CfV (C : Cn) (r : List V → Hp → VK → Prop) (f : List Val → Option (List Val)) : Prop := ∀ (A : Rg) (H : Hp) (us : List V) (xs : List Val) (z : List Val), Fq A H → reps C A H us xs → f xs = some z → ∀ Q : VK, (∀ p vs, H p = none → reps C A H vs z → Q (.ref p) (upd H p (.lst vs))) → r us H Q
def cfM (f : List Val → Option (List Val)) (a : MA) : ML := fun ρ => a ρ >>= fun x => Rs.opt (f x.1) >>= fun z => .ok (z, x.2)
theorem new_rd {B : Bs} {A : Rg} {H H1 : Hp} {σ : L2.St} {ρ ρ1 : En} {z : List Val} {Q : VK} (N1 : Now C B A H1 σ ρ1) (g1 : Gd σ A H ρ H1 ρ1)
    (hz : ∀ l vs H', Fz H l → A l → Now C B (A.less l) H' σ ρ1 → Gf σ A H ρ l H' ρ1 → H' l = some (.lst vs) → reps C (A.less l) H' vs z → Q (.ref l) H') : ∀ p vs, H1 p = none → reps C A H1 vs z → Q (.ref p) (upd H1 p (.lst vs)) := fun p vs hp r => by
  have gp : Gr A H1 (A.less p) (upd H1 p (.lst vs)) := fun a u _ n h => ⟨⟨n, ne_of_none h hp⟩, same_new hp a u h⟩
  exact hz p vs _ (g1.f p (.of hp)) (N1.fr p (.of hp)) (N1.cut hp nt) ⟨g1.g.trans gp, g1.o, fun a o t h n => same_new hp a o (g1.k a o t h n), fun a h => g1.f a (h.sm (same_new hp))⟩ upd_same (reps.gr gp r)
theorem cf_rd {r : List V → Hp → VK → Prop} {f : List Val → Option (List Val)} (hv : CfV C r f) : ∀ σ H Q, SF C E (cfM f ml) σ H Q → tCB r (SA C E ml) σ H Q := fun σ H Q ⟨B, A, ρ, N, hm⟩ =>
  ⟨B, A, ρ, N, Rs.wp_mono (Rs.wp_bind hm) (fun x hx us H1 N1 g1 r1 => by
    obtain ⟨z, e, hz⟩ := Rs.wp_opt (Rs.wp_bind hx)
    exact hv A H1 us x.1 z N1.fr r1 e Q (new_rd N1 g1 hz)) fun _ _ _ _ h => h⟩
/-- an operator that gives a new list -/
def OfV (C : Cn) (r : R2) (f : Val → Val → Option (List Val)) : Prop := ∀ (A : Rg) (H : Hp) (u v : V) (x y : Val) (z : List Val), Fq A H → rep C A H u x → rep C A H v y → f x y = some z → ∀ Q : VK, (∀ p vs, H p = none → reps C A H vs z → Q (.ref p) (upd H p (.lst vs))) → r u v H Q
def bfM (f : Val → Val → Option (List Val)) (a b : ME) : ML := fun ρ => a ρ >>= fun x => b x.2 >>= fun y => Rs.opt (f x.1 y.1) >>= fun z => .ok (z, y.2)
theorem bf_rd {r : R2} {f : Val → Val → Option (List Val)} (hv : OfV C r f) : ∀ σ H Q, SF C E (bfM f ma mb) σ H Q → tOp r (SE C E ma) (SE C E mb) σ H Q := fun σ H Q ⟨B, A, ρ, N, hm⟩ =>
  ⟨B, A, ρ, N, Rs.wp_mono (Rs.wp_bind hm) (fun x hx u H1 N1 g1 r1 => ⟨B, A, x.2, N1, Rs.wp_mono (Rs.wp_bind hx) (fun y hy v H2 N2 g2 r2 => by
    obtain ⟨z, e, hz⟩ := Rs.wp_opt (Rs.wp_bind hy)
    exact hv A H2 u v x.1 y.1 z N2.fr (rep.gr g2.g r1) r2 e Q (new_rd N2 (g1.trans g2) hz)) (EXe.tr g1)⟩) fun _ _ _ _ h => h⟩
/-! ### comprehensions -/
def noX {α : Type} (r : Rs α) : Rs α := match r with | .ok x => .ok x | _ => .bad
theorem noX_wp {α : Type} {r : Rs α} {Q : α → Prop} {E E' : XW} (h : (noX r).wp Q E) : r.wp Q E' := by
  cases r with
  | ok x => exact h
  | exc c ns vs ρ => exact h.elim
  | bad => exact h
def compL (vs : List Nat) (t : MT) (c : MB) (e : ME) : List Val → En → Rs (List Val × En)
  | [], ρ => .ok ([], ρ)
  | x :: xs, ρ => Rs.opt (t x (wipeE ρ vs)) >>= fun ρ1 => noX (c ρ1) >>= fun k =>
      if k.1 = true then noX (e k.2) >>= fun y => if vs.all (freeS y.2) = true then compL vs t c e xs (wipeE y.2 vs) >>= fun r => .ok (y.1 :: r.1, r.2) else .bad
      else if vs.all (freeS k.2) = true then compL vs t c e xs (wipeE k.2 vs) else .bad
def compF (vs : List Nat) (mi : MI) (t : MT) (c : MB) (e : ME) : ML := fun ρ => mi ρ >>= fun x => if x.1.length < sizeLine ∧ vs.all (freeS x.2) = true then compL vs t c e x.1 (wipeE x.2 vs) else .bad
def yesB : MB := fun ρ => .ok (true, ρ)
theorem sb_yes {E : XK} : ∀ σ H Q, SB C E yesB σ H Q → tYes σ H Q := fun σ H Q ⟨B, A, ρ, N, hm⟩ => hm H N (.refl _ _ _ _)
theorem compL_out {vs : List Nat} {t : MT} {c : MB} {e : ME} {E : XW} {Q : List Val × En → Prop} : ∀ {xs : List Val} {ρ : En}, (∀ i ∈ vs, ∀ s, ρ[i]? ≠ some (some s)) → (compL vs t c e xs ρ).wp Q E → (compL vs t c e xs ρ).wp (fun r => Q r ∧ ∀ i ∈ vs, ∀ s, r.2[i]? ≠ some (some s)) E
  | [], ρ, h, hw => ⟨hw, h⟩
  | x :: xs, ρ, h, hw => by
    unfold compL at hw ⊢
    refine Rs.bind_wp (Rs.wp_mono (Rs.wp_bind hw) (fun ρ1 h1 => Rs.bind_wp (Rs.wp_mono (Rs.wp_bind h1) (fun k hk => ?_) fun _ _ _ _ h => h)) fun _ _ _ _ h => h)
    have wi : ∀ ρ' : En, ∀ i ∈ vs, ∀ s, (wipeE ρ' vs)[i]? ≠ some (some s) := fun ρ' i hi s z => by
      rcases wipeE_in (ρ := ρ') hi with e | e <;> rw [e] at z <;> cases z
    by_cases hb : k.1 = true
    · rw [if_pos hb] at hk ⊢
      refine Rs.bind_wp (Rs.wp_mono (Rs.wp_bind hk) (fun y hy => ?_) fun _ _ _ _ h => h)
      obtain ⟨hf, hy⟩ := ite_bad hy
      rw [if_pos hf]
      exact Rs.bind_wp (Rs.wp_mono (compL_out (wi _) (Rs.wp_bind hy)) (fun r hr => hr) fun _ _ _ _ h => h)
    · rw [if_neg hb] at hk ⊢
      obtain ⟨hf, hk⟩ := ite_bad hk
      rw [if_pos hf]
      exact compL_out (wi _) hk
theorem wipe_off {σ σ2 : L2.St} {vs is : List Nat} {ρ ρ' : En} (o : Off is (L2.wipe σ vs) σ2 ρ ρ') (hs : ∀ i ∈ is, i ∈ vs) : L2.wipe σ2 vs = L2.wipe σ vs := by
  have w0 : ∀ {τ : L2.St} {i : Nat}, i ∈ vs → i < τ.length → (L2.wipe τ vs)[i]? = some none := fun {τ i} hi hl => by
    have hl' : i < (L2.wipe τ vs).length := by rw [L2.wipe_length]; exact hl
    cases e : (L2.wipe τ vs)[i]? with
    | none => rw [List.getElem?_eq_none_iff] at e; omega
    | some u =>
      cases u with
      | none => rfl
      | some v => exact absurd hi (wipe_some e).2
  apply List.ext_getElem?
  intro i
  have l2 : σ2.length = σ.length := by rw [o.len, L2.wipe_length]
  by_cases hi : i ∈ vs
  · by_cases hl : i < σ.length
    · rw [w0 hi (by omega), w0 hi hl]
    · rw [List.getElem?_eq_none (by rw [L2.wipe_length]; omega), List.getElem?_eq_none (by rw [L2.wipe_length]; omega)]
  · rw [wipe_out hi, o.out i (fun z => hi (hs i z))]
theorem lc_rd {wi : TI} {vs is : List Nat} {t : MT} {c : MB} {tt : TT} {E0 : XK} (hs : ∀ i ∈ is, i ∈ vs) (hw : ∀ σ H R, SI C E mi σ H R → wi σ H R) (ht : ∀ σ H Q, SB C E0 c σ H Q → tt σ H Q) :
    ∀ σ H Q, SF C E (compF vs mi t c ma) σ H Q → tLc wi (SG C is t) tt (SE C E0 ma) vs σ H Q := fun σ H Q ⟨B, A, ρ, N, hm⟩ => by
  refine hw _ _ _ ⟨B, A, ρ, N, Rs.wp_mono (Rs.wp_bind hm) (fun x hx J H1 N1 g1 wk => ?_) fun _ _ _ _ h => h⟩
  obtain ⟨⟨hz, hf⟩, hx⟩ := ite_bad hx
  intro D hD
  have hAD : A D := N1.fr D (.of hD)
  have gD : Gr A H1 (A.less D) (upd H1 D (.lst [])) := fun a u _ n h => ⟨⟨n, ne_of_none h hD⟩, same_new hD a u h⟩
  have wi : ∀ ρ' : En, ∀ i ∈ vs, ∀ s, (wipeE ρ' vs)[i]? ≠ some (some s) := fun ρ' i hi s z => by
    rcases wipeE_in (ρ := ρ') hi with e | e <;> rw [e] at z <;> cases z
  have hx' := compL_out (wi _) hx
  have ww : ∀ τ : L2.St, L2.wipe (L2.wipe τ vs) vs = L2.wipe τ vs := fun τ => wipe_off (is := []) (ρ := []) (ρ' := []) ⟨rfl, fun _ _ => rfl, .refl _⟩ fun _ h => nomatch h
  -- the word of the loop
  let Wd : Nat → Hp → Prop := fun i H' => ∃ ρ' us acc, Now C B (A.less D) H' (L2.wipe σ vs) ρ' ∧ Ow x.2 ρ' ∧ Gr A H1 (A.less D) H' ∧ (∀ a o, NT o → H1 a = some o → ¬ OwnAt σ x.2 a → H' a = some o) ∧ (∀ a, Fz H' a → Fz H1 a) ∧ H' D = some (.lst us) ∧ us.length ≤ i ∧ reps C (A.less D) H' us acc ∧
    (compL vs t c ma (x.1.drop i) ρ').wp (fun r => (∀ l ws H', Fz H l → A l → Now C B (A.less l) H' σ r.2 → Gf σ A H ρ l H' r.2 → H' l = some (.lst ws) → reps C (A.less l) H' ws (acc ++ r.1) → Q (.ref l) H') ∧ ∀ i ∈ vs, ∀ s, r.2[i]? ≠ some (some s)) (EXe C E B A H σ ρ)
  refine ⟨fun i m H' => m = x.1.length - i ∧ i ≤ x.1.length ∧ Wd i H', ⟨x.1.length, by simp, Nat.zero_le _, wipeE x.2 vs, [], [], (N1.cut hD nt).wipe vs hf, .wipe, gD, fun a o _ h _ => same_new hD a o h, fun a h => h.sm (same_new hD), upd_same, Nat.zero_le _, reps_nil, by rw [List.drop_zero]; simpa using hx'⟩, ?_⟩
  rintro i m H' ⟨rfl, hi, ρ', us, acc, N', ow, g', kk, ff, hl, hu, rs, hw'⟩
  obtain ⟨w1, w2⟩ := wk _ H' g' N'.fr
  by_cases hlt : i < x.1.length
  · obtain ⟨go, yl⟩ := w1 i x.1[i] (by simp [hlt])
    refine .inr ⟨go, Wd (i + 1), fun H2 w => ⟨x.1.length - (i + 1), by omega, rfl, hlt, w⟩, fun v H2 hy => ?_⟩
    obtain ⟨s2, rv⟩ := yl v H2 hy
    have N2 := N'.same s2
    rw [List.drop_eq_getElem_cons hlt] at hw'
    unfold compL at hw'
    obtain ⟨ρ1, e1, hb⟩ := Rs.wp_opt (Rs.wp_bind hw')
    have fr' : vs.all (freeS ρ') = true := by
      rw [List.all_eq_true]
      intro i hi
      have hne : ∀ s, ρ'[i]? ≠ some (some s) := fun s z => by
        obtain ⟨v, h1, _⟩ := N'.env.sl i s z
        exact (wipe_some h1).2 hi
      unfold freeS
      cases e : ρ'[i]? with
      | none =>
        rw [List.getElem?_eq_none_iff] at e
        have e2 := N'.env.len
        rw [L2.wipe_length] at e2
        have h3 := List.all_eq_true.mp hf i hi
        unfold freeS at h3
        have e3 := N1.env.len
        rw [List.getElem?_eq_none (show x.2.length ≤ i by omega)] at h3
        cases h3
      | some u =>
        cases u with
        | none => rfl
        | some s => exact absurd e (hne s)
    have N2w := N2.wipe vs fr'
    rw [ww] at N2w
    have gs : Gr (A.less D) H' (A.less D) H2 := .same s2
    refine ⟨B, A.less D, wipeE ρ' vs, x.1[i], ρ1, N2w, rv, e1, fun σ3 N3 o3 => ⟨wipe_off o3 hs, ht _ _ _ ⟨B, A.less D, ρ1, N3, noX_wp (Rs.wp_mono (Rs.wp_bind hb) (fun k hk H4 N4 g4 => ?_) fun _ _ _ _ h => h)⟩⟩⟩
    have ow1 : Ow x.2 ρ1 := (ow.trans .wipe).trans o3.ow
    have own3 : ∀ a, OwnAt σ3 ρ1 a → OwnAt σ x.2 a := fun a ⟨j, u, h1, h2, h3⟩ => by
      obtain ⟨u1, k1, _⟩ := o3.ow j u h1 h2
      have hj : j ∉ vs := fun z => wi ρ' j z u1 k1
      obtain ⟨u0, k2, k3⟩ := ow1 j u h1 h2
      exact ⟨j, u0, k2, k3, by rw [← wipe_out hj, ← o3.out j (fun z => hj (hs j z))]; exact h3⟩
    have nD : ¬ OwnAt σ3 ρ1 D := fun z => by
      obtain ⟨j, u, h1, h2, h3⟩ := own3 D z
      exact own_ne N1 (.refl _) hAD j u h1 h2 h3
    have kk4 : ∀ a o, NT o → H1 a = some o → ¬ OwnAt σ x.2 a → H4 a = some o := fun a o t h n => g4.k a o t (s2 a o (kk a o t h n)) fun z => n (own3 a z)
    have ff4 : ∀ a, Fz H4 a → Fz H1 a := fun a h => ff a ((g4.f a h).sm s2)
    have hD4 : H4 D = some (.lst us) := g4.k D _ nt (s2 _ _ hl) nD
    by_cases hk1 : k.1 = true
    · rw [if_pos hk1] at hk
      show if k.1 = true then _ else _
      rw [if_pos hk1]
      refine ⟨B, A.less D, k.2, N4, noX_wp (Rs.wp_mono (Rs.wp_bind hk) (fun y hy w H5 N5 g5 r5 => ?_) fun _ _ _ _ h => h)⟩
      obtain ⟨hf5, hy⟩ := ite_bad hy
      have hD5 : H5 D = some (.lst us) := g5.k D _ nt hD4 fun z => nD (z.mono g4.o)
      have gu : Gr (A.less D) H5 (A.less D) (upd H5 D (.lst (us ++ [w]))) := fun a u _ n h => ⟨n, by rw [upd_ne n.2]; exact h⟩
      refine ⟨us, hD5, by omega, wipeE y.2 vs, us ++ [w], acc ++ [y.1], ?_, ((ow1.trans g4.o).trans g5.o).trans .wipe, ((((g'.trans gs).trans g4.g).trans g5.g).trans gu), fun a o t h n => ?_, fun a h => ?_, upd_same, by simp; omega, ?_, ?_⟩
      · have N6 := N5.wipe vs hf5
        rw [wipe_off o3 hs] at N6
        refine N6.outer (p := D) less_no hD5 (.inl (N1.fe D (.of hD))) nt fun j u h1 h2 h3 => ?_
        have hj : j ∉ vs := fun z => wi y.2 j z u h1
        have h1' : y.2[j]? = some (some u) := by rw [← wipeE_out hj]; exact h1
        have : OwnAt σ3 y.2 D := ⟨j, u, h1', h2, by rw [o3.out j (fun z => hj (hs j z))]; exact h3⟩
        exact nD ((this.mono g5.o).mono g4.o)
      · rw [upd_ne (ne_of_none h hD)]
        exact g5.k a o t (kk4 a o t h n) fun z => n (own3 a (z.mono g4.o))
      · have e : a ≠ D := fun z => by rw [z] at h; exact h.no upd_same nt
        exact ff4 a (g5.f a (fun u z => h u (by rw [upd_ne e]; exact z)))
      · exact reps_of (Paired.snoc (reps.gr ((gs.trans g4.g).trans (g5.g.trans gu)) rs).pair (rep.gr gu r5))
      · exact Rs.wp_mono (Rs.wp_bind hy) (fun r hr => ⟨fun l ws H' a1 a2 a3 a4 a5 a6 => hr.1 l ws H' a1 a2 a3 a4 a5 (by rw [List.append_assoc] at a6; exact a6), hr.2⟩) fun _ _ _ _ h => h
    · rw [if_neg hk1] at hk
      show if k.1 = true then _ else _
      rw [if_neg hk1]
      obtain ⟨hf5, hk⟩ := ite_bad hk
      have N6 := N4.wipe vs hf5
      rw [wipe_off o3 hs] at N6
      exact ⟨wipeE k.2 vs, us, acc, N6, (ow1.trans g4.o).trans .wipe, (g'.trans gs).trans g4.g, kk4, ff4, hD4, by omega, reps.gr (gs.trans g4.g) rs, hk⟩
  · have e : i = x.1.length := by omega
    subst e
    rw [List.drop_length] at hw'
    obtain ⟨hq, hv⟩ : (∀ l ws H', Fz H l → A l → Now C B (A.less l) H' σ ρ' → Gf σ A H ρ l H' ρ' → H' l = some (.lst ws) → reps C (A.less l) H' ws (acc ++ []) → Q (.ref l) H') ∧ ∀ i ∈ vs, ∀ s, ρ'[i]? ≠ some (some s) := hw'
    exact .inl ⟨w2, hq D us H' (g1.f D (.of hD)) hAD (N'.back hv) ⟨g1.g.trans g', g1.o.trans ow, fun a o t h n => kk a o t (g1.k a o t h n) fun z => n (z.mono g1.o), fun a h => g1.f a (ff a h)⟩ hl (by rw [List.append_nil]; exact rs)⟩
theorem y_lc {elt tg iter : Expr} {ifs : List Expr} {scope : Scope} {own : List (Str × Nat)} {pos : Pos} {is : List Nat} {t : MT} {c : MB} {tt : TT} (hc : X.calm = true) (hN : X.N.Nodup) (hi : PI X tg iter (SI C E mi)) (ok : BlkOk X.N X.env.scope scope own) (hs : ∀ i ∈ is, i ∈ own.map (·.2)) (htt : ∀ σ H Q, SB C E0 c σ H Q → tt σ H Q)
    (hg : ∀ (s : Shared) (H : Hp) (D : Addr) (cl : List (Str × Addr)) (fp : List Addr), PG (X.blk s H scope (compEnvC scope cl D X.env) fp) tg (SG C is t)) (ht : ∀ (s : Shared) (H : Hp) (D : Addr) (cl : List (Str × Addr)) (fp : List Addr), PTs (X.blk s H scope (compEnvC scope cl D X.env) fp) ifs tt)
    (he : ∀ (s : Shared) (H : Hp) (D : Addr) (cl : List (Str × Addr)) (fp : List Addr), PE (X.blk s H scope (compEnvC scope cl D X.env) fp) elt (SE C E0 ma)) (hf : ∀ x, foldedSetIterable iter X.env x = pure x := by intro _; rfl) :
    PE X (.ListComp elt [⟨tg, iter, ifs, 0⟩] scope pos) (SF C E (compF (own.map (·.2)) mi t c ma)) := PE.imp (pe_lc hc hN hi ok hg ht he hf) (lc_rd hs (fun _ _ _ h => h) htt)
end
end Y

set_option Elab.async false
set_option linter.all false
set_option maxRecDepth 100000
set_option maxHeartbeats 4000000
set_option autoImplicit false
/-! Y6: own lists changed and read; defs and their calls. -/
namespace Y
open PySem L2 Z
section
variable {X : Cx} {C : Cn} {E : XK} {e a b tg : Expr} {ma mb : ME} {ms mk : MS} {mi : MI} {es : List Expr} {ml : MA} {mf : ML} {pos : Pos}
/-- an own list's slot -/
theorem Now.lst {B : Bs} {A : Rg} {H : Hp} {σ : L2.St} {ρ : En} {i : Nat} {p : Bool} {xs : List Val} (N : Now C B A H σ ρ) (h : ρ[i]? = some (some (.ow p xs))) : ∃ l vs, σ[i]? = some (some (.ref l)) ∧ ¬ A l ∧ H l = some (.lst vs) ∧ reps C A H vs xs := by
  obtain ⟨v, h1, l, vs, rfl, n, hl, r⟩ := N.slot h
  exact ⟨l, vs, h1, n, hl, r⟩
theorem gr_put {A : Rg} {H : Hp} {l : Addr} {o : HO} (n : ¬ A l) : Gr A H A (upd H l o) := fun a u _ k h => ⟨k, by rw [upd_ne (fun z => n (by rw [← z]; exact k))]; exact h⟩
theorem ow_set {ρ : En} {i : Nat} {s s' : SV} (h : ρ[i]? = some (some s)) (o : s.own = true) : Ow ρ (ρ.set i (some s')) := fun j t hj ot => by
  rcases getset hj with ⟨e, _, _⟩ | ⟨_, hj⟩
  · subst e; exact ⟨s, h, o⟩
  · exact ⟨t, hj, ot⟩
/-- x.append(e) -/
def appS (i : Nat) (m : ME) : MS := fun ρ => match ρ[i]? with
  | some (some (.ow _ _)) => m ρ >>= fun x => match x.2[i]? with
    | some (some (.ow p xs)) => if xs.length < sizeLine then .ok (.nx (x.2.set i (some (.ow p (xs ++ [x.1]))))) else .bad
    | _ => .bad
  | _ => .bad
theorem ys_app {i : Nat} {st : Stmt} (hK : X.K = C.K) (h : PS X st (tDrop (tBM X.K "list" rAppend (tVar i) (tCons (SE C E ma) tNil)))) : PS X st (SS C E (appS i ma)) := PS.imp h fun D σ H ⟨B, A, ρ, N, hm⟩ => by
  unfold appS at hm
  split at hm
  · rename_i p0 xs0 h0
    obtain ⟨l, vs, hσ, nA, hl, r⟩ := N.lst h0
    refine ⟨_, hσ, .inl ⟨rfl, vs, SqL.of hl⟩, B, A, ρ, N, Rs.wp_mono (Rs.wp_bind hm) (fun x hx v H1 N1 g1 r1 => ?_) EXe.of⟩
    split at hx
    · rename_i p xs h1
      obtain ⟨hz, hx⟩ := ite_bad hx
      obtain ⟨l', ws, hσ', nA', hl', r'⟩ := N1.lst h1
      rw [hσ] at hσ'; cases hσ'
      refine ⟨l, ws, v, rfl, rfl, hl', by rw [r'.len]; exact hz, ?_⟩
      have N2 := N1.put (s' := .ow p (xs ++ [x.1])) (o := .lst (ws ++ [v])) h1 rfl hσ hl' (fun _ z => nomatch z) nt rfl rfl ⟨l, _, rfl, nA', upd_same, reps_of (Paired.snoc (reps.gr (gr_put nA') r').pair (rep.gr (gr_put nA') r1))⟩
      exact hx A σ _ N2 (g1.g.trans (gr_put nA'))
    · exact hx.elim
  · exact hm.elim
/-- x.extend(e), e a list -/
def extS (i : Nat) (m : ME) : MS := fun ρ => match ρ[i]? with
  | some (some (.ow _ _)) => m ρ >>= fun x => match x.2[i]?, x.1 with
    | some (some (.ow p xs)), .lst ys => if xs.length + ys.length ≤ sizeLine then .ok (.nx (x.2.set i (some (.ow p (xs ++ ys))))) else .bad
    | _, _ => .bad
  | _ => .bad
theorem reps.app {A : Rg} {H : Hp} : ∀ {xs : List Val} {vs : List V} {ys : List Val} {ws : List V}, reps C A H vs xs → reps C A H ws ys → reps C A H (vs ++ ws) (xs ++ ys)
  | [], vs, _, _, h, k => by unfold reps at h; subst h; exact k
  | x :: xs, vs, _, _, h, k => by
    unfold reps at h
    obtain ⟨v, r, rfl, h1, h2⟩ := h
    exact reps_cons h1 (reps.app h2 k)
theorem ys_ext {i : Nat} {st : Stmt} (hK : X.K = C.K) (h : PS X st (tDrop (tBM X.K "list" rExtend (tVar i) (tCons (SE C E ma) tNil)))) : PS X st (SS C E (extS i ma)) := PS.imp h fun D σ H ⟨B, A, ρ, N, hm⟩ => by
  unfold extS at hm
  split at hm
  · rename_i p0 xs0 h0
    obtain ⟨l, vs, hσ, nA, hl, r⟩ := N.lst h0
    refine ⟨_, hσ, .inl ⟨rfl, vs, SqL.of hl⟩, B, A, ρ, N, Rs.wp_mono (Rs.wp_bind hm) (fun x hx v H1 N1 g1 r1 => ?_) EXe.of⟩
    split at hx
    · rename_i p xs ys h1 h2
      obtain ⟨hz, hx⟩ := ite_bad hx
      obtain ⟨l', ws, hσ', nA', hl', r'⟩ := N1.lst h1
      rw [hσ] at hσ'; cases hσ'
      rw [h2] at r1
      obtain ⟨b, us, rfl, nb, hb, rb⟩ := rep_lst.mp r1
      refine ⟨l, b, ws, us, rfl, rfl, hl', hb, by rw [r'.len, rb.len]; exact hz, ?_⟩
      have N2 := N1.put (s' := .ow p (xs ++ ys)) (o := .lst (ws ++ us)) h1 rfl hσ hl' (fun _ z => nomatch z) nt rfl rfl ⟨l, _, rfl, nA', upd_same, reps.app (reps.gr (gr_put nA') r') (reps.gr (gr_put nA') rb)⟩
      exact hx A σ _ N2 (g1.g.trans (gr_put nA'))
    · exact hx.elim
  · exact hm.elim
/-- x[k] = e -/
def setS (i : Nat) (mk : ME) (m : ME) : MS := fun ρ => m ρ >>= fun x => match x.2[i]? with
  | some (some (.ow _ _)) => mk x.2 >>= fun k => match k.2[i]?, k.1 with
    | some (some (.ow p xs)), .int j => match ixN xs.length j with
      | some n => .ok (.nx (k.2.set i (some (.ow p (xs.set n x.1)))))
      | none => .bad
    | _, _ => .bad
  | _ => .bad
theorem reps.set {A : Rg} {H : Hp} {v : V} {x : Val} (h : rep C A H v x) : ∀ {xs : List Val} {vs : List V} {n : Nat}, reps C A H vs xs → reps C A H (vs.set n v) (xs.set n x)
  | [], vs, n, k => by unfold reps at k; subst k; exact reps_nil
  | y :: ys, vs, n, k => by
    unfold reps at k
    obtain ⟨u, r, rfl, h1, h2⟩ := k
    cases n with
    | zero => exact reps_cons h h2
    | succ n => exact reps_cons h1 (reps.set h (n := n) h2)
theorem ys_set {i : Nat} {mk' : ME} {st : Stmt} (h : PS X st (tAsg (SE C E ma) (gSub (tVar i) (SE C E mk') rSetL))) : PS X st (SS C E (setS i mk' ma)) := PS.imp h fun D σ H ⟨B, A, ρ, N, hm⟩ =>
  ⟨B, A, ρ, N, Rs.wp_mono (Rs.wp_bind hm) (fun x hx v H1 N1 g1 r1 => by
    split at hx
    · rename_i p0 xs0 h0
      obtain ⟨l, vs, hσ, nA, hl, r⟩ := N1.lst h0
      refine ⟨_, hσ, B, A, x.2, N1, Rs.wp_mono (Rs.wp_bind hx) (fun k hk u H2 N2 g2 r2 => ?_) (EXe.of)⟩
      split at hk
      · rename_i p xs j h1 h2
        split at hk
        · rename_i n hn
          obtain ⟨l', ws, hσ', nA', hl', r'⟩ := N2.lst h1
          rw [hσ] at hσ'; cases hσ'
          rw [h2] at r2
          refine ⟨l, ws, j, n, rfl, rep_int.mp r2, hl', by rw [r'.len]; exact hn, ?_⟩
          have N3 := N2.put (s' := .ow p (xs.set n x.1)) (o := .lst (ws.set n v)) h1 rfl hσ hl' (fun _ z => nomatch z) nt rfl rfl ⟨l, _, rfl, nA', upd_same, reps.set (rep.gr (gr_put nA') (rep.gr g2.g r1)) (reps.gr (gr_put nA') r')⟩
          exact hk A σ _ N3 ((g1.trans g2).g.trans (gr_put nA'))
        · exact hk.elim
      · exact hk.elim
    · exact hx.elim) EXe.of⟩
/-- x[k] of an own list -/
def ixO (i : Nat) (mk : ME) : ME := fun ρ => match ρ[i]? with
  | some (some (.ow _ _)) => mk ρ >>= fun k => match k.2[i]?, k.1 with
    | some (some (.ow p xs)), .int j => Rs.opt (atI xs j) >>= fun z => .ok (z, k.2)
    | _, _ => .bad
  | _ => .bad
theorem reps.at {A : Rg} {H : Hp} {xs : List Val} {vs : List V} {j : Int} {x : Val} (r : reps C A H vs xs) (h : atI xs j = some x) : ∃ v, atI vs j = some v ∧ rep C A H v x := by
  unfold atI at h ⊢
  rw [r.len]
  cases e : ixN xs.length j with
  | none => rw [e] at h; cases h
  | some n =>
    rw [e] at h
    exact wk_list.paired_at' r.pair h
theorem y_ixO {i : Nat} (h : PE X e (tOp (rIx C.K) (tVar i) (SE C E mb))) : PE X e (SE C E (ixO i mb)) := PE.imp h fun σ H Q ⟨B, A, ρ, N, hm⟩ => by
  unfold ixO at hm
  split at hm
  · rename_i p0 xs0 h0
    obtain ⟨l, vs, hσ, nA, hl, r⟩ := N.lst h0
    refine ⟨_, hσ, B, A, ρ, N, Rs.wp_mono (Rs.wp_bind hm) (fun k hk u H1 N1 g1 r1 => ?_) fun _ _ _ _ h => h⟩
    split at hk
    · rename_i p xs j h1 h2
      obtain ⟨z, e, hz⟩ := Rs.wp_opt (Rs.wp_bind hk)
      obtain ⟨l', ws, hσ', nA', hl', r'⟩ := N1.lst h1
      rw [hσ] at hσ'; cases hσ'
      rw [h2] at r1
      obtain ⟨v, hv, rv⟩ := r'.at e
      exact .inl ⟨l, ws, j, v, rfl, rep_int.mp r1, SqL.of hl', hv, hz v H1 N1 g1 rv⟩
    · exact hk.elim
  · exact hm.elim
/-- len(x) of an own list -/
def lenO (i : Nat) : ME := fun ρ => match ρ[i]? with
  | some (some (.ow _ xs)) => .ok (.int xs.length, ρ)
  | _ => .bad
theorem y_lenO {i : Nat} (h : PE X e (tCB (fun xs H Q => ∃ p ys, xs = [.ref p] ∧ (SqL C.K H p ys ∨ SqT C.K H p ys) ∧ Q (.int ys.length) H) (tCons (tVar i) tNil))) : PE X e (SE C E (lenO i)) := PE.imp h fun σ H Q ⟨B, A, ρ, N, hm⟩ => by
  unfold lenO at hm
  split at hm
  · rename_i p0 xs0 h0
    obtain ⟨l, vs, hσ, nA, hl, r⟩ := N.lst h0
    exact ⟨_, hσ, l, vs, rfl, .inl (SqL.of hl), hm _ H N (.refl _ _ _ _) (rep_int.mpr (by rw [r.len]))⟩
  · exact hm.elim
/-! ### defs -/
def finM (o : Rs Out) : Rs (Val × En) := o >>= fun o => match o with | .nx ρ => .ok (.non, ρ) | .rt x ρ => .ok (x, ρ) | _ => .bad
def padE (ρ : En) (n : Nat) : En := ρ ++ List.replicate (n - ρ.length) none
/-- the slots that came in as own: as they are now -/
def ownAft (C : Cn) (A : Rg) (H' : Hp) (vs : List V) (ρ ρ' : En) : Prop := ∀ (i : Nat) (s : SV), ρ[i]? = some (some s) → s.own = true → ∃ v s', vs[i]? = some v ∧ ρ'[i]? = some (some s') ∧ s'.own = true ∧ s'.pin = true ∧ slr C A H' v s'
/-- what a def of np parameters and n slots promises by its body's mirror -/
structure Aft (C : Cn) (A : Rg) (vs : List V) (ρ : En) (H : Hp) (H' : Hp) (ρ' : En) : Prop where
  kp : ∀ a o, NT o → ¬ OwnAt (vs.map some) ρ a → H a = some o → H' a = some o
  fe : ∀ a, Fz H' a → Fz H a
  tb : LamX.Tabs C.T H'
  ow : ownAft C A H' vs ρ ρ'
def spF (C : Cn) (np n : Nat) (body : MS) : Sp := fun vs H Q E => ∃ A ρ, Fq A H ∧ LamX.Tabs C.T H ∧ vs.length = np ∧ np ≤ n ∧ EnvR C A H (vs.map some) ρ ∧ (∀ (i : Nat) (s : SV), ρ[i]? = some (some s) → s.own = true → s.pin = true) ∧
  (finM (body (padE ρ n))).wp (fun r => ∀ v H', Aft C A vs ρ H H' r.2 → rep C A H' v r.1 → Q v H')
    (fun c ns xs ρ' => ∀ d ws H', Aft C A vs ρ H H' ρ' → A d → H' d = some (.xd (ns.zip ws)) → ns.length = xs.length → reps C A H' ws xs → E (.ref (C.ca c)) (some d) H')
def pinsOf (vs : List V) (ρ : En) : List (Nat × Addr) := (List.range ρ.length).filterMap fun i => match (ρ[i]? : Option (Option SV)), (vs[i]? : Option V) with
  | some (some s), some (V.ref l) => if s.own = true then some (i, l) else none
  | _, _ => none
theorem mem_pins {vs : List V} {ρ : En} {i : Nat} {l : Addr} : (i, l) ∈ pinsOf vs ρ ↔ ∃ s, ρ[i]? = some (some s) ∧ s.own = true ∧ vs[i]? = some (.ref l) := by
  unfold pinsOf
  rw [List.mem_filterMap]
  constructor
  · rintro ⟨j, hj, h⟩
    split at h
    · rename_i s l' h1 h2
      split at h
      · rename_i o
        cases h
        exact ⟨s, h1, o, h2⟩
      · cases h
    · cases h
  · rintro ⟨s, h1, o, h2⟩
    refine ⟨i, List.mem_range.mpr (List.getElem?_eq_some_iff.mp h1).1, ?_⟩
    rw [h1, h2]
    simp [o]
theorem pad_get {ρ : En} {n i : Nat} {s : SV} : (padE ρ n)[i]? = some (some s) ↔ ρ[i]? = some (some s) := by
  unfold padE
  rw [List.getElem?_append]
  split
  · exact Iff.rfl
  · rename_i h
    rw [List.getElem?_eq_none (show ρ.length ≤ i by omega)]
    constructor
    · intro z
      rw [List.getElem?_replicate] at z
      split at z <;> cases z
    · intro z; cases z
theorem start_get {N : List Str} {vs : List V} {i : Nat} (h : i < vs.length) : (L2.start N vs)[i]? = (vs.map some)[i]? := by
  unfold L2.start
  rw [List.getElem?_append_left (by simpa using h)]
theorem slr.le {A A' : Rg} {H : Hp} {v : V} {s : SV} (le : ∀ a, A' a → A a) (n : s.own = true → ∀ l, v = .ref l → ¬ A l) (h : slr C A' H v s) : slr C A H v s := slr.gr (fun a o _ k e => ⟨le a k, e⟩) n h
/-- where a def begins -/
theorem now_start {A : Rg} {H : Hp} {vs : List V} {ρ : En} {N : List Str} (fr : Fq A H) (tb : LamX.Tabs C.T H) (env : EnvR C A H (vs.map some) ρ) (hp : ∀ (i : Nat) (s : SV), ρ[i]? = some (some s) → s.own = true → s.pin = true) :
    Now C ⟨A, H, pinsOf vs ρ⟩ A H (L2.start N vs) (padE ρ N.length) ∧ (∀ a, (⟨A, H, pinsOf vs ρ⟩ : Bs).Z a ↔ OwnAt (vs.map some) ρ a) := by
  have lρ : ρ.length = vs.length := by rw [← env.len, List.length_map]
  have at_ : ∀ {i : Nat} {s : SV}, ρ[i]? = some (some s) → i < vs.length := fun {i s} h => by rw [← lρ]; exact (List.getElem?_eq_some_iff.mp h).1
  have own_at : ∀ a, (⟨A, H, pinsOf vs ρ⟩ : Bs).Z a ↔ OwnAt (vs.map some) ρ a := fun a => by
    constructor
    · rintro ⟨i, hi⟩
      obtain ⟨s, h1, h2, h3⟩ := mem_pins.mp hi
      exact ⟨i, s, h1, h2, by rw [List.getElem?_map, h3]; rfl⟩
    · rintro ⟨i, s, h1, h2, h3⟩
      refine ⟨i, mem_pins.mpr ⟨s, h1, h2, ?_⟩⟩
      rw [List.getElem?_map] at h3
      cases e : vs[i]? with
      | none => rw [e] at h3; cases h3
      | some v => rw [e] at h3; cases h3; rfl
  refine ⟨⟨⟨?_, fun i s h => ?_, fun i j s t v ij hs ht os ot hv => ?_⟩, fr, fr, fun a z => ?_, fun _ h => h, fun a o _ _ h => h, tb, fun _ h => h, fun i s l h o e => .inr ⟨⟨i, mem_pins.mpr ⟨s, pad_get.mp h, o, ?_⟩⟩, hp i s (pad_get.mp h) o⟩, fun i l h => ?_⟩, own_at⟩
  · unfold L2.start padE
    rw [List.length_append, List.length_append, List.length_map, List.length_replicate, List.length_replicate, lρ]
  · have h' := pad_get.mp h
    obtain ⟨v, h1, h2⟩ := env.sl i s h'
    exact ⟨v, by rw [start_get (at_ h')]; exact h1, h2⟩
  · have hs' := pad_get.mp hs
    have ht' := pad_get.mp ht
    rw [start_get (at_ hs')] at hv
    rw [start_get (at_ ht')]
    exact env.ne i j s t v ij hs' ht' os ot hv
  · obtain ⟨i, s, h1, h2, h3⟩ := (own_at a).mp z
    obtain ⟨v, k1, k2⟩ := env.sl i s h1
    rw [h3] at k1; cases k1
    obtain ⟨l, e, n, _⟩ := k2.at h2
    cases e; exact n
  · have h' := pad_get.mp h
    rw [start_get (at_ h'), List.getElem?_map] at e
    cases e2 : vs[i]? with
    | none => rw [e2] at e; cases e
    | some v => rw [e2] at e; cases e; rfl
  · obtain ⟨s, h1, h2, h3⟩ := mem_pins.mp h
    exact ⟨by rw [start_get (at_ h1), List.getElem?_map, h3]; rfl, s, pad_get.mpr h1, h2, hp i s h1 h2⟩
/-- where it ends -/
theorem now_aft {A A' : Rg} {H H' : Hp} {vs : List V} {ρ ρ' : En} {σ' : L2.St} (env : EnvR C A H (vs.map some) ρ) (own_at : ∀ a, (⟨A, H, pinsOf vs ρ⟩ : Bs).Z a ↔ OwnAt (vs.map some) ρ a) (N' : Now C ⟨A, H, pinsOf vs ρ⟩ A' H' σ' ρ') : Aft C A vs ρ H H' ρ' := by
  refine ⟨fun a o t z h => N'.kp a o t (fun q => z ((own_at a).mp q)) h, N'.fe, N'.tb, fun i s h o => ?_⟩
  obtain ⟨v, k1, k2⟩ := env.sl i s h
  obtain ⟨l, e, n, _⟩ := k2.at o
  subst e
  have hv : vs[i]? = some (.ref l) := by
    rw [List.getElem?_map] at k1
    cases e2 : vs[i]? with
    | none => rw [e2] at k1; cases k1
    | some v => rw [e2] at k1; cases k1; rfl
  obtain ⟨q1, s', q2, q3, q4⟩ := N'.pn i l (mem_pins.mpr ⟨s, h, o, hv⟩)
  obtain ⟨u, q5, q6⟩ := N'.env.sl i s' q2
  rw [q1] at q5; cases q5
  exact ⟨_, s', hv, q2, q3, q4, q6.le N'.le fun _ m e => by cases e; exact n⟩
theorem spF.rd {np : Nat} {N : List Str} {body : MS} {vs : List V} {H : Hp} {Q : VK} (h : spF C np N.length body vs H Q E) : SS C E body { nx := fun _ H' => Q .non H', rt := Q } (L2.start N vs) H := by
  obtain ⟨A, ρ, fr, tb, hl, hnp, env, hp, hw⟩ := h
  obtain ⟨N0, own_at⟩ := now_start (N := N) fr tb env hp
  refine ⟨_, A, _, N0, ?_⟩
  unfold finM at hw
  have toA : ∀ {A' : Rg} {H' : Hp} {σ' : L2.St} {ρ' : En}, Now C ⟨A, H, pinsOf vs ρ⟩ A' H' σ' ρ' → Gr A' H' A H' := fun N' a o _ k e => ⟨N'.le a k, e⟩
  refine Rs.wp_mono (Rs.wp_bind hw) (fun o ho => ?_) fun c ns xs ρ' ho => ?_
  · cases o with
    | nx ρ' => exact fun A' σ' H' N' _ => ho .non H' (now_aft env own_at N') (rep_non.mpr rfl)
    | rt y ρ' => exact fun v A' σ' H' N' _ r => ho v H' (now_aft env own_at N') (rep.gr (toA N') r)
    | bk ρ' => exact ho.elim
    | ct ρ' => exact ho.elim
  · exact fun d ws A' σ' H' N' hd h1 h2 h3 => ho d ws H' (now_aft env own_at N') (N'.le d hd) h1 h2 (reps.gr (toA N') h3)
section
variable {P : Program} {w : World} {mg : Str → Option Value} {base : Heap} {x qual : Str} {st : Stmt} {f : Addr} {fd : FuncData} {N ps : List Str} {k : Nat} {body : MS}
/-- a def keeps its promise -/
theorem y_fn (F : Fun C.K x qual st f fd) (S : FnScope N ps (defScope st)) (hn : ps.length ≤ N.length)
    (hbody : ∀ (cdv : Value) (A : Around) (outer : List PySem.Env) (s : Shared) (H : Hp) (E : XK), Room k (A.deeper (PyProof.Rows.envOfC qual (defScope st) s.heap.objs.size f cdv)) → PSs (cxOf (L2.CX P w) P w C.K mg base N qual (defScope st) f cdv A outer s H E) (defBody st) (SS C E body)) :
    FnOk P w C.K mg base (L2.CX P w) (k + 1) f fd ps (spF C ps.length N.length body) :=
  F.okX S (fun vs H Q E h => h.choose_spec.choose_spec.2.2.1) fun cdv A0 outer s H vs Q E hr h => ⟨SS C E body, hbody cdv A0 outer s H E hr, h.rd⟩
/-- .. a def whose code object is told -/
theorem y_fnL {oc kV doc pm ct : Value} {od an : Option Addr} {osl : Array (Option Value)} {c : Addr} (lk : C.K.lookup f = some ⟨oc, od, .func (PySem.W.fnOf x qual (defArgs st) (defBody st) (defScope st) .none kV doc pm an (.ref c) ct), osl⟩) (hcd : PySem.W.codeIn C.K (.ref c) qual = true) (S : FnScope N ps (defScope st)) (hn : ps.length ≤ N.length)
    (hbody : ∀ (A : Around) (outer : List PySem.Env) (s : Shared) (H : Hp) (E : XK), Room k (A.deeper (PyProof.Rows.envOfC qual (defScope st) s.heap.objs.size f (.ref c))) → PSs (cxOf (L2.CX P w) P w C.K mg base N qual (defScope st) f (.ref c) A outer s H E) (defBody st) (SS C E body)) :
    FnOk P w C.K mg base (L2.CX P w) (k + 1) f (PySem.W.fnOf x qual (defArgs st) (defBody st) (defScope st) .none kV doc pm an (.ref c) ct) ps (spF C ps.length N.length body) :=
  fn_of lk hcd S (fun vs H Q E h => h.choose_spec.choose_spec.2.2.1) fun A0 outer s H vs Q E hr h => ⟨SS C E body, hbody A0 outer s H E hr, h.rd⟩
/-- a def that returns a new list -/
def spN (C : Cn) (np n : Nat) (m : ML) : Sp := fun vs H Q _ => ∃ A ρ, Fq A H ∧ LamX.Tabs C.T H ∧ vs.length = np ∧ np ≤ n ∧ EnvR C A H (vs.map some) ρ ∧ (∀ (i : Nat) (s : SV), ρ[i]? = some (some s) → s.own = true → s.pin = true) ∧
  (m (padE ρ n)).wp (fun r => ∀ l us H', Fz H l → A l → Aft C A vs ρ H H' r.2 → H' l = some (.lst us) → reps C (A.less l) H' us r.1 → Q (.ref l) H') fun _ _ _ _ => False
theorem y_fnN {m : ML} {e : Expr} {pos : Pos} (F : Fun C.K x qual st f fd) (S : FnScope N ps (defScope st)) (hst : defBody st = [.Return (some e) pos])
    (hbody : ∀ (cdv : Value) (A : Around) (outer : List PySem.Env) (s : Shared) (H : Hp) (E : XK), Room k (A.deeper (PyProof.Rows.envOfC qual (defScope st) s.heap.objs.size f cdv)) → PE (cxOf (L2.CX P w) P w C.K mg base N qual (defScope st) f cdv A outer s H E) e (SF C E m)) :
    FnOk P w C.K mg base (L2.CX P w) (k + 1) f fd ps (spN C ps.length N.length m) := by
  refine F.okX S (fun vs H Q E h => h.choose_spec.choose_spec.2.2.1) fun cdv A0 outer s H vs Q E hr h => ⟨tRet (SF C E m), by rw [hst]; exact pss_one (ps_ret (hbody cdv A0 outer s H E hr)), ?_⟩
  obtain ⟨A, ρ, fr, tb, hl, hnp, env, hp, hw⟩ := h
  obtain ⟨N0, own_at⟩ := now_start (N := N) fr tb env hp
  exact ⟨_, A, _, N0, Rs.wp_mono hw (fun r hr l us H' h0 hA N' g hl r' => hr l us H' h0 hA (now_aft env own_at N') hl r') fun _ _ _ _ h => h.elim⟩
end
/-! ### calls -/
/-- a def as a function of frozen values -/
def runF (n : Nat) (body : MS) (xs : List Val) : Rs (Val × En) := finM (body (padE (xs.map fun x => some (.fz x)) n))
def reE {α : Type} (r : Rs α) (ρ : En) : Rs α := match r with | .exc c ns vs _ => .exc c ns vs ρ | .ok x => .ok x | .bad => .bad
/-- f(e, ..): no own argument -/
def callM (np n : Nat) (body : MS) (a : MA) : ME := fun ρ => a ρ >>= fun x => if x.1.length = np ∧ np ≤ n then reE (runF n body x.1) x.2 >>= fun r => .ok (r.1, x.2) else .bad
theorem env_fz {A : Rg} {H : Hp} {vs : List V} {xs : List Val} (r : reps C A H vs xs) : EnvR C A H (vs.map some) (xs.map fun x => some (.fz x)) := by
  refine ⟨by simp [r.len], fun i s h => ?_, fun i j s t v _ hs _ os _ _ => ?_⟩
  · rw [List.getElem?_map] at h
    cases e : xs[i]? with
    | none => rw [e] at h; cases h
    | some x =>
      rw [e] at h; cases h
      obtain ⟨v, hv, rv⟩ := wk_list.paired_at' r.pair e
      exact ⟨v, by rw [List.getElem?_map, hv]; rfl, rv⟩
  · rw [List.getElem?_map] at hs
    cases e : xs[i]? with
    | none => rw [e] at hs; cases hs
    | some x => rw [e] at hs; cases hs; cases os
theorem no_own {vs : List V} {xs : List Val} {a : Addr} : ¬ OwnAt (vs.map some) (xs.map fun x => some (.fz x)) a := fun ⟨i, s, h, o, _⟩ => by
  rw [List.getElem?_map] at h
  cases e : xs[i]? with
  | none => rw [e] at h; cases h
  | some x => rw [e] at h; cases h; cases o
/-- nothing that was tracked changed but tables -/
theorem Now.kept {B : Bs} {A : Rg} {H H' : Hp} {σ : L2.St} {ρ : En} (N : Now C B A H σ ρ) (k : ∀ a o, NT o → H a = some o → H' a = some o) (f : ∀ a, Fz H' a → Fz H a) (t : LamX.Tabs C.T H') : Now C B A H' σ ρ := by
  have g : Gr A H A H' := fun a o n x h => ⟨x, k a o n h⟩
  refine ⟨⟨N.env.len, fun i s h => ?_, N.env.ne⟩, fun q h => N.fr q (f q h), N.f0, N.nz, N.le, fun a o n z h => k a o n (N.kp a o n z h), t, fun a h => N.fe a (f a h), N.ow, N.pn⟩
  obtain ⟨v, h1, h2⟩ := N.env.sl i s h
  refine ⟨v, h1, ?_⟩
  cases s with
  | fz x => exact rep.gr g h2
  | ow p xs => obtain ⟨l, vs, e1, n, q, r⟩ := h2; exact ⟨l, vs, e1, n, k _ _ nt q, reps.gr g r⟩
  | od p ks xs => obtain ⟨l, vs, e1, n, q, z, r⟩ := h2; exact ⟨l, vs, e1, n, k _ _ nt q, z, reps.gr g r⟩
  | oi p c ns xs => obtain ⟨l, dx, vs, e1, n, n2, q, q2, z, r⟩ := h2; exact ⟨l, dx, vs, e1, n, n2, k _ _ nt q, k _ _ nt q2, z, reps.gr g r⟩
theorem Gd.kept {A : Rg} {H H' : Hp} {σ : L2.St} {ρ : En} (k : ∀ a o, NT o → H a = some o → H' a = some o) (f : ∀ a, Fz H' a → Fz H a) : Gd σ A H ρ H' ρ := ⟨fun a o n x h => ⟨x, k a o n h⟩, .refl _, fun a o n h _ => k a o n h, f⟩
theorem call_core {np n : Nat} {body : MS} {B : Bs} {A : Rg} {H1 : Hp} {σ : L2.St} {ρ1 : En} {vs : List V} {xs : List Val} {Q : VK} (N1 : Now C B A H1 σ ρ1) (r1 : reps C A H1 vs xs)
    (hx : (if xs.length = np ∧ np ≤ n then reE (runF n body xs) ρ1 >>= fun r => .ok (r.1, ρ1) else .bad : Rs (Val × En)).wp (fun x => ∀ v H', Now C B A H' σ x.2 → Gd σ A H1 ρ1 H' x.2 → rep C A H' v x.1 → Q v H') (EXe C E B A H1 σ ρ1)) : spF C np n body vs H1 Q E := by
  obtain ⟨⟨hl, hn⟩, hx⟩ := ite_bad hx
  refine ⟨A, xs.map fun x => some (.fz x), N1.fr, N1.tb, by rw [r1.len]; exact hl, hn, env_fz r1, fun i s h o => ?_, ?_⟩
  · rw [List.getElem?_map] at h
    cases e : xs[i]? with
    | none => rw [e] at h; cases h
    | some y => rw [e] at h; cases h; cases o
  · have hw := Rs.wp_bind hx
    unfold runF at hw
    have kp : ∀ {H' : Hp} {ρ' : En}, Aft C A vs (xs.map fun x => some (.fz x)) H1 H' ρ' → ∀ a o, NT o → H1 a = some o → H' a = some o := fun k a o t h => k.kp a o t no_own h
    cases e : finM (body (padE (xs.map fun x => some (.fz x)) n)) with
    | bad => rw [e] at hw; exact hw.elim
    | ok r =>
      rw [e] at hw
      exact fun v H' k rv => hw v H' (N1.kept (kp k) k.fe k.tb) (.kept (kp k) k.fe) rv
    | exc c ns ys ρ' =>
      rw [e] at hw
      exact fun d ws H' k hd h1 h2 h3 => hw d ws H' (N1.kept (kp k) k.fe k.tb) (.kept (kp k) k.fe) hd h1 h2 h3
theorem call_rd {np n : Nat} {body : MS} : ∀ σ H Q, SE C E (callM np n body ml) σ H Q → tCall (spF C np n body) [] E (SA C E ml) σ H Q := fun σ H Q ⟨B, A, ρ, N, hm⟩ =>
  ⟨B, A, ρ, N, Rs.wp_mono (Rs.wp_bind hm) (fun x hx vs H1 N1 g1 r1 => by
    show spF C np n body (vs ++ []) H1 Q E
    rw [List.append_nil]
    exact call_core N1 r1 (Rs.wp_mono hx (fun y hy v H2 N2 g2 r2 => hy v H2 N2 (g1.trans g2) r2) (EXe.tr g1))) fun _ _ _ _ h => h⟩
/-- x = f(..), f's answer a new list -/
def callN (np n : Nat) (m : ML) (a : MA) : ML := fun ρ => a ρ >>= fun x => if x.1.length = np ∧ np ≤ n then (match m (padE (x.1.map fun x => some (.fz x)) n) with | .ok r => .ok (r.1, x.2) | _ => .bad) else .bad
theorem callN_rd {np n : Nat} {m : ML} : ∀ σ H Q, SF C E (callN np n m ml) σ H Q → tCall (spN C np n m) [] E (SA C E ml) σ H Q := fun σ H Q ⟨B, A, ρ, N, hm⟩ =>
  ⟨B, A, ρ, N, Rs.wp_mono (Rs.wp_bind hm) (fun x hx vs H1 N1 g1 r1 => by
    show spN C np n m (vs ++ []) H1 Q E
    rw [List.append_nil]
    obtain ⟨⟨hl, hn⟩, hx⟩ := ite_bad hx
    refine ⟨A, x.1.map fun x => some (.fz x), N1.fr, N1.tb, by rw [r1.len]; exact hl, hn, env_fz r1, fun i s h o => ?_, ?_⟩
    · rw [List.getElem?_map] at h
      cases e : x.1[i]? with
      | none => rw [e] at h; cases h
      | some y => rw [e] at h; cases h; cases o
    · cases e : m (padE (x.1.map fun x => some (.fz x)) n) with
      | bad => rw [e] at hx; exact hx.elim
      | exc c ns ys ρ' => rw [e] at hx; exact hx.elim
      | ok r =>
        rw [e] at hx
        intro l us H' h0 hA af hl' r'
        have kp : ∀ a o, NT o → H1 a = some o → H' a = some o := fun a o t h => af.kp a o t no_own h
        have g : Gr A H1 (A.less l) H' := fun a o t n h => ⟨⟨n, fun z => h0.no (by rw [← z]; exact h) t⟩, kp a o t h⟩
        have N2 := (N1.kept kp af.fe af.tb)
        have ne := own_ne N1 (.refl _) hA
        refine hx l us H' (g1.f l h0) hA ?_ ⟨g1.g.trans g, g1.o, fun a o t h n => kp a o t (g1.k a o t h n), fun a h => g1.f a (af.fe a h)⟩ hl' r'
        refine ⟨⟨N2.env.len, fun i s h => ?_, N2.env.ne⟩, fun q h => ⟨N2.fr q h, fun z => by subst z; exact h.no hl' nt⟩, N2.f0, N2.nz, fun a h => N2.le a h.1, N2.kp, N2.tb, N2.fe, N2.ow, N2.pn⟩
        obtain ⟨v, h1, h2⟩ := N1.env.sl i s h
        refine ⟨v, h1, ?_⟩
        cases s with
        | fz x => exact rep.gr g h2
        | ow p xs => obtain ⟨l', ws, e1, n, q, r⟩ := h2; exact ⟨l', ws, e1, fun z => n z.1, kp _ _ nt q, reps.gr g r⟩
        | od p ks xs => obtain ⟨l', ws, e1, n, q, z, r⟩ := h2; exact ⟨l', ws, e1, fun z => n z.1, kp _ _ nt q, z, reps.gr g r⟩
        | oi p c ns xs => obtain ⟨l', dx, ws, e1, n, n2, q, q2, z, r⟩ := h2; exact ⟨l', dx, ws, e1, fun z => n z.1, (g dx _ nt n2 q2).1, kp _ _ nt q, kp _ _ nt q2, z, reps.gr g r⟩) fun _ _ _ _ h => h⟩
end
end Y

set_option Elab.async false
set_option linter.all false
set_option maxRecDepth 100000
set_option maxHeartbeats 4000000
set_option autoImplicit false
/-! Y7: what operators and built-ins make of values. -/
namespace Y
open PySem L2 Z
/-! ### numbers -/
def addV : Val → Val → Option Val | .int i, .int j => some (.int (i + j)) | .str s, .str t => if s.length + t.length ≤ sizeLine then some (.str (s ++ t)) else none | _, _ => none
def subV : Val → Val → Option Val | .int i, .int j => some (.int (i - j)) | _, _ => none
def mulV : Val → Val → Option Val | .int i, .int j => if i.natAbs.log2 + j.natAbs.log2 < 134000000 then some (.int (i * j)) else none | _, _ => none
def divV : Val → Val → Option Val | .int i, .int j => if 0 < j ∧ j.natAbs.log2 < 9000 then some (.int (i / j)) else if j < 0 ∧ j.natAbs.log2 < 9000 then some (.int (i.fdiv j)) else none | _, _ => none
def modV : Val → Val → Option Val | .int i, .int j => if 0 < j then some (.int (i % j)) else if j ≠ 0 then some (.int (i.fmod j)) else none | _, _ => none
def powV : Val → Val → Option Val | .int i, .int j => if 0 ≤ j ∧ j ≤ 1000000 ∧ i.natAbs < 2 ^ 64 then some (.int (i ^ j.toNat)) else none | _, _ => none
def ltV : Val → Val → Option Val | .int i, .int j => some (.bl (decide (i < j))) | _, _ => none
def leV : Val → Val → Option Val | .int i, .int j => some (.bl (decide (i ≤ j))) | _, _ => none
def gtV : Val → Val → Option Val | .int i, .int j => some (.bl (decide (j < i))) | _, _ => none
def geV : Val → Val → Option Val | .int i, .int j => some (.bl (decide (j ≤ i))) | _, _ => none
def negV : Val → Option Val | .int i => some (.int (-i)) | _ => none
section
variable {X : Cx} {C : Cn}
theorem ov_ii {C0 : Int → Int → Prop} {g : Int → Int → V} {f : Val → Val → Option Val} (h : ∀ x y z, f x y = some z → ∃ i j, x = .int i ∧ y = .int j ∧ C0 i j ∧ ∀ A H, rep C A H (g i j) z) : OpV C (rI C0 g) f := fun A H u v x y z _ hu hv e Q q => by
  obtain ⟨i, j, rfl, rfl, c, r⟩ := h x y z e
  exact ⟨i, j, rep_int.mp hu, rep_int.mp hv, c, q _ H (Same.refl H) (r A H)⟩
theorem ov_i0 {g : Int → Int → V} {f : Val → Val → Option Val} (h : ∀ x y z, f x y = some z → ∃ i j, x = .int i ∧ y = .int j ∧ ∀ A H, rep C A H (g i j) z) : OpV C (rI0 g) f := fun A H u v x y z _ hu hv e Q q => by
  obtain ⟨i, j, rfl, rfl, r⟩ := h x y z e
  exact ⟨i, j, rep_int.mp hu, rep_int.mp hv, q _ H (Same.refl H) (r A H)⟩
abbrev rAddS : R2 := fun x y H Q => ∃ i j, x = .str i ∧ y = .str j ∧ i.length + j.length ≤ sizeLine ∧ Q (.str (i ++ j)) H
abbrev rAddA : R2 := fun x y H Q => rI0 (fun i j => .int (i + j)) x y H Q ∨ rAddS x y H Q
theorem oy_add : OpR X (binaryOp .Add) rAddA := op_add.or op_add_str
theorem ov_add : OpV C rAddA addV := fun A H u v x y z _ hu hv e Q q => by
  unfold addV at e
  split at e
  · cases e
    exact .inl ⟨_, _, rep_int.mp hu, rep_int.mp hv, q _ H (Same.refl H) (rep_int.mpr rfl)⟩
  · split at e
    · rename_i h
      cases e
      exact .inr ⟨_, _, rep_str.mp hu, rep_str.mp hv, h, q _ H (Same.refl H) (rep_str.mpr rfl)⟩
    · cases e
  · cases e
theorem ov_sub : OpV C (rI0 fun i j => .int (i - j)) subV := ov_i0 fun x y z e => by
  unfold subV at e
  split at e
  · cases e; exact ⟨_, _, rfl, rfl, fun _ _ => rep_int.mpr rfl⟩
  · cases e
/-- * of two factors of together less than the line's bits -/
def CMulA (i j : Int) : Prop := i.natAbs.log2 + j.natAbs.log2 < 134000000
theorem CMulA.ok {i j : Int} (h : CMulA i j) : IntMulOk i j := by
  have b : ∀ x : Int, Builtin.Int.intBits x ≤ x.natAbs.log2 + 1 := fun x => by
    unfold Builtin.Int.intBits
    split <;> omega
  have h1 := b i
  have h2 := b j
  have h3 : i.natAbs.log2 + j.natAbs.log2 < 134000000 := h
  have e : bitsLine = 134217728 := by decide
  intro z
  have z2 := of_decide_eq_true (Bool.and_eq_true_iff.mp z).2
  rw [e] at z2
  omega
theorem op_mulA : OpR X (binaryOp .Mult) (rI CMulA fun i j => .int (i * j)) := opI fun _ _ _ _ _ _ _ hc q => PyProof.Rows.mul_int q hc.ok
theorem ov_mul : OpV C (rI CMulA fun i j => .int (i * j)) mulV := ov_ii fun x y z e => by
  unfold mulV at e
  split at e
  · split at e
    · rename_i h; cases e; exact ⟨_, _, rfl, rfl, h, fun _ _ => rep_int.mpr rfl⟩
    · cases e
  · cases e
/-- // by what is not 0, below 2 ^ 9000 -/
def CDivA (_ j : Int) : Prop := j ≠ 0 ∧ j.natAbs.log2 < 9000
theorem op_fdivA : OpR X (binaryOp .FloorDiv) (rI CDivA fun i j => .int (i.fdiv j)) := opI fun _ _ _ _ _ _ _ hc q => PyProof.Rows.floordiv_int hc.1 q (.inl (PyProof.noPylong_of_log2 hc.2))
abbrev rDivA : R2 := fun x y H Q => rI CDivW (fun i j => .int (i / j)) x y H Q ∨ rI CDivA (fun i j => .int (i.fdiv j)) x y H Q
theorem oy_div : OpR X (binaryOp .FloorDiv) rDivA := op_fdivW.or op_fdivA
theorem ov_div : OpV C rDivA divV := fun A H u v x y z _ hu hv e Q q => by
  unfold divV at e
  split at e
  · split at e
    · rename_i h
      cases e
      exact .inl ⟨_, _, rep_int.mp hu, rep_int.mp hv, h, q _ H (Same.refl H) (rep_int.mpr rfl)⟩
    · split at e
      · rename_i h
        cases e
        exact .inr ⟨_, _, rep_int.mp hu, rep_int.mp hv, ⟨by omega, h.2⟩, q _ H (Same.refl H) (rep_int.mpr rfl)⟩
      · cases e
  · cases e
theorem ov_mod : OpV C (rI (fun _ j => j ≠ 0) fun i j => .int (i.fmod j)) modV := ov_ii fun x y z e => by
  unfold modV at e
  split at e
  · split at e
    · rename_i h; cases e; exact ⟨_, _, rfl, rfl, by omega, fun _ _ => rep_int.mpr (by rw [Int.fmod_eq_emod_of_nonneg _ (by omega)])⟩
    · split at e
      · rename_i h; cases e; exact ⟨_, _, rfl, rfl, h, fun _ _ => rep_int.mpr rfl⟩
      · cases e
  · cases e
theorem ov_pow : OpV C (rI CPow fun i j => .int (i ^ j.toNat)) powV := ov_ii fun x y z e => by
  unfold powV at e
  split at e
  · split at e
    · rename_i h; cases e; exact ⟨_, _, rfl, rfl, h, fun _ _ => rep_int.mpr rfl⟩
    · cases e
  · cases e
theorem ov_lt : OpV C (rI0 fun i j => .bl (decide (i < j))) ltV := ov_i0 fun x y z e => by
  unfold ltV at e
  split at e
  · cases e; exact ⟨_, _, rfl, rfl, fun _ _ => rep_bl.mpr rfl⟩
  · cases e
theorem ov_le : OpV C (rI0 fun i j => .bl (decide (i ≤ j))) leV := ov_i0 fun x y z e => by
  unfold leV at e
  split at e
  · cases e; exact ⟨_, _, rfl, rfl, fun _ _ => rep_bl.mpr rfl⟩
  · cases e
theorem ov_gt : OpV C (rI0 fun i j => .bl (decide (j < i))) gtV := ov_i0 fun x y z e => by
  unfold gtV at e
  split at e
  · cases e; exact ⟨_, _, rfl, rfl, fun _ _ => rep_bl.mpr rfl⟩
  · cases e
theorem ov_ge : OpV C (rI0 fun i j => .bl (decide (j ≤ i))) geV := ov_i0 fun x y z e => by
  unfold geV at e
  split at e
  · cases e; exact ⟨_, _, rfl, rfl, fun _ _ => rep_bl.mpr rfl⟩
  · cases e
theorem uv_neg : UnV C (rU fun i => .int (-i)) negV := fun A H u x z _ hu e Q q => by
  unfold negV at e
  split at e
  · cases e; exact ⟨_, rep_int.mp hu, q _ H (Same.refl H) (rep_int.mpr rfl)⟩
  · cases e
end
/-! ### == of data -/
mutual
def dat : Val → Option PyData
  | .non => some .none
  | .bl b => some (.bool b)
  | .int i => some (.int i)
  | .str s => some (.str s)
  | .tup xs => (dats xs).map .tuple
  | .lst xs => (dats xs).map .list
  | _ => none
def dats : List Val → Option (List PyData)
  | [] => some []
  | x :: xs => match dat x, dats xs with | some d, some ds => some (d :: ds) | _, _ => none
end
section
variable {X : Cx} {C : Cn} {A : Rg} {H : Hp}
mutual
theorem dat_dp : ∀ {x : Val} {v : V} {d : PyData}, rep C A H v x → dat x = some d → Dp C.K H v d
  | .non, _, _, r, e => by rw [rep_non.mp r]; unfold dat at e; cases e; exact .non
  | .bl _, _, _, r, e => by rw [rep_bl.mp r]; unfold dat at e; cases e; exact .bl _
  | .int _, _, _, r, e => by rw [rep_int.mp r]; unfold dat at e; cases e; exact .int _
  | .str _, _, _, r, e => by rw [rep_str.mp r]; unfold dat at e; cases e; exact .str _
  | .tup xs, v, d, r, e => by
    unfold dat at e
    obtain ⟨a, vs, rfl, h, rs⟩ := rep_tup.mp r
    cases e1 : dats xs with
    | none => rw [e1] at e; cases e
    | some ds => rw [e1] at e; cases e; exact .tup h.sq (dats_dp rs e1)
  | .lst xs, v, d, r, e => by
    unfold dat at e
    obtain ⟨a, vs, rfl, n, h, rs⟩ := rep_lst.mp r
    cases e1 : dats xs with
    | none => rw [e1] at e; cases e
    | some ds => rw [e1] at e; cases e; exact .lst (SqL.of h) (dats_dp rs e1)
  | .ty _, _, _, _, e => by unfold dat at e; cases e
  | .wr _, _, _, _, e => by unfold dat at e; cases e
  | .dic _ _, _, _, _, e => by unfold dat at e; cases e
  | .dit _ _, _, _, _, e => by unfold dat at e; cases e
  | .ins _ _ _, _, _, _, e => by unfold dat at e; cases e
  | .rng _ _, _, _, _, e => by unfold dat at e; cases e
  | .scr _, _, _, _, e => by unfold dat at e; cases e
theorem dats_dp : ∀ {xs : List Val} {vs : List V} {ds : List PyData}, reps C A H vs xs → dats xs = some ds → DpAll C.K H vs ds
  | [], vs, ds, r, e => by
    unfold reps at r; unfold dats at e; cases e; subst r; exact .nil
  | x :: xs, vs, ds, r, e => by
    unfold reps at r
    obtain ⟨v, r', rfl, h1, h2⟩ := r
    unfold dats at e
    split at e
    · rename_i d ds' e1 e2
      cases e
      exact .cons (dat_dp h1 e1) (dats_dp h2 e2)
    · cases e
end
end
def eqV : Val → Val → Option Val := fun x y => match dat x, dat y with
  | some d, some e => if SeqAt.shaped d = true ∧ SeqAt.shaped e = true then some (.bl (PyData.eqv d e)) else none
  | _, _ => none
def neV : Val → Val → Option Val := fun x y => match dat x, dat y with
  | some d, some e => if SeqAt.shaped d = true ∧ SeqAt.shaped e = true then some (.bl (!PyData.eqv d e)) else none
  | _, _ => none
section
variable {X : Cx} {C : Cn}
theorem ov_eq : OpV C (rEqD C.K) eqV := fun A H u v x y z _ hu hv e Q q => by
  unfold eqV at e
  split at e
  · rename_i d e' e1 e2
    split at e
    · rename_i h
      cases e
      exact ⟨d, e', dat_dp hu e1, dat_dp hv e2, h.1, h.2, q _ H (Same.refl H) (rep_bl.mpr rfl)⟩
    · cases e
  · cases e
theorem ov_ne : OpV C (rNeD C.K) neV := fun A H u v x y z _ hu hv e Q q => by
  unfold neV at e
  split at e
  · rename_i d e' e1 e2
    split at e
    · rename_i h
      cases e
      exact ⟨d, e', dat_dp hu e1, dat_dp hv e2, h.1, h.2, q _ H (Same.refl H) (rep_bl.mpr rfl)⟩
    · cases e
  · cases e
/-- is None, is True, is False -/
def isBV : Val → Val → Option Val | .bl a, .bl b => some (.bl (decide (a = b))) | _, _ => none
def isnotBV : Val → Val → Option Val | .bl a, .bl b => some (.bl (!decide (a = b))) | _, _ => none
theorem ov_isB : OpV C rIsB isBV := fun A H u v x y z _ hu hv e Q q => by
  unfold isBV at e
  split at e
  · cases e; exact ⟨_, _, rep_bl.mp hu, rep_bl.mp hv, q _ H (Same.refl H) (rep_bl.mpr rfl)⟩
  · cases e
theorem ov_isnotB : OpV C rNotB isnotBV := fun A H u v x y z _ hu hv e Q q => by
  unfold isnotBV at e
  split at e
  · cases e; exact ⟨_, _, rep_bl.mp hu, rep_bl.mp hv, q _ H (Same.refl H) (rep_bl.mpr rfl)⟩
  · cases e
/-! ### subscripts -/
def ixV : Val → Val → Option Val
  | .lst xs, .int i => atI xs i
  | .tup xs, .int i => atI xs i
  | .str s, .int i => if s.length ≤ sizeLine then (atI s.cps.toList i).map fun c => .str ⟨#[c]⟩ else none
  | _, _ => none
theorem ov_ix : OpV C (rIx C.K) ixV := fun A H u v x y z _ hu hv e Q q => by
  unfold ixV at e
  split at e
  · obtain ⟨a, vs, rfl, n, h, rs⟩ := rep_lst.mp hu
    obtain ⟨w, hw, rw'⟩ := rs.at e
    exact .inl ⟨a, vs, _, w, rfl, rep_int.mp hv, SqL.of h, hw, q w H (Same.refl H) rw'⟩
  · obtain ⟨a, vs, rfl, h, rs⟩ := rep_tup.mp hu
    obtain ⟨w, hw, rw'⟩ := rs.at e
    exact .inr (.inl ⟨a, vs, _, w, rfl, rep_int.mp hv, h.sq, hw, q w H (Same.refl H) rw'⟩)
  · split at e
    · rename_i s i hz
      cases e1 : atI s.cps.toList i with
      | none => rw [e1] at e; cases e
      | some c => rw [e1] at e; cases e; exact .inr (.inr ⟨s, i, c, rep_str.mp hu, rep_int.mp hv, hz, e1, q _ H (Same.refl H) (rep_str.mpr rfl)⟩)
    · cases e
  · cases e
/-! ### built-in calls -/
def f1 (f : Val → Option Val) : List Val → Option Val := fun xs => match xs with | [x] => f x | _ => none
theorem one_of {A : Rg} {H : Hp} {us : List V} {f : Val → Option Val} {xs : List Val} {z : Val} (r : reps C A H us xs) (e : f1 f xs = some z) : ∃ u x, us = [u] ∧ xs = [x] ∧ rep C A H u x ∧ f x = some z := by
  unfold f1 at e
  split at e
  · obtain ⟨v, rfl, rv⟩ := reps1 r
    exact ⟨v, _, rfl, rfl, rv, e⟩
  · cases e
def f2 (f : Val → Val → Option Val) : List Val → Option Val := fun xs => match xs with | [x, y] => f x y | _ => none
theorem two_of {A : Rg} {H : Hp} {us : List V} {f : Val → Val → Option Val} {xs : List Val} {z : Val} (r : reps C A H us xs) (e : f2 f xs = some z) : ∃ u w x y, us = [u, w] ∧ xs = [x, y] ∧ rep C A H u x ∧ rep C A H w y ∧ f x y = some z := by
  unfold f2 at e
  split at e
  · obtain ⟨v, w, rfl, rv, rw'⟩ := reps2 r
    exact ⟨v, w, _, _, rfl, rfl, rv, rw', e⟩
  · cases e
def intV : Val → Option Val | .int i => some (.int i) | .bl b => some (.int (if b = true then 1 else 0)) | _ => none
theorem cv_int : CbV C (fun xs H Q => (∃ i, xs = [.int i] ∧ Q (.int i) H) ∨ ∃ k, xs = [.bl k] ∧ Q (.int (if k then 1 else 0)) H) (f1 intV) := fun A H us xs z _ r e Q q => by
  obtain ⟨u, x, rfl, rfl, ru, e0⟩ := one_of r e
  clear e
  have e := e0
  clear e0
  unfold intV at e
  split at e
  · cases e; exact .inl ⟨_, by rw [rep_int.mp ru], q _ H (Same.refl H) (rep_int.mpr rfl)⟩
  · cases e; exact .inr ⟨_, by rw [rep_bl.mp ru], q _ H (Same.refl H) (rep_int.mpr rfl)⟩
  · cases e
def absVl : Val → Option Val | .int i => some (.int (if i < 0 then -i else i)) | _ => none
theorem cv_abs : CbV C (fun xs H Q => ∃ i, xs = [.int i] ∧ Q (.int (if i < 0 then -i else i)) H) (f1 absVl) := fun A H us xs z _ r e Q q => by
  obtain ⟨u, x, rfl, rfl, ru, e0⟩ := one_of r e
  clear e
  have e := e0
  clear e0
  unfold absVl at e
  split at e
  · cases e; exact ⟨_, by rw [rep_int.mp ru], q _ H (Same.refl H) (rep_int.mpr rfl)⟩
  · cases e
def lenV : Val → Option Val | .lst xs => some (.int xs.length) | .tup xs => some (.int xs.length) | .str s => if s.length ≤ sizeLine then some (.int s.length) else none | _ => none
abbrev rLenS : List V → Hp → VK → Prop := fun xs H Q => ∃ z, xs = [.str z] ∧ z.length ≤ sizeLine ∧ Q (.int z.length) H
abbrev rLenA (K : PySem.W.Frag) : List V → Hp → VK → Prop := fun xs H Q => (∃ p ys, xs = [.ref p] ∧ (SqL K H p ys ∨ SqT K H p ys) ∧ Q (.int ys.length) H) ∨ rLenS xs H Q
theorem cy_len : CallR X (.builtin "len") (rLenA X.K) := call_len_seq.or call_len_str
theorem cv_len : CbV C (rLenA C.K) (f1 lenV) := fun A H us xs z _ r e Q q => by
  obtain ⟨u, x, rfl, rfl, ru, e0⟩ := one_of r e
  clear e
  have e := e0
  clear e0
  unfold lenV at e
  split at e
  · cases e
    obtain ⟨a, vs, rfl, n, h, rs⟩ := rep_lst.mp ru
    exact .inl ⟨a, vs, rfl, .inl (SqL.of h), q _ H (Same.refl H) (rep_int.mpr (by rw [rs.len]))⟩
  · cases e
    obtain ⟨a, vs, rfl, h, rs⟩ := rep_tup.mp ru
    exact .inl ⟨a, vs, rfl, .inr h.sq, q _ H (Same.refl H) (rep_int.mpr (by rw [rs.len]))⟩
  · split at e
    · rename_i hz
      cases e
      exact .inr ⟨_, by rw [rep_str.mp ru], hz, q _ H (Same.refl H) (rep_int.mpr rfl)⟩
    · cases e
  · cases e
/-- list(x) -/
def listV : List Val → Option (List Val) | [.lst xs] => some xs | [.tup xs] => some xs | _ => none
theorem cv_list : CfV C (fun xs H Q => ∃ p ys, xs = [.ref p] ∧ (SqL C.K H p ys ∨ SqT C.K H p ys) ∧ ∀ l, H l = none → Q (.ref l) (upd H l (.lst ys))) listV := fun A H us xs z _ r e Q q => by
  unfold listV at e
  split at e
  · cases e
    obtain ⟨v, rfl, rv⟩ := reps1 r
    obtain ⟨a, vs, rfl, n, h, rs⟩ := rep_lst.mp rv
    exact ⟨a, vs, rfl, .inl (SqL.of h), fun l hl => q l vs hl rs⟩
  · cases e
    obtain ⟨v, rfl, rv⟩ := reps1 r
    obtain ⟨a, vs, rfl, h, rs⟩ := rep_tup.mp rv
    exact ⟨a, vs, rfl, .inr h.sq, fun l hl => q l vs hl rs⟩
  · cases e
/-- lists of ints, of truths -/
def intsOf : List Val → Option (List Int)
  | [] => some []
  | .int i :: xs => (intsOf xs).map (i :: ·)
  | _ :: _ => none
def blsOf : List Val → Option (List Bool)
  | [] => some []
  | .bl i :: xs => (blsOf xs).map (i :: ·)
  | _ :: _ => none
theorem ints_rep {A : Rg} {H : Hp} : ∀ {xs : List Val} {vs : List V} {ns : List Int}, reps C A H vs xs → intsOf xs = some ns → vs = ns.map V.int
  | [], vs, ns, r, e => by unfold reps at r; unfold intsOf at e; cases e; subst r; rfl
  | x :: xs, vs, ns, r, e => by
    unfold reps at r
    obtain ⟨v, r', rfl, h1, h2⟩ := r
    cases x with
    | int i =>
      unfold intsOf at e
      cases e1 : intsOf xs with
      | none => rw [e1] at e; cases e
      | some ms => rw [e1] at e; cases e; rw [ints_rep h2 e1, rep_int.mp h1]; rfl
    | _ => unfold intsOf at e; cases e
theorem bls_rep {A : Rg} {H : Hp} : ∀ {xs : List Val} {vs : List V} {ns : List Bool}, reps C A H vs xs → blsOf xs = some ns → vs = ns.map V.bl
  | [], vs, ns, r, e => by unfold reps at r; unfold blsOf at e; cases e; subst r; rfl
  | x :: xs, vs, ns, r, e => by
    unfold reps at r
    obtain ⟨v, r', rfl, h1, h2⟩ := r
    cases x with
    | bl i =>
      unfold blsOf at e
      cases e1 : blsOf xs with
      | none => rw [e1] at e; cases e
      | some ms => rw [e1] at e; cases e; rw [bls_rep h2 e1, rep_bl.mp h1]; rfl
    | _ => unfold blsOf at e; cases e
def allV : Val → Option Val | .lst xs => (blsOf xs).map fun bs => .bl (bs.all id) | _ => none
theorem cv_all : CbV C (rAll C.K) (f1 allV) := fun A H us xs z _ r e Q q => by
  obtain ⟨u, x, rfl, rfl, ru, e0⟩ := one_of r e
  clear e
  have e := e0
  clear e0
  unfold allV at e
  split at e
  · rename_i ys
    obtain ⟨a, vs, rfl, n, h, rs⟩ := rep_lst.mp ru
    cases e1 : blsOf ys with
    | none => rw [e1] at e; cases e
    | some bs =>
      rw [e1] at e; cases e
      exact ⟨a, bs, rfl, by rw [← bls_rep rs e1]; exact SqL.of h, q _ H (Same.refl H) (rep_bl.mpr rfl)⟩
  · cases e
def maxL : List Int → Option Int
  | [] => none
  | [x] => some x
  | x :: xs => (maxL xs).map fun m => max x m
theorem maxL_ok : ∀ {ns : List Int} {m : Int}, maxL ns = some m → m ∈ ns ∧ ∀ y ∈ ns, y ≤ m
  | [x], m, e => by cases e; simp
  | x :: y :: xs, m, e => by
    unfold maxL at e
    cases e1 : maxL (y :: xs) with
    | none => rw [e1] at e; cases e
    | some k =>
      rw [e1] at e; cases e
      obtain ⟨h1, h2⟩ := maxL_ok e1
      show max x k ∈ x :: y :: xs ∧ ∀ z ∈ x :: y :: xs, z ≤ max x k
      constructor
      · by_cases h : x ≤ k
        · rw [Int.max_eq_right h]; exact List.mem_cons_of_mem _ h1
        · rw [Int.max_eq_left (by omega)]; exact List.mem_cons_self
      · intro z hz
        rcases List.mem_cons.mp hz with rfl | hz
        · exact Int.le_max_left _ _
        · exact Int.le_trans (h2 z hz) (Int.le_max_right _ _)
def maxV : Val → Option Val | .lst xs => (intsOf xs).bind fun ns => (maxL ns).map .int | _ => none
theorem cv_max : CbV C (rMax C.K) (f1 maxV) := fun A H us xs z _ r e Q q => by
  obtain ⟨u, x, rfl, rfl, ru, e0⟩ := one_of r e
  clear e
  have e := e0
  clear e0
  unfold maxV at e
  split at e
  · rename_i ys
    obtain ⟨a, vs, rfl, n, h, rs⟩ := rep_lst.mp ru
    cases e1 : intsOf ys with
    | none => rw [e1] at e; cases e
    | some ns =>
      rw [e1] at e
      cases e2 : maxL ns with
      | none => simp only [Option.bind_some] at e; rw [e2] at e; cases e
      | some m =>
        simp only [Option.bind_some] at e
        rw [e2] at e; cases e
        obtain ⟨h1, h2⟩ := maxL_ok e2
        refine ⟨a, ns, rfl, by rw [← ints_rep rs e1]; exact SqL.of h, List.length_pos_iff.mpr (fun z => by subst z; cases h1), fun m' k1 k2 => ?_⟩
        have : m' = m := Int.le_antisymm (h2 m' k1) (k2 m h1)
        subst this
        exact q _ H (Same.refl H) (rep_int.mpr rfl)
  · cases e
def sumV : Val → Option Val | .lst xs => (intsOf xs).map fun ns => .int ns.sum | _ => none
theorem cv_sum : CbV C (rSum C.K) (f1 sumV) := fun A H us xs z _ r e Q q => by
  obtain ⟨u, x, rfl, rfl, ru, e0⟩ := one_of r e
  clear e
  have e := e0
  clear e0
  unfold sumV at e
  split at e
  · rename_i ys
    obtain ⟨a, vs, rfl, n, h, rs⟩ := rep_lst.mp ru
    cases e1 : intsOf ys with
    | none => rw [e1] at e; cases e
    | some bs =>
      rw [e1] at e; cases e
      exact ⟨a, bs, rfl, by rw [← ints_rep rs e1]; exact SqL.of h, q _ H (Same.refl H) (rep_int.mpr rfl)⟩
  · cases e
def gcdV : Val → Val → Option Val | .int a, .int b => some (.int ((Nat.gcd a.natAbs b.natAbs : Nat) : Int)) | _, _ => none
theorem cv_gcd : CbV C rGcd (f2 gcdV) := fun A H us xs z _ r e Q q => by
  obtain ⟨u, w, x, y, rfl, rfl, ru, rw', e⟩ := two_of r e
  unfold gcdV at e
  split at e
  · cases e
    exact ⟨_, _, by rw [rep_int.mp ru, rep_int.mp rw'], q _ H (Same.refl H) (rep_int.mpr rfl)⟩
  · cases e
/-! ### isinstance of built-in classes -/
def kindOf : Val → Option String
  | .non => some "NoneType" | .bl _ => some "bool" | .int _ => some "int" | .str _ => some "str" | .lst _ => some "list" | .tup _ => some "tuple" | .dic _ _ => some "dict" | .dit _ _ => some "dict" | _ => none
def subTy (a b : String) : Option Bool :=
  if a ∈ ["NoneType", "bool", "int", "str", "list", "tuple", "dict"] ∧ b ∈ ["bool", "int", "str", "list", "tuple", "dict"] then some (a == b || (a == "bool" && b == "int")) else none
theorem subTy_ok {a b : String} {r : Bool} (h : subTy a b = some r) : kitB a b = some r := by
  unfold subTy at h
  split at h
  · rename_i m
    cases h
    obtain ⟨m1, m2⟩ := m
    simp only [List.mem_cons, List.not_mem_nil, or_false] at m1 m2
    rcases m1 with rfl | rfl | rfl | rfl | rfl | rfl | rfl <;> rcases m2 with rfl | rfl | rfl | rfl | rfl | rfl <;> decide +kernel
  · cases h
theorem kind_ok {A : Rg} {H : Hp} {v : V} {x : Val} {s : String} (r : rep C A H v x) (e : kindOf x = some s) : TyX C.K H v (.type s) := by
  cases x with
  | non => cases e; rw [rep_non.mp r]; exact .base .non
  | bl b => cases e; rw [rep_bl.mp r]; exact .base (.bl b)
  | int b => cases e; rw [rep_int.mp r]; exact .base (.int b)
  | str b => cases e; rw [rep_str.mp r]; exact .base (.str b)
  | lst xs => cases e; obtain ⟨a, vs, rfl, n, h, rs⟩ := rep_lst.mp r; exact .base (.lst h)
  | tup xs =>
    cases e
    obtain ⟨a, vs, rfl, h, rs⟩ := rep_tup.mp r
    rcases h with ⟨_, h⟩ | ⟨o, its, n, h, c, _⟩
    · exact .base (.tup h)
    · exact .kTuple h c
  | dic ks xs => cases e; obtain ⟨a, vs, rfl, n, h, rs⟩ := rep_dic.mp r; exact .base (.dK h)
  | dit ks xs =>
    cases e
    unfold rep at r
    obtain ⟨a, vs, rfl, n, h, rs⟩ := r
    exact .base (.dT h)
  | _ => cases e
/-- of one class or of a tuple of classes -/
def isAny (s : String) : List Val → Option Bool
  | [] => some false
  | .ty t :: r => match subTy s t, isAny s r with | some b, some c => some (b || c) | _, _ => none
  | _ :: _ => none
def isiV : Val → Val → Option Val := fun x c => match kindOf x, c with
  | some s, .ty t => (subTy s t).map .bl
  | some s, .tup cs => (isAny s cs).map .bl
  | _, _ => none
abbrev rIsiA (K : PySem.W.Frag) : List V → Hp → VK → Prop := fun xs H Q => rIsi K xs H Q ∨ (rIsiT K xs H Q ∨ rIsiK K xs H Q)
theorem cy_isi : CallR X (.builtin "isinstance") (rIsiA X.K) := call_isi.or (call_isiT.or call_isiK)
theorem isAny_ok {A : Rg} {H : Hp} {s : String} : ∀ {cs : List Val} {vs : List V} {b : Bool}, reps C A H vs cs → isAny s cs = some b → ∃ us, Paired ClsV vs us ∧ PySem.W.kitAny C.K (.type s) us = some b
  | [], vs, b, r, e => by unfold reps at r; unfold isAny at e; cases e; subst r; exact ⟨[], .nil, kitAny_nil⟩
  | c :: cs, vs, b, r, e => by
    unfold reps at r
    obtain ⟨v, r', rfl, h1, h2⟩ := r
    cases c with
    | ty t =>
      unfold isAny at e
      split at e
      · rename_i b1 b2 e1 e2
        cases e
        obtain ⟨us, k1, k2⟩ := isAny_ok h2 e2
        rw [rep_ty.mp h1]
        exact ⟨.type t :: us, .cons (.ty t) k1, kitAny_cons (kit_ty (subTy_ok e1)) (fun h => by rw [h]; exact k2) (fun h => by rw [h]; rfl)⟩
      · cases e
    | _ => unfold isAny at e; cases e
theorem cv_isi : CbV C (rIsiA C.K) (f2 isiV) := fun A H us xs z _ r e0 Q q => by
  obtain ⟨u, w, x, y, rfl, rfl, ru, rw', e⟩ := two_of r e0
  clear e0
  unfold isiV at e
  cases e1 : kindOf x with
  | none => rw [e1] at e; cases e
  | some s =>
    rw [e1] at e
    cases y with
    | ty t =>
      dsimp only at e
      cases e2 : subTy s t with
      | none => rw [e2] at e; cases e
      | some b =>
        rw [e2] at e; cases e
        rw [rep_ty.mp rw']
        exact .inl ⟨u, _, _, _, b, rfl, .ty t, kind_ok ru e1, kit_ty (subTy_ok e2), q _ H (Same.refl H) (rep_bl.mpr rfl)⟩
    | tup cs =>
      dsimp only at e
      obtain ⟨a, vs, rfl, h, rs⟩ := rep_tup.mp rw'
      cases e2 : isAny s cs with
      | none => rw [e2] at e; cases e
      | some b =>
        rw [e2] at e; cases e
        obtain ⟨ws, k1, k2⟩ := isAny_ok rs e2
        rcases h with ⟨_, h⟩ | h
        · exact .inr (.inl ⟨u, a, vs, _, ws, b, rfl, h, k1, kind_ok ru e1, k2, q _ H (Same.refl H) (rep_bl.mpr rfl)⟩)
        · obtain ⟨⟨c, dd, da, sl⟩, its, n, hk, hc, hd, _, hv⟩ := h
          dsimp only at hc hd
          subst hc; subst hd
          exact .inr (.inr ⟨u, a, dd, its.toList, n, sl, _, b, rfl, by simpa using hk, kind_ok ru e1, by rw [ClsV.all k1 hv]; exact k2, q _ H (Same.refl H) (rep_bl.mpr rfl)⟩)
    | _ => cases e
end
end Y

set_option Elab.async false
set_option linter.all false
set_option maxRecDepth 100000
set_option maxHeartbeats 4000000
set_option autoImplicit false
/-! Y8: raise; calls with an own argument, with keywords. -/
namespace Y
open PySem L2 Z
section
variable {X : Cx} {C : Cn} {E : XK} {e a b tg : Expr} {ma mb : ME} {ms mk : MS} {mi : MI} {es : List Expr} {ml : MA} {mf : ML} {pos : Pos}
/-! ### an error with one field -/
def sp1 (K : PySem.W.Frag) (f : Str) : Sp := fun vs H Q _ => ∃ a C v, vs = [.ref a, v] ∧ OexC K C ∧ PySem.W.findIn K (.ref C) f = some none ∧ H a = some (exo a C none) ∧ ∀ dx, H dx = none → dx ≠ a → Q .non (upd (upd H dx (exd dx [(f, v)])) a (exo a C (some dx)))
theorem ok_init1 {P : Program} {w : World} {K : PySem.W.Frag} {mg : Str → Option Value} {base : Heap} {x qual p f : Str} {st : Stmt} {fa : Addr} {fd : FuncData} (F : Fun K x qual st fa fd) (S : FnScope [("self" : Str), p] [("self" : Str), p] (defScope st))
    (hb : ∀ X : Cx, X.N = [("self" : Str), p] → X.env.scope = defScope st → X.K = K → PSs X (defBody st) (tOst K f (tVar 0) (tVar 1))) : FnOk P w K mg base (L2.CX P w) 1 fa fd [("self" : Str), p] (sp1 K f) := by
  refine F.okX (k := 0) S (fun vs H Q E h => ?_) (fun cdv A0 outer s H vs Q E hr h => ⟨_, hb _ rfl rfl rfl, ?_⟩)
  · obtain ⟨a, C, v, rfl, _⟩ := h; rfl
  · obtain ⟨a, C, v, rfl, o, n, h1, h2⟩ := h
    exact ⟨v, rfl, _, rfl, a, C, rfl, o, n, .inl ⟨h1, fun dx hd ne => h2 dx hd ne⟩⟩
/-- raise C(e, ..) -/
def raiseS (c : Nat) (ns : List Str) (ml : MA) : MS := fun ρ => ml ρ >>= fun x => if x.1.length = ns.length then .exc c ns x.1 x.2 else .bad
theorem ys_raise1 {st : Stmt} {c : Nat} {f : Str} (h : PS X st (fun _ σ H => tMkO (C.ca c) (sp1 C.K f) [] (SA C E ml) σ H fun cls d H' => E cls d H')) (o : OexC C.K (C.ca c)) (n : PySem.W.findIn C.K (.ref (C.ca c)) f = some none) : PS X st (SS C E (raiseS c [f] ml)) := PS.imp h fun D σ H ⟨B, A, ρ, N, hm⟩ =>
  ⟨B, A, ρ, N, Rs.wp_mono (Rs.wp_bind hm) (fun x hx vs H1 N1 g1 r1 => by
    obtain ⟨hl, hx⟩ := ite_bad hx
    have hl1 : vs.length = 1 := by rw [r1.len]; exact hl
    refine ⟨by omega, fun a ha => ?_⟩
    obtain ⟨v, rfl⟩ : ∃ v, vs = [v] := List.length_eq_one_iff.mp hl1
    refine ⟨a, C.ca c, v, rfl, o, n, upd_same, fun dx hd ne => ⟨rfl, dx, [(f, v)], upd_same, by rw [upd_ne ne]; exact upd_same, by rw [upd_ne ne] at hd; exact hd, ?_⟩⟩
    have hd1 : H1 dx = none := by rw [upd_ne ne] at hd; exact hd
    have s1 : Same H1 (upd (del (upd (upd (upd H1 a (exo a (C.ca c) none)) dx (exd dx [(f, v)])) a (exo a (C.ca c) (some dx))) a) dx (.xd [(f, v)])) := fun b u hb => by
      have hba : b ≠ a := ne_of_none hb ha
      have hbd : b ≠ dx := ne_of_none hb hd1
      rw [upd_ne hbd, del_ne hba, upd_ne hba, upd_ne hbd, upd_ne hba]
      exact hb
    exact hx dx [v] A σ _ (N1.same s1) (N1.fr dx (.of hd1)) upd_same hl.symm (reps.gr (.same s1) r1)) EXe.of⟩
/-! ### a call whose first argument is an own object -/
def SV.setPin (p : Bool) : SV → SV | .fz x => .fz x | .ow _ xs => .ow p xs | .od _ ks xs => .od p ks xs | .oi _ c ns xs => .oi p c ns xs
theorem setPin_own {s : SV} {p : Bool} : (s.setPin p).own = s.own := by cases s <;> rfl
theorem setPin_pin {s : SV} {p : Bool} (h : s.own = true) : (s.setPin p).pin = p := by cases s <;> first | rfl | cases h
theorem slr_pin {A : Rg} {H : Hp} {v : V} {s : SV} {p : Bool} (h : slr C A H v s) : slr C A H v (s.setPin p) := by cases s <;> exact h
theorem Now.called {B : Bs} {A : Rg} {H H' : Hp} {σ : L2.St} {ρ : En} {i : Nat} {l : Addr} {s s' : SV} (N : Now C B A H σ ρ) (hs : ρ[i]? = some (some s)) (os : s.own = true) (hσ : σ[i]? = some (some (.ref l))) (kp : ∀ a o, NT o → a ≠ l → H a = some o → H' a = some o) (fe : ∀ a, Fz H' a → Fz H a) (tb : LamX.Tabs C.T H')
    (os' : s'.own = true) (ps' : s'.pin = s.pin) (r : slr C A H' (.ref l) s') : Now C B A H' σ (ρ.set i (some s')) := by
  have hi : i < ρ.length := (List.getElem?_eq_some_iff.mp hs).1
  obtain ⟨v, hv, hr⟩ := N.env.sl i s hs
  rw [hσ] at hv; cases hv
  have nA : ¬ A l := by
    obtain ⟨m, e, n, _⟩ := hr.at os
    cases e; exact n
  have nown : ∀ y, H l ≠ some (.own y) := fun y z => by
    cases s with
    | fz x => cases os
    | ow p xs => obtain ⟨m, vs, e, _, k, _⟩ := hr; cases e; rw [k] at z; cases z
    | od p ks xs => obtain ⟨m, vs, e, _, k, _⟩ := hr; cases e; rw [k] at z; cases z
    | oi p c ns xs => obtain ⟨m, dx, vs, e, _, _, k, _⟩ := hr; cases e; rw [k] at z; cases z
  have g : Gr A H A H' := fun a u t n h => ⟨n, kp a u t (fun z => nA (by rw [← z]; exact n)) h⟩
  refine ⟨⟨by simp [N.env.len], fun j t h => ?_, fun j k t t' u jk hs2 ht2 os2 ot2 hu => ?_⟩, fun q h => N.fr q (fe q h), N.f0, N.nz, N.le, fun a u t z h => ?_, tb, fun a h => N.fe a (fe a h), fun j t m h o e => ?_, fun j m h => ?_⟩
  · rcases getset h with ⟨e, e2, _⟩ | ⟨n, h⟩
    · subst e; cases e2
      exact ⟨_, hσ, r⟩
    · obtain ⟨u, h1, h2⟩ := N.env.sl j t h
      refine ⟨u, h1, ?_⟩
      have lne : t.own = true → ∀ m, u = .ref m → m ≠ l := fun ot m e z => by
        subst e; subst z
        exact N.env.ne i j s t _ (Ne.symm n) hs h os ot hσ h1
      cases t with
      | fz x => exact rep.gr g h2
      | ow p xs => obtain ⟨m, vs, e1, n1, k, r⟩ := h2; exact ⟨m, vs, e1, n1, kp _ _ nt (lne rfl m e1) k, reps.gr g r⟩
      | od p ks xs => obtain ⟨m, vs, e1, n1, k, z, r⟩ := h2; exact ⟨m, vs, e1, n1, kp _ _ nt (lne rfl m e1) k, z, reps.gr g r⟩
      | oi p c ns xs =>
        obtain ⟨m, dx, vs, e1, n1, n2, k, k2, z, r⟩ := h2
        exact ⟨m, dx, vs, e1, n1, n2, kp _ _ nt (lne rfl m e1) k, kp _ _ nt (fun z => by rw [z] at k2; exact nown _ k2) k2, z, reps.gr g r⟩
  · have back : ∀ (j : Nat) (t : SV), (ρ.set i (some s'))[j]? = some (some t) → t.own = true → ∃ t', ρ[j]? = some (some t') ∧ t'.own = true := fun j t h o => by
      rcases getset h with ⟨e, e2, _⟩ | ⟨n, h⟩
      · subst e; exact ⟨s, hs, os⟩
      · exact ⟨t, h, o⟩
    obtain ⟨t1, h1, o1⟩ := back j t hs2 os2
    obtain ⟨t2, h2, o2⟩ := back k t' ht2 ot2
    exact N.env.ne j k t1 t2 u jk h1 h2 o1 o2 hu
  · have ne : a ≠ l := fun e => by
      subst e
      rcases N.ow i s a hs os hσ with ⟨w, _⟩ | ⟨w, _⟩
      · exact w.no h t
      · exact z w
    exact kp a u t ne (N.kp a u t z h)
  · rcases getset h with ⟨e1, e2, _⟩ | ⟨n, h⟩
    · subst e1; cases e2
      rw [ps']
      exact N.ow j s m hs os e
    · exact N.ow j t m h o e
  · obtain ⟨h1, t, h2, h3, h4⟩ := N.pn j m h
    refine ⟨h1, ?_⟩
    by_cases e : j = i
    · subst e
      rw [hs] at h2; cases h2
      exact ⟨s', List.getElem?_set_self hi, os', by rw [ps']; exact h4⟩
    · exact ⟨t, by rw [List.getElem?_set_ne (Ne.symm e)]; exact h2, h3, h4⟩
/-- a def as a function of an own value and frozen ones: the answer, the own value behind it -/
def runO (n : Nat) (body : MS) (s : SV) (xs : List Val) : Rs (Val × SV) := match finM (body (padE (some (s.setPin true) :: xs.map fun x => some (.fz x)) n)) with
  | .ok r => match r.2[0]? with | some (some s') => .ok (r.1, s'.setPin s.pin) | _ => .bad
  | .exc c ns vs ρ => match ρ[0]? with | some (some s') => .exc c ns vs [some (s'.setPin s.pin)] | _ => .bad
  | .bad => .bad
def callO (i np n : Nat) (body : MS) (a : MA) : ME := fun ρ => match ρ[i]? with
  | some (some s0) => if s0.own = true then a ρ >>= fun x => match x.2[i]? with
      | some (some s) => if s.own = true ∧ x.1.length + 1 = np ∧ np ≤ n then (match runO n body s x.1 with
          | .ok r => .ok (r.1, x.2.set i (some r.2))
          | .exc c ns vs ρ' => match ρ'[0]? with | some (some s') => .exc c ns vs (x.2.set i (some s')) | _ => .bad
          | .bad => .bad) else .bad
      | _ => .bad
    else .bad
  | _ => .bad
theorem callO_rd {i np n : Nat} {body : MS} : ∀ σ H Q, SE C E (callO i np n body ml) σ H Q → tCall (spF C np n body) [] E (tCons (tVar i) (SA C E ml)) σ H Q := fun σ H Q ⟨B, A, ρ, N, hm⟩ => by
  unfold callO at hm
  split at hm
  · rename_i s0 h0
    obtain ⟨o0, hm⟩ := ite_bad hm
    obtain ⟨v, hσ, hr0⟩ := N.slot h0
    obtain ⟨l, rfl, nA, _⟩ := hr0.at o0
    refine ⟨_, hσ, B, A, ρ, N, Rs.wp_mono (Rs.wp_bind hm) (fun x hx vs H1 N1 g1 r1 => ?_) fun _ _ _ _ h => h⟩
    show spF C np n body ((V.ref l :: vs) ++ []) H1 Q E
    rw [List.append_nil]
    split at hx
    · rename_i s hs
      obtain ⟨⟨os, hl, hn⟩, hx⟩ := ite_bad hx
      obtain ⟨v, hσ', hr⟩ := N1.slot hs
      rw [hσ] at hσ'; cases hσ'
      have env : EnvR C A H1 ((V.ref l :: vs).map some) (some (s.setPin true) :: x.1.map fun x => some (.fz x)) := by
        have ef := env_fz r1
        refine ⟨by simp [r1.len], fun j t h => ?_, fun j k t u w jk hj hk ot ou hw => ?_⟩
        · cases j with
          | zero => simp at h; subst h; exact ⟨_, rfl, slr_pin hr⟩
          | succ j => exact ef.sl j t (by simpa using h)
        · cases j with
          | zero =>
            cases k with
            | zero => exact absurd rfl jk
            | succ k =>
              have hk' : (x.1.map fun x => some (SV.fz x))[k]? = some (some u) := by simpa using hk
              rw [List.getElem?_map] at hk'
              cases e : x.1[k]? with
              | none => rw [e] at hk'; cases hk'
              | some y => rw [e] at hk'; cases hk'; cases ou
          | succ j =>
            have hj' : (x.1.map fun x => some (SV.fz x))[j]? = some (some t) := by simpa using hj
            rw [List.getElem?_map] at hj'
            cases e : x.1[j]? with
            | none => rw [e] at hj'; cases hj'
            | some y => rw [e] at hj'; cases hj'; cases ot
      have own1 : ∀ {a : Addr}, OwnAt ((V.ref l :: vs).map some) (some (s.setPin true) :: x.1.map fun x => some (.fz x)) a ↔ a = l := fun {a} => by
        constructor
        · rintro ⟨j, t, h1, h2, h3⟩
          cases j with
          | zero => simp at h3; exact h3.symm
          | succ j =>
            have hj' : (x.1.map fun x => some (SV.fz x))[j]? = some (some t) := by simpa using h1
            rw [List.getElem?_map] at hj'
            cases e : x.1[j]? with
            | none => rw [e] at hj'; cases hj'
            | some y => rw [e] at hj'; cases hj'; cases h2
        · rintro rfl
          exact ⟨0, s.setPin true, rfl, by rw [setPin_own]; exact os, rfl⟩
      refine ⟨A, _, N1.fr, N1.tb, by rw [List.length_cons, r1.len]; exact hl, hn, env, fun j t h o => ?_, ?_⟩
      · cases j with
        | zero => simp at h; subst h; exact setPin_pin os
        | succ j =>
          have hj' : (x.1.map fun x => some (SV.fz x))[j]? = some (some t) := by simpa using h
          rw [List.getElem?_map] at hj'
          cases e : x.1[j]? with
          | none => rw [e] at hj'; cases hj'
          | some y => rw [e] at hj'; cases hj'; cases o
      · have owni : OwnAt σ x.2 l := ⟨i, s, hs, os, hσ⟩
        have step : ∀ {H' : Hp} {ρ' : En}, Aft C A (V.ref l :: vs) (some (s.setPin true) :: x.1.map fun x => some (.fz x)) H1 H' ρ' →
            ∃ s', ρ'[0]? = some (some s') ∧ Now C B A H' σ (x.2.set i (some (s'.setPin s.pin))) ∧ Gd σ A H1 x.2 H' (x.2.set i (some (s'.setPin s.pin))) := fun {H' ρ'} af => by
          obtain ⟨v, s', e1, e2, o', p', r'⟩ := af.ow 0 _ rfl (by rw [setPin_own]; exact os)
          cases e1
          have kp' : ∀ a o, NT o → a ≠ l → H1 a = some o → H' a = some o := fun a o t ne h => af.kp a o t (fun z => ne (own1.mp z)) h
          refine ⟨s', e2, N1.called hs os hσ kp' af.fe af.tb (by rw [setPin_own]; exact o') (setPin_pin o') (slr_pin r'), ⟨fun a u t n h => ⟨n, kp' a u t (fun z => ?_) h⟩, ow_set hs os, fun a u t h n => kp' a u t (fun z => n (by rw [z]; exact owni)) h, af.fe⟩⟩
          subst z
          obtain ⟨m, e, nm, _⟩ := hr.at os
          cases e; exact nm n
        unfold runO at hx
        cases e : finM (body (padE (some (s.setPin true) :: x.1.map fun x => some (.fz x)) n)) with
        | bad => rw [e] at hx; exact hx.elim
        | ok r =>
          rw [e] at hx
          intro v H' af rv
          obtain ⟨s', e2, N', g'⟩ := step af
          dsimp only at hx
          rw [e2] at hx
          exact hx v H' N' (g1.trans g') rv
        | exc c ns xs ρ' =>
          rw [e] at hx
          intro d ws H' af hd h1 h2 h3
          obtain ⟨s', e2, N', g'⟩ := step af
          dsimp only at hx
          rw [e2] at hx
          exact hx d ws H' N' (g1.trans g') hd h1 h2 h3
    · exact hx.elim
  · exact hm.elim
/-! ### f(k = v, ..) -/
/-- as callM, the values in another order -/
def permM (g : List Val → List Val) (a : MA) : MA := fun ρ => a ρ >>= fun x => .ok (g x.1, x.2)
def tCallK0 (sp : Sp) (n : Nat) (gV : List V → List V) (E : XK) (tk : TA) : TE := fun σ H Q => tk σ H fun zs H2 => zs.length = n ∧ sp (gV zs) H2 Q E
theorem pe_callK0 {CXT : CXT} {k : Nat} {f : Addr} {fd : FuncData} {ps ks : List Str} {sp : Sp} {x : Str} {p pos : Pos} {kws : List Keyword} {tk : TA} {g : List Value → List Value} {gV : List V → List V} (F : FnOk X.prog X.w X.K X.mg X.base CXT k f fd ps sp) (hr : Room k X.A) (hg : Gl X x) (hm : X.mg x = some (.ref f)) (hk : PySem.W.keepIn X.K (.ref f) = true)
    (hb : ∀ (s : Shared) (ws : List Value), X.K.In s.heap → ws.length = ks.length → BindsTo s fd ⟨[], ks.zip ws⟩ (ps.zip (g ws))) (hv : ∀ {zs : List V} {ws : List Value}, zs.length = ks.length → Vals zs ws → Vals (gV zs) (g ws)) (hx : Passes CXT X E) (hkw : PK X kws tk)
    (hall : (backToKw pos (keywordEach kws X.env)).all (·.1.isSome) = true := by rfl) (hks : (backToKw pos (keywordEach kws X.env)).filterMap (·.1) = ks := by rfl) (hdb : (x == ("__debug__" : Str)) = false := by decide)
    (hpl : ((backTo pos (starEach [] X.env)).any (·.1) || (backToKw pos (keywordEach kws X.env)).any (·.1.isNone)) = false := by rfl) : PE X (.Call (.Name x p) [] kws pos) (tCallK0 sp ks.length gV E tk) := by
  refine ⟨fun pins s σ H Q I h => ?_⟩
  refine wpAny_Call_Name_kw (ld_glob I hg hm ?_ hdb)
  refine PySem.W.callWith_KW0 (h₀ := X.base) I.ok.mod.kin hk hall ?_ hpl
  refine thn (hkw.run pos pins s σ H _ I h) fun ws s2 ⟨zs, H2, I2, rz, l2, q2⟩ => ⟨I2.kIn, ?_⟩
  rw [hks]
  have r2 := hv l2 rz
  have lw : ws.length = ks.length := by rw [← Paired.length rz]; exact l2
  refine wpAny_call (codeAny_mono (F.run X.A X.stack s2 H2 ⟨[], ks.zip ws⟩ (g ws) (gV zs) Q E hr I2.env0 (hb s2 ws I2.kIn lw) r2 q2) fun r s' hq => ?_)
  cases r with
  | error e => exact hx pins σ H2 s2 e s' I2 hq
  | ok fl =>
    cases fl with
    | ret u => exact I2.after hq
    | next => exact False.elim hq
    | brk => exact False.elim hq
    | cont => exact False.elim hq
/-- the values in the order of the parameters -/
def pick {α : Type} (is : List Nat) (l : List α) : List α := is.filterMap fun i => l[i]?
theorem pick_pair {α β : Type} {R : α → β → Prop} {l : List α} {m : List β} (p : Paired R l m) : ∀ is : List Nat, Paired R (pick is l) (pick is m)
  | [] => .nil
  | i :: is => by
    unfold pick
    rw [List.filterMap_cons, List.filterMap_cons]
    cases e : m[i]? with
    | none =>
      have h1 := Paired.length p
      rw [List.getElem?_eq_none_iff] at e
      rw [List.getElem?_eq_none (show l.length ≤ i by omega)]
      exact pick_pair p is
    | some y =>
      obtain ⟨x, hx, r⟩ := at_ p e
      rw [hx]
      exact .cons r (pick_pair p is)
where at_ {α β : Type} {R : α → β → Prop} : ∀ {l : List α} {m : List β} {j : Nat} {y : β}, Paired R l m → m[j]? = some y → ∃ x, l[j]? = some x ∧ R x y
  | _, _, _, _, .nil, e => by simp at e
  | _, _, 0, _, .cons r _, e => by simp at e; subst e; exact ⟨_, rfl, r⟩
  | _, _, j + 1, y, .cons _ t, e => by
    obtain ⟨v, h1, h2⟩ := at_ (j := j) (y := y) t (by simpa using e)
    exact ⟨v, by simpa using h1, h2⟩
def pickM (m : Nat) (is : List Nat) (a : MA) : MA := fun ρ => a ρ >>= fun x => if x.1.length = m then .ok (pick is x.1, x.2) else .bad
theorem callK_rd {np n m : Nat} {is : List Nat} {body : MS} : ∀ σ H Q, SE C E (callM np n body (pickM m is ml)) σ H Q → tCallK0 (spF C np n body) m (pick is) E (SA C E ml) σ H Q := fun σ H Q ⟨B, A, ρ, N, hm⟩ =>
  ⟨B, A, ρ, N, Rs.wp_mono (Rs.wp_bind (Rs.wp_bind hm)) (fun x hx vs H1 N1 g1 r1 => by
    obtain ⟨hl, hx⟩ := ite_bad hx
    refine ⟨by rw [r1.len]; exact hl, ?_⟩
    have r2 : reps C A H1 (pick is vs) (pick is x.1) := reps_of (pick_pair r1.pair is)
    exact call_core N1 r2 (Rs.wp_mono hx (fun y hy v H2 N2 g2 r3 => hy v H2 N2 (g1.trans g2) r3) (EXe.tr g1))) fun _ _ _ _ h => h⟩
end
end Y

set_option Elab.async false
set_option linter.all false
set_option maxRecDepth 100000
set_option maxHeartbeats 4000000
set_option autoImplicit false
/-! Y9: more that is walked, assigned, made; what is known of a def. -/
namespace Y
open PySem PySem.Spec PyProof.Rows L2 Z
section
variable {X : Cx} {C : Cn} {E : XK} {e a b tg : Expr} {ma mb : ME} {ms mk : MS} {mi : MI} {es : List Expr} {ml : MA} {mf : ML} {pos : Pos}
/-- a list or a tuple -/
def iSeq (K : PySem.W.Frag) (tl : TE) : TI := fun σ H R => tl σ H fun x H1 => ∃ a, x = .ref a ∧ (((∃ xs, SqL K H1 a xs) ∧ R (Itl K a) H1) ∨ ((∃ xs, SqT K H1 a xs) ∧ R (Itt K a) H1))
theorem pi_seq {l : Expr} {tl : TE} (hl : PE X l tl) : PI X tg l (iSeq X.K tl) := by
  refine ⟨fun pins s σ H R I h => thn (hl.run pins s σ H _ I h) fun v s1 hq => ?_⟩
  obtain ⟨x, H1, I1, r1, a, rfl, q1⟩ := hq
  cases r1
  have fp : ∀ b ∈ [s1.heap.objs.size], FpOk X pins H1 b := fun b hb => by rw [List.mem_singleton.mp hb]; exact I1.fpOk (Nat.le_refl _) (I1.hok.fresh (Nat.le_refl _))
  rcases q1 with ⟨⟨xs, hs⟩, q⟩ | ⟨⟨xs, hs⟩, q⟩
  · obtain ⟨its, _, pl, _⟩ := I1.list hs
    exact wpAny_pyIter_list pl.isList ⟨_, [_], _, _, H1, rfl, I1.kept (t' := s1.toks) (fun b o e => Heap.get?_push_of_some _ e), turn_list a _, ⟨_, Heap.get?_push_size _ rfl, rfl, rfl⟩, fp, q⟩
  · obtain ⟨its, _, pl, _⟩ := I1.tuple hs
    exact wpAny_pyIter_tuple (show s1.heap.IsTuple a its.toArray from pl) ⟨_, [_], _, _, H1, rfl, I1.kept (t' := s1.toks) (fun b o e => Heap.get?_push_of_some _ e), turn_tuple a _, ⟨_, Heap.get?_push_size _ rfl, rfl, rfl⟩, fp, q⟩
theorem yi_seq (hK : X.K = C.K) (h : PE X e (SE C E ma)) : PI X tg e (SI C E (walkM seqV ma)) := PI.imp (pi_seq h) fun σ H R ⟨B, A, ρ, N, hm⟩ =>
  ⟨B, A, ρ, N, Rs.wp_mono (Rs.wp_bind hm) (fun x hx v H1 N1 g1 r1 => by
    obtain ⟨xs, e, hz⟩ := Rs.wp_opt (Rs.wp_bind hx)
    rw [hK]
    unfold seqV at e
    split at e
    · rename_i q
      cases e
      rw [q] at r1
      obtain ⟨a, vs, rfl, n, h, r⟩ := rep_lst.mp r1
      exact ⟨a, rfl, .inl ⟨⟨vs, SqL.of h⟩, hz _ H1 N1 g1 (wk_list n h r)⟩⟩
    · rename_i q
      cases e
      rw [q] at r1
      obtain ⟨a, vs, rfl, h, r⟩ := rep_tup.mp r1
      exact ⟨a, rfl, .inr ⟨⟨vs, h.sq⟩, hz _ H1 N1 g1 (wk_tup h r)⟩⟩
    · cases e) fun _ _ _ _ h => h⟩
/-- enumerate(list) -/
def enumL (n : Nat) : List Val → List Val
  | [] => []
  | x :: xs => .tup [.int n, x] :: enumL (n + 1) xs
theorem enumL_length : ∀ (xs : List Val) (n : Nat), (enumL n xs).length = xs.length
  | [], _ => rfl
  | _ :: xs, n => by show (enumL (n + 1) xs).length + 1 = xs.length + 1; rw [enumL_length]
theorem enumL_get : ∀ (xs : List Val) (n i : Nat), (enumL n xs)[i]? = (xs[i]?).map fun x => .tup [.int ((n + i : Nat) : Int), x]
  | [], _, _ => rfl
  | x :: xs, n, 0 => rfl
  | x :: xs, n, i + 1 => by
    show (enumL (n + 1) xs)[i]? = _
    rw [enumL_get xs (n + 1) i]
    rw [List.getElem?_cons_succ, show n + 1 + i = n + (i + 1) by omega]
def enumM (m : MA) : MI := fun ρ => m ρ >>= fun x => match x.1 with | [.lst xs] => .ok (enumL 0 xs, x.2) | _ => .bad
theorem wk_enum {A : Rg} {H : Hp} {a : Addr} {vs : List V} {xs : List Val} (n : A a) (h : H a = some (.lst vs)) (r : reps C A H vs xs) : Wk C A (Ite C.K a) H (enumL 0 xs) := fun A' H' g fr => by
  have h' : SqL C.K H' a vs := SqL.of (g a _ nt n h).2
  have r' := (reps.gr g r).pair
  refine ⟨fun i x hx => ?_, ⟨vs, h', by rw [enumL_length, r.len]; exact Nat.le_refl _⟩⟩
  rw [enumL_get] at hx
  cases e : xs[i]? with
  | none => rw [e] at hx; cases hx
  | some y =>
    rw [e] at hx
    cases hx
    obtain ⟨v, hv, rv⟩ := wk_list.paired_at' r' e
    refine ⟨⟨vs, v, h', hv⟩, fun v2 H2 ⟨T, z, e2, hT, e3, k⟩ => ?_⟩
    subst e2
    subst e3
    have hz := k vs h'
    rw [hv] at hz
    cases hz
    exact ⟨same_new hT, rep_tup.mpr ⟨T, _, rfl, .inl ⟨fr T (.of hT), upd_same⟩, reps_cons (rep_int.mpr (by simp)) (reps_cons (rep.gr (gr_new hT) rv) reps_nil)⟩⟩
theorem yi_enum (hK : X.K = C.K) (h : PI X tg e (iEnum X.K (SA C E ml))) : PI X tg e (SI C E (enumM ml)) := PI.imp h fun σ H R ⟨B, A, ρ, N, hm⟩ =>
  ⟨B, A, ρ, N, Rs.wp_mono (Rs.wp_bind hm) (fun x hx us H1 N1 g1 r1 => by
    split at hx
    · rename_i xs q
      rw [q] at r1
      obtain ⟨v, rfl, rv⟩ := reps1 r1
      obtain ⟨a, vs, rfl, n, h, r⟩ := rep_lst.mp rv
      rw [hK]
      exact ⟨a, vs, rfl, SqL.of h, hx _ H1 N1 g1 (wk_enum n h r)⟩
    · exact hx.elim) fun _ _ _ _ h => h⟩
/-- script[:k] -/
def scrF (k : Nat) (m : ME) : ML := fun ρ => m ρ >>= fun x => match x.1 with | .scr ns => .ok ((ns.take k).map .int, x.2) | _ => .bad
theorem reps_ints {A : Rg} {H : Hp} : ∀ ns : List Int, reps C A H (ns.map V.int) (ns.map .int)
  | [] => reps_nil
  | n :: ns => reps_cons (rep_int.mpr rfl) (reps_ints ns)
theorem cutV_take (xs : List Int) (k : Nat) : cutV (xs.map V.int) none (some (k : Int)) = (xs.take k).map V.int := by
  unfold cutV
  rw [HT.sIx_none, HT.sIx_nat, List.drop_zero, List.map_take, List.length_map, Nat.sub_zero, Nat.min_comm]
  by_cases h : xs.length ≤ k
  · rw [Nat.min_eq_left h, List.take_of_length_le (by rw [List.length_map]; omega), List.take_of_length_le (by rw [List.length_map]; exact h)]
  · rw [Nat.min_eq_right (by omega)]
theorem yf_scr {k : Nat} (hK : X.K = C.K) (h : PE X e (tSl (rSlL X.K) (SE C E ma) tNoPart (tPart (tC (.int (k : Int)))))) : PE X e (SF C E (scrF k ma)) := PE.imp h fun σ H Q ⟨B, A, ρ, N, hm⟩ =>
  ⟨B, A, ρ, N, Rs.wp_mono (Rs.wp_bind hm) (fun x hx v H1 N1 g1 r1 => by
    split at hx
    · rename_i ns q
      rw [q] at r1
      obtain ⟨a, rfl, h⟩ := rep_scr.mp r1
      refine ⟨(k : Int), rfl, a, _, rfl, by rw [hK]; exact h.sq, fun p hp => ?_⟩
      rw [cutV_take]
      exact new_rd N1 g1 hx p _ hp (reps_ints _)
    · exact hx.elim) fun _ _ _ _ h => h⟩
/-- {} -/
theorem y_dic0 : PE X (.Dict [] [] pos) (SE C E (cstM (.dic [] []))) := PE.imp pe_dnewK fun σ H Q ⟨B, A, ρ, N, hm⟩ => fun p hp => hm _ _ (N.new hp) (.same (same_new hp)) (rep_dic.mpr ⟨p, [], rfl, N.fr p (.of hp), upd_same, rfl, reps_nil⟩)
/-- x, y = a, b -/
def parS (i j : Nat) (m : MA) : MS := fun ρ => m ρ >>= fun x => match x.1 with
  | [u, v] => if freeS x.2 i = true ∧ freeS (x.2.set i (some (.fz u))) j = true then .ok (.nx ((x.2.set i (some (.fz u))).set j (some (.fz v)))) else .bad
  | _ => .bad
theorem ys_par {i j : Nat} {st : Stmt} (h : PS X st (tPar i j (SA C E ml))) : PS X st (SS C E (parS i j ml)) := PS.imp h fun D σ H ⟨B, A, ρ, N, hm⟩ =>
  ⟨B, A, ρ, N, Rs.wp_mono (Rs.wp_bind hm) (fun x hx us H1 N1 g1 r1 => by
    split at hx
    · rename_i u v q
      obtain ⟨⟨f1, f2⟩, hx⟩ := ite_bad hx
      rw [q] at r1
      obtain ⟨p, w, rfl, rp, rw'⟩ := reps2 r1
      exact ⟨p, w, rfl, hx A _ H1 ((N1.set f1 rp).set f2 rw') g1.g⟩
    · exact hx.elim) EXe.of⟩
/-- targets = e -/
def asgT (t : MT) (m : ME) : MS := fun ρ => m ρ >>= fun x => Rs.opt (t x.1 x.2) >>= fun ρ' => .ok (.nx ρ')
theorem ys_asgT {t : MT} {is : List Nat} {st : Stmt} (h : PS X st (tAsg (SE C E ma) (SG C is t))) : PS X st (SS C E (asgT t ma)) := PS.imp h fun D σ H ⟨B, A, ρ, N, hm⟩ =>
  ⟨B, A, ρ, N, Rs.wp_mono (Rs.wp_bind hm) (fun x hx v H1 N1 g1 r1 => by
    obtain ⟨ρ', e1, hx⟩ := Rs.wp_opt (Rs.wp_bind hx)
    exact ⟨B, A, x.2, x.1, ρ', N1, r1, e1, fun σ' N' _ => hx A σ' H1 N' g1.g⟩) EXe.of⟩
end
/-- what is known of a def -/
structure Df (P : Program) (w : World) (C : Cn) (mg : Str → Option Value) (base : Heap) (nm : Str) (k : Nat) (ps : List Str) (kws : List (List Str × List Nat)) (sp : Sp) where
  f : Addr
  fd : FuncData
  ok : FnOk P w C.K mg base (L2.CX P w) k f fd ps sp
  mgf : mg nm = some (.ref f)
  kp : PySem.W.keepIn C.K (.ref f) = true
  b : Binds C.K fd ps []
  kw : ∀ q ∈ kws, ∀ (s : Shared) (ws : List Value), C.K.In s.heap → ws.length = q.1.length → BindsTo s fd ⟨[], q.1.zip ws⟩ (ps.zip (pick q.2 ws))
/-- an error's class with one field -/
structure Ex1 (P : Program) (w : World) (C : Cn) (mg : Str → Option Value) (base : Heap) (nm : Str) (c : Nat) (p f : Str) where
  fi : Addr
  fd : FuncData
  o : OexC C.K (C.ca c)
  n : PySem.W.findIn C.K (.ref (C.ca c)) f = some none
  i : PySem.W.findIn C.K (.ref (C.ca c)) "__init__" = some (some (.ref fi))
  t : PySem.W.typeIn C.K (.ref fi) = some (.type "function")
  ok : FnOk P w C.K mg base (L2.CX P w) 1 fi fd [("self" : Str), p] (sp1 C.K f)
  b : Binds C.K fd [("self" : Str), p] []
  mgf : mg nm = some (.ref (C.ca c))
end Y

set_option Elab.async false
set_option linter.all false
set_option maxRecDepth 100000
set_option maxHeartbeats 4000000
set_option autoImplicit false
/-! YA: what is heard of a call: try: ask() except .. as error: the field of the error. -/
namespace Y
open PySem PySem.Spec PyProof.Rows L2 Z
theorem takes_len {X : Cx} {W : WX} (t : Takes X W) : Takes X (fun cls d σ H => σ.length = X.N.length → W cls d σ H) := fun u s' ⟨a, B, sI, pins, σ, H, cls, d, e, I, nb, up, sky, na, os, ag, w⟩ =>
  t u s' ⟨a, B, sI, pins, σ, H, cls, d, e, I, nb, up, sky, na, os, ag, w I.len⟩
/-- isinstance(e, c) of the error that the suite holds, its own dict known -/
def rIsD (K : PySem.W.Frag) (a D : Addr) (cls : Value) (d : Option Addr) : List V → Hp → VK → Prop := fun xs H Q => cls = .ref D ∧ (∃ dd fs, d = some dd ∧ H dd = some (.xd fs)) ∧ ∃ (c : V) (cv : Value) (b : Bool), xs = [.ref a, c] ∧ (∀ u, RelV c u → u = cv) ∧ PySem.W.kitOne K (.ref D) cv = some b ∧ Q (.bl b) H
theorem call_isD {X : Cx} {a D : Addr} {oe : Obj} {cls : Value} {d : Option Addr} {pn : List (Addr × Obj)} (C : ExcC X.K D) (hz : Zc cls d oe) (hf : ∃ vs, oe.data = .fields vs) : CallR (X.suite a ((a, oe) :: pn)) (.builtin "isinstance") (rIsD X.K a D cls d) := by
  intro pins s σ H xs us Q I r h
  obtain ⟨rfl, ⟨dd, fs, rfl, hdd⟩, c, cv, b, rfl, hcv, e, q⟩ := h
  obtain ⟨u, w, rfl, ru, rw'⟩ := vals2 r
  cases ru
  have ec := hcv _ rw'
  subst ec
  obtain ⟨hget, _⟩ := I.pin (a, oe) (List.mem_append.mpr (.inl List.mem_cons_self))
  obtain ⟨vs, hv⟩ := hf
  obtain ⟨mA, hns, _⟩ : ObjOk X.prog X.w H s.heap dd (.xd fs) := I.hok dd _ hdd
  obtain ⟨od, ho, _⟩ := lookIn_ns hns
  have J : PySem.W.InstAt s.heap a oe D (some od) := ⟨hget, hz.1, by unfold PySem.W.notCls; rw [hv] <;> rfl, by rw [hz.2]; exact ho⟩
  obtain ⟨cdD, hcD, _⟩ := PySem.W.any_some C.hd
  exact PySem.W.kia_one (PySem.W.kitx_exc (by rw [hcD]; rfl) C.hg C.hk C.hs C.ha C.hn C.ht C.hm) I.kIn J e (fun z => nomatch z) fun tk => ⟨.bl b, H, I.kept (t' := tk) fun _ _ z => z, rfl, q⟩
/-- what is known of the error's class D, one of those that S names -/
structure Hd (K : PySem.W.Frag) (S D : Addr) (f : Str) : Prop where
  e : ExcC K D
  x : XfC K D
  n : PySem.W.findIn K (.ref D) f = some none
  te : PySem.W.exmOne K (.ref D) (.ref S) = some true
/-- heard: the field of an error of the class D; None where there is none -/
def TH (D : Addr) (f : Str) : (XK → Hp → VK → Prop) → Hp → VK → Prop := fun tl H Q =>
  tl (fun cls d H' => cls = .ref D ∧ ∃ (dd : Addr) (fs : List (Str × V)) (v : V), d = some dd ∧ H' dd = some (.xd fs) ∧ fs.lookup f = some v ∧ Q v H') H (fun _ H' => Q .non H')
def hearM (c : Nat) (f : Str) (m : ME) : ME := fun ρ => match m ρ with
  | .ok x => .ok (.non, x.2)
  | .exc c' ns vs ρ' => if c' = c ∧ ns = [f] then (match vs with | [v] => .ok (v, ρ') | _ => .bad) else .bad
  | .bad => .bad
section
variable {X : Cx} {C : Cn} {E : XK} {e : Expr} {ma : ME}
theorem y_hear {c : Nat} {f : Str} (h : PE X e (LamX.tLam C.T (TH (C.ca c) f) (fun E' => SE C E' ma))) : PE X e (SE C E (hearM c f ma)) := PE.imp h fun σ H Q ⟨B, A, ρ, N, hm⟩ => by
  refine ⟨N.tb, fun H1 ex t1 => ?_⟩
  have k : ∀ a o, NT o → H a = some o → H1 a = some o := fun a o n h => ex a o h n
  have N1 := N.kept k (fun a h => h.bk k) t1
  have g1 : Gd σ A H ρ H1 ρ := .kept k (fun a h => h.bk k)
  refine ⟨B, A, ρ, N1, ?_⟩
  unfold hearM at hm
  cases e : ma ρ with
  | bad => rw [e] at hm; exact hm.elim
  | ok x =>
    rw [e] at hm
    exact fun v H' N' g' r' => hm .non H' N' (g1.trans g') (rep_non.mpr rfl)
  | exc c' ns vs ρ' =>
    rw [e] at hm
    dsimp only at hm
    obtain ⟨⟨rfl, rfl⟩, hm2⟩ := ite_bad hm
    clear hm
    cases vs with
    | nil => exact hm2.elim
    | cons v r =>
      cases r with
      | cons _ _ => exact hm2.elim
      | nil =>
        intro d ws H' N' g' hd h1 hl r
        obtain ⟨u, rfl, ru⟩ := reps1 r
        exact ⟨rfl, d, _, u, rfl, h1, by simp [List.lookup], hm2 u H' N' (g1.trans g') ru⟩
end
end Y

set_option Elab.async false
set_option linter.all false
set_option maxRecDepth 100000
set_option maxHeartbeats 4000000
set_option autoImplicit false
/-! YB: the def that hears. -/
namespace Y
open PySem PySem.Spec PyProof.Rows L2 Z
theorem heard_gives {X : Cx} {Ng : List Str} {x a h e q f W B s : Str} {sg : Scope} {g CS D : Addr} {cdg : Value} {j1 j2 : Nat} {p1 p2 p3 q1 q2 q3 q4 q5 q6 q7 q8 q9 q10 q11 q12 q13 q14 q15 q16 q17 q18 : Pos}
    (hNg : Ng = [a, h, e]) (hnd : Ng.Nodup) (hh : sg.names.lookup h = some .local) (he : sg.names.lookup e = some .local)
    (hW : sg.names.lookup W = some .globalImplicit) (hB : sg.names.lookup B = some .globalImplicit) (hI : sg.names.lookup ("isinstance" : Str) = some .globalImplicit)
    (mW : X.mg W = some (.ref CS)) (mB : X.mg B = some (.ref D)) (mI : X.mg ("isinstance" : Str) = none)
    (dW : (W == ("__debug__" : Str)) = false) (dB : (B == ("__debug__" : Str)) = false) (dh : (h == ("__debug__" : Str)) = false) (de : (e == ("__debug__" : Str)) = false) (ch : (h == ("__classdict__" : Str)) = false) (ce : (e == ("__classdict__" : Str)) = false)
    (C : Hd X.K CS D f) (hk : PySem.W.kitOne X.K (.ref D) (.ref D) = some true)
    (hat : ∀ env : PySem.Env, attributeBase (.Name e q10) f env (eval (.Name e q10) env) = eval (.Name e q10) env) :
    LamX.GivesTo X Ng x sg g cdg [.Assign [.Name h q1] (.Constant .none j1 q2) q3, .Try [.Expr (.Call (.Name a p1) [] [] p2) p3] [.ExceptHandler (some (.Name W q4)) (some e) [.Assign [.Name h q5] (.IfExp (.Call (.Name "isinstance" q6) [.Name e q7, .Name B q8] [] q9) (.Attribute (.Name e q10) f q11) (.Constant (.str s) j2 q12) q13) q14] q15] [] [] q16, .Return (some (.Name h q17)) q18] a q (TH D f) := by
  subst hNg
  intro fa c' st H Q tl act hc hq
  have lh : ([a, h, e] : List Str)[1]? = some h := rfl
  have le : ([a, h, e] : List Str)[2]? = some e := rfl
  refine ⟨_, pss_cons (ps_set (i := 1) hnd rfl (.inl hh) pe_non (hs := ?_) (hf := .inr hh)) (pss_cons (ps_try_as (c := .ref CS) (i := 2)
      (tb := fun W D' σ H => ∃ Ech : XK, (∀ cls d σ' H', σ'.length = 3 → Ech cls d H' → W cls d σ' H') ∧ σ[0]? = some (some (.ref fa)) ∧ H c' = some (LamX.CodeO c' q) ∧ tl Ech H (fun _ H1 => D'.nx σ H1))
      rfl rfl hnd rfl he ⟨hW, dW, .inl mW⟩ LamX.takes0 (fun W' pn xe tk _ => ?_)
      (fun a' oe cls d pn hz hf => pss_one (ps_set (i := 1) hnd rfl (.inl hh)
        (pe_ifExp (pt_val (pe_callB (call_isD C.e hz hf) hI mI rfl (pa_cons (pe_var (i := 2) le (.inl he) de ce) (pa_cons (pe_glob (v := .ref D) hB mB rfl dB) pa_nil))))
          (pe_xf C.x C.n hz hf (pe_var (i := 2) le (.inl he) de ce) (hat _)) pe_str) (hs := ?_) (hf := .inr hh))))
      (pss_one (ps_ret (pe_var (i := 1) lh (.inl hh) dh ch)))), ?_⟩
  · rfl
  · refine ⟨fun pins s' σ H' D' I h' => ?_⟩
    obtain ⟨Ech, hW', h1, h2, h3⟩ := h'
    have hp := act _ pn xe Ech p1 p2 (takes_len tk) (fun cls d σ' H' z l => hW' cls d σ' H' l z)
    exact (pss_one (ps_expr (pos := p3) hp)).run pins s' σ H' D' I ⟨h1, h2, h3⟩
  · rfl
  · show ∃ Ech : XK, _ ∧ _ ∧ _ ∧ _
    refine ⟨fun cls d H' => cls = .ref D ∧ ∃ (dd : Addr) (fs : List (Str × V)) (v : V), d = some dd ∧ H' dd = some (.xd fs) ∧ fs.lookup f = some v ∧ Q v H', ?_, rfl, hc, ?_⟩
    · rintro cls d σ' H' hl ⟨rfl, dd, fs, v, rfl, hd, hf, hv⟩
      match σ', hl with
      | [s0, s1, s2], _ =>
        exact ⟨true, C.te, fun _ a' na => ⟨_, rfl, rfl, ⟨dd, fs, rfl, hd⟩, .ref D, .ref D, true, rfl, fun _ r => r, hk, true, rfl, ⟨_, rfl, rfl, rfl, dd, fs, v, rfl, hd, hf, _, rfl, hv⟩⟩, fun z => nomatch z⟩
    · have e : (fun (_ : V) (H' : Hp) => Q .non H') = fun (_ : V) (H1 : Hp) => tRet (tVar 1) { nx := fun _ H' => Q .non H', rt := Q } ((L2.start [a, h, e] [V.ref fa]).set 1 (some .non)) H1 := by
        funext _ H1
        exact propext ⟨fun z => ⟨_, rfl, z⟩, fun ⟨v, e, z⟩ => by cases e; exact z⟩
      have hq' := hq
      unfold TH at hq'
      rw [e] at hq'
      exact hq'
/-- a def that hears -/
structure Hear (C : Cn) (mg : Str → Option Value) (x a : Str) (c : Nat) (f : Str) (st : Stmt) (N : List Str) where
  g : Addr
  oc : Value
  cdv : Value
  kV : Value
  doc : Value
  pm : Value
  ct : Value
  od : Option Addr
  an : Option Addr
  osl : Array (Option Value)
  lk : C.K.lookup g = some ⟨oc, od, .func (PySem.W.fnOf x x (defArgs st) (defBody st) (defScope st) .none kV doc pm an cdv ct), osl⟩
  hcg : PySem.W.codeIn C.K cdv x = true
  mgf : mg x = some (.ref g)
  kp : PySem.W.keepIn C.K (.ref g) = true
  gives : ∀ X : Cx, X.K = C.K → X.mg = mg → ∀ q, LamX.GivesTo X N x (defScope st) g cdv (defBody st) a q (TH (C.ca c) f)
/-- a def in which lambdas are made: its code object and its table -/
structure LamD (C : Cn) (base : Heap) (mg : Str → Option Value) (c P : Addr) (q : Str) : Prop where
  tb : LamX.TabB base mg c P
  mem : (P, q) ∈ C.T
  un : ∀ p ∈ C.T, p.1 = P → p.2 = q
theorem y_lam {X : Cx} {C : Cn} {E : XK} {ma : ME} {x a : Str} {c : Nat} {f q : Str} {st : Stmt} {N : List Str} {cc P : Addr} {mg : Str → Option Value} {k : Nat} {params : Arguments} {body : Expr} {scope : Scope} {p lpos pos : Pos}
    (Hh : Hear C mg x a c f st N) (hK : X.K = C.K) (hmg : X.mg = mg) (hgl : Gl X x) (Sg : FnScope N [a] (defScope st)) (hN : N[0]? = some a) (hva : Vis (defScope st) a)
    (hb : ∀ us : List Value, us.length = 1 → bindArgs (PySem.W.fnOf x x (defArgs st) (defBody st) (defScope st) .none Hh.kV Hh.doc Hh.pm Hh.an Hh.cdv Hh.ct) ⟨us, []⟩ = pure (([a] : List Str).zip us))
    (D : LamD C X.base mg cc P q) (hcode : X.env.code = .ref cc) (hq : X.env.qual ++ "<lambda>" = q) (hr : Room (k + 2) X.A) (sc : Scope) (hsc : X.env.scope = sc) (L : LamX.LamS sc scope) (hdef : defaultsOf params X.env = ([], []))
    (hbind : ∀ (q : Str) (cl : List (Str × Addr)) (pm cv ctv : Value), bindArgs (PySem.W.kla_fn "<lambda>" q params body scope cl pm cv ctv) ⟨[], []⟩ = pure [])
    (hbody : ∀ (A : Around) (outer : List PySem.Env) (s : Shared) (H : Hp) (E : XK) (f c' : Addr), Room k (A.deeper (LamX.lamEnv X scope s.heap.objs.size f c')) → PE (LamX.lamCx X A outer s H E scope f c') body (SE C E ma))
    (hdb : (x == ("__debug__" : Str)) = false := by decide) (hd : (a == ("__debug__" : Str)) = false := by decide) (hcd : (a == ("__classdict__" : Str)) = false := by decide) :
    PE X (.Call (.Name x p) [.Lambda params body scope lpos] [] pos) (SE C E (hearM c f ma)) := by
  subst hmg hq hsc
  refine y_hear (LamX.pe_lamcall (T := C.T) (t := fun E' => SE C E' ma) hgl Hh.mgf (by rw [hK]; exact Hh.kp) (by rw [hK]; exact Hh.lk) (by rw [hK]; exact Hh.hcg) ?_ Sg hN hva (Hh.gives X hK rfl _) D.tb hcode D.mem D.un hr L hdef hbind hbody hdb hd hcd)
  exact Binds.all hb
end Y

set_option Elab.async false
set_option linter.all false
set_option maxRecDepth 100000
set_option maxHeartbeats 4000000
set_option autoImplicit false
namespace Y
open PySem PySem.Spec PyProof.Rows L2 Z
def top (i : Nat) : Stmt := PySem.Challenge.pw_littlewebs_k03_fractions.main.body.getD i (.Pass ⟨0, 0, 0, 0⟩)
variable {P : Program} {w : World} {C : Cn} {mg : Str → Option Value} {base : Heap}
abbrev s__law_heard : Stmt := top 24
theorem sc__law_heard : FnScope ["ask", "heard", "error"] ["ask"] (defScope s__law_heard) := ⟨rfl, rfl, rfl, by decide +kernel, rfl, by decide +kernel, by decide +kernel⟩
def b_is_integer : MS := (retS (andM (cbM (f2 isiV) (consA (varM 0) (consA (cstM (.ty "int")) nilA))) (unM notV (cbM (f2 isiV) (consA (varM 0) (consA (cstM (.ty "bool")) nilA))))))
abbrev s_is_integer : Stmt := top 2
theorem sc_is_integer : FnScope ["value"] ["value"] (defScope s_is_integer) := ⟨rfl, rfl, rfl, by decide +kernel, rfl, by decide +kernel, by decide +kernel⟩
def b_are_numbers : MS := (retS (andM (cbM (f2 isiV) (consA (varM 0) (consA (tupM (consA (cstM (.ty "list")) (consA (cstM (.ty "tuple")) nilA))) nilA))) (cbM (f1 allV) (consA (listM (compF [1] (walkM seqV (varM 0)) (nameT 1) yesB (callM 1 1 b_is_integer (consA (varM 1) nilA)))) nilA))))
abbrev s_are_numbers : Stmt := top 3
theorem sc_are_numbers : FnScope ["value", "item"] ["value"] (defScope s_are_numbers) := ⟨rfl, rfl, rfl, by decide +kernel, rfl, by decide +kernel, by decide +kernel⟩
def b_is_fraction : MS := (retS (andM (callM 1 2 b_are_numbers (consA (varM 0) nilA)) (andM (binM eqV (cbM (f1 lenV) (consA (varM 0) nilA)) (cstM (.int 2))) (andM (binM geV (binM ixV (varM 0) (cstM (.int 1))) (cstM (.int 1))) (binM eqV (cbM (f2 gcdV) (consA (binM ixV (varM 0) (cstM (.int 0))) (consA (binM ixV (varM 0) (cstM (.int 1))) nilA))) (cstM (.int 1)))))))
abbrev s_is_fraction : Stmt := top 8
theorem sc_is_fraction : FnScope ["value"] ["value"] (defScope s_is_fraction) := ⟨rfl, rfl, rfl, by decide +kernel, rfl, by decide +kernel, by decide +kernel⟩
def b_lowest : MS := (seqS (ifS (notB (tstM truV (callM 1 1 b_is_integer (consA (varM 0) nilA)))) (raiseS 1 [("part" : Str)] (consA (cstM (.str ("top" : Str))) nilA)) nextS) (seqS (ifS (orB (notB (tstM truV (callM 1 1 b_is_integer (consA (varM 1) nilA)))) (tstM blV (binM eqV (varM 1) (cstM (.int 0))))) (raiseS 1 [("part" : Str)] (consA (cstM (.str ("bottom" : Str))) nilA)) nextS) (seqS (asgS 2 (ifM (tstM blV (binM gtV (varM 1) (cstM (.int 0)))) (cbM (f2 gcdV) (consA (varM 0) (consA (varM 1) nilA))) (unM negV (cbM (f2 gcdV) (consA (varM 0) (consA (varM 1) nilA)))))) (retS (tupM (consA (binM divV (varM 0) (varM 2)) (consA (binM divV (varM 1) (varM 2)) nilA)))))))
abbrev s_lowest : Stmt := top 9
theorem sc_lowest : FnScope ["top", "bottom", "divisor"] ["top", "bottom"] (defScope s_lowest) := ⟨rfl, rfl, rfl, by decide +kernel, rfl, by decide +kernel, by decide +kernel⟩
def b__need_fractions : MS := (seqS (ifS (notB (tstM truV (callM 1 1 b_is_fraction (consA (varM 0) nilA)))) (raiseS 1 [("part" : Str)] (consA (cstM (.str ("one" : Str))) nilA)) nextS) (ifS (notB (tstM truV (callM 1 1 b_is_fraction (consA (varM 1) nilA)))) (raiseS 1 [("part" : Str)] (consA (cstM (.str ("other" : Str))) nilA)) nextS))
abbrev s__need_fractions : Stmt := top 14
theorem sc__need_fractions : FnScope ["one", "other"] ["one", "other"] (defScope s__need_fractions) := ⟨rfl, rfl, rfl, by decide +kernel, rfl, by decide +kernel, by decide +kernel⟩
def b_plus : MS := (seqS (dropS (callM 2 2 b__need_fractions (consA (varM 0) (consA (varM 1) nilA)))) (retS (callM 2 3 b_lowest (consA (binM addV (binM mulV (binM ixV (varM 0) (cstM (.int 0))) (binM ixV (varM 1) (cstM (.int 1)))) (binM mulV (binM ixV (varM 1) (cstM (.int 0))) (binM ixV (varM 0) (cstM (.int 1))))) (consA (binM mulV (binM ixV (varM 0) (cstM (.int 1))) (binM ixV (varM 1) (cstM (.int 1)))) nilA)))))
abbrev s_plus : Stmt := top 10
theorem sc_plus : FnScope ["one", "other"] ["one", "other"] (defScope s_plus) := ⟨rfl, rfl, rfl, by decide +kernel, rfl, by decide +kernel, by decide +kernel⟩
def b_less : MS := (seqS (dropS (callM 2 2 b__need_fractions (consA (varM 0) (consA (varM 1) nilA)))) (retS (callM 2 3 b_lowest (consA (binM subV (binM mulV (binM ixV (varM 0) (cstM (.int 0))) (binM ixV (varM 1) (cstM (.int 1)))) (binM mulV (binM ixV (varM 1) (cstM (.int 0))) (binM ixV (varM 0) (cstM (.int 1))))) (consA (binM mulV (binM ixV (varM 0) (cstM (.int 1))) (binM ixV (varM 1) (cstM (.int 1)))) nilA)))))
abbrev s_less : Stmt := top 11
theorem sc_less : FnScope ["one", "other"] ["one", "other"] (defScope s_less) := ⟨rfl, rfl, rfl, by decide +kernel, rfl, by decide +kernel, by decide +kernel⟩
def b_times : MS := (seqS (dropS (callM 2 2 b__need_fractions (consA (varM 0) (consA (varM 1) nilA)))) (retS (callM 2 3 b_lowest (consA (binM mulV (binM ixV (varM 0) (cstM (.int 0))) (binM ixV (varM 1) (cstM (.int 0)))) (consA (binM mulV (binM ixV (varM 0) (cstM (.int 1))) (binM ixV (varM 1) (cstM (.int 1)))) nilA)))))
abbrev s_times : Stmt := top 12
theorem sc_times : FnScope ["one", "other"] ["one", "other"] (defScope s_times) := ⟨rfl, rfl, rfl, by decide +kernel, rfl, by decide +kernel, by decide +kernel⟩
def b_over : MS := (seqS (dropS (callM 2 2 b__need_fractions (consA (varM 0) (consA (varM 1) nilA)))) (seqS (ifS (tstM blV (binM eqV (binM ixV (varM 1) (cstM (.int 0))) (cstM (.int 0)))) (raiseS 1 [("part" : Str)] (consA (cstM (.str ("other" : Str))) nilA)) nextS) (retS (callM 2 3 b_lowest (consA (binM mulV (binM ixV (varM 0) (cstM (.int 0))) (binM ixV (varM 1) (cstM (.int 1)))) (consA (binM mulV (binM ixV (varM 0) (cstM (.int 1))) (binM ixV (varM 1) (cstM (.int 0)))) nilA))))))
abbrev s_over : Stmt := top 13
theorem sc_over : FnScope ["one", "other"] ["one", "other"] (defScope s_over) := ⟨rfl, rfl, rfl, by decide +kernel, rfl, by decide +kernel, by decide +kernel⟩
def n__law_cup : ML := (dispF (consA (listM (compF [1] (walkM seqV (listM (scrF 60 (varM 0)))) (nameT 1) yesB (cbM (f1 intV) (consA (varM 1) nilA)))) (consA (cstM (.int 0)) (consA (cstM (.int 0)) nilA))))
abbrev s__law_cup : Stmt := top 16
theorem sc__law_cup : FnScope ["script", "cell"] ["script"] (defScope s__law_cup) := ⟨rfl, rfl, rfl, by decide +kernel, rfl, by decide +kernel, by decide +kernel⟩
def b__law_sip : MS := (seqS (ifS (tstM blV (binM gtV (ixO 0 (cstM (.int 2))) (cstM (.int 0)))) (seqS (asgS 2 (cbM (f1 intV) (consA (ixO 0 (cstM (.int 2))) nilA))) (seqS (setS 0 (cstM (.int 2)) (binM divV (varM 2) (varM 1))) (retS (binM modV (cbM (f1 intV) (consA (varM 2) nilA)) (varM 1))))) nextS) (seqS (asgS 3 (ixO 0 (cstM (.int 1)))) (seqS (setS 0 (cstM (.int 1)) (binM addV (varM 3) (cstM (.int 1)))) (seqS (asgS 4 (binM addV (binM mulV (cstM (.int 96207)) (varM 3)) (cstM (.int 7519)))) (seqS (ifS (tstM blV (binM neV (ixO 0 (cstM (.int 0))) (lstM nilA))) (asgS 4 (binM ixV (ixO 0 (cstM (.int 0))) (binM modV (cbM (f1 intV) (consA (varM 3) nilA)) (cbM (f1 lenV) (consA (ixO 0 (cstM (.int 0))) nilA))))) nextS) (seqS (ifS (andB (tstM blV (binM ltV (varM 3) (cbM (f1 lenV) (consA (ixO 0 (cstM (.int 0))) nilA)))) (tstM blV (binM geV (cbM (f1 absVl) (consA (varM 4) nilA)) (binM powV (cstM (.int 10)) (cstM (.int 18)))))) (seqS (asgS 2 (binM addV (binM mulV (cstM (.int 2)) (binM subV (cbM (f1 absVl) (consA (varM 4) nilA)) (binM powV (cstM (.int 10)) (cstM (.int 18))))) (cbM (f1 intV) (consA (binM ltV (varM 4) (cstM (.int 0))) nilA)))) (seqS (setS 0 (cstM (.int 2)) (binM divV (varM 2) (varM 1))) (retS (binM modV (cbM (f1 intV) (consA (varM 2) nilA)) (varM 1))))) nextS) (seqS (asgS 5 (binM modV (cbM (f1 intV) (consA (binM powV (binM addV (binM addV (binM modV (cbM (f1 intV) (consA (varM 4) nilA)) (cstM (.int 2147483587))) (binM mulV (cstM (.int 65029)) (varM 3))) (cstM (.int 7519))) (cstM (.int 5))) nilA)) (cstM (.int 2147483549)))) (seqS (asgS 5 (binM modV (cbM (f1 intV) (consA (binM powV (binM addV (binM addV (binM mulV (varM 5) (binM addV (binM mulV (cstM (.int 2)) (varM 3)) (cstM (.int 4415)))) (binM mulV (binM mulV (cstM (.int 96207)) (varM 3)) (varM 3))) (cstM (.int 65029))) (cstM (.int 3))) nilA)) (cstM (.int 2147483563)))) (retS (binM modV (cbM (f1 intV) (consA (binM divV (varM 5) (cstM (.int 64))) nilA)) (varM 1)))))))))))
abbrev s__law_sip : Stmt := top 17
theorem sc__law_sip : FnScope ["cup", "many", "rest", "turn", "cell", "mixed"] ["cup", "many"] (defScope s__law_sip) := ⟨rfl, rfl, rfl, by decide +kernel, rfl, by decide +kernel, by decide +kernel⟩
def b__law_pick : MS := (retS (binM ixV (varM 1) (callO 0 2 6 b__law_sip (consA (cbM (f1 lenV) (consA (varM 1) nilA)) nilA))))
abbrev s__law_pick : Stmt := top 18
theorem sc__law_pick : FnScope ["cup", "some"] ["cup", "some"] (defScope s__law_pick) := ⟨rfl, rfl, rfl, by decide +kernel, rfl, by decide +kernel, by decide +kernel⟩
def b__law_integer : MS := (retS (callO 0 2 2 b__law_pick (consA (lstM (consA (binM subV (callO 0 2 6 b__law_sip (consA (cstM (.int 13)) nilA)) (cstM (.int 6))) (consA (binM subV (callO 0 2 6 b__law_sip (consA (cstM (.int 61)) nilA)) (cstM (.int 30))) (consA (binM addV (binM powV (cstM (.int 10)) (cstM (.int 30))) (callO 0 2 6 b__law_sip (consA (cstM (.int 9)) nilA))) (consA (binM subV (unM negV (binM powV (cstM (.int 10)) (cstM (.int 18)))) (callO 0 2 6 b__law_sip (consA (cstM (.int 99)) nilA))) nilA))))) nilA)))
abbrev s__law_integer : Stmt := top 19
theorem sc__law_integer : FnScope ["cup"] ["cup"] (defScope s__law_integer) := ⟨rfl, rfl, rfl, by decide +kernel, rfl, by decide +kernel, by decide +kernel⟩
def b__law_fraction : MS := (seqS (asgT (tupT 2 (consT (nameT 1) (consT (nameT 2) nilT))) (tupM (consA (callO 0 1 1 b__law_integer nilA) (consA (binM addV (cstM (.int 1)) (callO 0 2 6 b__law_sip (consA (cstM (.int 40)) nilA))) nilA)))) (seqS (asgS 3 (cbM (f1 maxV) (consA (listM (compF [4] (rng2M (consA (cstM (.int 1)) (consA (binM addV (varM 2) (cstM (.int 1))) nilA))) (nameT 4) (andB (tstM blV (binM eqV (binM modV (cbM (f1 intV) (consA (varM 1) nilA)) (varM 4)) (cstM (.int 0)))) (tstM blV (binM eqV (binM modV (cbM (f1 intV) (consA (varM 2) nilA)) (varM 4)) (cstM (.int 0))))) (varM 4))) nilA))) (retS (tupM (consA (binM divV (varM 1) (varM 3)) (consA (binM divV (varM 2) (varM 3)) nilA))))))
abbrev s__law_fraction : Stmt := top 20
theorem sc__law_fraction : FnScope ["cup", "top", "bottom", "part", "number"] ["cup"] (defScope s__law_fraction) := ⟨rfl, rfl, rfl, by decide +kernel, rfl, by decide +kernel, by decide +kernel⟩
def b__law_is_lowest : MS := (seqS (ifS (orB (notB (tstM truV (cbM (f2 isiV) (consA (varM 0) (consA (cstM (.ty "tuple")) nilA))))) (orB (tstM blV (binM neV (cbM (f1 lenV) (consA (varM 0) nilA)) (cstM (.int 2)))) (tstM blV (binM neV (listM (compF [1] (walkM seqV (varM 0)) (nameT 1) (orB (tstM truV (cbM (f2 isiV) (consA (varM 1) (consA (cstM (.ty "bool")) nilA)))) (notB (tstM truV (cbM (f2 isiV) (consA (varM 1) (consA (cstM (.ty "int")) nilA)))))) (varM 1))) (lstM nilA))))) (retS (cstM (.bl false))) nextS) (seqS (asgT (tupT 2 (consT (nameT 2) (consT (nameT 3) nilT))) (varM 0)) (seqS (ifS (orB (tstM blV (binM ltV (varM 3) (cstM (.int 1)))) (andB (tstM blV (binM eqV (varM 2) (cstM (.int 0)))) (tstM blV (binM neV (varM 3) (cstM (.int 1)))))) (retS (cstM (.bl false))) nextS) (seqS (ifS (tstM blV (binM ltV (varM 3) (cstM (.int 2000)))) (retS (binM eqV (listM (compF [1] (rng2M (consA (cstM (.int 2)) (consA (binM addV (varM 3) (cstM (.int 1))) nilA))) (nameT 1) (andB (tstM blV (binM eqV (binM modV (cbM (f1 intV) (consA (varM 2) nilA)) (varM 1)) (cstM (.int 0)))) (tstM blV (binM eqV (binM modV (cbM (f1 intV) (consA (varM 3) nilA)) (varM 1)) (cstM (.int 0))))) (varM 1))) (lstM nilA))) nextS) (retS (binM eqV (listM (compF [1] (rng2M (consA (cstM (.int 2)) (consA (cstM (.int 60)) nilA))) (nameT 1) (andB (tstM blV (binM eqV (binM modV (cbM (f1 intV) (consA (varM 2) nilA)) (varM 1)) (cstM (.int 0)))) (tstM blV (binM eqV (binM modV (cbM (f1 intV) (consA (varM 3) nilA)) (varM 1)) (cstM (.int 0))))) (varM 1))) (lstM nilA)))))))
abbrev s__law_is_lowest : Stmt := top 21
theorem sc__law_is_lowest : FnScope ["value", "part", "top", "bottom"] ["value"] (defScope s__law_is_lowest) := ⟨rfl, rfl, rfl, by decide +kernel, rfl, by decide +kernel, by decide +kernel⟩
def b__law_lowest_right : MS := (seqS (parS 1 2 (consA (callO 0 1 1 b__law_integer nilA) (consA (callO 0 2 2 b__law_pick (consA (lstM (consA (unM negV (cstM (.int 7))) (consA (cstM (.int 12)) (consA (cstM (.int 60)) (consA (unM negV (cstM (.int 1))) (consA (cstM (.int 1)) (consA (binM powV (cstM (.int 10)) (cstM (.int 20))) (consA (binM addV (callO 0 2 6 b__law_sip (consA (cstM (.int 99)) nilA)) (cstM (.int 1))) (consA (binM subV (unM negV (callO 0 2 6 b__law_sip (consA (cstM (.int 99)) nilA))) (cstM (.int 1))) nilA))))))))) nilA)) nilA))) (seqS (parS 3 4 (consA (callM 2 3 b_lowest (consA (varM 1) (consA (varM 2) nilA))) (consA (binM addV (cstM (.int 1)) (callO 0 2 6 b__law_sip (consA (cstM (.int 50)) nilA))) nilA))) (seqS (ifS (orB (notB (tstM truV (callM 1 4 b__law_is_lowest (consA (varM 3) nilA)))) (orB (tstM blV (binM neV (binM mulV (binM ixV (varM 3) (cstM (.int 0))) (varM 2)) (binM mulV (varM 1) (binM ixV (varM 3) (cstM (.int 1)))))) (tstM blV (binM neV (callM 2 3 b_lowest (pickM 2 [1, 0] (consA (binM mulV (varM 2) (varM 4)) (consA (binM mulV (varM 1) (varM 4)) nilA)))) (varM 3))))) (retS (cstM (.bl false))) nextS) (retS (andM (binM isBV (callM 1 1 b_is_fraction (consA (varM 3) nilA)) (cstM (.bl true))) (andM (binM isBV (callM 1 1 b_is_fraction (pickM 1 [0] (consA (listM (cfM listV (consA (varM 3) nilA))) nilA))) (cstM (.bl true))) (binM isBV (callM 1 1 b_is_fraction (consA (tupM (consA (binM mulV (binM ixV (varM 3) (cstM (.int 0))) (cstM (.int 2))) (consA (binM mulV (binM ixV (varM 3) (cstM (.int 1))) (cstM (.int 2))) nilA))) nilA)) (cstM (.bl false)))))))))
abbrev s__law_lowest_right : Stmt := top 22
theorem sc__law_lowest_right : FnScope ["cup", "top", "bottom", "told", "by"] ["cup"] (defScope s__law_lowest_right) := ⟨rfl, rfl, rfl, by decide +kernel, rfl, by decide +kernel, by decide +kernel⟩
def b__law_reckoned_right : MS := (seqS (asgT (tupT 2 (consT (nameT 1) (consT (nameT 2) nilT))) (tupM (consA (callO 0 1 5 b__law_fraction nilA) (consA (callO 0 1 5 b__law_fraction nilA) nilA)))) (seqS (asgS 3 (lstM (consA (callM 2 2 b_plus (pickM 2 [0, 1] (consA (varM 1) (consA (varM 2) nilA)))) (consA (callM 2 2 b_less (pickM 2 [1, 0] (consA (varM 2) (consA (listM (cfM listV (consA (varM 1) nilA))) nilA)))) (consA (callM 2 2 b_times (pickM 2 [0, 1] (consA (varM 1) (consA (listM (cfM listV (consA (varM 2) nilA))) nilA)))) nilA))))) (seqS (ifS (tstM blV (binM neV (listM (compF [4] (walkM seqV (varM 3)) (nameT 4) (notB (tstM truV (callM 1 4 b__law_is_lowest (consA (varM 4) nilA)))) (varM 4))) (lstM nilA))) (retS (cstM (.bl false))) nextS) (seqS (asgS 5 (binM mulV (binM ixV (varM 1) (cstM (.int 1))) (binM ixV (varM 2) (cstM (.int 1))))) (seqS (asgS 6 (lstM (consA (binM addV (binM mulV (binM ixV (varM 1) (cstM (.int 0))) (binM ixV (varM 2) (cstM (.int 1)))) (binM mulV (binM ixV (varM 2) (cstM (.int 0))) (binM ixV (varM 1) (cstM (.int 1))))) (consA (binM subV (binM mulV (binM ixV (varM 1) (cstM (.int 0))) (binM ixV (varM 2) (cstM (.int 1)))) (binM mulV (binM ixV (varM 2) (cstM (.int 0))) (binM ixV (varM 1) (cstM (.int 1))))) (consA (binM mulV (binM ixV (varM 1) (cstM (.int 0))) (binM ixV (varM 2) (cstM (.int 0)))) nilA))))) (seqS (ifS (tstM blV (binM neV (listM (compF [7, 4] (enumM (consA (varM 3) nilA)) (tupT 2 (consT (nameT 7) (consT (nameT 4) nilT))) (tstM blV (binM neV (binM mulV (binM ixV (varM 4) (cstM (.int 0))) (varM 5)) (binM mulV (binM ixV (varM 6) (varM 7)) (binM ixV (varM 4) (cstM (.int 1)))))) (varM 7))) (lstM nilA))) (retS (cstM (.bl false))) nextS) (seqS (ifS (orB (tstM blV (binM neV (callM 2 2 b_less (consA (binM ixV (varM 3) (cstM (.int 0))) (consA (varM 2) nilA))) (varM 1))) (orB (tstM blV (binM neV (callM 2 2 b_plus (consA (binM ixV (varM 3) (cstM (.int 1))) (consA (varM 2) nilA))) (varM 1))) (orB (tstM blV (binM neV (callM 2 2 b_plus (pickM 2 [1, 0] (consA (varM 1) (consA (varM 2) nilA)))) (binM ixV (varM 3) (cstM (.int 0))))) (tstM blV (binM neV (callM 2 2 b_times (consA (varM 2) (consA (varM 1) nilA))) (binM ixV (varM 3) (cstM (.int 2)))))))) (retS (cstM (.bl false))) nextS) (seqS (ifS (tstM blV (binM eqV (binM ixV (varM 2) (cstM (.int 0))) (cstM (.int 0)))) (retS (andM (binM eqV (callM 2 2 b_times (consA (varM 1) (consA (varM 2) nilA))) (tupM (consA (cstM (.int 0)) (consA (cstM (.int 1)) nilA)))) (binM eqV (hearM 1 ("part" : Str) (callM 2 2 b_over (consA (varM 1) (consA (varM 2) nilA)))) (cstM (.str ("other" : Str)))))) nextS) (seqS (asgS 8 (callM 2 2 b_over (consA (varM 1) (consA (varM 2) nilA)))) (retS (andM (callM 1 4 b__law_is_lowest (consA (varM 8) nilA)) (andM (binM eqV (callM 2 2 b_times (consA (varM 8) (consA (varM 2) nilA))) (varM 1)) (binM eqV (callM 2 2 b_over (pickM 2 [1, 0] (consA (varM 2) (consA (binM ixV (varM 3) (cstM (.int 2))) nilA)))) (varM 1))))))))))))))
abbrev s__law_reckoned_right : Stmt := top 23
theorem sc__law_reckoned_right : FnScope ["cup", "one", "other", "told", "value", "bottom", "tops", "at", "far"] ["cup"] (defScope s__law_reckoned_right) := ⟨rfl, rfl, rfl, by decide +kernel, rfl, by decide +kernel, by decide +kernel⟩
def b__law_refused_right : MS := (seqS (asgS 1 (callO 0 1 5 b__law_fraction nilA)) (seqS (asgS 2 (callO 0 2 2 b__law_pick (consA (lstM (consA (cstM .non) (consA (cstM (.int 5)) (consA (cstM (.bl true)) (consA (cstM (.str ("1" : Str))) (consA (tupM (consA (cstM (.int 1)) nilA)) (consA (tupM (consA (cstM (.int 1)) (consA (cstM (.int 2)) (consA (cstM (.int 3)) nilA)))) (consA (tupM (consA (cstM (.int 2)) (consA (cstM (.int 4)) nilA))) (consA (tupM (consA (cstM (.int 1)) (consA (cstM (.int 0)) nilA))) (consA (tupM (consA (cstM (.int 1)) (consA (unM negV (cstM (.int 2))) nilA))) (consA (tupM (consA (cstM (.int 0)) (consA (cstM (.int 2)) nilA))) (consA (tupM (consA (cstM (.bl true)) (consA (cstM (.int 2)) nilA))) (consA (tupM (consA (cstM (.int 1)) (consA (cstM (.bl true)) nilA))) (consA (tupM (consA (cstM (.str ("1" : Str))) (consA (cstM (.int 2)) nilA))) (consA (lstM (consA (lstM (consA (cstM (.int 1)) nilA)) (consA (cstM (.int 2)) nilA))) (consA (cstM (.dic [] [])) (consA (tupM (consA (cstM (.int 1)) (consA (cstM .non) nilA))) (consA (tupM (consA (cstM (.int 0)) (consA (cstM (.int 0)) nilA))) (consA (cstM (.str ("12" : Str))) nilA))))))))))))))))))) nilA))) (seqS (asgS 3 (callO 0 2 2 b__law_pick (consA (lstM (consA (cstM .non) (consA (cstM (.bl true)) (consA (cstM (.str ("1" : Str))) (consA (lstM (consA (cstM (.int 1)) nilA)) (consA (tupM (consA (cstM (.int 1)) (consA (cstM (.int 2)) nilA))) (consA (cstM (.dic [] [])) nilA))))))) nilA))) (seqS (ifS (orB (tstM blV (binM isnotBV (callM 1 1 b_is_fraction (consA (varM 2) nilA)) (cstM (.bl false)))) (tstM blV (binM isnotBV (callM 1 1 b_is_fraction (consA (varM 1) nilA)) (cstM (.bl true))))) (retS (cstM (.bl false))) nextS) (seqS (newS 4 (dispF (consA (hearM 1 ("part" : Str) (callM 2 2 b_plus (consA (varM 2) (consA (varM 2) nilA)))) nilA))) (seqS (appS 4 (hearM 1 ("part" : Str) (callM 2 2 b_plus (consA (varM 1) (consA (varM 2) nilA))))) (seqS (appS 4 (hearM 1 ("part" : Str) (callM 2 2 b_less (consA (varM 2) (consA (varM 1) nilA))))) (seqS (appS 4 (hearM 1 ("part" : Str) (callM 2 2 b_less (consA (varM 1) (consA (varM 2) nilA))))) (seqS (appS 4 (hearM 1 ("part" : Str) (callM 2 2 b_times (consA (varM 2) (consA (cstM .non) nilA))))) (seqS (appS 4 (hearM 1 ("part" : Str) (callM 2 2 b_times (consA (varM 1) (consA (varM 2) nilA))))) (seqS (appS 4 (hearM 1 ("part" : Str) (callM 2 2 b_over (consA (varM 2) (consA (tupM (consA (cstM (.int 0)) (consA (cstM (.int 1)) nilA))) nilA))))) (seqS (appS 4 (hearM 1 ("part" : Str) (callM 2 2 b_over (consA (varM 1) (consA (varM 2) nilA))))) (seqS (appS 4 (hearM 1 ("part" : Str) (callM 2 2 b_over (consA (varM 1) (consA (tupM (consA (cstM (.int 0)) (consA (cstM (.int 1)) nilA))) nilA))))) (seqS (appS 4 (hearM 1 ("part" : Str) (callM 2 3 b_lowest (consA (varM 3) (consA (cstM (.int 0)) nilA))))) (seqS (appS 4 (hearM 1 ("part" : Str) (callM 2 3 b_lowest (consA (cstM (.int 3)) (consA (varM 3) nilA))))) (seqS (appS 4 (hearM 1 ("part" : Str) (callM 2 3 b_lowest (consA (cstM (.int 3)) (consA (cstM (.int 0)) nilA))))) (meltS 4 (retS (binM eqV (varM 4) (lstM (consA (cstM (.str ("one" : Str))) (consA (cstM (.str ("other" : Str))) (consA (cstM (.str ("one" : Str))) (consA (cstM (.str ("other" : Str))) (consA (cstM (.str ("one" : Str))) (consA (cstM (.str ("other" : Str))) (consA (cstM (.str ("one" : Str))) (consA (cstM (.str ("other" : Str))) (consA (cstM (.str ("other" : Str))) (consA (cstM (.str ("top" : Str))) (consA (cstM (.str ("bottom" : Str))) (consA (cstM (.str ("bottom" : Str))) nilA))))))))))))))))))))))))))))))))
abbrev s__law_refused_right : Stmt := top 25
theorem sc__law_refused_right : FnScope ["cup", "one", "odd", "number", "heard"] ["cup"] (defScope s__law_refused_right) := ⟨rfl, rfl, rfl, by decide +kernel, rfl, by decide +kernel, by decide +kernel⟩
def b_law : MS := (seqS (newS 1 (callN 1 2 n__law_cup (consA (varM 0) nilA))) (seqS (forS (rng1M (consA (cstM (.int 5)) nilA)) (nameT 2) (ifS (orB (notB (tstM truV (callO 1 1 5 b__law_lowest_right nilA))) (notB (tstM truV (callO 1 1 9 b__law_reckoned_right nilA)))) (retS (cstM (.bl false))) nextS)) (retS (callO 1 1 5 b__law_refused_right nilA))))
abbrev s_law : Stmt := top 26
theorem sc_law : FnScope ["script", "cup", "turn"] ["script"] (defScope s_law) := ⟨rfl, rfl, rfl, by decide +kernel, rfl, by decide +kernel, by decide +kernel⟩
theorem gv__law_heard {CS D g : Addr} {cdv : Value} (mW : mg "WebError" = some (.ref CS)) (mB : mg "BadNumber" = some (.ref D)) (mI : mg "isinstance" = none) (hd : Hd C.K CS D "part") (hk : PySem.W.kitOne C.K (.ref D) (.ref D) = some true) : ∀ X : Cx, X.K = C.K → X.mg = mg → ∀ q, LamX.GivesTo X ["ask", "heard", "error"] "_law_heard" (defScope s__law_heard) g cdv (defBody s__law_heard) "ask" q (TH D "part") := fun X hK hm q => by
  rw [← hK] at hd hk
  subst hm
  exact heard_gives rfl (by decide) rfl rfl rfl rfl rfl mW mB mI (by decide) (by decide) (by decide) (by decide) (by decide) (by decide) hd hk fun _ => rfl
theorem ok_is_integer {f : Addr} {fd : FuncData} (F : Fun C.K "is_integer" "is_integer" s_is_integer f fd) (g_int : mg "int" = none) (g_isinstance : mg "isinstance" = none) (g_bool : mg "bool" = none) : FnOk P w C.K mg base (L2.CX P w) 3 f fd ["value"] (spF C 1 1 b_is_integer) :=
  y_fn (C := C) (k := 2) F sc_is_integer (by decide) fun cdv A outer s H E hr => (ys_one (ys_ret (y_and (PE.imp (pe_callB cy_isi (by rfl) g_isinstance (by decide +kernel) (ya_cons (y_var (pv 0)) (ya_cons (y_cst (pe_bltn (v := .ty "int") (u := .type "int") (by rfl) g_int (by decide +kernel) rfl) fun _ _ => rep_ty.mpr rfl) ya_nil))) (cb_rd cv_isi)) (y_one (y_not (PE.imp (pe_callB cy_isi (by rfl) g_isinstance (by decide +kernel) (ya_cons (y_var (pv 0)) (ya_cons (y_cst (pe_bltn (v := .ty "bool") (u := .type "bool") (by rfl) g_bool (by decide +kernel) rfl) fun _ _ => rep_ty.mpr rfl) ya_nil))) (cb_rd cv_isi)))))))
theorem ok_are_numbers {f : Addr} {fd : FuncData} (F : Fun C.K "are_numbers" "are_numbers" s_are_numbers f fd) (g_list : mg "list" = none) (g_tuple : mg "tuple" = none) (g_isinstance : mg "isinstance" = none) (g_all : mg "all" = none) (d_is_integer : Df P w C mg base "is_integer" 3 ["value"] [] (spF C 1 1 b_is_integer)) : FnOk P w C.K mg base (L2.CX P w) 4 f fd ["value"] (spF C 1 2 b_are_numbers) :=
  y_fn (C := C) (k := 3) F sc_are_numbers (by decide) fun cdv A outer s H E hr => (ys_one (ys_ret (y_and (PE.imp (pe_callB cy_isi (by rfl) g_isinstance (by decide +kernel) (ya_cons (y_var (pv 0)) (ya_cons (y_tup (ya_cons (y_cst (pe_bltn (v := .ty "list") (u := .type "list") (by rfl) g_list (by decide +kernel) rfl) fun _ _ => rep_ty.mpr rfl) (ya_cons (y_cst (pe_bltn (v := .ty "tuple") (u := .type "tuple") (by rfl) g_tuple (by decide +kernel) rfl) fun _ _ => rep_ty.mpr rfl) ya_nil))) ya_nil))) (cb_rd cv_isi)) (y_one (PE.imp (pe_callB (cr_all rfl) (by rfl) g_all (by decide +kernel) (ya_cons (y_new (y_lc (own := [("item", 1)]) rfl sc_are_numbers.nd (yi_seq rfl (y_var (pv 0))) (blkOk_by (N := ["value", "item"]) (sc := defScope s_are_numbers) (by decide +kernel)) (by decide) sb_yes (fun _ _ _ _ _ => (yg_name (pg_name (i := 1) sc_are_numbers.nd rfl (Or.inl rfl)))) (fun _ _ _ _ _ => pts_nil) (fun _ _ _ _ _ => (PE.imp (pe_call d_is_integer.ok (hr.mono (by decide)) (by rfl) d_is_integer.mgf d_is_integer.kp d_is_integer.b .nil passL (ya_cons (y_var (pv 1)) ya_nil)) call_rd)))) ya_nil)) (cb_rd cv_all))))))
theorem ok_is_fraction {f : Addr} {fd : FuncData} (F : Fun C.K "is_fraction" "is_fraction" s_is_fraction f fd) (g_len : mg "len" = none) (g_gcd : mg "gcd" = some (.builtin "math.gcd")) (d_are_numbers : Df P w C mg base "are_numbers" 4 ["value"] [] (spF C 1 2 b_are_numbers)) : FnOk P w C.K mg base (L2.CX P w) 5 f fd ["value"] (spF C 1 1 b_is_fraction) :=
  y_fn (C := C) (k := 4) F sc_is_fraction (by decide) fun cdv A outer s H E hr => (ys_one (ys_ret (y_and (PE.imp (pe_call d_are_numbers.ok (hr.mono (by decide)) (by rfl) d_are_numbers.mgf d_are_numbers.kp d_are_numbers.b .nil (passes_call (takes_of rfl rfl rfl rfl) fun _ _ _ _ h => h) (ya_cons (y_var (pv 0)) ya_nil)) call_rd) (y_and (y_cmp (op_eqD hr.units) ov_eq (PE.imp (pe_callB cy_len (by rfl) g_len (by decide +kernel) (ya_cons (y_var (pv 0)) ya_nil)) (cb_rd cv_len)) y_int (nomark _)) (y_and (y_cmp op_ge ov_ge (y_ix ix_seq ov_ix (y_var (pv 0)) y_int (fun _ _ => rfl)) y_int (nomark _)) (y_one (y_cmp (op_eqD hr.units) ov_eq (PE.imp (pe_callBfun cr_gcd (by rfl) g_gcd (ya_cons (y_ix ix_seq ov_ix (y_var (pv 0)) y_int (fun _ _ => rfl)) (ya_cons (y_ix ix_seq ov_ix (y_var (pv 0)) y_int (fun _ _ => rfl)) ya_nil))) (cb_rd cv_gcd)) y_int (nomark _))))))))
theorem ok_lowest {f : Addr} {fd : FuncData} (F : Fun C.K "lowest" "lowest" s_lowest f fd) (g_gcd : mg "gcd" = some (.builtin "math.gcd")) (x_BadNumber : Ex1 P w C mg base "BadNumber" 1 "part" "part") (d_is_integer : Df P w C mg base "is_integer" 3 ["value"] [] (spF C 1 1 b_is_integer)) : FnOk P w C.K mg base (L2.CX P w) 4 f fd ["top", "bottom"] (spF C 2 3 b_lowest) :=
  y_fn (C := C) (k := 3) F sc_lowest (by decide) fun cdv A outer s H E hr => (ys_cons (ys_if (yt_not (yt_val rfl (PE.imp (pe_call d_is_integer.ok (hr.mono (by decide)) (by rfl) d_is_integer.mgf d_is_integer.kp d_is_integer.b .nil (passes_call (takes_of rfl rfl rfl rfl) fun _ _ _ _ h => h) (ya_cons (y_var (pv 0)) ya_nil)) call_rd) fun _ => rfl)) (ys_one (ys_raise1 (ps_raise rfl (takes_of rfl rfl rfl rfl) (pmk_oex x_BadNumber.o x_BadNumber.i x_BadNumber.t x_BadNumber.ok (hr.mono (by decide)) x_BadNumber.b .nil passL (by rfl) x_BadNumber.mgf (ya_cons y_str ya_nil))) x_BadNumber.o x_BadNumber.n)) ys_nil) (ys_cons (ys_if (PW.pt (yw_or (yt_not (yt_val rfl (PE.imp (pe_call d_is_integer.ok (hr.mono (by decide)) (by rfl) d_is_integer.mgf d_is_integer.kp d_is_integer.b .nil (passes_call (takes_of rfl rfl rfl rfl) fun _ _ _ _ h => h) (ya_cons (y_var (pv 1)) ya_nil)) call_rd) fun _ => rfl)) (yw_or1 (yt_cmp (op_eqD hr.units) ov_eq (y_var (pv 1)) y_int (nomark _))))) (ys_one (ys_raise1 (ps_raise rfl (takes_of rfl rfl rfl rfl) (pmk_oex x_BadNumber.o x_BadNumber.i x_BadNumber.t x_BadNumber.ok (hr.mono (by decide)) x_BadNumber.b .nil passL (by rfl) x_BadNumber.mgf (ya_cons y_str ya_nil))) x_BadNumber.o x_BadNumber.n)) ys_nil) (ys_cons (ys_asg (ps_set (i := 2) sc_lowest.nd rfl (Or.inl rfl) (y_if (yt_cmp op_gt ov_gt (y_var (pv 1)) y_int (nomark _)) (PE.imp (pe_callBfun cr_gcd (by rfl) g_gcd (ya_cons (y_var (pv 0)) (ya_cons (y_var (pv 1)) ya_nil))) (cb_rd cv_gcd)) (y_un un_neg uv_neg (PE.imp (pe_callBfun cr_gcd (by rfl) g_gcd (ya_cons (y_var (pv 0)) (ya_cons (y_var (pv 1)) ya_nil))) (cb_rd cv_gcd)))))) (ys_one (ys_ret (y_tup (ya_cons (y_op oy_div ov_div (y_var (pv 0)) (y_var (pv 2))) (ya_cons (y_op oy_div ov_div (y_var (pv 1)) (y_var (pv 2))) ya_nil))))))))
theorem ok__need_fractions {f : Addr} {fd : FuncData} (F : Fun C.K "_need_fractions" "_need_fractions" s__need_fractions f fd) (x_BadNumber : Ex1 P w C mg base "BadNumber" 1 "part" "part") (d_is_fraction : Df P w C mg base "is_fraction" 5 ["value"] [(["value"], [0])] (spF C 1 1 b_is_fraction)) : FnOk P w C.K mg base (L2.CX P w) 6 f fd ["one", "other"] (spF C 2 2 b__need_fractions) :=
  y_fn (C := C) (k := 5) F sc__need_fractions (by decide) fun cdv A outer s H E hr => (ys_cons (ys_if (yt_not (yt_val rfl (PE.imp (pe_call d_is_fraction.ok (hr.mono (by decide)) (by rfl) d_is_fraction.mgf d_is_fraction.kp d_is_fraction.b .nil (passes_call (takes_of rfl rfl rfl rfl) fun _ _ _ _ h => h) (ya_cons (y_var (pv 0)) ya_nil)) call_rd) fun _ => rfl)) (ys_one (ys_raise1 (ps_raise rfl (takes_of rfl rfl rfl rfl) (pmk_oex x_BadNumber.o x_BadNumber.i x_BadNumber.t x_BadNumber.ok (hr.mono (by decide)) x_BadNumber.b .nil passL (by rfl) x_BadNumber.mgf (ya_cons y_str ya_nil))) x_BadNumber.o x_BadNumber.n)) ys_nil) (ys_one (ys_if (yt_not (yt_val rfl (PE.imp (pe_call d_is_fraction.ok (hr.mono (by decide)) (by rfl) d_is_fraction.mgf d_is_fraction.kp d_is_fraction.b .nil (passes_call (takes_of rfl rfl rfl rfl) fun _ _ _ _ h => h) (ya_cons (y_var (pv 1)) ya_nil)) call_rd) fun _ => rfl)) (ys_one (ys_raise1 (ps_raise rfl (takes_of rfl rfl rfl rfl) (pmk_oex x_BadNumber.o x_BadNumber.i x_BadNumber.t x_BadNumber.ok (hr.mono (by decide)) x_BadNumber.b .nil passL (by rfl) x_BadNumber.mgf (ya_cons y_str ya_nil))) x_BadNumber.o x_BadNumber.n)) ys_nil)))
theorem ok_plus {f : Addr} {fd : FuncData} (F : Fun C.K "plus" "plus" s_plus f fd) (d__need_fractions : Df P w C mg base "_need_fractions" 6 ["one", "other"] [] (spF C 2 2 b__need_fractions)) (d_lowest : Df P w C mg base "lowest" 4 ["top", "bottom"] [(["bottom", "top"], [1, 0])] (spF C 2 3 b_lowest)) : FnOk P w C.K mg base (L2.CX P w) 7 f fd ["one", "other"] (spF C 2 2 b_plus) :=
  y_fn (C := C) (k := 6) F sc_plus (by decide) fun cdv A outer s H E hr => (ys_cons (ys_drop (ps_expr (PE.imp (pe_call d__need_fractions.ok (hr.mono (by decide)) (by rfl) d__need_fractions.mgf d__need_fractions.kp d__need_fractions.b .nil (passes_call (takes_of rfl rfl rfl rfl) fun _ _ _ _ h => h) (ya_cons (y_var (pv 0)) (ya_cons (y_var (pv 1)) ya_nil))) call_rd))) (ys_one (ys_ret (PE.imp (pe_call d_lowest.ok (hr.mono (by decide)) (by rfl) d_lowest.mgf d_lowest.kp d_lowest.b .nil (passes_call (takes_of rfl rfl rfl rfl) fun _ _ _ _ h => h) (ya_cons (y_op oy_add ov_add (y_op op_mulA ov_mul (y_ix ix_seq ov_ix (y_var (pv 0)) y_int (fun _ _ => rfl)) (y_ix ix_seq ov_ix (y_var (pv 1)) y_int (fun _ _ => rfl))) (y_op op_mulA ov_mul (y_ix ix_seq ov_ix (y_var (pv 1)) y_int (fun _ _ => rfl)) (y_ix ix_seq ov_ix (y_var (pv 0)) y_int (fun _ _ => rfl)))) (ya_cons (y_op op_mulA ov_mul (y_ix ix_seq ov_ix (y_var (pv 0)) y_int (fun _ _ => rfl)) (y_ix ix_seq ov_ix (y_var (pv 1)) y_int (fun _ _ => rfl))) ya_nil))) call_rd))))
theorem ok_less {f : Addr} {fd : FuncData} (F : Fun C.K "less" "less" s_less f fd) (d__need_fractions : Df P w C mg base "_need_fractions" 6 ["one", "other"] [] (spF C 2 2 b__need_fractions)) (d_lowest : Df P w C mg base "lowest" 4 ["top", "bottom"] [(["bottom", "top"], [1, 0])] (spF C 2 3 b_lowest)) : FnOk P w C.K mg base (L2.CX P w) 7 f fd ["one", "other"] (spF C 2 2 b_less) :=
  y_fn (C := C) (k := 6) F sc_less (by decide) fun cdv A outer s H E hr => (ys_cons (ys_drop (ps_expr (PE.imp (pe_call d__need_fractions.ok (hr.mono (by decide)) (by rfl) d__need_fractions.mgf d__need_fractions.kp d__need_fractions.b .nil (passes_call (takes_of rfl rfl rfl rfl) fun _ _ _ _ h => h) (ya_cons (y_var (pv 0)) (ya_cons (y_var (pv 1)) ya_nil))) call_rd))) (ys_one (ys_ret (PE.imp (pe_call d_lowest.ok (hr.mono (by decide)) (by rfl) d_lowest.mgf d_lowest.kp d_lowest.b .nil (passes_call (takes_of rfl rfl rfl rfl) fun _ _ _ _ h => h) (ya_cons (y_op op_sub ov_sub (y_op op_mulA ov_mul (y_ix ix_seq ov_ix (y_var (pv 0)) y_int (fun _ _ => rfl)) (y_ix ix_seq ov_ix (y_var (pv 1)) y_int (fun _ _ => rfl))) (y_op op_mulA ov_mul (y_ix ix_seq ov_ix (y_var (pv 1)) y_int (fun _ _ => rfl)) (y_ix ix_seq ov_ix (y_var (pv 0)) y_int (fun _ _ => rfl)))) (ya_cons (y_op op_mulA ov_mul (y_ix ix_seq ov_ix (y_var (pv 0)) y_int (fun _ _ => rfl)) (y_ix ix_seq ov_ix (y_var (pv 1)) y_int (fun _ _ => rfl))) ya_nil))) call_rd))))
theorem ok_times {f : Addr} {fd : FuncData} (F : Fun C.K "times" "times" s_times f fd) (d__need_fractions : Df P w C mg base "_need_fractions" 6 ["one", "other"] [] (spF C 2 2 b__need_fractions)) (d_lowest : Df P w C mg base "lowest" 4 ["top", "bottom"] [(["bottom", "top"], [1, 0])] (spF C 2 3 b_lowest)) : FnOk P w C.K mg base (L2.CX P w) 7 f fd ["one", "other"] (spF C 2 2 b_times) :=
  y_fn (C := C) (k := 6) F sc_times (by decide) fun cdv A outer s H E hr => (ys_cons (ys_drop (ps_expr (PE.imp (pe_call d__need_fractions.ok (hr.mono (by decide)) (by rfl) d__need_fractions.mgf d__need_fractions.kp d__need_fractions.b .nil (passes_call (takes_of rfl rfl rfl rfl) fun _ _ _ _ h => h) (ya_cons (y_var (pv 0)) (ya_cons (y_var (pv 1)) ya_nil))) call_rd))) (ys_one (ys_ret (PE.imp (pe_call d_lowest.ok (hr.mono (by decide)) (by rfl) d_lowest.mgf d_lowest.kp d_lowest.b .nil (passes_call (takes_of rfl rfl rfl rfl) fun _ _ _ _ h => h) (ya_cons (y_op op_mulA ov_mul (y_ix ix_seq ov_ix (y_var (pv 0)) y_int (fun _ _ => rfl)) (y_ix ix_seq ov_ix (y_var (pv 1)) y_int (fun _ _ => rfl))) (ya_cons (y_op op_mulA ov_mul (y_ix ix_seq ov_ix (y_var (pv 0)) y_int (fun _ _ => rfl)) (y_ix ix_seq ov_ix (y_var (pv 1)) y_int (fun _ _ => rfl))) ya_nil))) call_rd))))
theorem ok_over {f : Addr} {fd : FuncData} (F : Fun C.K "over" "over" s_over f fd) (x_BadNumber : Ex1 P w C mg base "BadNumber" 1 "part" "part") (d__need_fractions : Df P w C mg base "_need_fractions" 6 ["one", "other"] [] (spF C 2 2 b__need_fractions)) (d_lowest : Df P w C mg base "lowest" 4 ["top", "bottom"] [(["bottom", "top"], [1, 0])] (spF C 2 3 b_lowest)) : FnOk P w C.K mg base (L2.CX P w) 7 f fd ["one", "other"] (spF C 2 2 b_over) :=
  y_fn (C := C) (k := 6) F sc_over (by decide) fun cdv A outer s H E hr => (ys_cons (ys_drop (ps_expr (PE.imp (pe_call d__need_fractions.ok (hr.mono (by decide)) (by rfl) d__need_fractions.mgf d__need_fractions.kp d__need_fractions.b .nil (passes_call (takes_of rfl rfl rfl rfl) fun _ _ _ _ h => h) (ya_cons (y_var (pv 0)) (ya_cons (y_var (pv 1)) ya_nil))) call_rd))) (ys_cons (ys_if (yt_cmp (op_eqD hr.units) ov_eq (y_ix ix_seq ov_ix (y_var (pv 1)) y_int (fun _ _ => rfl)) y_int (nomark _)) (ys_one (ys_raise1 (ps_raise rfl (takes_of rfl rfl rfl rfl) (pmk_oex x_BadNumber.o x_BadNumber.i x_BadNumber.t x_BadNumber.ok (hr.mono (by decide)) x_BadNumber.b .nil passL (by rfl) x_BadNumber.mgf (ya_cons y_str ya_nil))) x_BadNumber.o x_BadNumber.n)) ys_nil) (ys_one (ys_ret (PE.imp (pe_call d_lowest.ok (hr.mono (by decide)) (by rfl) d_lowest.mgf d_lowest.kp d_lowest.b .nil (passes_call (takes_of rfl rfl rfl rfl) fun _ _ _ _ h => h) (ya_cons (y_op op_mulA ov_mul (y_ix ix_seq ov_ix (y_var (pv 0)) y_int (fun _ _ => rfl)) (y_ix ix_seq ov_ix (y_var (pv 1)) y_int (fun _ _ => rfl))) (ya_cons (y_op op_mulA ov_mul (y_ix ix_seq ov_ix (y_var (pv 0)) y_int (fun _ _ => rfl)) (y_ix ix_seq ov_ix (y_var (pv 1)) y_int (fun _ _ => rfl))) ya_nil))) call_rd)))))
theorem ok__law_cup {f : Addr} {fd : FuncData} (F : Fun C.K "_law_cup" "_law_cup" s__law_cup f fd) (g_int : mg "int" = none) : FnOk P w C.K mg base (L2.CX P w) 3 f fd ["script"] (spN C 1 2 n__law_cup) :=
  y_fnN (C := C) (k := 2) F sc__law_cup rfl fun cdv A outer s H E hr => (yf_lst (ya_cons (y_new (y_lc (own := [("cell", 1)]) rfl sc__law_cup.nd (yi_seq rfl (y_new (yf_scr (k := 60) rfl (pe_slice sl_list (y_var (pv 0)) po_none (po_some pe_int))))) (blkOk_by (N := ["script", "cell"]) (sc := defScope s__law_cup) (by decide +kernel)) (by decide) sb_yes (fun _ _ _ _ _ => (yg_name (pg_name (i := 1) sc__law_cup.nd rfl (Or.inl rfl)))) (fun _ _ _ _ _ => pts_nil) (fun _ _ _ _ _ => (PE.imp (pe_callTy call_int1 (by rfl) g_int (by decide +kernel) (ya_cons (y_var (pv 1)) ya_nil)) (cb_rd cv_int))))) (ya_cons y_int (ya_cons y_int ya_nil))))
theorem ok__law_sip {f : Addr} {fd : FuncData} (F : Fun C.K "_law_sip" "_law_sip" s__law_sip f fd) (g_int : mg "int" = none) (g_len : mg "len" = none) (g_abs : mg "abs" = none) : FnOk P w C.K mg base (L2.CX P w) 3 f fd ["cup", "many"] (spF C 2 6 b__law_sip) :=
  y_fn (C := C) (k := 2) F sc__law_sip (by decide) fun cdv A outer s H E hr => (ys_cons (ys_if (yt_cmp op_gt ov_gt (y_ixO (pe_ix ix_seq (pv 0) y_int (fun _ _ => rfl))) y_int (nomark _)) (ys_cons (ys_asg (ps_set (i := 2) sc__law_sip.nd rfl (Or.inl rfl) (PE.imp (pe_callTy call_int1 (by rfl) g_int (by decide +kernel) (ya_cons (y_ixO (pe_ix ix_seq (pv 0) y_int (fun _ _ => rfl))) ya_nil)) (cb_rd cv_int)))) (ys_cons (ys_set (ps_asg (y_op oy_div ov_div (y_var (pv 2)) (y_var (pv 1))) (pg_sub (pv 0) y_int set_list))) (ys_one (ys_ret (y_op op_modN ov_mod (PE.imp (pe_callTy call_int1 (by rfl) g_int (by decide +kernel) (ya_cons (y_var (pv 2)) ya_nil)) (cb_rd cv_int)) (y_var (pv 1))))))) ys_nil) (ys_cons (ys_asg (ps_set (i := 3) sc__law_sip.nd rfl (Or.inl rfl) (y_ixO (pe_ix ix_seq (pv 0) y_int (fun _ _ => rfl))))) (ys_cons (ys_set (ps_asg (y_op oy_add ov_add (y_var (pv 3)) y_int) (pg_sub (pv 0) y_int set_list))) (ys_cons (ys_asg (ps_set (i := 4) sc__law_sip.nd rfl (Or.inl rfl) (y_op oy_add ov_add (y_op op_mulA ov_mul y_int (y_var (pv 3))) y_int))) (ys_cons (ys_if (yt_cmp (op_neD hr.units) ov_ne (y_ixO (pe_ix ix_seq (pv 0) y_int (fun _ _ => rfl))) (y_lst ya_nil) (nomark _)) (ys_one (ys_asg (ps_set (i := 4) sc__law_sip.nd rfl (Or.inl rfl) (y_ix ix_seq ov_ix (y_ixO (pe_ix ix_seq (pv 0) y_int (fun _ _ => rfl))) (y_op op_modN ov_mod (PE.imp (pe_callTy call_int1 (by rfl) g_int (by decide +kernel) (ya_cons (y_var (pv 3)) ya_nil)) (cb_rd cv_int)) (PE.imp (pe_callB cy_len (by rfl) g_len (by decide +kernel) (ya_cons (y_ixO (pe_ix ix_seq (pv 0) y_int (fun _ _ => rfl))) ya_nil)) (cb_rd cv_len))) (fun _ _ => rfl))))) ys_nil) (ys_cons (ys_if (PW.pt (yw_and (yt_cmp op_lt ov_lt (y_var (pv 3)) (PE.imp (pe_callB cy_len (by rfl) g_len (by decide +kernel) (ya_cons (y_ixO (pe_ix ix_seq (pv 0) y_int (fun _ _ => rfl))) ya_nil)) (cb_rd cv_len)) (nomark _)) (yw_and1 (yt_cmp op_ge ov_ge (PE.imp (pe_callB call_abs (by rfl) g_abs (by decide +kernel) (ya_cons (y_var (pv 4)) ya_nil)) (cb_rd cv_abs)) (y_op op_pow ov_pow y_int y_int) (nomark _))))) (ys_cons (ys_asg (ps_set (i := 2) sc__law_sip.nd rfl (Or.inl rfl) (y_op oy_add ov_add (y_op op_mulA ov_mul y_int (y_op op_sub ov_sub (PE.imp (pe_callB call_abs (by rfl) g_abs (by decide +kernel) (ya_cons (y_var (pv 4)) ya_nil)) (cb_rd cv_abs)) (y_op op_pow ov_pow y_int y_int))) (PE.imp (pe_callTy call_int1 (by rfl) g_int (by decide +kernel) (ya_cons (y_cmp op_lt ov_lt (y_var (pv 4)) y_int (nomark _)) ya_nil)) (cb_rd cv_int))))) (ys_cons (ys_set (ps_asg (y_op oy_div ov_div (y_var (pv 2)) (y_var (pv 1))) (pg_sub (pv 0) y_int set_list))) (ys_one (ys_ret (y_op op_modN ov_mod (PE.imp (pe_callTy call_int1 (by rfl) g_int (by decide +kernel) (ya_cons (y_var (pv 2)) ya_nil)) (cb_rd cv_int)) (y_var (pv 1))))))) ys_nil) (ys_cons (ys_asg (ps_set (i := 5) sc__law_sip.nd rfl (Or.inl rfl) (y_op op_modN ov_mod (PE.imp (pe_callTy call_int1 (by rfl) g_int (by decide +kernel) (ya_cons (y_op op_pow ov_pow (y_op oy_add ov_add (y_op oy_add ov_add (y_op op_modN ov_mod (PE.imp (pe_callTy call_int1 (by rfl) g_int (by decide +kernel) (ya_cons (y_var (pv 4)) ya_nil)) (cb_rd cv_int)) y_int) (y_op op_mulA ov_mul y_int (y_var (pv 3)))) y_int) y_int) ya_nil)) (cb_rd cv_int)) y_int))) (ys_cons (ys_asg (ps_set (i := 5) sc__law_sip.nd rfl (Or.inl rfl) (y_op op_modN ov_mod (PE.imp (pe_callTy call_int1 (by rfl) g_int (by decide +kernel) (ya_cons (y_op op_pow ov_pow (y_op oy_add ov_add (y_op oy_add ov_add (y_op op_mulA ov_mul (y_var (pv 5)) (y_op oy_add ov_add (y_op op_mulA ov_mul y_int (y_var (pv 3))) y_int)) (y_op op_mulA ov_mul (y_op op_mulA ov_mul y_int (y_var (pv 3))) (y_var (pv 3)))) y_int) y_int) ya_nil)) (cb_rd cv_int)) y_int))) (ys_one (ys_ret (y_op op_modN ov_mod (PE.imp (pe_callTy call_int1 (by rfl) g_int (by decide +kernel) (ya_cons (y_op oy_div ov_div (y_var (pv 5)) y_int) ya_nil)) (cb_rd cv_int)) (y_var (pv 1)))))))))))))
theorem ok__law_pick {f : Addr} {fd : FuncData} (F : Fun C.K "_law_pick" "_law_pick" s__law_pick f fd) (g_len : mg "len" = none) (d__law_sip : Df P w C mg base "_law_sip" 3 ["cup", "many"] [] (spF C 2 6 b__law_sip)) : FnOk P w C.K mg base (L2.CX P w) 4 f fd ["cup", "some"] (spF C 2 2 b__law_pick) :=
  y_fn (C := C) (k := 3) F sc__law_pick (by decide) fun cdv A outer s H E hr => (ys_one (ys_ret (y_ix ix_seq ov_ix (y_var (pv 1)) (PE.imp (pe_call d__law_sip.ok (hr.mono (by decide)) (by rfl) d__law_sip.mgf d__law_sip.kp d__law_sip.b .nil (passes_call (takes_of rfl rfl rfl rfl) fun _ _ _ _ h => h) (pa_cons (pv 0) (ya_cons (PE.imp (pe_callB cy_len (by rfl) g_len (by decide +kernel) (ya_cons (y_var (pv 1)) ya_nil)) (cb_rd cv_len)) ya_nil))) callO_rd) (fun _ _ => rfl))))
theorem ok__law_integer {f : Addr} {fd : FuncData} (F : Fun C.K "_law_integer" "_law_integer" s__law_integer f fd) (d__law_pick : Df P w C mg base "_law_pick" 4 ["cup", "some"] [] (spF C 2 2 b__law_pick)) (d__law_sip : Df P w C mg base "_law_sip" 3 ["cup", "many"] [] (spF C 2 6 b__law_sip)) : FnOk P w C.K mg base (L2.CX P w) 5 f fd ["cup"] (spF C 1 1 b__law_integer) :=
  y_fn (C := C) (k := 4) F sc__law_integer (by decide) fun cdv A outer s H E hr => (ys_one (ys_ret (PE.imp (pe_call d__law_pick.ok (hr.mono (by decide)) (by rfl) d__law_pick.mgf d__law_pick.kp d__law_pick.b .nil (passes_call (takes_of rfl rfl rfl rfl) fun _ _ _ _ h => h) (pa_cons (pv 0) (ya_cons (y_lst (ya_cons (y_op op_sub ov_sub (PE.imp (pe_call d__law_sip.ok (hr.mono (by decide)) (by rfl) d__law_sip.mgf d__law_sip.kp d__law_sip.b .nil (passes_call (takes_of rfl rfl rfl rfl) fun _ _ _ _ h => h) (pa_cons (pv 0) (ya_cons y_int ya_nil))) callO_rd) y_int) (ya_cons (y_op op_sub ov_sub (PE.imp (pe_call d__law_sip.ok (hr.mono (by decide)) (by rfl) d__law_sip.mgf d__law_sip.kp d__law_sip.b .nil (passes_call (takes_of rfl rfl rfl rfl) fun _ _ _ _ h => h) (pa_cons (pv 0) (ya_cons y_int ya_nil))) callO_rd) y_int) (ya_cons (y_op oy_add ov_add (y_op op_pow ov_pow y_int y_int) (PE.imp (pe_call d__law_sip.ok (hr.mono (by decide)) (by rfl) d__law_sip.mgf d__law_sip.kp d__law_sip.b .nil (passes_call (takes_of rfl rfl rfl rfl) fun _ _ _ _ h => h) (pa_cons (pv 0) (ya_cons y_int ya_nil))) callO_rd)) (ya_cons (y_op op_sub ov_sub (y_un un_neg uv_neg (y_op op_pow ov_pow y_int y_int)) (PE.imp (pe_call d__law_sip.ok (hr.mono (by decide)) (by rfl) d__law_sip.mgf d__law_sip.kp d__law_sip.b .nil (passes_call (takes_of rfl rfl rfl rfl) fun _ _ _ _ h => h) (pa_cons (pv 0) (ya_cons y_int ya_nil))) callO_rd)) ya_nil))))) ya_nil))) callO_rd)))
theorem ok__law_fraction {f : Addr} {fd : FuncData} (F : Fun C.K "_law_fraction" "_law_fraction" s__law_fraction f fd) (g_range : mg "range" = none) (g_int : mg "int" = none) (g_max : mg "max" = none) (d__law_integer : Df P w C mg base "_law_integer" 5 ["cup"] [] (spF C 1 1 b__law_integer)) (d__law_sip : Df P w C mg base "_law_sip" 3 ["cup", "many"] [] (spF C 2 6 b__law_sip)) : FnOk P w C.K mg base (L2.CX P w) 6 f fd ["cup"] (spF C 1 5 b__law_fraction) :=
  y_fn (C := C) (k := 5) F sc__law_fraction (by decide) fun cdv A outer s H E hr => (ys_cons (ys_asgT (ps_asg (y_tup (ya_cons (PE.imp (pe_call d__law_integer.ok (hr.mono (by decide)) (by rfl) d__law_integer.mgf d__law_integer.kp d__law_integer.b .nil (passes_call (takes_of rfl rfl rfl rfl) fun _ _ _ _ h => h) (pa_cons (pv 0) ya_nil)) callO_rd) (ya_cons (y_op oy_add ov_add y_int (PE.imp (pe_call d__law_sip.ok (hr.mono (by decide)) (by rfl) d__law_sip.mgf d__law_sip.kp d__law_sip.b .nil (passes_call (takes_of rfl rfl rfl rfl) fun _ _ _ _ h => h) (pa_cons (pv 0) (ya_cons y_int ya_nil))) callO_rd)) ya_nil))) (yg_tup rfl (pg_tup rfl (ygs_cons (yg_name (pg_name (i := 1) sc__law_fraction.nd rfl (Or.inr rfl))) (ygs_cons (yg_name (pg_name (i := 2) sc__law_fraction.nd rfl (Or.inr rfl))) ygs_nil (fun a b => pgs_cons a b)) (fun a b => pgs_cons a b)))))) (ys_cons (ys_asg (ps_set (i := 3) sc__law_fraction.nd rfl (Or.inl rfl) (PE.imp (pe_callB (cr_max rfl) (by rfl) g_max (by decide +kernel) (ya_cons (y_new (y_lc (own := [("number", 4)]) rfl sc__law_fraction.nd (yi_rng2 (pi_range2 (by rfl) g_range (ya_cons y_int (ya_cons (y_op oy_add ov_add (y_var (pv 2)) y_int) ya_nil)))) (blkOk_by (N := ["cup", "top", "bottom", "part", "number"]) (sc := defScope s__law_fraction) (by decide +kernel)) (by decide) (fun _ _ _ h => h) (fun _ _ _ _ _ => (yg_name (pg_name (i := 4) sc__law_fraction.nd rfl (Or.inl rfl)))) (fun _ _ _ _ _ => pts_one (PW.pt (yw_and (yt_cmp (op_eqD hr.units) ov_eq (y_op op_modN ov_mod (PE.imp (pe_callTy call_int1 (by rfl) g_int (by decide +kernel) (ya_cons (y_var (pv 1)) ya_nil)) (cb_rd cv_int)) (y_var (pv 4))) y_int (nomark _)) (yw_and1 (yt_cmp (op_eqD hr.units) ov_eq (y_op op_modN ov_mod (PE.imp (pe_callTy call_int1 (by rfl) g_int (by decide +kernel) (ya_cons (y_var (pv 2)) ya_nil)) (cb_rd cv_int)) (y_var (pv 4))) y_int (nomark _)))))) (fun _ _ _ _ _ => (y_var (pv 4))))) ya_nil)) (cb_rd cv_max)))) (ys_one (ys_ret (y_tup (ya_cons (y_op oy_div ov_div (y_var (pv 1)) (y_var (pv 3))) (ya_cons (y_op oy_div ov_div (y_var (pv 2)) (y_var (pv 3))) ya_nil)))))))
theorem ok__law_is_lowest {f : Addr} {fd : FuncData} (F : Fun C.K "_law_is_lowest" "_law_is_lowest" s__law_is_lowest f fd) (g_tuple : mg "tuple" = none) (g_isinstance : mg "isinstance" = none) (g_len : mg "len" = none) (g_bool : mg "bool" = none) (g_int : mg "int" = none) (g_range : mg "range" = none) : FnOk P w C.K mg base (L2.CX P w) 3 f fd ["value"] (spF C 1 4 b__law_is_lowest) :=
  y_fn (C := C) (k := 2) F sc__law_is_lowest (by decide) fun cdv A outer s H E hr => (ys_cons (ys_if (PW.pt (yw_or (yt_not (yt_val rfl (PE.imp (pe_callB cy_isi (by rfl) g_isinstance (by decide +kernel) (ya_cons (y_var (pv 0)) (ya_cons (y_cst (pe_bltn (v := .ty "tuple") (u := .type "tuple") (by rfl) g_tuple (by decide +kernel) rfl) fun _ _ => rep_ty.mpr rfl) ya_nil))) (cb_rd cv_isi)) fun _ => rfl)) (yw_or (yt_cmp (op_neD hr.units) ov_ne (PE.imp (pe_callB cy_len (by rfl) g_len (by decide +kernel) (ya_cons (y_var (pv 0)) ya_nil)) (cb_rd cv_len)) y_int (nomark _)) (yw_or1 (yt_cmp (op_neD hr.units) ov_ne (y_new (y_lc (own := [("part", 1)]) rfl sc__law_is_lowest.nd (yi_seq rfl (y_var (pv 0))) (blkOk_by (N := ["value", "part", "top", "bottom"]) (sc := defScope s__law_is_lowest) (by decide +kernel)) (by decide) (fun _ _ _ h => h) (fun _ _ _ _ _ => (yg_name (pg_name (i := 1) sc__law_is_lowest.nd rfl (Or.inl rfl)))) (fun _ _ _ _ _ => pts_one (PW.pt (yw_or (yt_val rfl (PE.imp (pe_callB cy_isi (by rfl) g_isinstance (by decide +kernel) (ya_cons (y_var (pv 1)) (ya_cons (y_cst (pe_bltn (v := .ty "bool") (u := .type "bool") (by rfl) g_bool (by decide +kernel) rfl) fun _ _ => rep_ty.mpr rfl) ya_nil))) (cb_rd cv_isi)) fun _ => rfl) (yw_or1 (yt_not (yt_val rfl (PE.imp (pe_callB cy_isi (by rfl) g_isinstance (by decide +kernel) (ya_cons (y_var (pv 1)) (ya_cons (y_cst (pe_bltn (v := .ty "int") (u := .type "int") (by rfl) g_int (by decide +kernel) rfl) fun _ _ => rep_ty.mpr rfl) ya_nil))) (cb_rd cv_isi)) fun _ => rfl)))))) (fun _ _ _ _ _ => (y_var (pv 1))))) (y_lst ya_nil) (nomark _)))))) (ys_one (ys_ret y_bl)) ys_nil) (ys_cons (ys_asgT (ps_asg (y_var (pv 0)) (yg_tup rfl (pg_tup rfl (ygs_cons (yg_name (pg_name (i := 2) sc__law_is_lowest.nd rfl (Or.inr rfl))) (ygs_cons (yg_name (pg_name (i := 3) sc__law_is_lowest.nd rfl (Or.inr rfl))) ygs_nil (fun a b => pgs_cons a b)) (fun a b => pgs_cons a b)))))) (ys_cons (ys_if (PW.pt (yw_or (yt_cmp op_lt ov_lt (y_var (pv 3)) y_int (nomark _)) (yw_or1 (PW.pt (yw_and (yt_cmp (op_eqD hr.units) ov_eq (y_var (pv 2)) y_int (nomark _)) (yw_and1 (yt_cmp (op_neD hr.units) ov_ne (y_var (pv 3)) y_int (nomark _)))))))) (ys_one (ys_ret y_bl)) ys_nil) (ys_cons (ys_if (yt_cmp op_lt ov_lt (y_var (pv 3)) y_int (nomark _)) (ys_one (ys_ret (y_cmp (op_eqD hr.units) ov_eq (y_new (y_lc (own := [("part", 1)]) rfl sc__law_is_lowest.nd (yi_rng2 (pi_range2 (by rfl) g_range (ya_cons y_int (ya_cons (y_op oy_add ov_add (y_var (pv 3)) y_int) ya_nil)))) (blkOk_by (N := ["value", "part", "top", "bottom"]) (sc := defScope s__law_is_lowest) (by decide +kernel)) (by decide) (fun _ _ _ h => h) (fun _ _ _ _ _ => (yg_name (pg_name (i := 1) sc__law_is_lowest.nd rfl (Or.inl rfl)))) (fun _ _ _ _ _ => pts_one (PW.pt (yw_and (yt_cmp (op_eqD hr.units) ov_eq (y_op op_modN ov_mod (PE.imp (pe_callTy call_int1 (by rfl) g_int (by decide +kernel) (ya_cons (y_var (pv 2)) ya_nil)) (cb_rd cv_int)) (y_var (pv 1))) y_int (nomark _)) (yw_and1 (yt_cmp (op_eqD hr.units) ov_eq (y_op op_modN ov_mod (PE.imp (pe_callTy call_int1 (by rfl) g_int (by decide +kernel) (ya_cons (y_var (pv 3)) ya_nil)) (cb_rd cv_int)) (y_var (pv 1))) y_int (nomark _)))))) (fun _ _ _ _ _ => (y_var (pv 1))))) (y_lst ya_nil) (nomark _)))) ys_nil) (ys_one (ys_ret (y_cmp (op_eqD hr.units) ov_eq (y_new (y_lc (own := [("part", 1)]) rfl sc__law_is_lowest.nd (yi_rng2 (pi_range2 (by rfl) g_range (ya_cons y_int (ya_cons y_int ya_nil)))) (blkOk_by (N := ["value", "part", "top", "bottom"]) (sc := defScope s__law_is_lowest) (by decide +kernel)) (by decide) (fun _ _ _ h => h) (fun _ _ _ _ _ => (yg_name (pg_name (i := 1) sc__law_is_lowest.nd rfl (Or.inl rfl)))) (fun _ _ _ _ _ => pts_one (PW.pt (yw_and (yt_cmp (op_eqD hr.units) ov_eq (y_op op_modN ov_mod (PE.imp (pe_callTy call_int1 (by rfl) g_int (by decide +kernel) (ya_cons (y_var (pv 2)) ya_nil)) (cb_rd cv_int)) (y_var (pv 1))) y_int (nomark _)) (yw_and1 (yt_cmp (op_eqD hr.units) ov_eq (y_op op_modN ov_mod (PE.imp (pe_callTy call_int1 (by rfl) g_int (by decide +kernel) (ya_cons (y_var (pv 3)) ya_nil)) (cb_rd cv_int)) (y_var (pv 1))) y_int (nomark _)))))) (fun _ _ _ _ _ => (y_var (pv 1))))) (y_lst ya_nil) (nomark _))))))))
theorem ok__law_lowest_right {f : Addr} {fd : FuncData} (F : Fun C.K "_law_lowest_right" "_law_lowest_right" s__law_lowest_right f fd) (g_list : mg "list" = none) (d__law_integer : Df P w C mg base "_law_integer" 5 ["cup"] [] (spF C 1 1 b__law_integer)) (d__law_pick : Df P w C mg base "_law_pick" 4 ["cup", "some"] [] (spF C 2 2 b__law_pick)) (d__law_sip : Df P w C mg base "_law_sip" 3 ["cup", "many"] [] (spF C 2 6 b__law_sip)) (d_lowest : Df P w C mg base "lowest" 4 ["top", "bottom"] [(["bottom", "top"], [1, 0])] (spF C 2 3 b_lowest)) (d__law_is_lowest : Df P w C mg base "_law_is_lowest" 3 ["value"] [] (spF C 1 4 b__law_is_lowest)) (d_is_fraction : Df P w C mg base "is_fraction" 5 ["value"] [(["value"], [0])] (spF C 1 1 b_is_fraction)) : FnOk P w C.K mg base (L2.CX P w) 6 f fd ["cup"] (spF C 1 5 b__law_lowest_right) :=
  y_fn (C := C) (k := 5) F sc__law_lowest_right (by decide) fun cdv A outer s H E hr => (ys_cons (ys_par (i := 1) (j := 2) (ps_par rfl sc__law_lowest_right.nd rfl rfl (by decide) rfl rfl (ya_cons (PE.imp (pe_call d__law_integer.ok (hr.mono (by decide)) (by rfl) d__law_integer.mgf d__law_integer.kp d__law_integer.b .nil (passes_call (takes_of rfl rfl rfl rfl) fun _ _ _ _ h => h) (pa_cons (pv 0) ya_nil)) callO_rd) (ya_cons (PE.imp (pe_call d__law_pick.ok (hr.mono (by decide)) (by rfl) d__law_pick.mgf d__law_pick.kp d__law_pick.b .nil (passes_call (takes_of rfl rfl rfl rfl) fun _ _ _ _ h => h) (pa_cons (pv 0) (ya_cons (y_lst (ya_cons (y_un un_neg uv_neg y_int) (ya_cons y_int (ya_cons y_int (ya_cons (y_un un_neg uv_neg y_int) (ya_cons y_int (ya_cons (y_op op_pow ov_pow y_int y_int) (ya_cons (y_op oy_add ov_add (PE.imp (pe_call d__law_sip.ok (hr.mono (by decide)) (by rfl) d__law_sip.mgf d__law_sip.kp d__law_sip.b .nil (passes_call (takes_of rfl rfl rfl rfl) fun _ _ _ _ h => h) (pa_cons (pv 0) (ya_cons y_int ya_nil))) callO_rd) y_int) (ya_cons (y_op op_sub ov_sub (y_un un_neg uv_neg (PE.imp (pe_call d__law_sip.ok (hr.mono (by decide)) (by rfl) d__law_sip.mgf d__law_sip.kp d__law_sip.b .nil (passes_call (takes_of rfl rfl rfl rfl) fun _ _ _ _ h => h) (pa_cons (pv 0) (ya_cons y_int ya_nil))) callO_rd)) y_int) ya_nil))))))))) ya_nil))) callO_rd) ya_nil)) (by first | rfl | exact sw2_local rfl rfl rfl))) (ys_cons (ys_par (i := 3) (j := 4) (ps_par rfl sc__law_lowest_right.nd rfl rfl (by decide) rfl rfl (ya_cons (PE.imp (pe_call d_lowest.ok (hr.mono (by decide)) (by rfl) d_lowest.mgf d_lowest.kp d_lowest.b .nil (passes_call (takes_of rfl rfl rfl rfl) fun _ _ _ _ h => h) (ya_cons (y_var (pv 1)) (ya_cons (y_var (pv 2)) ya_nil))) call_rd) (ya_cons (y_op oy_add ov_add y_int (PE.imp (pe_call d__law_sip.ok (hr.mono (by decide)) (by rfl) d__law_sip.mgf d__law_sip.kp d__law_sip.b .nil (passes_call (takes_of rfl rfl rfl rfl) fun _ _ _ _ h => h) (pa_cons (pv 0) (ya_cons y_int ya_nil))) callO_rd)) ya_nil)) (by first | rfl | exact sw2_local rfl rfl rfl))) (ys_cons (ys_if (PW.pt (yw_or (yt_not (yt_val rfl (PE.imp (pe_call d__law_is_lowest.ok (hr.mono (by decide)) (by rfl) d__law_is_lowest.mgf d__law_is_lowest.kp d__law_is_lowest.b .nil (passes_call (takes_of rfl rfl rfl rfl) fun _ _ _ _ h => h) (ya_cons (y_var (pv 3)) ya_nil)) call_rd) fun _ => rfl)) (yw_or (yt_cmp (op_neD hr.units) ov_ne (y_op op_mulA ov_mul (y_ix ix_seq ov_ix (y_var (pv 3)) y_int (fun _ _ => rfl)) (y_var (pv 2))) (y_op op_mulA ov_mul (y_var (pv 1)) (y_ix ix_seq ov_ix (y_var (pv 3)) y_int (fun _ _ => rfl))) (nomark _)) (yw_or1 (yt_cmp (op_neD hr.units) ov_ne (PE.imp (pe_callK0 (ks := ["bottom", "top"]) (g := pick [1, 0]) (gV := pick [1, 0]) d_lowest.ok (hr.mono (by decide)) (by rfl) d_lowest.mgf d_lowest.kp (d_lowest.kw (["bottom", "top"], [1, 0]) (by decide)) (fun _ r => pick_pair r _) (passes_call (takes_of rfl rfl rfl rfl) fun _ _ _ _ h => h) (yk_cons (y_op op_mulA ov_mul (y_var (pv 2)) (y_var (pv 4))) (yk_cons (y_op op_mulA ov_mul (y_var (pv 1)) (y_var (pv 4))) yk_nil))) callK_rd) (y_var (pv 3)) (nomark _)))))) (ys_one (ys_ret y_bl)) ys_nil) (ys_one (ys_ret (y_and (y_cmp op_isBl ov_isB (PE.imp (pe_call d_is_fraction.ok (hr.mono (by decide)) (by rfl) d_is_fraction.mgf d_is_fraction.kp d_is_fraction.b .nil (passes_call (takes_of rfl rfl rfl rfl) fun _ _ _ _ h => h) (ya_cons (y_var (pv 3)) ya_nil)) call_rd) y_bl (nomark _)) (y_and (y_cmp op_isBl ov_isB (PE.imp (pe_callK0 (ks := ["value"]) (g := pick [0]) (gV := pick [0]) d_is_fraction.ok (hr.mono (by decide)) (by rfl) d_is_fraction.mgf d_is_fraction.kp (d_is_fraction.kw (["value"], [0]) (by decide)) (fun _ r => pick_pair r _) (passes_call (takes_of rfl rfl rfl rfl) fun _ _ _ _ h => h) (yk_cons (y_new (PE.imp (pe_callTy call_list_of (by rfl) g_list (by decide +kernel) (ya_cons (y_var (pv 3)) ya_nil)) (cf_rd cv_list))) yk_nil)) callK_rd) y_bl (nomark _)) (y_one (y_cmp op_isBl ov_isB (PE.imp (pe_call d_is_fraction.ok (hr.mono (by decide)) (by rfl) d_is_fraction.mgf d_is_fraction.kp d_is_fraction.b .nil (passes_call (takes_of rfl rfl rfl rfl) fun _ _ _ _ h => h) (ya_cons (y_tup (ya_cons (y_op op_mulA ov_mul (y_ix ix_seq ov_ix (y_var (pv 3)) y_int (fun _ _ => rfl)) y_int) (ya_cons (y_op op_mulA ov_mul (y_ix ix_seq ov_ix (y_var (pv 3)) y_int (fun _ _ => rfl)) y_int) ya_nil))) ya_nil)) call_rd) y_bl (nomark _))))))))))
theorem ok__law_reckoned_right {oc kV doc pm ct : Value} {od an : Option Addr} {osl : Array (Option Value)} {f cc PP : Addr} (lk : C.K.lookup f = some ⟨oc, od, .func (PySem.W.fnOf "_law_reckoned_right" "_law_reckoned_right" (defArgs s__law_reckoned_right) (defBody s__law_reckoned_right) (defScope s__law_reckoned_right) .none kV doc pm an (.ref cc) ct), osl⟩) (hcd : PySem.W.codeIn C.K (.ref cc) "_law_reckoned_right" = true) (lD : LamD C base mg cc PP "_law_reckoned_right.<locals>.<lambda>") (g_list : mg "list" = none) (g_enumerate : mg "enumerate" = none) (d__law_fraction : Df P w C mg base "_law_fraction" 6 ["cup"] [] (spF C 1 5 b__law_fraction)) (d_plus : Df P w C mg base "plus" 7 ["one", "other"] [(["one", "other"], [0, 1]), (["other", "one"], [1, 0])] (spF C 2 2 b_plus)) (d_less : Df P w C mg base "less" 7 ["one", "other"] [(["other", "one"], [1, 0])] (spF C 2 2 b_less)) (d_times : Df P w C mg base "times" 7 ["one", "other"] [(["one", "other"], [0, 1])] (spF C 2 2 b_times)) (d__law_is_lowest : Df P w C mg base "_law_is_lowest" 3 ["value"] [] (spF C 1 4 b__law_is_lowest)) (d_over : Df P w C mg base "over" 7 ["one", "other"] [(["other", "one"], [1, 0])] (spF C 2 2 b_over)) (h__law_heard : Hear C mg "_law_heard" "ask" 1 "part" s__law_heard ["ask", "heard", "error"]) : FnOk P w C.K mg base (L2.CX P w) 10 f (PySem.W.fnOf "_law_reckoned_right" "_law_reckoned_right" (defArgs s__law_reckoned_right) (defBody s__law_reckoned_right) (defScope s__law_reckoned_right) .none kV doc pm an (.ref cc) ct) ["cup"] (spF C 1 9 b__law_reckoned_right) :=
  y_fnL (C := C) (k := 9) lk hcd sc__law_reckoned_right (by decide) fun A outer s H E hr => (ys_cons (ys_asgT (ps_asg (y_tup (ya_cons (PE.imp (pe_call d__law_fraction.ok (hr.mono (by decide)) (by rfl) d__law_fraction.mgf d__law_fraction.kp d__law_fraction.b .nil (passes_call (takes_of rfl rfl rfl rfl) fun _ _ _ _ h => h) (pa_cons (pv 0) ya_nil)) callO_rd) (ya_cons (PE.imp (pe_call d__law_fraction.ok (hr.mono (by decide)) (by rfl) d__law_fraction.mgf d__law_fraction.kp d__law_fraction.b .nil (passes_call (takes_of rfl rfl rfl rfl) fun _ _ _ _ h => h) (pa_cons (pv 0) ya_nil)) callO_rd) ya_nil))) (yg_tup rfl (pg_tup rfl (ygs_cons (yg_name (pg_name (i := 1) sc__law_reckoned_right.nd rfl (Or.inr rfl))) (ygs_cons (yg_name (pg_name (i := 2) sc__law_reckoned_right.nd rfl (Or.inr rfl))) ygs_nil (fun a b => pgs_cons a b)) (fun a b => pgs_cons a b)))))) (ys_cons (ys_asg (ps_set (i := 3) sc__law_reckoned_right.nd rfl (Or.inl rfl) (y_lst (ya_cons (PE.imp (pe_callK0 (ks := ["one", "other"]) (g := pick [0, 1]) (gV := pick [0, 1]) d_plus.ok (hr.mono (by decide)) (by rfl) d_plus.mgf d_plus.kp (d_plus.kw (["one", "other"], [0, 1]) (by decide)) (fun _ r => pick_pair r _) (passes_call (takes_of rfl rfl rfl rfl) fun _ _ _ _ h => h) (yk_cons (y_var (pv 1)) (yk_cons (y_var (pv 2)) yk_nil))) callK_rd) (ya_cons (PE.imp (pe_callK0 (ks := ["other", "one"]) (g := pick [1, 0]) (gV := pick [1, 0]) d_less.ok (hr.mono (by decide)) (by rfl) d_less.mgf d_less.kp (d_less.kw (["other", "one"], [1, 0]) (by decide)) (fun _ r => pick_pair r _) (passes_call (takes_of rfl rfl rfl rfl) fun _ _ _ _ h => h) (yk_cons (y_var (pv 2)) (yk_cons (y_new (PE.imp (pe_callTy call_list_of (by rfl) g_list (by decide +kernel) (ya_cons (y_var (pv 1)) ya_nil)) (cf_rd cv_list))) yk_nil))) callK_rd) (ya_cons (PE.imp (pe_callK0 (ks := ["one", "other"]) (g := pick [0, 1]) (gV := pick [0, 1]) d_times.ok (hr.mono (by decide)) (by rfl) d_times.mgf d_times.kp (d_times.kw (["one", "other"], [0, 1]) (by decide)) (fun _ r => pick_pair r _) (passes_call (takes_of rfl rfl rfl rfl) fun _ _ _ _ h => h) (yk_cons (y_var (pv 1)) (yk_cons (y_new (PE.imp (pe_callTy call_list_of (by rfl) g_list (by decide +kernel) (ya_cons (y_var (pv 2)) ya_nil)) (cf_rd cv_list))) yk_nil))) callK_rd) ya_nil)))))) (ys_cons (ys_if (yt_cmp (op_neD hr.units) ov_ne (y_new (y_lc (own := [("value", 4)]) rfl sc__law_reckoned_right.nd (yi_seq rfl (y_var (pv 3))) (blkOk_by (N := ["cup", "one", "other", "told", "value", "bottom", "tops", "at", "far"]) (sc := defScope s__law_reckoned_right) (by decide +kernel)) (by decide) (fun _ _ _ h => h) (fun _ _ _ _ _ => (yg_name (pg_name (i := 4) sc__law_reckoned_right.nd rfl (Or.inl rfl)))) (fun _ _ _ _ _ => pts_one (yt_not (yt_val rfl (PE.imp (pe_call d__law_is_lowest.ok (hr.mono (by decide)) (by rfl) d__law_is_lowest.mgf d__law_is_lowest.kp d__law_is_lowest.b .nil passL (ya_cons (y_var (pv 4)) ya_nil)) call_rd) fun _ => rfl))) (fun _ _ _ _ _ => (y_var (pv 4))))) (y_lst ya_nil) (nomark _)) (ys_one (ys_ret y_bl)) ys_nil) (ys_cons (ys_asg (ps_set (i := 5) sc__law_reckoned_right.nd rfl (Or.inr rfl) (y_op op_mulA ov_mul (y_ix ix_seq ov_ix (y_var (pv 1)) y_int (fun _ _ => rfl)) (y_ix ix_seq ov_ix (y_var (pv 2)) y_int (fun _ _ => rfl))))) (ys_cons (ys_asg (ps_set (i := 6) sc__law_reckoned_right.nd rfl (Or.inr rfl) (y_lst (ya_cons (y_op oy_add ov_add (y_op op_mulA ov_mul (y_ix ix_seq ov_ix (y_var (pv 1)) y_int (fun _ _ => rfl)) (y_ix ix_seq ov_ix (y_var (pv 2)) y_int (fun _ _ => rfl))) (y_op op_mulA ov_mul (y_ix ix_seq ov_ix (y_var (pv 2)) y_int (fun _ _ => rfl)) (y_ix ix_seq ov_ix (y_var (pv 1)) y_int (fun _ _ => rfl)))) (ya_cons (y_op op_sub ov_sub (y_op op_mulA ov_mul (y_ix ix_seq ov_ix (y_var (pv 1)) y_int (fun _ _ => rfl)) (y_ix ix_seq ov_ix (y_var (pv 2)) y_int (fun _ _ => rfl))) (y_op op_mulA ov_mul (y_ix ix_seq ov_ix (y_var (pv 2)) y_int (fun _ _ => rfl)) (y_ix ix_seq ov_ix (y_var (pv 1)) y_int (fun _ _ => rfl)))) (ya_cons (y_op op_mulA ov_mul (y_ix ix_seq ov_ix (y_var (pv 1)) y_int (fun _ _ => rfl)) (y_ix ix_seq ov_ix (y_var (pv 2)) y_int (fun _ _ => rfl))) ya_nil)))))) (ys_cons (ys_if (yt_cmp (op_neD hr.units) ov_ne (y_new (y_lc (own := [("at", 7), ("value", 4)]) rfl sc__law_reckoned_right.nd (yi_enum rfl (pi_enum (by rfl) g_enumerate (ya_cons (y_var (pv 3)) ya_nil))) (blkOk_by (N := ["cup", "one", "other", "told", "value", "bottom", "tops", "at", "far"]) (sc := defScope s__law_reckoned_right) (by decide +kernel)) (by decide) (fun _ _ _ h => h) (fun _ _ _ _ _ => (yg_tup rfl (pg_tup rfl (ygs_cons (yg_name (pg_name (i := 7) sc__law_reckoned_right.nd rfl (Or.inl rfl))) (ygs_cons (yg_name (pg_name (i := 4) sc__law_reckoned_right.nd rfl (Or.inl rfl))) ygs_nil (fun a b => pgs_cons a b)) (fun a b => pgs_cons a b))))) (fun _ _ _ _ _ => pts_one (yt_cmp (op_neD hr.units) ov_ne (y_op op_mulA ov_mul (y_ix ix_seq ov_ix (y_var (pv 4)) y_int (fun _ _ => rfl)) (y_var (pv 5))) (y_op op_mulA ov_mul (y_ix ix_seq ov_ix (y_var (pv 6)) (y_var (pv 7)) (fun _ _ => rfl)) (y_ix ix_seq ov_ix (y_var (pv 4)) y_int (fun _ _ => rfl))) (nomark _))) (fun _ _ _ _ _ => (y_var (pv 7))))) (y_lst ya_nil) (nomark _)) (ys_one (ys_ret y_bl)) ys_nil) (ys_cons (ys_if (PW.pt (yw_or (yt_cmp (op_neD hr.units) ov_ne (PE.imp (pe_call d_less.ok (hr.mono (by decide)) (by rfl) d_less.mgf d_less.kp d_less.b .nil (passes_call (takes_of rfl rfl rfl rfl) fun _ _ _ _ h => h) (ya_cons (y_ix ix_seq ov_ix (y_var (pv 3)) y_int (fun _ _ => rfl)) (ya_cons (y_var (pv 2)) ya_nil))) call_rd) (y_var (pv 1)) (nomark _)) (yw_or (yt_cmp (op_neD hr.units) ov_ne (PE.imp (pe_call d_plus.ok (hr.mono (by decide)) (by rfl) d_plus.mgf d_plus.kp d_plus.b .nil (passes_call (takes_of rfl rfl rfl rfl) fun _ _ _ _ h => h) (ya_cons (y_ix ix_seq ov_ix (y_var (pv 3)) y_int (fun _ _ => rfl)) (ya_cons (y_var (pv 2)) ya_nil))) call_rd) (y_var (pv 1)) (nomark _)) (yw_or (yt_cmp (op_neD hr.units) ov_ne (PE.imp (pe_callK0 (ks := ["other", "one"]) (g := pick [1, 0]) (gV := pick [1, 0]) d_plus.ok (hr.mono (by decide)) (by rfl) d_plus.mgf d_plus.kp (d_plus.kw (["other", "one"], [1, 0]) (by decide)) (fun _ r => pick_pair r _) (passes_call (takes_of rfl rfl rfl rfl) fun _ _ _ _ h => h) (yk_cons (y_var (pv 1)) (yk_cons (y_var (pv 2)) yk_nil))) callK_rd) (y_ix ix_seq ov_ix (y_var (pv 3)) y_int (fun _ _ => rfl)) (nomark _)) (yw_or1 (yt_cmp (op_neD hr.units) ov_ne (PE.imp (pe_call d_times.ok (hr.mono (by decide)) (by rfl) d_times.mgf d_times.kp d_times.b .nil (passes_call (takes_of rfl rfl rfl rfl) fun _ _ _ _ h => h) (ya_cons (y_var (pv 2)) (ya_cons (y_var (pv 1)) ya_nil))) call_rd) (y_ix ix_seq ov_ix (y_var (pv 3)) y_int (fun _ _ => rfl)) (nomark _))))))) (ys_one (ys_ret y_bl)) ys_nil) (ys_cons (ys_if (yt_cmp (op_eqD hr.units) ov_eq (y_ix ix_seq ov_ix (y_var (pv 2)) y_int (fun _ _ => rfl)) y_int (nomark _)) (ys_one (ys_ret (y_and (y_cmp (op_eqD hr.units) ov_eq (PE.imp (pe_call d_times.ok (hr.mono (by decide)) (by rfl) d_times.mgf d_times.kp d_times.b .nil (passes_call (takes_of rfl rfl rfl rfl) fun _ _ _ _ h => h) (ya_cons (y_var (pv 1)) (ya_cons (y_var (pv 2)) ya_nil))) call_rd) (y_tup (ya_cons y_int (ya_cons y_int ya_nil))) (nomark _)) (y_one (y_cmp (op_eqD hr.units) ov_eq (y_lam (k := 7) h__law_heard rfl rfl (by rfl) sc__law_heard rfl (.inl rfl) (fun us hl => match us, hl with | [_], _ => rfl) lD rfl rfl (hr.mono (by decide)) (defScope s__law_reckoned_right) rfl (LamX.lamS_by (by decide +kernel)) rfl (fun _ _ _ _ _ => rfl) fun _ _ _ _ E _ _ hr => (PE.imp (pe_call d_over.ok (hr.mono (by decide)) (by rfl) d_over.mgf d_over.kp d_over.b .nil (passes_call (takes_of rfl rfl rfl rfl) fun _ _ _ _ h => h) (ya_cons (y_var (pv 1)) (ya_cons (y_var (pv 2)) ya_nil))) call_rd)) y_str (nomark _)))))) ys_nil) (ys_cons (ys_asg (ps_set (i := 8) sc__law_reckoned_right.nd rfl (Or.inl rfl) (PE.imp (pe_call d_over.ok (hr.mono (by decide)) (by rfl) d_over.mgf d_over.kp d_over.b .nil (passes_call (takes_of rfl rfl rfl rfl) fun _ _ _ _ h => h) (ya_cons (y_var (pv 1)) (ya_cons (y_var (pv 2)) ya_nil))) call_rd))) (ys_one (ys_ret (y_and (PE.imp (pe_call d__law_is_lowest.ok (hr.mono (by decide)) (by rfl) d__law_is_lowest.mgf d__law_is_lowest.kp d__law_is_lowest.b .nil (passes_call (takes_of rfl rfl rfl rfl) fun _ _ _ _ h => h) (ya_cons (y_var (pv 8)) ya_nil)) call_rd) (y_and (y_cmp (op_eqD hr.units) ov_eq (PE.imp (pe_call d_times.ok (hr.mono (by decide)) (by rfl) d_times.mgf d_times.kp d_times.b .nil (passes_call (takes_of rfl rfl rfl rfl) fun _ _ _ _ h => h) (ya_cons (y_var (pv 8)) (ya_cons (y_var (pv 2)) ya_nil))) call_rd) (y_var (pv 1)) (nomark _)) (y_one (y_cmp (op_eqD hr.units) ov_eq (PE.imp (pe_callK0 (ks := ["other", "one"]) (g := pick [1, 0]) (gV := pick [1, 0]) d_over.ok (hr.mono (by decide)) (by rfl) d_over.mgf d_over.kp (d_over.kw (["other", "one"], [1, 0]) (by decide)) (fun _ r => pick_pair r _) (passes_call (takes_of rfl rfl rfl rfl) fun _ _ _ _ h => h) (yk_cons (y_var (pv 2)) (yk_cons (y_ix ix_seq ov_ix (y_var (pv 3)) y_int (fun _ _ => rfl)) yk_nil))) callK_rd) (y_var (pv 1)) (nomark _))))))))))))))))
theorem ok__law_refused_right {oc kV doc pm ct : Value} {od an : Option Addr} {osl : Array (Option Value)} {f cc PP : Addr} (lk : C.K.lookup f = some ⟨oc, od, .func (PySem.W.fnOf "_law_refused_right" "_law_refused_right" (defArgs s__law_refused_right) (defBody s__law_refused_right) (defScope s__law_refused_right) .none kV doc pm an (.ref cc) ct), osl⟩) (hcd : PySem.W.codeIn C.K (.ref cc) "_law_refused_right" = true) (lD : LamD C base mg cc PP "_law_refused_right.<locals>.<lambda>") (d__law_fraction : Df P w C mg base "_law_fraction" 6 ["cup"] [] (spF C 1 5 b__law_fraction)) (d__law_pick : Df P w C mg base "_law_pick" 4 ["cup", "some"] [] (spF C 2 2 b__law_pick)) (d_is_fraction : Df P w C mg base "is_fraction" 5 ["value"] [(["value"], [0])] (spF C 1 1 b_is_fraction)) (d_plus : Df P w C mg base "plus" 7 ["one", "other"] [(["one", "other"], [0, 1]), (["other", "one"], [1, 0])] (spF C 2 2 b_plus)) (d_less : Df P w C mg base "less" 7 ["one", "other"] [(["other", "one"], [1, 0])] (spF C 2 2 b_less)) (d_times : Df P w C mg base "times" 7 ["one", "other"] [(["one", "other"], [0, 1])] (spF C 2 2 b_times)) (d_over : Df P w C mg base "over" 7 ["one", "other"] [(["other", "one"], [1, 0])] (spF C 2 2 b_over)) (d_lowest : Df P w C mg base "lowest" 4 ["top", "bottom"] [(["bottom", "top"], [1, 0])] (spF C 2 3 b_lowest)) (h__law_heard : Hear C mg "_law_heard" "ask" 1 "part" s__law_heard ["ask", "heard", "error"]) : FnOk P w C.K mg base (L2.CX P w) 10 f (PySem.W.fnOf "_law_refused_right" "_law_refused_right" (defArgs s__law_refused_right) (defBody s__law_refused_right) (defScope s__law_refused_right) .none kV doc pm an (.ref cc) ct) ["cup"] (spF C 1 5 b__law_refused_right) :=
  y_fnL (C := C) (k := 9) lk hcd sc__law_refused_right (by decide) fun A outer s H E hr => (ys_cons (ys_asg (ps_set (i := 1) sc__law_refused_right.nd rfl (Or.inr rfl) (PE.imp (pe_call d__law_fraction.ok (hr.mono (by decide)) (by rfl) d__law_fraction.mgf d__law_fraction.kp d__law_fraction.b .nil (passes_call (takes_of rfl rfl rfl rfl) fun _ _ _ _ h => h) (pa_cons (pv 0) ya_nil)) callO_rd))) (ys_cons (ys_asg (ps_set (i := 2) sc__law_refused_right.nd rfl (Or.inr rfl) (PE.imp (pe_call d__law_pick.ok (hr.mono (by decide)) (by rfl) d__law_pick.mgf d__law_pick.kp d__law_pick.b .nil (passes_call (takes_of rfl rfl rfl rfl) fun _ _ _ _ h => h) (pa_cons (pv 0) (ya_cons (y_lst (ya_cons y_non (ya_cons y_int (ya_cons y_bl (ya_cons y_str (ya_cons (y_tup (ya_cons y_int ya_nil)) (ya_cons (y_tup (ya_cons y_int (ya_cons y_int (ya_cons y_int ya_nil)))) (ya_cons (y_tup (ya_cons y_int (ya_cons y_int ya_nil))) (ya_cons (y_tup (ya_cons y_int (ya_cons y_int ya_nil))) (ya_cons (y_tup (ya_cons y_int (ya_cons (y_un un_neg uv_neg y_int) ya_nil))) (ya_cons (y_tup (ya_cons y_int (ya_cons y_int ya_nil))) (ya_cons (y_tup (ya_cons y_bl (ya_cons y_int ya_nil))) (ya_cons (y_tup (ya_cons y_int (ya_cons y_bl ya_nil))) (ya_cons (y_tup (ya_cons y_str (ya_cons y_int ya_nil))) (ya_cons (y_lst (ya_cons (y_lst (ya_cons y_int ya_nil)) (ya_cons y_int ya_nil))) (ya_cons y_dic0 (ya_cons (y_tup (ya_cons y_int (ya_cons y_non ya_nil))) (ya_cons (y_tup (ya_cons y_int (ya_cons y_int ya_nil))) (ya_cons y_str ya_nil))))))))))))))))))) ya_nil))) callO_rd))) (ys_cons (ys_asg (ps_set (i := 3) sc__law_refused_right.nd rfl (Or.inr rfl) (PE.imp (pe_call d__law_pick.ok (hr.mono (by decide)) (by rfl) d__law_pick.mgf d__law_pick.kp d__law_pick.b .nil (passes_call (takes_of rfl rfl rfl rfl) fun _ _ _ _ h => h) (pa_cons (pv 0) (ya_cons (y_lst (ya_cons y_non (ya_cons y_bl (ya_cons y_str (ya_cons (y_lst (ya_cons y_int ya_nil)) (ya_cons (y_tup (ya_cons y_int (ya_cons y_int ya_nil))) (ya_cons y_dic0 ya_nil))))))) ya_nil))) callO_rd))) (ys_cons (ys_if (PW.pt (yw_or (yt_cmp op_notBl ov_isnotB (PE.imp (pe_call d_is_fraction.ok (hr.mono (by decide)) (by rfl) d_is_fraction.mgf d_is_fraction.kp d_is_fraction.b .nil (passes_call (takes_of rfl rfl rfl rfl) fun _ _ _ _ h => h) (ya_cons (y_var (pv 2)) ya_nil)) call_rd) y_bl (nomark _)) (yw_or1 (yt_cmp op_notBl ov_isnotB (PE.imp (pe_call d_is_fraction.ok (hr.mono (by decide)) (by rfl) d_is_fraction.mgf d_is_fraction.kp d_is_fraction.b .nil (passes_call (takes_of rfl rfl rfl rfl) fun _ _ _ _ h => h) (ya_cons (y_var (pv 1)) ya_nil)) call_rd) y_bl (nomark _))))) (ys_one (ys_ret y_bl)) ys_nil) (ys_cons (ys_new (ps_set (i := 4) sc__law_refused_right.nd rfl (Or.inl rfl) (yf_lst (ya_cons (y_lam (k := 7) h__law_heard rfl rfl (by rfl) sc__law_heard rfl (.inl rfl) (fun us hl => match us, hl with | [_], _ => rfl) lD rfl rfl (hr.mono (by decide)) (defScope s__law_refused_right) rfl (LamX.lamS_by (by decide +kernel)) rfl (fun _ _ _ _ _ => rfl) fun _ _ _ _ E _ _ hr => (PE.imp (pe_call d_plus.ok (hr.mono (by decide)) (by rfl) d_plus.mgf d_plus.kp d_plus.b .nil (passes_call (takes_of rfl rfl rfl rfl) fun _ _ _ _ h => h) (ya_cons (y_var (pv 2)) (ya_cons (y_var (pv 2)) ya_nil))) call_rd)) ya_nil)))) (ys_cons (ys_app rfl (ps_expr (pe_bm PySem.F.plainAttrs_list PySem.F.slot_list_append PySem.F.type_list_append mt_append (pv 4) (pa_cons (y_lam (k := 7) h__law_heard rfl rfl (by rfl) sc__law_heard rfl (.inl rfl) (fun us hl => match us, hl with | [_], _ => rfl) lD rfl rfl (hr.mono (by decide)) (defScope s__law_refused_right) rfl (LamX.lamS_by (by decide +kernel)) rfl (fun _ _ _ _ _ => rfl) fun _ _ _ _ E _ _ hr => (PE.imp (pe_call d_plus.ok (hr.mono (by decide)) (by rfl) d_plus.mgf d_plus.kp d_plus.b .nil (passes_call (takes_of rfl rfl rfl rfl) fun _ _ _ _ h => h) (ya_cons (y_var (pv 1)) (ya_cons (y_var (pv 2)) ya_nil))) call_rd)) pa_nil)))) (ys_cons (ys_app rfl (ps_expr (pe_bm PySem.F.plainAttrs_list PySem.F.slot_list_append PySem.F.type_list_append mt_append (pv 4) (pa_cons (y_lam (k := 7) h__law_heard rfl rfl (by rfl) sc__law_heard rfl (.inl rfl) (fun us hl => match us, hl with | [_], _ => rfl) lD rfl rfl (hr.mono (by decide)) (defScope s__law_refused_right) rfl (LamX.lamS_by (by decide +kernel)) rfl (fun _ _ _ _ _ => rfl) fun _ _ _ _ E _ _ hr => (PE.imp (pe_call d_less.ok (hr.mono (by decide)) (by rfl) d_less.mgf d_less.kp d_less.b .nil (passes_call (takes_of rfl rfl rfl rfl) fun _ _ _ _ h => h) (ya_cons (y_var (pv 2)) (ya_cons (y_var (pv 1)) ya_nil))) call_rd)) pa_nil)))) (ys_cons (ys_app rfl (ps_expr (pe_bm PySem.F.plainAttrs_list PySem.F.slot_list_append PySem.F.type_list_append mt_append (pv 4) (pa_cons (y_lam (k := 7) h__law_heard rfl rfl (by rfl) sc__law_heard rfl (.inl rfl) (fun us hl => match us, hl with | [_], _ => rfl) lD rfl rfl (hr.mono (by decide)) (defScope s__law_refused_right) rfl (LamX.lamS_by (by decide +kernel)) rfl (fun _ _ _ _ _ => rfl) fun _ _ _ _ E _ _ hr => (PE.imp (pe_call d_less.ok (hr.mono (by decide)) (by rfl) d_less.mgf d_less.kp d_less.b .nil (passes_call (takes_of rfl rfl rfl rfl) fun _ _ _ _ h => h) (ya_cons (y_var (pv 1)) (ya_cons (y_var (pv 2)) ya_nil))) call_rd)) pa_nil)))) (ys_cons (ys_app rfl (ps_expr (pe_bm PySem.F.plainAttrs_list PySem.F.slot_list_append PySem.F.type_list_append mt_append (pv 4) (pa_cons (y_lam (k := 7) h__law_heard rfl rfl (by rfl) sc__law_heard rfl (.inl rfl) (fun us hl => match us, hl with | [_], _ => rfl) lD rfl rfl (hr.mono (by decide)) (defScope s__law_refused_right) rfl (LamX.lamS_by (by decide +kernel)) rfl (fun _ _ _ _ _ => rfl) fun _ _ _ _ E _ _ hr => (PE.imp (pe_call d_times.ok (hr.mono (by decide)) (by rfl) d_times.mgf d_times.kp d_times.b .nil (passes_call (takes_of rfl rfl rfl rfl) fun _ _ _ _ h => h) (ya_cons (y_var (pv 2)) (ya_cons y_non ya_nil))) call_rd)) pa_nil)))) (ys_cons (ys_app rfl (ps_expr (pe_bm PySem.F.plainAttrs_list PySem.F.slot_list_append PySem.F.type_list_append mt_append (pv 4) (pa_cons (y_lam (k := 7) h__law_heard rfl rfl (by rfl) sc__law_heard rfl (.inl rfl) (fun us hl => match us, hl with | [_], _ => rfl) lD rfl rfl (hr.mono (by decide)) (defScope s__law_refused_right) rfl (LamX.lamS_by (by decide +kernel)) rfl (fun _ _ _ _ _ => rfl) fun _ _ _ _ E _ _ hr => (PE.imp (pe_call d_times.ok (hr.mono (by decide)) (by rfl) d_times.mgf d_times.kp d_times.b .nil (passes_call (takes_of rfl rfl rfl rfl) fun _ _ _ _ h => h) (ya_cons (y_var (pv 1)) (ya_cons (y_var (pv 2)) ya_nil))) call_rd)) pa_nil)))) (ys_cons (ys_app rfl (ps_expr (pe_bm PySem.F.plainAttrs_list PySem.F.slot_list_append PySem.F.type_list_append mt_append (pv 4) (pa_cons (y_lam (k := 7) h__law_heard rfl rfl (by rfl) sc__law_heard rfl (.inl rfl) (fun us hl => match us, hl with | [_], _ => rfl) lD rfl rfl (hr.mono (by decide)) (defScope s__law_refused_right) rfl (LamX.lamS_by (by decide +kernel)) rfl (fun _ _ _ _ _ => rfl) fun _ _ _ _ E _ _ hr => (PE.imp (pe_call d_over.ok (hr.mono (by decide)) (by rfl) d_over.mgf d_over.kp d_over.b .nil (passes_call (takes_of rfl rfl rfl rfl) fun _ _ _ _ h => h) (ya_cons (y_var (pv 2)) (ya_cons (y_tup (ya_cons y_int (ya_cons y_int ya_nil))) ya_nil))) call_rd)) pa_nil)))) (ys_cons (ys_app rfl (ps_expr (pe_bm PySem.F.plainAttrs_list PySem.F.slot_list_append PySem.F.type_list_append mt_append (pv 4) (pa_cons (y_lam (k := 7) h__law_heard rfl rfl (by rfl) sc__law_heard rfl (.inl rfl) (fun us hl => match us, hl with | [_], _ => rfl) lD rfl rfl (hr.mono (by decide)) (defScope s__law_refused_right) rfl (LamX.lamS_by (by decide +kernel)) rfl (fun _ _ _ _ _ => rfl) fun _ _ _ _ E _ _ hr => (PE.imp (pe_call d_over.ok (hr.mono (by decide)) (by rfl) d_over.mgf d_over.kp d_over.b .nil (passes_call (takes_of rfl rfl rfl rfl) fun _ _ _ _ h => h) (ya_cons (y_var (pv 1)) (ya_cons (y_var (pv 2)) ya_nil))) call_rd)) pa_nil)))) (ys_cons (ys_app rfl (ps_expr (pe_bm PySem.F.plainAttrs_list PySem.F.slot_list_append PySem.F.type_list_append mt_append (pv 4) (pa_cons (y_lam (k := 7) h__law_heard rfl rfl (by rfl) sc__law_heard rfl (.inl rfl) (fun us hl => match us, hl with | [_], _ => rfl) lD rfl rfl (hr.mono (by decide)) (defScope s__law_refused_right) rfl (LamX.lamS_by (by decide +kernel)) rfl (fun _ _ _ _ _ => rfl) fun _ _ _ _ E _ _ hr => (PE.imp (pe_call d_over.ok (hr.mono (by decide)) (by rfl) d_over.mgf d_over.kp d_over.b .nil (passes_call (takes_of rfl rfl rfl rfl) fun _ _ _ _ h => h) (ya_cons (y_var (pv 1)) (ya_cons (y_tup (ya_cons y_int (ya_cons y_int ya_nil))) ya_nil))) call_rd)) pa_nil)))) (ys_cons (ys_app rfl (ps_expr (pe_bm PySem.F.plainAttrs_list PySem.F.slot_list_append PySem.F.type_list_append mt_append (pv 4) (pa_cons (y_lam (k := 7) h__law_heard rfl rfl (by rfl) sc__law_heard rfl (.inl rfl) (fun us hl => match us, hl with | [_], _ => rfl) lD rfl rfl (hr.mono (by decide)) (defScope s__law_refused_right) rfl (LamX.lamS_by (by decide +kernel)) rfl (fun _ _ _ _ _ => rfl) fun _ _ _ _ E _ _ hr => (PE.imp (pe_call d_lowest.ok (hr.mono (by decide)) (by rfl) d_lowest.mgf d_lowest.kp d_lowest.b .nil (passes_call (takes_of rfl rfl rfl rfl) fun _ _ _ _ h => h) (ya_cons (y_var (pv 3)) (ya_cons y_int ya_nil))) call_rd)) pa_nil)))) (ys_cons (ys_app rfl (ps_expr (pe_bm PySem.F.plainAttrs_list PySem.F.slot_list_append PySem.F.type_list_append mt_append (pv 4) (pa_cons (y_lam (k := 7) h__law_heard rfl rfl (by rfl) sc__law_heard rfl (.inl rfl) (fun us hl => match us, hl with | [_], _ => rfl) lD rfl rfl (hr.mono (by decide)) (defScope s__law_refused_right) rfl (LamX.lamS_by (by decide +kernel)) rfl (fun _ _ _ _ _ => rfl) fun _ _ _ _ E _ _ hr => (PE.imp (pe_call d_lowest.ok (hr.mono (by decide)) (by rfl) d_lowest.mgf d_lowest.kp d_lowest.b .nil (passes_call (takes_of rfl rfl rfl rfl) fun _ _ _ _ h => h) (ya_cons y_int (ya_cons (y_var (pv 3)) ya_nil))) call_rd)) pa_nil)))) (ys_cons (ys_app rfl (ps_expr (pe_bm PySem.F.plainAttrs_list PySem.F.slot_list_append PySem.F.type_list_append mt_append (pv 4) (pa_cons (y_lam (k := 7) h__law_heard rfl rfl (by rfl) sc__law_heard rfl (.inl rfl) (fun us hl => match us, hl with | [_], _ => rfl) lD rfl rfl (hr.mono (by decide)) (defScope s__law_refused_right) rfl (LamX.lamS_by (by decide +kernel)) rfl (fun _ _ _ _ _ => rfl) fun _ _ _ _ E _ _ hr => (PE.imp (pe_call d_lowest.ok (hr.mono (by decide)) (by rfl) d_lowest.mgf d_lowest.kp d_lowest.b .nil (passes_call (takes_of rfl rfl rfl rfl) fun _ _ _ _ h => h) (ya_cons y_int (ya_cons y_int ya_nil))) call_rd)) pa_nil)))) (ys_melt (ys_one (ys_ret (y_cmp (op_eqD hr.units) ov_eq (y_var (pv 4)) (y_lst (ya_cons y_str (ya_cons y_str (ya_cons y_str (ya_cons y_str (ya_cons y_str (ya_cons y_str (ya_cons y_str (ya_cons y_str (ya_cons y_str (ya_cons y_str (ya_cons y_str (ya_cons y_str ya_nil))))))))))))) (nomark _)))))))))))))))))))))
theorem ok_law {f : Addr} {fd : FuncData} (F : Fun C.K "law" "law" s_law f fd) (g_range : mg "range" = none) (d__law_cup : Df P w C mg base "_law_cup" 3 ["script"] [] (spN C 1 2 n__law_cup)) (d__law_lowest_right : Df P w C mg base "_law_lowest_right" 6 ["cup"] [] (spF C 1 5 b__law_lowest_right)) (d__law_reckoned_right : Df P w C mg base "_law_reckoned_right" 10 ["cup"] [] (spF C 1 9 b__law_reckoned_right)) (d__law_refused_right : Df P w C mg base "_law_refused_right" 10 ["cup"] [] (spF C 1 5 b__law_refused_right)) : FnOk P w C.K mg base (L2.CX P w) 11 f fd ["script"] (spF C 1 3 b_law) :=
  y_fn (C := C) (k := 10) F sc_law (by decide) fun cdv A outer s H E hr => (ys_cons (ys_new (ps_set (i := 1) sc_law.nd rfl (Or.inl rfl) (PE.imp (pe_call d__law_cup.ok (hr.mono (by decide)) (by rfl) d__law_cup.mgf d__law_cup.kp d__law_cup.b .nil (passes_call (takes_of rfl rfl rfl rfl) fun _ _ _ _ h => h) (ya_cons (y_var (pv 0)) ya_nil)) callN_rd))) (ys_cons (ys_for (ps_for (passes_of rfl) rfl (yi_rng1 (pi_range1 (by rfl) g_range (ya_cons y_int ya_nil))) (yg_name (pg_name (i := 2) sc_law.nd rfl (Or.inl rfl))) (ys_one (ys_if (PW.pt (yw_or (yt_not (yt_val rfl (PE.imp (pe_call d__law_lowest_right.ok (hr.mono (by decide)) (by rfl) d__law_lowest_right.mgf d__law_lowest_right.kp d__law_lowest_right.b .nil (passes_call (takes_of rfl rfl rfl rfl) fun _ _ _ _ h => h) (pa_cons (pv 1) ya_nil)) callO_rd) fun _ => rfl)) (yw_or1 (yt_not (yt_val rfl (PE.imp (pe_call d__law_reckoned_right.ok (hr.mono (by decide)) (by rfl) d__law_reckoned_right.mgf d__law_reckoned_right.kp d__law_reckoned_right.b .nil (passes_call (takes_of rfl rfl rfl rfl) fun _ _ _ _ h => h) (pa_cons (pv 1) ya_nil)) callO_rd) fun _ => rfl))))) (ys_one (ys_ret y_bl)) ys_nil)))) (ys_one (ys_ret (PE.imp (pe_call d__law_refused_right.ok (hr.mono (by decide)) (by rfl) d__law_refused_right.mgf d__law_refused_right.kp d__law_refused_right.b .nil (passes_call (takes_of rfl rfl rfl rfl) fun _ _ _ _ h => h) (pa_cons (pv 1) ya_nil)) callO_rd)))))
end Y

set_option Elab.async false
set_option linter.all false
set_option maxRecDepth 100000
set_option maxHeartbeats 4000000
set_option autoImplicit false
/-! YC: how mirrors are computed. -/
namespace Y
open PySem PySem.Spec PyProof.Rows L2 Z
/-- a def's value -/
def runV (n : Nat) (body : MS) (xs : List Val) : Rs Val := match runF n body xs with
  | .ok r => .ok r.1 | .exc c ns vs _ => .exc c ns vs [] | .bad => .bad
def liftV (r : Rs Val) (ρ : En) : Rs (Val × En) := match r with | .ok v => .ok (v, ρ) | .exc c ns vs _ => .exc c ns vs ρ | .bad => .bad
@[simp] theorem liftV_ok {v : Val} {ρ : En} : liftV (.ok v) ρ = .ok (v, ρ) := rfl
@[simp] theorem liftV_exc {c ns vs ρ0} {ρ : En} : liftV (.exc c ns vs ρ0) ρ = .exc c ns vs ρ := rfl
theorem callM_eq {np n : Nat} {body : MS} {a : MA} {ρ ρ1 : En} {xs : List Val} (h : a ρ = .ok (xs, ρ1)) (hl : xs.length = np) (hn : np ≤ n) : callM np n body a ρ = liftV (runV n body xs) ρ1 := by
  unfold callM runV
  rw [h, Rs.ok_bind]
  dsimp only
  rw [if_pos ⟨hl, hn⟩]
  cases runF n body xs <;> rfl
theorem compL_eq {vs : List Nat} {t : MT} {c : MB} {e : ME} {ρ : En} (p : Val → Bool) (g : Val → Val) (ρt : Val → En) (hw : wipeE ρ vs = ρ) : ∀ xs : List Val,
    (∀ x ∈ xs, t x ρ = some (ρt x) ∧ c (ρt x) = .ok (p x, ρt x) ∧ (p x = true → e (ρt x) = .ok (g x, ρt x)) ∧ vs.all (freeS (ρt x)) = true ∧ wipeE (ρt x) vs = ρ) → compL vs t c e xs ρ = .ok ((xs.filter p).map g, ρ)
  | [], _ => rfl
  | x :: xs, h => by
    obtain ⟨h1, h2, h3, h4, h5⟩ := h x (.head _)
    unfold compL
    rw [hw, h1, Rs.opt_some, Rs.ok_bind, h2]
    simp only [noX, Rs.ok_bind]
    have ih := compL_eq p g ρt hw xs fun y hy => h y (.tail _ hy)
    cases hp : p x with
    | true =>
      rw [if_pos rfl, h3 hp]
      simp only [noX, Rs.ok_bind]
      rw [if_pos h4, h5, ih, List.filter_cons_of_pos hp]
      rfl
    | false =>
      simp only [Bool.false_eq_true, if_false]
      rw [if_pos h4, h5, ih, List.filter_cons_of_neg (by rw [hp]; exact fun z => nomatch z)]
end Y

set_option Elab.async false
set_option linter.all false
set_option maxRecDepth 100000
set_option maxHeartbeats 4000000
set_option autoImplicit false
/-! YD: rules to compute mirrors, step by step. -/
namespace Y
open PySem PySem.Spec PyProof.Rows L2 Z
theorem small_sz {n : Nat} (h : Nat.ble n 100 = true) : n ≤ sizeLine := Nat.le_trans (Nat.le_of_ble_eq_true h) (by decide)
theorem small_lt {n : Nat} (h : Nat.ble n 100 = true) : n < sizeLine := Nat.lt_of_le_of_lt (Nat.le_of_ble_eq_true h) (by decide)
section
variable {ρ ρ1 ρ2 : En} {x y z : Val} {i : Nat} {a b m : ME} {c d : MB} {al bl : MA} {xs ys : List Val} {k l : Bool} {f : Val → Val → Option Val} {g : Val → Option Val} {s t : MS} {R : Rs Out}
theorem e_var (h : ρ[i]? = some (some (.fz x))) : varM i ρ = .ok (x, ρ) := by unfold varM; rw [h]
theorem e_cst : cstM x ρ = .ok (x, ρ) := rfl
theorem e_bin (h1 : a ρ = .ok (x, ρ1)) (h2 : b ρ1 = .ok (y, ρ2)) (h3 : f x y = some z) : binM f a b ρ = .ok (z, ρ2) := by
  unfold binM; rw [h1, Rs.ok_bind]; dsimp only; rw [h2, Rs.ok_bind]; dsimp only; rw [h3]; rfl
theorem e_un (h1 : a ρ = .ok (x, ρ1)) (h3 : g x = some z) : unM g a ρ = .ok (z, ρ1) := by
  unfold unM; rw [h1, Rs.ok_bind]; dsimp only; rw [h3]; rfl
theorem e_tst {f : Val → Option Bool} (h1 : a ρ = .ok (x, ρ1)) (h3 : f x = some k) : tstM f a ρ = .ok (k, ρ1) := by
  unfold tstM; rw [h1, Rs.ok_bind]; dsimp only; rw [h3]; rfl
theorem e_andB (h1 : c ρ = .ok (k, ρ1)) (h2 : k = true → d ρ1 = .ok (l, ρ1)) : andB c d ρ = .ok (k && l, ρ1) := by
  unfold andB; rw [h1, Rs.ok_bind]
  cases k with
  | true => simpa using h2 rfl
  | false => rfl
theorem e_orB (h1 : c ρ = .ok (k, ρ1)) (h2 : k = false → d ρ1 = .ok (l, ρ1)) : orB c d ρ = .ok (k || l, ρ1) := by
  unfold orB; rw [h1, Rs.ok_bind]
  cases k with
  | true => rfl
  | false => simpa using h2 rfl
theorem e_notB (h1 : c ρ = .ok (k, ρ1)) : notB c ρ = .ok (!k, ρ1) := by unfold notB; rw [h1, Rs.ok_bind]
theorem e_andM (h1 : a ρ = .ok (.bl k, ρ1)) (h2 : k = true → b ρ1 = .ok (.bl l, ρ1)) : andM a b ρ = .ok (.bl (k && l), ρ1) := by
  unfold andM; rw [h1, Rs.ok_bind]
  cases k with
  | true => simpa [blV] using h2 rfl
  | false => rfl
theorem e_orM (h1 : a ρ = .ok (.bl k, ρ1)) (h2 : k = false → b ρ1 = .ok (.bl l, ρ1)) : orM a b ρ = .ok (.bl (k || l), ρ1) := by
  unfold orM; rw [h1, Rs.ok_bind]
  cases k with
  | true => rfl
  | false => simpa [blV] using h2 rfl
theorem e_ifM (h1 : c ρ = .ok (k, ρ1)) (h2 : (if k = true then a ρ1 else b ρ1) = .ok (x, ρ2)) : ifM c a b ρ = .ok (x, ρ2) := by unfold ifM; rw [h1, Rs.ok_bind]; exact h2
theorem e_nilA : nilA ρ = .ok ([], ρ) := rfl
theorem e_consA (h1 : a ρ = .ok (x, ρ1)) (h2 : al ρ1 = .ok (xs, ρ2)) : consA a al ρ = .ok (x :: xs, ρ2) := by
  unfold consA; rw [h1, Rs.ok_bind]; dsimp only; rw [h2]; rfl
theorem e_tupM (h1 : al ρ = .ok (xs, ρ1)) (h2 : xs.length ≤ sizeLine := by exact small_sz rfl) : tupM al ρ = .ok (.tup xs, ρ1) := by
  unfold tupM; rw [h1, Rs.ok_bind]; exact if_pos h2
theorem e_lstM (h1 : al ρ = .ok (xs, ρ1)) (h2 : xs.length ≤ sizeLine := by exact small_sz rfl) : lstM al ρ = .ok (.lst xs, ρ1) := by
  unfold lstM; rw [h1, Rs.ok_bind]; exact if_pos h2
theorem e_dispF (h1 : al ρ = .ok (xs, ρ1)) (h2 : xs.length ≤ sizeLine := by exact small_sz rfl) : dispF al ρ = .ok (xs, ρ1) := by
  unfold dispF; rw [h1, Rs.ok_bind]; exact if_pos h2
theorem e_cbM {f : List Val → Option Val} (h1 : al ρ = .ok (xs, ρ1)) (h2 : f xs = some z) : cbM f al ρ = .ok (z, ρ1) := by
  unfold cbM; rw [h1, Rs.ok_bind]; dsimp only; rw [h2]; rfl
theorem e_cfM {f : List Val → Option (List Val)} (h1 : al ρ = .ok (xs, ρ1)) (h2 : f xs = some ys) : cfM f al ρ = .ok (ys, ρ1) := by
  unfold cfM; rw [h1, Rs.ok_bind]; dsimp only; rw [h2]; rfl
theorem e_listM {mf : ML} (h1 : mf ρ = .ok (xs, ρ1)) : listM mf ρ = .ok (.lst xs, ρ1) := by unfold listM; rw [h1]; rfl
theorem e_walkM {f : Val → Option (List Val)} (h1 : a ρ = .ok (x, ρ1)) (h2 : f x = some xs) : walkM f a ρ = .ok (xs, ρ1) := by
  unfold walkM; rw [h1, Rs.ok_bind]; dsimp only; rw [h2]; rfl
theorem e_pickM {n : Nat} {is : List Nat} (h1 : al ρ = .ok (xs, ρ1)) (h2 : xs.length = n) : pickM n is al ρ = .ok (pick is xs, ρ1) := by
  unfold pickM; rw [h1, Rs.ok_bind]; exact if_pos h2
theorem e_compF {vs : List Nat} {mi : MI} {tg : MT} {cc : MB} {e : ME} (h1 : mi ρ = .ok (xs, ρ1)) (h2 : xs.length < sizeLine) (h3 : vs.all (freeS ρ1) = true) (h4 : compL vs tg cc e xs (wipeE ρ1 vs) = .ok (ys, ρ2)) : compF vs mi tg cc e ρ = .ok (ys, ρ2) := by
  unfold compF; rw [h1, Rs.ok_bind]; dsimp only; rw [if_pos ⟨h2, h3⟩]; exact h4
/-! statements -/
theorem e_seq (h1 : s ρ = .ok (.nx ρ1)) (h2 : t ρ1 = R) : seqS s t ρ = R := by unfold seqS; rw [h1]; exact h2
theorem e_seqR (h1 : s ρ = .ok (.rt x ρ1)) : seqS s t ρ = .ok (.rt x ρ1) := by unfold seqS; rw [h1]; rfl
theorem e_seqX {cl : Nat} {ns : List Str} (h1 : s ρ = .exc cl ns xs ρ1) : seqS s t ρ = .exc cl ns xs ρ1 := by unfold seqS; rw [h1]; rfl
theorem e_if (h1 : c ρ = .ok (k, ρ1)) (h2 : (if k = true then s ρ1 else t ρ1) = R) : ifS c s t ρ = R := by unfold ifS; rw [h1]; exact h2
theorem e_ifT (h1 : c ρ = .ok (k, ρ1)) (hk : k = true) (h2 : s ρ1 = R) : ifS c s t ρ = R := e_if h1 (by rw [if_pos hk]; exact h2)
theorem e_ifF (h1 : c ρ = .ok (k, ρ1)) (hk : k = false) (h2 : t ρ1 = R) : ifS c s t ρ = R := e_if h1 (by rw [if_neg (by rw [hk]; exact fun z => nomatch z)]; exact h2)
theorem e_next : nextS ρ = .ok (.nx ρ) := rfl
theorem e_asg (h1 : m ρ = .ok (x, ρ1)) (h2 : freeS ρ1 i = true) : asgS i m ρ = .ok (.nx (ρ1.set i (some (.fz x)))) := by
  unfold asgS; rw [h1, Rs.ok_bind]; exact if_pos h2
theorem e_ret (h1 : m ρ = .ok (x, ρ1)) : retS m ρ = .ok (.rt x ρ1) := by unfold retS; rw [h1]; rfl
theorem e_drop (h1 : m ρ = .ok (x, ρ1)) : dropS m ρ = .ok (.nx ρ1) := by unfold dropS; rw [h1]; rfl
theorem e_dropX {cl : Nat} {ns : List Str} (h1 : m ρ = .exc cl ns xs ρ1) : dropS m ρ = .exc cl ns xs ρ1 := by unfold dropS; rw [h1]; rfl
theorem e_raise {cl : Nat} {ns : List Str} (h1 : al ρ = .ok (xs, ρ1)) (h2 : xs.length = ns.length) : raiseS cl ns al ρ = .exc cl ns xs ρ1 := by
  unfold raiseS; rw [h1, Rs.ok_bind]; exact if_pos h2
theorem e_new {mf : ML} (h1 : mf ρ = .ok (xs, ρ1)) (h2 : freeS ρ1 i = true) : newS i mf ρ = .ok (.nx (ρ1.set i (some (.ow false xs)))) := by
  unfold newS; rw [h1, Rs.ok_bind]; exact if_pos h2
theorem e_par {i j : Nat} {u v : Val} (h1 : al ρ = .ok ([u, v], ρ1)) (h2 : freeS ρ1 i = true ∧ freeS (ρ1.set i (some (.fz u))) j = true) : parS i j al ρ = .ok (.nx ((ρ1.set i (some (.fz u))).set j (some (.fz v)))) := by
  unfold parS; rw [h1, Rs.ok_bind]; exact if_pos h2
theorem e_asgT {tg : MT} (h1 : m ρ = .ok (x, ρ1)) (h2 : tg x ρ1 = some ρ2) : asgT tg m ρ = .ok (.nx ρ2) := by
  unfold asgT; rw [h1, Rs.ok_bind]; dsimp only; rw [h2]; rfl
theorem e_ixO {p : Bool} {us us' : List Val} {p' : Bool} {j : Int} (h0 : ρ[i]? = some (some (.ow p us))) (h1 : m ρ = .ok (.int j, ρ1)) (h2 : ρ1[i]? = some (some (.ow p' us'))) (h3 : atI us' j = some z) : ixO i m ρ = .ok (z, ρ1) := by
  unfold ixO; rw [h0]; dsimp only; rw [h1, Rs.ok_bind]; dsimp only; rw [h2]; dsimp only; rw [h3]; rfl
theorem e_setS {mk : ME} {p p' : Bool} {us us' : List Val} {j : Int} {n : Nat} (h1 : m ρ = .ok (x, ρ1)) (h2 : ρ1[i]? = some (some (.ow p us))) (h3 : mk ρ1 = .ok (.int j, ρ2)) (h4 : ρ2[i]? = some (some (.ow p' us'))) (h5 : ixN us'.length j = some n) : setS i mk m ρ = .ok (.nx (ρ2.set i (some (.ow p' (us'.set n x))))) := by
  unfold setS; rw [h1, Rs.ok_bind]; dsimp only; rw [h2]; dsimp only; rw [h3, Rs.ok_bind]; dsimp only; rw [h4]; dsimp only; rw [h5]
theorem e_app {p p' : Bool} {us us' : List Val} (h0 : ρ[i]? = some (some (.ow p us))) (h1 : m ρ = .ok (x, ρ1)) (h2 : ρ1[i]? = some (some (.ow p' us'))) (h3 : us'.length < sizeLine := by exact small_lt rfl) : appS i m ρ = .ok (.nx (ρ1.set i (some (.ow p' (us' ++ [x]))))) := by
  unfold appS; rw [h0]; dsimp only; rw [h1, Rs.ok_bind]; dsimp only; rw [h2]; exact if_pos h3
theorem e_melt (h0 : ρ[i]? = some (some (.ow false xs))) (h : s (ρ.set i (some (.fz (.lst xs)))) = R) : meltS i s ρ = R := by
  unfold meltS; rw [h0]; exact h
/-! calls -/
theorem e_callM {np n : Nat} {body : MS} (h : al ρ = .ok (xs, ρ1)) (h2 : runV n body xs = .ok x) (hl : xs.length = np := by rfl) (hn : np ≤ n := by decide) : callM np n body al ρ = .ok (x, ρ1) := by
  rw [callM_eq h hl hn, h2]; rfl
theorem e_callX {np n cl : Nat} {ns : List Str} {body : MS} {ρ0 : En} (h : al ρ = .ok (xs, ρ1)) (h2 : runV n body xs = .exc cl ns ys ρ0) (hl : xs.length = np := by rfl) (hn : np ≤ n := by decide) : callM np n body al ρ = .exc cl ns ys ρ1 := by
  rw [callM_eq h hl hn, h2]; rfl
theorem e_hearX {cl : Nat} {f : Str} (h : m ρ = .exc cl [f] [x] ρ1) : hearM cl f m ρ = .ok (x, ρ1) := by
  unfold hearM; rw [h]; exact if_pos ⟨rfl, rfl⟩
theorem e_hearN {cl : Nat} {f : Str} (h : m ρ = .ok (x, ρ1)) : hearM cl f m ρ = .ok (.non, ρ1) := by unfold hearM; rw [h]
theorem e_run {n : Nat} {body : MS} (h : body (padE (xs.map fun x => some (.fz x)) n) = .ok (.rt x ρ1)) : runV n body xs = .ok x := by
  unfold runV runF finM; rw [h]; rfl
theorem e_runN {n : Nat} {body : MS} (h : body (padE (xs.map fun x => some (.fz x)) n) = .ok (.nx ρ1)) : runV n body xs = .ok .non := by
  unfold runV runF finM; rw [h]; rfl
theorem e_runX {n cl : Nat} {ns : List Str} {body : MS} (h : body (padE (xs.map fun x => some (.fz x)) n) = .exc cl ns ys ρ1) : runV n body xs = .exc cl ns ys [] := by
  unfold runV runF finM; rw [h]; rfl
theorem e_runO {n : Nat} {body : MS} {s0 s1 : SV} (h : body (padE (some (s0.setPin true) :: xs.map fun x => some (.fz x)) n) = .ok (.rt x ρ1)) (h2 : ρ1[0]? = some (some s1)) : runO n body s0 xs = .ok (x, s1.setPin s0.pin) := by
  unfold runO finM; rw [h, Rs.ok_bind]; dsimp only; rw [h2]
theorem e_callO {np n : Nat} {body : MS} {s0 s1 s2 : SV} (h0 : ρ[i]? = some (some s0)) (o0 : s0.own = true) (h1 : al ρ = .ok (xs, ρ1)) (h2 : ρ1[i]? = some (some s1)) (o1 : s1.own = true) (hr : runO n body s1 xs = .ok (x, s2)) (hl : xs.length + 1 = np := by rfl) (hn : np ≤ n := by decide) : callO i np n body al ρ = .ok (x, ρ1.set i (some s2)) := by
  unfold callO; rw [h0]; dsimp only; rw [if_pos o0, h1, Rs.ok_bind]; dsimp only; rw [h2]; dsimp only; rw [if_pos ⟨o1, hl, hn⟩, hr]
theorem e_forS {mi : MI} {tg : MT} (h1 : mi ρ = .ok (xs, ρ1)) (h2 : forL tg s xs ρ1 = R) : forS mi tg s ρ = R := by unfold forS; rw [h1]; exact h2
theorem e_forL_nil {tg : MT} : forL tg s [] ρ = .ok (.nx ρ) := rfl
theorem e_forL {tg : MT} (h1 : tg x ρ = some ρ1) (h2 : s ρ1 = .ok (.nx ρ2)) (h3 : forL tg s xs ρ2 = R) : forL tg s (x :: xs) ρ = R := by
  unfold forL; rw [h1, Rs.opt_some, Rs.ok_bind, h2]; exact h3
end
theorem e_as {α : Type} {r : Rs α} {v w : α} (h : r = .ok v) (e : v = w) : r = .ok w := by rw [h, e]
/-! values -/
theorem addV_int (i j : Int) : addV (.int i) (.int j) = some (.int (i + j)) := rfl
theorem subV_int (i j : Int) : subV (.int i) (.int j) = some (.int (i - j)) := rfl
theorem mulV_int {i j : Int} (hi : i.natAbs < 2 ^ 4000) (hj : j.natAbs < 2 ^ 4000) : mulV (.int i) (.int j) = some (.int (i * j)) := by
  have h1 := PySem.Flt.log2_lt_of (n := i.natAbs) (k := 4000) (by decide) hi
  have h2 := PySem.Flt.log2_lt_of (n := j.natAbs) (k := 4000) (by decide) hj
  exact if_pos (by omega)
theorem mulV_big {i j : Int} (hi : i.natAbs < 2 ^ 64) (hj : j.natAbs.log2 < 100000000) : mulV (.int i) (.int j) = some (.int (i * j)) := by
  have h1 := PySem.Flt.log2_lt_of (n := i.natAbs) (k := 64) (by decide) hi
  exact if_pos (by omega)
theorem divV_pos {i j : Int} (h : 0 < j) (hj : j.natAbs < 2 ^ 4000) : divV (.int i) (.int j) = some (.int (i / j)) := if_pos ⟨h, by have := PySem.Flt.log2_lt_of (n := j.natAbs) (k := 4000) (by decide) hj; omega⟩
theorem divV_neg {i j : Int} (h : j < 0) (hj : j.natAbs < 2 ^ 4000) : divV (.int i) (.int j) = some (.int (i.fdiv j)) := by
  unfold divV
  dsimp only
  rw [if_neg (by omega), if_pos ⟨h, by have := PySem.Flt.log2_lt_of (n := j.natAbs) (k := 4000) (by decide) hj; omega⟩]
theorem modV_pos {i j : Int} (h : 0 < j) : modV (.int i) (.int j) = some (.int (i % j)) := if_pos h
theorem shp_int (i : Int) : SeqAt.shaped (.int i) = true := by simp [SeqAt.shaped, PyData.canLay0, PyData.depth]
theorem eqV_int (i j : Int) : eqV (.int i) (.int j) = some (.bl (decide (i = j))) := by
  unfold eqV dat
  dsimp only
  rw [if_pos ⟨shp_int i, shp_int j⟩]
  simp only [PyData.eqv]
  by_cases h : i = j <;> simp [h]
theorem neV_int (i j : Int) : neV (.int i) (.int j) = some (.bl (!decide (i = j))) := by
  unfold neV dat
  dsimp only
  rw [if_pos ⟨shp_int i, shp_int j⟩]
  simp only [PyData.eqv]
  by_cases h : i = j <;> simp [h]
theorem shp_tup2 (i j : Int) : SeqAt.shaped (.tuple [.int i, .int j]) = true := by simp [SeqAt.shaped, PyData.canLay0, PyData.canLayAll0, PyData.depth, PyData.depthAll]
theorem eqV_tup2 (i j k l : Int) : eqV (.tup [.int i, .int j]) (.tup [.int k, .int l]) = some (.bl (decide (i = k) && decide (j = l))) := by
  simp only [eqV, dat, dats, Option.map_some]
  rw [if_pos ⟨shp_tup2 i j, shp_tup2 k l⟩]
  simp only [PyData.eqv, PyData.eqvAll, Bool.and_true]
  by_cases h : i = k <;> by_cases h2 : j = l <;> simp [h, h2]
theorem neV_tup2 (i j k l : Int) : neV (.tup [.int i, .int j]) (.tup [.int k, .int l]) = some (.bl (!(decide (i = k) && decide (j = l)))) := by
  simp only [neV, dat, dats, Option.map_some]
  rw [if_pos ⟨shp_tup2 i j, shp_tup2 k l⟩]
  simp only [PyData.eqv, PyData.eqvAll, Bool.and_true]
  by_cases h : i = k <;> by_cases h2 : j = l <;> simp [h, h2]
theorem eqV_nil : eqV (.lst []) (.lst []) = some (.bl true) := by
  simp [eqV, dat, dats, PyData.eqv, PyData.eqvAll, SeqAt.shaped, PyData.canLay0, PyData.canLayAll0, PyData.depth, PyData.depthAll]
theorem neV_nil : neV (.lst []) (.lst []) = some (.bl false) := by
  simp [neV, dat, dats, PyData.eqv, PyData.eqvAll, SeqAt.shaped, PyData.canLay0, PyData.canLayAll0, PyData.depth, PyData.depthAll]
end Y

set_option autoImplicit false
/-! arithmetic of fractions -/
namespace Y
def lg (a b : Int) : Int := ((Nat.gcd a.natAbs b.natAbs : Nat) : Int)
def low (a b : Int) : Int × Int := if 0 < b then (a / lg a b, b / lg a b) else (a.fdiv (-lg a b), b.fdiv (-lg a b))
def Fr (n d : Int) : Prop := 1 ≤ d ∧ Nat.gcd n.natAbs d.natAbs = 1
theorem lg_pos {a b : Int} (h : b ≠ 0) : 0 < lg a b := by
  have : 0 < Nat.gcd a.natAbs b.natAbs := Nat.gcd_pos_of_pos_right _ (by omega)
  unfold lg; omega
theorem lg_parts {a b : Int} (h : b ≠ 0) : ∃ a' b', a = lg a b * a' ∧ b = lg a b * b' ∧ Nat.gcd a'.natAbs b'.natAbs = 1 := by
  have g0 := lg_pos (a := a) h
  have d1 : lg a b ∣ a := Int.ofNat_dvd_left.mpr (Nat.gcd_dvd_left _ _)
  have d2 : lg a b ∣ b := Int.ofNat_dvd_left.mpr (Nat.gcd_dvd_right _ _)
  obtain ⟨a', ha⟩ := d1
  obtain ⟨b', hb⟩ := d2
  refine ⟨a', b', ha, hb, ?_⟩
  have e1 : a.natAbs = (lg a b).natAbs * a'.natAbs := by rw [← Int.natAbs_mul, ← ha]
  have e2 : b.natAbs = (lg a b).natAbs * b'.natAbs := by rw [← Int.natAbs_mul, ← hb]
  have e3 : (lg a b).natAbs = Nat.gcd a.natAbs b.natAbs := by unfold lg; exact Int.natAbs_natCast _
  have e4 : Nat.gcd a.natAbs b.natAbs = (lg a b).natAbs * Nat.gcd a'.natAbs b'.natAbs := by
    conv => lhs; rw [e1, e2]
    exact Nat.gcd_mul_left _ _ _
  rw [← e3] at e4
  have p : 0 < (lg a b).natAbs := by omega
  exact Nat.eq_of_mul_eq_mul_left p (by rw [Nat.mul_one]; exact e4.symm)
theorem low_spec {a b : Int} (h : b ≠ 0) : Fr (low a b).1 (low a b).2 ∧ (low a b).1 * b = a * (low a b).2 := by
  have g0 := lg_pos (a := a) h
  obtain ⟨a', b', ha, hb, hg⟩ := lg_parts (a := a) h
  have e : low a b = if 0 < b then (a', b') else (-a', -b') := by
    unfold low
    split
    · congr 1
      · exact Int.ediv_eq_of_eq_mul_right (by omega) ha
      · exact Int.ediv_eq_of_eq_mul_right (by omega) hb
    · have q : ∀ x x' : Int, x = lg a b * x' → x.fdiv (-lg a b) = -x' := fun x x' hx => by
        rw [show x = (-lg a b) * (-x') by rw [Int.neg_mul_neg]; exact hx]
        exact Int.mul_fdiv_cancel_left _ (by omega)
      congr 1
      · exact q _ _ ha
      · exact q _ _ hb
  have hs : (0 < b → 0 < b') ∧ (b < 0 → b' < 0) := by
    constructor
    · intro hp
      rcases Int.lt_trichotomy 0 b' with z | z | z
      · exact z
      · rw [← z] at hb; omega
      · have := Int.mul_neg_of_pos_of_neg g0 z; omega
    · intro hp
      rcases Int.lt_trichotomy 0 b' with z | z | z
      · have := Int.mul_pos g0 z; omega
      · rw [← z] at hb; omega
      · exact z
  rw [e]
  have cr : a' * b = a * b' := by
    generalize lg a b = g at ha hb
    subst ha hb
    grind
  split
  · rename_i hp
    exact ⟨⟨by have := hs.1 hp; show 1 ≤ b'; omega, hg⟩, cr⟩
  · rename_i hp
    refine ⟨⟨by have := hs.2 (by omega); show 1 ≤ -b'; omega, by simpa using hg⟩, ?_⟩
    show -a' * b = a * -b'
    grind
theorem fr_uniq {n d m e : Int} (h : Fr n d) (k : Fr m e) (c : n * e = m * d) : n = m ∧ d = e := by
  obtain ⟨h1, h2⟩ := h
  obtain ⟨k1, k2⟩ := k
  have c' : n.natAbs * e.natAbs = m.natAbs * d.natAbs := by rw [← Int.natAbs_mul, c, Int.natAbs_mul]
  have d1 : d.natAbs ∣ e.natAbs := by
    have : d.natAbs ∣ n.natAbs * e.natAbs := ⟨m.natAbs, by rw [c', Nat.mul_comm]⟩
    exact Nat.Coprime.dvd_of_dvd_mul_left (Nat.Coprime.symm h2) this
  have d2 : e.natAbs ∣ d.natAbs := by
    have : e.natAbs ∣ m.natAbs * d.natAbs := ⟨n.natAbs, by rw [← c', Nat.mul_comm]⟩
    exact Nat.Coprime.dvd_of_dvd_mul_left (Nat.Coprime.symm k2) this
  have de : d.natAbs = e.natAbs := Nat.dvd_antisymm d1 d2
  have de' : d = e := by omega
  subst de'
  exact ⟨Int.eq_of_mul_eq_mul_right (by omega) c, rfl⟩
theorem low_is {a b n d : Int} (h : b ≠ 0) (f : Fr n d) (c : n * b = a * d) : low a b = (n, d) := by
  obtain ⟨f1, c1⟩ := low_spec (a := a) h
  have : (low a b).1 * d = n * (low a b).2 := by
    apply Int.eq_of_mul_eq_mul_right h
    grind
  obtain ⟨e1, e2⟩ := fr_uniq f1 f this
  exact Prod.ext e1 e2
theorem fr_no {n d p : Int} (h : Fr n d) (h2 : 2 ≤ p) : ¬ (n % p = 0 ∧ d % p = 0) := fun ⟨e1, e2⟩ => by
  have d1 := Int.dvd_of_emod_eq_zero e1
  have d2 := Int.dvd_of_emod_eq_zero e2
  have := Nat.dvd_gcd (Int.natAbs_dvd_natAbs.mpr d1) (Int.natAbs_dvd_natAbs.mpr d2)
  rw [h.2] at this
  have := Nat.le_of_dvd (by decide) this
  omega
theorem fr_zero {d : Int} (h : Fr 0 d) : d = 1 := by
  have := h.2
  have h1 := h.1
  simp at this
  omega
theorem low_le {a b : Int} (h : b ≠ 0) : (low a b).1.natAbs ≤ a.natAbs ∧ (low a b).2.natAbs ≤ b.natAbs := by
  obtain ⟨⟨f1, f2⟩, c⟩ := low_spec (a := a) h
  generalize (low a b).1 = n at *
  generalize (low a b).2 = d at *
  have c' : n.natAbs * b.natAbs = a.natAbs * d.natAbs := by rw [← Int.natAbs_mul, c, Int.natAbs_mul]
  constructor
  · by_cases ha : a = 0
    · subst ha
      rw [Int.zero_mul] at c
      rcases Int.mul_eq_zero.mp c with z | z
      · simp [z]
      · exact absurd z h
    · have : n.natAbs ∣ a.natAbs * d.natAbs := ⟨b.natAbs, c'.symm⟩
      exact Nat.le_of_dvd (by omega) (Nat.Coprime.dvd_of_dvd_mul_right (show Nat.Coprime n.natAbs d.natAbs from f2) this)
  · have : d.natAbs ∣ n.natAbs * b.natAbs := ⟨a.natAbs, by rw [c', Nat.mul_comm]⟩
    exact Nat.le_of_dvd (by omega) (Nat.Coprime.dvd_of_dvd_mul_left (Nat.Coprime.symm f2) this)
def Bd (k : Nat) (x : Int) : Prop := x.natAbs < 2 ^ k
theorem Bd.mul {k l m : Nat} {x y : Int} (h : Bd k x) (h2 : Bd l y) (e : k + l ≤ m := by decide) : Bd m (x * y) := by
  unfold Bd at *
  rw [Int.natAbs_mul]
  exact Nat.lt_of_lt_of_le (Nat.mul_lt_mul'' h h2) (by rw [← Nat.pow_add]; exact Nat.pow_le_pow_right (by decide) e)
theorem Bd.mono {k m : Nat} {x : Int} (h : Bd k x) (e : k ≤ m := by decide) : Bd m x := Nat.lt_of_lt_of_le h (Nat.pow_le_pow_right (by decide) e)
theorem Bd.add {k m : Nat} {x y : Int} (h : Bd k x) (h2 : Bd k y) (e : k + 1 ≤ m := by decide) : Bd m (x + y) := by
  refine Nat.lt_of_lt_of_le (show (x + y).natAbs < 2 ^ (k + 1) from ?_) (Nat.pow_le_pow_right (by decide) e)
  have a : x.natAbs < 2 ^ k := h
  have b : y.natAbs < 2 ^ k := h2
  rw [Nat.pow_succ]; omega
theorem Bd.sub {k m : Nat} {x y : Int} (h : Bd k x) (h2 : Bd k y) (e : k + 1 ≤ m := by decide) : Bd m (x - y) := by
  refine Nat.lt_of_lt_of_le (show (x - y).natAbs < 2 ^ (k + 1) from ?_) (Nat.pow_le_pow_right (by decide) e)
  have a : x.natAbs < 2 ^ k := h
  have b : y.natAbs < 2 ^ k := h2
  rw [Nat.pow_succ]; omega
theorem Bd.low {a b : Int} {k l : Nat} (h : b ≠ 0) (ha : Bd k a) (hb : Bd l b) : Bd k (low a b).1 ∧ Bd l (low a b).2 := ⟨Nat.lt_of_le_of_lt (low_le h).1 ha, Nat.lt_of_le_of_lt (low_le h).2 hb⟩
end Y

set_option Elab.async false
set_option linter.all false
set_option maxRecDepth 100000
set_option maxHeartbeats 4000000
set_option autoImplicit false
namespace Y
open PySem PySem.Spec PyProof.Rows L2 Z
def isI : Val → Bool | .int _ => true | _ => false
def plain : Val → Bool | .non => true | .bl _ => true | .int _ => true | .str _ => true | .lst _ => true | .tup _ => true | .dic _ _ => true | _ => false
theorem v_is_integer {v : Val} (h : plain v = true) : runV 1 b_is_integer [v] = .ok (.bl (isI v)) := by
  cases v <;> first | rfl | cases h
theorem v_num2 (a b : Int) : runV 2 b_are_numbers [.tup [.int a, .int b]] = .ok (.bl true) := rfl
theorem v_num2l (a b : Int) : runV 2 b_are_numbers [.lst [.int a, .int b]] = .ok (.bl true) := rfl
/-- top, bottom in lowest terms -/
def isFr (a b : Int) : Bool := decide (1 ≤ b) && decide (((Nat.gcd a.natAbs b.natAbs : Nat) : Int) = 1)
theorem isFr_iff {a b : Int} : isFr a b = true ↔ Fr a b := by
  unfold isFr Fr
  rw [Bool.and_eq_true, decide_eq_true_iff, decide_eq_true_iff]
  omega
theorem v_is_fraction (a b : Int) : runV 1 b_is_fraction [.tup [.int a, .int b]] = .ok (.bl (isFr a b)) :=
  e_as (e_run (e_ret (e_andM (e_callM (e_consA (e_var rfl) e_nilA) (v_num2 a b)) fun _ => e_andM (e_bin (e_cbM (e_consA (e_var rfl) e_nilA) rfl) e_cst (eqV_int _ _)) fun _ => e_andM (e_bin (e_bin (e_var rfl) e_cst rfl) e_cst rfl) fun _ => e_bin (e_cbM (e_consA (e_bin (e_var rfl) e_cst rfl) (e_consA (e_bin (e_var rfl) e_cst rfl) e_nilA)) rfl) e_cst (eqV_int _ _)))) (by simp [isFr])
theorem v_is_fractionL (a b : Int) : runV 1 b_is_fraction [.lst [.int a, .int b]] = .ok (.bl (isFr a b)) :=
  e_as (e_run (e_ret (e_andM (e_callM (e_consA (e_var rfl) e_nilA) (v_num2l a b)) fun _ => e_andM (e_bin (e_cbM (e_consA (e_var rfl) e_nilA) rfl) e_cst (eqV_int _ _)) fun _ => e_andM (e_bin (e_bin (e_var rfl) e_cst rfl) e_cst rfl) fun _ => e_bin (e_cbM (e_consA (e_bin (e_var rfl) e_cst rfl) (e_consA (e_bin (e_var rfl) e_cst rfl) e_nilA)) rfl) e_cst (eqV_int _ _)))) (by simp [isFr])
/-- a fraction, as a tuple or a list -/
def FrV (x : Val) (a b : Int) : Prop := x = .tup [.int a, .int b] ∨ x = .lst [.int a, .int b]
theorem FrV.ix0 {x : Val} {a b : Int} (h : FrV x a b) : ixV x (.int 0) = some (.int a) := by rcases h with rfl | rfl <;> rfl
theorem FrV.ix1 {x : Val} {a b : Int} (h : FrV x a b) : ixV x (.int 1) = some (.int b) := by rcases h with rfl | rfl <;> rfl
theorem FrV.is {x : Val} {a b : Int} (h : FrV x a b) (f : Fr a b) : runV 1 b_is_fraction [x] = .ok (.bl true) := by
  have := isFr_iff.mpr f
  rcases h with rfl | rfl
  · rw [v_is_fraction, this]
  · rw [v_is_fractionL, this]
theorem v_need {a b c d : Int} {x y : Val} (hx : FrV x a b) (hy : FrV y c d) (h1 : Fr a b) (h2 : Fr c d) : runV 2 b__need_fractions [x, y] = .ok .non :=
  e_runN (e_seq (e_ifF (e_notB (e_tst (e_callM (e_consA (e_var rfl) e_nilA) (hx.is h1)) rfl)) rfl e_next) (e_ifF (e_notB (e_tst (e_callM (e_consA (e_var rfl) e_nilA) (hy.is h2)) rfl)) rfl e_next))
theorem v_need1 {x y : Val} (h : runV 1 b_is_fraction [x] = .ok (.bl false)) : runV 2 b__need_fractions [x, y] = .exc 1 ["part"] [.str "one"] [] :=
  e_runX (e_seqX (e_ifT (e_notB (e_tst (e_callM (e_consA (e_var rfl) e_nilA) h) rfl)) rfl (e_raise (e_consA e_cst e_nilA) rfl)))
theorem v_need2 {x y : Val} (h1 : runV 1 b_is_fraction [x] = .ok (.bl true)) (h : runV 1 b_is_fraction [y] = .ok (.bl false)) : runV 2 b__need_fractions [x, y] = .exc 1 ["part"] [.str "other"] [] :=
  e_runX (e_seq (e_ifF (e_notB (e_tst (e_callM (e_consA (e_var rfl) e_nilA) h1) rfl)) rfl e_next) (e_ifT (e_notB (e_tst (e_callM (e_consA (e_var rfl) e_nilA) h) rfl)) rfl (e_raise (e_consA e_cst e_nilA) rfl)))
theorem gcdV_int (a b : Int) : gcdV (.int a) (.int b) = some (.int (lg a b)) := rfl
theorem lg_le {a b : Int} (h : b ≠ 0) : (lg a b).natAbs ≤ b.natAbs := by
  have := Nat.gcd_le_right (n := b.natAbs) a.natAbs (by omega)
  unfold lg; omega
theorem v_lowest {a b : Int} (h : b ≠ 0) (hb : b.natAbs < 2 ^ 4000) : runV 3 b_lowest [.int a, .int b] = .ok (.tup [.int (low a b).1, .int (low a b).2]) := by
  have g0 := lg_pos (a := a) h
  have gb : (lg a b).natAbs < 2 ^ 4000 := Nat.lt_of_le_of_lt (lg_le h) hb
  by_cases hp : 0 < b
  · have e : low a b = (a / lg a b, b / lg a b) := if_pos hp
    rw [e]
    exact e_run (e_seq (e_ifF (e_notB (e_tst (e_callM (e_consA (e_var rfl) e_nilA) (v_is_integer rfl)) rfl)) rfl e_next) (e_seq (e_ifF (e_orB (e_notB (e_tst (e_callM (e_consA (e_var rfl) e_nilA) (v_is_integer rfl)) rfl)) fun _ => e_tst (e_bin (e_var rfl) e_cst (eqV_int _ _)) rfl) (by simp [isI, h]) e_next)
      (e_seq (e_asg (e_ifM (e_tst (e_bin (e_var rfl) e_cst rfl) rfl) (by rw [if_pos (by simpa using hp)]; exact e_cbM (e_consA (e_var rfl) (e_consA (e_var rfl) e_nilA)) (gcdV_int a b))) rfl)
        (e_ret (e_tupM (e_consA (e_bin (e_var rfl) (e_var rfl) (divV_pos g0 gb)) (e_consA (e_bin (e_var rfl) (e_var rfl) (divV_pos g0 gb)) e_nilA)))))))
  · have e : low a b = (a.fdiv (-lg a b), b.fdiv (-lg a b)) := if_neg hp
    rw [e]
    exact e_run (e_seq (e_ifF (e_notB (e_tst (e_callM (e_consA (e_var rfl) e_nilA) (v_is_integer rfl)) rfl)) rfl e_next) (e_seq (e_ifF (e_orB (e_notB (e_tst (e_callM (e_consA (e_var rfl) e_nilA) (v_is_integer rfl)) rfl)) fun _ => e_tst (e_bin (e_var rfl) e_cst (eqV_int _ _)) rfl) (by simp [isI, h]) e_next)
      (e_seq (e_asg (e_ifM (e_tst (e_bin (e_var rfl) e_cst rfl) rfl) (by rw [if_neg (by simpa using hp)]; exact e_un (e_cbM (e_consA (e_var rfl) (e_consA (e_var rfl) e_nilA)) (gcdV_int a b)) rfl)) rfl)
        (e_ret (e_tupM (e_consA (e_bin (e_var rfl) (e_var rfl) (divV_neg (by omega) (by omega))) (e_consA (e_bin (e_var rfl) (e_var rfl) (divV_neg (by omega) (by omega))) e_nilA)))))))
theorem v_lowestT {v y : Val} (h : runV 1 b_is_integer [v] = .ok (.bl false)) : runV 3 b_lowest [v, y] = .exc 1 ["part"] [.str "top"] [] :=
  e_runX (e_seqX (e_ifT (e_notB (e_tst (e_callM (e_consA (e_var rfl) e_nilA) h) rfl)) rfl (e_raise (e_consA e_cst e_nilA) rfl)))
theorem v_lowestB {x v : Val} (h1 : runV 1 b_is_integer [x] = .ok (.bl true)) (h : runV 1 b_is_integer [v] = .ok (.bl false)) : runV 3 b_lowest [x, v] = .exc 1 ["part"] [.str "bottom"] [] :=
  e_runX (e_seq (e_ifF (e_notB (e_tst (e_callM (e_consA (e_var rfl) e_nilA) h1) rfl)) rfl e_next) (e_seqX (e_ifT (e_orB (l := true) (e_notB (e_tst (e_callM (e_consA (e_var rfl) e_nilA) h) rfl)) (fun z => nomatch z)) rfl (e_raise (e_consA e_cst e_nilA) rfl))))
theorem v_lowest0 {x : Val} (h1 : runV 1 b_is_integer [x] = .ok (.bl true)) : runV 3 b_lowest [x, .int 0] = .exc 1 ["part"] [.str "bottom"] [] :=
  e_runX (e_seq (e_ifF (e_notB (e_tst (e_callM (e_consA (e_var rfl) e_nilA) h1) rfl)) rfl e_next) (e_seqX (e_ifT (e_orB (e_notB (e_tst (e_callM (e_consA (e_var rfl) e_nilA) (v_is_integer rfl)) rfl)) fun _ => e_tst (e_bin (e_var rfl) e_cst (eqV_int _ _)) rfl) rfl (e_raise (e_consA e_cst e_nilA) rfl))))
/-- a fraction's value -/
def fV (p : Int × Int) : Val := .tup [.int p.1, .int p.2]
theorem FrV.fV (p : Int × Int) : FrV (fV p) p.1 p.2 := .inl rfl
theorem Bd.big {k : Nat} {x : Int} (h : Bd k x) (e : k ≤ 4000 := by decide) : x.natAbs < 2 ^ 4000 := h.mono e
section
variable {a b c d : Int} {x y : Val}
theorem v_plus (hx : FrV x a b) (hy : FrV y c d) (h1 : Fr a b) (h2 : Fr c d) (ba : Bd 1000 a) (bb : Bd 1000 b) (bc : Bd 1000 c) (bd : Bd 1000 d) : runV 2 b_plus [x, y] = .ok (fV (low (a * d + c * b) (b * d))) :=
  e_run (e_seq (e_drop (e_callM (e_consA (e_var rfl) (e_consA (e_var rfl) e_nilA)) (v_need hx hy h1 h2))) (e_ret (e_callM (e_consA (e_bin (e_bin (e_bin (e_var rfl) e_cst hx.ix0) (e_bin (e_var rfl) e_cst hy.ix1) (mulV_int ba.big bd.big)) (e_bin (e_bin (e_var rfl) e_cst hy.ix0) (e_bin (e_var rfl) e_cst hx.ix1) (mulV_int bc.big bb.big)) (addV_int _ _)) (e_consA (e_bin (e_bin (e_var rfl) e_cst hx.ix1) (e_bin (e_var rfl) e_cst hy.ix1) (mulV_int bb.big bd.big)) e_nilA))
    (v_lowest (Int.mul_ne_zero (by have := h1.1; omega) (by have := h2.1; omega)) (bb.mul (m := 2000) bd).big))))
theorem v_less (hx : FrV x a b) (hy : FrV y c d) (h1 : Fr a b) (h2 : Fr c d) (ba : Bd 1000 a) (bb : Bd 1000 b) (bc : Bd 1000 c) (bd : Bd 1000 d) : runV 2 b_less [x, y] = .ok (fV (low (a * d - c * b) (b * d))) :=
  e_run (e_seq (e_drop (e_callM (e_consA (e_var rfl) (e_consA (e_var rfl) e_nilA)) (v_need hx hy h1 h2))) (e_ret (e_callM (e_consA (e_bin (e_bin (e_bin (e_var rfl) e_cst hx.ix0) (e_bin (e_var rfl) e_cst hy.ix1) (mulV_int ba.big bd.big)) (e_bin (e_bin (e_var rfl) e_cst hy.ix0) (e_bin (e_var rfl) e_cst hx.ix1) (mulV_int bc.big bb.big)) (subV_int _ _)) (e_consA (e_bin (e_bin (e_var rfl) e_cst hx.ix1) (e_bin (e_var rfl) e_cst hy.ix1) (mulV_int bb.big bd.big)) e_nilA))
    (v_lowest (Int.mul_ne_zero (by have := h1.1; omega) (by have := h2.1; omega)) (bb.mul (m := 2000) bd).big))))
theorem v_times (hx : FrV x a b) (hy : FrV y c d) (h1 : Fr a b) (h2 : Fr c d) (ba : Bd 1000 a) (bb : Bd 1000 b) (bc : Bd 1000 c) (bd : Bd 1000 d) : runV 2 b_times [x, y] = .ok (fV (low (a * c) (b * d))) :=
  e_run (e_seq (e_drop (e_callM (e_consA (e_var rfl) (e_consA (e_var rfl) e_nilA)) (v_need hx hy h1 h2))) (e_ret (e_callM (e_consA (e_bin (e_bin (e_var rfl) e_cst hx.ix0) (e_bin (e_var rfl) e_cst hy.ix0) (mulV_int ba.big bc.big)) (e_consA (e_bin (e_bin (e_var rfl) e_cst hx.ix1) (e_bin (e_var rfl) e_cst hy.ix1) (mulV_int bb.big bd.big)) e_nilA))
    (v_lowest (Int.mul_ne_zero (by have := h1.1; omega) (by have := h2.1; omega)) (bb.mul (m := 2000) bd).big))))
theorem v_over (hx : FrV x a b) (hy : FrV y c d) (h1 : Fr a b) (h2 : Fr c d) (ba : Bd 1000 a) (bb : Bd 1000 b) (bc : Bd 1000 c) (bd : Bd 1000 d) (hc : c ≠ 0) : runV 2 b_over [x, y] = .ok (fV (low (a * d) (b * c))) :=
  e_run (e_seq (e_drop (e_callM (e_consA (e_var rfl) (e_consA (e_var rfl) e_nilA)) (v_need hx hy h1 h2))) (e_seq (e_ifF (e_tst (e_bin (e_bin (e_var rfl) e_cst hy.ix0) e_cst (eqV_int _ _)) rfl) (by simpa using hc) e_next) (e_ret (e_callM (e_consA (e_bin (e_bin (e_var rfl) e_cst hx.ix0) (e_bin (e_var rfl) e_cst hy.ix1) (mulV_int ba.big bd.big)) (e_consA (e_bin (e_bin (e_var rfl) e_cst hx.ix1) (e_bin (e_var rfl) e_cst hy.ix0) (mulV_int bb.big bc.big)) e_nilA))
    (v_lowest (Int.mul_ne_zero (by have := h1.1; omega) hc) (bb.mul (m := 2000) bc).big)))))
theorem v_over0 (hx : FrV x a b) (hy : FrV y 0 d) (h1 : Fr a b) (h2 : Fr 0 d) : runV 2 b_over [x, y] = .exc 1 ["part"] [.str "other"] [] :=
  e_runX (e_seq (e_drop (e_callM (e_consA (e_var rfl) (e_consA (e_var rfl) e_nilA)) (v_need hx hy h1 h2))) (e_seqX (e_ifT (e_tst (e_bin (e_bin (e_var rfl) e_cst hy.ix0) e_cst (eqV_int _ _)) rfl) rfl (e_raise (e_consA e_cst e_nilA) rfl))))
/-- the callee refuses -/
theorem v_op1 {body rest : MS} (e : body = seqS (dropS (callM 2 2 b__need_fractions (consA (varM 0) (consA (varM 1) nilA)))) rest) (h : runV 1 b_is_fraction [x] = .ok (.bl false)) : runV 2 body [x, y] = .exc 1 ["part"] [.str "one"] [] := by
  subst e
  exact e_runX (e_seqX (e_dropX (e_callX (e_consA (e_var rfl) (e_consA (e_var rfl) e_nilA)) (v_need1 h))))
theorem v_op2 {body rest : MS} (e : body = seqS (dropS (callM 2 2 b__need_fractions (consA (varM 0) (consA (varM 1) nilA)))) rest) (h1 : runV 1 b_is_fraction [x] = .ok (.bl true)) (h : runV 1 b_is_fraction [y] = .ok (.bl false)) : runV 2 body [x, y] = .exc 1 ["part"] [.str "other"] [] := by
  subst e
  exact e_runX (e_seqX (e_dropX (e_callX (e_consA (e_var rfl) (e_consA (e_var rfl) e_nilA)) (v_need2 h1 h))))
end
end Y

set_option Elab.async false
set_option linter.all false
set_option maxRecDepth 100000
set_option maxHeartbeats 4000000
set_option autoImplicit false
/-! drawing -/
namespace Y
open PySem PySem.Spec PyProof.Rows L2 Z
theorem atI_int {xs : List Val} {t : Int} (h0 : 0 ≤ t) (h1 : t < xs.length) : ∃ x, x ∈ xs ∧ atI xs t = some x := by
  obtain ⟨n, rfl⟩ := Int.eq_ofNat_of_zero_le h0
  have hn : n < xs.length := by omega
  exact ⟨xs[n], List.getElem_mem hn, atI_nat (List.getElem?_eq_getElem hn)⟩
theorem dats_ints : ∀ cs : List Int, dats (cs.map .int) = some (cs.map .int)
  | [] => rfl
  | c :: cs => by simp only [List.map_cons, dats, dat, dats_ints cs]
theorem lay_ints : ∀ cs : List Int, PyData.canLayAll0 (cs.map .int) = true
  | [] => by simp [PyData.canLayAll0]
  | c :: cs => by simp only [List.map_cons, PyData.canLayAll0, PyData.canLay0, Bool.true_and]; exact lay_ints cs
theorem dep_ints : ∀ cs : List Int, PyData.depthAll (cs.map .int) = 0
  | [] => by simp [PyData.depthAll]
  | c :: cs => by simp only [List.map_cons, PyData.depthAll, PyData.depth, dep_ints cs]; rfl
theorem shp_ints (cs : List Int) : SeqAt.shaped (.list (cs.map .int)) = true := by
  unfold SeqAt.shaped
  simp only [PyData.canLay0, PyData.depth, lay_ints, dep_ints]
  rfl
theorem neV_ints (cs : List Int) : neV (.lst (cs.map .int)) (.lst []) = some (.bl (!cs.isEmpty)) := by
  simp only [neV, dat, dats_ints, Option.map_some, dats]
  rw [if_pos ⟨shp_ints cs, shp_ints []⟩]
  cases cs <;> simp [PyData.eqv, PyData.eqvAll]
theorem powV_5 {x : Int} (h : x.natAbs < 2 ^ 64) : powV (.int x) (.int 5) = some (.int (x ^ 5)) := if_pos ⟨by decide, by decide, h⟩
theorem powV_3 {x : Int} (h : x.natAbs < 2 ^ 64) : powV (.int x) (.int 3) = some (.int (x ^ 3)) := if_pos ⟨by decide, by decide, h⟩
theorem powV_18 : powV (.int 10) (.int 18) = some (.int 1000000000000000000) := by
  unfold powV
  dsimp only
  rw [if_pos ⟨by decide, by decide, by decide⟩]
  rfl
theorem powV_20 : powV (.int 10) (.int 20) = some (.int 100000000000000000000) := by
  unfold powV
  dsimp only
  rw [if_pos ⟨by decide, by decide, by decide⟩]
  rfl
theorem powV_30 : powV (.int 10) (.int 30) = some (.int 1000000000000000000000000000000) := by
  unfold powV
  dsimp only
  rw [if_pos ⟨by decide, by decide, by decide⟩]
  rfl
theorem Bd.lit {x : Int} (h : decide (x.natAbs < 2 ^ 64) = true) : Bd 64 x := of_decide_eq_true (p := x.natAbs < 2 ^ 64) h
/-- the cup -/
def CupV (cs : List Int) (t r : Int) : List Val := [.lst (cs.map .int), .int t, .int r]
structure Cup (k : Nat) (s : SV) : Prop where
  ex : ∃ (p : Bool) (cs : List Int) (t r : Int), s = .ow p (CupV cs t r) ∧ 0 ≤ t ∧ t ≤ k ∧ 0 ≤ r ∧ ∀ c ∈ cs, c.natAbs.log2 < 50000000
theorem Cup.own {k : Nat} {s : SV} (h : Cup k s) : s.own = true := by
  obtain ⟨p, cs, t, r, rfl, _⟩ := h.ex; rfl
theorem Cup.setPin {k : Nat} {s : SV} {q : Bool} (h : Cup k s) : Cup k (s.setPin q) := by
  obtain ⟨p, cs, t, r, rfl, h'⟩ := h.ex
  exact ⟨q, cs, t, r, rfl, h'⟩
theorem Cup.le {k l : Nat} {s : SV} (h : Cup k s) (e : k ≤ l) : Cup l s := by
  obtain ⟨p, cs, t, r, rfl, h1, h2, h3⟩ := h.ex
  exact ⟨p, cs, t, r, rfl, h1, by omega, h3⟩
theorem log2_mono {a b : Nat} (h : a ≤ b) : a.log2 ≤ b.log2 := by
  by_cases ha : a = 0
  · subst ha; simp
  · exact (Nat.le_log2 (by omega)).mpr (Nat.le_trans (Nat.log2_self_le ha) h)
theorem absVl_int (i : Int) : absVl (.int i) = some (.int (if i < 0 then -i else i)) := rfl
def SipOk (k : Nat) (s : SV) (many : Int) : Prop := ∃ v s', runO 6 b__law_sip s [.int many] = .ok (.int v, s') ∧ 0 ≤ v ∧ v < many ∧ Cup (k + 1) s'
theorem sip_ok {k : Nat} {s : SV} {many : Int} (h : Cup k s) (hk : k ≤ 1000) (h1 : 1 ≤ many) (hm : Bd 1000 many) : SipOk k s many := by
  obtain ⟨p, cs, t, r, rfl, ht0, htk, hr0, hc⟩ := h.ex
  have mp : 0 < many := by omega
  have md : ∀ z : Int, 0 ≤ z % many ∧ z % many < many := fun z => ⟨Int.emod_nonneg _ (by omega), Int.emod_lt_of_pos _ mp⟩
  by_cases hr : 0 < r
  · refine ⟨r % many, _, e_runO (e_seqR (e_ifT (e_tst (e_bin (e_ixO rfl e_cst rfl rfl) e_cst rfl) rfl) (by simpa using hr)
      (e_seq (e_asg (e_cbM (e_consA (e_ixO rfl e_cst rfl rfl) e_nilA) rfl) rfl) (e_seq (e_setS (e_bin (e_var rfl) (e_var rfl) (divV_pos mp hm.big)) rfl e_cst rfl rfl) (e_ret (e_bin (e_cbM (e_consA (e_var rfl) e_nilA) rfl) (e_var rfl) (modV_pos mp))))))) rfl, (md _).1, (md _).2, p, cs, t, r / many, rfl, ht0, by omega, Int.ediv_nonneg hr0 (by omega), hc⟩
  · -- the row, or numbers of its own
    have b18 : (1000000000000000000 : Int).natAbs < 2 ^ 64 := by decide
    obtain ⟨c, hcell, hbig⟩ : ∃ c : Int, (∀ ρ4 : En, ρ4[0]? = some (some (.ow true (CupV cs (t + 1) r))) → ρ4[3]? = some (some (.fz (.int t))) → ρ4[4]? = some (some (.fz (.int (96207 * t + 7519)))) → (freeS ρ4 4 = true) → (c = 96207 * t + 7519 → ρ4.set 4 (some (.fz (.int c))) = ρ4) →
        ifS (tstM blV (binM neV (ixO 0 (cstM (.int 0))) (lstM nilA))) (asgS 4 (binM ixV (ixO 0 (cstM (.int 0))) (binM modV (cbM (f1 intV) (consA (varM 3) nilA)) (cbM (f1 lenV) (consA (ixO 0 (cstM (.int 0))) nilA))))) nextS ρ4 = .ok (.nx (ρ4.set 4 (some (.fz (.int c)))))) ∧ (t < cs.length → c.natAbs.log2 < 50000000) := by
      cases hcs : cs with
      | nil =>
        refine ⟨96207 * t + 7519, fun ρ4 g0 g3 g4 gf ge => ?_, fun z => ?_⟩
        · rw [ge rfl]
          exact e_ifF (e_tst (e_bin (e_ixO g0 e_cst g0 rfl) (e_lstM e_nilA) (neV_ints [])) rfl) rfl e_next
        · simp at z; omega
      | cons c0 cr =>
        rw [← hcs]
        have hl : 0 < cs.length := by rw [hcs]; simp
        obtain ⟨x, hx, ex⟩ := atI_int (xs := cs.map Val.int) (t := t % cs.length) (Int.emod_nonneg _ (by omega)) (by rw [List.length_map]; exact Int.emod_lt_of_pos _ (by omega))
        obtain ⟨c, hcm, rfl⟩ := List.mem_map.mp hx
        refine ⟨c, fun ρ4 g0 g3 g4 gf ge => ?_, fun _ => hc c hcm⟩
        have hlen : (f1 lenV) [.lst (cs.map Val.int)] = some (.int cs.length) := by show some (Val.int ((cs.map Val.int).length : Int)) = _; rw [List.length_map]
        exact e_ifT (e_tst (e_bin (e_ixO g0 e_cst g0 rfl) (e_lstM e_nilA) (neV_ints cs)) rfl) (by rw [hcs]; rfl) (e_asg (e_bin (e_ixO g0 e_cst g0 rfl) (e_bin (e_cbM (e_consA (e_var g3) e_nilA) rfl) (e_cbM (e_consA (e_ixO g0 e_cst g0 rfl) e_nilA) hlen) (modV_pos (by omega))) ex) gf)
    have hlen : (f1 lenV) [.lst (cs.map Val.int)] = some (.int cs.length) := by show some (Val.int ((cs.map Val.int).length : Int)) = _; rw [List.length_map]
    by_cases hb : t < cs.length ∧ 1000000000000000000 ≤ (if c < 0 then -c else c)
    · have hAc : (if c < 0 then -c else c) = (c.natAbs : Int) := by split <;> omega
      have hA : (if c < 0 then -c else c) - 1000000000000000000 ≥ 0 := by rw [hAc] at hb ⊢; omega
      have hlg : ((if c < 0 then -c else c) - 1000000000000000000 : Int).natAbs.log2 < 100000000 := by
        have h1 := hbig hb.1
        have h2 : ((if c < 0 then -c else c) - 1000000000000000000 : Int).natAbs ≤ c.natAbs := by rw [hAc] at hA ⊢; omega
        have h3 := log2_mono h2
        omega
      exact ⟨_, _, e_runO (e_seq (e_ifF (e_tst (e_bin (e_ixO rfl e_cst rfl rfl) e_cst rfl) rfl) (by simpa using hr) e_next) (e_seq (e_asg (e_ixO rfl e_cst rfl rfl) rfl) (e_seq (e_setS (e_bin (e_var rfl) e_cst (addV_int _ _)) rfl e_cst rfl rfl)
          (e_seq (e_asg (e_bin (e_bin e_cst (e_var rfl) (mulV_int (Bd.lit rfl).big (show Bd 64 t by unfold Bd; omega).big)) e_cst (addV_int _ _)) rfl) (e_seq (hcell _ rfl rfl rfl rfl fun e => by rw [e]; rfl)
          (e_seqR (e_ifT (e_andB (e_tst (e_bin (e_var rfl) (e_cbM (e_consA (e_ixO rfl e_cst rfl rfl) e_nilA) hlen) rfl) rfl) (fun _ => e_tst (e_bin (e_cbM (e_consA (e_var rfl) e_nilA) rfl) (e_bin e_cst e_cst powV_18) rfl) rfl)) (by simp [hb.1, hb.2])
            (e_seq (e_asg (e_bin (e_bin e_cst (e_bin (e_cbM (e_consA (e_var rfl) e_nilA) (absVl_int c)) (e_bin e_cst e_cst powV_18) (subV_int _ _)) (mulV_big (by decide) hlg)) (e_cbM (e_consA (e_bin (e_var rfl) e_cst rfl) e_nilA) rfl) (addV_int _ _)) rfl)
              (e_seq (e_setS (e_bin (e_var rfl) (e_var rfl) (divV_pos mp hm.big)) rfl e_cst rfl rfl) (e_ret (e_bin (e_cbM (e_consA (e_var rfl) e_nilA) rfl) (e_var rfl) (modV_pos mp)))))))))))) rfl, (md _).1, (md _).2, p, cs, t + 1, _, rfl, by omega, by omega, Int.ediv_nonneg (by
                have : (0 : Int) ≤ if decide (c < 0) = true then 1 else 0 := by split <;> omega
                omega) (by omega), hc⟩
    · have bt : Bd 10 t := by unfold Bd; omega
      have m31 : ∀ z : Int, Bd 31 (z % 2147483549) := fun z => by unfold Bd; omega
      have b2 : ∀ z : Int, Bd 64 (z % 2147483549 * (2 * t + 4415) + 96207 * t * t + 65029) := fun z =>
        (((m31 z).mul (m := 44) (show Bd 13 (2 * t + 4415) by unfold Bd; omega)).add (m := 45) ((((show Bd 17 96207 by unfold Bd; decide).mul (m := 27) bt).mul (m := 37) bt).mono) |>.add (m := 46) (show Bd 45 65029 by unfold Bd; decide)).mono
      exact ⟨_, _, e_runO (e_seq (e_ifF (e_tst (e_bin (e_ixO rfl e_cst rfl rfl) e_cst rfl) rfl) (by simpa using hr) e_next) (e_seq (e_asg (e_ixO rfl e_cst rfl rfl) rfl) (e_seq (e_setS (e_bin (e_var rfl) e_cst (addV_int _ _)) rfl e_cst rfl rfl)
          (e_seq (e_asg (e_bin (e_bin e_cst (e_var rfl) (mulV_int (Bd.lit rfl).big bt.big)) e_cst (addV_int _ _)) rfl) (e_seq (hcell _ rfl rfl rfl rfl fun e => by rw [e]; rfl)
          (e_seq (e_ifF (e_andB (e_tst (e_bin (e_var rfl) (e_cbM (e_consA (e_ixO rfl e_cst rfl rfl) e_nilA) hlen) rfl) rfl) (fun _ => e_tst (e_bin (e_cbM (e_consA (e_var rfl) e_nilA) (absVl_int c)) (e_bin e_cst e_cst powV_18) rfl) rfl)) (by
              rw [← Bool.not_eq_true, Bool.and_eq_true, decide_eq_true_iff, decide_eq_true_iff]; exact hb) e_next)
          (e_seq (e_asg (e_bin (e_cbM (e_consA (e_bin (e_bin (e_bin (e_bin (e_cbM (e_consA (e_var rfl) e_nilA) rfl) e_cst (modV_pos (by decide))) (e_bin e_cst (e_var rfl) (mulV_int (Bd.lit rfl).big bt.big)) (addV_int _ _)) e_cst (addV_int _ _)) e_cst (powV_5 (by omega))) e_nilA) rfl) e_cst (modV_pos (by decide))) rfl)
          (e_seq (e_asg (e_bin (e_cbM (e_consA (e_bin (e_bin (e_bin (e_bin (e_var rfl) (e_bin (e_bin e_cst (e_var rfl) (mulV_int (Bd.lit rfl).big bt.big)) e_cst (addV_int _ _)) (mulV_int (m31 _).big (show Bd 13 (2 * t + 4415) by unfold Bd; omega).big)) (e_bin (e_bin e_cst (e_var rfl) (mulV_int (Bd.lit rfl).big bt.big)) (e_var rfl) (mulV_int ((show Bd 17 96207 by unfold Bd; decide).mul (m := 27) bt).big bt.big)) (addV_int _ _)) e_cst (addV_int _ _)) e_cst (powV_3 (b2 _))) e_nilA) rfl) e_cst (modV_pos (by decide))) rfl)
          (e_ret (e_bin (e_cbM (e_consA (e_bin (e_var rfl) e_cst (divV_pos (by decide) (Bd.lit rfl).big)) e_nilA) rfl) (e_var rfl) (modV_pos mp))))))))))) rfl, (md _).1, (md _).2, p, cs, t + 1, r, rfl, by omega, by omega, hr0, hc⟩
end Y

set_option Elab.async false
set_option linter.all false
set_option maxRecDepth 100000
set_option maxHeartbeats 4000000
set_option autoImplicit false
/-! what is drawn -/
namespace Y
open PySem PySem.Spec PyProof.Rows L2 Z
theorem pick_ok {k : Nat} {s : SV} {xs : List Val} (h : Cup k s) (hk : k ≤ 1000) (h0 : 0 < xs.length) (hl : xs.length ≤ 100) : ∃ x s', x ∈ xs ∧ runO 2 b__law_pick s [.lst xs] = .ok (x, s') ∧ Cup (k + 1) s' := by
  obtain ⟨v, s1, e1, v0, v1, c1⟩ := sip_ok (many := xs.length) (h.setPin (q := true)) hk (by omega) (by unfold Bd; exact Nat.lt_of_le_of_lt (show ((xs.length : Int)).natAbs ≤ 100 by omega) (Nat.lt_of_lt_of_le (by decide : 100 < 2 ^ 10) (Nat.pow_le_pow_right (by decide) (by decide))))
  obtain ⟨x, hx, ex⟩ := atI_int v0 v1
  exact ⟨x, _, hx, e_runO (e_ret (e_bin (e_var rfl) (e_callO rfl h.setPin.own (e_consA (e_cbM (e_consA (e_var rfl) e_nilA) rfl) e_nilA) rfl h.setPin.own e1) ex)) rfl, c1.setPin⟩
theorem Bd.lt {x : Int} {k : Nat} (h : x.natAbs < 2 ^ 60) (e : 60 ≤ k := by decide) : Bd k x := Nat.lt_of_lt_of_le h (Nat.pow_le_pow_right (by decide) e)
theorem integer_ok {k : Nat} {s : SV} (h : Cup k s) (hk : k + 5 ≤ 1000) : ∃ i s', runO 1 b__law_integer s [] = .ok (.int i, s') ∧ Bd 110 i ∧ Cup (k + 5) s' := by
  have h := h.setPin (q := true)
  obtain ⟨v1, s1, e1, a1, b1, c1⟩ := sip_ok (many := 13) h (by omega) (by decide) (.lt (by decide))
  obtain ⟨v2, s2, e2, a2, b2, c2⟩ := sip_ok (many := 61) c1 (by omega) (by decide) (.lt (by decide))
  obtain ⟨v3, s3, e3, a3, b3, c3⟩ := sip_ok (many := 9) c2 (by omega) (by decide) (.lt (by decide))
  obtain ⟨v4, s4, e4, a4, b4, c4⟩ := sip_ok (many := 99) c3 (by omega) (by decide) (.lt (by decide))
  obtain ⟨x, s5, hx, e5, c5⟩ := pick_ok (xs := [.int (v1 - 6), .int (v2 - 30), .int (1000000000000000000000000000000 + v3), .int (-1000000000000000000 - v4)]) c4 (by omega) (by simp) (by simp)
  obtain ⟨i, rfl, hi⟩ : ∃ i, x = .int i ∧ Bd 110 i := by
    simp only [List.mem_cons, List.not_mem_nil, or_false] at hx
    rcases hx with rfl | rfl | rfl | rfl <;> exact ⟨_, rfl, by unfold Bd; omega⟩
  exact ⟨i, _, e_runO (e_ret (e_callO rfl h.own (e_consA (e_lstM (e_consA (e_bin (e_callO rfl h.own (e_consA e_cst e_nilA) rfl h.own e1) e_cst (subV_int _ _)) (e_consA (e_bin (e_callO rfl c1.own (e_consA e_cst e_nilA) rfl c1.own e2) e_cst (subV_int _ _))
    (e_consA (e_bin (e_bin e_cst e_cst powV_30) (e_callO rfl c2.own (e_consA e_cst e_nilA) rfl c2.own e3) (addV_int _ _)) (e_consA (e_bin (e_un (e_bin e_cst e_cst powV_18) rfl) (e_callO rfl c3.own (e_consA e_cst e_nilA) rfl c3.own e4) (subV_int _ _)) e_nilA))))) e_nilA) rfl c4.own e5)) rfl, hi, c5.setPin⟩
/-! rows of numbers -/
def iotaI (lo : Int) : Nat → List Int
  | 0 => []
  | n + 1 => lo :: iotaI (lo + 1) n
theorem iota_eq : ∀ (n : Nat) (lo : Int), iota lo n = (iotaI lo n).map .int
  | 0, _ => rfl
  | n + 1, lo => by show Val.int lo :: iota (lo + 1) n = Val.int lo :: (iotaI (lo + 1) n).map .int; rw [iota_eq n]
theorem iotaI_mem : ∀ (n : Nat) (lo x : Int), x ∈ iotaI lo n ↔ lo ≤ x ∧ x < lo + n
  | 0, lo, x => by
    show x ∈ [] ↔ _
    simp only [List.not_mem_nil, false_iff]
    omega
  | n + 1, lo, x => by
    show x ∈ lo :: iotaI (lo + 1) n ↔ _
    rw [List.mem_cons, iotaI_mem n]
    omega
theorem intsOf_map : ∀ ns : List Int, intsOf (ns.map .int) = some ns
  | [] => rfl
  | n :: ns => by show (intsOf (ns.map .int)).map (n :: ·) = _; rw [intsOf_map ns]; rfl
theorem maxL_of : ∀ {ns : List Int} {g : Int}, g ∈ ns → (∀ x ∈ ns, x ≤ g) → maxL ns = some g
  | [], _, h, _ => nomatch h
  | [x], g, h, _ => by rw [List.mem_singleton.mp h]; rfl
  | x :: y :: ns, g, h, k => by
    show (maxL (y :: ns)).map (fun m => max x m) = some g
    by_cases hg : g ∈ y :: ns
    · rw [maxL_of hg fun z hz => k z (.tail _ hz)]
      have := k x (.head _)
      show some (max x g) = some g
      congr 1; omega
    · have e : g = x := by
        rcases List.mem_cons.mp h with z | z
        · exact z
        · exact absurd z hg
      subst e
      cases hm : maxL (y :: ns) with
      | none =>
        exfalso
        have : ∀ (l : List Int) (y : Int), maxL (y :: l) ≠ none := by
          intro l
          induction l with
          | nil => intro y z; cases z
          | cons a l ih =>
            intro y z
            have z : (maxL (a :: l)).map (fun m => max y m) = none := z
            exact ih a (Option.map_eq_none_iff.mp z)
        exact this _ _ hm
      | some m =>
        have hmem : ∀ (l : List Int) (y m : Int), maxL (y :: l) = some m → m ∈ y :: l := by
          intro l
          induction l with
          | nil => intro y m z; cases z; exact .head _
          | cons a l ih =>
            intro y m z
            have z : (maxL (a :: l)).map (fun m => max y m) = some m := z
            obtain ⟨q, hq, e⟩ := Option.map_eq_some_iff.mp z
            have := ih a q hq
            by_cases hh : y ≤ q
            · rw [show m = q by omega]; exact .tail _ this
            · rw [show m = y by omega]; exact .head _
        have := k m (.tail _ (hmem _ _ _ hm))
        show some (max g m) = some g
        congr 1; omega
theorem e_rng2 {al : MA} {ρ ρ1 : En} {i j : Int} (h : al ρ = .ok ([.int i, .int j], ρ1)) (hi : Bd 61 i) (hj : Bd 61 j) : rng2M al ρ = .ok (iota i (j - i).toNat, ρ1) := by
  unfold rng2M
  rw [h, Rs.ok_bind]
  unfold Bd at hi hj
  exact if_pos (by omega)
theorem e_rng1 {al : MA} {ρ ρ1 : En} {j : Int} (h : al ρ = .ok ([.int j], ρ1)) (hj : Bd 61 j) : rng1M al ρ = .ok (iota 0 j.toNat, ρ1) := by
  unfold rng1M
  rw [h, Rs.ok_bind]
  unfold Bd at hj
  exact if_pos (by omega)
/-- a comprehension over numbers, one name -/
theorem e_compI {i : Nat} {mi : MI} {c : MB} {e : ME} {ρ ρ1 : En} {ns : List Int} (p : Int → Bool) (h1 : mi ρ = .ok (ns.map .int, ρ1)) (h2 : ns.length < sizeLine) (h3 : freeS ρ1 i = true) (hw : ρ1.set i none = ρ1)
    (hs : ∀ x : Int, (ρ1.set i (some (.fz (.int x)))).set i none = ρ1 ∧ freeS (ρ1.set i (some (.fz (.int x)))) i = true)
    (hc : ∀ x ∈ ns, c (ρ1.set i (some (.fz (.int x)))) = .ok (p x, ρ1.set i (some (.fz (.int x))))) (he : ∀ x ∈ ns, e (ρ1.set i (some (.fz (.int x)))) = .ok (.int x, ρ1.set i (some (.fz (.int x))))) :
    compF [i] mi (nameT i) c e ρ = .ok ((ns.filter p).map .int, ρ1) := by
  refine e_compF h1 (by rw [List.length_map]; exact h2) (by simp [h3]) ?_
  show compL [i] (nameT i) c e (ns.map .int) (ρ1.set i none) = _
  rw [hw]
  refine e_as (compL_eq (vs := [i]) (t := nameT i) (c := c) (e := e) (ρ := ρ1) (fun x => match x with | .int x => p x | _ => false) id (fun x => ρ1.set i (some (.fz x))) hw _ fun x hx => ?_) ?_
  · obtain ⟨n, hn, rfl⟩ := List.mem_map.mp hx
    exact ⟨if_pos h3, hc n hn, fun _ => he n hn, by simp [(hs n).2], (hs n).1⟩
  · congr 1
    rw [List.map_id, List.filter_map]
    congr 1
end Y

set_option Elab.async false
set_option linter.all false
set_option maxRecDepth 100000
set_option maxHeartbeats 4000000
set_option autoImplicit false
/-! fractions drawn, lowest terms told -/
namespace Y
open PySem PySem.Spec PyProof.Rows L2 Z
def divs (i b : Int) (x : Int) : Bool := decide (i % x = 0) && decide (b % x = 0)
theorem divs_iff {i b x : Int} : divs i b x = true ↔ i % x = 0 ∧ b % x = 0 := by
  unfold divs; rw [Bool.and_eq_true, decide_eq_true_iff, decide_eq_true_iff]
theorem max_div {i b : Int} (h : 0 < b) : maxV (.lst (((iotaI 1 (b + 1 - 1).toNat).filter (divs i b)).map .int)) = some (.int (lg i b)) := by
  unfold maxV
  dsimp only
  rw [intsOf_map]
  have g0 := lg_pos (a := i) (b := b) (by omega)
  have d1 : lg i b ∣ i := Int.ofNat_dvd_left.mpr (Nat.gcd_dvd_left _ _)
  have d2 : lg i b ∣ b := Int.ofNat_dvd_left.mpr (Nat.gcd_dvd_right _ _)
  have le := Int.le_of_dvd h d2
  rw [Option.bind_some, maxL_of (g := lg i b)]
  · rfl
  · rw [List.mem_filter, iotaI_mem, divs_iff]
    exact ⟨by omega, Int.emod_eq_zero_of_dvd d1, Int.emod_eq_zero_of_dvd d2⟩
  · intro x hx
    rw [List.mem_filter, iotaI_mem, divs_iff] at hx
    obtain ⟨h1, h2, h3⟩ := hx
    have := Nat.dvd_gcd (Int.natAbs_dvd_natAbs.mpr (Int.dvd_of_emod_eq_zero h2)) (Int.natAbs_dvd_natAbs.mpr (Int.dvd_of_emod_eq_zero h3))
    have := Nat.le_of_dvd (by unfold lg at g0; omega) this
    unfold lg
    omega
theorem iotaI_length : ∀ (n : Nat) (lo : Int), (iotaI lo n).length = n
  | 0, _ => rfl
  | n + 1, lo => by show (iotaI (lo + 1) n).length + 1 = n + 1; rw [iotaI_length]
theorem e_rng2' {al : MA} {ρ ρ1 : En} {i j : Int} (h : al ρ = .ok ([.int i, .int j], ρ1)) (hi : Bd 61 i) (hj : Bd 61 j) : rng2M al ρ = .ok ((iotaI i (j - i).toNat).map .int, ρ1) := by rw [e_rng2 h hi hj, iota_eq]
theorem sz_lt {n : Nat} (h : n ≤ 100000) : n < sizeLine := Nat.lt_of_le_of_lt h (by decide)
theorem fraction_ok {k : Nat} {s : SV} (h : Cup k s) (hk : k + 6 ≤ 1000) : ∃ n d s', runO 5 b__law_fraction s [] = .ok (fV (n, d), s') ∧ Fr n d ∧ Bd 110 n ∧ Bd 110 d ∧ Cup (k + 6) s' := by
  have h := h.setPin (q := true)
  obtain ⟨i, s1, e1, bi, c1⟩ := integer_ok h (by omega)
  obtain ⟨v, s2, e2, a2, b2, c2⟩ := sip_ok (many := 40) c1 (by omega) (by decide) (.lt (by decide))
  have hb : 0 < 1 + v := by omega
  have g0 := lg_pos (a := i) (b := 1 + v) (by omega)
  have gb : (lg i (1 + v)).natAbs < 2 ^ 4000 := Nat.lt_of_le_of_lt (lg_le (by omega)) (show Bd 4000 (1 + v) from .lt (by omega))
  have lw : low i (1 + v) = (i / lg i (1 + v), (1 + v) / lg i (1 + v)) := if_pos hb
  obtain ⟨f, _⟩ := low_spec (a := i) (b := 1 + v) (by omega)
  obtain ⟨bn, bd⟩ := Bd.low (a := i) (b := 1 + v) (l := 110) (by omega) bi (.lt (by omega))
  refine ⟨(low i (1 + v)).1, (low i (1 + v)).2, s2.setPin s.pin, ?_, f, bn, bd, c2.setPin⟩
  rw [lw]
  exact e_runO (e_seq (e_asgT (e_tupM (e_consA (e_callO rfl h.own e_nilA rfl h.own e1) (e_consA (e_bin e_cst (e_callO rfl c1.own (e_consA e_cst e_nilA) rfl c1.own e2) (addV_int _ _)) e_nilA))) rfl)
    (e_seq (e_asg (e_cbM (e_consA (e_listM (e_compI (divs i (1 + v)) (e_rng2' (e_consA e_cst (e_consA (e_bin (e_var rfl) e_cst (addV_int _ _)) e_nilA)) (.lt (by decide)) (.lt (by omega))) (by rw [iotaI_length]; exact sz_lt (by omega)) rfl rfl (fun _ => ⟨rfl, rfl⟩)
        (fun x hx => by
          rw [iotaI_mem] at hx
          exact e_andB (e_tst (e_bin (e_bin (e_cbM (e_consA (e_var rfl) e_nilA) rfl) (e_var rfl) (modV_pos (by omega))) e_cst (eqV_int _ _)) rfl) fun _ => e_tst (e_bin (e_bin (e_cbM (e_consA (e_var rfl) e_nilA) rfl) (e_var rfl) (modV_pos (by omega))) e_cst (eqV_int _ _)) rfl) (fun x hx => e_var rfl))) e_nilA) (max_div hb)) rfl)
      (e_ret (e_tupM (e_consA (e_bin (e_var rfl) (e_var rfl) (divV_pos g0 gb)) (e_consA (e_bin (e_var rfl) (e_var rfl) (divV_pos g0 gb)) e_nilA)))))) rfl
theorem filt_no {n d : Int} (f : Fr n d) {lo : Int} (h : 2 ≤ lo) (m : Nat) : (iotaI lo m).filter (divs n d) = [] := by
  rw [List.filter_eq_nil_iff]
  intro x hx
  rw [iotaI_mem] at hx
  rw [divs_iff]
  exact fr_no f (by omega)
theorem v_is_lowest {n d : Int} (f : Fr n d) : runV 4 b__law_is_lowest [fV (n, d)] = .ok (.bl true) := by
  have hd : 1 ≤ d := f.1
  have c0 : (decide (d < 1) || (decide (n = 0) && !decide (d = 1))) = false := by
    by_cases hn : n = 0
    · subst hn
      have := fr_zero f
      subst this
      rfl
    · simp [hn]; omega
  have hcomp : ∀ ρ1 : En, ρ1[2]? = some (some (.fz (.int n))) → ρ1[3]? = some (some (.fz (.int d))) → True := fun _ _ _ => trivial
  have first : ∀ (R : Rs Out) (rest : MS), rest [some (.fz (fV (n, d))), none, none, none] = R → seqS (ifS (orB (notB (tstM truV (cbM (f2 isiV) (consA (varM 0) (consA (cstM (.ty "tuple")) nilA))))) (orB (tstM blV (binM neV (cbM (f1 lenV) (consA (varM 0) nilA)) (cstM (.int 2)))) (tstM blV (binM neV (listM (compF [1] (walkM seqV (varM 0)) (nameT 1) (orB (tstM truV (cbM (f2 isiV) (consA (varM 1) (consA (cstM (.ty "bool")) nilA)))) (notB (tstM truV (cbM (f2 isiV) (consA (varM 1) (consA (cstM (.ty "int")) nilA)))))) (varM 1))) (lstM nilA))))) (retS (cstM (.bl false))) nextS) rest [some (.fz (fV (n, d))), none, none, none] = R := fun R rest hr =>
    e_seq (e_ifF (e_orB (e_notB (e_tst (e_cbM (e_consA (e_var rfl) (e_consA e_cst e_nilA)) rfl) rfl)) fun _ => e_orB (e_tst (e_bin (e_cbM (e_consA (e_var rfl) e_nilA) rfl) e_cst (neV_int _ _)) rfl) fun _ => e_tst (e_bin (e_listM (e_compI (ns := [n, d]) (fun _ => false) (e_walkM (e_var rfl) rfl) (by exact small_lt rfl) rfl rfl (fun _ => ⟨rfl, rfl⟩)
      (fun x hx => e_orB (k := false) (l := !true) (e_tst (e_cbM (e_consA (e_var rfl) (e_consA e_cst e_nilA)) rfl) rfl) fun _ => e_notB (k := true) (e_tst (e_cbM (e_consA (e_var rfl) (e_consA e_cst e_nilA)) rfl) rfl)) (fun x hx => e_var rfl))) (e_lstM e_nilA) neV_nil) rfl) rfl e_next) hr
  by_cases h2 : d < 2000
  · refine e_run (first _ _ (e_seq (e_asgT (e_var rfl) rfl) (e_seq (e_ifF (e_orB (e_tst (e_bin (e_var rfl) e_cst rfl) rfl) fun _ => e_andB (e_tst (e_bin (e_var rfl) e_cst (eqV_int _ _)) rfl) fun _ => e_tst (e_bin (e_var rfl) e_cst (neV_int _ _)) rfl) c0 e_next)
      (e_seqR (e_ifT (e_tst (e_bin (e_var rfl) e_cst rfl) rfl) (decide_eq_true h2) (e_ret (e_bin (e_listM (e_as (e_compI (divs n d) (e_rng2' (e_consA e_cst (e_consA (e_bin (e_var rfl) e_cst (addV_int _ _)) e_nilA)) (.lt (by decide)) (.lt (by omega))) (by rw [iotaI_length]; exact sz_lt (by omega)) rfl rfl (fun _ => ⟨rfl, rfl⟩)
        (fun x hx => by
          rw [iotaI_mem] at hx
          exact e_andB (e_tst (e_bin (e_bin (e_cbM (e_consA (e_var rfl) e_nilA) rfl) (e_var rfl) (modV_pos (by omega))) e_cst (eqV_int _ _)) rfl) fun _ => e_tst (e_bin (e_bin (e_cbM (e_consA (e_var rfl) e_nilA) rfl) (e_var rfl) (modV_pos (by omega))) e_cst (eqV_int _ _)) rfl) (fun x hx => e_var rfl)) (by rw [filt_no f (by decide)]; rfl))) (e_lstM e_nilA) eqV_nil)))))))
  · refine e_run (first _ _ (e_seq (e_asgT (e_var rfl) rfl) (e_seq (e_ifF (e_orB (e_tst (e_bin (e_var rfl) e_cst rfl) rfl) fun _ => e_andB (e_tst (e_bin (e_var rfl) e_cst (eqV_int _ _)) rfl) fun _ => e_tst (e_bin (e_var rfl) e_cst (neV_int _ _)) rfl) c0 e_next)
      (e_seq (e_ifF (e_tst (e_bin (e_var rfl) e_cst rfl) rfl) (decide_eq_false h2) e_next) (e_ret (e_bin (e_listM (e_as (e_compI (divs n d) (e_rng2' (e_consA e_cst (e_consA e_cst e_nilA)) (.lt (by decide)) (.lt (by decide))) (by rw [iotaI_length]; exact sz_lt (by decide)) rfl rfl (fun _ => ⟨rfl, rfl⟩)
        (fun x hx => by
          rw [iotaI_mem] at hx
          exact e_andB (e_tst (e_bin (e_bin (e_cbM (e_consA (e_var rfl) e_nilA) rfl) (e_var rfl) (modV_pos (by omega))) e_cst (eqV_int _ _)) rfl) fun _ => e_tst (e_bin (e_bin (e_cbM (e_consA (e_var rfl) e_nilA) rfl) (e_var rfl) (modV_pos (by omega))) e_cst (eqV_int _ _)) rfl) (fun x hx => e_var rfl)) (by rw [filt_no f (by decide)]; rfl))) (e_lstM e_nilA) eqV_nil))))))
end Y

set_option Elab.async false
set_option linter.all false
set_option maxRecDepth 100000
set_option maxHeartbeats 4000000
set_option autoImplicit false
/-! YE: the rules that store, the slots kept as a plain row. -/
namespace Y
open PySem PySem.Spec PyProof.Rows L2 Z
section
variable {ρ ρ0 r : En} {x y z : Val} {a b m : ME} {al : MA} {mf : ML} {xs ys : List Val} {s t : MS} {R : Rs Out} {a0 : Option SV} {a1 : Option SV} {a2 : Option SV} {a3 : Option SV} {a4 : Option SV} {a5 : Option SV} {a6 : Option SV} {a7 : Option SV} {a8 : Option SV} {a9 : Option SV} {v : Option SV}
theorem e_asg0 (h1 : m ρ = .ok (x, (v :: r))) (h2 : freeS (v :: r) 0 = true := by rfl) : asgS 0 m ρ = .ok (.nx (some (.fz x) :: r)) := e_asg h1 h2
theorem e_new0 (h1 : mf ρ = .ok (xs, (v :: r))) (h2 : freeS (v :: r) 0 = true := by rfl) : newS 0 mf ρ = .ok (.nx (some (.ow false xs) :: r)) := e_new h1 h2
theorem e_app0 {p p' : Bool} {us us' : List Val} (h0 : ρ[0]? = some (some (.ow p us)) := by rfl) (h1 : m ρ = .ok (x, (some (.ow p' us') :: r))) (h3 : us'.length < sizeLine := by exact small_lt rfl) : appS 0 m ρ = .ok (.nx (some (.ow p' (us' ++ [x])) :: r)) := e_app h0 h1 rfl h3
theorem e_callO0 {np n : Nat} {body : MS} {s0 s1 s2 : SV} (h0 : ρ[0]? = some (some s0)) (o0 : s0.own = true) (h1 : al ρ = .ok (xs, (some s1 :: r))) (o1 : s1.own = true) (hr : runO n body s1 xs = .ok (x, s2)) (hl : xs.length + 1 = np := by rfl) (hn : np ≤ n := by decide) : callO 0 np n body al ρ = .ok (x, (some s2 :: r)) := e_callO h0 o0 h1 rfl o1 hr hl hn
theorem t_name0 (h : freeS (v :: r) 0 = true := by rfl) : nameT 0 x (v :: r) = some (some (.fz x) :: r) := if_pos h
theorem e_melt0 {us : List Val} (h : s (some (.fz (.lst us)) :: r) = R) : meltS 0 s (some (.ow false us) :: r) = R := e_melt rfl h
theorem e_asg1 (h1 : m ρ = .ok (x, (a0 :: v :: r))) (h2 : freeS (a0 :: v :: r) 1 = true := by rfl) : asgS 1 m ρ = .ok (.nx (a0 :: some (.fz x) :: r)) := e_asg h1 h2
theorem e_new1 (h1 : mf ρ = .ok (xs, (a0 :: v :: r))) (h2 : freeS (a0 :: v :: r) 1 = true := by rfl) : newS 1 mf ρ = .ok (.nx (a0 :: some (.ow false xs) :: r)) := e_new h1 h2
theorem e_app1 {p p' : Bool} {us us' : List Val} (h0 : ρ[1]? = some (some (.ow p us)) := by rfl) (h1 : m ρ = .ok (x, (a0 :: some (.ow p' us') :: r))) (h3 : us'.length < sizeLine := by exact small_lt rfl) : appS 1 m ρ = .ok (.nx (a0 :: some (.ow p' (us' ++ [x])) :: r)) := e_app h0 h1 rfl h3
theorem e_callO1 {np n : Nat} {body : MS} {s0 s1 s2 : SV} (h0 : ρ[1]? = some (some s0)) (o0 : s0.own = true) (h1 : al ρ = .ok (xs, (a0 :: some s1 :: r))) (o1 : s1.own = true) (hr : runO n body s1 xs = .ok (x, s2)) (hl : xs.length + 1 = np := by rfl) (hn : np ≤ n := by decide) : callO 1 np n body al ρ = .ok (x, (a0 :: some s2 :: r)) := e_callO h0 o0 h1 rfl o1 hr hl hn
theorem t_name1 (h : freeS (a0 :: v :: r) 1 = true := by rfl) : nameT 1 x (a0 :: v :: r) = some (a0 :: some (.fz x) :: r) := if_pos h
theorem e_melt1 {us : List Val} (h : s (a0 :: some (.fz (.lst us)) :: r) = R) : meltS 1 s (a0 :: some (.ow false us) :: r) = R := e_melt rfl h
theorem e_asg2 (h1 : m ρ = .ok (x, (a0 :: a1 :: v :: r))) (h2 : freeS (a0 :: a1 :: v :: r) 2 = true := by rfl) : asgS 2 m ρ = .ok (.nx (a0 :: a1 :: some (.fz x) :: r)) := e_asg h1 h2
theorem e_new2 (h1 : mf ρ = .ok (xs, (a0 :: a1 :: v :: r))) (h2 : freeS (a0 :: a1 :: v :: r) 2 = true := by rfl) : newS 2 mf ρ = .ok (.nx (a0 :: a1 :: some (.ow false xs) :: r)) := e_new h1 h2
theorem e_app2 {p p' : Bool} {us us' : List Val} (h0 : ρ[2]? = some (some (.ow p us)) := by rfl) (h1 : m ρ = .ok (x, (a0 :: a1 :: some (.ow p' us') :: r))) (h3 : us'.length < sizeLine := by exact small_lt rfl) : appS 2 m ρ = .ok (.nx (a0 :: a1 :: some (.ow p' (us' ++ [x])) :: r)) := e_app h0 h1 rfl h3
theorem e_callO2 {np n : Nat} {body : MS} {s0 s1 s2 : SV} (h0 : ρ[2]? = some (some s0)) (o0 : s0.own = true) (h1 : al ρ = .ok (xs, (a0 :: a1 :: some s1 :: r))) (o1 : s1.own = true) (hr : runO n body s1 xs = .ok (x, s2)) (hl : xs.length + 1 = np := by rfl) (hn : np ≤ n := by decide) : callO 2 np n body al ρ = .ok (x, (a0 :: a1 :: some s2 :: r)) := e_callO h0 o0 h1 rfl o1 hr hl hn
theorem t_name2 (h : freeS (a0 :: a1 :: v :: r) 2 = true := by rfl) : nameT 2 x (a0 :: a1 :: v :: r) = some (a0 :: a1 :: some (.fz x) :: r) := if_pos h
theorem e_melt2 {us : List Val} (h : s (a0 :: a1 :: some (.fz (.lst us)) :: r) = R) : meltS 2 s (a0 :: a1 :: some (.ow false us) :: r) = R := e_melt rfl h
theorem e_asg3 (h1 : m ρ = .ok (x, (a0 :: a1 :: a2 :: v :: r))) (h2 : freeS (a0 :: a1 :: a2 :: v :: r) 3 = true := by rfl) : asgS 3 m ρ = .ok (.nx (a0 :: a1 :: a2 :: some (.fz x) :: r)) := e_asg h1 h2
theorem e_new3 (h1 : mf ρ = .ok (xs, (a0 :: a1 :: a2 :: v :: r))) (h2 : freeS (a0 :: a1 :: a2 :: v :: r) 3 = true := by rfl) : newS 3 mf ρ = .ok (.nx (a0 :: a1 :: a2 :: some (.ow false xs) :: r)) := e_new h1 h2
theorem e_app3 {p p' : Bool} {us us' : List Val} (h0 : ρ[3]? = some (some (.ow p us)) := by rfl) (h1 : m ρ = .ok (x, (a0 :: a1 :: a2 :: some (.ow p' us') :: r))) (h3 : us'.length < sizeLine := by exact small_lt rfl) : appS 3 m ρ = .ok (.nx (a0 :: a1 :: a2 :: some (.ow p' (us' ++ [x])) :: r)) := e_app h0 h1 rfl h3
theorem e_callO3 {np n : Nat} {body : MS} {s0 s1 s2 : SV} (h0 : ρ[3]? = some (some s0)) (o0 : s0.own = true) (h1 : al ρ = .ok (xs, (a0 :: a1 :: a2 :: some s1 :: r))) (o1 : s1.own = true) (hr : runO n body s1 xs = .ok (x, s2)) (hl : xs.length + 1 = np := by rfl) (hn : np ≤ n := by decide) : callO 3 np n body al ρ = .ok (x, (a0 :: a1 :: a2 :: some s2 :: r)) := e_callO h0 o0 h1 rfl o1 hr hl hn
theorem t_name3 (h : freeS (a0 :: a1 :: a2 :: v :: r) 3 = true := by rfl) : nameT 3 x (a0 :: a1 :: a2 :: v :: r) = some (a0 :: a1 :: a2 :: some (.fz x) :: r) := if_pos h
theorem e_melt3 {us : List Val} (h : s (a0 :: a1 :: a2 :: some (.fz (.lst us)) :: r) = R) : meltS 3 s (a0 :: a1 :: a2 :: some (.ow false us) :: r) = R := e_melt rfl h
theorem e_asg4 (h1 : m ρ = .ok (x, (a0 :: a1 :: a2 :: a3 :: v :: r))) (h2 : freeS (a0 :: a1 :: a2 :: a3 :: v :: r) 4 = true := by rfl) : asgS 4 m ρ = .ok (.nx (a0 :: a1 :: a2 :: a3 :: some (.fz x) :: r)) := e_asg h1 h2
theorem e_new4 (h1 : mf ρ = .ok (xs, (a0 :: a1 :: a2 :: a3 :: v :: r))) (h2 : freeS (a0 :: a1 :: a2 :: a3 :: v :: r) 4 = true := by rfl) : newS 4 mf ρ = .ok (.nx (a0 :: a1 :: a2 :: a3 :: some (.ow false xs) :: r)) := e_new h1 h2
theorem e_app4 {p p' : Bool} {us us' : List Val} (h0 : ρ[4]? = some (some (.ow p us)) := by rfl) (h1 : m ρ = .ok (x, (a0 :: a1 :: a2 :: a3 :: some (.ow p' us') :: r))) (h3 : us'.length < sizeLine := by exact small_lt rfl) : appS 4 m ρ = .ok (.nx (a0 :: a1 :: a2 :: a3 :: some (.ow p' (us' ++ [x])) :: r)) := e_app h0 h1 rfl h3
theorem e_callO4 {np n : Nat} {body : MS} {s0 s1 s2 : SV} (h0 : ρ[4]? = some (some s0)) (o0 : s0.own = true) (h1 : al ρ = .ok (xs, (a0 :: a1 :: a2 :: a3 :: some s1 :: r))) (o1 : s1.own = true) (hr : runO n body s1 xs = .ok (x, s2)) (hl : xs.length + 1 = np := by rfl) (hn : np ≤ n := by decide) : callO 4 np n body al ρ = .ok (x, (a0 :: a1 :: a2 :: a3 :: some s2 :: r)) := e_callO h0 o0 h1 rfl o1 hr hl hn
theorem t_name4 (h : freeS (a0 :: a1 :: a2 :: a3 :: v :: r) 4 = true := by rfl) : nameT 4 x (a0 :: a1 :: a2 :: a3 :: v :: r) = some (a0 :: a1 :: a2 :: a3 :: some (.fz x) :: r) := if_pos h
theorem e_melt4 {us : List Val} (h : s (a0 :: a1 :: a2 :: a3 :: some (.fz (.lst us)) :: r) = R) : meltS 4 s (a0 :: a1 :: a2 :: a3 :: some (.ow false us) :: r) = R := e_melt rfl h
theorem e_asg5 (h1 : m ρ = .ok (x, (a0 :: a1 :: a2 :: a3 :: a4 :: v :: r))) (h2 : freeS (a0 :: a1 :: a2 :: a3 :: a4 :: v :: r) 5 = true := by rfl) : asgS 5 m ρ = .ok (.nx (a0 :: a1 :: a2 :: a3 :: a4 :: some (.fz x) :: r)) := e_asg h1 h2
theorem e_new5 (h1 : mf ρ = .ok (xs, (a0 :: a1 :: a2 :: a3 :: a4 :: v :: r))) (h2 : freeS (a0 :: a1 :: a2 :: a3 :: a4 :: v :: r) 5 = true := by rfl) : newS 5 mf ρ = .ok (.nx (a0 :: a1 :: a2 :: a3 :: a4 :: some (.ow false xs) :: r)) := e_new h1 h2
theorem e_app5 {p p' : Bool} {us us' : List Val} (h0 : ρ[5]? = some (some (.ow p us)) := by rfl) (h1 : m ρ = .ok (x, (a0 :: a1 :: a2 :: a3 :: a4 :: some (.ow p' us') :: r))) (h3 : us'.length < sizeLine := by exact small_lt rfl) : appS 5 m ρ = .ok (.nx (a0 :: a1 :: a2 :: a3 :: a4 :: some (.ow p' (us' ++ [x])) :: r)) := e_app h0 h1 rfl h3
theorem e_callO5 {np n : Nat} {body : MS} {s0 s1 s2 : SV} (h0 : ρ[5]? = some (some s0)) (o0 : s0.own = true) (h1 : al ρ = .ok (xs, (a0 :: a1 :: a2 :: a3 :: a4 :: some s1 :: r))) (o1 : s1.own = true) (hr : runO n body s1 xs = .ok (x, s2)) (hl : xs.length + 1 = np := by rfl) (hn : np ≤ n := by decide) : callO 5 np n body al ρ = .ok (x, (a0 :: a1 :: a2 :: a3 :: a4 :: some s2 :: r)) := e_callO h0 o0 h1 rfl o1 hr hl hn
theorem t_name5 (h : freeS (a0 :: a1 :: a2 :: a3 :: a4 :: v :: r) 5 = true := by rfl) : nameT 5 x (a0 :: a1 :: a2 :: a3 :: a4 :: v :: r) = some (a0 :: a1 :: a2 :: a3 :: a4 :: some (.fz x) :: r) := if_pos h
theorem e_melt5 {us : List Val} (h : s (a0 :: a1 :: a2 :: a3 :: a4 :: some (.fz (.lst us)) :: r) = R) : meltS 5 s (a0 :: a1 :: a2 :: a3 :: a4 :: some (.ow false us) :: r) = R := e_melt rfl h
theorem e_asg6 (h1 : m ρ = .ok (x, (a0 :: a1 :: a2 :: a3 :: a4 :: a5 :: v :: r))) (h2 : freeS (a0 :: a1 :: a2 :: a3 :: a4 :: a5 :: v :: r) 6 = true := by rfl) : asgS 6 m ρ = .ok (.nx (a0 :: a1 :: a2 :: a3 :: a4 :: a5 :: some (.fz x) :: r)) := e_asg h1 h2
theorem e_new6 (h1 : mf ρ = .ok (xs, (a0 :: a1 :: a2 :: a3 :: a4 :: a5 :: v :: r))) (h2 : freeS (a0 :: a1 :: a2 :: a3 :: a4 :: a5 :: v :: r) 6 = true := by rfl) : newS 6 mf ρ = .ok (.nx (a0 :: a1 :: a2 :: a3 :: a4 :: a5 :: some (.ow false xs) :: r)) := e_new h1 h2
theorem e_app6 {p p' : Bool} {us us' : List Val} (h0 : ρ[6]? = some (some (.ow p us)) := by rfl) (h1 : m ρ = .ok (x, (a0 :: a1 :: a2 :: a3 :: a4 :: a5 :: some (.ow p' us') :: r))) (h3 : us'.length < sizeLine := by exact small_lt rfl) : appS 6 m ρ = .ok (.nx (a0 :: a1 :: a2 :: a3 :: a4 :: a5 :: some (.ow p' (us' ++ [x])) :: r)) := e_app h0 h1 rfl h3
theorem e_callO6 {np n : Nat} {body : MS} {s0 s1 s2 : SV} (h0 : ρ[6]? = some (some s0)) (o0 : s0.own = true) (h1 : al ρ = .ok (xs, (a0 :: a1 :: a2 :: a3 :: a4 :: a5 :: some s1 :: r))) (o1 : s1.own = true) (hr : runO n body s1 xs = .ok (x, s2)) (hl : xs.length + 1 = np := by rfl) (hn : np ≤ n := by decide) : callO 6 np n body al ρ = .ok (x, (a0 :: a1 :: a2 :: a3 :: a4 :: a5 :: some s2 :: r)) := e_callO h0 o0 h1 rfl o1 hr hl hn
theorem t_name6 (h : freeS (a0 :: a1 :: a2 :: a3 :: a4 :: a5 :: v :: r) 6 = true := by rfl) : nameT 6 x (a0 :: a1 :: a2 :: a3 :: a4 :: a5 :: v :: r) = some (a0 :: a1 :: a2 :: a3 :: a4 :: a5 :: some (.fz x) :: r) := if_pos h
theorem e_melt6 {us : List Val} (h : s (a0 :: a1 :: a2 :: a3 :: a4 :: a5 :: some (.fz (.lst us)) :: r) = R) : meltS 6 s (a0 :: a1 :: a2 :: a3 :: a4 :: a5 :: some (.ow false us) :: r) = R := e_melt rfl h
theorem e_asg7 (h1 : m ρ = .ok (x, (a0 :: a1 :: a2 :: a3 :: a4 :: a5 :: a6 :: v :: r))) (h2 : freeS (a0 :: a1 :: a2 :: a3 :: a4 :: a5 :: a6 :: v :: r) 7 = true := by rfl) : asgS 7 m ρ = .ok (.nx (a0 :: a1 :: a2 :: a3 :: a4 :: a5 :: a6 :: some (.fz x) :: r)) := e_asg h1 h2
theorem e_new7 (h1 : mf ρ = .ok (xs, (a0 :: a1 :: a2 :: a3 :: a4 :: a5 :: a6 :: v :: r))) (h2 : freeS (a0 :: a1 :: a2 :: a3 :: a4 :: a5 :: a6 :: v :: r) 7 = true := by rfl) : newS 7 mf ρ = .ok (.nx (a0 :: a1 :: a2 :: a3 :: a4 :: a5 :: a6 :: some (.ow false xs) :: r)) := e_new h1 h2
theorem e_app7 {p p' : Bool} {us us' : List Val} (h0 : ρ[7]? = some (some (.ow p us)) := by rfl) (h1 : m ρ = .ok (x, (a0 :: a1 :: a2 :: a3 :: a4 :: a5 :: a6 :: some (.ow p' us') :: r))) (h3 : us'.length < sizeLine := by exact small_lt rfl) : appS 7 m ρ = .ok (.nx (a0 :: a1 :: a2 :: a3 :: a4 :: a5 :: a6 :: some (.ow p' (us' ++ [x])) :: r)) := e_app h0 h1 rfl h3
theorem e_callO7 {np n : Nat} {body : MS} {s0 s1 s2 : SV} (h0 : ρ[7]? = some (some s0)) (o0 : s0.own = true) (h1 : al ρ = .ok (xs, (a0 :: a1 :: a2 :: a3 :: a4 :: a5 :: a6 :: some s1 :: r))) (o1 : s1.own = true) (hr : runO n body s1 xs = .ok (x, s2)) (hl : xs.length + 1 = np := by rfl) (hn : np ≤ n := by decide) : callO 7 np n body al ρ = .ok (x, (a0 :: a1 :: a2 :: a3 :: a4 :: a5 :: a6 :: some s2 :: r)) := e_callO h0 o0 h1 rfl o1 hr hl hn
theorem t_name7 (h : freeS (a0 :: a1 :: a2 :: a3 :: a4 :: a5 :: a6 :: v :: r) 7 = true := by rfl) : nameT 7 x (a0 :: a1 :: a2 :: a3 :: a4 :: a5 :: a6 :: v :: r) = some (a0 :: a1 :: a2 :: a3 :: a4 :: a5 :: a6 :: some (.fz x) :: r) := if_pos h
theorem e_melt7 {us : List Val} (h : s (a0 :: a1 :: a2 :: a3 :: a4 :: a5 :: a6 :: some (.fz (.lst us)) :: r) = R) : meltS 7 s (a0 :: a1 :: a2 :: a3 :: a4 :: a5 :: a6 :: some (.ow false us) :: r) = R := e_melt rfl h
theorem e_asg8 (h1 : m ρ = .ok (x, (a0 :: a1 :: a2 :: a3 :: a4 :: a5 :: a6 :: a7 :: v :: r))) (h2 : freeS (a0 :: a1 :: a2 :: a3 :: a4 :: a5 :: a6 :: a7 :: v :: r) 8 = true := by rfl) : asgS 8 m ρ = .ok (.nx (a0 :: a1 :: a2 :: a3 :: a4 :: a5 :: a6 :: a7 :: some (.fz x) :: r)) := e_asg h1 h2
theorem e_new8 (h1 : mf ρ = .ok (xs, (a0 :: a1 :: a2 :: a3 :: a4 :: a5 :: a6 :: a7 :: v :: r))) (h2 : freeS (a0 :: a1 :: a2 :: a3 :: a4 :: a5 :: a6 :: a7 :: v :: r) 8 = true := by rfl) : newS 8 mf ρ = .ok (.nx (a0 :: a1 :: a2 :: a3 :: a4 :: a5 :: a6 :: a7 :: some (.ow false xs) :: r)) := e_new h1 h2
theorem e_app8 {p p' : Bool} {us us' : List Val} (h0 : ρ[8]? = some (some (.ow p us)) := by rfl) (h1 : m ρ = .ok (x, (a0 :: a1 :: a2 :: a3 :: a4 :: a5 :: a6 :: a7 :: some (.ow p' us') :: r))) (h3 : us'.length < sizeLine := by exact small_lt rfl) : appS 8 m ρ = .ok (.nx (a0 :: a1 :: a2 :: a3 :: a4 :: a5 :: a6 :: a7 :: some (.ow p' (us' ++ [x])) :: r)) := e_app h0 h1 rfl h3
theorem e_callO8 {np n : Nat} {body : MS} {s0 s1 s2 : SV} (h0 : ρ[8]? = some (some s0)) (o0 : s0.own = true) (h1 : al ρ = .ok (xs, (a0 :: a1 :: a2 :: a3 :: a4 :: a5 :: a6 :: a7 :: some s1 :: r))) (o1 : s1.own = true) (hr : runO n body s1 xs = .ok (x, s2)) (hl : xs.length + 1 = np := by rfl) (hn : np ≤ n := by decide) : callO 8 np n body al ρ = .ok (x, (a0 :: a1 :: a2 :: a3 :: a4 :: a5 :: a6 :: a7 :: some s2 :: r)) := e_callO h0 o0 h1 rfl o1 hr hl hn
theorem t_name8 (h : freeS (a0 :: a1 :: a2 :: a3 :: a4 :: a5 :: a6 :: a7 :: v :: r) 8 = true := by rfl) : nameT 8 x (a0 :: a1 :: a2 :: a3 :: a4 :: a5 :: a6 :: a7 :: v :: r) = some (a0 :: a1 :: a2 :: a3 :: a4 :: a5 :: a6 :: a7 :: some (.fz x) :: r) := if_pos h
theorem e_melt8 {us : List Val} (h : s (a0 :: a1 :: a2 :: a3 :: a4 :: a5 :: a6 :: a7 :: some (.fz (.lst us)) :: r) = R) : meltS 8 s (a0 :: a1 :: a2 :: a3 :: a4 :: a5 :: a6 :: a7 :: some (.ow false us) :: r) = R := e_melt rfl h
theorem e_asg9 (h1 : m ρ = .ok (x, (a0 :: a1 :: a2 :: a3 :: a4 :: a5 :: a6 :: a7 :: a8 :: v :: r))) (h2 : freeS (a0 :: a1 :: a2 :: a3 :: a4 :: a5 :: a6 :: a7 :: a8 :: v :: r) 9 = true := by rfl) : asgS 9 m ρ = .ok (.nx (a0 :: a1 :: a2 :: a3 :: a4 :: a5 :: a6 :: a7 :: a8 :: some (.fz x) :: r)) := e_asg h1 h2
theorem e_new9 (h1 : mf ρ = .ok (xs, (a0 :: a1 :: a2 :: a3 :: a4 :: a5 :: a6 :: a7 :: a8 :: v :: r))) (h2 : freeS (a0 :: a1 :: a2 :: a3 :: a4 :: a5 :: a6 :: a7 :: a8 :: v :: r) 9 = true := by rfl) : newS 9 mf ρ = .ok (.nx (a0 :: a1 :: a2 :: a3 :: a4 :: a5 :: a6 :: a7 :: a8 :: some (.ow false xs) :: r)) := e_new h1 h2
theorem e_app9 {p p' : Bool} {us us' : List Val} (h0 : ρ[9]? = some (some (.ow p us)) := by rfl) (h1 : m ρ = .ok (x, (a0 :: a1 :: a2 :: a3 :: a4 :: a5 :: a6 :: a7 :: a8 :: some (.ow p' us') :: r))) (h3 : us'.length < sizeLine := by exact small_lt rfl) : appS 9 m ρ = .ok (.nx (a0 :: a1 :: a2 :: a3 :: a4 :: a5 :: a6 :: a7 :: a8 :: some (.ow p' (us' ++ [x])) :: r)) := e_app h0 h1 rfl h3
theorem e_callO9 {np n : Nat} {body : MS} {s0 s1 s2 : SV} (h0 : ρ[9]? = some (some s0)) (o0 : s0.own = true) (h1 : al ρ = .ok (xs, (a0 :: a1 :: a2 :: a3 :: a4 :: a5 :: a6 :: a7 :: a8 :: some s1 :: r))) (o1 : s1.own = true) (hr : runO n body s1 xs = .ok (x, s2)) (hl : xs.length + 1 = np := by rfl) (hn : np ≤ n := by decide) : callO 9 np n body al ρ = .ok (x, (a0 :: a1 :: a2 :: a3 :: a4 :: a5 :: a6 :: a7 :: a8 :: some s2 :: r)) := e_callO h0 o0 h1 rfl o1 hr hl hn
theorem t_name9 (h : freeS (a0 :: a1 :: a2 :: a3 :: a4 :: a5 :: a6 :: a7 :: a8 :: v :: r) 9 = true := by rfl) : nameT 9 x (a0 :: a1 :: a2 :: a3 :: a4 :: a5 :: a6 :: a7 :: a8 :: v :: r) = some (a0 :: a1 :: a2 :: a3 :: a4 :: a5 :: a6 :: a7 :: a8 :: some (.fz x) :: r) := if_pos h
theorem e_melt9 {us : List Val} (h : s (a0 :: a1 :: a2 :: a3 :: a4 :: a5 :: a6 :: a7 :: a8 :: some (.fz (.lst us)) :: r) = R) : meltS 9 s (a0 :: a1 :: a2 :: a3 :: a4 :: a5 :: a6 :: a7 :: a8 :: some (.ow false us) :: r) = R := e_melt rfl h
theorem t_tup2 {i j : MT} {ρ1 ρ2 : En} (h1 : i x ρ = some ρ1) (h2 : j y ρ1 = some ρ2) : tupT 2 (consT i (consT j nilT)) (.tup [x, y]) ρ = some ρ2 := by
  show (i x ρ).bind (consT j nilT [y]) = _
  rw [h1]
  show (j y ρ1).bind (nilT []) = _
  rw [h2]
  rfl
theorem e_par2 {i j : Nat} {u w : Val} {ρ1 ρ2 ρ3 : En} (h1 : al ρ = .ok ([u, w], ρ1)) (h2 : nameT i u ρ1 = some ρ2) (h3 : nameT j w ρ2 = some ρ3) : parS i j al ρ = .ok (.nx ρ3) := by
  unfold nameT at h2 h3
  split at h2
  · rename_i f1
    cases h2
    split at h3
    · rename_i f2
      cases h3
      exact e_par h1 ⟨f1, f2⟩
    · cases h3
  · cases h2
/-- a step of a comprehension that tells nothing -/
theorem e_cLk {vs : List Nat} {t : MT} {c : MB} {e : ME} {ρ1 : En} {k : Bool} {R : Rs (List Val × En)} (h0 : wipeE ρ vs = ρ) (h1 : t x ρ = some ρ1) (h2 : c ρ1 = .ok (k, ρ1)) (hk : k = false) (h3 : vs.all (freeS ρ1) = true) (h5 : wipeE ρ1 vs = ρ) (h4 : compL vs t c e xs ρ = R) : compL vs t c e (x :: xs) ρ = R := by
  subst hk
  unfold compL
  rw [h0, h1, Rs.opt_some, Rs.ok_bind, h2]
  simp only [noX, Rs.ok_bind, Bool.false_eq_true, if_false]
  rw [if_pos h3, h5]
  exact h4
theorem e_runO0 {n : Nat} {body : MS} {s0 s1 : SV} (ρ0 : En) {ρ1 : En} (h0 : padE (some (s0.setPin true) :: xs.map fun x => some (.fz x)) n = ρ0) (h : body ρ0 = .ok (.rt x ρ1)) (h2 : ρ1[0]? = some (some s1)) : runO n body s0 xs = .ok (x, s1.setPin s0.pin) := by
  subst h0
  exact e_runO h h2
end
end Y

set_option Elab.async false
set_option linter.all false
set_option maxRecDepth 100000
set_option maxHeartbeats 400000
set_option autoImplicit false
/-! lowest is right -/
namespace Y
open PySem PySem.Spec PyProof.Rows L2 Z
theorem isFr_two (n d : Int) : isFr (n * 2) (d * 2) = false := by
  have e : Nat.gcd (n * 2).natAbs (d * 2).natAbs = Nat.gcd n.natAbs d.natAbs * 2 := by
    rw [Int.natAbs_mul, Int.natAbs_mul]
    exact Nat.gcd_mul_right _ _ _
  unfold isFr
  rw [e, Bool.and_eq_false_iff]
  right
  rw [decide_eq_false_iff_not]
  omega
theorem low_scale {t b y : Int} (b0 : b ≠ 0) (y0 : y ≠ 0) : low (t * y) (b * y) = low t b := by
  obtain ⟨f, cr⟩ := low_spec (a := t) b0
  exact (low_is (n := (low t b).1) (d := (low t b).2) (Int.mul_ne_zero b0 y0) f (by
    generalize (low t b).1 = n at *
    generalize (low t b).2 = d at *
    clear f
    grind)).trans rfl
theorem lr_s1 {s0 s1 s2 s3 s4 : SV} {t v2 v3 b : Int} (o0 : s0.own = true) (o1 : s1.own = true) (o2 : s2.own = true) (o3 : s3.own = true) (e1 : runO 1 b__law_integer s0 [] = .ok (.int t, s1)) (e2 : runO 6 b__law_sip s1 [.int 99] = .ok (.int v2, s2)) (e3 : runO 6 b__law_sip s2 [.int 99] = .ok (.int v3, s3))
    (e4 : runO 2 b__law_pick s3 [.lst [.int (-7), .int 12, .int 60, .int (-1), .int 1, .int 100000000000000000000, .int (v2 + 1), .int (-v3 - 1)]] = .ok (.int b, s4)) : (parS 1 2 (consA (callO 0 1 1 b__law_integer nilA) (consA (callO 0 2 2 b__law_pick (consA (lstM (consA (unM negV (cstM (.int 7))) (consA (cstM (.int 12)) (consA (cstM (.int 60)) (consA (unM negV (cstM (.int 1))) (consA (cstM (.int 1)) (consA (binM powV (cstM (.int 10)) (cstM (.int 20))) (consA (binM addV (callO 0 2 6 b__law_sip (consA (cstM (.int 99)) nilA)) (cstM (.int 1))) (consA (binM subV (unM negV (callO 0 2 6 b__law_sip (consA (cstM (.int 99)) nilA))) (cstM (.int 1))) nilA))))))))) nilA)) nilA))) [some s0, none, none, none, none] = .ok (.nx [some s4, some (.fz (.int t)), some (.fz (.int b)), none, none]) :=
  e_par2 (e_consA (e_callO0 rfl o0 e_nilA o0 e1) (e_consA (e_callO0 rfl o1 (e_consA (e_lstM (e_consA (e_un e_cst rfl) (e_consA e_cst (e_consA e_cst (e_consA (e_un e_cst rfl) (e_consA e_cst (e_consA (e_bin e_cst e_cst powV_20)
      (e_consA (e_bin (e_callO0 rfl o1 (e_consA e_cst e_nilA) o1 e2) e_cst (addV_int _ _)) (e_consA (e_bin (e_un (e_callO0 rfl o2 (e_consA e_cst e_nilA) o2 e3) rfl) e_cst (subV_int _ _)) e_nilA))))))))) e_nilA) o3 e4) e_nilA)) t_name1 t_name2
theorem lr_s2 {s4 s5 : SV} {t b v5 : Int} (b0 : b ≠ 0) (bb : Bd 110 b) (o4 : s4.own = true) (e5 : runO 6 b__law_sip s4 [.int 50] = .ok (.int v5, s5)) : (parS 3 4 (consA (callM 2 3 b_lowest (consA (varM 1) (consA (varM 2) nilA))) (consA (binM addV (cstM (.int 1)) (callO 0 2 6 b__law_sip (consA (cstM (.int 50)) nilA))) nilA))) [some s4, some (.fz (.int t)), some (.fz (.int b)), none, none] = .ok (.nx [some s5, some (.fz (.int t)), some (.fz (.int b)), some (.fz (fV (low t b))), some (.fz (.int (1 + v5)))]) :=
  e_par2 (e_consA (e_callM (e_consA (e_var rfl) (e_consA (e_var rfl) e_nilA)) (v_lowest b0 bb.big)) (e_consA (e_bin e_cst (e_callO0 rfl o4 (e_consA e_cst e_nilA) o4 e5) (addV_int _ _)) e_nilA)) t_name3 t_name4
theorem lr_s3 {s5 : SV} {t b v5 : Int} (b0 : b ≠ 0) (y0 : 1 + v5 ≠ 0) (f : Fr (low t b).1 (low t b).2) (cr : (low t b).1 * b = t * (low t b).2) (bt : Bd 110 t) (bb : Bd 110 b) (by5 : Bd 110 (1 + v5)) (bn : Bd 110 (low t b).1) (bd : Bd 110 (low t b).2) (same : low (t * (1 + v5)) (b * (1 + v5)) = low t b) : (ifS (orB (notB (tstM truV (callM 1 4 b__law_is_lowest (consA (varM 3) nilA)))) (orB (tstM blV (binM neV (binM mulV (binM ixV (varM 3) (cstM (.int 0))) (varM 2)) (binM mulV (varM 1) (binM ixV (varM 3) (cstM (.int 1)))))) (tstM blV (binM neV (callM 2 3 b_lowest (pickM 2 [1, 0] (consA (binM mulV (varM 2) (varM 4)) (consA (binM mulV (varM 1) (varM 4)) nilA)))) (varM 3))))) (retS (cstM (.bl false))) nextS) [some s5, some (.fz (.int t)), some (.fz (.int b)), some (.fz (fV (low t b))), some (.fz (.int (1 + v5)))] = .ok (.nx [some s5, some (.fz (.int t)), some (.fz (.int b)), some (.fz (fV (low t b))), some (.fz (.int (1 + v5)))]) :=
  e_ifF (e_orB (e_notB (e_tst (e_callM (e_consA (e_var rfl) e_nilA) (v_is_lowest f)) rfl)) fun _ => e_orB (e_tst (e_bin (e_bin (e_bin (e_var rfl) e_cst rfl) (e_var rfl) (mulV_int bn.big bb.big)) (e_bin (e_var rfl) (e_bin (e_var rfl) e_cst rfl) (mulV_int bt.big bd.big)) (neV_int _ _)) rfl) fun _ =>
        e_tst (e_bin (e_callM (e_pickM (e_consA (e_bin (e_var rfl) (e_var rfl) (mulV_int bb.big by5.big)) (e_consA (e_bin (e_var rfl) (e_var rfl) (mulV_int bt.big by5.big)) e_nilA)) rfl) (v_lowest (Int.mul_ne_zero b0 y0) (bb.mul (m := 220) by5).big)) (e_var rfl) (neV_tup2 _ _ _ _)) rfl) (by rw [same, cr]; simp) e_next
theorem two : Bd 64 2 := by unfold Bd; decide
theorem v_two (n d : Int) : runV 1 b_is_fraction [.tup [.int (n * 2), .int (d * 2)]] = .ok (.bl false) := by rw [v_is_fraction, isFr_two]
theorem lr_s4 {s5 : SV} {t b v5 : Int} (f : Fr (low t b).1 (low t b).2) (bn : Bd 110 (low t b).1) (bd : Bd 110 (low t b).2) : (retS (andM (binM isBV (callM 1 1 b_is_fraction (consA (varM 3) nilA)) (cstM (.bl true))) (andM (binM isBV (callM 1 1 b_is_fraction (pickM 1 [0] (consA (listM (cfM listV (consA (varM 3) nilA))) nilA))) (cstM (.bl true))) (binM isBV (callM 1 1 b_is_fraction (consA (tupM (consA (binM mulV (binM ixV (varM 3) (cstM (.int 0))) (cstM (.int 2))) (consA (binM mulV (binM ixV (varM 3) (cstM (.int 1))) (cstM (.int 2))) nilA))) nilA)) (cstM (.bl false)))))) [some s5, some (.fz (.int t)), some (.fz (.int b)), some (.fz (fV (low t b))), some (.fz (.int (1 + v5)))] = .ok (.rt (.bl true) [some s5, some (.fz (.int t)), some (.fz (.int b)), some (.fz (fV (low t b))), some (.fz (.int (1 + v5)))]) :=
  e_ret (e_andM (k := true) (l := true && true) (e_bin (e_callM (e_consA (e_var rfl) e_nilA) ((FrV.fV _).is f)) e_cst rfl) fun _ => e_andM (k := true) (l := true) (e_bin (e_callM (e_pickM (e_consA (e_listM (e_cfM (e_consA (e_var rfl) e_nilA) rfl)) e_nilA) rfl) ((show FrV (.lst [.int (low t b).1, .int (low t b).2]) (low t b).1 (low t b).2 from .inr rfl).is f)) e_cst rfl) fun _ =>
        e_bin (e_callM (e_consA (e_tupM (e_consA (e_bin (e_bin (e_var rfl) e_cst rfl) e_cst (mulV_int bn.big two.big)) (e_consA (e_bin (e_bin (e_var rfl) e_cst rfl) e_cst (mulV_int bd.big two.big)) e_nilA))) e_nilA) (v_two _ _)) e_cst rfl)
theorem lr_ok {k : Nat} {s : SV} (h : Cup k s) (hk : k + 9 ≤ 1000) : ∃ s', runO 5 b__law_lowest_right s [] = .ok (.bl true, s') ∧ Cup (k + 9) s' := by
  have h := h.setPin (q := true)
  obtain ⟨t, s1, e1, bt, c1⟩ := integer_ok h (by omega)
  obtain ⟨v2, s2, e2, a2, b2, c2⟩ := sip_ok (many := 99) c1 (by omega) (by decide) (.lt (by decide))
  obtain ⟨v3, s3, e3, a3, b3, c3⟩ := sip_ok (many := 99) c2 (by omega) (by decide) (.lt (by decide))
  obtain ⟨x, s4, hx, e4, c4⟩ := pick_ok (xs := [.int (-7), .int 12, .int 60, .int (-1), .int 1, .int 100000000000000000000, .int (v2 + 1), .int (-v3 - 1)]) c3 (by omega) (by simp) (by simp)
  obtain ⟨b, rfl, b0, bb⟩ : ∃ b, x = .int b ∧ b ≠ 0 ∧ Bd 110 b := by
    simp only [List.mem_cons, List.not_mem_nil, or_false] at hx
    rcases hx with rfl | rfl | rfl | rfl | rfl | rfl | rfl | rfl <;> exact ⟨_, rfl, by omega, by unfold Bd; omega⟩
  obtain ⟨v5, s5, e5, a5, b5, c5⟩ := sip_ok (many := 50) c4 (by omega) (by decide) (.lt (by decide))
  obtain ⟨f, cr⟩ := low_spec (a := t) b0
  obtain ⟨bn, bd⟩ := Bd.low b0 bt bb
  have y0 : 1 + v5 ≠ 0 := by omega
  have by5 : Bd 110 (1 + v5) := .lt (by omega)
  have same : low (t * (1 + v5)) (b * (1 + v5)) = low t b := low_scale b0 y0
  exact ⟨_, e_runO0 [some (s.setPin true), none, none, none, none] rfl (e_seq (lr_s1 h.own c1.own c2.own c3.own e1 e2 e3 e4) (e_seq (lr_s2 b0 bb c4.own e5) (e_seq (lr_s3 b0 y0 f cr bt bb by5 bn bd same) (lr_s4 f bn bd)))) rfl, c5.setPin⟩
end Y

set_option Elab.async false
set_option linter.all false
set_option maxRecDepth 100000
set_option maxHeartbeats 4000000
set_option autoImplicit false
/-! reckoned is right -/
namespace Y
open PySem PySem.Spec PyProof.Rows L2 Z
theorem e_cL0 {vs : List Nat} {t : MT} {c : MB} {e : ME} {ρ : En} : compL vs t c e [] ρ = .ok ([], ρ) := rfl
theorem e_cLn {vs : List Nat} {t : MT} {c : MB} {e : ME} {ρ ρ1 ρ2 : En} {x : Val} {xs : List Val} {k : Bool} {R : Rs (List Val × En)} (h1 : t x (wipeE ρ vs) = some ρ1) (h2 : c ρ1 = .ok (k, ρ2)) (hk : k = false) (h3 : vs.all (freeS ρ2) = true) (h4 : compL vs t c e xs (wipeE ρ2 vs) = R) : compL vs t c e (x :: xs) ρ = R := by
  subst hk
  unfold compL
  rw [h1, Rs.opt_some, Rs.ok_bind, h2]
  simp only [noX, Rs.ok_bind, Bool.false_eq_true, if_false]
  rw [if_pos h3]
  exact h4
theorem e_enum {al : MA} {ρ ρ1 : En} {xs : List Val} (h : al ρ = .ok ([.lst xs], ρ1)) : enumM al ρ = .ok (enumL 0 xs, ρ1) := by
  unfold enumM; rw [h]; rfl
theorem eqV_other : eqV (.str ("other" : Str)) (.str ("other" : Str)) = some (.bl true) := by
  simp [eqV, dat, PyData.eqv, SeqAt.shaped, PyData.canLay0, PyData.depth]
  decide +kernel
theorem fr01 : Fr 0 1 := ⟨by decide, by decide⟩
section
variable {a b c d : Int}
theorem rk_less (f1 : Fr a b) (f2 : Fr c d) : low ((low (a * d + c * b) (b * d)).1 * d - c * (low (a * d + c * b) (b * d)).2) ((low (a * d + c * b) (b * d)).2 * d) = (a, b) := by
  have b0 : b ≠ 0 := by have := f1.1; omega
  have d0 : d ≠ 0 := by have := f2.1; omega
  obtain ⟨f, cr⟩ := low_spec (a := a * d + c * b) (b := b * d) (Int.mul_ne_zero b0 d0)
  generalize (low (a * d + c * b) (b * d)).1 = n at *
  generalize (low (a * d + c * b) (b * d)).2 = m at *
  exact low_is (Int.mul_ne_zero (by have := f.1; omega) d0) f1 (by grind)
theorem rk_plus (f1 : Fr a b) (f2 : Fr c d) : low ((low (a * d - c * b) (b * d)).1 * d + c * (low (a * d - c * b) (b * d)).2) ((low (a * d - c * b) (b * d)).2 * d) = (a, b) := by
  have b0 : b ≠ 0 := by have := f1.1; omega
  have d0 : d ≠ 0 := by have := f2.1; omega
  obtain ⟨f, cr⟩ := low_spec (a := a * d - c * b) (b := b * d) (Int.mul_ne_zero b0 d0)
  generalize (low (a * d - c * b) (b * d)).1 = n at *
  generalize (low (a * d - c * b) (b * d)).2 = m at *
  exact low_is (Int.mul_ne_zero (by have := f.1; omega) d0) f1 (by grind)
theorem rk_times (f1 : Fr a b) (f2 : Fr c d) (c0 : c ≠ 0) : low ((low (a * d) (b * c)).1 * c) ((low (a * d) (b * c)).2 * d) = (a, b) := by
  have b0 : b ≠ 0 := by have := f1.1; omega
  have d0 : d ≠ 0 := by have := f2.1; omega
  obtain ⟨f, cr⟩ := low_spec (a := a * d) (b := b * c) (Int.mul_ne_zero b0 c0)
  generalize (low (a * d) (b * c)).1 = n at *
  generalize (low (a * d) (b * c)).2 = m at *
  exact low_is (Int.mul_ne_zero (by have := f.1; omega) d0) f1 (by grind)
theorem rk_over (f1 : Fr a b) (f2 : Fr c d) (c0 : c ≠ 0) : low ((low (a * c) (b * d)).1 * d) ((low (a * c) (b * d)).2 * c) = (a, b) := by
  have b0 : b ≠ 0 := by have := f1.1; omega
  have d0 : d ≠ 0 := by have := f2.1; omega
  obtain ⟨f, cr⟩ := low_spec (a := a * c) (b := b * d) (Int.mul_ne_zero b0 d0)
  generalize (low (a * c) (b * d)).1 = n at *
  generalize (low (a * c) (b * d)).2 = m at *
  exact low_is (Int.mul_ne_zero (by have := f.1; omega) c0) f1 (by grind)
end
end Y

set_option Elab.async false
set_option linter.all false
set_option maxRecDepth 100000
set_option maxHeartbeats 200000
set_option autoImplicit false
/-! reckoned is right: the def -/
namespace Y
open PySem PySem.Spec PyProof.Rows L2 Z
theorem frL (p : Int × Int) : FrV (.lst [.int p.1, .int p.2]) p.1 p.2 := .inr rfl
theorem frT (n d : Int) : FrV (fV (n, d)) n d := .inl rfl
/-- three values told, none of it wrong -/
theorem rr_told {s2 : SV} {a b c d : Int} (f1 : Fr a b) (f2 : Fr c d) (ba : Bd 110 a) (bb : Bd 110 b) (bc : Bd 110 c) (bd : Bd 110 d) :
    asgS 3 (lstM (consA (callM 2 2 b_plus (pickM 2 [0, 1] (consA (varM 1) (consA (varM 2) nilA)))) (consA (callM 2 2 b_less (pickM 2 [1, 0] (consA (varM 2) (consA (listM (cfM listV (consA (varM 1) nilA))) nilA)))) (consA (callM 2 2 b_times (pickM 2 [0, 1] (consA (varM 1) (consA (listM (cfM listV (consA (varM 2) nilA))) nilA)))) nilA))))
      [some s2, some (.fz (fV (a, b))), some (.fz (fV (c, d))), none, none, none, none, none, none] =
    .ok (.nx [some s2, some (.fz (fV (a, b))), some (.fz (fV (c, d))), some (.fz (.lst [fV (low (a * d + c * b) (b * d)), fV (low (a * d - c * b) (b * d)), fV (low (a * c) (b * d))])), none, none, none, none, none]) :=
  e_asg3 (e_lstM (e_consA (e_callM (e_pickM (e_consA (e_var rfl) (e_consA (e_var rfl) e_nilA)) rfl) (v_plus (frT a b) (frT c d) f1 f2 ba.mono bb.mono bc.mono bd.mono))
    (e_consA (e_callM (e_pickM (e_consA (e_var rfl) (e_consA (e_listM (e_cfM (e_consA (e_var rfl) e_nilA) rfl)) e_nilA)) rfl) (v_less (frL (a, b)) (frT c d) f1 f2 ba.mono bb.mono bc.mono bd.mono))
    (e_consA (e_callM (e_pickM (e_consA (e_var rfl) (e_consA (e_listM (e_cfM (e_consA (e_var rfl) e_nilA) rfl)) e_nilA)) rfl) (v_times (frT a b) (frL (c, d)) f1 f2 ba.mono bb.mono bc.mono bd.mono)) e_nilA))))
theorem rr_low {s2 : SV} {x y : Val} {P L T : Int × Int} (hP : Fr P.1 P.2) (hL : Fr L.1 L.2) (hT : Fr T.1 T.2) :
    ifS (tstM blV (binM neV (listM (compF [4] (walkM seqV (varM 3)) (nameT 4) (notB (tstM truV (callM 1 4 b__law_is_lowest (consA (varM 4) nilA)))) (varM 4))) (lstM nilA))) (retS (cstM (.bl false))) nextS
      [some s2, some (.fz x), some (.fz y), some (.fz (.lst [fV P, fV L, fV T])), none, none, none, none, none] =
    .ok (.nx [some s2, some (.fz x), some (.fz y), some (.fz (.lst [fV P, fV L, fV T])), none, none, none, none, none]) :=
  e_ifF (e_tst (e_bin (e_listM (e_compF (e_walkM (e_var rfl) rfl) (small_lt rfl) rfl
    (e_cLk rfl t_name4 (e_notB (e_tst (e_callM (e_consA (e_var rfl) e_nilA) (v_is_lowest hP)) rfl)) rfl rfl rfl (e_cLk rfl t_name4 (e_notB (e_tst (e_callM (e_consA (e_var rfl) e_nilA) (v_is_lowest hL)) rfl)) rfl rfl rfl (e_cLk rfl t_name4 (e_notB (e_tst (e_callM (e_consA (e_var rfl) e_nilA) (v_is_lowest hT)) rfl)) rfl rfl rfl e_cL0))))) (e_lstM e_nilA) neV_nil) rfl) rfl e_next
theorem rr_cross {s2 : SV} {x y : Val} {P L T : Int × Int} {m t0 t1 t2 : Int} (hP : P.1 * m = t0 * P.2) (hL : L.1 * m = t1 * L.2) (hT : T.1 * m = t2 * T.2) (bm : Bd 1000 m)
    (b0 : Bd 1000 P.1) (b1 : Bd 1000 P.2) (b2 : Bd 1000 L.1) (b3 : Bd 1000 L.2) (b4 : Bd 1000 T.1) (b5 : Bd 1000 T.2) (b6 : Bd 1000 t0) (b7 : Bd 1000 t1) (b8 : Bd 1000 t2) :
    ifS (tstM blV (binM neV (listM (compF [7, 4] (enumM (consA (varM 3) nilA)) (tupT 2 (consT (nameT 7) (consT (nameT 4) nilT))) (tstM blV (binM neV (binM mulV (binM ixV (varM 4) (cstM (.int 0))) (varM 5)) (binM mulV (binM ixV (varM 6) (varM 7)) (binM ixV (varM 4) (cstM (.int 1)))))) (varM 7))) (lstM nilA))) (retS (cstM (.bl false))) nextS
      [some s2, some (.fz x), some (.fz y), some (.fz (.lst [fV P, fV L, fV T])), none, some (.fz (.int m)), some (.fz (.lst [.int t0, .int t1, .int t2])), none, none] =
    .ok (.nx [some s2, some (.fz x), some (.fz y), some (.fz (.lst [fV P, fV L, fV T])), none, some (.fz (.int m)), some (.fz (.lst [.int t0, .int t1, .int t2])), none, none]) :=
  e_ifF (e_tst (e_bin (e_listM (e_compF (e_enum (e_consA (e_var rfl) e_nilA)) (small_lt rfl) rfl
    (e_cLk rfl (t_tup2 t_name7 t_name4) (e_tst (e_bin (e_bin (e_bin (e_var rfl) e_cst rfl) (e_var rfl) (mulV_int b0.big bm.big)) (e_bin (e_bin (e_var rfl) (e_var rfl) rfl) (e_bin (e_var rfl) e_cst rfl) (mulV_int b6.big b1.big)) (neV_int _ _)) rfl) (by rw [hP]; simp) rfl rfl
    (e_cLk rfl (t_tup2 t_name7 t_name4) (e_tst (e_bin (e_bin (e_bin (e_var rfl) e_cst rfl) (e_var rfl) (mulV_int b2.big bm.big)) (e_bin (e_bin (e_var rfl) (e_var rfl) rfl) (e_bin (e_var rfl) e_cst rfl) (mulV_int b7.big b3.big)) (neV_int _ _)) rfl) (by rw [hL]; simp) rfl rfl
    (e_cLk rfl (t_tup2 t_name7 t_name4) (e_tst (e_bin (e_bin (e_bin (e_var rfl) e_cst rfl) (e_var rfl) (mulV_int b4.big bm.big)) (e_bin (e_bin (e_var rfl) (e_var rfl) rfl) (e_bin (e_var rfl) e_cst rfl) (mulV_int b8.big b5.big)) (neV_int _ _)) rfl) (by rw [hT]; simp) rfl rfl e_cL0))))) (e_lstM e_nilA) neV_nil) rfl) rfl e_next
end Y

set_option Elab.async false
set_option linter.all false
set_option maxRecDepth 100000
set_option maxHeartbeats 400000
set_option autoImplicit false
/-! reckoned is right: the rest -/
namespace Y
open PySem PySem.Spec PyProof.Rows L2 Z
theorem rr_s1 {s0 s1 s2 : SV} {a b c d : Int} (o0 : s0.own = true) (o1 : s1.own = true) (e1 : runO 5 b__law_fraction s0 [] = .ok (fV (a, b), s1)) (e2 : runO 5 b__law_fraction s1 [] = .ok (fV (c, d), s2)) : (asgT (tupT 2 (consT (nameT 1) (consT (nameT 2) nilT))) (tupM (consA (callO 0 1 5 b__law_fraction nilA) (consA (callO 0 1 5 b__law_fraction nilA) nilA)))) [some s0, none, none, none, none, none, none, none, none] = .ok (.nx [some s2, some (.fz (fV (a, b))), some (.fz (fV (c, d))), none, none, none, none, none, none]) :=
  e_asgT (e_tupM (e_consA (e_callO0 rfl o0 e_nilA o0 e1) (e_consA (e_callO0 rfl o1 e_nilA o1 e2) e_nilA))) (t_tup2 t_name1 t_name2)
theorem rr_s4 {s2 : SV} {a b c d : Int} (f1 : Fr a b) (f2 : Fr c d) (ba : Bd 110 a) (bb : Bd 110 b) (bc : Bd 110 c) (bd : Bd 110 d) : (asgS 5 (binM mulV (binM ixV (varM 1) (cstM (.int 1))) (binM ixV (varM 2) (cstM (.int 1))))) [some s2, some (.fz (fV (a, b))), some (.fz (fV (c, d))), some (.fz (.lst [fV (low (a * d + c * b) (b * d)), fV (low (a * d - c * b) (b * d)), fV (low (a * c) (b * d))])), none, none, none, none, none] = .ok (.nx [some s2, some (.fz (fV (a, b))), some (.fz (fV (c, d))), some (.fz (.lst [fV (low (a * d + c * b) (b * d)), fV (low (a * d - c * b) (b * d)), fV (low (a * c) (b * d))])), none, some (.fz (.int (b * d))), none, none, none]) :=
  e_asg5 (e_bin (e_bin (e_var rfl) e_cst rfl) (e_bin (e_var rfl) e_cst rfl) (mulV_int bb.big bd.big))
theorem rr_s5 {s2 : SV} {a b c d : Int} (f1 : Fr a b) (f2 : Fr c d) (ba : Bd 110 a) (bb : Bd 110 b) (bc : Bd 110 c) (bd : Bd 110 d) : (asgS 6 (lstM (consA (binM addV (binM mulV (binM ixV (varM 1) (cstM (.int 0))) (binM ixV (varM 2) (cstM (.int 1)))) (binM mulV (binM ixV (varM 2) (cstM (.int 0))) (binM ixV (varM 1) (cstM (.int 1))))) (consA (binM subV (binM mulV (binM ixV (varM 1) (cstM (.int 0))) (binM ixV (varM 2) (cstM (.int 1)))) (binM mulV (binM ixV (varM 2) (cstM (.int 0))) (binM ixV (varM 1) (cstM (.int 1))))) (consA (binM mulV (binM ixV (varM 1) (cstM (.int 0))) (binM ixV (varM 2) (cstM (.int 0)))) nilA))))) [some s2, some (.fz (fV (a, b))), some (.fz (fV (c, d))), some (.fz (.lst [fV (low (a * d + c * b) (b * d)), fV (low (a * d - c * b) (b * d)), fV (low (a * c) (b * d))])), none, some (.fz (.int (b * d))), none, none, none] = .ok (.nx [some s2, some (.fz (fV (a, b))), some (.fz (fV (c, d))), some (.fz (.lst [fV (low (a * d + c * b) (b * d)), fV (low (a * d - c * b) (b * d)), fV (low (a * c) (b * d))])), none, some (.fz (.int (b * d))), some (.fz (.lst [.int (a * d + c * b), .int (a * d - c * b), .int (a * c)])), none, none]) :=
  e_asg6 (e_lstM (e_consA (e_bin (e_bin (e_bin (e_var rfl) e_cst rfl) (e_bin (e_var rfl) e_cst rfl) (mulV_int ba.big bd.big)) (e_bin (e_bin (e_var rfl) e_cst rfl) (e_bin (e_var rfl) e_cst rfl) (mulV_int bc.big bb.big)) (addV_int _ _))
    (e_consA (e_bin (e_bin (e_bin (e_var rfl) e_cst rfl) (e_bin (e_var rfl) e_cst rfl) (mulV_int ba.big bd.big)) (e_bin (e_bin (e_var rfl) e_cst rfl) (e_bin (e_var rfl) e_cst rfl) (mulV_int bc.big bb.big)) (subV_int _ _))
    (e_consA (e_bin (e_bin (e_var rfl) e_cst rfl) (e_bin (e_var rfl) e_cst rfl) (mulV_int ba.big bc.big)) e_nilA))))
theorem low_comm_add (a b c d : Int) : low (c * b + a * d) (d * b) = (low (a * d + c * b) (b * d)) := by rw [Int.add_comm (c * b), Int.mul_comm d b]
theorem low_comm_mul (a b c d : Int) : low (c * a) (d * b) = (low (a * c) (b * d)) := by rw [Int.mul_comm c a, Int.mul_comm d b]
theorem neV_fr {p q : Int × Int} (h : p = q) : neV (fV p) (fV q) = some (.bl false) := by
  subst h
  show neV (.tup [.int p.1, .int p.2]) (.tup [.int p.1, .int p.2]) = _
  rw [neV_tup2]; simp
theorem eqV_fr {p q : Int × Int} (h : p = q) : eqV (fV p) (fV q) = some (.bl true) := by
  subst h
  show eqV (.tup [.int p.1, .int p.2]) (.tup [.int p.1, .int p.2]) = _
  rw [eqV_tup2]; simp
theorem rr_s7 {s2 : SV} {a b c d : Int} (f1 : Fr a b) (f2 : Fr c d) (ba : Bd 110 a) (bb : Bd 110 b) (bc : Bd 110 c) (bd : Bd 110 d) (hP : Fr (low (a * d + c * b) (b * d)).1 (low (a * d + c * b) (b * d)).2) (hL : Fr (low (a * d - c * b) (b * d)).1 (low (a * d - c * b) (b * d)).2) (p1 : Bd 1000 (low (a * d + c * b) (b * d)).1) (p2 : Bd 1000 (low (a * d + c * b) (b * d)).2) (l1 : Bd 1000 (low (a * d - c * b) (b * d)).1) (l2 : Bd 1000 (low (a * d - c * b) (b * d)).2) : (ifS (orB (tstM blV (binM neV (callM 2 2 b_less (consA (binM ixV (varM 3) (cstM (.int 0))) (consA (varM 2) nilA))) (varM 1))) (orB (tstM blV (binM neV (callM 2 2 b_plus (consA (binM ixV (varM 3) (cstM (.int 1))) (consA (varM 2) nilA))) (varM 1))) (orB (tstM blV (binM neV (callM 2 2 b_plus (pickM 2 [1, 0] (consA (varM 1) (consA (varM 2) nilA)))) (binM ixV (varM 3) (cstM (.int 0))))) (tstM blV (binM neV (callM 2 2 b_times (consA (varM 2) (consA (varM 1) nilA))) (binM ixV (varM 3) (cstM (.int 2)))))))) (retS (cstM (.bl false))) nextS) [some s2, some (.fz (fV (a, b))), some (.fz (fV (c, d))), some (.fz (.lst [fV (low (a * d + c * b) (b * d)), fV (low (a * d - c * b) (b * d)), fV (low (a * c) (b * d))])), none, some (.fz (.int (b * d))), some (.fz (.lst [.int (a * d + c * b), .int (a * d - c * b), .int (a * c)])), none, none] = .ok (.nx [some s2, some (.fz (fV (a, b))), some (.fz (fV (c, d))), some (.fz (.lst [fV (low (a * d + c * b) (b * d)), fV (low (a * d - c * b) (b * d)), fV (low (a * c) (b * d))])), none, some (.fz (.int (b * d))), some (.fz (.lst [.int (a * d + c * b), .int (a * d - c * b), .int (a * c)])), none, none]) :=
  e_ifF (e_orB (k := false) (l := false || (false || false)) (e_tst (e_bin (e_callM (e_consA (e_bin (e_var rfl) e_cst rfl) (e_consA (e_var rfl) e_nilA)) (v_less (frT (low (a * d + c * b) (b * d)).1 (low (a * d + c * b) (b * d)).2) (frT c d) hP f2 p1 p2 bc.mono bd.mono)) (e_var rfl) (neV_fr (rk_less f1 f2))) rfl) fun _ =>
    e_orB (k := false) (l := false || false) (e_tst (e_bin (e_callM (e_consA (e_bin (e_var rfl) e_cst rfl) (e_consA (e_var rfl) e_nilA)) (v_plus (frT (low (a * d - c * b) (b * d)).1 (low (a * d - c * b) (b * d)).2) (frT c d) hL f2 l1 l2 bc.mono bd.mono)) (e_var rfl) (neV_fr (rk_plus f1 f2))) rfl) fun _ =>
    e_orB (k := false) (l := false) (e_tst (e_bin (e_callM (e_pickM (e_consA (e_var rfl) (e_consA (e_var rfl) e_nilA)) rfl) (v_plus (frT c d) (frT a b) f2 f1 bc.mono bd.mono ba.mono bb.mono)) (e_bin (e_var rfl) e_cst rfl) (neV_fr (low_comm_add a b c d))) rfl) fun _ =>
    e_tst (e_bin (e_callM (e_consA (e_var rfl) (e_consA (e_var rfl) e_nilA)) (v_times (frT c d) (frT a b) f2 f1 bc.mono bd.mono ba.mono bb.mono)) (e_bin (e_var rfl) e_cst rfl) (neV_fr (low_comm_mul a b c d))) rfl) rfl e_next
end Y

set_option Elab.async false
set_option linter.all false
set_option maxRecDepth 100000
set_option maxHeartbeats 400000
set_option autoImplicit false
/-! reckoned is right: the end -/
namespace Y
open PySem PySem.Spec PyProof.Rows L2 Z
theorem low_zero {a b d : Int} (hb : b ≠ 0) (hd : d ≠ 0) : low (a * 0) (b * d) = (0, 1) := low_is (Int.mul_ne_zero hb hd) fr01 (by simp)
theorem rr_s8z {s2 : SV} {a b d : Int} (f1 : Fr a b) (f2 : Fr 0 d) (ba : Bd 110 a) (bb : Bd 110 b) (bd : Bd 110 d) : (ifS (tstM blV (binM eqV (binM ixV (varM 2) (cstM (.int 0))) (cstM (.int 0)))) (retS (andM (binM eqV (callM 2 2 b_times (consA (varM 1) (consA (varM 2) nilA))) (tupM (consA (cstM (.int 0)) (consA (cstM (.int 1)) nilA)))) (binM eqV (hearM 1 ("part" : Str) (callM 2 2 b_over (consA (varM 1) (consA (varM 2) nilA)))) (cstM (.str ("other" : Str)))))) nextS) [some s2, some (.fz (fV (a, b))), some (.fz (fV (0, d))), some (.fz (.lst [fV (low (a * d + 0 * b) (b * d)), fV (low (a * d - 0 * b) (b * d)), fV (low (a * 0) (b * d))])), none, some (.fz (.int (b * d))), some (.fz (.lst [.int (a * d + 0 * b), .int (a * d - 0 * b), .int (a * 0)])), none, none] = .ok (.rt (.bl true) [some s2, some (.fz (fV (a, b))), some (.fz (fV (0, d))), some (.fz (.lst [fV (low (a * d + 0 * b) (b * d)), fV (low (a * d - 0 * b) (b * d)), fV (low (a * 0) (b * d))])), none, some (.fz (.int (b * d))), some (.fz (.lst [.int (a * d + 0 * b), .int (a * d - 0 * b), .int (a * 0)])), none, none]) :=
  e_ifT (k := decide ((0 : Int) = 0)) (e_tst (e_bin (e_bin (e_var rfl) e_cst rfl) e_cst (eqV_int _ _)) rfl) rfl (e_ret (e_andM (k := true) (l := true) (e_bin (e_callM (e_consA (e_var rfl) (e_consA (e_var rfl) e_nilA)) (v_times (frT a b) (frT 0 d) f1 f2 ba.mono bb.mono (show Bd 1000 0 by unfold Bd; exact Nat.two_pow_pos _) bd.mono))
      (e_tupM (e_consA e_cst (e_consA e_cst e_nilA))) (eqV_fr (q := (0, 1)) (low_zero (by have := f1.1; omega) (by have := f2.1; omega)))) fun _ => e_bin (e_hearX (e_callX (e_consA (e_var rfl) (e_consA (e_var rfl) e_nilA)) (v_over0 (frT a b) (frT 0 d) f1 f2))) e_cst eqV_other))
theorem rr_s8n {s2 : SV} {a b c d : Int} (f1 : Fr a b) (f2 : Fr c d) (ba : Bd 110 a) (bb : Bd 110 b) (bc : Bd 110 c) (bd : Bd 110 d) (hc : c ≠ 0) : (ifS (tstM blV (binM eqV (binM ixV (varM 2) (cstM (.int 0))) (cstM (.int 0)))) (retS (andM (binM eqV (callM 2 2 b_times (consA (varM 1) (consA (varM 2) nilA))) (tupM (consA (cstM (.int 0)) (consA (cstM (.int 1)) nilA)))) (binM eqV (hearM 1 ("part" : Str) (callM 2 2 b_over (consA (varM 1) (consA (varM 2) nilA)))) (cstM (.str ("other" : Str)))))) nextS) [some s2, some (.fz (fV (a, b))), some (.fz (fV (c, d))), some (.fz (.lst [fV (low (a * d + c * b) (b * d)), fV (low (a * d - c * b) (b * d)), fV (low (a * c) (b * d))])), none, some (.fz (.int (b * d))), some (.fz (.lst [.int (a * d + c * b), .int (a * d - c * b), .int (a * c)])), none, none] = .ok (.nx [some s2, some (.fz (fV (a, b))), some (.fz (fV (c, d))), some (.fz (.lst [fV (low (a * d + c * b) (b * d)), fV (low (a * d - c * b) (b * d)), fV (low (a * c) (b * d))])), none, some (.fz (.int (b * d))), some (.fz (.lst [.int (a * d + c * b), .int (a * d - c * b), .int (a * c)])), none, none]) :=
  e_ifF (e_tst (e_bin (e_bin (e_var rfl) e_cst rfl) e_cst (eqV_int _ _)) rfl) (decide_eq_false hc) e_next
theorem rr_s9 {s2 : SV} {a b c d : Int} (f1 : Fr a b) (f2 : Fr c d) (ba : Bd 110 a) (bb : Bd 110 b) (bc : Bd 110 c) (bd : Bd 110 d) (hc : c ≠ 0) : (asgS 8 (callM 2 2 b_over (consA (varM 1) (consA (varM 2) nilA)))) [some s2, some (.fz (fV (a, b))), some (.fz (fV (c, d))), some (.fz (.lst [fV (low (a * d + c * b) (b * d)), fV (low (a * d - c * b) (b * d)), fV (low (a * c) (b * d))])), none, some (.fz (.int (b * d))), some (.fz (.lst [.int (a * d + c * b), .int (a * d - c * b), .int (a * c)])), none, none] = .ok (.nx [some s2, some (.fz (fV (a, b))), some (.fz (fV (c, d))), some (.fz (.lst [fV (low (a * d + c * b) (b * d)), fV (low (a * d - c * b) (b * d)), fV (low (a * c) (b * d))])), none, some (.fz (.int (b * d))), some (.fz (.lst [.int (a * d + c * b), .int (a * d - c * b), .int (a * c)])), none, some (.fz (fV (low (a * d) (b * c))))]) :=
  e_asg8 (e_callM (e_consA (e_var rfl) (e_consA (e_var rfl) e_nilA)) (v_over (frT a b) (frT c d) f1 f2 ba.mono bb.mono bc.mono bd.mono hc))
theorem rr_s10 {s2 : SV} {a b c d : Int} (f1 : Fr a b) (f2 : Fr c d) (ba : Bd 110 a) (bb : Bd 110 b) (bc : Bd 110 c) (bd : Bd 110 d) (hc : c ≠ 0) (hO : Fr (low (a * d) (b * c)).1 (low (a * d) (b * c)).2) (hT : Fr (low (a * c) (b * d)).1 (low (a * c) (b * d)).2) (o1 : Bd 1000 (low (a * d) (b * c)).1) (o2 : Bd 1000 (low (a * d) (b * c)).2) (t1 : Bd 1000 (low (a * c) (b * d)).1) (t2 : Bd 1000 (low (a * c) (b * d)).2) : (retS (andM (callM 1 4 b__law_is_lowest (consA (varM 8) nilA)) (andM (binM eqV (callM 2 2 b_times (consA (varM 8) (consA (varM 2) nilA))) (varM 1)) (binM eqV (callM 2 2 b_over (pickM 2 [1, 0] (consA (varM 2) (consA (binM ixV (varM 3) (cstM (.int 2))) nilA)))) (varM 1))))) [some s2, some (.fz (fV (a, b))), some (.fz (fV (c, d))), some (.fz (.lst [fV (low (a * d + c * b) (b * d)), fV (low (a * d - c * b) (b * d)), fV (low (a * c) (b * d))])), none, some (.fz (.int (b * d))), some (.fz (.lst [.int (a * d + c * b), .int (a * d - c * b), .int (a * c)])), none, some (.fz (fV (low (a * d) (b * c))))] = .ok (.rt (.bl true) [some s2, some (.fz (fV (a, b))), some (.fz (fV (c, d))), some (.fz (.lst [fV (low (a * d + c * b) (b * d)), fV (low (a * d - c * b) (b * d)), fV (low (a * c) (b * d))])), none, some (.fz (.int (b * d))), some (.fz (.lst [.int (a * d + c * b), .int (a * d - c * b), .int (a * c)])), none, some (.fz (fV (low (a * d) (b * c))))]) :=
  e_ret (e_andM (k := true) (l := true && true) (e_callM (e_consA (e_var rfl) e_nilA) (v_is_lowest hO)) fun _ => e_andM (k := true) (l := true) (e_bin (e_callM (e_consA (e_var rfl) (e_consA (e_var rfl) e_nilA)) (v_times (frT (low (a * d) (b * c)).1 (low (a * d) (b * c)).2) (frT c d) hO f2 o1 o2 bc.mono bd.mono)) (e_var rfl) (eqV_fr (rk_times f1 f2 hc))) fun _ =>
    e_bin (e_callM (e_pickM (e_consA (e_var rfl) (e_consA (e_bin (e_var rfl) e_cst rfl) e_nilA)) rfl) (v_over (frT (low (a * c) (b * d)).1 (low (a * c) (b * d)).2) (frT c d) hT f2 t1 t2 bc.mono bd.mono hc)) (e_var rfl) (eqV_fr (rk_over f1 f2 hc)))
theorem rr_ok {k : Nat} {s : SV} (h : Cup k s) (hk : k + 12 ≤ 1000) : ∃ s', runO 9 b__law_reckoned_right s [] = .ok (.bl true, s') ∧ Cup (k + 12) s' := by
  have h := h.setPin (q := true)
  obtain ⟨a, b, s1, e1, f1, ba, bb, c1⟩ := fraction_ok h (by omega)
  obtain ⟨c, d, s2, e2, f2, bc, bd, c2⟩ := fraction_ok c1 (by omega)
  have b0 : b ≠ 0 := by have := f1.1; omega
  have d0 : d ≠ 0 := by have := f2.1; omega
  have bd0 := Int.mul_ne_zero b0 d0
  have mbd : Bd 220 (b * d) := bb.mul bd
  obtain ⟨hP, cP⟩ := low_spec (a := a * d + c * b) bd0
  obtain ⟨hL, cL⟩ := low_spec (a := a * d - c * b) bd0
  obtain ⟨hT, cT⟩ := low_spec (a := a * c) bd0
  have gP : Bd 221 (a * d + c * b) := (ba.mul (m := 220) bd).add (bc.mul (m := 220) bb)
  have gL : Bd 221 (a * d - c * b) := (ba.mul (m := 220) bd).sub (bc.mul (m := 220) bb)
  have gT : Bd 220 (a * c) := ba.mul bc
  obtain ⟨p1, p2⟩ := Bd.low bd0 gP mbd
  obtain ⟨l1, l2⟩ := Bd.low bd0 gL mbd
  obtain ⟨t1, t2⟩ := Bd.low bd0 gT mbd
  have q3 := rr_told (s2 := s2) f1 f2 ba bb bc bd
  have q4 := rr_low (s2 := s2) (x := fV (a, b)) (y := fV (c, d)) hP hL hT
  have q6 := rr_cross (s2 := s2) (x := fV (a, b)) (y := fV (c, d)) cP cL cT mbd.mono p1.mono p2.mono l1.mono l2.mono t1.mono t2.mono gP.mono gL.mono gT.mono
  have q7 := rr_s7 (s2 := s2) f1 f2 ba bb bc bd hP hL p1.mono p2.mono l1.mono l2.mono
  have q1 := rr_s1 h.own c1.own e1 e2
  have q45 := rr_s4 (s2 := s2) f1 f2 ba bb bc bd
  have q5 := rr_s5 (s2 := s2) f1 f2 ba bb bc bd
  by_cases hc : c = 0
  · subst hc
    have q8 := rr_s8z (s2 := s2) f1 f2 ba bb bd
    exact ⟨_, e_runO0 [some (s.setPin true), none, none, none, none, none, none, none, none] rfl (e_seq q1 (e_seq q3 (e_seq q4 (e_seq q45 (e_seq q5 (e_seq q6 (e_seq q7 (e_seqR q8)))))))) rfl, c2.setPin⟩
  · obtain ⟨hO, cO⟩ := low_spec (a := a * d) (Int.mul_ne_zero b0 hc)
    obtain ⟨o1, o2⟩ := Bd.low (Int.mul_ne_zero b0 hc) (ba.mul (m := 220) bd) (bb.mul (m := 220) bc)
    have q8 := rr_s8n (s2 := s2) f1 f2 ba bb bc bd hc
    have q9 := rr_s9 (s2 := s2) f1 f2 ba bb bc bd hc
    have q10 := rr_s10 (s2 := s2) f1 f2 ba bb bc bd hc hO hT o1.mono o2.mono t1.mono t2.mono
    exact ⟨_, e_runO0 [some (s.setPin true), none, none, none, none, none, none, none, none] rfl (e_seq q1 (e_seq q3 (e_seq q4 (e_seq q45 (e_seq q5 (e_seq q6 (e_seq q7 (e_seq q8 (e_seq q9 q10))))))))) rfl, c2.setPin⟩
end Y

set_option Elab.async false
set_option linter.all false
set_option maxRecDepth 100000
set_option maxHeartbeats 400000
set_option autoImplicit false
/-! what is refused -/
namespace Y
open PySem PySem.Spec PyProof.Rows L2 Z
def odds : List Val := [.non, .int 5, .bl true, .str "1", .tup [.int 1], .tup [.int 1, .int 2, .int 3], .tup [.int 2, .int 4], .tup [.int 1, .int 0], .tup [.int 1, .int (-2)], .tup [.int 0, .int 2], .tup [.bl true, .int 2], .tup [.int 1, .bl true], .tup [.str "1", .int 2], .lst [.lst [.int 1], .int 2], .dic [] [], .tup [.int 1, .non], .tup [.int 0, .int 0], .str "12"]
def nums : List Val := [.non, .bl true, .str "1", .lst [.int 1], .tup [.int 1, .int 2], .dic [] []]
theorem isFr_f {a b : Int} (h : isFr a b = false) : runV 1 b_is_fraction [.tup [.int a, .int b]] = .ok (.bl false) := by rw [v_is_fraction, h]
theorem v_long {xs : List Val} (h : runV 2 b_are_numbers [.tup xs] = .ok (.bl true)) (hl : ((xs.length : Int) = 2) = False) : runV 1 b_is_fraction [.tup xs] = .ok (.bl false) :=
  e_as (e_run (e_ret (e_andM (k := true) (l := decide ((xs.length : Int) = 2) && true) (e_callM (e_consA (e_var rfl) e_nilA) h) fun _ => e_andM (l := true) (e_bin (e_cbM (e_consA (e_var rfl) e_nilA) rfl) e_cst (eqV_int _ _)) fun z => absurd (of_decide_eq_true z) (by rw [hl]; exact id)))) (by simp [hl])
theorem odd_no : ∀ x ∈ odds, runV 1 b_is_fraction [x] = .ok (.bl false) := by
  intro x hx
  simp only [odds, List.mem_cons, List.not_mem_nil, or_false] at hx
  rcases hx with rfl | rfl | rfl | rfl | rfl | rfl | rfl | rfl | rfl | rfl | rfl | rfl | rfl | rfl | rfl | rfl | rfl | rfl
  · rfl
  · rfl
  · rfl
  · rfl
  · exact v_long rfl (by simp)
  · exact v_long rfl (by simp)
  · exact isFr_f (by decide)
  · exact isFr_f (by decide)
  · exact isFr_f (by decide)
  · exact isFr_f (by decide)
  · rfl
  · rfl
  · rfl
  · rfl
  · rfl
  · rfl
  · exact isFr_f (by decide)
  · rfl
theorem num_no : ∀ x ∈ nums, runV 1 b_is_integer [x] = .ok (.bl false) := by
  intro x hx
  simp only [nums, List.mem_cons, List.not_mem_nil, or_false] at hx
  rcases hx with rfl | rfl | rfl | rfl | rfl | rfl
  all_goals rfl
theorem dats_strs : ∀ cs : List Str, dats (cs.map .str) = some (cs.map .str)
  | [] => rfl
  | c :: cs => by simp only [List.map_cons, dats, dat, dats_strs cs]
theorem lay_strs : ∀ cs : List Str, (∀ c ∈ cs, PyData.canLay0 (.str c) = true) → PyData.canLayAll0 (cs.map .str) = true
  | [], _ => by simp [PyData.canLayAll0]
  | c :: cs, h => by
    simp only [List.map_cons, PyData.canLayAll0, h c (.head _), Bool.true_and]
    exact lay_strs cs fun d hd => h d (.tail _ hd)
theorem dep_strs : ∀ cs : List Str, PyData.depthAll (cs.map .str) = 0
  | [] => by simp [PyData.depthAll]
  | c :: cs => by simp only [List.map_cons, PyData.depthAll, PyData.depth, dep_strs cs]; rfl
theorem eqv_strs : ∀ cs : List Str, PyData.eqvAll (cs.map .str) (cs.map .str) = true
  | [] => by simp [PyData.eqvAll]
  | c :: cs => by simp only [List.map_cons, PyData.eqvAll, PyData.eqv, eqv_strs cs]; simp
theorem eqV_strs (cs : List Str) (h : ∀ c ∈ cs, PyData.canLay0 (.str c) = true) : eqV (.lst (cs.map .str)) (.lst (cs.map .str)) = some (.bl true) := by
  have sh : SeqAt.shaped (.list (cs.map .str)) = true := by
    unfold SeqAt.shaped
    simp only [PyData.canLay0, PyData.depth, lay_strs cs h, dep_strs]
    rfl
  simp only [eqV, dat, dats_strs, Option.map_some]
  rw [if_pos ⟨sh, sh⟩]
  simp only [PyData.eqv, eqv_strs]
def tells : List Str := ["one", "other", "one", "other", "one", "other", "one", "other", "other", "top", "bottom", "bottom"]
theorem tells_ok : ∀ c ∈ tells, PyData.canLay0 (.str c) = true := by
  intro c hc
  simp only [tells, List.mem_cons, List.not_mem_nil, or_false] at hc
  rcases hc with rfl | rfl | rfl | rfl | rfl | rfl | rfl | rfl | rfl | rfl | rfl | rfl
  all_goals (simp only [PyData.canLay0]; decide +kernel)
end Y

set_option Elab.async false
set_option linter.all false
set_option maxRecDepth 100000
set_option maxHeartbeats 400000
set_option autoImplicit false
/-! what is refused: the def -/
namespace Y
open PySem PySem.Spec PyProof.Rows L2 Z
theorem rf_s1 {s0 s1 : SV} {a b : Int} (o0 : s0.own = true) (e1 : runO 5 b__law_fraction s0 [] = .ok (fV (a, b), s1)) : (asgS 1 (callO 0 1 5 b__law_fraction nilA)) [some s0, none, none, none, none] = .ok (.nx [some s1, some (.fz (fV (a, b))), none, none, none]) :=
  e_asg1 (e_callO0 rfl o0 e_nilA o0 e1)
theorem rf_s2 {s1 s2 : SV} {a b : Int} {o : Val} (o1 : s1.own = true) (e2 : runO 2 b__law_pick s1 [.lst odds] = .ok (o, s2)) : (asgS 2 (callO 0 2 2 b__law_pick (consA (lstM (consA (cstM .non) (consA (cstM (.int 5)) (consA (cstM (.bl true)) (consA (cstM (.str ("1" : Str))) (consA (tupM (consA (cstM (.int 1)) nilA)) (consA (tupM (consA (cstM (.int 1)) (consA (cstM (.int 2)) (consA (cstM (.int 3)) nilA)))) (consA (tupM (consA (cstM (.int 2)) (consA (cstM (.int 4)) nilA))) (consA (tupM (consA (cstM (.int 1)) (consA (cstM (.int 0)) nilA))) (consA (tupM (consA (cstM (.int 1)) (consA (unM negV (cstM (.int 2))) nilA))) (consA (tupM (consA (cstM (.int 0)) (consA (cstM (.int 2)) nilA))) (consA (tupM (consA (cstM (.bl true)) (consA (cstM (.int 2)) nilA))) (consA (tupM (consA (cstM (.int 1)) (consA (cstM (.bl true)) nilA))) (consA (tupM (consA (cstM (.str ("1" : Str))) (consA (cstM (.int 2)) nilA))) (consA (lstM (consA (lstM (consA (cstM (.int 1)) nilA)) (consA (cstM (.int 2)) nilA))) (consA (cstM (.dic [] [])) (consA (tupM (consA (cstM (.int 1)) (consA (cstM .non) nilA))) (consA (tupM (consA (cstM (.int 0)) (consA (cstM (.int 0)) nilA))) (consA (cstM (.str ("12" : Str))) nilA))))))))))))))))))) nilA))) [some s1, some (.fz (fV (a, b))), none, none, none] = .ok (.nx [some s2, some (.fz (fV (a, b))), some (.fz o), none, none]) :=
  e_asg2 (e_callO0 rfl o1 (xs := [.lst odds]) (e_consA (e_lstM (xs := odds) (e_consA e_cst (e_consA e_cst (e_consA e_cst (e_consA e_cst (e_consA (e_tupM (e_consA e_cst e_nilA)) (e_consA (e_tupM (e_consA e_cst (e_consA e_cst (e_consA e_cst e_nilA)))) (e_consA (e_tupM (e_consA e_cst (e_consA e_cst e_nilA))) (e_consA (e_tupM (e_consA e_cst (e_consA e_cst e_nilA))) (e_consA (e_tupM (e_consA e_cst (e_consA (e_un e_cst rfl) e_nilA))) (e_consA (e_tupM (e_consA e_cst (e_consA e_cst e_nilA))) (e_consA (e_tupM (e_consA e_cst (e_consA e_cst e_nilA))) (e_consA (e_tupM (e_consA e_cst (e_consA e_cst e_nilA))) (e_consA (e_tupM (e_consA e_cst (e_consA e_cst e_nilA))) (e_consA (e_lstM (e_consA (e_lstM (e_consA e_cst e_nilA)) (e_consA e_cst e_nilA))) (e_consA e_cst (e_consA (e_tupM (e_consA e_cst (e_consA e_cst e_nilA))) (e_consA (e_tupM (e_consA e_cst (e_consA e_cst e_nilA))) (e_consA e_cst e_nilA))))))))))))))))))) e_nilA) o1 e2)
theorem rf_s3 {s2 s3 : SV} {a b : Int} {o n : Val} (o2 : s2.own = true) (e3 : runO 2 b__law_pick s2 [.lst nums] = .ok (n, s3)) : (asgS 3 (callO 0 2 2 b__law_pick (consA (lstM (consA (cstM .non) (consA (cstM (.bl true)) (consA (cstM (.str ("1" : Str))) (consA (lstM (consA (cstM (.int 1)) nilA)) (consA (tupM (consA (cstM (.int 1)) (consA (cstM (.int 2)) nilA))) (consA (cstM (.dic [] [])) nilA))))))) nilA))) [some s2, some (.fz (fV (a, b))), some (.fz o), none, none] = .ok (.nx [some s3, some (.fz (fV (a, b))), some (.fz o), some (.fz n), none]) :=
  e_asg3 (e_callO0 rfl o2 (xs := [.lst nums]) (e_consA (e_lstM (xs := nums) (e_consA e_cst (e_consA e_cst (e_consA e_cst (e_consA (e_lstM (e_consA e_cst e_nilA)) (e_consA (e_tupM (e_consA e_cst (e_consA e_cst e_nilA))) (e_consA e_cst e_nilA))))))) e_nilA) o2 e3)
theorem rf_s4 {s3 : SV} {a b : Int} {o n : Val} (f : Fr a b) (ho : runV 1 b_is_fraction [o] = .ok (.bl false)) (hn : runV 1 b_is_integer [n] = .ok (.bl false)) : (ifS (orB (tstM blV (binM isnotBV (callM 1 1 b_is_fraction (consA (varM 2) nilA)) (cstM (.bl false)))) (tstM blV (binM isnotBV (callM 1 1 b_is_fraction (consA (varM 1) nilA)) (cstM (.bl true))))) (retS (cstM (.bl false))) nextS) [some s3, some (.fz (fV (a, b))), some (.fz o), some (.fz n), none] = .ok (.nx [some s3, some (.fz (fV (a, b))), some (.fz o), some (.fz n), none]) :=
  e_ifF (e_orB (k := false) (l := false) (e_tst (e_bin (e_callM (e_consA (e_var rfl) e_nilA) ho) e_cst rfl) rfl) fun _ => e_tst (e_bin (e_callM (e_consA (e_var rfl) e_nilA) ((FrV.fV (a, b)).is f)) e_cst rfl) rfl) rfl e_next
theorem rf_h0 {s3 : SV} {a b : Int} {o n : Val} (f : Fr a b) (ho : runV 1 b_is_fraction [o] = .ok (.bl false)) (hn : runV 1 b_is_integer [n] = .ok (.bl false)) : (newS 4 (dispF (consA (hearM 1 ("part" : Str) (callM 2 2 b_plus (consA (varM 2) (consA (varM 2) nilA)))) nilA))) [some s3, some (.fz (fV (a, b))), some (.fz o), some (.fz n), none] = .ok (.nx [some s3, some (.fz (fV (a, b))), some (.fz o), some (.fz n), some (.ow false [.str "one"])]) :=
  e_new4 (e_dispF (e_consA (e_hearX (e_callX (e_consA (e_var rfl) (e_consA (e_var rfl) e_nilA)) (v_op1 rfl ho))) e_nilA))
theorem rf_h1 {s3 : SV} {a b : Int} {o n : Val} (f : Fr a b) (ho : runV 1 b_is_fraction [o] = .ok (.bl false)) (hn : runV 1 b_is_integer [n] = .ok (.bl false)) : (appS 4 (hearM 1 ("part" : Str) (callM 2 2 b_plus (consA (varM 1) (consA (varM 2) nilA))))) [some s3, some (.fz (fV (a, b))), some (.fz o), some (.fz n), some (.ow false [.str "one"])] = .ok (.nx [some s3, some (.fz (fV (a, b))), some (.fz o), some (.fz n), some (.ow false [.str "one", .str "other"])]) :=
  e_app4 rfl (e_hearX (e_callX (e_consA (e_var rfl) (e_consA (e_var rfl) e_nilA)) (v_op2 rfl ((FrV.fV (a, b)).is f) ho)))
theorem rf_h2 {s3 : SV} {a b : Int} {o n : Val} (f : Fr a b) (ho : runV 1 b_is_fraction [o] = .ok (.bl false)) (hn : runV 1 b_is_integer [n] = .ok (.bl false)) : (appS 4 (hearM 1 ("part" : Str) (callM 2 2 b_less (consA (varM 2) (consA (varM 1) nilA))))) [some s3, some (.fz (fV (a, b))), some (.fz o), some (.fz n), some (.ow false [.str "one", .str "other"])] = .ok (.nx [some s3, some (.fz (fV (a, b))), some (.fz o), some (.fz n), some (.ow false [.str "one", .str "other", .str "one"])]) :=
  e_app4 rfl (e_hearX (e_callX (e_consA (e_var rfl) (e_consA (e_var rfl) e_nilA)) (v_op1 rfl ho)))
theorem rf_h3 {s3 : SV} {a b : Int} {o n : Val} (f : Fr a b) (ho : runV 1 b_is_fraction [o] = .ok (.bl false)) (hn : runV 1 b_is_integer [n] = .ok (.bl false)) : (appS 4 (hearM 1 ("part" : Str) (callM 2 2 b_less (consA (varM 1) (consA (varM 2) nilA))))) [some s3, some (.fz (fV (a, b))), some (.fz o), some (.fz n), some (.ow false [.str "one", .str "other", .str "one"])] = .ok (.nx [some s3, some (.fz (fV (a, b))), some (.fz o), some (.fz n), some (.ow false [.str "one", .str "other", .str "one", .str "other"])]) :=
  e_app4 rfl (e_hearX (e_callX (e_consA (e_var rfl) (e_consA (e_var rfl) e_nilA)) (v_op2 rfl ((FrV.fV (a, b)).is f) ho)))
theorem rf_h4 {s3 : SV} {a b : Int} {o n : Val} (f : Fr a b) (ho : runV 1 b_is_fraction [o] = .ok (.bl false)) (hn : runV 1 b_is_integer [n] = .ok (.bl false)) : (appS 4 (hearM 1 ("part" : Str) (callM 2 2 b_times (consA (varM 2) (consA (cstM .non) nilA))))) [some s3, some (.fz (fV (a, b))), some (.fz o), some (.fz n), some (.ow false [.str "one", .str "other", .str "one", .str "other"])] = .ok (.nx [some s3, some (.fz (fV (a, b))), some (.fz o), some (.fz n), some (.ow false [.str "one", .str "other", .str "one", .str "other", .str "one"])]) :=
  e_app4 rfl (e_hearX (e_callX (e_consA (e_var rfl) (e_consA e_cst e_nilA)) (v_op1 rfl ho)))
theorem rf_h5 {s3 : SV} {a b : Int} {o n : Val} (f : Fr a b) (ho : runV 1 b_is_fraction [o] = .ok (.bl false)) (hn : runV 1 b_is_integer [n] = .ok (.bl false)) : (appS 4 (hearM 1 ("part" : Str) (callM 2 2 b_times (consA (varM 1) (consA (varM 2) nilA))))) [some s3, some (.fz (fV (a, b))), some (.fz o), some (.fz n), some (.ow false [.str "one", .str "other", .str "one", .str "other", .str "one"])] = .ok (.nx [some s3, some (.fz (fV (a, b))), some (.fz o), some (.fz n), some (.ow false [.str "one", .str "other", .str "one", .str "other", .str "one", .str "other"])]) :=
  e_app4 rfl (e_hearX (e_callX (e_consA (e_var rfl) (e_consA (e_var rfl) e_nilA)) (v_op2 rfl ((FrV.fV (a, b)).is f) ho)))
theorem rf_h6 {s3 : SV} {a b : Int} {o n : Val} (f : Fr a b) (ho : runV 1 b_is_fraction [o] = .ok (.bl false)) (hn : runV 1 b_is_integer [n] = .ok (.bl false)) : (appS 4 (hearM 1 ("part" : Str) (callM 2 2 b_over (consA (varM 2) (consA (tupM (consA (cstM (.int 0)) (consA (cstM (.int 1)) nilA))) nilA))))) [some s3, some (.fz (fV (a, b))), some (.fz o), some (.fz n), some (.ow false [.str "one", .str "other", .str "one", .str "other", .str "one", .str "other"])] = .ok (.nx [some s3, some (.fz (fV (a, b))), some (.fz o), some (.fz n), some (.ow false [.str "one", .str "other", .str "one", .str "other", .str "one", .str "other", .str "one"])]) :=
  e_app4 rfl (e_hearX (e_callX (e_consA (e_var rfl) (e_consA (e_tupM (e_consA e_cst (e_consA e_cst e_nilA))) e_nilA)) (v_op1 rfl ho)))
theorem rf_h7 {s3 : SV} {a b : Int} {o n : Val} (f : Fr a b) (ho : runV 1 b_is_fraction [o] = .ok (.bl false)) (hn : runV 1 b_is_integer [n] = .ok (.bl false)) : (appS 4 (hearM 1 ("part" : Str) (callM 2 2 b_over (consA (varM 1) (consA (varM 2) nilA))))) [some s3, some (.fz (fV (a, b))), some (.fz o), some (.fz n), some (.ow false [.str "one", .str "other", .str "one", .str "other", .str "one", .str "other", .str "one"])] = .ok (.nx [some s3, some (.fz (fV (a, b))), some (.fz o), some (.fz n), some (.ow false [.str "one", .str "other", .str "one", .str "other", .str "one", .str "other", .str "one", .str "other"])]) :=
  e_app4 rfl (e_hearX (e_callX (e_consA (e_var rfl) (e_consA (e_var rfl) e_nilA)) (v_op2 rfl ((FrV.fV (a, b)).is f) ho)))
theorem rf_h8 {s3 : SV} {a b : Int} {o n : Val} (f : Fr a b) (ho : runV 1 b_is_fraction [o] = .ok (.bl false)) (hn : runV 1 b_is_integer [n] = .ok (.bl false)) : (appS 4 (hearM 1 ("part" : Str) (callM 2 2 b_over (consA (varM 1) (consA (tupM (consA (cstM (.int 0)) (consA (cstM (.int 1)) nilA))) nilA))))) [some s3, some (.fz (fV (a, b))), some (.fz o), some (.fz n), some (.ow false [.str "one", .str "other", .str "one", .str "other", .str "one", .str "other", .str "one", .str "other"])] = .ok (.nx [some s3, some (.fz (fV (a, b))), some (.fz o), some (.fz n), some (.ow false [.str "one", .str "other", .str "one", .str "other", .str "one", .str "other", .str "one", .str "other", .str "other"])]) :=
  e_app4 rfl (e_hearX (e_callX (e_consA (e_var rfl) (e_consA (e_tupM (e_consA e_cst (e_consA e_cst e_nilA))) e_nilA)) (v_over0 (frT a b) (frT 0 1) f fr01)))
theorem rf_h9 {s3 : SV} {a b : Int} {o n : Val} (f : Fr a b) (ho : runV 1 b_is_fraction [o] = .ok (.bl false)) (hn : runV 1 b_is_integer [n] = .ok (.bl false)) : (appS 4 (hearM 1 ("part" : Str) (callM 2 3 b_lowest (consA (varM 3) (consA (cstM (.int 0)) nilA))))) [some s3, some (.fz (fV (a, b))), some (.fz o), some (.fz n), some (.ow false [.str "one", .str "other", .str "one", .str "other", .str "one", .str "other", .str "one", .str "other", .str "other"])] = .ok (.nx [some s3, some (.fz (fV (a, b))), some (.fz o), some (.fz n), some (.ow false [.str "one", .str "other", .str "one", .str "other", .str "one", .str "other", .str "one", .str "other", .str "other", .str "top"])]) :=
  e_app4 rfl (e_hearX (e_callX (e_consA (e_var rfl) (e_consA e_cst e_nilA)) (v_lowestT hn)))
theorem rf_h10 {s3 : SV} {a b : Int} {o n : Val} (f : Fr a b) (ho : runV 1 b_is_fraction [o] = .ok (.bl false)) (hn : runV 1 b_is_integer [n] = .ok (.bl false)) : (appS 4 (hearM 1 ("part" : Str) (callM 2 3 b_lowest (consA (cstM (.int 3)) (consA (varM 3) nilA))))) [some s3, some (.fz (fV (a, b))), some (.fz o), some (.fz n), some (.ow false [.str "one", .str "other", .str "one", .str "other", .str "one", .str "other", .str "one", .str "other", .str "other", .str "top"])] = .ok (.nx [some s3, some (.fz (fV (a, b))), some (.fz o), some (.fz n), some (.ow false [.str "one", .str "other", .str "one", .str "other", .str "one", .str "other", .str "one", .str "other", .str "other", .str "top", .str "bottom"])]) :=
  e_app4 rfl (e_hearX (e_callX (e_consA e_cst (e_consA (e_var rfl) e_nilA)) (v_lowestB (v_is_integer rfl) hn)))
theorem rf_h11 {s3 : SV} {a b : Int} {o n : Val} (f : Fr a b) (ho : runV 1 b_is_fraction [o] = .ok (.bl false)) (hn : runV 1 b_is_integer [n] = .ok (.bl false)) : (appS 4 (hearM 1 ("part" : Str) (callM 2 3 b_lowest (consA (cstM (.int 3)) (consA (cstM (.int 0)) nilA))))) [some s3, some (.fz (fV (a, b))), some (.fz o), some (.fz n), some (.ow false [.str "one", .str "other", .str "one", .str "other", .str "one", .str "other", .str "one", .str "other", .str "other", .str "top", .str "bottom"])] = .ok (.nx [some s3, some (.fz (fV (a, b))), some (.fz o), some (.fz n), some (.ow false [.str "one", .str "other", .str "one", .str "other", .str "one", .str "other", .str "one", .str "other", .str "other", .str "top", .str "bottom", .str "bottom"])]) :=
  e_app4 rfl (e_hearX (e_callX (e_consA e_cst (e_consA e_cst e_nilA)) (v_lowest0 (v_is_integer rfl))))
theorem rf_end {s3 : SV} {a b : Int} {o n : Val} (f : Fr a b) (ho : runV 1 b_is_fraction [o] = .ok (.bl false)) (hn : runV 1 b_is_integer [n] = .ok (.bl false)) : (meltS 4 (retS (binM eqV (varM 4) (lstM (consA (cstM (.str ("one" : Str))) (consA (cstM (.str ("other" : Str))) (consA (cstM (.str ("one" : Str))) (consA (cstM (.str ("other" : Str))) (consA (cstM (.str ("one" : Str))) (consA (cstM (.str ("other" : Str))) (consA (cstM (.str ("one" : Str))) (consA (cstM (.str ("other" : Str))) (consA (cstM (.str ("other" : Str))) (consA (cstM (.str ("top" : Str))) (consA (cstM (.str ("bottom" : Str))) (consA (cstM (.str ("bottom" : Str))) nilA)))))))))))))))) [some s3, some (.fz (fV (a, b))), some (.fz o), some (.fz n), some (.ow false [.str "one", .str "other", .str "one", .str "other", .str "one", .str "other", .str "one", .str "other", .str "other", .str "top", .str "bottom", .str "bottom"])] = .ok (.rt (.bl true) [some s3, some (.fz (fV (a, b))), some (.fz o), some (.fz n), some (.fz (.lst (tells.map Val.str)))]) :=
  e_melt4 (e_ret (e_bin (e_var rfl) (e_lstM (xs := tells.map Val.str) (e_consA e_cst (e_consA e_cst (e_consA e_cst (e_consA e_cst (e_consA e_cst (e_consA e_cst (e_consA e_cst (e_consA e_cst (e_consA e_cst (e_consA e_cst (e_consA e_cst (e_consA e_cst e_nilA))))))))))))) (eqV_strs tells tells_ok)))
theorem rf_ok {k : Nat} {s : SV} (h : Cup k s) (hk : k + 8 ≤ 1000) : ∃ s', runO 5 b__law_refused_right s [] = .ok (.bl true, s') ∧ Cup (k + 8) s' := by
  have h := h.setPin (q := true)
  obtain ⟨a, b, s1, e1, f, ba, bb, c1⟩ := fraction_ok h (by omega)
  obtain ⟨o, s2, ho, e2, c2⟩ := pick_ok (xs := odds) c1 (by omega) (by decide) (by decide)
  obtain ⟨n, s3, hn, e3, c3⟩ := pick_ok (xs := nums) c2 (by omega) (by decide) (by decide)
  have ho := odd_no o ho
  have hn := num_no n hn
  exact ⟨_, e_runO0 [some (s.setPin true), none, none, none, none] rfl (e_seq (rf_s1 h.own e1) (e_seq (rf_s2 c1.own e2) (e_seq (rf_s3 c2.own e3) (e_seq (rf_s4 f ho hn) (e_seq (rf_h0 f ho hn) (e_seq (rf_h1 f ho hn) (e_seq (rf_h2 f ho hn) (e_seq (rf_h3 f ho hn) (e_seq (rf_h4 f ho hn) (e_seq (rf_h5 f ho hn) (e_seq (rf_h6 f ho hn) (e_seq (rf_h7 f ho hn) (e_seq (rf_h8 f ho hn) (e_seq (rf_h9 f ho hn) (e_seq (rf_h10 f ho hn) (e_seq (rf_h11 f ho hn) (rf_end f ho hn))))))))))))))))) rfl, c3.setPin⟩
end Y

set_option Elab.async false
set_option linter.all false
set_option maxRecDepth 100000
set_option maxHeartbeats 400000
set_option autoImplicit false
/-! the law -/
namespace Y
open PySem PySem.Spec PyProof.Rows L2 Z
theorem bits_log {z : Int} (h : Builtin.Int.intBits z ≤ 1048576) : z.natAbs.log2 < 50000000 := by
  unfold Builtin.Int.intBits at h
  split at h
  · rename_i e
    have e : z.natAbs = 0 := by simpa using e
    rw [e]
    decide
  · omega
theorem cup_made (ns : List Int) (hl : ns.length ≤ 63) : n__law_cup [some (.fz (.scr ns)), none] = .ok (CupV (ns.take 60) 0 0, [some (.fz (.scr ns)), none]) :=
  e_dispF (e_consA (e_listM (e_as (e_compI (ns := ns.take 60) (fun _ => true) (e_walkM (e_listM (by unfold scrF; rw [e_var rfl]; rfl)) rfl) (sz_lt (by rw [List.length_take]; omega)) rfl rfl (fun _ => ⟨rfl, rfl⟩) (fun x hx => rfl) (fun x hx => e_cbM (e_consA (e_var rfl) e_nilA) rfl))
    (by rw [List.filter_eq_self.mpr (fun _ _ => rfl)]))) (e_consA e_cst (e_consA e_cst e_nilA)))
theorem e_callN {np n : Nat} {mf : ML} {al : MA} {ρ ρ1 : En} {xs ys : List Val} {ρ0 ρ2 : En} (h : al ρ = .ok (xs, ρ1)) (h0 : padE (xs.map fun x => some (.fz x)) n = ρ0) (h2 : mf ρ0 = .ok (ys, ρ2)) (hl : xs.length = np := by rfl) (hn : np ≤ n := by decide) : callN np n mf al ρ = .ok (ys, ρ1) := by
  subst h0
  unfold callN
  rw [h, Rs.ok_bind]
  dsimp only
  rw [if_pos ⟨hl, hn⟩, h2]
theorem e_orB2 {c d : MB} {ρ ρ1 ρ2 : En} {k l : Bool} (h1 : c ρ = .ok (k, ρ1)) (hk : k = false) (h2 : d ρ1 = .ok (l, ρ2)) : orB c d ρ = .ok (l, ρ2) := by
  subst hk
  unfold orB; rw [h1, Rs.ok_bind]
  exact h2
theorem law_turn {x : Val} {v : Option SV} {k : Nat} {s : SV} (h : Cup k s) (hk : k + 21 ≤ 1000) : ∃ s', Cup (k + 21) s' ∧ (ifS (orB (notB (tstM truV (callO 1 1 5 b__law_lowest_right nilA))) (notB (tstM truV (callO 1 1 9 b__law_reckoned_right nilA)))) (retS (cstM (.bl false))) nextS) [some (.fz x), some s, v] = .ok (.nx [some (.fz x), some s', v]) := by
  obtain ⟨s1, e1, c1⟩ := lr_ok h (by omega)
  obtain ⟨s2, e2, c2⟩ := rr_ok c1 (by omega)
  exact ⟨s2, c2, e_ifF (e_orB2 (k := !true) (l := !true) (e_notB (k := true) (e_tst (e_callO1 rfl h.own e_nilA h.own e1) rfl)) rfl (e_notB (k := true) (e_tst (e_callO1 rfl c1.own e_nilA c1.own e2) rfl))) rfl e_next⟩
theorem law_math (ns : List Int) (hl : ns.length ≤ 63) (hb : ∀ z ∈ ns, Builtin.Int.intBits z ≤ 1048576) : ∃ ρ', b_law [some (.fz (.scr ns)), none, none] = .ok (.rt (.bl true) ρ') := by
  have h0 : Cup 0 (.ow false (CupV (ns.take 60) 0 0)) := ⟨false, _, 0, 0, rfl, by decide, by decide, by decide, fun c hc => bits_log (hb c (List.mem_of_mem_take hc))⟩
  obtain ⟨s1, c1, q1⟩ := law_turn (x := .scr ns) (v := some (.fz (.int 0))) h0 (by omega)
  obtain ⟨s2, c2, q2⟩ := law_turn (x := .scr ns) (v := some (.fz (.int 1))) c1 (by omega)
  obtain ⟨s3, c3, q3⟩ := law_turn (x := .scr ns) (v := some (.fz (.int 2))) c2 (by omega)
  obtain ⟨s4, c4, q4⟩ := law_turn (x := .scr ns) (v := some (.fz (.int 3))) c3 (by omega)
  obtain ⟨s5, c5, q5⟩ := law_turn (x := .scr ns) (v := some (.fz (.int 4))) c4 (by omega)
  obtain ⟨s6, e6, c6⟩ := rf_ok c5 (by omega)
  exact ⟨_, e_seq (e_new1 (e_callN (e_consA (e_var rfl) e_nilA) rfl (cup_made ns hl))) (e_seq (e_forS (e_rng1 (e_consA e_cst e_nilA) (.lt (by decide))) (e_forL t_name2 q1 (e_forL t_name2 q2 (e_forL t_name2 q3 (e_forL t_name2 q4 (e_forL t_name2 q5 e_forL_nil)))))) (e_ret (e_callO1 rfl c5.own e_nilA c5.own e6)))⟩
end Y

set_option Elab.async false
set_option linter.all false
set_option maxRecDepth 100000
set_option maxHeartbeats 4000000
set_option autoImplicit false
namespace Y
open PySem PySem.Spec PyProof.Rows L2 Z
def s_i_BadNumber : Stmt := match top 6 with | .ClassDef _ _ _ body .. => body.getD 0 (.Pass ⟨0, 0, 0, 0⟩) | s => s
theorem sc_i_BadNumber : FnScope [("self" : Str), "part"] [("self" : Str), "part"] (defScope s_i_BadNumber) := ⟨rfl, rfl, rfl, by decide +kernel, rfl, by decide +kernel, by decide +kernel⟩
theorem ok_i_BadNumber {P : Program} {w : World} {K : PySem.W.Frag} {mg : Str → Option Value} {base : Heap} {fa : Addr} {fd : FuncData} (F : Fun K "__init__" "BadNumber.__init__" s_i_BadNumber fa fd) : FnOk P w K mg base (L2.CX P w) 1 fa fd [("self" : Str), "part"] (sp1 K "part") :=
  ok_init1 F sc_i_BadNumber fun X hN hs hK => by
    subst hK
    exact pss_one (ps_ost (pe_var (i := 0) (by rw [hN]; rfl) (by unfold Vis; rw [hs]; exact .inl rfl)) (pe_var (i := 1) (by rw [hN]; rfl) (by unfold Vis; rw [hs]; exact .inl rfl)))
theorem law_at {l : PySem.W.OpenLaw} {w : World} {K : PySem.W.Frag} {h : Heap} {mg : Str → Option Value} {fa : Addr} {f_is_integer : Addr} {od_is_integer an_is_integer : Option Addr} {sl_is_integer : Array (Option Value)} {oc_is_integer kV_is_integer dc_is_integer pm_is_integer ct_is_integer : Value} {cd_is_integer : Value} {f_are_numbers : Addr} {od_are_numbers an_are_numbers : Option Addr} {sl_are_numbers : Array (Option Value)} {oc_are_numbers kV_are_numbers dc_are_numbers pm_are_numbers ct_are_numbers : Value} {cd_are_numbers : Value} {f_is_fraction : Addr} {od_is_fraction an_is_fraction : Option Addr} {sl_is_fraction : Array (Option Value)} {oc_is_fraction kV_is_fraction dc_is_fraction pm_is_fraction ct_is_fraction : Value} {cd_is_fraction : Value} {f_lowest : Addr} {od_lowest an_lowest : Option Addr} {sl_lowest : Array (Option Value)} {oc_lowest kV_lowest dc_lowest pm_lowest ct_lowest : Value} {cd_lowest : Value} {f__need_fractions : Addr} {od__need_fractions an__need_fractions : Option Addr} {sl__need_fractions : Array (Option Value)} {oc__need_fractions kV__need_fractions dc__need_fractions pm__need_fractions ct__need_fractions : Value} {cd__need_fractions : Value} {f_plus : Addr} {od_plus an_plus : Option Addr} {sl_plus : Array (Option Value)} {oc_plus kV_plus dc_plus pm_plus ct_plus : Value} {cd_plus : Value} {f_less : Addr} {od_less an_less : Option Addr} {sl_less : Array (Option Value)} {oc_less kV_less dc_less pm_less ct_less : Value} {cd_less : Value} {f_times : Addr} {od_times an_times : Option Addr} {sl_times : Array (Option Value)} {oc_times kV_times dc_times pm_times ct_times : Value} {cd_times : Value} {f_over : Addr} {od_over an_over : Option Addr} {sl_over : Array (Option Value)} {oc_over kV_over dc_over pm_over ct_over : Value} {cd_over : Value} {f__law_cup : Addr} {od__law_cup an__law_cup : Option Addr} {sl__law_cup : Array (Option Value)} {oc__law_cup kV__law_cup dc__law_cup pm__law_cup ct__law_cup : Value} {cd__law_cup : Value} {f__law_sip : Addr} {od__law_sip an__law_sip : Option Addr} {sl__law_sip : Array (Option Value)} {oc__law_sip kV__law_sip dc__law_sip pm__law_sip ct__law_sip : Value} {cd__law_sip : Value} {f__law_pick : Addr} {od__law_pick an__law_pick : Option Addr} {sl__law_pick : Array (Option Value)} {oc__law_pick kV__law_pick dc__law_pick pm__law_pick ct__law_pick : Value} {cd__law_pick : Value} {f__law_integer : Addr} {od__law_integer an__law_integer : Option Addr} {sl__law_integer : Array (Option Value)} {oc__law_integer kV__law_integer dc__law_integer pm__law_integer ct__law_integer : Value} {cd__law_integer : Value} {f__law_fraction : Addr} {od__law_fraction an__law_fraction : Option Addr} {sl__law_fraction : Array (Option Value)} {oc__law_fraction kV__law_fraction dc__law_fraction pm__law_fraction ct__law_fraction : Value} {cd__law_fraction : Value} {f__law_is_lowest : Addr} {od__law_is_lowest an__law_is_lowest : Option Addr} {sl__law_is_lowest : Array (Option Value)} {oc__law_is_lowest kV__law_is_lowest dc__law_is_lowest pm__law_is_lowest ct__law_is_lowest : Value} {cd__law_is_lowest : Value} {f__law_lowest_right : Addr} {od__law_lowest_right an__law_lowest_right : Option Addr} {sl__law_lowest_right : Array (Option Value)} {oc__law_lowest_right kV__law_lowest_right dc__law_lowest_right pm__law_lowest_right ct__law_lowest_right : Value} {cd__law_lowest_right : Value} {cc__law_reckoned_right P__law_reckoned_right : Addr} {f__law_reckoned_right : Addr} {od__law_reckoned_right an__law_reckoned_right : Option Addr} {sl__law_reckoned_right : Array (Option Value)} {oc__law_reckoned_right kV__law_reckoned_right dc__law_reckoned_right pm__law_reckoned_right ct__law_reckoned_right : Value} {cc__law_refused_right P__law_refused_right : Addr} {f__law_refused_right : Addr} {od__law_refused_right an__law_refused_right : Option Addr} {sl__law_refused_right : Array (Option Value)} {oc__law_refused_right kV__law_refused_right dc__law_refused_right pm__law_refused_right ct__law_refused_right : Value} {f_law : Addr} {od_law an_law : Option Addr} {sl_law : Array (Option Value)} {oc_law kV_law dc_law pm_law ct_law : Value} {cd_law : Value} {f__law_heard : Addr} {od__law_heard an__law_heard : Option Addr} {sl__law_heard : Array (Option Value)} {oc__law_heard kV__law_heard dc__law_heard pm__law_heard ct__law_heard : Value} {cd__law_heard : Value} {D_BadNumber fi_BadNumber : Addr} {nm_BadNumber qn_BadNumber : Str} {N_BadNumber : Addr} {bs_BadNumber bm_BadNumber sub_BadNumber : List Value} {sn_BadNumber : List Str} {ab_BadNumber : Bool} {col_BadNumber : Option Bool} {dd_BadNumber : Option Addr} {m0_BadNumber m1_BadNumber m2_BadNumber m3_BadNumber m5_BadNumber : Option Value} {odi_BadNumber ani_BadNumber : Option Addr} {sli_BadNumber : Array (Option Value)} {oci_BadNumber kVi_BadNumber dci_BadNumber pmi_BadNumber cdi_BadNumber cti_BadNumber : Value} {CS_BadNumber : Addr} (X : K.In h) (G : h.Ns mainGlobals mg) (hfa : mg "law" = some (.ref fa))
    (ax_is_integer : PySem.W.nsIn K mainGlobals "is_integer" = some (some (.ref f_is_integer)))
    (lx_is_integer : K.lookup f_is_integer = some ⟨oc_is_integer, od_is_integer, .func (PySem.W.fnOf "is_integer" "is_integer" (defArgs s_is_integer) (defBody s_is_integer) (defScope s_is_integer) .none kV_is_integer dc_is_integer pm_is_integer an_is_integer cd_is_integer ct_is_integer), sl_is_integer⟩)
    (cx_is_integer : PySem.W.codeIn K cd_is_integer "is_integer" = true)
    (kx_is_integer : PySem.W.keepIn K (.ref f_is_integer) = true)
    (ax_are_numbers : PySem.W.nsIn K mainGlobals "are_numbers" = some (some (.ref f_are_numbers)))
    (lx_are_numbers : K.lookup f_are_numbers = some ⟨oc_are_numbers, od_are_numbers, .func (PySem.W.fnOf "are_numbers" "are_numbers" (defArgs s_are_numbers) (defBody s_are_numbers) (defScope s_are_numbers) .none kV_are_numbers dc_are_numbers pm_are_numbers an_are_numbers cd_are_numbers ct_are_numbers), sl_are_numbers⟩)
    (cx_are_numbers : PySem.W.codeIn K cd_are_numbers "are_numbers" = true)
    (kx_are_numbers : PySem.W.keepIn K (.ref f_are_numbers) = true)
    (ax_is_fraction : PySem.W.nsIn K mainGlobals "is_fraction" = some (some (.ref f_is_fraction)))
    (lx_is_fraction : K.lookup f_is_fraction = some ⟨oc_is_fraction, od_is_fraction, .func (PySem.W.fnOf "is_fraction" "is_fraction" (defArgs s_is_fraction) (defBody s_is_fraction) (defScope s_is_fraction) .none kV_is_fraction dc_is_fraction pm_is_fraction an_is_fraction cd_is_fraction ct_is_fraction), sl_is_fraction⟩)
    (cx_is_fraction : PySem.W.codeIn K cd_is_fraction "is_fraction" = true)
    (kx_is_fraction : PySem.W.keepIn K (.ref f_is_fraction) = true)
    (ax_lowest : PySem.W.nsIn K mainGlobals "lowest" = some (some (.ref f_lowest)))
    (lx_lowest : K.lookup f_lowest = some ⟨oc_lowest, od_lowest, .func (PySem.W.fnOf "lowest" "lowest" (defArgs s_lowest) (defBody s_lowest) (defScope s_lowest) .none kV_lowest dc_lowest pm_lowest an_lowest cd_lowest ct_lowest), sl_lowest⟩)
    (cx_lowest : PySem.W.codeIn K cd_lowest "lowest" = true)
    (kx_lowest : PySem.W.keepIn K (.ref f_lowest) = true)
    (ax__need_fractions : PySem.W.nsIn K mainGlobals "_need_fractions" = some (some (.ref f__need_fractions)))
    (lx__need_fractions : K.lookup f__need_fractions = some ⟨oc__need_fractions, od__need_fractions, .func (PySem.W.fnOf "_need_fractions" "_need_fractions" (defArgs s__need_fractions) (defBody s__need_fractions) (defScope s__need_fractions) .none kV__need_fractions dc__need_fractions pm__need_fractions an__need_fractions cd__need_fractions ct__need_fractions), sl__need_fractions⟩)
    (cx__need_fractions : PySem.W.codeIn K cd__need_fractions "_need_fractions" = true)
    (kx__need_fractions : PySem.W.keepIn K (.ref f__need_fractions) = true)
    (ax_plus : PySem.W.nsIn K mainGlobals "plus" = some (some (.ref f_plus)))
    (lx_plus : K.lookup f_plus = some ⟨oc_plus, od_plus, .func (PySem.W.fnOf "plus" "plus" (defArgs s_plus) (defBody s_plus) (defScope s_plus) .none kV_plus dc_plus pm_plus an_plus cd_plus ct_plus), sl_plus⟩)
    (cx_plus : PySem.W.codeIn K cd_plus "plus" = true)
    (kx_plus : PySem.W.keepIn K (.ref f_plus) = true)
    (ax_less : PySem.W.nsIn K mainGlobals "less" = some (some (.ref f_less)))
    (lx_less : K.lookup f_less = some ⟨oc_less, od_less, .func (PySem.W.fnOf "less" "less" (defArgs s_less) (defBody s_less) (defScope s_less) .none kV_less dc_less pm_less an_less cd_less ct_less), sl_less⟩)
    (cx_less : PySem.W.codeIn K cd_less "less" = true)
    (kx_less : PySem.W.keepIn K (.ref f_less) = true)
    (ax_times : PySem.W.nsIn K mainGlobals "times" = some (some (.ref f_times)))
    (lx_times : K.lookup f_times = some ⟨oc_times, od_times, .func (PySem.W.fnOf "times" "times" (defArgs s_times) (defBody s_times) (defScope s_times) .none kV_times dc_times pm_times an_times cd_times ct_times), sl_times⟩)
    (cx_times : PySem.W.codeIn K cd_times "times" = true)
    (kx_times : PySem.W.keepIn K (.ref f_times) = true)
    (ax_over : PySem.W.nsIn K mainGlobals "over" = some (some (.ref f_over)))
    (lx_over : K.lookup f_over = some ⟨oc_over, od_over, .func (PySem.W.fnOf "over" "over" (defArgs s_over) (defBody s_over) (defScope s_over) .none kV_over dc_over pm_over an_over cd_over ct_over), sl_over⟩)
    (cx_over : PySem.W.codeIn K cd_over "over" = true)
    (kx_over : PySem.W.keepIn K (.ref f_over) = true)
    (ax__law_cup : PySem.W.nsIn K mainGlobals "_law_cup" = some (some (.ref f__law_cup)))
    (lx__law_cup : K.lookup f__law_cup = some ⟨oc__law_cup, od__law_cup, .func (PySem.W.fnOf "_law_cup" "_law_cup" (defArgs s__law_cup) (defBody s__law_cup) (defScope s__law_cup) .none kV__law_cup dc__law_cup pm__law_cup an__law_cup cd__law_cup ct__law_cup), sl__law_cup⟩)
    (cx__law_cup : PySem.W.codeIn K cd__law_cup "_law_cup" = true)
    (kx__law_cup : PySem.W.keepIn K (.ref f__law_cup) = true)
    (ax__law_sip : PySem.W.nsIn K mainGlobals "_law_sip" = some (some (.ref f__law_sip)))
    (lx__law_sip : K.lookup f__law_sip = some ⟨oc__law_sip, od__law_sip, .func (PySem.W.fnOf "_law_sip" "_law_sip" (defArgs s__law_sip) (defBody s__law_sip) (defScope s__law_sip) .none kV__law_sip dc__law_sip pm__law_sip an__law_sip cd__law_sip ct__law_sip), sl__law_sip⟩)
    (cx__law_sip : PySem.W.codeIn K cd__law_sip "_law_sip" = true)
    (kx__law_sip : PySem.W.keepIn K (.ref f__law_sip) = true)
    (ax__law_pick : PySem.W.nsIn K mainGlobals "_law_pick" = some (some (.ref f__law_pick)))
    (lx__law_pick : K.lookup f__law_pick = some ⟨oc__law_pick, od__law_pick, .func (PySem.W.fnOf "_law_pick" "_law_pick" (defArgs s__law_pick) (defBody s__law_pick) (defScope s__law_pick) .none kV__law_pick dc__law_pick pm__law_pick an__law_pick cd__law_pick ct__law_pick), sl__law_pick⟩)
    (cx__law_pick : PySem.W.codeIn K cd__law_pick "_law_pick" = true)
    (kx__law_pick : PySem.W.keepIn K (.ref f__law_pick) = true)
    (ax__law_integer : PySem.W.nsIn K mainGlobals "_law_integer" = some (some (.ref f__law_integer)))
    (lx__law_integer : K.lookup f__law_integer = some ⟨oc__law_integer, od__law_integer, .func (PySem.W.fnOf "_law_integer" "_law_integer" (defArgs s__law_integer) (defBody s__law_integer) (defScope s__law_integer) .none kV__law_integer dc__law_integer pm__law_integer an__law_integer cd__law_integer ct__law_integer), sl__law_integer⟩)
    (cx__law_integer : PySem.W.codeIn K cd__law_integer "_law_integer" = true)
    (kx__law_integer : PySem.W.keepIn K (.ref f__law_integer) = true)
    (ax__law_fraction : PySem.W.nsIn K mainGlobals "_law_fraction" = some (some (.ref f__law_fraction)))
    (lx__law_fraction : K.lookup f__law_fraction = some ⟨oc__law_fraction, od__law_fraction, .func (PySem.W.fnOf "_law_fraction" "_law_fraction" (defArgs s__law_fraction) (defBody s__law_fraction) (defScope s__law_fraction) .none kV__law_fraction dc__law_fraction pm__law_fraction an__law_fraction cd__law_fraction ct__law_fraction), sl__law_fraction⟩)
    (cx__law_fraction : PySem.W.codeIn K cd__law_fraction "_law_fraction" = true)
    (kx__law_fraction : PySem.W.keepIn K (.ref f__law_fraction) = true)
    (ax__law_is_lowest : PySem.W.nsIn K mainGlobals "_law_is_lowest" = some (some (.ref f__law_is_lowest)))
    (lx__law_is_lowest : K.lookup f__law_is_lowest = some ⟨oc__law_is_lowest, od__law_is_lowest, .func (PySem.W.fnOf "_law_is_lowest" "_law_is_lowest" (defArgs s__law_is_lowest) (defBody s__law_is_lowest) (defScope s__law_is_lowest) .none kV__law_is_lowest dc__law_is_lowest pm__law_is_lowest an__law_is_lowest cd__law_is_lowest ct__law_is_lowest), sl__law_is_lowest⟩)
    (cx__law_is_lowest : PySem.W.codeIn K cd__law_is_lowest "_law_is_lowest" = true)
    (kx__law_is_lowest : PySem.W.keepIn K (.ref f__law_is_lowest) = true)
    (ax__law_lowest_right : PySem.W.nsIn K mainGlobals "_law_lowest_right" = some (some (.ref f__law_lowest_right)))
    (lx__law_lowest_right : K.lookup f__law_lowest_right = some ⟨oc__law_lowest_right, od__law_lowest_right, .func (PySem.W.fnOf "_law_lowest_right" "_law_lowest_right" (defArgs s__law_lowest_right) (defBody s__law_lowest_right) (defScope s__law_lowest_right) .none kV__law_lowest_right dc__law_lowest_right pm__law_lowest_right an__law_lowest_right cd__law_lowest_right ct__law_lowest_right), sl__law_lowest_right⟩)
    (cx__law_lowest_right : PySem.W.codeIn K cd__law_lowest_right "_law_lowest_right" = true)
    (kx__law_lowest_right : PySem.W.keepIn K (.ref f__law_lowest_right) = true)
    (ax__law_reckoned_right : PySem.W.nsIn K mainGlobals "_law_reckoned_right" = some (some (.ref f__law_reckoned_right)))
    (lx__law_reckoned_right : K.lookup f__law_reckoned_right = some ⟨oc__law_reckoned_right, od__law_reckoned_right, .func (PySem.W.fnOf "_law_reckoned_right" "_law_reckoned_right" (defArgs s__law_reckoned_right) (defBody s__law_reckoned_right) (defScope s__law_reckoned_right) .none kV__law_reckoned_right dc__law_reckoned_right pm__law_reckoned_right an__law_reckoned_right (.ref cc__law_reckoned_right) ct__law_reckoned_right), sl__law_reckoned_right⟩)
    (cx__law_reckoned_right : PySem.W.codeIn K (.ref cc__law_reckoned_right) "_law_reckoned_right" = true)
    (kx__law_reckoned_right : PySem.W.keepIn K (.ref f__law_reckoned_right) = true)
    (tx__law_reckoned_right : PySem.W.codeHdIn K cc__law_reckoned_right P__law_reckoned_right = true)
    (ux__law_reckoned_right : K.lookup P__law_reckoned_right = none)
    (ax__law_refused_right : PySem.W.nsIn K mainGlobals "_law_refused_right" = some (some (.ref f__law_refused_right)))
    (lx__law_refused_right : K.lookup f__law_refused_right = some ⟨oc__law_refused_right, od__law_refused_right, .func (PySem.W.fnOf "_law_refused_right" "_law_refused_right" (defArgs s__law_refused_right) (defBody s__law_refused_right) (defScope s__law_refused_right) .none kV__law_refused_right dc__law_refused_right pm__law_refused_right an__law_refused_right (.ref cc__law_refused_right) ct__law_refused_right), sl__law_refused_right⟩)
    (cx__law_refused_right : PySem.W.codeIn K (.ref cc__law_refused_right) "_law_refused_right" = true)
    (kx__law_refused_right : PySem.W.keepIn K (.ref f__law_refused_right) = true)
    (tx__law_refused_right : PySem.W.codeHdIn K cc__law_refused_right P__law_refused_right = true)
    (ux__law_refused_right : K.lookup P__law_refused_right = none)
    (ax_law : PySem.W.nsIn K mainGlobals "law" = some (some (.ref f_law)))
    (lx_law : K.lookup f_law = some ⟨oc_law, od_law, .func (PySem.W.fnOf "law" "law" (defArgs s_law) (defBody s_law) (defScope s_law) .none kV_law dc_law pm_law an_law cd_law ct_law), sl_law⟩)
    (cx_law : PySem.W.codeIn K cd_law "law" = true)
    (kx_law : PySem.W.keepIn K (.ref f_law) = true)
    (ax__law_heard : PySem.W.nsIn K mainGlobals "_law_heard" = some (some (.ref f__law_heard)))
    (lx__law_heard : K.lookup f__law_heard = some ⟨oc__law_heard, od__law_heard, .func (PySem.W.fnOf "_law_heard" "_law_heard" (defArgs s__law_heard) (defBody s__law_heard) (defScope s__law_heard) .none kV__law_heard dc__law_heard pm__law_heard an__law_heard cd__law_heard ct__law_heard), sl__law_heard⟩)
    (cx__law_heard : PySem.W.codeIn K cd__law_heard "_law_heard" = true)
    (kx__law_heard : PySem.W.keepIn K (.ref f__law_heard) = true)
    (z_int : PySem.W.nsIn K mainGlobals "int" = some none)
    (z_isinstance : PySem.W.nsIn K mainGlobals "isinstance" = some none)
    (z_bool : PySem.W.nsIn K mainGlobals "bool" = some none)
    (z_list : PySem.W.nsIn K mainGlobals "list" = some none)
    (z_tuple : PySem.W.nsIn K mainGlobals "tuple" = some none)
    (z_all : PySem.W.nsIn K mainGlobals "all" = some none)
    (z_len : PySem.W.nsIn K mainGlobals "len" = some none)
    (z_gcd : PySem.W.nsIn K mainGlobals "gcd" = some (some (.builtin "math.gcd")))
    (z_abs : PySem.W.nsIn K mainGlobals "abs" = some none)
    (z_range : PySem.W.nsIn K mainGlobals "range" = some none)
    (z_max : PySem.W.nsIn K mainGlobals "max" = some none)
    (z_enumerate : PySem.W.nsIn K mainGlobals "enumerate" = some none)
    (aC_BadNumber : PySem.W.nsIn K mainGlobals "BadNumber" = some (some (.ref D_BadNumber)))
    (xL_BadNumber : K.lookup D_BadNumber = some (excClassObj nm_BadNumber qn_BadNumber D_BadNumber N_BadNumber bs_BadNumber bm_BadNumber true sn_BadNumber sub_BadNumber ab_BadNumber col_BadNumber dd_BadNumber m0_BadNumber m1_BadNumber m2_BadNumber m3_BadNumber m5_BadNumber "ValueError.__new__"))
    (bV_BadNumber : PySem.HandSPX.refsVE bm_BadNumber = true)
    (sa_BadNumber : PySem.W.findIn K (.ref D_BadNumber) "__setattr__" = some (some (.builtin "object.__setattr__")))
    (eC_BadNumber : PySem.W.subIn K (.ref D_BadNumber) (.type "BaseException") = some true)
    (tC_BadNumber : PySem.W.typeIn K (.ref D_BadNumber) = some (.type "type"))
    (kC_BadNumber : PySem.W.keepIn K (.ref D_BadNumber) = true)
    (nb_BadNumber : PySem.W.findIn K (.ref D_BadNumber) "part" = some none)
    (ii_BadNumber : PySem.W.findIn K (.ref D_BadNumber) "__init__" = some (some (.ref fi_BadNumber)))
    (ti_BadNumber : PySem.W.typeIn K (.ref fi_BadNumber) = some (.type "function"))
    (li_BadNumber : K.lookup fi_BadNumber = some ⟨oci_BadNumber, odi_BadNumber, .func (PySem.W.fnOf "__init__" "BadNumber.__init__" (defArgs s_i_BadNumber) (defBody s_i_BadNumber) (defScope s_i_BadNumber) .none kVi_BadNumber dci_BadNumber pmi_BadNumber ani_BadNumber cdi_BadNumber cti_BadNumber), sli_BadNumber⟩)
    (ci_BadNumber : PySem.W.codeIn K cdi_BadNumber "BadNumber.__init__" = true)
    (ki_BadNumber : PySem.W.keepIn K (.ref fi_BadNumber) = true)
    (ga_BadNumber : PySem.W.findIn K (.ref D_BadNumber) "__getattribute__" = some (some (.builtin "BaseException.__getattribute__")))
    (gg_BadNumber : PySem.W.findIn K (.ref D_BadNumber) "__getattr__" = some none)
    (hC_BadNumber : PySem.W.hasDictIn K D_BadNumber = true)
    (ca_BadNumber : PySem.W.findIn K (.ref D_BadNumber) "__class__" = some (some (.builtin "object.__class__")))
    (hn_BadNumber : PySem.W.specialIn K (.builtin "object.__class__") "__get__" = some (some (.builtin "getset_descriptor.__get__")))
    (ht_BadNumber : PySem.W.takesIn K (.builtin "object.__class__") = some true)
    (hm_BadNumber : PySem.W.mroIn K D_BadNumber (.type "object") = some true)
    (aS_BadNumber : PySem.W.nsIn K mainGlobals "WebError" = some (some (.ref CS_BadNumber)))
    (te_BadNumber : PySem.W.exmOne K (.ref D_BadNumber) (.ref CS_BadNumber) = some true)
    (kk_BadNumber : PySem.W.kitOne K (.ref D_BadNumber) (.ref D_BadNumber) = some true)
    (hP__law_reckoned_right : h.get? P__law_reckoned_right = some (PySem.W.tabObj #[]))
    (hP__law_refused_right : h.get? P__law_refused_right = some (PySem.W.tabObj #[]))
    (nP : P__law_reckoned_right ≠ P__law_refused_right) :
    LamX.LawAtS l w K (L2.CX l.prog w) 11 63 "script" mg fa h := by
  have e := hfa.symm.trans (PySem.W.mg_of X G ax_law)
  cases e
  have g_int : mg "int" = none := PySem.W.mg_none_of X G z_int
  have g_isinstance : mg "isinstance" = none := PySem.W.mg_none_of X G z_isinstance
  have g_bool : mg "bool" = none := PySem.W.mg_none_of X G z_bool
  have g_list : mg "list" = none := PySem.W.mg_none_of X G z_list
  have g_tuple : mg "tuple" = none := PySem.W.mg_none_of X G z_tuple
  have g_all : mg "all" = none := PySem.W.mg_none_of X G z_all
  have g_len : mg "len" = none := PySem.W.mg_none_of X G z_len
  have g_gcd : mg "gcd" = some (.builtin "math.gcd") := PySem.W.mg_of X G z_gcd
  have g_abs : mg "abs" = none := PySem.W.mg_none_of X G z_abs
  have g_range : mg "range" = none := PySem.W.mg_none_of X G z_range
  have g_max : mg "max" = none := PySem.W.mg_none_of X G z_max
  have g_enumerate : mg "enumerate" = none := PySem.W.mg_none_of X G z_enumerate
  have oC_BadNumber : OexC K D_BadNumber := ⟨⟨_, _, _, _, _, _, _, _, _, _, _, _, _, _, _, xL_BadNumber, bV_BadNumber⟩, sa_BadNumber, eC_BadNumber, tC_BadNumber, kC_BadNumber⟩
  have hd_BadNumber : Hd K CS_BadNumber D_BadNumber "part" := ⟨⟨ga_BadNumber, gg_BadNumber, eC_BadNumber, hC_BadNumber, ca_BadNumber, hn_BadNumber, ht_BadNumber, hm_BadNumber⟩, ⟨ga_BadNumber, gg_BadNumber, eC_BadNumber, hC_BadNumber⟩, nb_BadNumber, te_BadNumber⟩
  refine ⟨PySem.W.fnOf "law" "law" (defArgs s_law) (defBody s_law) (defScope s_law) .none kV_law dc_law pm_law an_law cd_law ct_law, [(cc__law_reckoned_right, P__law_reckoned_right), (cc__law_refused_right, P__law_refused_right)], spF ({ K := K, ca := fun _ => D_BadNumber, wa := fun _ => .non, T := [(P__law_reckoned_right, ("_law_reckoned_right.<locals>.<lambda>" : Str)), (P__law_refused_right, ("_law_refused_right.<locals>.<lambda>" : Str))] } : Cn) 1 3 b_law, ?_, ?_, ?_, fun s v => .of_eq rfl, ?_, ?_⟩
  · exact List.forall_mem_cons.mpr ⟨hP__law_reckoned_right, List.forall_mem_cons.mpr ⟨hP__law_refused_right, fun _ z => nomatch z⟩⟩
  · exact List.forall_mem_cons.mpr ⟨ux__law_reckoned_right, List.forall_mem_cons.mpr ⟨ux__law_refused_right, fun _ z => nomatch z⟩⟩
  · exact List.forall_mem_cons.mpr ⟨PySem.W.codeHd_of_K X tx__law_reckoned_right, List.forall_mem_cons.mpr ⟨PySem.W.codeHd_of_K X tx__law_refused_right, fun _ z => nomatch z⟩⟩
  · intro H a ns hl hb hT hS
    obtain ⟨ρ', e⟩ := law_math ns hl hb
    refine ⟨fun _ => True, [some (.fz (.scr ns))], fun _ _ => trivial, ?_, rfl, by decide, env_fz (vs := [.ref a]) (xs := [.scr ns]) (reps_cons (rep_scr.mpr ⟨a, rfl, ?_⟩) reps_nil), fun i s h o => ?_, ?_⟩
    · exact List.forall_mem_cons.mpr ⟨.nil (hT _ (.head _)), List.forall_mem_cons.mpr ⟨.nil (hT _ (.tail _ (.head _))), fun _ z => nomatch z⟩⟩
    · rcases hS with z | z
      · exact .inl ⟨trivial, z⟩
      · exact .inr z
    · cases i with
      | zero => cases h; cases o
      | succ i => cases h
    · show (finM (b_law [some (.fz (.scr ns)), none, none])).wp _ _
      unfold finM
      rw [e]
      exact fun v H' _ r => rep_bl.mp r
  · intro base KX GX TX
    let C : Cn := ({ K := K, ca := fun _ => D_BadNumber, wa := fun _ => .non, T := [(P__law_reckoned_right, ("_law_reckoned_right.<locals>.<lambda>" : Str)), (P__law_refused_right, ("_law_refused_right.<locals>.<lambda>" : Str))] } : Cn)
    have fi := fun_mk (st := s_i_BadNumber) li_BadNumber ci_BadNumber ki_BadNumber
    have x_BadNumber : Ex1 l.prog w C mg base "BadNumber" 1 "part" "part" := ⟨fi_BadNumber, _, oC_BadNumber, nb_BadNumber, ii_BadNumber, ti_BadNumber, ok_i_BadNumber fi, fi.binds (ps := [("self" : Str), "part"]) fun _ _ _ _ _ _ us hl => match us, hl with | [_, _], _ => rfl, PySem.W.mg_of X G aC_BadNumber⟩
    have h__law_heard : Hear C mg "_law_heard" "ask" 1 "part" s__law_heard ["ask", "heard", "error"] := ⟨f__law_heard, _, _, _, _, _, _, _, _, _, lx__law_heard, cx__law_heard, PySem.W.mg_of X G ax__law_heard, kx__law_heard, gv__law_heard (C := C) (PySem.W.mg_of X G aS_BadNumber) (PySem.W.mg_of X G aC_BadNumber) g_isinstance hd_BadNumber kk_BadNumber⟩
    have l__law_reckoned_right : LamD C base mg cc__law_reckoned_right P__law_reckoned_right ("_law_reckoned_right.<locals>.<lambda>" : Str) := ⟨TX (cc__law_reckoned_right, P__law_reckoned_right) (.head _), (.head _), fun p hp e => by rcases hp with _ | ⟨_, _ | ⟨_, h⟩⟩ <;> first | rfl | exact absurd e (Ne.symm nP) | cases h⟩
    have l__law_refused_right : LamD C base mg cc__law_refused_right P__law_refused_right ("_law_refused_right.<locals>.<lambda>" : Str) := ⟨TX (cc__law_refused_right, P__law_refused_right) (.tail _ (.head _)), (.tail _ (.head _)), fun p hp e => by rcases hp with _ | ⟨_, _ | ⟨_, h⟩⟩ <;> first | rfl | exact absurd e nP | cases h⟩
    have F_is_integer := fun_mk (st := s_is_integer) lx_is_integer cx_is_integer kx_is_integer
    have d_is_integer : Df l.prog w C mg base "is_integer" 3 ["value"] [] (spF C 1 1 b_is_integer) := ⟨f_is_integer, _, (ok_is_integer (C := C) F_is_integer (g_int := g_int) (g_isinstance := g_isinstance) (g_bool := g_bool)), PySem.W.mg_of X G ax_is_integer, kx_is_integer, F_is_integer.binds (ps := ["value"]) fun _ _ _ _ _ _ us hl => match us, hl with | [_], _ => rfl, fun _ z => nomatch z⟩
    have F_are_numbers := fun_mk (st := s_are_numbers) lx_are_numbers cx_are_numbers kx_are_numbers
    have d_are_numbers : Df l.prog w C mg base "are_numbers" 4 ["value"] [] (spF C 1 2 b_are_numbers) := ⟨f_are_numbers, _, (ok_are_numbers (C := C) F_are_numbers (g_list := g_list) (g_tuple := g_tuple) (g_isinstance := g_isinstance) (g_all := g_all) (d_is_integer := d_is_integer)), PySem.W.mg_of X G ax_are_numbers, kx_are_numbers, F_are_numbers.binds (ps := ["value"]) fun _ _ _ _ _ _ us hl => match us, hl with | [_], _ => rfl, fun _ z => nomatch z⟩
    have F_is_fraction := fun_mk (st := s_is_fraction) lx_is_fraction cx_is_fraction kx_is_fraction
    have d_is_fraction : Df l.prog w C mg base "is_fraction" 5 ["value"] [(["value"], [0])] (spF C 1 1 b_is_fraction) := ⟨f_is_fraction, _, (ok_is_fraction (C := C) F_is_fraction (g_len := g_len) (g_gcd := g_gcd) (d_are_numbers := d_are_numbers)), PySem.W.mg_of X G ax_is_fraction, kx_is_fraction, F_is_fraction.binds (ps := ["value"]) fun _ _ _ _ _ _ us hl => match us, hl with | [_], _ => rfl, fun q hq s ws _ hl => by
      simp only [List.mem_cons, List.not_mem_nil, or_false] at hq
      rcases hq with rfl
      all_goals exact match ws, hl with | [_], _ => .of_eq rfl⟩
    have F_lowest := fun_mk (st := s_lowest) lx_lowest cx_lowest kx_lowest
    have d_lowest : Df l.prog w C mg base "lowest" 4 ["top", "bottom"] [(["bottom", "top"], [1, 0])] (spF C 2 3 b_lowest) := ⟨f_lowest, _, (ok_lowest (C := C) F_lowest (g_gcd := g_gcd) (x_BadNumber := x_BadNumber) (d_is_integer := d_is_integer)), PySem.W.mg_of X G ax_lowest, kx_lowest, F_lowest.binds (ps := ["top", "bottom"]) fun _ _ _ _ _ _ us hl => match us, hl with | [_, _], _ => rfl, fun q hq s ws _ hl => by
      simp only [List.mem_cons, List.not_mem_nil, or_false] at hq
      rcases hq with rfl
      all_goals exact match ws, hl with | [_, _], _ => .of_eq rfl⟩
    have F__need_fractions := fun_mk (st := s__need_fractions) lx__need_fractions cx__need_fractions kx__need_fractions
    have d__need_fractions : Df l.prog w C mg base "_need_fractions" 6 ["one", "other"] [] (spF C 2 2 b__need_fractions) := ⟨f__need_fractions, _, (ok__need_fractions (C := C) F__need_fractions (x_BadNumber := x_BadNumber) (d_is_fraction := d_is_fraction)), PySem.W.mg_of X G ax__need_fractions, kx__need_fractions, F__need_fractions.binds (ps := ["one", "other"]) fun _ _ _ _ _ _ us hl => match us, hl with | [_, _], _ => rfl, fun _ z => nomatch z⟩
    have F_plus := fun_mk (st := s_plus) lx_plus cx_plus kx_plus
    have d_plus : Df l.prog w C mg base "plus" 7 ["one", "other"] [(["one", "other"], [0, 1]), (["other", "one"], [1, 0])] (spF C 2 2 b_plus) := ⟨f_plus, _, (ok_plus (C := C) F_plus (d__need_fractions := d__need_fractions) (d_lowest := d_lowest)), PySem.W.mg_of X G ax_plus, kx_plus, F_plus.binds (ps := ["one", "other"]) fun _ _ _ _ _ _ us hl => match us, hl with | [_, _], _ => rfl, fun q hq s ws _ hl => by
      simp only [List.mem_cons, List.not_mem_nil, or_false] at hq
      rcases hq with rfl | rfl
      all_goals exact match ws, hl with | [_, _], _ => .of_eq rfl⟩
    have F_less := fun_mk (st := s_less) lx_less cx_less kx_less
    have d_less : Df l.prog w C mg base "less" 7 ["one", "other"] [(["other", "one"], [1, 0])] (spF C 2 2 b_less) := ⟨f_less, _, (ok_less (C := C) F_less (d__need_fractions := d__need_fractions) (d_lowest := d_lowest)), PySem.W.mg_of X G ax_less, kx_less, F_less.binds (ps := ["one", "other"]) fun _ _ _ _ _ _ us hl => match us, hl with | [_, _], _ => rfl, fun q hq s ws _ hl => by
      simp only [List.mem_cons, List.not_mem_nil, or_false] at hq
      rcases hq with rfl
      all_goals exact match ws, hl with | [_, _], _ => .of_eq rfl⟩
    have F_times := fun_mk (st := s_times) lx_times cx_times kx_times
    have d_times : Df l.prog w C mg base "times" 7 ["one", "other"] [(["one", "other"], [0, 1])] (spF C 2 2 b_times) := ⟨f_times, _, (ok_times (C := C) F_times (d__need_fractions := d__need_fractions) (d_lowest := d_lowest)), PySem.W.mg_of X G ax_times, kx_times, F_times.binds (ps := ["one", "other"]) fun _ _ _ _ _ _ us hl => match us, hl with | [_, _], _ => rfl, fun q hq s ws _ hl => by
      simp only [List.mem_cons, List.not_mem_nil, or_false] at hq
      rcases hq with rfl
      all_goals exact match ws, hl with | [_, _], _ => .of_eq rfl⟩
    have F_over := fun_mk (st := s_over) lx_over cx_over kx_over
    have d_over : Df l.prog w C mg base "over" 7 ["one", "other"] [(["other", "one"], [1, 0])] (spF C 2 2 b_over) := ⟨f_over, _, (ok_over (C := C) F_over (x_BadNumber := x_BadNumber) (d__need_fractions := d__need_fractions) (d_lowest := d_lowest)), PySem.W.mg_of X G ax_over, kx_over, F_over.binds (ps := ["one", "other"]) fun _ _ _ _ _ _ us hl => match us, hl with | [_, _], _ => rfl, fun q hq s ws _ hl => by
      simp only [List.mem_cons, List.not_mem_nil, or_false] at hq
      rcases hq with rfl
      all_goals exact match ws, hl with | [_, _], _ => .of_eq rfl⟩
    have F__law_cup := fun_mk (st := s__law_cup) lx__law_cup cx__law_cup kx__law_cup
    have d__law_cup : Df l.prog w C mg base "_law_cup" 3 ["script"] [] (spN C 1 2 n__law_cup) := ⟨f__law_cup, _, (ok__law_cup (C := C) F__law_cup (g_int := g_int)), PySem.W.mg_of X G ax__law_cup, kx__law_cup, F__law_cup.binds (ps := ["script"]) fun _ _ _ _ _ _ us hl => match us, hl with | [_], _ => rfl, fun _ z => nomatch z⟩
    have F__law_sip := fun_mk (st := s__law_sip) lx__law_sip cx__law_sip kx__law_sip
    have d__law_sip : Df l.prog w C mg base "_law_sip" 3 ["cup", "many"] [] (spF C 2 6 b__law_sip) := ⟨f__law_sip, _, (ok__law_sip (C := C) F__law_sip (g_int := g_int) (g_len := g_len) (g_abs := g_abs)), PySem.W.mg_of X G ax__law_sip, kx__law_sip, F__law_sip.binds (ps := ["cup", "many"]) fun _ _ _ _ _ _ us hl => match us, hl with | [_, _], _ => rfl, fun _ z => nomatch z⟩
    have F__law_pick := fun_mk (st := s__law_pick) lx__law_pick cx__law_pick kx__law_pick
    have d__law_pick : Df l.prog w C mg base "_law_pick" 4 ["cup", "some"] [] (spF C 2 2 b__law_pick) := ⟨f__law_pick, _, (ok__law_pick (C := C) F__law_pick (g_len := g_len) (d__law_sip := d__law_sip)), PySem.W.mg_of X G ax__law_pick, kx__law_pick, F__law_pick.binds (ps := ["cup", "some"]) fun _ _ _ _ _ _ us hl => match us, hl with | [_, _], _ => rfl, fun _ z => nomatch z⟩
    have F__law_integer := fun_mk (st := s__law_integer) lx__law_integer cx__law_integer kx__law_integer
    have d__law_integer : Df l.prog w C mg base "_law_integer" 5 ["cup"] [] (spF C 1 1 b__law_integer) := ⟨f__law_integer, _, (ok__law_integer (C := C) F__law_integer (d__law_pick := d__law_pick) (d__law_sip := d__law_sip)), PySem.W.mg_of X G ax__law_integer, kx__law_integer, F__law_integer.binds (ps := ["cup"]) fun _ _ _ _ _ _ us hl => match us, hl with | [_], _ => rfl, fun _ z => nomatch z⟩
    have F__law_fraction := fun_mk (st := s__law_fraction) lx__law_fraction cx__law_fraction kx__law_fraction
    have d__law_fraction : Df l.prog w C mg base "_law_fraction" 6 ["cup"] [] (spF C 1 5 b__law_fraction) := ⟨f__law_fraction, _, (ok__law_fraction (C := C) F__law_fraction (g_range := g_range) (g_int := g_int) (g_max := g_max) (d__law_integer := d__law_integer) (d__law_sip := d__law_sip)), PySem.W.mg_of X G ax__law_fraction, kx__law_fraction, F__law_fraction.binds (ps := ["cup"]) fun _ _ _ _ _ _ us hl => match us, hl with | [_], _ => rfl, fun _ z => nomatch z⟩
    have F__law_is_lowest := fun_mk (st := s__law_is_lowest) lx__law_is_lowest cx__law_is_lowest kx__law_is_lowest
    have d__law_is_lowest : Df l.prog w C mg base "_law_is_lowest" 3 ["value"] [] (spF C 1 4 b__law_is_lowest) := ⟨f__law_is_lowest, _, (ok__law_is_lowest (C := C) F__law_is_lowest (g_tuple := g_tuple) (g_isinstance := g_isinstance) (g_len := g_len) (g_bool := g_bool) (g_int := g_int) (g_range := g_range)), PySem.W.mg_of X G ax__law_is_lowest, kx__law_is_lowest, F__law_is_lowest.binds (ps := ["value"]) fun _ _ _ _ _ _ us hl => match us, hl with | [_], _ => rfl, fun _ z => nomatch z⟩
    have F__law_lowest_right := fun_mk (st := s__law_lowest_right) lx__law_lowest_right cx__law_lowest_right kx__law_lowest_right
    have d__law_lowest_right : Df l.prog w C mg base "_law_lowest_right" 6 ["cup"] [] (spF C 1 5 b__law_lowest_right) := ⟨f__law_lowest_right, _, (ok__law_lowest_right (C := C) F__law_lowest_right (g_list := g_list) (d__law_integer := d__law_integer) (d__law_pick := d__law_pick) (d__law_sip := d__law_sip) (d_lowest := d_lowest) (d__law_is_lowest := d__law_is_lowest) (d_is_fraction := d_is_fraction)), PySem.W.mg_of X G ax__law_lowest_right, kx__law_lowest_right, F__law_lowest_right.binds (ps := ["cup"]) fun _ _ _ _ _ _ us hl => match us, hl with | [_], _ => rfl, fun _ z => nomatch z⟩
    have F__law_reckoned_right := fun_mk (st := s__law_reckoned_right) lx__law_reckoned_right cx__law_reckoned_right kx__law_reckoned_right
    have d__law_reckoned_right : Df l.prog w C mg base "_law_reckoned_right" 10 ["cup"] [] (spF C 1 9 b__law_reckoned_right) := ⟨f__law_reckoned_right, _, (ok__law_reckoned_right (C := C) lx__law_reckoned_right cx__law_reckoned_right l__law_reckoned_right (g_list := g_list) (g_enumerate := g_enumerate) (d__law_fraction := d__law_fraction) (d_plus := d_plus) (d_less := d_less) (d_times := d_times) (d__law_is_lowest := d__law_is_lowest) (d_over := d_over) (h__law_heard := h__law_heard)), PySem.W.mg_of X G ax__law_reckoned_right, kx__law_reckoned_right, F__law_reckoned_right.binds (ps := ["cup"]) fun _ _ _ _ _ _ us hl => match us, hl with | [_], _ => rfl, fun _ z => nomatch z⟩
    have F__law_refused_right := fun_mk (st := s__law_refused_right) lx__law_refused_right cx__law_refused_right kx__law_refused_right
    have d__law_refused_right : Df l.prog w C mg base "_law_refused_right" 10 ["cup"] [] (spF C 1 5 b__law_refused_right) := ⟨f__law_refused_right, _, (ok__law_refused_right (C := C) lx__law_refused_right cx__law_refused_right l__law_refused_right (d__law_fraction := d__law_fraction) (d__law_pick := d__law_pick) (d_is_fraction := d_is_fraction) (d_plus := d_plus) (d_less := d_less) (d_times := d_times) (d_over := d_over) (d_lowest := d_lowest) (h__law_heard := h__law_heard)), PySem.W.mg_of X G ax__law_refused_right, kx__law_refused_right, F__law_refused_right.binds (ps := ["cup"]) fun _ _ _ _ _ _ us hl => match us, hl with | [_], _ => rfl, fun _ z => nomatch z⟩
    have F_law := fun_mk (st := s_law) lx_law cx_law kx_law
    exact (ok_law (C := C) F_law (g_range := g_range) (d__law_cup := d__law_cup) (d__law_lowest_right := d__law_lowest_right) (d__law_reckoned_right := d__law_reckoned_right) (d__law_refused_right := d__law_refused_right))
end Y

open PySem PySem.W PyProof.Rows in
set_option maxRecDepth 100000 in
set_option maxHeartbeats 0 in
theorem PySem.Challenge.cw_littlewebs_k03_fractions_holds : PySem.Challenge.rw_littlewebs_k03_fractions.Holds := by
  w_on; o_law; k_head; (case hw => w_witness2)
  k_fill
  refine LamX.walk_ofTs (l := PySem.Challenge.rw_littlewebs_k03_fractions) (n := 63) (k := 11) (x := "script") (CX := fun w => L2.CX PySem.Challenge.rw_littlewebs_k03_fractions.prog w) rfl (by decide) rfl ⟨rfl, by decide, by decide⟩ (fun w h Y => PySem.W.km_in_of Y) ?F ?X
  case X =>
    intro w H s e s' z
    obtain ⟨_, _, _, _, _, _, _, _, _, _, _, _, z⟩ := z
    exact z
  case F =>
    intro w mg fa h Y0 KX G hmg
    have hT := PySem.W.km_tabs_of Y0
    refine' Y.law_at (P__law_reckoned_right := 180) (P__law_refused_right := 192) KX G hmg ?ax_is_integer ?lx_is_integer ?cx_is_integer ?kx_is_integer ?ax_are_numbers ?lx_are_numbers ?cx_are_numbers ?kx_are_numbers ?ax_is_fraction ?lx_is_fraction ?cx_is_fraction ?kx_is_fraction ?ax_lowest ?lx_lowest ?cx_lowest ?kx_lowest ?ax__need_fractions ?lx__need_fractions ?cx__need_fractions ?kx__need_fractions ?ax_plus ?lx_plus ?cx_plus ?kx_plus ?ax_less ?lx_less ?cx_less ?kx_less ?ax_times ?lx_times ?cx_times ?kx_times ?ax_over ?lx_over ?cx_over ?kx_over ?ax__law_cup ?lx__law_cup ?cx__law_cup ?kx__law_cup ?ax__law_sip ?lx__law_sip ?cx__law_sip ?kx__law_sip ?ax__law_pick ?lx__law_pick ?cx__law_pick ?kx__law_pick ?ax__law_integer ?lx__law_integer ?cx__law_integer ?kx__law_integer ?ax__law_fraction ?lx__law_fraction ?cx__law_fraction ?kx__law_fraction ?ax__law_is_lowest ?lx__law_is_lowest ?cx__law_is_lowest ?kx__law_is_lowest ?ax__law_lowest_right ?lx__law_lowest_right ?cx__law_lowest_right ?kx__law_lowest_right ?ax__law_reckoned_right ?lx__law_reckoned_right ?cx__law_reckoned_right ?kx__law_reckoned_right ?tx__law_reckoned_right ?ux__law_reckoned_right ?ax__law_refused_right ?lx__law_refused_right ?cx__law_refused_right ?kx__law_refused_right ?tx__law_refused_right ?ux__law_refused_right ?ax_law ?lx_law ?cx_law ?kx_law ?ax__law_heard ?lx__law_heard ?cx__law_heard ?kx__law_heard ?z_int ?z_isinstance ?z_bool ?z_list ?z_tuple ?z_all ?z_len ?z_gcd ?z_abs ?z_range ?z_max ?z_enumerate ?aC_BadNumber ?xL_BadNumber ?bV_BadNumber ?sa_BadNumber ?eC_BadNumber ?tC_BadNumber ?kC_BadNumber ?nb_BadNumber ?ii_BadNumber ?ti_BadNumber ?li_BadNumber ?ci_BadNumber ?ki_BadNumber ?ga_BadNumber ?gg_BadNumber ?hC_BadNumber ?ca_BadNumber ?hn_BadNumber ?ht_BadNumber ?hm_BadNumber ?aS_BadNumber ?te_BadNumber ?kk_BadNumber (hT 180 (by k_mem)) (hT 192 (by k_mem)) (by decide)
    (case ax_is_integer => first | k_is | rfl)
    (case lx_is_integer => first | k_is | rfl)
    (case cx_is_integer => first | k_is | rfl)
    (case kx_is_integer => first | k_is | rfl)
    (case ax_are_numbers => first | k_is | rfl)
    (case lx_are_numbers => first | k_is | rfl)
    (case cx_are_numbers => first | k_is | rfl)
    (case kx_are_numbers => first | k_is | rfl)
    (case ax_is_fraction => first | k_is | rfl)
    (case lx_is_fraction => first | k_is | rfl)
    (case cx_is_fraction => first | k_is | rfl)
    (case kx_is_fraction => first | k_is | rfl)
    (case ax_lowest => first | k_is | rfl)
    (case lx_lowest => first | k_is | rfl)
    (case cx_lowest => first | k_is | rfl)
    (case kx_lowest => first | k_is | rfl)
    (case ax__need_fractions => first | k_is | rfl)
    (case lx__need_fractions => first | k_is | rfl)
    (case cx__need_fractions => first | k_is | rfl)
    (case kx__need_fractions => first | k_is | rfl)
    (case ax_plus => first | k_is | rfl)
    (case lx_plus => first | k_is | rfl)
    (case cx_plus => first | k_is | rfl)
    (case kx_plus => first | k_is | rfl)
    (case ax_less => first | k_is | rfl)
    (case lx_less => first | k_is | rfl)
    (case cx_less => first | k_is | rfl)
    (case kx_less => first | k_is | rfl)
    (case ax_times => first | k_is | rfl)
    (case lx_times => first | k_is | rfl)
    (case cx_times => first | k_is | rfl)
    (case kx_times => first | k_is | rfl)
    (case ax_over => first | k_is | rfl)
    (case lx_over => first | k_is | rfl)
    (case cx_over => first | k_is | rfl)
    (case kx_over => first | k_is | rfl)
    (case ax__law_cup => first | k_is | rfl)
    (case lx__law_cup => first | k_is | rfl)
    (case cx__law_cup => first | k_is | rfl)
    (case kx__law_cup => first | k_is | rfl)
    (case ax__law_sip => first | k_is | rfl)
    (case lx__law_sip => first | k_is | rfl)
    (case cx__law_sip => first | k_is | rfl)
    (case kx__law_sip => first | k_is | rfl)
    (case ax__law_pick => first | k_is | rfl)
    (case lx__law_pick => first | k_is | rfl)
    (case cx__law_pick => first | k_is | rfl)
    (case kx__law_pick => first | k_is | rfl)
    (case ax__law_integer => first | k_is | rfl)
    (case lx__law_integer => first | k_is | rfl)
    (case cx__law_integer => first | k_is | rfl)
    (case kx__law_integer => first | k_is | rfl)
    (case ax__law_fraction => first | k_is | rfl)
    (case lx__law_fraction => first | k_is | rfl)
    (case cx__law_fraction => first | k_is | rfl)
    (case kx__law_fraction => first | k_is | rfl)
    (case ax__law_is_lowest => first | k_is | rfl)
    (case lx__law_is_lowest => first | k_is | rfl)
    (case cx__law_is_lowest => first | k_is | rfl)
    (case kx__law_is_lowest => first | k_is | rfl)
    (case ax__law_lowest_right => first | k_is | rfl)
    (case lx__law_lowest_right => first | k_is | rfl)
    (case cx__law_lowest_right => first | k_is | rfl)
    (case kx__law_lowest_right => first | k_is | rfl)
    (case ax__law_reckoned_right => first | k_is | rfl)
    (case lx__law_reckoned_right => first | k_is | rfl)
    (case cx__law_reckoned_right => first | k_is | rfl)
    (case kx__law_reckoned_right => first | k_is | rfl)
    (case tx__law_reckoned_right => first | k_is | rfl)
    (case ux__law_reckoned_right => first | k_is | rfl)
    (case ax__law_refused_right => first | k_is | rfl)
    (case lx__law_refused_right => first | k_is | rfl)
    (case cx__law_refused_right => first | k_is | rfl)
    (case kx__law_refused_right => first | k_is | rfl)
    (case tx__law_refused_right => first | k_is | rfl)
    (case ux__law_refused_right => first | k_is | rfl)
    (case ax_law => first | k_is | rfl)
    (case lx_law => first | k_is | rfl)
    (case cx_law => first | k_is | rfl)
    (case kx_law => first | k_is | rfl)
    (case ax__law_heard => first | k_is | rfl)
    (case lx__law_heard => first | k_is | rfl)
    (case cx__law_heard => first | k_is | rfl)
    (case kx__law_heard => first | k_is | rfl)
    (case z_int => first | k_is | rfl)
    (case z_isinstance => first | k_is | rfl)
    (case z_bool => first | k_is | rfl)
    (case z_list => first | k_is | rfl)
    (case z_tuple => first | k_is | rfl)
    (case z_all => first | k_is | rfl)
    (case z_len => first | k_is | rfl)
    (case z_gcd => first | k_is | rfl)
    (case z_abs => first | k_is | rfl)
    (case z_range => first | k_is | rfl)
    (case z_max => first | k_is | rfl)
    (case z_enumerate => first | k_is | rfl)
    (case aC_BadNumber => first | k_is | rfl)
    (case xL_BadNumber => first | k_is | rfl)
    (case bV_BadNumber => first | k_is | rfl)
    (case sa_BadNumber => first | k_is | rfl)
    (case eC_BadNumber => first | k_is | rfl)
    (case tC_BadNumber => first | k_is | rfl)
    (case kC_BadNumber => first | k_is | rfl)
    (case nb_BadNumber => first | k_is | rfl)
    (case ii_BadNumber => first | k_is | rfl)
    (case ti_BadNumber => first | k_is | rfl)
    (case li_BadNumber => first | k_is | rfl)
    (case ci_BadNumber => first | k_is | rfl)
    (case ki_BadNumber => first | k_is | rfl)
    (case ga_BadNumber => first | k_is | rfl)
    (case gg_BadNumber => first | k_is | rfl)
    (case hC_BadNumber => first | k_is | rfl)
    (case ca_BadNumber => first | k_is | rfl)
    (case hn_BadNumber => first | k_is | rfl)
    (case ht_BadNumber => first | k_is | rfl)
    (case hm_BadNumber => first | k_is | rfl)
    (case aS_BadNumber => first | k_is | rfl)
    (case te_BadNumber => first | k_is | rfl)
    (case kk_BadNumber => first | k_is | rfl)

