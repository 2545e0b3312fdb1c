import PyProof.Rows.All
import Wide.All
import OpenK.AllK
import Wide.FinOn
import HandS.ForMost
import HandS.Lambda
import HandS.ExcInit
import HandS.Wide
import HandS.Gcd
import HandS.IsInst
import HandS.Style
import HandS.ForExc
import HandS.MakeKwOnly
import HandS.ExcIs
import HandS.ExcField
import KE.KExcIs
import KE.Datum
import PyProof.ReprRoads
import HandS.EndTab
import KE.GoesZip
import KE.KRevIter
import HandS.Rev
import HandS.Zip
import HandS.ClsMeth
import PyProof.ListNew
import HandS.TupAny
import HandS.TupLe
import PyProof.ListMulAny
import PyProof.Rows.ListMulArg
import HandS.Steps
import KE.KNestM
import PySem.Challenge.RW_littlewebs_k32_closed_walks_there_and_ba
set_option Elab.async false
set_option linter.all false
set_option maxRecDepth 100000
set_option maxHeartbeats 4000000
/-! Zc: regions, codecs, effects; what an expression gives (JT: total; J: with effects). -/
namespace Z
open PySem L2

/-! ### regions -/
abbrev Rg := Addr → Prop
structure Ext (A : Rg) (H H' : Hp) : Prop where
  keep : ∀ a o, A a → H a = some o → H' a = some o
  free : ∀ a, H' a = none → H a = none
structure Exz (Z : Rg) (H H' : Hp) : Prop where
  keep : ∀ a o, ¬ Z a → H a = some o → H' a = some o
  free : ∀ a, H' a = none → H a = none
def Fr (A : Rg) (H : Hp) : Prop := ∀ p, H p = none → A p
theorem Ext.refl (A : Rg) (H : Hp) : Ext A H H := ⟨fun _ _ _ h => h, fun _ h => h⟩
theorem Exz.refl (A : Rg) (H : Hp) : Exz A H H := ⟨fun _ _ _ h => h, fun _ h => h⟩
theorem Ext.trans {A : Rg} {H H1 H2 : Hp} (a : Ext A H H1) (b : Ext A H1 H2) : Ext A H H2 := ⟨fun p o h e => b.keep p o h (a.keep p o h e), fun p e => a.free p (b.free p e)⟩
theorem Exz.trans {A : Rg} {H H1 H2 : Hp} (a : Exz A H H1) (b : Exz A H1 H2) : Exz A H H2 := ⟨fun p o h e => b.keep p o h (a.keep p o h e), fun p e => a.free p (b.free p e)⟩
theorem sameExt {A : Rg} {H H' : Hp} (s : Same H H') : Ext A H H' := ⟨fun p o _ e => s p o e, fun _ e => s.free e⟩
theorem sameExz {A : Rg} {H H' : Hp} (s : Same H H') : Exz A H H' := ⟨fun p o _ e => s p o e, fun _ e => s.free e⟩
theorem Exz.ext {A Z : Rg} {H H' : Hp} (s : Exz Z H H') (nA : ∀ a, A a → ¬ Z a) : Ext A H H' := ⟨fun p o h e => s.keep p o (nA p h) e, s.free⟩
theorem Exz.wide {Y Z : Rg} {H H' : Hp} (s : Exz Z H H') (k : ∀ a, Z a → Y a) : Exz Y H H' := ⟨fun p o h e => s.keep p o (fun z => h (k p z)) e, s.free⟩
theorem Fr.ext {A : Rg} {H H' : Hp} (f : Fr A H) (e : Ext A H H') : Fr A H' := fun p h => f p (e.free p h)
theorem Fr.exz {A Z : Rg} {H H' : Hp} (f : Fr A H) (e : Exz Z H H') : Fr A H' := fun p h => f p (e.free p h)
theorem Fr.same {A : Rg} {H H' : Hp} (f : Fr A H) (e : Same H H') : Fr A H' := fun p h => f p (e.free h)
theorem same_new {H : Hp} {p : Addr} {o : HO} (h : H p = none) : Same H (upd H p o) := fun b x e => by
  rw [upd_ne (ne_of_none e h)]; exact e
/-- an object that was not there at H may change -/
theorem Exz.mut {Z : Rg} {H H' : Hp} {l : Addr} {o : HO} (e : Exz Z H H') (n : H l = none) : Exz Z H (upd H' l o) :=
  ⟨fun a u h q => by rw [upd_ne (ne_of_none q n)]; exact e.keep a u h q, fun a h => by
    by_cases q : a = l
    · rw [q, upd_same] at h; cases h
    · rw [upd_ne q] at h; exact e.free a h⟩
/-- an object outside of the region changes -/
theorem Ext.put {A : Rg} {H : Hp} {l : Addr} {o : HO} (n : ¬ A l) : Ext A H (upd H l o) :=
  ⟨fun a u h q => by rw [upd_ne (fun z => n (by rw [← z]; exact h))]; exact q, fun a h => by
    by_cases q : a = l
    · rw [q, upd_same] at h; cases h
    · rw [upd_ne q] at h; exact h⟩
/-- the region without one address -/
def Rg.less (A : Rg) (l : Addr) : Rg := fun a => A a ∧ a ≠ l
theorem Fr.less {A : Rg} {H : Hp} {l : Addr} {o : HO} (f : Fr A H) (h : H l = some o) : Fr (A.less l) H := fun p e => ⟨f p e, fun z => by rw [z, h] at e; cases e⟩
theorem less_no {A : Rg} {l : Addr} : ¬ (A.less l) l := fun h => h.2 rfl
theorem less_le {A : Rg} {l : Addr} : ∀ a, (A.less l) a → A a := fun _ h => h.1
/-- the region B at H' bears all that A bore at H -/
structure Sub (A : Rg) (H : Hp) (B : Rg) (H' : Hp) : Prop where
  le : ∀ a, B a → A a
  tr : ∀ a o, A a → H a = some o → B a ∧ H' a = some o
  fB : Fr B H'
theorem Sub.of {A : Rg} {H H' : Hp} (e : Ext A H H') (f : Fr A H') : Sub A H A H' := ⟨fun _ h => h, fun a o h q => ⟨h, e.keep a o h q⟩, f⟩
theorem Sub.ext {A B : Rg} {H H1 H2 : Hp} (s : Sub A H B H1) (e : Ext B H1 H2) : Sub A H B H2 := ⟨s.le, fun a o h q => ⟨(s.tr a o h q).1, e.keep a o (s.tr a o h q).1 (s.tr a o h q).2⟩, s.fB.ext e⟩

/-! ### codecs -/
structure Cd (α : Type) where
  r : Rg → Hp → V → α → Prop
  st : ∀ {A : Rg} {H H' : Hp} {v : V} {x : α}, (∀ a o, A a → H a = some o → H' a = some o) → r A H v x → r A H' v x
  mono : ∀ {A B : Rg} {H : Hp} {v : V} {x : α}, (∀ a, A a → H a ≠ none → B a) → r A H v x → r B H v x

section
variable {α β γ δ : Type} {A : Rg} {H H' : Hp} {v : V} {x : α} {c : Cd α}
theorem Cd.e (c : Cd α) (e : Ext A H H') (h : c.r A H v x) : c.r A H' v x := c.st e.keep h
theorem Cd.s (c : Cd α) (e : Same H H') (h : c.r A H v x) : c.r A H' v x := c.st (fun a o _ q => e a o q) h
/-- what stands for x knows nothing of an address that was not there -/
theorem Cd.av (c : Cd α) {l : Addr} (n : H l = none) (h : c.r A H v x) : c.r (A.less l) H v x := c.mono (fun a k t => ⟨k, fun z => t (by rw [z]; exact n)⟩) h
theorem Cd.up (c : Cd α) {l : Addr} (h : c.r (A.less l) H v x) : c.r A H v x := c.mono (fun a k _ => k.1) h
end
theorem Cd.sub {α : Type} (c : Cd α) {A B : Rg} {H H' : Hp} {v : V} {x : α} (s : Sub A H B H') (h : c.r A H v x) : c.r B H' v x := by
  have h1 : c.r B H v x := c.mono (fun a k t => by
    cases e : H a with
    | none => exact absurd e t
    | some o => exact (s.tr a o k e).1) h
  exact c.st (fun a o k e => (s.tr a o (s.le a k) e).2) h1
theorem pst {α : Type} {c : Cd α} {A : Rg} {H H' : Hp} (k : ∀ a o, A a → H a = some o → H' a = some o) {vs : List V} {xs : List α} (h : Paired (c.r A H) vs xs) : Paired (c.r A H') vs xs := Paired.mapP h fun _ _ q => c.st k q
theorem pmono {α : Type} {c : Cd α} {A B : Rg} {H : Hp} (k : ∀ a, A a → H a ≠ none → B a) {vs : List V} {xs : List α} (h : Paired (c.r A H) vs xs) : Paired (c.r B H) vs xs := Paired.mapP h fun _ _ q => c.mono k q

theorem psub {α : Type} {c : Cd α} {A B : Rg} {H H' : Hp} (s : Sub A H B H') {vs : List V} {xs : List α} (h : Paired (c.r A H) vs xs) : Paired (c.r B H') vs xs := Paired.mapP h fun _ _ q => c.sub s q
def cInt : Cd Int := ⟨fun _ _ v i => v = .int i, fun _ h => h, fun _ h => h⟩
def cBl : Cd Bool := ⟨fun _ _ v i => v = .bl i, fun _ h => h, fun _ h => h⟩
def cStr : Cd Str := ⟨fun _ _ v i => v = .str i, fun _ h => h, fun _ h => h⟩
def cNon : Cd Unit := ⟨fun _ _ v _ => v = .non, fun _ h => h, fun _ h => h⟩
/-- any value -/
def cAny : Cd V := ⟨fun _ _ v x => v = x, fun _ h => h, fun _ h => h⟩
/-- a list that stands in the heap -/
def cL {α : Type} (c : Cd α) : Cd (List α) where
  r A H v xs := ∃ (a : Addr) (vs : List V), v = .ref a ∧ A a ∧ H a = some (.lst vs) ∧ Paired (c.r A H) vs xs
  st k := fun ⟨a, vs, e, n, h, p⟩ => ⟨a, vs, e, n, k a _ n h, pst k p⟩
  mono k := fun ⟨a, vs, e, n, h, p⟩ => ⟨a, vs, e, k a n (by rw [h]; exact fun z => nomatch z), h, pmono k p⟩
/-- a list that was not there at Hb, and that nothing else knows -/
def cF {α : Type} (Hb : Hp) (c : Cd α) : Cd (List α) where
  r A H v xs := ∃ (a : Addr) (vs : List V), v = .ref a ∧ Hb a = none ∧ A a ∧ H a = some (.lst vs) ∧ Paired (c.r (A.less a) H) vs xs
  st k := fun ⟨a, vs, e, hb, n, h, p⟩ => ⟨a, vs, e, hb, n, k a _ n h, pst (fun b o kb q => k b o kb.1 q) p⟩
  mono k := fun ⟨a, vs, e, hb, n, h, p⟩ => ⟨a, vs, e, hb, k a n (by rw [h]; exact fun z => nomatch z), h, pmono (fun b kb t => ⟨k b kb.1 t, kb.2⟩) p⟩
theorem cF_l {α : Type} {Hb : Hp} {c : Cd α} {A : Rg} {H : Hp} {v : V} {xs : List α} (h : (cF Hb c).r A H v xs) : (cL c).r A H v xs := by
  obtain ⟨a, vs, e, _, n, h, p⟩ := h
  exact ⟨a, vs, e, n, h, pmono (fun b k _ => k.1) p⟩
/-- a tuple of the written part -/
def KT (K : PySem.W.Frag) (a : Addr) (xs : List V) : Prop := ∃ (o : Obj) (its : Array Value) (n : Nat), K.lookup a = some o ∧ o.cls = .type "tuple" ∧ o.data = .seq its n ∧ its.size ≤ sizeLine ∧ Vals xs its.toList
def TupAt (K : PySem.W.Frag) (A : Rg) (H : Hp) (a : Addr) (vs : List V) : Prop := (A a ∧ H a = some (.tup vs)) ∨ KT K a vs
theorem TupAt.st {K : PySem.W.Frag} {A : Rg} {H H' : Hp} {a : Addr} {vs : List V} (k : ∀ a o, A a → H a = some o → H' a = some o) (h : TupAt K A H a vs) : TupAt K A H' a vs := by
  rcases h with ⟨n, h⟩ | h
  · exact .inl ⟨n, k a _ n h⟩
  · exact .inr h
theorem TupAt.mono {K : PySem.W.Frag} {A B : Rg} {H : Hp} {a : Addr} {vs : List V} (k : ∀ a, A a → H a ≠ none → B a) (h : TupAt K A H a vs) : TupAt K B H a vs := by
  rcases h with ⟨n, h⟩ | h
  · exact .inl ⟨k a n (by rw [h]; exact fun z => nomatch z), h⟩
  · exact .inr h
theorem TupAt.sub {K : PySem.W.Frag} {A B : Rg} {H H' : Hp} {a : Addr} {vs : List V} (s : Sub A H B H') (h : TupAt K A H a vs) : TupAt K B H' a vs := by
  rcases h with ⟨n, h⟩ | h
  · exact .inl (s.tr a _ n h)
  · exact .inr h
theorem TupAt.sq {K : PySem.W.Frag} {A : Rg} {H : Hp} {a : Addr} {vs : List V} (h : TupAt K A H a vs) : SqT K H a vs := by
  rcases h with ⟨_, h⟩ | h
  · exact SqT.of h
  · exact .inr h
/-- a tuple of like items -/
def cU {α : Type} (K : PySem.W.Frag) (c : Cd α) : Cd (List α) where
  r A H v xs := ∃ (a : Addr) (vs : List V), v = .ref a ∧ TupAt K A H a vs ∧ Paired (c.r A H) vs xs
  st k := fun ⟨a, vs, e, h, p⟩ => ⟨a, vs, e, h.st k, pst k p⟩
  mono k := fun ⟨a, vs, e, h, p⟩ => ⟨a, vs, e, h.mono k, pmono k p⟩
def c2 {α β : Type} (K : PySem.W.Frag) (c : Cd α) (d : Cd β) : Cd (α × β) where
  r A H v x := ∃ (a : Addr) (v1 v2 : V), v = .ref a ∧ TupAt K A H a [v1, v2] ∧ c.r A H v1 x.1 ∧ d.r A H v2 x.2
  st k := fun ⟨a, v1, v2, e, h, p, q⟩ => ⟨a, v1, v2, e, h.st k, c.st k p, d.st k q⟩
  mono k := fun ⟨a, v1, v2, e, h, p, q⟩ => ⟨a, v1, v2, e, h.mono k, c.mono k p, d.mono k q⟩
def c3 {α β γ : Type} (K : PySem.W.Frag) (c : Cd α) (d : Cd β) (f : Cd γ) : Cd (α × β × γ) where
  r A H v x := ∃ (a : Addr) (v1 v2 v3 : V), v = .ref a ∧ TupAt K A H a [v1, v2, v3] ∧ c.r A H v1 x.1 ∧ d.r A H v2 x.2.1 ∧ f.r A H v3 x.2.2
  st k := fun ⟨a, v1, v2, v3, e, h, p, q, q3⟩ => ⟨a, v1, v2, v3, e, h.st k, c.st k p, d.st k q, f.st k q3⟩
  mono k := fun ⟨a, v1, v2, v3, e, h, p, q, q3⟩ => ⟨a, v1, v2, v3, e, h.mono k, c.mono k p, d.mono k q, f.mono k q3⟩
/-- the script: a list of ints that is read only -/
def KL (K : PySem.W.Frag) (a : Addr) (xs : List V) : Prop := ∃ (o : Obj) (its : Array Value) (n : Nat), K.lookup a = some o ∧ o.cls = .type "list" ∧ o.dict = none ∧ o.data = .seq its n ∧ its.size ≤ sizeLine ∧ Vals xs its.toList
def cScr (K : PySem.W.Frag) : Cd (List Int) where
  r A H v xs := ∃ (a : Addr), v = .ref a ∧ ((A a ∧ Rd H a (.lst (xs.map V.int))) ∨ KL K a (xs.map V.int))
  st k := fun ⟨a, e, h⟩ => ⟨a, e, by
    rcases h with ⟨n, h | ⟨o, h⟩⟩ | h
    · exact .inl ⟨n, .inl (k a _ n h)⟩
    · exact .inl ⟨n, .inr ⟨o, k a _ n h⟩⟩
    · exact .inr h⟩
  mono k := fun ⟨a, e, h⟩ => ⟨a, e, by
    rcases h with ⟨n, h⟩ | h
    · refine .inl ⟨k a n ?_, h⟩
      rcases h with h | ⟨o, h⟩
      · rw [h]; exact fun z => nomatch z
      · rw [h]; exact fun z => nomatch z
    · exact .inr h⟩
theorem cScr_sq {K : PySem.W.Frag} {A : Rg} {H : Hp} {v : V} {xs : List Int} (h : (cScr K).r A H v xs) : ∃ a, v = .ref a ∧ SqL K H a (xs.map V.int) := by
  obtain ⟨a, e, ⟨_, h⟩ | h⟩ := h
  · exact ⟨a, e, .inl h⟩
  · exact ⟨a, e, .inr h⟩

/-! ### effects: what is computed, with a count of draws -/
/-- an answer, or none -/
inductive M (α : Type) where
  | ok (x : α) | bad
def M.bind {α β : Type} (m : M α) (f : α → M β) : M β := match m with | .ok x => f x | .bad => .bad
instance : Monad M where
  pure := M.ok
  bind := M.bind
theorem M.bind_ok {α β : Type} {m : M α} {f : α → M β} {y : β} (h : (m >>= f) = .ok y) : ∃ x, m = .ok x ∧ f x = .ok y := by
  cases m with
  | ok x => exact ⟨x, rfl, h⟩
  | bad => cases h
@[simp] theorem M.ok_bind {α β : Type} {x : α} {f : α → M β} : (M.ok x >>= f) = f x := rfl
@[simp] theorem M.pure_eq {α : Type} {x : α} : (pure x : M α) = M.ok x := rfl
@[simp] theorem M.bad_bind {α β : Type} {f : α → M β} : (M.bad >>= f) = M.bad := rfl
def M.guard {α : Type} (b : Bool) (x : α) : M α := if b = true then .ok x else .bad
theorem M.guard_ok {α : Type} {b : Bool} {x y : α} (h : M.guard b x = .ok y) : b = true ∧ x = y := by
  unfold M.guard at h
  split at h
  · exact ⟨by assumption, M.ok.inj h⟩
  · cases h
@[simp] theorem M.guard_true {α : Type} {x : α} : M.guard true x = .ok x := rfl
def M.opt {α : Type} : Option α → M α | some x => .ok x | none => .bad
theorem M.opt_ok {α : Type} {o : Option α} {x : α} (h : M.opt o = .ok x) : o = some x := by
  cases o with
  | none => cases h
  | some y => cases h; rfl
/-- with draws: what is wanted of every way, from a count of draws on -/
structure D (α : Type) where
  run : Nat → (α → Nat → Prop) → Prop
  mono : ∀ {n : Nat} {Q R : α → Nat → Prop}, (∀ x k, Q x k → R x k) → run n Q → run n R
instance : Monad D where
  pure x := ⟨fun n Q => Q x n, fun k h => k _ _ h⟩
  bind m f := ⟨fun n Q => m.run n fun x k => (f x).run k Q, fun h q => m.mono (fun x k q => (f x).mono h q) q⟩
def D.lift {α : Type} (m : M α) : D α := ⟨fun n Q => ∃ x, m = .ok x ∧ Q x n, fun k ⟨x, e, h⟩ => ⟨x, e, k _ _ h⟩⟩
instance : MonadLift M D := ⟨D.lift⟩
def drawLine : Nat := 1000000
def D.draw (many : Int) : D Int := ⟨fun n Q => n < drawLine ∧ 0 < many ∧ many < 1073741824 ∧ ∀ v : Int, 0 ≤ v → v < many → Q v (n + 1), fun k ⟨a, b, c, h⟩ => ⟨a, b, c, fun v h1 h2 => k _ _ (h v h1 h2)⟩⟩
@[simp] theorem D.run_pure {α : Type} {x : α} {n : Nat} {Q : α → Nat → Prop} : (pure x : D α).run n Q ↔ Q x n := Iff.rfl
@[simp] theorem D.run_bind {α β : Type} {m : D α} {f : α → D β} {n : Nat} {Q : β → Nat → Prop} : (m >>= f).run n Q ↔ m.run n fun x k => (f x).run k Q := Iff.rfl
@[simp] theorem D.run_lift {α : Type} {m : M α} {n : Nat} {Q : α → Nat → Prop} : (D.lift m).run n Q ↔ ∃ x, m = .ok x ∧ Q x n := Iff.rfl
theorem D.lift_ok {α : Type} {x : α} : D.lift (.ok x) = pure x := by
  unfold D.lift
  have e : (fun (n : Nat) (Q : α → Nat → Prop) => ∃ y, M.ok x = M.ok y ∧ Q y n) = fun n Q => Q x n := by
    funext n Q
    exact propext ⟨fun ⟨y, e, h⟩ => by cases e; exact h, fun h => ⟨x, rfl, h⟩⟩
  show (⟨_, _⟩ : D α) = ⟨_, _⟩
  simp only [e]
/-- the common face of both -/
class Eff (F : Type → Type) extends Monad F where
  wp : {α : Type} → F α → Nat → (α → Nat → Prop) → Prop
  wp_ret : ∀ {α : Type} {x : α} {n : Nat} {Q : α → Nat → Prop}, wp (pure x) n Q → Q x n
  wp_bnd : ∀ {α β : Type} {m : F α} {f : α → F β} {n : Nat} {Q : β → Nat → Prop}, wp (m >>= f) n Q → wp m n fun x k => wp (f x) k Q
  wp_of_ret : ∀ {α : Type} {x : α} {n : Nat} {Q : α → Nat → Prop}, Q x n → wp (pure x) n Q
  bnd_wp : ∀ {α β : Type} {m : F α} {f : α → F β} {n : Nat} {Q : β → Nat → Prop}, wp m n (fun x k => wp (f x) k Q) → wp (m >>= f) n Q
  wp_mono : ∀ {α : Type} {m : F α} {n : Nat} {Q R : α → Nat → Prop}, (∀ x k, Q x k → R x k) → wp m n Q → wp m n R
  up : {α : Type} → M α → F α
  wp_up : ∀ {α : Type} {m : M α} {n : Nat} {Q : α → Nat → Prop}, wp (up m) n Q → ∃ x, m = .ok x ∧ Q x n
instance : Eff M where
  wp m n Q := ∃ x, m = .ok x ∧ Q x n
  wp_ret := fun ⟨_, e, h⟩ => by cases e; exact h
  wp_of_ret := fun h => ⟨_, rfl, h⟩
  wp_bnd := fun ⟨_, e, h⟩ => by
    obtain ⟨x, e1, e2⟩ := M.bind_ok e
    exact ⟨x, e1, _, e2, h⟩
  bnd_wp := fun ⟨x, e1, y, e2, h⟩ => ⟨y, by rw [e1]; exact e2, h⟩
  wp_mono := fun k ⟨x, e, h⟩ => ⟨x, e, k _ _ h⟩
  up := fun m => m
  wp_up := fun h => h
instance : Eff D where
  wp m n Q := m.run n Q
  wp_ret h := h
  wp_of_ret h := h
  wp_bnd h := h
  bnd_wp h := h
  wp_mono k h := D.mono _ k h
  up := D.lift
  wp_up h := h

/-! ### the world around: what may change, what is held of it by the count of draws -/
structure Wd where
  Z : Rg
  Y : Rg
  T : Nat → Hp → Prop
  stY : ∀ {n : Nat} {H H' : Hp}, (∀ a o, Y a → H a = some o → H' a = some o) → T n H → T n H'
  tr : ∀ {n : Nat} {H : Hp}, T n H → ∀ a, Y a → H a ≠ none
  zy : ∀ a, Z a → Y a
theorem Wd.st (w : Wd) {n : Nat} {H H' : Hp} (s : Same H H') (t : w.T n H) : w.T n H' := w.stY (fun a o _ h => s a o h) t
def wPure : Wd := ⟨fun _ => False, fun _ => False, fun _ _ => True, fun _ h => h, fun _ _ h => h.elim, fun _ h => h⟩

section
variable {F : Type → Type} [Eff F] {w : Wd} {A : Rg} {σ : St} {H H' : Hp} {α β γ δ ε : Type}
/-- total: te gives what stands for x, and leaves all that stood -/
def JT (A : Rg) (σ : St) (H : Hp) (c : Cd α) (te : TE) (x : α) : Prop := ∀ H1, Ext A H H1 → ∀ Q : VK, (∀ v H2, Same H1 H2 → c.r A H2 v x → Q v H2) → te σ H1 Q
/-- te does what m says -/
def J (w : Wd) (A : Rg) (σ : St) (H : Hp) (c : Cd α) (te : TE) (m : F α) : Prop := ∀ H1 n, Ext A H H1 → w.T n H1 → ∀ Q : VK, Eff.wp m n (fun x k => ∀ v H2, Exz w.Z H1 H2 → w.T k H2 → c.r A H2 v x → Q v H2) → te σ H1 Q
/-- an argument list -/
structure Ca (α : Type) where
  r : Rg → Hp → List V → α → Prop
  st : ∀ {A : Rg} {H H' : Hp} {v : List V} {x : α}, (∀ a o, A a → H a = some o → H' a = some o) → r A H v x → r A H' v x
  mono : ∀ {A B : Rg} {H : Hp} {v : List V} {x : α}, (∀ a, A a → H a ≠ none → B a) → r A H v x → r B H v x
def caN : Ca Unit := ⟨fun _ _ vs _ => vs = [], fun _ h => h, fun _ h => h⟩
def caC (c : Cd α) (d : Ca β) : Ca (α × β) := ⟨fun A H vs x => ∃ v r, vs = v :: r ∧ c.r A H v x.1 ∧ d.r A H r x.2, fun k ⟨v, r, e, p, q⟩ => ⟨v, r, e, c.st k p, d.st k q⟩, fun k ⟨v, r, e, p, q⟩ => ⟨v, r, e, c.mono k p, d.mono k q⟩⟩
def JTA (A : Rg) (σ : St) (H : Hp) (c : Ca α) (ta : TA) (x : α) : Prop := ∀ H1, Ext A H H1 → ∀ Q : List V → Hp → Prop, (∀ vs H2, Same H1 H2 → c.r A H2 vs x → Q vs H2) → ta σ H1 Q
def JA (w : Wd) (A : Rg) (σ : St) (H : Hp) (c : Ca α) (ta : TA) (m : F α) : Prop := ∀ H1 n, Ext A H H1 → w.T n H1 → ∀ Q : List V → Hp → Prop, Eff.wp m n (fun x k => ∀ vs H2, Exz w.Z H1 H2 → w.T k H2 → c.r A H2 vs x → Q vs H2) → ta σ H1 Q
/-- a test -/
def JTt (A : Rg) (σ : St) (H : Hp) (tt : TT) (b : Bool) : Prop := ∀ H1, Ext A H H1 → ∀ Q : Bool → Hp → Prop, (∀ H2, Same H1 H2 → Q b H2) → tt σ H1 Q
def Jt (w : Wd) (A : Rg) (σ : St) (H : Hp) (tt : TT) (m : F Bool) : Prop := ∀ H1 n, Ext A H H1 → w.T n H1 → ∀ Q : Bool → Hp → Prop, Eff.wp m n (fun b k => ∀ H2, Exz w.Z H1 H2 → w.T k H2 → Q b H2) → tt σ H1 Q

variable {c : Cd α} {d : Cd β} {f : Cd γ} {te ta tb : TE} {tt tu : TT} {x : α} {y : β} {z : γ}
theorem JT.later (e : Ext A H H') (h : JT A σ H c te x) : JT A σ H' c te x := fun H1 e1 => h H1 (e.trans e1)
theorem J.later {m : F α} (e : Ext A H H') (h : J w A σ H c te m) : J w A σ H' c te m := fun H1 n e1 => h H1 n (e.trans e1)
theorem J.of (h : JT A σ H c te x) : J w A σ H c te (pure x : F α) := fun H1 n e t Q q => h H1 e Q fun v H2 s r => Eff.wp_ret q v H2 (sameExz s) (w.st s t) r
theorem Jt.of {b : Bool} (h : JTt A σ H tt b) : Jt w A σ H tt (pure b : F Bool) := fun H1 n e t Q q => h H1 e Q fun H2 s => Eff.wp_ret q H2 (sameExz s) (w.st s t)
theorem JA.of {c : Ca α} {ta : TA} (h : JTA A σ H c ta x) : JA w A σ H c ta (pure x : F α) := fun H1 n e t Q q => h H1 e Q fun v H2 s r => Eff.wp_ret q v H2 (sameExz s) (w.st s t) r

/-! ### names, constants -/
theorem jt_var {i : Nat} {v : V} (h : σ[i]? = some (some v)) (r : c.r A H v x) : JT A σ H c (tVar i) x := fun H1 e Q q => ⟨v, h, q v H1 (Same.refl H1) (c.e e r)⟩
theorem jt_int {i : Int} : JT A σ H cInt (tC (.int i)) i := fun H1 e Q q => q _ H1 (Same.refl H1) rfl
theorem jt_bl {i : Bool} : JT A σ H cBl (tC (.bl i)) i := fun H1 e Q q => q _ H1 (Same.refl H1) rfl
theorem jt_str {i : Str} : JT A σ H cStr (tC (.str i)) i := fun H1 e Q q => q _ H1 (Same.refl H1) rfl
theorem jt_non : JT A σ H cNon (tC .non) () := fun H1 e Q q => q _ H1 (Same.refl H1) rfl
theorem jt_any {i : V} : JT A σ H cAny (tC i) i := fun H1 e Q q => q _ H1 (Same.refl H1) rfl
theorem jt_eq {x' : α} (h : JT A σ H c te x) (e : x = x') : JT A σ H c te x' := e ▸ h

/-! ### two-place operations, by values -/
def OT (A : Rg) (r : R2) (c : Cd α) (d : Cd β) (f : Cd γ) (g : α → β → γ) : Prop := ∀ H u v x y, Fr A H → c.r A H u x → d.r A H v y → ∀ Q : VK, (∀ z H2, Same H H2 → f.r A H2 z (g x y) → Q z H2) → r u v H Q
def OM (A : Rg) (r : R2) (c : Cd α) (d : Cd β) (f : Cd γ) (g : α → β → M γ) : Prop := ∀ H u v x y, Fr A H → c.r A H u x → d.r A H v y → ∀ t, g x y = .ok t → ∀ Q : VK, (∀ z H2, Same H H2 → f.r A H2 z t → Q z H2) → r u v H Q
theorem jt_op {r : R2} {g : α → β → γ} (fA : Fr A H) (o : OT A r c d f g) (ja : JT A σ H c ta x) (jb : JT A σ H d tb y) : JT A σ H f (tOp r ta tb) (g x y) := fun H1 e Q q =>
  ja H1 e _ fun u H2 s2 r2 => jb H2 (e.trans (sameExt s2)) _ fun v H3 s3 r3 => o H3 u v x y ((fA.ext e).same (s2.trans s3)) (c.s s3 r2) r3 Q fun z H4 s4 r4 => q z H4 ((s2.trans s3).trans s4) r4
/-- total operands, a partial operation -/
theorem j_opT {r : R2} {g : α → β → M γ} (fA : Fr A H) (o : OM A r c d f g) (ja : JT A σ H c ta x) (jb : JT A σ H d tb y) : J w A σ H f (tOp r ta tb) (Eff.up (g x y) : F γ) := fun H1 n e t Q q => by
  obtain ⟨t', e', q⟩ := Eff.wp_up q
  exact ja H1 e _ fun u H2 s2 r2 => jb H2 (e.trans (sameExt s2)) _ fun v H3 s3 r3 => o H3 u v x y ((fA.ext e).same (s2.trans s3)) (c.s s3 r2) r3 t' e' Q fun z H4 s4 r4 => q z H4 (sameExz ((s2.trans s3).trans s4)) (w.st ((s2.trans s3).trans s4) t) r4
theorem j_op {r : R2} {g : α → β → γ} {m : F α} {k : F β} (nA : ∀ a, A a → ¬ w.Z a) (fA : Fr A H) (o : OT A r c d f g) (ja : J w A σ H c ta m) (jb : J w A σ H d tb k) : J w A σ H f (tOp r ta tb) (m >>= fun x => k >>= fun y => (pure (g x y) : F γ)) := fun H1 n e t Q q => by
  refine ja H1 n e t _ (Eff.wp_mono (fun x n2 q2 u H2 e2 t2 r2 => ?_) (Eff.wp_bnd q))
  refine jb H2 n2 (e.trans (e2.ext nA)) t2 _ (Eff.wp_mono (fun y n3 q3 v H3 e3 t3 r3 => ?_) (Eff.wp_bnd q2))
  have q4 := Eff.wp_ret q3
  exact o H3 u v x y ((fA.ext e).exz (e2.trans e3)) (c.e (e3.ext nA) r2) r3 Q fun z H4 s4 r4 => q4 z H4 ((e2.trans e3).trans (sameExz s4)) (w.st s4 t3) r4
theorem j_opM {r : R2} {g : α → β → M γ} {m : F α} {k : F β} (nA : ∀ a, A a → ¬ w.Z a) (fA : Fr A H) (o : OM A r c d f g) (ja : J w A σ H c ta m) (jb : J w A σ H d tb k) : J w A σ H f (tOp r ta tb) (m >>= fun x => k >>= fun y => (Eff.up (g x y) : F γ)) := fun H1 n e t Q q => by
  refine ja H1 n e t _ (Eff.wp_mono (fun x n2 q2 u H2 e2 t2 r2 => ?_) (Eff.wp_bnd q))
  refine jb H2 n2 (e.trans (e2.ext nA)) t2 _ (Eff.wp_mono (fun y n3 q3 v H3 e3 t3 r3 => ?_) (Eff.wp_bnd q2))
  obtain ⟨t', e', q4⟩ := Eff.wp_up q3
  exact o H3 u v x y ((fA.ext e).exz (e2.trans e3)) (c.e (e3.ext nA) r2) r3 t' e' Q fun z H4 s4 r4 => q4 z H4 ((e2.trans e3).trans (sameExz s4)) (w.st s4 t3) r4
end
end Z

set_option Elab.async false
set_option linter.all false
set_option maxRecDepth 100000
set_option maxHeartbeats 4000000
set_option autoImplicit false
/-! W1: values as trees, frozen ones and own ones; slots; where a body stands. -/
namespace Y
open PySem L2 Z

inductive Val where
  | non | bl (b : Bool) | int (i : Int) | str (s : Str) | ty (n : String) | wr (n : Nat) | cl (c : Nat)
  | tup (xs : List Val) | lst (xs : List Val)
  | dic (ks : List Key) (vs : List Val) | dit (ks : List (List Key)) (vs : List Val)
  | ins (c : Nat) (ns : List Str) (vs : List Val)
  | err (c : Nat) (ns : List Str) (vs : List Val)
  | rng (lo hi : Int)
  | scr (ns : List Int)
  | olst (xs : List Val) | odic (ks : List Key) (xs : List Val) | odit (ks : List (List Key)) (xs : List Val) | oins (c : Nat) (ns : List Str) (xs : List Val)
def Val.isO : Val → Bool | .olst _ => true | .odic _ _ => true | .odit _ _ => true | .oins _ _ _ => true | _ => false

/-- the written part's names -/
structure Cn where
  K : PySem.W.Frag
  ca : Nat → Addr
  wa : Nat → V
  T : List (Addr × Str)

def LstAt (K : PySem.W.Frag) (A : Rg) (H : Hp) (a : Addr) (vs : List V) : Prop := (A a ∧ Rd H a (.lst vs)) ∨ KL K a vs
mutual
def rep (C : Cn) (A : Rg) (H : Hp) (v : V) : Val → Prop
  | .non => v = .non
  | .bl b => v = .bl b
  | .int i => v = .int i
  | .str s => v = .str s
  | .ty n => v = .ty n
  | .wr n => v = C.wa n
  | .cl c => v = .ref (C.ca c)
  | .tup xs => ∃ a vs, v = .ref a ∧ TupAt C.K A H a vs ∧ reps C A H vs xs
  | .lst xs => ∃ a vs, v = .ref a ∧ A a ∧ H a = some (.lst vs) ∧ reps C A H vs xs
  | .dic ks xs => ∃ a vs, v = .ref a ∧ A a ∧ H a = some (.dK (ks.zip vs)) ∧ ks.length = xs.length ∧ reps C A H vs xs
  | .dit ks xs => ∃ a vs, v = .ref a ∧ A a ∧ H a = some (.dT (ks.zip vs)) ∧ ks.length = xs.length ∧ reps C A H vs xs
  | .ins c ns xs => ∃ a dx vs, v = .ref a ∧ A a ∧ A dx ∧ H a = some (.ins (C.ca c) dx (ns.zip vs)) ∧ H dx = some (.own a) ∧ ns.length = xs.length ∧ reps C A H vs xs
  | .err c ns xs => ∃ a d vs, v = .ref a ∧ A a ∧ A d ∧ H a = some (exo a (C.ca c) (some d)) ∧ H d = some (.xd (ns.zip vs)) ∧ ns.length = xs.length ∧ reps C A H vs xs
  | .rng lo hi => ∃ a, v = .ref a ∧ A a ∧ H a = some (.rng lo hi)
  | .scr ns => ∃ a, v = .ref a ∧ LstAt C.K A H a (ns.map V.int)
  | .olst _ => False
  | .odic _ _ => False
  | .odit _ _ => False
  | .oins _ _ _ => False
def reps (C : Cn) (A : Rg) (H : Hp) : List V → List Val → Prop
  | vs, [] => vs = []
  | vs, x :: xs => ∃ v r, vs = v :: r ∧ rep C A H v x ∧ reps C A H r xs
end
/-! a value that may be own, all the way in -/
mutual
def ro (C : Cn) (A : Rg) (H : Hp) (v : V) : Val → Prop
  | .olst xs => ∃ a vs, v = .ref a ∧ H a = some (.lst vs) ∧ ros C A H vs xs
  | .odic ks xs => ∃ a vs, v = .ref a ∧ H a = some (.dK (ks.zip vs)) ∧ ks.length = xs.length ∧ ros C A H vs xs
  | .odit ks xs => ∃ a vs, v = .ref a ∧ H a = some (.dT (ks.zip vs)) ∧ ks.length = xs.length ∧ ros C A H vs xs
  | .oins c ns xs => ∃ a dx vs, v = .ref a ∧ A dx ∧ H a = some (.ins (C.ca c) dx (ns.zip vs)) ∧ H dx = some (.own a) ∧ ns.length = xs.length ∧ ros C A H vs xs
  | x => rep C A H v x
def ros (C : Cn) (A : Rg) (H : Hp) : List V → List Val → Prop
  | vs, [] => vs = []
  | vs, x :: xs => ∃ v r, vs = v :: r ∧ ro C A H v x ∧ ros C A H r xs
end
/-- what an object holds -/
def kidsO : HO → List V
  | .lst vs => vs | .dK kvs => kvs.map (·.2) | .dT kvs => kvs.map (·.2) | .ins _ _ fs => fs.map (·.2) | _ => []
def nodeO (H : Hp) (v : V) : Option (Addr × List V) := match v with
  | .ref l => (H l).map fun o => (l, kidsO o)
  | _ => none
/-! the addresses of what is own -/
mutual
def fl (H : Hp) (v : V) : Val → List Addr
  | .olst xs => match nodeO H v with | some q => q.1 :: fls H q.2 xs | none => []
  | .odic _ xs => match nodeO H v with | some q => q.1 :: fls H q.2 xs | none => []
  | .odit _ xs => match nodeO H v with | some q => q.1 :: fls H q.2 xs | none => []
  | .oins _ _ xs => match nodeO H v with | some q => q.1 :: fls H q.2 xs | none => []
  | _ => []
def fls (H : Hp) : List V → List Val → List Addr
  | _, [] => []
  | vs, x :: xs => match vs with | v :: r => fl H v x ++ fls H r xs | [] => []
end

/-! ### frozen values -/
/-- what the region A bears at H the region A' bears at H' -/
def NT (o : HO) : Prop := ∀ ps, o ≠ .tbl ps
def Gr (A : Rg) (H : Hp) (A' : Rg) (H' : Hp) : Prop := ∀ a o, NT o → A a → H a = some o → A' a ∧ H' a = some o
theorem Gr.refl (A : Rg) (H : Hp) : Gr A H A H := fun _ _ _ a h => ⟨a, h⟩
theorem Gr.trans {A B D : Rg} {H H1 H2 : Hp} (g : Gr A H B H1) (k : Gr B H1 D H2) : Gr A H D H2 := fun a o n x h => k a o n (g a o n x h).1 (g a o n x h).2
theorem Gr.same {A : Rg} {H H' : Hp} (s : Same H H') : Gr A H A H' := fun a o _ x h => ⟨x, s a o h⟩
/-- nothing is there, or a table -/
def Fz (H : Hp) (a : Addr) : Prop := ∀ o, H a = some o → ¬ NT o
def Fq (A : Rg) (H : Hp) : Prop := ∀ p, Fz H p → A p
theorem Fz.of {H : Hp} {a : Addr} (h : H a = none) : Fz H a := fun o e => by rw [h] at e; cases e
theorem Fz.bk {H H' : Hp} (k : ∀ a o, NT o → H a = some o → H' a = some o) {a : Addr} (h : Fz H' a) : Fz H a := fun o e n => h o (k a o n e) n
theorem Fz.sm {H H' : Hp} (e : Same H H') {a : Addr} (h : Fz H' a) : Fz H a := Fz.bk (fun a o _ h => e a o h) h
theorem Fz.no {H : Hp} {a : Addr} {o : HO} (h : Fz H a) (e : H a = some o) (n : NT o) : False := h o e n
theorem Fq.same {A : Rg} {H H' : Hp} (f : Fq A H) (e : Same H H') : Fq A H' := fun p h => f p (h.sm e)
theorem nt {o : HO} (h : ∀ ps, o = .tbl ps → False := by exact fun _ z => nomatch z) : NT o := fun ps z => h ps z
theorem TupAt.gr {K : PySem.W.Frag} {A A' : Rg} {H H' : Hp} {a : Addr} {vs : List V} (g : Gr A H A' H') (h : TupAt K A H a vs) : TupAt K A' H' a vs := by
  rcases h with ⟨n, h⟩ | h
  · exact .inl (g a _ nt n h)
  · exact .inr h
theorem LstAt.gr {K : PySem.W.Frag} {A A' : Rg} {H H' : Hp} {a : Addr} {vs : List V} (g : Gr A H A' H') (h : LstAt K A H a vs) : LstAt K A' H' a vs := by
  rcases h with ⟨n, h | ⟨o, h⟩⟩ | h
  · exact .inl ⟨(g a _ nt n h).1, .inl (g a _ nt n h).2⟩
  · exact .inl ⟨(g a _ nt n h).1, .inr ⟨o, (g a _ nt n h).2⟩⟩
  · exact .inr h
theorem LstAt.sq {K : PySem.W.Frag} {A : Rg} {H : Hp} {a : Addr} {vs : List V} (h : LstAt K A H a vs) : SqL K H a vs := by
  rcases h with ⟨_, h⟩ | h
  · exact .inl h
  · exact .inr h
mutual
theorem rep.gr {C : Cn} {A A' : Rg} {H H' : Hp} (g : Gr A H A' H') : ∀ {x : Val} {v : V}, rep C A H v x → rep C A' H' v x
  | .non, _, h => h
  | .bl _, _, h => h
  | .int _, _, h => h
  | .str _, _, h => h
  | .ty _, _, h => h
  | .wr _, _, h => h
  | .cl _, _, h => h
  | .tup xs, v, h => by
    unfold rep at h ⊢
    obtain ⟨a, vs, e, t, r⟩ := h
    exact ⟨a, vs, e, TupAt.gr g t, reps.gr g r⟩
  | .lst xs, v, h => by
    unfold rep at h ⊢
    obtain ⟨a, vs, e, n, t, r⟩ := h
    exact ⟨a, vs, e, (g a _ nt n t).1, (g a _ nt n t).2, reps.gr g r⟩
  | .dic ks xs, v, h => by
    unfold rep at h ⊢
    obtain ⟨a, vs, e, n, t, l, r⟩ := h
    exact ⟨a, vs, e, (g a _ nt n t).1, (g a _ nt n t).2, l, reps.gr g r⟩
  | .dit ks xs, v, h => by
    unfold rep at h ⊢
    obtain ⟨a, vs, e, n, t, l, r⟩ := h
    exact ⟨a, vs, e, (g a _ nt n t).1, (g a _ nt n t).2, l, reps.gr g r⟩
  | .ins c ns xs, v, h => by
    unfold rep at h ⊢
    obtain ⟨a, dx, vs, e, n, n2, t, t2, l, r⟩ := h
    exact ⟨a, dx, vs, e, (g a _ nt n t).1, (g dx _ nt n2 t2).1, (g a _ nt n t).2, (g dx _ nt n2 t2).2, l, reps.gr g r⟩
  | .err c ns xs, v, h => by
    unfold rep at h ⊢
    obtain ⟨a, dx, vs, e, n, n2, t, t2, l, r⟩ := h
    exact ⟨a, dx, vs, e, (g a _ nt n t).1, (g dx _ nt n2 t2).1, (g a _ nt n t).2, (g dx _ nt n2 t2).2, l, reps.gr g r⟩
  | .rng lo hi, v, h => by
    unfold rep at h ⊢
    obtain ⟨a, e, n, t⟩ := h
    exact ⟨a, e, (g a _ nt n t).1, (g a _ nt n t).2⟩
  | .scr ns, v, h => by
    unfold rep at h ⊢
    obtain ⟨a, e, t⟩ := h
    exact ⟨a, e, LstAt.gr g t⟩
  | .olst _, _, h => by unfold rep at h; exact h.elim
  | .odic _ _, _, h => by unfold rep at h; exact h.elim
  | .odit _ _, _, h => by unfold rep at h; exact h.elim
  | .oins _ _ _, _, h => by unfold rep at h; exact h.elim
theorem reps.gr {C : Cn} {A A' : Rg} {H H' : Hp} (g : Gr A H A' H') : ∀ {xs : List Val} {vs : List V}, reps C A H vs xs → reps C A' H' vs xs
  | [], _, h => h
  | x :: xs, vs, h => by
    unfold reps at h ⊢
    obtain ⟨v, r, e, h1, h2⟩ := h
    exact ⟨v, r, e, rep.gr g h1, reps.gr g h2⟩
end
section
variable {C : Cn} {A : Rg} {H : Hp} {v : V}
@[simp] theorem rep_non : rep C A H v .non ↔ v = .non := by unfold rep; exact Iff.rfl
@[simp] theorem rep_bl {b : Bool} : rep C A H v (.bl b) ↔ v = .bl b := by unfold rep; exact Iff.rfl
@[simp] theorem rep_int {i : Int} : rep C A H v (.int i) ↔ v = .int i := by unfold rep; exact Iff.rfl
@[simp] theorem rep_str {s : Str} : rep C A H v (.str s) ↔ v = .str s := by unfold rep; exact Iff.rfl
@[simp] theorem rep_ty {s : String} : rep C A H v (.ty s) ↔ v = .ty s := by unfold rep; exact Iff.rfl
@[simp] theorem rep_wr {n : Nat} : rep C A H v (.wr n) ↔ v = C.wa n := by unfold rep; exact Iff.rfl
@[simp] theorem rep_cl {n : Nat} : rep C A H v (.cl n) ↔ v = .ref (C.ca n) := by unfold rep; exact Iff.rfl
theorem rep_tup {xs : List Val} : rep C A H v (.tup xs) ↔ ∃ a vs, v = .ref a ∧ TupAt C.K A H a vs ∧ reps C A H vs xs := by unfold rep; exact Iff.rfl
theorem rep_lst {xs : List Val} : rep C A H v (.lst xs) ↔ ∃ a vs, v = .ref a ∧ A a ∧ H a = some (.lst vs) ∧ reps C A H vs xs := by unfold rep; exact Iff.rfl
theorem rep_dic {ks : List Key} {xs : List Val} : rep C A H v (.dic ks xs) ↔ ∃ a vs, v = .ref a ∧ A a ∧ H a = some (.dK (ks.zip vs)) ∧ ks.length = xs.length ∧ reps C A H vs xs := by unfold rep; exact Iff.rfl
theorem rep_dit {ks : List (List Key)} {xs : List Val} : rep C A H v (.dit ks xs) ↔ ∃ a vs, v = .ref a ∧ A a ∧ H a = some (.dT (ks.zip vs)) ∧ ks.length = xs.length ∧ reps C A H vs xs := by unfold rep; exact Iff.rfl
theorem rep_ins {c : Nat} {ns : List Str} {xs : List Val} : rep C A H v (.ins c ns xs) ↔ ∃ a dx vs, v = .ref a ∧ A a ∧ A dx ∧ H a = some (.ins (C.ca c) dx (ns.zip vs)) ∧ H dx = some (.own a) ∧ ns.length = xs.length ∧ reps C A H vs xs := by unfold rep; exact Iff.rfl
theorem rep_err {c : Nat} {ns : List Str} {xs : List Val} : rep C A H v (.err c ns xs) ↔ ∃ a d vs, v = .ref a ∧ A a ∧ A d ∧ H a = some (exo a (C.ca c) (some d)) ∧ H d = some (.xd (ns.zip vs)) ∧ ns.length = xs.length ∧ reps C A H vs xs := by unfold rep; exact Iff.rfl
theorem rep_rng {lo hi : Int} : rep C A H v (.rng lo hi) ↔ ∃ a, v = .ref a ∧ A a ∧ H a = some (.rng lo hi) := by unfold rep; exact Iff.rfl
theorem rep_scr {ns : List Int} : rep C A H v (.scr ns) ↔ ∃ a, v = .ref a ∧ LstAt C.K A H a (ns.map V.int) := by unfold rep; exact Iff.rfl
theorem rep_olst {xs : List Val} : ¬ rep C A H v (.olst xs) := fun h => by unfold rep at h; exact h
theorem rep_odic {ks : List Key} {xs : List Val} : ¬ rep C A H v (.odic ks xs) := fun h => by unfold rep at h; exact h
theorem rep_odit {ks : List (List Key)} {xs : List Val} : ¬ rep C A H v (.odit ks xs) := fun h => by unfold rep at h; exact h
theorem rep_oins {c : Nat} {ns : List Str} {xs : List Val} : ¬ rep C A H v (.oins c ns xs) := fun h => by unfold rep at h; exact h
end
theorem reps_nil {C : Cn} {A : Rg} {H : Hp} : reps C A H [] [] := by unfold reps; rfl
theorem reps_cons {C : Cn} {A : Rg} {H : Hp} {v : V} {vs : List V} {x : Val} {xs : List Val} (h : rep C A H v x) (t : reps C A H vs xs) : reps C A H (v :: vs) (x :: xs) := by
  unfold reps; exact ⟨v, vs, rfl, h, t⟩
theorem reps.pair {C : Cn} {A : Rg} {H : Hp} : ∀ {xs : List Val} {vs : List V}, reps C A H vs xs → Paired (rep C A H) vs xs
  | [], _, h => by unfold reps at h; subst h; exact .nil
  | x :: xs, vs, h => by
    unfold reps at h
    obtain ⟨v, r, e, h1, h2⟩ := h
    subst e
    exact .cons h1 (reps.pair h2)
theorem reps_of {C : Cn} {A : Rg} {H : Hp} : ∀ {xs : List Val} {vs : List V}, Paired (rep C A H) vs xs → reps C A H vs xs
  | _, _, .nil => reps_nil
  | _, _, .cons h t => reps_cons h (reps_of t)
theorem reps.len {C : Cn} {A : Rg} {H : Hp} {xs : List Val} {vs : List V} (h : reps C A H vs xs) : vs.length = xs.length := Paired.length h.pair

/-! ### own values -/
section
variable {C : Cn} {A : Rg} {H : Hp} {v : V}
theorem ro_olst {xs : List Val} : ro C A H v (.olst xs) ↔ ∃ a vs, v = .ref a ∧ H a = some (.lst vs) ∧ ros C A H vs xs := by unfold ro; exact Iff.rfl
theorem ro_odic {ks : List Key} {xs : List Val} : ro C A H v (.odic ks xs) ↔ ∃ a vs, v = .ref a ∧ H a = some (.dK (ks.zip vs)) ∧ ks.length = xs.length ∧ ros C A H vs xs := by unfold ro; exact Iff.rfl
theorem ro_odit {ks : List (List Key)} {xs : List Val} : ro C A H v (.odit ks xs) ↔ ∃ a vs, v = .ref a ∧ H a = some (.dT (ks.zip vs)) ∧ ks.length = xs.length ∧ ros C A H vs xs := by unfold ro; exact Iff.rfl
theorem ro_oins {c : Nat} {ns : List Str} {xs : List Val} : ro C A H v (.oins c ns xs) ↔ ∃ a dx vs, v = .ref a ∧ A dx ∧ H a = some (.ins (C.ca c) dx (ns.zip vs)) ∧ H dx = some (.own a) ∧ ns.length = xs.length ∧ ros C A H vs xs := by unfold ro; exact Iff.rfl
theorem ro_fz {x : Val} (h : x.isO = false) : ro C A H v x ↔ rep C A H v x := by
  cases x <;> first | (unfold ro; exact Iff.rfl) | cases h
theorem fl_fz {x : Val} (h : x.isO = false) : fl H v x = [] := by
  cases x <;> first | (unfold fl; rfl) | cases h
theorem rep.fz {x : Val} (h : rep C A H v x) : x.isO = false := by
  cases x <;> first | rfl | exact (rep_olst h).elim | exact (rep_odic h).elim | exact (rep_odit h).elim | exact (rep_oins h).elim
theorem rep.ro {x : Val} (h : rep C A H v x) : ro C A H v x := (ro_fz h.fz).mpr h
theorem ros_nil : ros C A H [] [] := by unfold ros; rfl
theorem ros_cons {vs : List V} {x : Val} {xs : List Val} (h : ro C A H v x) (t : ros C A H vs xs) : ros C A H (v :: vs) (x :: xs) := by unfold ros; exact ⟨v, vs, rfl, h, t⟩
theorem ros.len : ∀ {xs : List Val} {vs : List V}, ros C A H vs xs → vs.length = xs.length
  | [], _, h => by unfold ros at h; subst h; rfl
  | x :: xs, vs, h => by
    unfold ros at h
    obtain ⟨v, r, rfl, h1, h2⟩ := h
    simp [ros.len h2]
theorem reps.ros : ∀ {xs : List Val} {vs : List V}, reps C A H vs xs → ros C A H vs xs
  | [], vs, h => by unfold reps at h; subst h; exact ros_nil
  | x :: xs, vs, h => by
    unfold reps at h
    obtain ⟨v, r, rfl, h1, h2⟩ := h
    exact ros_cons h1.ro (reps.ros h2)
theorem fls_fz : ∀ {xs : List Val} {vs : List V}, reps C A H vs xs → fls H vs xs = []
  | [], vs, h => by unfold fls; rfl
  | x :: xs, vs, h => by
    unfold reps at h
    obtain ⟨v, r, rfl, h1, h2⟩ := h
    unfold fls
    dsimp only
    rw [fl_fz h1.fz, fls_fz h2]
    rfl
theorem zip_snd {α : Type} : ∀ {ks : List α} {vs : List V}, ks.length = vs.length → (ks.zip vs).map (·.2) = vs
  | [], [], _ => rfl
  | k :: ks, v :: vs, h => by simp only [List.zip_cons_cons, List.map_cons]; rw [zip_snd (by simpa using h)]
  | [], _ :: _, h => by cases h
  | _ :: _, [], h => by cases h
theorem fl_olst {xs : List Val} {a : Addr} {vs : List V} (h : H a = some (.lst vs)) : fl H (.ref a) (.olst xs) = a :: fls H vs xs := by
  unfold fl nodeO; dsimp only; rw [h]; rfl
theorem fl_odic {ks : List Key} {xs : List Val} {a : Addr} {vs : List V} (h : H a = some (.dK (ks.zip vs))) (l : ks.length = vs.length) : fl H (.ref a) (.odic ks xs) = a :: fls H vs xs := by
  unfold fl nodeO; dsimp only; rw [h]; dsimp only [Option.map_some, kidsO]; rw [zip_snd l]
theorem fl_odit {ks : List (List Key)} {xs : List Val} {a : Addr} {vs : List V} (h : H a = some (.dT (ks.zip vs))) (l : ks.length = vs.length) : fl H (.ref a) (.odit ks xs) = a :: fls H vs xs := by
  unfold fl nodeO; dsimp only; rw [h]; dsimp only [Option.map_some, kidsO]; rw [zip_snd l]
theorem fl_oins {c : Addr} {dx : Addr} {k : Nat} {ns : List Str} {xs : List Val} {a : Addr} {vs : List V} (h : H a = some (.ins c dx (ns.zip vs))) (l : ns.length = vs.length) : fl H (.ref a) (.oins k ns xs) = a :: fls H vs xs := by
  unfold fl nodeO; dsimp only; rw [h]; dsimp only [Option.map_some, kidsO]; rw [zip_snd l]
theorem fls_cons {vs : List V} {x : Val} {xs : List Val} : fls H (v :: vs) (x :: xs) = fl H v x ++ fls H vs xs := by
  conv => lhs; unfold fls
/-- an own value's root -/
theorem ro.at {x : Val} (h : ro C A H v x) (o : x.isO = true) : ∃ l u, v = .ref l ∧ H l = some u ∧ NT u ∧ (∀ φ, u ≠ .ext φ) ∧ (∀ y, u ≠ .own y) ∧ l ∈ fl H v x := by
  cases x with
  | olst xs => obtain ⟨a, vs, rfl, k, r⟩ := ro_olst.mp h; exact ⟨a, _, rfl, k, nt, (fun _ z => nomatch z), (fun _ z => nomatch z), by rw [fl_olst k]; exact .head _⟩
  | odic ks xs => obtain ⟨a, vs, rfl, k, l, r⟩ := ro_odic.mp h; exact ⟨a, _, rfl, k, nt, (fun _ z => nomatch z), (fun _ z => nomatch z), by rw [fl_odic k (by rw [r.len]; exact l)]; exact .head _⟩
  | odit ks xs => obtain ⟨a, vs, rfl, k, l, r⟩ := ro_odit.mp h; exact ⟨a, _, rfl, k, nt, (fun _ z => nomatch z), (fun _ z => nomatch z), by rw [fl_odit k (by rw [r.len]; exact l)]; exact .head _⟩
  | oins c ns xs => obtain ⟨a, dx, vs, rfl, n, k, k2, l, r⟩ := ro_oins.mp h; exact ⟨a, _, rfl, k, nt, (fun _ z => nomatch z), (fun _ z => nomatch z), by rw [fl_oins k (by rw [r.len]; exact l)]; exact .head _⟩
  | _ => cases o
end
/-! what is own stands where own objects stand -/
def OwnO (u : HO) : Prop := NT u ∧ (∀ φ, u ≠ .ext φ) ∧ ∀ y, u ≠ .own y
mutual
theorem ro.in {C : Cn} {A : Rg} {H : Hp} {a : Addr} : ∀ {x : Val} {v : V}, ro C A H v x → a ∈ fl H v x → ∃ u, H a = some u ∧ OwnO u
  | .olst xs, v, h, m => by
    obtain ⟨l, vs, rfl, k, r⟩ := ro_olst.mp h
    rw [fl_olst k] at m
    rcases List.mem_cons.mp m with rfl | m
    · exact ⟨_, k, nt, (fun _ z => nomatch z), (fun _ z => nomatch z)⟩
    · exact ros.in r m
  | .odic ks xs, v, h, m => by
    obtain ⟨l, vs, rfl, k, hl, r⟩ := ro_odic.mp h
    rw [fl_odic k (by rw [r.len]; exact hl)] at m
    rcases List.mem_cons.mp m with rfl | m
    · exact ⟨_, k, nt, (fun _ z => nomatch z), (fun _ z => nomatch z)⟩
    · exact ros.in r m
  | .odit ks xs, v, h, m => by
    obtain ⟨l, vs, rfl, k, hl, r⟩ := ro_odit.mp h
    rw [fl_odit k (by rw [r.len]; exact hl)] at m
    rcases List.mem_cons.mp m with rfl | m
    · exact ⟨_, k, nt, (fun _ z => nomatch z), (fun _ z => nomatch z)⟩
    · exact ros.in r m
  | .oins c ns xs, v, h, m => by
    obtain ⟨l, dx, vs, rfl, n, k, k2, hl, r⟩ := ro_oins.mp h
    rw [fl_oins k (by rw [r.len]; exact hl)] at m
    rcases List.mem_cons.mp m with rfl | m
    · exact ⟨_, k, nt, (fun _ z => nomatch z), (fun _ z => nomatch z)⟩
    · exact ros.in r m
  | .non, _, _, m | .bl _, _, _, m | .int _, _, _, m | .str _, _, _, m | .ty _, _, _, m | .wr _, _, _, m | .cl _, _, _, m | .tup _, _, _, m | .lst _, _, _, m | .dic _ _, _, _, m | .dit _ _, _, _, m | .ins _ _ _, _, _, m | .err _ _ _, _, _, m | .rng _ _, _, _, m | .scr _, _, _, m => by rw [fl_fz rfl] at m; cases m
theorem ros.in {C : Cn} {A : Rg} {H : Hp} {a : Addr} : ∀ {xs : List Val} {vs : List V}, ros C A H vs xs → a ∈ fls H vs xs → ∃ u, H a = some u ∧ OwnO u
  | [], vs, h, m => by unfold fls at m; cases m
  | x :: xs, vs, h, m => by
    unfold ros at h
    obtain ⟨v, r, rfl, h1, h2⟩ := h
    rw [fls_cons] at m
    rcases List.mem_append.mp m with m | m
    · exact ro.in h1 m
    · exact ros.in h2 m
end
/-! what is own stays as it is where its objects stay -/
mutual
theorem ro.frame {C : Cn} {A A' : Rg} {H H' : Hp} (g : Gr A H A' H') : ∀ {x : Val} {v : V}, ro C A H v x → (∀ a ∈ fl H v x, H' a = H a) → ro C A' H' v x ∧ fl H' v x = fl H v x
  | .olst xs, v, h, m => by
    obtain ⟨l, vs, rfl, k, r⟩ := ro_olst.mp h
    rw [fl_olst k] at m
    have k' : H' l = some (.lst vs) := by rw [m l (.head _)]; exact k
    obtain ⟨q1, q2⟩ := ros.frame g r fun a ha => m a (.tail _ ha)
    exact ⟨ro_olst.mpr ⟨l, vs, rfl, k', q1⟩, by rw [fl_olst k, fl_olst k', q2]⟩
  | .odic ks xs, v, h, m => by
    obtain ⟨l, vs, rfl, k, hl, r⟩ := ro_odic.mp h
    have hl' : ks.length = vs.length := by rw [r.len]; exact hl
    rw [fl_odic k hl'] at m
    have k' := m l (.head _); rw [k] at k'
    obtain ⟨q1, q2⟩ := ros.frame g r fun a ha => m a (.tail _ ha)
    exact ⟨ro_odic.mpr ⟨l, vs, rfl, k', hl, q1⟩, by rw [fl_odic k hl', fl_odic k' hl', q2]⟩
  | .odit ks xs, v, h, m => by
    obtain ⟨l, vs, rfl, k, hl, r⟩ := ro_odit.mp h
    have hl' : ks.length = vs.length := by rw [r.len]; exact hl
    rw [fl_odit k hl'] at m
    have k' := m l (.head _); rw [k] at k'
    obtain ⟨q1, q2⟩ := ros.frame g r fun a ha => m a (.tail _ ha)
    exact ⟨ro_odit.mpr ⟨l, vs, rfl, k', hl, q1⟩, by rw [fl_odit k hl', fl_odit k' hl', q2]⟩
  | .oins c ns xs, v, h, m => by
    obtain ⟨l, dx, vs, rfl, n, k, k2, hl, r⟩ := ro_oins.mp h
    have hl' : ns.length = vs.length := by rw [r.len]; exact hl
    rw [fl_oins k hl'] at m
    have k' := m l (.head _); rw [k] at k'
    obtain ⟨q1, q2⟩ := ros.frame g r fun a ha => m a (.tail _ ha)
    exact ⟨ro_oins.mpr ⟨l, dx, vs, rfl, (g dx _ nt n k2).1, k', (g dx _ nt n k2).2, hl, q1⟩, by rw [fl_oins k hl', fl_oins k' hl', q2]⟩
  | .non, _, h, _ | .bl _, _, h, _ | .int _, _, h, _ | .str _, _, h, _ | .ty _, _, h, _ | .wr _, _, h, _ | .cl _, _, h, _ | .tup _, _, h, _ | .lst _, _, h, _ | .dic _ _, _, h, _ | .dit _ _, _, h, _ | .ins _ _ _, _, h, _ | .err _ _ _, _, h, _ | .rng _ _, _, h, _ | .scr _, _, h, _ => by
    rw [fl_fz rfl, fl_fz rfl]
    exact ⟨(ro_fz rfl).mpr (rep.gr g ((ro_fz rfl).mp h)), rfl⟩
theorem ros.frame {C : Cn} {A A' : Rg} {H H' : Hp} (g : Gr A H A' H') : ∀ {xs : List Val} {vs : List V}, ros C A H vs xs → (∀ a ∈ fls H vs xs, H' a = H a) → ros C A' H' vs xs ∧ fls H' vs xs = fls H vs xs
  | [], vs, h, m => by unfold ros at h; subst h; exact ⟨ros_nil, by unfold fls; rfl⟩
  | x :: xs, vs, h, m => by
    unfold ros at h
    obtain ⟨v, r, rfl, h1, h2⟩ := h
    rw [fls_cons] at m
    obtain ⟨q1, q2⟩ := ro.frame g h1 fun a ha => m a (List.mem_append_left _ ha)
    obtain ⟨q3, q4⟩ := ros.frame g h2 fun a ha => m a (List.mem_append_right _ ha)
    exact ⟨ros_cons q1 q3, by rw [fls_cons, fls_cons, q2, q4]⟩
end
end Y

set_option Elab.async false
set_option linter.all false
set_option maxRecDepth 100000
set_option maxHeartbeats 4000000
set_option autoImplicit false
/-! W2: slots; where a body stands; what is computed; readings. -/
namespace Y
open PySem L2 Z
/-! ### what is own is given away -/
mutual
def Val.melt : Val → Val
  | .olst xs => .lst (melts xs)
  | .odic ks xs => .dic ks (melts xs)
  | .odit ks xs => .dit ks (melts xs)
  | .oins c ns xs => .ins c ns (melts xs)
  | x => x
def melts : List Val → List Val
  | [] => []
  | x :: xs => x.melt :: melts xs
end
theorem melts_length : ∀ xs : List Val, (melts xs).length = xs.length
  | [] => by unfold melts; rfl
  | x :: xs => by unfold melts; simp [melts_length xs]
theorem melt_fz {x : Val} (h : x.isO = false) : x.melt = x := by
  cases x <;> first | (unfold Val.melt; rfl) | cases h
theorem melts_map (xs : List Val) : melts xs = xs.map Val.melt := by
  induction xs with
  | nil => unfold melts; rfl
  | cons x xs ih => unfold melts; rw [ih]; rfl
/-- L joins the region -/
def moreL (A : Rg) (L : List Addr) : Rg := fun a => A a ∨ a ∈ L
def lessL (A : Rg) (L : List Addr) : Rg := fun a => A a ∧ a ∉ L
theorem gr_moreL {A : Rg} {H : Hp} {L : List Addr} : Gr A H (moreL A L) H := fun a o _ n h => ⟨.inl n, h⟩
theorem gr_lessL {A : Rg} {H : Hp} {L : List Addr} : Gr (lessL A L) H A H := fun a o _ n h => ⟨n.1, h⟩
mutual
theorem ro.melt {C : Cn} {A A' : Rg} {H : Hp} (g : Gr A H A' H) : ∀ {x : Val} {v : V}, ro C A H v x → (∀ a ∈ fl H v x, A' a) → rep C A' H v x.melt
  | .olst xs, v, h, m => by
    obtain ⟨l, vs, rfl, k, r⟩ := ro_olst.mp h
    rw [fl_olst k] at m
    unfold Val.melt
    exact rep_lst.mpr ⟨l, vs, rfl, m l (.head _), k, ros.melt g r fun a ha => m a (.tail _ ha)⟩
  | .odic ks xs, v, h, m => by
    obtain ⟨l, vs, rfl, k, hl, r⟩ := ro_odic.mp h
    rw [fl_odic k (by rw [r.len]; exact hl)] at m
    unfold Val.melt
    exact rep_dic.mpr ⟨l, vs, rfl, m l (.head _), k, by rw [melts_length]; exact hl, ros.melt g r fun a ha => m a (.tail _ ha)⟩
  | .odit ks xs, v, h, m => by
    obtain ⟨l, vs, rfl, k, hl, r⟩ := ro_odit.mp h
    rw [fl_odit k (by rw [r.len]; exact hl)] at m
    unfold Val.melt
    exact rep_dit.mpr ⟨l, vs, rfl, m l (.head _), k, by rw [melts_length]; exact hl, ros.melt g r fun a ha => m a (.tail _ ha)⟩
  | .oins c ns xs, v, h, m => by
    obtain ⟨l, dx, vs, rfl, n, k, k2, hl, r⟩ := ro_oins.mp h
    rw [fl_oins k (by rw [r.len]; exact hl)] at m
    unfold Val.melt
    exact rep_ins.mpr ⟨l, dx, vs, rfl, m l (.head _), (g dx _ nt n k2).1, k, k2, by rw [melts_length]; exact hl, ros.melt g r fun a ha => m a (.tail _ ha)⟩
  | .non, _, h, _ | .bl _, _, h, _ | .int _, _, h, _ | .str _, _, h, _ | .ty _, _, h, _ | .wr _, _, h, _ | .cl _, _, h, _ | .tup _, _, h, _ | .lst _, _, h, _ | .dic _ _, _, h, _ | .dit _ _, _, h, _ | .ins _ _ _, _, h, _ | .err _ _ _, _, h, _ | .rng _ _, _, h, _ | .scr _, _, h, _ => by
    rw [melt_fz rfl]
    exact rep.gr g ((ro_fz rfl).mp h)
theorem ros.melt {C : Cn} {A A' : Rg} {H : Hp} (g : Gr A H A' H) : ∀ {xs : List Val} {vs : List V}, ros C A H vs xs → (∀ a ∈ fls H vs xs, A' a) → reps C A' H vs (melts xs)
  | [], vs, h, m => by unfold ros at h; subst h; unfold melts; exact reps_nil
  | x :: xs, vs, h, m => by
    unfold ros at h
    obtain ⟨v, r, rfl, h1, h2⟩ := h
    rw [fls_cons] at m
    unfold melts
    exact reps_cons (ro.melt g h1 fun a ha => m a (List.mem_append_left _ ha)) (ros.melt g h2 fun a ha => m a (List.mem_append_right _ ha))
end

/-! ### slots -/
inductive SV where
  | fz (x : Val)
  | ob (pin : Bool) (x : Val)
abbrev SV.ow (p : Bool) (xs : List Val) : SV := .ob p (.olst xs)
abbrev SV.od (p : Bool) (ks : List Key) (xs : List Val) : SV := .ob p (.odic ks xs)
abbrev SV.ot (p : Bool) (ks : List (List Key)) (xs : List Val) : SV := .ob p (.odit ks xs)
abbrev SV.oi (p : Bool) (c : Nat) (ns : List Str) (xs : List Val) : SV := .ob p (.oins c ns xs)
abbrev En := List (Option SV)
def SV.own : SV → Bool | .fz _ => false | .ob _ _ => true
def SV.pin : SV → Bool | .fz _ => false | .ob p _ => p
def flS (H : Hp) (v : V) : SV → List Addr | .fz _ => [] | .ob _ x => fl H v x
def slr (C : Cn) (A : Rg) (H : Hp) (v : V) : SV → Prop
  | .fz x => rep C A H v x
  | .ob _ x => x.isO = true ∧ ro C A H v x ∧ (fl H v x).Nodup ∧ ∀ a ∈ fl H v x, ¬ A a
theorem slr.frame {C : Cn} {A A' : Rg} {H H' : Hp} {v : V} {s : SV} (g : Gr A H A' H') (k : ∀ a ∈ flS H v s, H' a = H a ∧ ¬ A' a) (h : slr C A H v s) : slr C A' H' v s ∧ flS H' v s = flS H v s := by
  cases s with
  | fz x => exact ⟨rep.gr g h, rfl⟩
  | ob p x =>
    obtain ⟨o, r, n, d⟩ := h
    obtain ⟨r', e⟩ := ro.frame g r fun a ha => (k a ha).1
    exact ⟨⟨o, r', by rw [e]; exact n, by rw [e]; exact fun a ha => (k a ha).2⟩, e⟩
def OwnAt (H : Hp) (σ : L2.St) (ρ : En) (a : Addr) : Prop := ∃ (j : Nat) (s : SV) (v : V), ρ[j]? = some (some s) ∧ σ[j]? = some (some v) ∧ a ∈ flS H v s
structure EnvR (C : Cn) (A : Rg) (H : Hp) (σ : L2.St) (ρ : En) : Prop where
  len : σ.length = ρ.length
  sl : ∀ (i : Nat) (s : SV), ρ[i]? = some (some s) → ∃ v, σ[i]? = some (some v) ∧ slr C A H v s
  ne : ∀ (i j : Nat) (s t : SV) (u v : V), i ≠ j → ρ[i]? = some (some s) → ρ[j]? = some (some t) → σ[i]? = some (some u) → σ[j]? = some (some v) → ∀ a ∈ flS H u s, a ∉ flS H v t
section
variable {C : Cn} {A A' : Rg} {H H' : Hp} {σ : L2.St} {ρ : En}
theorem EnvR.own (e : EnvR C A H σ ρ) {a : Addr} (h : OwnAt H σ ρ a) : ¬ A a ∧ ∃ u, H a = some u ∧ OwnO u := by
  obtain ⟨j, s, v, h1, h2, h3⟩ := h
  obtain ⟨w, k1, k2⟩ := e.sl j s h1
  rw [h2] at k1; cases k1
  cases s with
  | fz x => cases h3
  | ob p x => exact ⟨k2.2.2.2 a h3, ro.in k2.2.1 h3⟩
theorem EnvR.frame (e : EnvR C A H σ ρ) (g : Gr A H A' H') (k : ∀ a, OwnAt H σ ρ a → H' a = H a ∧ ¬ A' a) : EnvR C A' H' σ ρ ∧ ∀ (i : Nat) (s : SV) (v : V), ρ[i]? = some (some s) → σ[i]? = some (some v) → flS H' v s = flS H v s := by
  have f : ∀ (i : Nat) (s : SV) (v : V), ρ[i]? = some (some s) → σ[i]? = some (some v) → slr C A' H' v s ∧ flS H' v s = flS H v s := fun i s v h1 h2 => by
    obtain ⟨w, k1, k2⟩ := e.sl i s h1
    rw [h2] at k1; cases k1
    exact slr.frame g (fun a ha => k a ⟨i, s, v, h1, h2, ha⟩) k2
  refine ⟨⟨e.len, fun i s h => ?_, fun i j s t u v ij hs ht hu hv => ?_⟩, fun i s v h1 h2 => (f i s v h1 h2).2⟩
  · obtain ⟨v, h1, h2⟩ := e.sl i s h
    exact ⟨v, h1, (f i s v h h1).1⟩
  · rw [(f i s u hs hu).2, (f j t v ht hv).2]
    exact e.ne i j s t u v ij hs ht hu hv
end
theorem ownAt_eq {H H' : Hp} {σ : L2.St} {ρ : En} (f : ∀ (i : Nat) (s : SV) (v : V), ρ[i]? = some (some s) → σ[i]? = some (some v) → flS H' v s = flS H v s) {a : Addr} : OwnAt H' σ ρ a ↔ OwnAt H σ ρ a :=
  ⟨fun ⟨j, s, v, h1, h2, h3⟩ => ⟨j, s, v, h1, h2, by rw [f j s v h1 h2] at h3; exact h3⟩, fun ⟨j, s, v, h1, h2, h3⟩ => ⟨j, s, v, h1, h2, by rw [f j s v h1 h2]; exact h3⟩⟩
theorem tabs_put {T : List (Addr × Str)} {H : Hp} {l : Addr} {o0 o : HO} (t : LamX.Tabs T H) (h : H l = some o0) (n1 : NT o0) (n2 : ∀ φ, o0 ≠ .ext φ) : LamX.Tabs T (upd H l o) := fun p hp => by
  obtain ⟨ps, h1, h2, h3⟩ := t p hp
  have ne : p.1 ≠ l := fun z => by rw [z, h] at h1; exact n1 _ (Option.some.inj h1)
  refine ⟨ps, by rw [upd_ne ne]; exact h1, h2, fun pos cv hc => ?_⟩
  obtain ⟨c, e1, e2⟩ := h3 pos cv hc
  exact ⟨c, e1, by rw [upd_ne (fun z => by rw [z, h] at e2; exact n2 _ (Option.some.inj e2))]; exact e2⟩
/-- where a body stands: what it began with -/
structure Bs where
  A0 : Rg
  H0 : Hp
  pins : List (Nat × Addr)
  Z : Rg
structure Now (C : Cn) (B : Bs) (A : Rg) (H : Hp) (σ : L2.St) (ρ : En) : Prop where
  env : EnvR C A H σ ρ
  fr : Fq A H
  f0 : Fq B.A0 B.H0
  nz : ∀ a, B.Z a → ¬ B.A0 a
  le : ∀ a, A a → B.A0 a
  kp : ∀ a o, NT o → ¬ B.Z a → B.H0 a = some o → H a = some o
  tb : LamX.Tabs C.T H
  fe : ∀ a, Fz H a → Fz B.H0 a
  ow : ∀ (i : Nat) (s : SV) (v : V) (a : Addr), ρ[i]? = some (some s) → σ[i]? = some (some v) → a ∈ flS H v s → Fz B.H0 a ∨ (B.Z a ∧ s.pin = true)
  pn : ∀ (i : Nat) (l : Addr), (i, l) ∈ B.pins → σ[i]? = some (some (.ref l)) ∧ ∃ s, ρ[i]? = some (some s) ∧ s.own = true ∧ s.pin = true
section
variable {C : Cn} {B : Bs} {A A' : Rg} {H H' : Hp} {σ : L2.St} {ρ : En}
theorem Now.own (N : Now C B A H σ ρ) {a : Addr} (h : OwnAt H σ ρ a) : ¬ A a ∧ ∃ u, H a = some u ∧ OwnO u := N.env.own h
/-- the slots are as they were, the heap and the region changed where nothing is own -/
theorem Now.frame (N : Now C B A H σ ρ) (g : Gr A H A' H') (k : ∀ a, OwnAt H σ ρ a → H' a = H a ∧ ¬ A' a) (fr : Fq A' H') (le : ∀ a, A' a → B.A0 a) (kp : ∀ a o, NT o → ¬ B.Z a → B.H0 a = some o → H' a = some o) (tb : LamX.Tabs C.T H') (fe : ∀ a, Fz H' a → Fz B.H0 a) : Now C B A' H' σ ρ := by
  obtain ⟨e, f⟩ := N.env.frame g k
  exact ⟨e, fr, N.f0, N.nz, le, kp, tb, fe, fun i s v a h1 h2 h3 => N.ow i s v a h1 h2 (by rw [f i s v h1 h2] at h3; exact h3), N.pn⟩
/-- nothing that was there changed but tables -/
theorem Now.kept (N : Now C B A H σ ρ) (k : ∀ a o, NT o → H a = some o → H' a = some o) (f : ∀ a, Fz H' a → Fz H a) (t : LamX.Tabs C.T H') : Now C B A H' σ ρ :=
  N.frame (fun a o n x h => ⟨x, k a o n h⟩) (fun a h => by
    obtain ⟨n, u, h1, h2⟩ := N.own h
    exact ⟨by rw [h1]; exact k a u h2.1 h1, n⟩) (fun q h => N.fr q (f q h)) N.le (fun a o n z h => k a o n (N.kp a o n z h)) t fun a h => N.fe a (f a h)
theorem Now.same (N : Now C B A H σ ρ) (e : Same H H') : Now C B A H' σ ρ := N.kept (fun a o _ h => e a o h) (fun a h => h.sm e) (N.tb.ext e)
theorem Now.new (N : Now C B A H σ ρ) {p : Addr} {o : HO} (hp : H p = none) : Now C B A (upd H p o) σ ρ := N.same (same_new hp)
theorem Now.slot (N : Now C B A H σ ρ) {i : Nat} {s : SV} (h : ρ[i]? = some (some s)) : ∃ v, σ[i]? = some (some v) ∧ slr C A H v s := N.env.sl i s h
end

/-! ### what is computed -/
inductive Rs (α : Type) where
  | ok (x : α)
  | exc (c : Nat) (ns : List Str) (vs : List Val) (ρ : En)
  | bad
def Rs.bind {α β : Type} (m : Rs α) (f : α → Rs β) : Rs β := match m with | .ok x => f x | .exc c ns vs ρ => .exc c ns vs ρ | .bad => .bad
instance : Monad Rs where
  pure := Rs.ok
  bind := Rs.bind
@[simp] theorem Rs.ok_bind {α β : Type} {x : α} {f : α → Rs β} : (Rs.ok x >>= f) = f x := rfl
@[simp] theorem Rs.pure_eq {α : Type} {x : α} : (pure x : Rs α) = Rs.ok x := rfl
@[simp] theorem Rs.bad_bind {α β : Type} {f : α → Rs β} : (Rs.bad >>= f) = Rs.bad := rfl
@[simp] theorem Rs.exc_bind {α β : Type} {f : α → Rs β} {c ns vs ρ} : (Rs.exc c ns vs ρ >>= f) = Rs.exc c ns vs ρ := rfl
def Rs.opt {α : Type} : Option α → Rs α | some x => .ok x | none => .bad
@[simp] theorem Rs.opt_some {α : Type} {x : α} : Rs.opt (some x) = .ok x := rfl
@[simp] theorem Rs.opt_none {α : Type} : (Rs.opt none : Rs α) = .bad := rfl
abbrev XW := Nat → List Str → List Val → En → Prop
def Rs.wp {α : Type} (r : Rs α) (Q : α → Prop) (E : XW) : Prop := match r with | .ok x => Q x | .exc c ns vs ρ => E c ns vs ρ | .bad => False
theorem Rs.wp_bind {α β : Type} {r : Rs α} {f : α → Rs β} {Q : β → Prop} {E : XW} (h : (r >>= f).wp Q E) : r.wp (fun x => (f x).wp Q E) E := by
  cases r with
  | ok x => exact h
  | exc c ns vs ρ => exact h
  | bad => exact h
theorem Rs.bind_wp {α β : Type} {r : Rs α} {f : α → Rs β} {Q : β → Prop} {E : XW} (h : r.wp (fun x => (f x).wp Q E) E) : (r >>= f).wp Q E := by
  cases r with
  | ok x => exact h
  | exc c ns vs ρ => exact h
  | bad => exact h
theorem Rs.wp_mono {α : Type} {r : Rs α} {Q Q' : α → Prop} {E E' : XW} (h : r.wp Q E) (k : ∀ x, Q x → Q' x) (e : ∀ c ns vs ρ, E c ns vs ρ → E' c ns vs ρ) : r.wp Q' E' := by
  cases r with
  | ok x => exact k x h
  | exc c ns vs ρ => exact e c ns vs ρ h
  | bad => exact h
theorem Rs.wp_opt {α : Type} {o : Option α} {Q : α → Prop} {E : XW} (h : (Rs.opt o).wp Q E) : ∃ x, o = some x ∧ Q x := by
  cases o with
  | none => exact h.elim
  | some x => exact ⟨x, rfl, h⟩
theorem ite_bad {α : Type} {c : Prop} [Decidable c] {m : Rs α} {Q : α → Prop} {E : XW} (h : (if c then m else .bad).wp Q E) : c ∧ m.wp Q E := by
  split at h
  · exact ⟨by assumption, h⟩
  · exact h.elim
/-- what is wanted of an exception -/
def EX (C : Cn) (E : XK) (B : Bs) : XW := fun c ns xs ρ' => ∀ d vs A' σ' H', Now C B A' H' σ' ρ' → A' d → H' d = some (.xd (ns.zip vs)) → ns.length = xs.length → reps C A' H' vs xs → E (.ref (C.ca c)) (some d) H'
structure Gd (σ : L2.St) (A : Rg) (H : Hp) (ρ : En) (H' : Hp) (ρ' : En) : Prop where
  g : Gr A H A H'
  o : ∀ a, OwnAt H' σ ρ' a → OwnAt H σ ρ a ∨ Fz H a
  k : ∀ a o, NT o → H a = some o → ¬ OwnAt H σ ρ a → H' a = some o
  f : ∀ a, Fz H' a → Fz H a
theorem Gd.refl (σ : L2.St) (A : Rg) (H : Hp) (ρ : En) : Gd σ A H ρ H ρ := ⟨.refl _ _, fun _ h => .inl h, fun _ _ _ h _ => h, fun _ h => h⟩
theorem Gd.trans {σ : L2.St} {A : Rg} {H H1 H2 : Hp} {ρ ρ1 ρ2 : En} (a : Gd σ A H ρ H1 ρ1) (b : Gd σ A H1 ρ1 H2 ρ2) : Gd σ A H ρ H2 ρ2 :=
  ⟨a.g.trans b.g, fun p h => (b.o p h).elim (a.o p) fun z => .inr (a.f p z), fun p o t h n => b.k p o t (a.k p o t h n) fun z => (a.o p z).elim n fun f => f.no h t, fun p h => a.f p (b.f p h)⟩
theorem Gd.kept {C : Cn} {B : Bs} {σ : L2.St} {A : Rg} {H H' : Hp} {ρ : En} (N : Now C B A H σ ρ) (k : ∀ a o, NT o → H a = some o → H' a = some o) (f : ∀ a, Fz H' a → Fz H a) : Gd σ A H ρ H' ρ := by
  have g : Gr A H A H' := fun a o n x h => ⟨x, k a o n h⟩
  obtain ⟨_, e⟩ := N.env.frame (A' := A) g fun a h => by
    obtain ⟨n, u, h1, h2⟩ := N.own h
    exact ⟨by rw [h1]; exact k a u h2.1 h1, n⟩
  exact ⟨g, fun a h => .inl ((ownAt_eq e).mp h), fun a o n h _ => k a o n h, f⟩
theorem Gd.same {C : Cn} {B : Bs} {σ : L2.St} {A : Rg} {H H' : Hp} {ρ : En} (N : Now C B A H σ ρ) (s : Same H H') : Gd σ A H ρ H' ρ := .kept N (fun a o _ h => s a o h) fun a h => h.sm s
/-- .. in an expression: the slots are as they were -/
def EXe (C : Cn) (E : XK) (B : Bs) (A : Rg) (H : Hp) (σ : L2.St) (ρ : En) : XW := fun c ns xs ρ' => ∀ d vs H', Now C B A H' σ ρ' → Gd σ A H ρ H' ρ' → A d → H' d = some (.xd (ns.zip vs)) → ns.length = xs.length → reps C A H' vs xs → E (.ref (C.ca c)) (some d) H'
theorem EXe.tr {C : Cn} {E : XK} {B : Bs} {A : Rg} {H H1 : Hp} {σ : L2.St} {ρ ρ1 : En} (g : Gd σ A H ρ H1 ρ1) : ∀ c ns vs ρ', EXe C E B A H σ ρ c ns vs ρ' → EXe C E B A H1 σ ρ1 c ns vs ρ' := fun _ _ _ _ h d vs H' N g' => h d vs H' N (g.trans g')
theorem EXe.of {C : Cn} {E : XK} {B : Bs} {A : Rg} {H : Hp} {σ : L2.St} {ρ : En} : ∀ c ns vs ρ', EX C E B c ns vs ρ' → EXe C E B A H σ ρ c ns vs ρ' := fun _ _ _ _ h d vs H' N _ => h d vs A σ H' N
/-- readings -/
def SE (C : Cn) (E : XK) (m : En → Rs (Val × En)) : TE := fun σ H Q => ∃ B A ρ, Now C B A H σ ρ ∧ (m ρ).wp (fun x => ∀ v H', Now C B A H' σ x.2 → Gd σ A H ρ H' x.2 → rep C A H' v x.1 → Q v H') (EXe C E B A H σ ρ)
def SA (C : Cn) (E : XK) (m : En → Rs (List Val × En)) : TA := fun σ H Q => ∃ B A ρ, Now C B A H σ ρ ∧ (m ρ).wp (fun x => ∀ vs H', Now C B A H' σ x.2 → Gd σ A H ρ H' x.2 → reps C A H' vs x.1 → Q vs H') (EXe C E B A H σ ρ)
def SB (C : Cn) (E : XK) (m : En → Rs (Bool × En)) : TT := fun σ H Q => ∃ B A ρ, Now C B A H σ ρ ∧ (m ρ).wp (fun x => ∀ H', Now C B A H' σ x.2 → Gd σ A H ρ H' x.2 → Q x.1 H') (EXe C E B A H σ ρ)
inductive Out where
  | nx (ρ : En) | rt (x : Val) (ρ : En) | bk (ρ : En) | ct (ρ : En)
def Out.at (C : Cn) (B : Bs) (A : Rg) (H : Hp) (D : Ends) : Out → Prop
  | .nx ρ' => ∀ A' σ' H', Now C B A' H' σ' ρ' → Gr A H A' H' → D.nx σ' H'
  | .rt x ρ' => ∀ v A' σ' H', Now C B A' H' σ' ρ' → Gr A H A' H' → rep C A' H' v x → D.rt v H'
  | .bk ρ' => ∀ A' σ' H', Now C B A' H' σ' ρ' → Gr A H A' H' → D.bk σ' H'
  | .ct ρ' => ∀ A' σ' H', Now C B A' H' σ' ρ' → Gr A H A' H' → D.ct σ' H'
def SS (C : Cn) (E : XK) (m : En → Rs Out) : TS := fun D σ H => ∃ B A ρ, Now C B A H σ ρ ∧ (m ρ).wp (Out.at C B A H D) (EX C E B)
theorem PE.imp {X : Cx} {e : Expr} {t t' : TE} (h : PE X e t) (k : ∀ σ H Q, t' σ H Q → t σ H Q) : PE X e t' := ⟨fun pins s σ H Q I q => h.run pins s σ H Q I (k σ H Q q)⟩
theorem PT.imp {X : Cx} {e : Expr} {t t' : TT} (h : PT X e t) (k : ∀ σ H Q, t' σ H Q → t σ H Q) : PT X e t' := ⟨fun pins s σ H Q I q => h.run pins s σ H Q I (k σ H Q q)⟩
theorem PW.imp {X : Cx} {e : Expr} {t t' : TT} (h : PW X e t) (k : ∀ σ H Q, t' σ H Q → t σ H Q) : PW X e t' := ⟨fun wh pins s σ H Q I q => h.run wh pins s σ H Q I (k σ H Q q)⟩
theorem PA.imp {X : Cx} {e : List Expr} {t t' : TA} (h : PA X e t) (k : ∀ σ H Q, t' σ H Q → t σ H Q) : PA X e t' := ⟨fun p pins s σ H Q I q => h.run p pins s σ H Q I (k σ H Q q)⟩
theorem PK.imp {X : Cx} {e : List Keyword} {t t' : TA} (h : PK X e t) (k : ∀ σ H Q, t' σ H Q → t σ H Q) : PK X e t' := ⟨fun p pins s σ H Q I q => h.run p pins s σ H Q I (k σ H Q q)⟩
theorem PS.imp {X : Cx} {e : Stmt} {t t' : TS} (h : PS X e t) (k : ∀ D σ H, t' D σ H → t D σ H) : PS X e t' := ⟨fun pins s σ H Q I q => h.run pins s σ H Q I (k Q σ H q)⟩
theorem PSs.imp {X : Cx} {e : List Stmt} {t t' : TS} (h : PSs X e t) (k : ∀ D σ H, t' D σ H → t D σ H) : PSs X e t' := ⟨fun pins s σ H Q I q => h.run pins s σ H Q I (k Q σ H q)⟩
theorem PI.imp {X : Cx} {g e : Expr} {t t' : TI} (h : PI X g e t) (k : ∀ σ H R, t' σ H R → t σ H R) : PI X g e t' := ⟨fun pins s σ H Q I q => h.run pins s σ H Q I (k σ H Q q)⟩
end Y

set_option Elab.async false
set_option linter.all false
set_option maxRecDepth 100000
set_option maxHeartbeats 4000000
set_option autoImplicit false
/-! W3: expressions. -/
namespace Y
open PySem L2 Z

abbrev ME := En → Rs (Val × En)
abbrev MA := En → Rs (List Val × En)
abbrev MB := En → Rs (Bool × En)
def cstM (x : Val) : ME := fun ρ => .ok (x, ρ)
def varM (i : Nat) : ME := fun ρ => match ρ[i]? with | some (some (.fz x)) => .ok (x, ρ) | _ => .bad
def binM (f : Val → Val → Option Val) (a b : ME) : ME := fun ρ => a ρ >>= fun x => b x.2 >>= fun y => Rs.opt (f x.1 y.1) >>= fun z => .ok (z, y.2)
def unM (f : Val → Option Val) (a : ME) : ME := fun ρ => a ρ >>= fun x => Rs.opt (f x.1) >>= fun z => .ok (z, x.2)
def tstM (f : Val → Option Bool) (a : ME) : MB := fun ρ => a ρ >>= fun x => Rs.opt (f x.1) >>= fun z => .ok (z, x.2)
def blV : Val → Option Bool | .bl b => some b | _ => none
def andB (a b : MB) : MB := fun ρ => a ρ >>= fun x => if x.1 = true then b x.2 else .ok (false, x.2)
def orB (a b : MB) : MB := fun ρ => a ρ >>= fun x => if x.1 = true then .ok (true, x.2) else b x.2
def notB (a : MB) : MB := fun ρ => a ρ >>= fun x => .ok (!x.1, x.2)
def andM (a b : ME) : ME := fun ρ => a ρ >>= fun x => Rs.opt (blV x.1) >>= fun k => if k = true then b x.2 else .ok (.bl false, x.2)
def orM (a b : ME) : ME := fun ρ => a ρ >>= fun x => Rs.opt (blV x.1) >>= fun k => if k = true then .ok (.bl true, x.2) else b x.2
def ifM (c : MB) (a b : ME) : ME := fun ρ => c ρ >>= fun k => if k.1 = true then a k.2 else b k.2
def nilA : MA := fun ρ => .ok ([], ρ)
def consA (a : ME) (b : MA) : MA := fun ρ => a ρ >>= fun x => b x.2 >>= fun y => .ok (x.1 :: y.1, y.2)
def tupM (a : MA) : ME := fun ρ => a ρ >>= fun x => if x.1.length ≤ sizeLine then .ok (.tup x.1, x.2) else .bad
def lstM (a : MA) : ME := fun ρ => a ρ >>= fun x => if x.1.length ≤ sizeLine then .ok (.lst x.1, x.2) else .bad
def cbM (f : List Val → Option Val) (a : MA) : ME := fun ρ => a ρ >>= fun x => Rs.opt (f x.1) >>= fun z => .ok (z, x.2)

section
variable {X : Cx} {C : Cn} {E : XK} {e a b : Expr} {ma mb : ME} {es : List Expr} {ml : MA} {pos : Pos}
theorem y_var {i : Nat} (h : PE X e (tVar i)) : PE X e (SE C E (varM i)) := PE.imp h fun σ H Q ⟨B, A, ρ, N, hm⟩ => by
  unfold varM at hm
  split at hm
  · rename_i x hx
    obtain ⟨v, h1, h2⟩ := N.slot hx
    exact ⟨v, h1, hm v H N (.refl _ _ _ _) h2⟩
  · exact hm.elim
theorem y_cst {v : V} {x : Val} (h : PE X e (tC v)) (r : ∀ A H, rep C A H v x) : PE X e (SE C E (cstM x)) := PE.imp h fun σ H Q ⟨B, A, ρ, N, hm⟩ => hm v H N (.refl _ _ _ _) (r A H)
theorem y_int {i : Int} {j : Nat} : PE X (.Constant (.int i) j pos) (SE C E (cstM (.int i))) := y_cst pe_int fun _ _ => rep_int.mpr rfl
theorem y_str {s : Str} {j : Nat} : PE X (.Constant (.str s) j pos) (SE C E (cstM (.str s))) := y_cst pe_str fun _ _ => rep_str.mpr rfl
theorem y_bl {s : Bool} {j : Nat} : PE X (.Constant (.bool s) j pos) (SE C E (cstM (.bl s))) := y_cst pe_bl fun _ _ => rep_bl.mpr rfl
theorem y_non {j : Nat} : PE X (.Constant .none j pos) (SE C E (cstM .non)) := y_cst pe_non fun _ _ => rep_non.mpr rfl
/-! ### two in a row -/
/-- what an operator makes of values -/
def OpV (C : Cn) (r : R2) (f : Val → Val → Option Val) : Prop := ∀ (A : Rg) (H : Hp) (u v : V) (x y z : Val), Fq A H → rep C A H u x → rep C A H v y → f x y = some z → ∀ Q : VK, (∀ w H', Same H H' → rep C A H' w z → Q w H') → r u v H Q
def UnV (C : Cn) (r : V → Hp → VK → Prop) (f : Val → Option Val) : Prop := ∀ (A : Rg) (H : Hp) (u : V) (x z : Val), Fq A H → rep C A H u x → f x = some z → ∀ Q : VK, (∀ w H', Same H H' → rep C A H' w z → Q w H') → r u H Q
theorem OpV.or {r r' : R2} {f g : Val → Val → Option Val} (h : OpV C r f) (h' : OpV C r' g) : OpV C (fun x y H Q => r x y H Q ∨ r' x y H Q) (fun x y => match f x y with | some z => some z | none => g x y) := fun A H u v x y z fA hu hv e Q q => by
  dsimp only at e
  split at e
  · cases e; exact .inl (h A H u v x y _ fA hu hv (by assumption) Q q)
  · exact .inr (h' A H u v x y _ fA hu hv e Q q)
theorem bin_rd {r : R2} {f : Val → Val → Option Val} (hv : OpV C r f) : ∀ σ H Q, SE C E (binM f ma mb) σ H Q → tOp r (SE C E ma) (SE C E mb) σ H Q := fun σ H Q ⟨B, A, ρ, N, hm⟩ =>
  ⟨B, A, ρ, N, Rs.wp_mono (Rs.wp_bind hm) (fun x hx u H1 N1 g1 r1 => ⟨B, A, x.2, N1, Rs.wp_mono (Rs.wp_bind hx) (fun y hy v H2 N2 g2 r2 => by
    obtain ⟨z, e, hz⟩ := Rs.wp_opt (Rs.wp_bind hy)
    exact hv A H2 u v x.1 y.1 z N2.fr (rep.gr g2.g r1) r2 e Q fun w H3 s r3 => hz w H3 (N2.same s) ((g1.trans g2).trans (.same N2 s)) r3) (EXe.tr g1)⟩) fun _ _ _ _ h => h⟩
theorem y_op {op : Operator} {r : R2} {f : Val → Val → Option Val} (ho : OpR X (binaryOp op) r) (hv : OpV C r f) (ha : PE X a (SE C E ma)) (hb : PE X b (SE C E mb)) : PE X (.BinOp a op b pos) (SE C E (binM f ma mb)) := PE.imp (pe_op ho ha hb) (bin_rd hv)
theorem y_cmp {op : CmpOp} {r : R2} {f : Val → Val → Option Val} (ho : OpR X (compareOp op) r) (hv : OpV C r f) (ha : PE X a (SE C E ma)) (hb : PE X b (SE C E mb)) (hm : behindInMarks op b = false) : PE X (.Compare a [op] [b] pos) (SE C E (binM f ma mb)) := PE.imp (pe_cmpR ho ha hb hm) (bin_rd hv)
theorem y_ix {r : R2} {f : Val → Val → Option Val} (ho : IxR X r) (hv : OpV C r f) (ha : PE X a (SE C E ma)) (hb : PE X b (SE C E mb)) (hs : PlainIx b) : PE X (.Subscript a b pos) (SE C E (binM f ma mb)) := PE.imp (pe_ix ho ha hb hs) (bin_rd hv)
theorem y_un {op : UnaryOp} {r : V → Hp → VK → Prop} {f : Val → Option Val} (ho : UnR X (unaryOp op) r) (hv : UnV C r f) (ha : PE X a (SE C E ma)) : PE X (.UnaryOp op a pos) (SE C E (unM f ma)) := PE.imp (pe_un ho ha) fun σ H Q ⟨B, A, ρ, N, hm⟩ =>
  ⟨B, A, ρ, N, Rs.wp_mono (Rs.wp_bind hm) (fun x hx u H1 N1 g1 r1 => by
    obtain ⟨z, e, hz⟩ := Rs.wp_opt (Rs.wp_bind hx)
    exact hv A H1 u x.1 z N1.fr r1 e Q fun w H3 s r3 => hz w H3 (N1.same s) (g1.trans (.same N1 s)) r3) fun _ _ _ _ h => h⟩
/-! ### tests -/
theorem blV_rep {A : Rg} {H : Hp} {v : V} {x : Val} {k : Bool} (e : blV x = some k) (r : rep C A H v x) : v = .bl k := by
  unfold blV at e
  split at e
  · cases e; exact rep_bl.mp r
  · cases e
/-- a comparison as a test -/
theorem yt_cmp {op : CmpOp} {r : R2} {f : Val → Val → Option Val} (ho : OpR X (compareOp op) r) (hv : OpV C r f) (ha : PE X a (SE C E ma)) (hb : PE X b (SE C E mb)) (hm : behindInMarks op b = false) : PT X (.Compare a [op] [b] pos) (SB C E (tstM blV (binM f ma mb))) := PT.imp (pt_cmpR ho ha hb hm) fun σ H Q ⟨B, A, ρ, N, hm⟩ =>
  bin_rd hv σ H _ ⟨B, A, ρ, N, Rs.wp_mono (Rs.wp_bind hm) (fun x hx v H' N' g' r' => by
    obtain ⟨k, e, hk⟩ := Rs.wp_opt (Rs.wp_bind hx)
    exact ⟨k, blV_rep e r', hk H' N' g'⟩) fun _ _ _ _ h => h⟩
theorem yt_not {ta : MB} (ha : PT X a (SB C E ta)) : PT X (.UnaryOp .Not a pos) (SB C E (notB ta)) := PT.imp (pt_not ha) fun σ H Q ⟨B, A, ρ, N, hm⟩ =>
  ⟨B, A, ρ, N, Rs.wp_mono (Rs.wp_bind hm) (fun x hx H' N' g' => hx H' N' g') fun _ _ _ _ h => h⟩
theorem yw_and1 {ta : MB} (ha : PT X a (SB C E ta)) : PW X (.BoolOp .And [a] pos) (SB C E ta) := pw_and1 ha
theorem yw_or1 {ta : MB} (ha : PT X a (SB C E ta)) : PW X (.BoolOp .Or [a] pos) (SB C E ta) := pw_or1 ha
theorem yw_and {ta tb : MB} {rest : List Expr} (ha : PT X a (SB C E ta)) (hb : PW X (.BoolOp .And (b :: rest) pos) (SB C E tb)) : PW X (.BoolOp .And (a :: b :: rest) pos) (SB C E (andB ta tb)) := PW.imp (pw_and ha hb) fun σ H Q ⟨B, A, ρ, N, hm⟩ =>
  ⟨B, A, ρ, N, Rs.wp_mono (Rs.wp_bind hm) (fun x hx H' N' g' => by
    by_cases h : x.1 = true
    · rw [if_pos h] at hx ⊢
      exact ⟨B, A, x.2, N', Rs.wp_mono hx (fun y hy H2 N2 g2 => hy H2 N2 (g'.trans g2)) (EXe.tr g')⟩
    · rw [if_neg h] at hx ⊢
      exact hx H' N' g') fun _ _ _ _ h => h⟩
theorem yw_or {ta tb : MB} {rest : List Expr} (ha : PT X a (SB C E ta)) (hb : PW X (.BoolOp .Or (b :: rest) pos) (SB C E tb)) : PW X (.BoolOp .Or (a :: b :: rest) pos) (SB C E (orB ta tb)) := PW.imp (pw_or ha hb) fun σ H Q ⟨B, A, ρ, N, hm⟩ =>
  ⟨B, A, ρ, N, Rs.wp_mono (Rs.wp_bind hm) (fun x hx H' N' g' => by
    by_cases h : x.1 = true
    · rw [if_pos h] at hx ⊢
      exact hx H' N' g'
    · rw [if_neg h] at hx ⊢
      exact ⟨B, A, x.2, N', Rs.wp_mono hx (fun y hy H2 N2 g2 => hy H2 N2 (g'.trans g2)) (EXe.tr g')⟩) fun _ _ _ _ h => h⟩
/-- and, or as values (of truths) -/
theorem y_one {op : BoolOp} (h : PE X a (SE C E ma)) : PE X (.BoolOp op [a] pos) (SE C E ma) := pe_one h
theorem y_and {rest : List Expr} (ha : PE X a (SE C E ma)) (hb : PE X (.BoolOp .And (b :: rest) pos) (SE C E mb)) : PE X (.BoolOp .And (a :: b :: rest) pos) (SE C E (andM ma mb)) := PE.imp (pe_and ha hb) fun σ H Q ⟨B, A, ρ, N, hm⟩ =>
  ⟨B, A, ρ, N, Rs.wp_mono (Rs.wp_bind hm) (fun x hx v H' N' g' r' => by
    obtain ⟨k, e, hk⟩ := Rs.wp_opt (Rs.wp_bind hx)
    refine ⟨k, blV_rep e r', ?_⟩
    by_cases h : k = true
    · rw [if_pos h] at hk ⊢
      exact ⟨B, A, x.2, N', Rs.wp_mono hk (fun y hy v2 H2 N2 g2 r2 => hy v2 H2 N2 (g'.trans g2) r2) (EXe.tr g')⟩
    · rw [if_neg h] at hk ⊢
      exact hk _ H' N' g' (rep_bl.mpr rfl)) fun _ _ _ _ h => h⟩
theorem y_or {rest : List Expr} (ha : PE X a (SE C E ma)) (hb : PE X (.BoolOp .Or (b :: rest) pos) (SE C E mb)) : PE X (.BoolOp .Or (a :: b :: rest) pos) (SE C E (orM ma mb)) := PE.imp (pe_or ha hb) fun σ H Q ⟨B, A, ρ, N, hm⟩ =>
  ⟨B, A, ρ, N, Rs.wp_mono (Rs.wp_bind hm) (fun x hx v H' N' g' r' => by
    obtain ⟨k, e, hk⟩ := Rs.wp_opt (Rs.wp_bind hx)
    refine ⟨k, blV_rep e r', ?_⟩
    by_cases h : k = true
    · rw [if_pos h] at hk ⊢
      exact hk _ H' N' g' (rep_bl.mpr rfl)
    · rw [if_neg h] at hk ⊢
      exact ⟨B, A, x.2, N', Rs.wp_mono hk (fun y hy v2 H2 N2 g2 r2 => hy v2 H2 N2 (g'.trans g2) r2) (EXe.tr g')⟩) fun _ _ _ _ h => h⟩
/-- not, as a value -/
def notV : Val → Option Val | .bl b => some (.bl (!b)) | _ => none
theorem y_not (ha : PE X a (SE C E ma)) : PE X (.UnaryOp .Not a pos) (SE C E (unM notV ma)) := PE.imp (pe_not ha) fun σ H Q ⟨B, A, ρ, N, hm⟩ =>
  ⟨B, A, ρ, N, Rs.wp_mono (Rs.wp_bind hm) (fun x hx v H' N' g' r' => by
    obtain ⟨z, e, hz⟩ := Rs.wp_opt (Rs.wp_bind hx)
    unfold notV at e
    split at e
    · rename_i b' hb'
      cases e
      rw [hb'] at r'
      exact ⟨b', rep_bl.mp r', hz _ H' N' g' (rep_bl.mpr rfl)⟩
    · cases e) fun _ _ _ _ h => h⟩
theorem y_if {c : Expr} {tc : MB} (hc : PT X c (SB C E tc)) (ha : PE X a (SE C E ma)) (hb : PE X b (SE C E mb)) : PE X (.IfExp c a b pos) (SE C E (ifM tc ma mb)) := PE.imp (pe_ifExp hc ha hb) fun σ H Q ⟨B, A, ρ, N, hm⟩ =>
  ⟨B, A, ρ, N, Rs.wp_mono (Rs.wp_bind hm) (fun x hx H' N' g' => by
    by_cases h : x.1 = true
    · rw [if_pos h] at hx ⊢
      exact ⟨B, A, x.2, N', Rs.wp_mono hx (fun y hy v2 H2 N2 g2 r2 => hy v2 H2 N2 (g'.trans g2) r2) (EXe.tr g')⟩
    · rw [if_neg h] at hx ⊢
      exact ⟨B, A, x.2, N', Rs.wp_mono hx (fun y hy v2 H2 N2 g2 r2 => hy v2 H2 N2 (g'.trans g2) r2) (EXe.tr g')⟩) fun _ _ _ _ h => h⟩
/-- any value's truth -/
def truV : Val → Option Bool
  | .non => some false | .bl b => some b | .int i => some (i != 0)
  | .str s => if s.length ≤ sizeLine then some ((s.length : Int) != 0) else none
  | .lst xs => some (!xs.isEmpty) | .tup xs => some (!xs.isEmpty) | .dic ks _ => some (!ks.isEmpty)
  | _ => none
theorem emp_len {α β : Type} {xs : List α} {ys : List β} (h : xs.length = ys.length) : xs.isEmpty = ys.isEmpty := by
  cases xs <;> cases ys <;> simp at h ⊢
theorem truV_ok {A : Rg} {H : Hp} {v : V} {x : Val} {k : Bool} (e : truV x = some k) (r : rep C A H v x) : TruV C.K v H k := by
  cases x with
  | non => cases e; rw [rep_non.mp r]; exact rfl
  | bl b => cases e; rw [rep_bl.mp r]; exact rfl
  | int i => cases e; rw [rep_int.mp r]; exact rfl
  | str s =>
    rw [rep_str.mp r]
    simp only [truV] at e
    split at e
    · cases e; exact ⟨by assumption, rfl⟩
    · cases e
  | lst xs =>
    cases e
    obtain ⟨a, vs, rfl, n, h, rs⟩ := rep_lst.mp r
    exact .inl ⟨vs, SqL.of h, by rw [emp_len rs.len]⟩
  | tup xs =>
    cases e
    obtain ⟨a, vs, rfl, h, rs⟩ := rep_tup.mp r
    exact .inr (.inl ⟨vs, h.sq, by rw [emp_len rs.len]⟩)
  | dic ks xs =>
    cases e
    obtain ⟨a, vs, rfl, n, h, l, rs⟩ := rep_dic.mp r
    refine .inr (.inr ⟨_, h, ?_⟩)
    rw [emp_len (show (ks.zip vs).length = ks.length by rw [List.length_zip, rs.len, l, Nat.min_self])]
  | _ => cases e
theorem yt_val (hK : X.K = C.K) (ha : PE X a (SE C E ma)) (he : ∀ whole, isTrue a X.env whole = (do let v ← whole; standAt a.pos; holding [v] (truthy v))) : PT X a (SB C E (tstM truV ma)) := PT.imp (pt_truth ha he) fun σ H Q ⟨B, A, ρ, N, hm⟩ =>
  ⟨B, A, ρ, N, Rs.wp_mono (Rs.wp_bind hm) (fun x hx v H' N' g' r' => by
    obtain ⟨k, e, hk⟩ := Rs.wp_opt (Rs.wp_bind hx)
    rw [hK]
    exact ⟨k, truV_ok e r', hk H' N' g'⟩) fun _ _ _ _ h => h⟩
/-! ### lists of expressions -/
theorem ya_nil : PA X [] (SA C E nilA) := PA.imp pa_nil fun σ H Q ⟨B, A, ρ, N, hm⟩ => hm [] H N (.refl _ _ _ _) reps_nil
theorem ya_cons (ha : PE X e (SE C E ma)) (hr : PA X es (SA C E ml)) (hs : starEach (e :: es) X.env = (false, eval e X.env) :: starEach es X.env := by rfl) : PA X (e :: es) (SA C E (consA ma ml)) := PA.imp (pa_cons ha hr hs) fun σ H Q ⟨B, A, ρ, N, hm⟩ =>
  ⟨B, A, ρ, N, Rs.wp_mono (Rs.wp_bind hm) (fun x hx v H1 N1 g1 r1 => ⟨B, A, x.2, N1, Rs.wp_mono (Rs.wp_bind hx) (fun y hy vs H2 N2 g2 r2 => hy (v :: vs) H2 N2 (g1.trans g2) (reps_cons (rep.gr g2.g r1) r2)) (EXe.tr g1)⟩) fun _ _ _ _ h => h⟩
theorem yk_nil : PK X [] (SA C E nilA) := PK.imp pk_nil fun σ H Q ⟨B, A, ρ, N, hm⟩ => hm [] H N (.refl _ _ _ _) reps_nil
theorem yk_cons {kws : List Keyword} {nm : Option Str} {kpos : Pos} (ha : PE X e (SE C E ma)) (hr : PK X kws (SA C E ml)) : PK X (⟨nm, e, kpos⟩ :: kws) (SA C E (consA ma ml)) := PK.imp (pk_cons ha hr) fun σ H Q ⟨B, A, ρ, N, hm⟩ =>
  ⟨B, A, ρ, N, Rs.wp_mono (Rs.wp_bind hm) (fun x hx v H1 N1 g1 r1 => ⟨B, A, x.2, N1, Rs.wp_mono (Rs.wp_bind hx) (fun y hy vs H2 N2 g2 r2 => hy (v :: vs) H2 N2 (g1.trans g2) (reps_cons (rep.gr g2.g r1) r2)) (EXe.tr g1)⟩) fun _ _ _ _ h => h⟩
theorem gr_new {A : Rg} {H : Hp} {p : Addr} {o : HO} (h : H p = none) : Gr A H A (upd H p o) := .same (same_new h)
theorem y_tup {x1} (h : PA X es (SA C E ml)) : PE X (.Tuple es x1 pos) (SE C E (tupM ml)) := PE.imp (pe_tup h) fun σ H Q ⟨B, A, ρ, N, hm⟩ =>
  ⟨B, A, ρ, N, Rs.wp_mono (Rs.wp_bind hm) (fun x hx vs H1 N1 g1 r1 => by
    obtain ⟨hz, hx⟩ := ite_bad hx
    exact ⟨by rw [r1.len]; exact hz, fun p hp => hx _ _ (N1.new hp) (g1.trans (.same N1 (same_new hp))) (rep_tup.mpr ⟨p, vs, rfl, .inl ⟨N1.fr p (.of hp), upd_same⟩, reps.gr (gr_new hp) r1⟩)⟩) fun _ _ _ _ h => h⟩
theorem y_lst (h : PA X es (SA C E ml)) : PE X (.List es pos) (SE C E (lstM ml)) := PE.imp (pe_lst h) fun σ H Q ⟨B, A, ρ, N, hm⟩ =>
  ⟨B, A, ρ, N, Rs.wp_mono (Rs.wp_bind hm) (fun x hx vs H1 N1 g1 r1 => by
    obtain ⟨hz, hx⟩ := ite_bad hx
    exact ⟨by rw [r1.len]; exact hz, fun p hp => hx _ _ (N1.new hp) (g1.trans (.same N1 (same_new hp))) (rep_lst.mpr ⟨p, vs, rfl, N1.fr p (.of hp), upd_same, reps.gr (gr_new hp) r1⟩)⟩) fun _ _ _ _ h => h⟩
/-! ### built-in calls -/
def CbV (C : Cn) (r : List V → Hp → VK → Prop) (f : List Val → Option Val) : Prop := ∀ (A : Rg) (H : Hp) (us : List V) (xs : List Val) (z : Val), Fq A H → reps C A H us xs → f xs = some z → ∀ Q : VK, (∀ w H', Same H H' → rep C A H' w z → Q w H') → r us H Q
theorem cb_rd {r : List V → Hp → VK → Prop} {f : List Val → Option Val} (hv : CbV C r f) : ∀ σ H Q, SE C E (cbM f ml) σ H Q → tCB r (SA C E ml) σ H Q := fun σ H Q ⟨B, A, ρ, N, hm⟩ =>
  ⟨B, A, ρ, N, Rs.wp_mono (Rs.wp_bind hm) (fun x hx us H1 N1 g1 r1 => by
    obtain ⟨z, e, hz⟩ := Rs.wp_opt (Rs.wp_bind hx)
    exact hv A H1 us x.1 z N1.fr r1 e Q fun w H3 s r3 => hz w H3 (N1.same s) (g1.trans (.same N1 s)) r3) fun _ _ _ _ h => h⟩
end
end Y

set_option Elab.async false
set_option linter.all false
set_option maxRecDepth 100000
set_option maxHeartbeats 4000000
set_option autoImplicit false
/-! W4: slots stored, own objects changed, statements. -/
namespace Y
open PySem L2 Z
section
variable {C : Cn} {B : Bs} {A A' : Rg} {H H' : Hp} {σ : L2.St} {ρ : En}
/-- the slot may be stored: it is no pinned own one -/
def freeS (ρ : En) (i : Nat) : Bool := match ρ[i]? with | some (some s) => !s.pin | some none => true | none => false
theorem getset {α : Type} {l : List α} {i j : Nat} {x y : α} (h : (l.set i x)[j]? = some y) : (j = i ∧ y = x ∧ i < l.length) ∨ (j ≠ i ∧ l[j]? = some y) := by
  by_cases e : j = i
  · subst e
    by_cases hl : j < l.length
    · rw [List.getElem?_set_self hl] at h; cases h; exact .inl ⟨rfl, rfl, hl⟩
    · rw [List.getElem?_eq_none (by simpa using hl)] at h; cases h
  · rw [List.getElem?_set_ne (Ne.symm e)] at h
    exact .inr ⟨e, h⟩
theorem freeS_lt {i : Nat} (hf : freeS ρ i = true) : i < ρ.length := by
  unfold freeS at hf
  by_cases h : i < ρ.length
  · exact h
  · rw [List.getElem?_eq_none (by omega)] at hf; cases hf
theorem Now.npin {i : Nat} (N : Now C B A H σ ρ) (hf : freeS ρ i = true) : ∀ l, (i, l) ∉ B.pins := fun l hp => by
  obtain ⟨_, s, h2, _, h4⟩ := N.pn i l hp
  unfold freeS at hf
  rw [h2] at hf
  simp [h4] at hf
/-- a slot is stored -/
theorem Now.store {i : Nat} {v : V} {s : SV} (N : Now C B A H σ ρ) (hf : freeS ρ i = true) (r : slr C A H v s) (dj : ∀ a ∈ flS H v s, ∀ (j : Nat) (t : SV) (w : V), j ≠ i → ρ[j]? = some (some t) → σ[j]? = some (some w) → a ∉ flS H w t) (h0 : ∀ a ∈ flS H v s, Fz B.H0 a) : Now C B A H (σ.set i (some v)) (ρ.set i (some s)) := by
  have hi : i < σ.length := by rw [N.env.len]; exact freeS_lt hf
  have npin := N.npin hf
  have bs : ∀ {j : Nat} {t : SV} {w : V}, (ρ.set i (some s))[j]? = some (some t) → (σ.set i (some v))[j]? = some (some w) → (j = i ∧ t = s ∧ w = v) ∨ (j ≠ i ∧ ρ[j]? = some (some t) ∧ σ[j]? = some (some w)) := fun {j t w} h1 h2 => by
    rcases getset h1 with ⟨e, e2, _⟩ | ⟨n, h1⟩
    · subst e; cases e2
      rw [List.getElem?_set_self hi] at h2; cases h2
      exact .inl ⟨rfl, rfl, rfl⟩
    · rw [List.getElem?_set_ne (Ne.symm n)] at h2
      exact .inr ⟨n, h1, h2⟩
  refine ⟨⟨by simp [N.env.len], fun j t h => ?_, fun j k t u a b jk ht hu ha hb => ?_⟩, N.fr, N.f0, N.nz, N.le, N.kp, N.tb, N.fe, fun j t w a h1 h2 h3 => ?_, fun j l h => ?_⟩
  · rcases getset h with ⟨e, e2, _⟩ | ⟨n, h⟩
    · subst e; cases e2
      exact ⟨v, List.getElem?_set_self hi, r⟩
    · obtain ⟨w, h1, h2⟩ := N.env.sl j t h
      exact ⟨w, by rw [List.getElem?_set_ne (Ne.symm n)]; exact h1, h2⟩
  · rcases bs ht ha with ⟨e1, e2, e3⟩ | ⟨n1, q1, q2⟩
    · subst e1 e2 e3
      rcases bs hu hb with ⟨e1, e2, e3⟩ | ⟨n1, q1, q2⟩
      · exact absurd e1.symm jk
      · exact fun p hp => dj p hp k u b n1 q1 q2
    · rcases bs hu hb with ⟨e1, e2, e3⟩ | ⟨n2, q3, q4⟩
      · subst e1 e2 e3
        exact fun p hp hp2 => dj p hp2 j t a n1 q1 q2 hp
      · exact N.env.ne j k t u a b jk q1 q3 q2 q4
  · rcases bs h1 h2 with ⟨e1, e2, e3⟩ | ⟨n1, q1, q2⟩
    · subst e1 e2 e3; exact .inl (h0 a h3)
    · exact N.ow j t w a q1 q2 h3
  · have ne : j ≠ i := fun e => npin l (by rw [← e]; exact h)
    rw [List.getElem?_set_ne (Ne.symm ne), List.getElem?_set_ne (Ne.symm ne)]
    exact N.pn j l h
/-- a slot gets a frozen value -/
theorem Now.set {i : Nat} {v : V} {x : Val} (N : Now C B A H σ ρ) (hf : freeS ρ i = true) (r : rep C A H v x) : Now C B A H (σ.set i (some v)) (ρ.set i (some (.fz x))) :=
  N.store hf r (fun _ h => nomatch h) fun _ h => nomatch h
/-- a slot gets a new own value -/
theorem Now.own' {i : Nat} {v : V} {x : Val} (N : Now C B A H σ ρ) (hf : freeS ρ i = true) (r : slr C A H v (.ob false x)) (h0 : ∀ a ∈ fl H v x, Fz B.H0 a) (ne : ∀ a ∈ fl H v x, ¬ OwnAt H σ ρ a) : Now C B A H (σ.set i (some v)) (ρ.set i (some (.ob false x))) :=
  N.store hf r (fun a ha j t w _ h1 h2 h3 => ne a ha ⟨j, t, w, h1, h2, h3⟩) h0
/-- a slot is forgotten -/
theorem Now.unset {i : Nat} (N : Now C B A H σ ρ) (hf : freeS ρ i = true) : Now C B A H (σ.set i none) (ρ.set i none) := by
  have back : ∀ {j : Nat} {s : SV}, (ρ.set i none)[j]? = some (some s) → j ≠ i ∧ ρ[j]? = some (some s) := fun {j s} h => by
    rcases getset h with ⟨_, e2, _⟩ | ⟨n1, h⟩
    · cases e2
    · exact ⟨n1, h⟩
  have npin := N.npin hf
  refine ⟨⟨by simp [N.env.len], fun j s h => ?_, fun j k s t u v jk hs ht hu hv => ?_⟩, N.fr, N.f0, N.nz, N.le, N.kp, N.tb, N.fe, fun j s v a h1 h2 h3 => ?_, fun j l h => ?_⟩
  · obtain ⟨n, h⟩ := back h
    obtain ⟨u, h1, h2⟩ := N.env.sl j s h
    exact ⟨u, by rw [List.getElem?_set_ne (Ne.symm n)]; exact h1, h2⟩
  · obtain ⟨n1, hs⟩ := back hs
    obtain ⟨n2, ht⟩ := back ht
    rw [List.getElem?_set_ne (Ne.symm n1)] at hu
    rw [List.getElem?_set_ne (Ne.symm n2)] at hv
    exact N.env.ne j k s t u v jk hs ht hu hv
  · obtain ⟨n1, h1⟩ := back h1
    rw [List.getElem?_set_ne (Ne.symm n1)] at h2
    exact N.ow j s v a h1 h2 h3
  · have ne : j ≠ i := fun e => npin l (by rw [← e]; exact h)
    rw [List.getElem?_set_ne (Ne.symm ne), List.getElem?_set_ne (Ne.symm ne)]
    exact N.pn j l h
/-- a slot's value is not looked at: what it holds is of no account -/
theorem Now.hide {i : Nat} (N : Now C B A H σ ρ) (hf : freeS ρ i = true) : Now C B A H σ (ρ.set i none) := by
  have back : ∀ {j : Nat} {s : SV}, (ρ.set i none)[j]? = some (some s) → j ≠ i ∧ ρ[j]? = some (some s) := fun {j s} h => by
    rcases getset h with ⟨_, e2, _⟩ | ⟨n1, h⟩
    · cases e2
    · exact ⟨n1, h⟩
  have npin := N.npin hf
  refine ⟨⟨by simp [N.env.len], fun j s h => N.env.sl j s (back h).2, fun j k s t u v jk hs ht hu hv => N.env.ne j k s t u v jk (back hs).2 (back ht).2 hu hv⟩, N.fr, N.f0, N.nz, N.le, N.kp, N.tb, N.fe, fun j s v a h1 h2 h3 => N.ow j s v a (back h1).2 h2 h3, fun j l h => ?_⟩
  have ne : j ≠ i := fun e => npin l (by rw [← e]; exact h)
  rw [List.getElem?_set_ne (Ne.symm ne)]
  exact N.pn j l h
/-- a new object, out of the region from now on -/
theorem Now.cut {p : Addr} {o : HO} (N : Now C B A H σ ρ) (hp : H p = none) (hno : NT o) : Now C B (A.less p) (upd H p o) σ ρ := by
  have N' := N.new (o := o) hp
  refine N.frame (fun a u _ n h => ⟨⟨n, ne_of_none h hp⟩, same_new hp a u h⟩) (fun a h => ?_) (fun q h => ?_) (fun a h => N.le a h.1) N'.kp N'.tb N'.fe
  · obtain ⟨n, u, h1, h2⟩ := N.own h
    exact ⟨by rw [h1]; exact same_new hp a u h1, fun z => n z.1⟩
  · have e : q ≠ p := fun z => by rw [z] at h; exact h.no upd_same hno
    exact ⟨N.fr q (fun u z => h u (by rw [upd_ne e]; exact z)), e⟩
/-- an own value changes -/
theorem Now.change {i : Nat} {v : V} {s s' : SV} (N : Now C B A H σ ρ) (hs : ρ[i]? = some (some s)) (hσ : σ[i]? = some (some v)) (keep : ∀ a o, NT o → H a = some o → a ∉ flS H v s → H' a = some o) (fe : ∀ a, Fz H' a → Fz H a) (tb : LamX.Tabs C.T H')
    (r : slr C A H' v s') (ow : s'.own = s.own) (pin : s'.pin = s.pin) (sub : ∀ a ∈ flS H' v s', a ∈ flS H v s ∨ Fz H a) : Now C B A H' σ (ρ.set i (some s')) ∧ Gd σ A H ρ H' (ρ.set i (some s')) := by
  have hi : i < ρ.length := (List.getElem?_eq_some_iff.mp hs).1
  have g : Gr A H A H' := fun a u t n h => ⟨n, keep a u t h fun z => (N.own ⟨i, s, v, hs, hσ, z⟩).1 n⟩
  have oth : ∀ (j : Nat) (t : SV) (w : V), j ≠ i → ρ[j]? = some (some t) → σ[j]? = some (some w) → slr C A H' w t ∧ flS H' w t = flS H w t := fun j t w n h1 h2 => by
    obtain ⟨w', k1, k2⟩ := N.env.sl j t h1
    rw [h2] at k1; cases k1
    refine slr.frame g (fun a ha => ?_) k2
    obtain ⟨na, u, e1, e2⟩ := N.own ⟨j, t, w, h1, h2, ha⟩
    exact ⟨by rw [e1]; exact keep a u e2.1 e1 fun z => N.env.ne j i t s w v n h1 hs h2 hσ a ha z, na⟩
  have bs : ∀ {j : Nat} {t : SV} {w : V}, (ρ.set i (some s'))[j]? = some (some t) → σ[j]? = some (some w) → (j = i ∧ t = s' ∧ w = v) ∨ (j ≠ i ∧ ρ[j]? = some (some t)) := fun {j t w} h1 h2 => by
    rcases getset h1 with ⟨e, e2, _⟩ | ⟨n, h1⟩
    · subst e; cases e2
      rw [hσ] at h2; cases h2
      exact .inl ⟨rfl, rfl, rfl⟩
    · exact .inr ⟨n, h1⟩
  have cross : ∀ (j : Nat) (t : SV) (w : V), j ≠ i → ρ[j]? = some (some t) → σ[j]? = some (some w) → ∀ a ∈ flS H' v s', a ∉ flS H' w t := fun j t w n h1 h2 a ha hb => by
    rw [(oth j t w n h1 h2).2] at hb
    rcases sub a ha with z | z
    · exact N.env.ne j i t s w v n h1 hs h2 hσ a hb z
    · obtain ⟨_, u, e1, e2⟩ := N.own ⟨j, t, w, h1, h2, hb⟩
      exact z.no e1 e2.1
  refine ⟨⟨⟨by simp [N.env.len], fun j t h => ?_, fun j k t u a b jk ht hu ha hb => ?_⟩, fun q h => N.fr q (fe q h), N.f0, N.nz, N.le, fun a o t z h => ?_, tb, fun a h => N.fe a (fe a h), fun j t w a h1 h2 h3 => ?_, fun j l h => ?_⟩, ⟨g, fun a ⟨j, t, w, h1, h2, h3⟩ => ?_, fun a o t h n => keep a o t h fun z => n ⟨i, s, v, hs, hσ, z⟩, fe⟩⟩
  · rcases getset h with ⟨e, e2, _⟩ | ⟨n, h⟩
    · subst e; cases e2
      exact ⟨v, hσ, r⟩
    · obtain ⟨w, h1, h2⟩ := N.env.sl j t h
      exact ⟨w, h1, (oth j t w n h h1).1⟩
  · rcases bs ht ha with ⟨e1, e2, e3⟩ | ⟨n1, q1⟩
    · subst e1 e2 e3
      rcases bs hu hb with ⟨e1, e2, e3⟩ | ⟨n2, q2⟩
      · exact absurd e1.symm jk
      · exact cross k u b n2 q2 hb
    · rcases bs hu hb with ⟨e1, e2, e3⟩ | ⟨n2, q2⟩
      · subst e1 e2 e3
        exact fun p hp hp2 => cross j t a n1 q1 ha p hp2 hp
      · rw [(oth j t a n1 q1 ha).2, (oth k u b n2 q2 hb).2]
        exact N.env.ne j k t u a b jk q1 q2 ha hb
  · refine keep a o t (N.kp a o t z h) fun q => ?_
    rcases N.ow i s v a hs hσ q with w | ⟨w, _⟩
    · exact w.no h t
    · exact z w
  · rcases bs h1 h2 with ⟨e1, e2, e3⟩ | ⟨n1, q1⟩
    · subst e1 e2 e3
      rcases sub a h3 with z | z
      · rw [pin]; exact N.ow j s w a hs hσ z
      · exact .inl (N.fe a z)
    · rw [(oth j t w n1 q1 h2).2] at h3
      exact N.ow j t w a q1 h2 h3
  · obtain ⟨h1, t, h2, h3, h4⟩ := N.pn j l h
    refine ⟨h1, ?_⟩
    by_cases e : j = i
    · subst e
      rw [hs] at h2; cases h2
      exact ⟨s', List.getElem?_set_self hi, by rw [ow]; exact h3, by rw [pin]; exact h4⟩
    · exact ⟨t, by rw [List.getElem?_set_ne (Ne.symm e)]; exact h2, h3, h4⟩
  · rcases bs h1 h2 with ⟨e1, e2, e3⟩ | ⟨n1, q1⟩
    · subst e1 e2 e3
      rcases sub a h3 with z | z
      · exact .inl ⟨j, s, w, hs, hσ, z⟩
      · exact .inr z
    · rw [(oth j t w n1 q1 h2).2] at h3
      exact .inl ⟨j, t, w, q1, h2, h3⟩
/-- an own object changes -/
theorem Now.put {i : Nat} {l : Addr} {v : V} {s s' : SV} {o : HO} (N : Now C B A H σ ρ) (hs : ρ[i]? = some (some s)) (hσ : σ[i]? = some (some v)) (hl : l ∈ flS H v s) (hno : NT o) (ow : s'.own = s.own) (pin : s'.pin = s.pin)
    (r : slr C A (upd H l o) v s') (sub : flS (upd H l o) v s' = flS H v s) : Now C B A (upd H l o) σ (ρ.set i (some s')) ∧ Gd σ A H ρ (upd H l o) (ρ.set i (some s')) := by
  obtain ⟨_, u, e1, e2⟩ := N.own ⟨i, s, v, hs, hσ, hl⟩
  refine N.change hs hσ (fun a o t h n => by rw [upd_ne (fun z => n (by rw [z]; exact hl))]; exact h) (fun a h => ?_) (tabs_put N.tb e1 e2.1 e2.2.1) r ow pin (fun a ha => .inl (by rw [sub] at ha; exact ha))
  have e : a ≠ l := fun z => by rw [z] at h; exact h.no upd_same hno
  exact fun u z => h u (by rw [upd_ne e]; exact z)
/-- an own value is given away: it joins the region -/
theorem Now.melt {i : Nat} {v : V} {x : Val} (N : Now C B A H σ ρ) (hs : ρ[i]? = some (some (.ob false x))) (hσ : σ[i]? = some (some v)) : Now C B (moreL A (fl H v x)) H σ (ρ.set i (some (.fz x.melt))) := by
  have h0 : ∀ a ∈ fl H v x, Fz B.H0 a := fun a ha => by
    rcases N.ow i _ v a hs hσ ha with h | ⟨_, h⟩
    · exact h
    · cases h
  have hi : i < ρ.length := (List.getElem?_eq_some_iff.mp hs).1
  obtain ⟨v', e1, o1, r1, n1, d1⟩ := N.env.sl i _ hs
  rw [hσ] at e1; cases e1
  have oth : ∀ (j : Nat) (t : SV) (w : V), j ≠ i → ρ[j]? = some (some t) → σ[j]? = some (some w) → slr C (moreL A (fl H v x)) H w t := fun j t w n h1 h2 => by
    obtain ⟨w', k1, k2⟩ := N.env.sl j t h1
    rw [h2] at k1; cases k1
    refine (slr.frame gr_moreL (fun a ha => ⟨rfl, fun z => ?_⟩) k2).1
    rcases z with z | z
    · exact (N.own ⟨j, t, w, h1, h2, ha⟩).1 z
    · exact N.env.ne j i t _ w v n h1 hs h2 hσ a ha z
  refine ⟨⟨by simp [N.env.len], fun j t h => ?_, fun j k t u a b jk ht hu ha hb => ?_⟩, fun q h => .inl (N.fr q h), N.f0, N.nz, fun a h => ?_, N.kp, N.tb, N.fe, fun j t w a h1 h2 h3 => ?_, fun j l h => ?_⟩
  · rcases getset h with ⟨e, e2, _⟩ | ⟨n, h⟩
    · subst e; cases e2
      exact ⟨v, hσ, ro.melt gr_moreL r1 fun a ha => .inr ha⟩
    · obtain ⟨w, h1, h2⟩ := N.env.sl j t h
      exact ⟨w, h1, oth j t w n h h1⟩
  · rcases getset ht with ⟨_, e2, _⟩ | ⟨n1, ht⟩
    · cases e2; exact fun _ z => nomatch z
    rcases getset hu with ⟨_, e2, _⟩ | ⟨n2, hu⟩
    · cases e2; exact fun _ _ z => nomatch z
    exact N.env.ne j k t u a b jk ht hu ha hb
  · rcases h with h | h
    · exact N.le a h
    · exact N.f0 a (h0 a h)
  · rcases getset h1 with ⟨_, e2, _⟩ | ⟨n1, h1⟩
    · cases e2; cases h3
    exact N.ow j t w a h1 h2 h3
  · obtain ⟨h1, t, h2, h3, h4⟩ := N.pn j l h
    have ne : j ≠ i := fun e => by
      subst e
      rw [hs] at h2; cases h2; cases h4
    exact ⟨h1, t, by rw [List.getElem?_set_ne (Ne.symm ne)]; exact h2, h3, h4⟩
end
/-! ### statements -/
abbrev MS := En → Rs Out
def nextS : MS := fun ρ => .ok (.nx ρ)
def seqS (a b : MS) : MS := fun ρ => a ρ >>= fun o => match o with | .nx ρ' => b ρ' | .rt x ρ' => .ok (.rt x ρ') | .bk ρ' => .ok (.bk ρ') | .ct ρ' => .ok (.ct ρ')
def asgS (i : Nat) (m : ME) : MS := fun ρ => m ρ >>= fun x => if freeS x.2 i = true then .ok (.nx (x.2.set i (some (.fz x.1)))) else .bad
def retS (m : ME) : MS := fun ρ => m ρ >>= fun x => .ok (.rt x.1 x.2)
def dropS (m : ME) : MS := fun ρ => m ρ >>= fun x => .ok (.nx x.2)
def ifS (c : MB) (a b : MS) : MS := fun ρ => c ρ >>= fun k => if k.1 = true then a k.2 else b k.2
def meltS (i : Nat) (k : MS) : MS := fun ρ => match ρ[i]? with | some (some (.ob false x)) => k (ρ.set i (some (.fz x.melt))) | _ => .bad
section
variable {X : Cx} {C : Cn} {E : XK} {e a b : Expr} {ma mb : ME} {ms mk : MS} {es : List Expr} {ml : MA} {pos : Pos} {st : Stmt} {rest : List Stmt}
theorem Out.at_gr {C : Cn} {B : Bs} {A A1 : Rg} {H H1 : Hp} {D : Ends} {o : Out} (g : Gr A H A1 H1) (h : Out.at C B A H D o) : Out.at C B A1 H1 D o := by
  cases o with
  | nx ρ => exact fun A' σ' H' N g' => h A' σ' H' N (g.trans g')
  | rt x ρ => exact fun v A' σ' H' N g' r => h v A' σ' H' N (g.trans g') r
  | bk ρ => exact fun A' σ' H' N g' => h A' σ' H' N (g.trans g')
  | ct ρ => exact fun A' σ' H' N g' => h A' σ' H' N (g.trans g')
theorem ys_nil : PSs X [] (SS C E nextS) := PSs.imp pss_nil fun D σ H ⟨B, A, ρ, N, hm⟩ => hm A σ H N (.refl _ _)
theorem ys_pass : PS X (.Pass pos) (SS C E nextS) := PS.imp ps_pass fun D σ H ⟨B, A, ρ, N, hm⟩ => hm A σ H N (.refl _ _)
theorem ys_cons (h1 : PS X st (SS C E ms)) (h2 : PSs X rest (SS C E mk)) : PSs X (st :: rest) (SS C E (seqS ms mk)) := PSs.imp (pss_cons h1 h2) fun D σ H ⟨B, A, ρ, N, hm⟩ =>
  ⟨B, A, ρ, N, Rs.wp_mono (Rs.wp_bind hm) (fun o ho => by
    cases o with
    | nx ρ' => exact fun A' σ' H' N' g' => ⟨B, A', ρ', N', Rs.wp_mono ho (fun o h => Out.at_gr g' h) fun _ _ _ _ h => h⟩
    | rt x ρ' => exact ho
    | bk ρ' => exact ho
    | ct ρ' => exact ho) fun _ _ _ _ h => h⟩
theorem ys_one (h1 : PS X st (SS C E ms)) : PSs X [st] (SS C E ms) := pss_one h1
theorem ys_asg {i : Nat} {st : Stmt} (h : PS X st (tAsg (SE C E ma) (gName i))) : PS X st (SS C E (asgS i ma)) := PS.imp h fun D σ H ⟨B, A, ρ, N, hm⟩ =>
  ⟨B, A, ρ, N, Rs.wp_mono (Rs.wp_bind hm) (fun x hx v H1 N1 g1 r1 => by
    obtain ⟨hf, hx⟩ := ite_bad hx
    exact hx A _ H1 (N1.set hf r1) g1.g) EXe.of⟩
theorem ys_ret (he : PE X e (SE C E ma)) : PS X (.Return (some e) pos) (SS C E (retS ma)) := PS.imp (ps_ret he) fun D σ H ⟨B, A, ρ, N, hm⟩ =>
  ⟨B, A, ρ, N, Rs.wp_mono (Rs.wp_bind hm) (fun x hx v H1 N1 g1 r1 => hx v A σ H1 N1 g1.g r1) EXe.of⟩
theorem ys_retN : PS X (.Return none pos) (SS C E (retS (cstM .non))) := PS.imp ps_retN fun D σ H ⟨B, A, ρ, N, hm⟩ => hm .non A σ H N (.refl _ _) (rep_non.mpr rfl)
theorem ys_drop {st : Stmt} (h : PS X st (tDrop (SE C E ma))) : PS X st (SS C E (dropS ma)) := PS.imp h fun D σ H ⟨B, A, ρ, N, hm⟩ =>
  ⟨B, A, ρ, N, Rs.wp_mono (Rs.wp_bind hm) (fun x hx v H1 N1 g1 r1 => hx A σ H1 N1 g1.g) EXe.of⟩
theorem ys_if {c : Expr} {xs ys : List Stmt} {mc : MB} (hc : PT X c (SB C E mc)) (ha : PSs X xs (SS C E ms)) (hb : PSs X ys (SS C E mk)) : PS X (.If c xs ys pos) (SS C E (ifS mc ms mk)) := PS.imp (ps_if hc ha hb) fun D σ H ⟨B, A, ρ, N, hm⟩ =>
  ⟨B, A, ρ, N, Rs.wp_mono (Rs.wp_bind hm) (fun x hx H1 N1 g1 => by
    by_cases h : x.1 = true
    · rw [if_pos h] at hx ⊢
      exact ⟨B, A, x.2, N1, Rs.wp_mono hx (fun o h => Out.at_gr g1.g h) fun _ _ _ _ h => h⟩
    · rw [if_neg h] at hx ⊢
      exact ⟨B, A, x.2, N1, Rs.wp_mono hx (fun o h => Out.at_gr g1.g h) fun _ _ _ _ h => h⟩) EXe.of⟩
/-- nothing is done: the own value of a slot is given away ahead of the statements -/
theorem ys_melt {i : Nat} {xs : List Stmt} (h : PSs X xs (SS C E ms)) : PSs X xs (SS C E (meltS i ms)) := PSs.imp h fun D σ H ⟨B, A, ρ, N, hm⟩ => by
  unfold meltS at hm
  split at hm
  · rename_i x hy
    obtain ⟨v, h1, _⟩ := N.slot hy
    exact ⟨B, _, _, N.melt hy h1, Rs.wp_mono hm (fun o h => Out.at_gr gr_moreL h) fun _ _ _ _ h => h⟩
  · exact hm.elim
end
end Y

set_option Elab.async false
set_option linter.all false
set_option maxRecDepth 100000
set_option maxHeartbeats 4000000
set_option autoImplicit false
/-! W5: what is walked, targets, for, while, comprehensions. -/
namespace Y
open PySem L2 Z
/-! ### what is walked -/
abbrev MI := En → Rs (List Val × En)
def Wk (C : Cn) (A : Rg) (J : It) (H : Hp) (xs : List Val) : Prop := ∀ A' H', Gr A H A' H' → Fq A' H' → (∀ (i : Nat) (x : Val), xs[i]? = some x → J.go i H' ∧ ∀ v H2, J.yld i H' v H2 → Same H' H2 ∧ rep C A' H2 v x) ∧ J.stop xs.length H'
def SI (C : Cn) (E : XK) (m : MI) : TI := fun σ H R => ∃ B A ρ, Now C B A H σ ρ ∧ (m ρ).wp (fun x => ∀ J H', Now C B A H' σ x.2 → Gd σ A H ρ H' x.2 → Wk C A J H' x.1 → R J H') (EXe C E B A H σ ρ)
/-- a value that is walked as it stands -/
def seqV : Val → Option (List Val) | .lst xs => some xs | .tup xs => some xs | _ => none
def walkM (f : Val → Option (List Val)) (m : ME) : MI := fun ρ => m ρ >>= fun x => Rs.opt (f x.1) >>= fun xs => .ok (xs, x.2)
def lstV : Val → Option (List Val) | .lst xs => some xs | _ => none
def tuppV : Val → Option (List Val) | .tup xs => some xs | _ => none
section
variable {X : Cx} {C : Cn} {E : XK} {e a b tg : Expr} {ma mb : ME} {ms mk : MS} {mi : MI} {es : List Expr} {ml : MA} {pos : Pos}
theorem wk_list {A : Rg} {H : Hp} {a : Addr} {vs : List V} {xs : List Val} (n : A a) (h : H a = some (.lst vs)) (r : reps C A H vs xs) : Wk C A (Itl C.K a) H xs := fun A' H' g _ => by
  have h' : SqL C.K H' a vs := SqL.of (g a _ nt n h).2
  have r' := (reps.gr g r).pair
  refine ⟨fun i x hx => ?_, ⟨vs, h', by rw [r.len]; exact Nat.le_refl _⟩⟩
  obtain ⟨v, hv, rv⟩ := paired_at' r' hx
  refine ⟨⟨vs, v, h', hv⟩, fun v2 H2 ⟨e2, k⟩ => ?_⟩
  subst e2
  have hv2 := k vs h'
  rw [hv] at hv2
  cases hv2
  exact ⟨Same.refl _, rv⟩
where paired_at' {A' : Rg} {H' : Hp} : ∀ {vs : List V} {xs : List Val} {j : Nat} {x : Val}, Paired (rep C A' H') vs xs → xs[j]? = some x → ∃ v, vs[j]? = some v ∧ rep C A' H' v x
  | _, _, _, _, .nil, e => by simp at e
  | _, _, 0, _, .cons r _, e => by simp at e; subst e; exact ⟨_, rfl, r⟩
  | _, _, j + 1, x, .cons _ t, e => by
    obtain ⟨v, h1, h2⟩ := paired_at' (j := j) (x := x) t (by simpa using e)
    exact ⟨v, by simpa using h1, h2⟩
theorem wk_tup {A : Rg} {H : Hp} {a : Addr} {vs : List V} {xs : List Val} (h : TupAt C.K A H a vs) (r : reps C A H vs xs) : Wk C A (Itt C.K a) H xs := fun A' H' g _ => by
  have h' : SqT C.K H' a vs := (TupAt.gr g h).sq
  have r' := (reps.gr g r).pair
  refine ⟨fun i x hx => ?_, ⟨vs, h', by rw [r.len]; exact Nat.le_refl _⟩⟩
  obtain ⟨v, hv, rv⟩ := wk_list.paired_at' r' hx
  refine ⟨⟨vs, v, h', hv⟩, fun v2 H2 ⟨e2, k⟩ => ?_⟩
  subst e2
  have hv2 := k vs h'
  rw [hv] at hv2
  cases hv2
  exact ⟨Same.refl _, rv⟩
theorem yi_list (hK : X.K = C.K) (h : PE X e (SE C E ma)) : PI X tg e (SI C E (walkM lstV ma)) := PI.imp (pi_list h) fun σ H R ⟨B, A, ρ, N, hm⟩ =>
  ⟨B, A, ρ, N, Rs.wp_mono (Rs.wp_bind hm) (fun x hx v H1 N1 g1 r1 => by
    obtain ⟨xs, e, hz⟩ := Rs.wp_opt (Rs.wp_bind hx)
    rw [hK]
    unfold lstV at e
    split at e
    · rename_i q
      cases e
      rw [q] at r1
      obtain ⟨a, vs, rfl, n, h, r⟩ := rep_lst.mp r1
      exact ⟨a, rfl, ⟨vs, SqL.of h⟩, hz _ H1 N1 g1 (wk_list n h r)⟩
    · cases e) fun _ _ _ _ h => h⟩
theorem yi_tup (hK : X.K = C.K) (h : PE X e (SE C E ma)) : PI X tg e (SI C E (walkM tuppV ma)) := PI.imp (pi_tup h) fun σ H R ⟨B, A, ρ, N, hm⟩ =>
  ⟨B, A, ρ, N, Rs.wp_mono (Rs.wp_bind hm) (fun x hx v H1 N1 g1 r1 => by
    obtain ⟨xs, e, hz⟩ := Rs.wp_opt (Rs.wp_bind hx)
    rw [hK]
    unfold tuppV at e
    split at e
    · rename_i q
      cases e
      rw [q] at r1
      obtain ⟨a, vs, rfl, h, r⟩ := rep_tup.mp r1
      exact ⟨a, rfl, ⟨vs, h.sq⟩, hz _ H1 N1 g1 (wk_tup h r)⟩
    · cases e) fun _ _ _ _ h => h⟩
/-- range -/
def iota (lo : Int) : Nat → List Val
  | 0 => []
  | n + 1 => .int lo :: iota (lo + 1) n
theorem iota_length (lo : Int) : ∀ n, (iota lo n).length = n
  | 0 => rfl
  | n + 1 => by show (iota (lo + 1) n).length + 1 = n + 1; rw [iota_length]
theorem iota_get : ∀ (n : Nat) (lo : Int) (i : Nat), i < n → (iota lo n)[i]? = some (.int (lo + (i : Int)))
  | 0, _, _, h => absurd h (Nat.not_lt_zero _)
  | n + 1, lo, 0, _ => by show some (Val.int lo) = _; simp
  | n + 1, lo, i + 1, h => by
    show (iota (lo + 1) n)[i]? = _
    rw [iota_get n (lo + 1) i (by omega)]
    congr 2
    omega
theorem wk_rng {A : Rg} {H : Hp} (lo : Int) (m : Nat) : Wk C A (Itr lo m) H (iota lo m) := fun A' H' g _ => by
  refine ⟨fun i x hx => ?_, by show m ≤ _; rw [iota_length]; exact Nat.le_refl _⟩
  have hi : i < m := by
    have := (List.getElem?_eq_some_iff.mp hx).1
    rw [iota_length] at this
    exact this
  rw [iota_get m lo i hi] at hx
  cases hx
  refine ⟨hi, fun v2 H2 ⟨e2, k⟩ => ?_⟩
  subst e2
  exact ⟨Same.refl _, rep_int.mpr k⟩
def rng1M (a : MA) : MI := fun ρ => a ρ >>= fun x => match x.1 with | [.int j] => if -(2 ^ 62) ≤ j ∧ j < 2 ^ 62 then .ok (iota 0 j.toNat, x.2) else .bad | _ => .bad
def rng2M (a : MA) : MI := fun ρ => a ρ >>= fun x => match x.1 with | [.int i, .int j] => if -(2 ^ 62) ≤ i ∧ i < 2 ^ 62 ∧ -(2 ^ 62) ≤ j ∧ j < 2 ^ 62 then .ok (iota i (j - i).toNat, x.2) else .bad | _ => .bad
theorem reps1 {A : Rg} {H : Hp} {vs : List V} {x : Val} (h : reps C A H vs [x]) : ∃ v, vs = [v] ∧ rep C A H v x := by
  unfold reps at h
  obtain ⟨v, r, e, h1, h2⟩ := h
  unfold reps at h2
  subst h2
  exact ⟨v, e, h1⟩
theorem reps2 {A : Rg} {H : Hp} {vs : List V} {x y : Val} (h : reps C A H vs [x, y]) : ∃ v u, vs = [v, u] ∧ rep C A H v x ∧ rep C A H u y := by
  unfold reps at h
  obtain ⟨v, r, e, h1, h2⟩ := h
  obtain ⟨u, rfl, h3⟩ := reps1 h2
  exact ⟨v, u, e, h1, h3⟩
theorem yi_rng1 (h : PI X tg e (iRng1 (SA C E ml))) : PI X tg e (SI C E (rng1M ml)) := PI.imp h fun σ H R ⟨B, A, ρ, N, hm⟩ =>
  ⟨B, A, ρ, N, Rs.wp_mono (Rs.wp_bind hm) (fun x hx vs H1 N1 g1 r1 => by
    split at hx
    · rename_i j q
      obtain ⟨hb, hx⟩ := ite_bad hx
      rw [q] at r1
      obtain ⟨v, rfl, rv⟩ := reps1 r1
      exact ⟨j, by rw [rep_int.mp rv], hb.1, hb.2, hx _ H1 N1 g1 (wk_rng 0 _)⟩
    · exact hx.elim) fun _ _ _ _ h => h⟩
theorem yi_rng2 (h : PI X tg e (iRng2 (SA C E ml))) : PI X tg e (SI C E (rng2M ml)) := PI.imp h fun σ H R ⟨B, A, ρ, N, hm⟩ =>
  ⟨B, A, ρ, N, Rs.wp_mono (Rs.wp_bind hm) (fun x hx vs H1 N1 g1 r1 => by
    split at hx
    · rename_i i j q
      obtain ⟨hb, hx⟩ := ite_bad hx
      rw [q] at r1
      obtain ⟨v, u, rfl, rv, ru⟩ := reps2 r1
      exact ⟨i, j, by rw [rep_int.mp rv, rep_int.mp ru], hb, hx _ H1 N1 g1 (wk_rng i _)⟩
    · exact hx.elim) fun _ _ _ _ h => h⟩
/-! ### targets -/
abbrev MT := Val → En → Option En
def nameT (i : Nat) : MT := fun x ρ => if freeS ρ i = true then some (ρ.set i (some (.fz x))) else none
abbrev MTs := List Val → En → Option En
def nilT : MTs := fun xs ρ => match xs with | [] => some ρ | _ => none
def consT (t : MT) (u : MTs) : MTs := fun xs ρ => match xs with | x :: r => (t x ρ).bind (u r) | [] => none
def tupT (n : Nat) (u : MTs) : MT := fun x ρ => match x with | .tup xs => if xs.length = n then u xs ρ else none | _ => none
/-- only these slots are stored -/
structure Off (is : List Nat) (σ σ' : L2.St) (ρ ρ' : En) : Prop where
  len : σ'.length = σ.length
  out : ∀ j, j ∉ is → σ'[j]? = σ[j]?
  ow : ∀ (j : Nat) (p : Bool) (x : Val), ρ'[j]? = some (some (.ob p x)) → j ∉ is ∧ ρ[j]? = some (some (.ob p x))
theorem Off.own {is : List Nat} {σ σ' : L2.St} {ρ ρ' : En} (o : Off is σ σ' ρ ρ') {H : Hp} {a : Addr} (h : OwnAt H σ' ρ' a) : OwnAt H σ ρ a := by
  obtain ⟨j, s, v, h1, h2, h3⟩ := h
  cases s with
  | fz x => cases h3
  | ob p x =>
    obtain ⟨n, k⟩ := o.ow j p x h1
    exact ⟨j, _, v, k, by rw [← o.out j n]; exact h2, h3⟩
def SG (C : Cn) (is : List Nat) (t : MT) : TG := fun v σ H Q => ∃ B A ρ x ρ', Now C B A H σ ρ ∧ rep C A H v x ∧ t x ρ = some ρ' ∧ ∀ σ', Now C B A H σ' ρ' → Off is σ σ' ρ ρ' → Q σ' H
def SGs (C : Cn) (is : List Nat) (t : MTs) : TGs := fun vs σ H Q => ∃ B A ρ xs ρ', Now C B A H σ ρ ∧ reps C A H vs xs ∧ t xs ρ = some ρ' ∧ ∀ σ', Now C B A H σ' ρ' → Off is σ σ' ρ ρ' → Q σ' H
theorem PG.imp {t t' : TG} (h : PG X tg t) (k : ∀ v σ H Q, t' v σ H Q → t v σ H Q) : PG X tg t' := ⟨fun pins s σ H x v Q I r q => h.run pins s σ H x v Q I r (k _ _ _ _ q)⟩
theorem PGs.imp {ts : List Expr} {t t' : TGs} (h : PGs X ts t) (k : ∀ v σ H Q, t' v σ H Q → t v σ H Q) : PGs X ts t' := ⟨fun pins s σ H x v Q I r q => h.run pins s σ H x v Q I r (k _ _ _ _ q)⟩
theorem yg_name {i : Nat} (h : PG X tg (gName i)) : PG X tg (SG C [i] (nameT i)) := PG.imp h fun v σ H Q ⟨B, A, ρ, x, ρ', N, r, e, k⟩ => by
  unfold nameT at e
  split at e
  · cases e
    refine k _ (N.set (by assumption) r) ⟨by simp, fun j hj => List.getElem?_set_ne (fun z => hj (by simp [z])), fun j p x h => ?_⟩
    rcases getset h with ⟨_, e2, _⟩ | ⟨n, h⟩
    · cases e2
    · exact ⟨fun z => n (by simpa using z), h⟩
  · cases e
theorem ygs_nil : PGs X [] (SGs C [] nilT) := PGs.imp pgs_nil fun vs σ H Q ⟨B, A, ρ, xs, ρ', N, r, e, k⟩ => by
  unfold nilT at e
  split at e
  · cases e
    unfold reps at r
    exact ⟨r, k _ N ⟨rfl, fun _ _ => rfl, fun _ _ _ h => ⟨(fun z => nomatch z), h⟩⟩⟩
  · cases e
theorem ygs_cons {t : MT} {u : MTs} {is js : List Nat} (h1 : PG X e (SG C is t)) (h2 : PGs X es (SGs C js u)) (pc : ∀ {t : TG} {u : TGs}, PG X e t → PGs X es u → PGs X (e :: es) (gCons t u)) : PGs X (e :: es) (SGs C (is ++ js) (consT t u)) := PGs.imp (pc h1 h2) fun vs σ H Q ⟨B, A, ρ, xs, ρ', N, r, e, k⟩ => by
  unfold consT at e
  split at e
  · rename_i x r'
    unfold reps at r
    obtain ⟨v, rs, ev, r1, r2⟩ := r
    cases e1 : t x ρ with
    | none => rw [e1] at e; cases e
    | some ρ1 =>
      rw [e1] at e
      exact ⟨v, rs, ev, B, A, ρ, x, ρ1, N, r1, e1, fun σ1 N1 o1 => ⟨B, A, ρ1, _, ρ', N1, r2, e, fun σ2 N2 o2 => k σ2 N2 ⟨o2.len.trans o1.len, fun j hj => by
        rw [List.mem_append, not_or] at hj
        rw [o2.out j hj.2, o1.out j hj.1], fun j p x h => by
        obtain ⟨n2, h2⟩ := o2.ow j p x h
        obtain ⟨n1, h1⟩ := o1.ow j p x h2
        exact ⟨fun z => (List.mem_append.mp z).elim n1 n2, h1⟩⟩⟩⟩
  · cases e
theorem yg_tup {n : Nat} {u : MTs} {is : List Nat} (hK : X.K = C.K) (h : PG X tg (gTup X.K n (SGs C is u))) : PG X tg (SG C is (tupT n u)) := PG.imp h fun v σ H Q ⟨B, A, ρ, x, ρ', N, r, e, k⟩ => by
  unfold tupT at e
  split at e
  · rename_i xs
    split at e
    · rename_i hl
      obtain ⟨a, vs, rfl, h, rs⟩ := rep_tup.mp r
      exact ⟨a, vs, rfl, by rw [hK]; exact h.sq, by rw [rs.len]; exact hl, B, A, ρ, xs, ρ', N, rs, e, k⟩
    · cases e
  · cases e
/-! ### for -/
def forL (t : MT) (body : MS) : List Val → MS
  | [], ρ => .ok (.nx ρ)
  | x :: xs, ρ => Rs.opt (t x ρ) >>= fun ρ1 => body ρ1 >>= fun o => match o with
    | .nx ρ2 => forL t body xs ρ2
    | .ct ρ2 => forL t body xs ρ2
    | .bk ρ2 => .ok (.nx ρ2)
    | .rt y ρ2 => .ok (.rt y ρ2)
def forS (mi : MI) (t : MT) (body : MS) : MS := fun ρ => mi ρ >>= fun x => forL t body x.1 x.2
theorem ys_for {t : MT} {is : List Nat} {st : Stmt} (h : PS X st (tFor (SI C E mi) (SG C is t) (SS C E ms))) : PS X st (SS C E (forS mi t ms)) := PS.imp h fun D σ H ⟨B, A, ρ, N, hm⟩ =>
  ⟨B, A, ρ, N, Rs.wp_mono (Rs.wp_bind hm) (fun x hx J H1 N1 g1 wk => by
    refine ⟨fun i m σ' H' => ∃ A' ρ', Now C B A' H' σ' ρ' ∧ Gr A H1 A' H' ∧ m = x.1.length - i ∧ i ≤ x.1.length ∧ (forL t ms (x.1.drop i) ρ').wp (Out.at C B A' H' D) (EX C E B), ⟨x.1.length, A, x.2, N1, .refl _ _, by simp, Nat.zero_le _, ?_⟩, ?_⟩
    · rw [List.drop_zero]
      exact Rs.wp_mono hx (fun o h => Out.at_gr g1.g h) fun _ _ _ _ h => h
    · rintro i m σ' H' ⟨A', ρ', N', g', rfl, hi, hw⟩
      obtain ⟨w1, w2⟩ := wk A' H' g' N'.fr
      by_cases hlt : i < x.1.length
      · obtain ⟨go, yl⟩ := w1 i x.1[i] (by simp [hlt])
        refine .inr ⟨go, fun σ2 H2 => ∃ A2 ρ2, Now C B A2 H2 σ2 ρ2 ∧ Gr A H1 A2 H2 ∧ (forL t ms (x.1.drop (i + 1)) ρ2).wp (Out.at C B A2 H2 D) (EX C E B), fun σ2 H2 ⟨A2, ρ2, n, g, w⟩ => ⟨x.1.length - (i + 1), by omega, A2, ρ2, n, g, rfl, hlt, w⟩, fun v H2 hy => ?_⟩
        obtain ⟨s2, rv⟩ := yl v H2 hy
        have N2 := N'.same s2
        rw [List.drop_eq_getElem_cons hlt] at hw
        unfold forL at hw
        obtain ⟨ρ1, e1, hb⟩ := Rs.wp_opt (Rs.wp_bind hw)
        refine ⟨B, A', ρ', x.1[i], ρ1, N2, rv, e1, fun σ3 N3 _ => ⟨B, A', ρ1, N3, Rs.wp_mono (Rs.wp_bind hb) (fun o ho => ?_) fun _ _ _ _ h => h⟩⟩
        have gs : Gr A' H' A' H2 := .same s2
        cases o with
        | nx ρ2 => exact fun A4 σ4 H4 N4 g4 => ⟨A4, ρ2, N4, (g'.trans gs).trans g4, Rs.wp_mono ho (fun o h => Out.at_gr (gs.trans g4) h) fun _ _ _ _ h => h⟩
        | ct ρ2 => exact fun A4 σ4 H4 N4 g4 => ⟨A4, ρ2, N4, (g'.trans gs).trans g4, Rs.wp_mono ho (fun o h => Out.at_gr (gs.trans g4) h) fun _ _ _ _ h => h⟩
        | bk ρ2 => exact fun A4 σ4 H4 N4 g4 => ho A4 σ4 H4 N4 (gs.trans g4)
        | rt y ρ2 => exact fun v4 A4 σ4 H4 N4 g4 r4 => ho v4 A4 σ4 H4 N4 (gs.trans g4) r4
      · have e : i = x.1.length := by omega
        subst e
        rw [List.drop_length] at hw
        exact .inl ⟨w2, hw A' σ' H' N' (.refl _ _)⟩) EXe.of⟩
/-! ### while -/
def whileL (c : MB) (body : MS) : Nat → MS
  | 0, _ => .bad
  | n + 1, ρ => c ρ >>= fun k => if k.1 = true then body k.2 >>= fun o => match o with
      | .nx ρ2 => whileL c body n ρ2
      | .ct ρ2 => whileL c body n ρ2
      | .bk ρ2 => .ok (.nx ρ2)
      | .rt y ρ2 => .ok (.rt y ρ2)
    else .ok (.nx k.2)
theorem ys_while {mc : MB} {n : Nat} {st : Stmt} (h : PS X st (tWhile (SB C E mc) (SS C E ms))) : PS X st (SS C E (whileL mc ms n)) := PS.imp h fun D σ H ⟨B, A, ρ, N, hm⟩ => by
  refine ⟨fun m σ' H' => ∃ A' ρ', Now C B A' H' σ' ρ' ∧ (whileL mc ms m ρ').wp (Out.at C B A' H' D) (EX C E B), ⟨n, A, ρ, N, hm⟩, ?_⟩
  rintro m σ' H' ⟨A', ρ', N', hw⟩
  cases m with
  | zero => exact hw.elim
  | succ m =>
    unfold whileL at hw
    refine ⟨B, A', ρ', N', Rs.wp_mono (Rs.wp_bind hw) (fun k hk H2 N2 g2 => ?_) EXe.of⟩
    by_cases h : k.1 = true
    · rw [if_pos h] at hk ⊢
      refine ⟨fun σ3 H3 => ∃ A3 ρ3, Now C B A3 H3 σ3 ρ3 ∧ (whileL mc ms m ρ3).wp (Out.at C B A3 H3 D) (EX C E B), fun σ3 H3 q => ⟨m, Nat.lt_succ_self _, q⟩, B, A', k.2, N2, Rs.wp_mono (Rs.wp_bind hk) (fun o ho => ?_) fun _ _ _ _ h => h⟩
      cases o with
      | nx ρ2 => exact fun A4 σ4 H4 N4 g4 => ⟨A4, ρ2, N4, Rs.wp_mono ho (fun o h => Out.at_gr (g2.g.trans g4) h) fun _ _ _ _ h => h⟩
      | ct ρ2 => exact fun A4 σ4 H4 N4 g4 => ⟨A4, ρ2, N4, Rs.wp_mono ho (fun o h => Out.at_gr (g2.g.trans g4) h) fun _ _ _ _ h => h⟩
      | bk ρ2 => exact fun A4 σ4 H4 N4 g4 => ho A4 σ4 H4 N4 (g2.g.trans g4)
      | rt y ρ2 => exact fun v4 A4 σ4 H4 N4 g4 r4 => ho v4 A4 σ4 H4 N4 (g2.g.trans g4) r4
    · rw [if_neg h] at hk ⊢
      exact hk A' σ' H2 N2 g2.g
end
end Y

set_option Elab.async false
set_option linter.all false
set_option maxRecDepth 100000
set_option maxHeartbeats 4000000
set_option autoImplicit false
/-! W6: new values; comprehensions. -/
namespace Y
open PySem L2 Z
section
variable {C : Cn} {B : Bs} {A A' : Rg} {H H' : Hp} {σ : L2.St} {ρ : En}
/-! ### slots forgotten -/
def wipeE (ρ : En) : List Nat → En
  | [] => ρ
  | v :: vs => (wipeE ρ vs).set v none
theorem freeS_unset {i j : Nat} (h : freeS ρ j = true) : freeS (ρ.set i none) j = true := by
  unfold freeS at h ⊢
  by_cases e : i = j
  · subst e
    by_cases hl : i < ρ.length
    · rw [List.getElem?_set_self hl]
    · rw [List.getElem?_eq_none (by omega)] at h; cases h
  · rw [List.getElem?_set_ne e]; exact h
theorem freeS_wipe {j : Nat} (h : freeS ρ j = true) : ∀ vs : List Nat, freeS (wipeE ρ vs) j = true
  | [] => h
  | v :: vs => freeS_unset (freeS_wipe h vs)
theorem Now.wipe (N : Now C B A H σ ρ) : ∀ vs : List Nat, vs.all (freeS ρ) = true → Now C B A H (L2.wipe σ vs) (wipeE ρ vs)
  | [], _ => N
  | v :: vs, h => by
    rw [List.all_cons, Bool.and_eq_true] at h
    exact (Now.wipe N vs h.2).unset (freeS_wipe h.1 vs)
theorem wipeE_in {i : Nat} : ∀ {vs : List Nat}, i ∈ vs → (wipeE ρ vs)[i]? = none ∨ (wipeE ρ vs)[i]? = some none
  | v :: vs, h => by
    unfold wipeE
    by_cases e : v = i
    · subst e
      by_cases hl : v < (wipeE ρ vs).length
      · exact .inr (List.getElem?_set_self hl)
      · exact .inl (List.getElem?_eq_none (by simpa using hl))
    · rw [List.getElem?_set_ne e]
      rcases List.mem_cons.mp h with h | h
      · exact absurd h.symm e
      · exact wipeE_in h
theorem wipeE_out {i : Nat} : ∀ {vs : List Nat}, i ∉ vs → (wipeE ρ vs)[i]? = ρ[i]?
  | [], _ => rfl
  | v :: vs, h => by
    rw [List.mem_cons, not_or] at h
    unfold wipeE
    rw [List.getElem?_set_ne (Ne.symm h.1)]
    exact wipeE_out h.2
theorem wipeE_no (vs : List Nat) : ∀ i ∈ vs, ∀ s, (wipeE ρ vs)[i]? ≠ some (some s) := fun i hi s z => by
  rcases wipeE_in (ρ := ρ) hi with e | e <;> rw [e] at z <;> cases z
/-- own in the wiped slots: own in the slots -/
theorem own_wipe {H : Hp} {σ : L2.St} {ρ : En} {vs : List Nat} {a : Addr} (h : OwnAt H (L2.wipe σ vs) (wipeE ρ vs) a) : OwnAt H σ ρ a := by
  obtain ⟨j, s, v, h1, h2, h3⟩ := h
  have hj : j ∉ vs := fun z => wipeE_no vs j z s h1
  exact ⟨j, s, v, by rw [← wipeE_out hj]; exact h1, by rw [← wipe_out hj]; exact h2, h3⟩
/-- the slots that were forgotten come back -/
theorem Now.back {vs : List Nat} (N : Now C B A H (L2.wipe σ vs) ρ) (hv : ∀ i ∈ vs, ∀ s, ρ[i]? ≠ some (some s)) : Now C B A H σ ρ := by
  have out : ∀ {i : Nat} {s : SV}, ρ[i]? = some (some s) → (L2.wipe σ vs)[i]? = σ[i]? := fun {i s} h => wipe_out fun z => hv i z s h
  refine ⟨⟨by rw [← N.env.len, L2.wipe_length], fun j s h => ?_, fun j k s t u v jk hs ht hu hv' => ?_⟩, N.fr, N.f0, N.nz, N.le, N.kp, N.tb, N.fe, fun j s v a h1 h2 h3 => ?_, fun j l h => ?_⟩
  · rw [← out h]; exact N.env.sl j s h
  · rw [← out hs] at hu
    rw [← out ht] at hv'
    exact N.env.ne j k s t u v jk hs ht hu hv'
  · rw [← out h1] at h2
    exact N.ow j s v a h1 h2 h3
  · obtain ⟨h1, s, h2, h3⟩ := N.pn j l h
    exact ⟨by rw [← out h2]; exact h1, s, h2, h3⟩
theorem own_back {H : Hp} {σ : L2.St} {ρ : En} {vs : List Nat} (hv : ∀ i ∈ vs, ∀ s, ρ[i]? ≠ some (some s)) {a : Addr} : OwnAt H (L2.wipe σ vs) ρ a ↔ OwnAt H σ ρ a :=
  ⟨fun ⟨j, s, v, h1, h2, h3⟩ => ⟨j, s, v, h1, by rw [← wipe_out fun z => hv j z s h1]; exact h2, h3⟩, fun ⟨j, s, v, h1, h2, h3⟩ => ⟨j, s, v, h1, by rw [wipe_out fun z => hv j z s h1]; exact h2, h3⟩⟩
end
/-! ### a new value -/
abbrev MN := En → Rs (Val × En)
theorem lessL_nil {A : Rg} : lessL A [] = A := by
  funext a
  exact propext ⟨fun h => h.1, fun h => ⟨h, fun z => nomatch z⟩⟩
theorem lessL_app {A : Rg} {L M : List Addr} : lessL (lessL A L) M = lessL A (L ++ M) := by
  funext a
  refine propext ⟨fun h => ⟨h.1.1, fun z => (List.mem_append.mp z).elim h.1.2 h.2⟩, fun h => ⟨⟨h.1, fun z => h.2 (List.mem_append_left _ z)⟩, fun z => h.2 (List.mem_append_right _ z)⟩⟩
theorem less_eq {A : Rg} {l : Addr} : A.less l = lessL A [l] := by
  funext a
  exact propext ⟨fun h => ⟨h.1, fun z => h.2 (List.mem_singleton.mp z)⟩, fun h => ⟨h.1, fun z => h.2 (List.mem_singleton.mpr z)⟩⟩
theorem moreL_lessL {A : Rg} {L : List Addr} (h : ∀ a ∈ L, A a) : moreL (lessL A L) L = A := by
  funext a
  refine propext ⟨fun z => z.elim (·.1) (h a), fun z => ?_⟩
  by_cases q : a ∈ L
  · exact .inr q
  · exact .inl ⟨z, q⟩
/-- nothing but what is new stands outside of the region -/
structure Gm (C : Cn) (σ : L2.St) (A : Rg) (H : Hp) (ρ : En) (v : V) (x : Val) (σ' : L2.St) (H' : Hp) (ρ' : En) : Prop where
  o : ∀ a, OwnAt H' σ' ρ' a → OwnAt H σ ρ a ∨ Fz H a
  k : ∀ a o, NT o → H a = some o → ¬ OwnAt H σ ρ a → H' a = some o
  f : ∀ a, Fz H' a → Fz H a
  r : ro C (lessL A (fl H' v x)) H' v x
  n : (fl H' v x).Nodup
  d : ∀ a ∈ fl H' v x, Fz H a ∧ ¬ OwnAt H' σ' ρ' a
abbrev Gn (C : Cn) (σ : L2.St) (A : Rg) (H : Hp) (ρ : En) (v : V) (x : Val) (H' : Hp) (ρ' : En) : Prop := Gm C σ A H ρ v x σ H' ρ'
def SN (C : Cn) (E : XK) (m : MN) : TE := fun σ H Q => ∃ B A ρ, Now C B A H σ ρ ∧ (m ρ).wp (fun x => ∀ v H', Now C B (lessL A (fl H' v x.1)) H' σ x.2 → Gn C σ A H ρ v x.1 H' x.2 → Q v H') (EXe C E B A H σ ρ)
section
variable {X : Cx} {C : Cn} {E E0 : XK} {B : Bs} {A A' : Rg} {H H' H1 : Hp} {σ : L2.St} {ρ ρ' ρ1 : En} {v : V} {x : Val}
theorem Gm.g {σ' : L2.St} (N : Now C B A H σ ρ) (n : Gm C σ A H ρ v x σ' H' ρ') : Gr A H (lessL A (fl H' v x)) H' := fun a o t h e => ⟨⟨h, fun z => (n.d a z).1.no e t⟩, n.k a o t e fun z => (N.own z).1 h⟩
theorem Gm.gd (N : Now C B A H σ ρ) (n : Gn C σ A H ρ v x H' ρ') : Gd σ A H ρ H' ρ' := ⟨(n.g N).trans gr_lessL, n.o, n.k, n.f⟩
theorem Gm.tr (g1 : Gd σ A H ρ H1 ρ1) (n : Gn C σ A H1 ρ1 v x H' ρ') : Gn C σ A H ρ v x H' ρ' :=
  ⟨fun a h => (n.o a h).elim (g1.o a) fun z => .inr (g1.f a z), fun a o t h z => n.k a o t (g1.k a o t h z) fun y => (g1.o a y).elim z fun w => w.no h t, fun a h => g1.f a (n.f a h), n.r, n.n, fun a h => ⟨g1.f a (n.d a h).1, (n.d a h).2⟩⟩
/-- given away at once -/
theorem Gm.join (N : Now C B A H σ ρ) (N' : Now C B (lessL A (fl H' v x)) H' σ ρ') (n : Gn C σ A H ρ v x H' ρ') : Now C B A H' σ ρ' ∧ rep C A H' v x.melt := by
  have hA : ∀ a ∈ fl H' v x, A a := fun a h => N.fr a (n.d a h).1
  refine ⟨N'.frame gr_lessL (fun a h => ⟨rfl, fun z => ?_⟩) (fun q h => (N'.fr q h).1) N.le N'.kp N'.tb N'.fe, ro.melt gr_lessL n.r hA⟩
  by_cases q : a ∈ fl H' v x
  · exact (n.d a q).2 h
  · exact (N'.own h).1 ⟨z, q⟩
theorem fl_nodup_fz (h : x.isO = false) : (fl H' v x).Nodup := by rw [fl_fz h]; exact List.nodup_nil
/-- a frozen value -/
theorem Gm.fz (g : Gd σ A H ρ H' ρ') (r : rep C A H' v x) : Gn C σ A H ρ v x H' ρ' :=
  ⟨g.o, g.k, g.f, by rw [fl_fz r.fz, lessL_nil]; exact r.ro, by rw [fl_fz r.fz]; exact List.nodup_nil, fun a h => by rw [fl_fz r.fz] at h; cases h⟩
theorem SN.toE {m : ME} : ∀ σ H Q, SN C E m σ H Q → SE C E m σ H Q := fun σ H Q ⟨B, A, ρ, N, hm⟩ =>
  ⟨B, A, ρ, N, Rs.wp_mono hm (fun x hx v H' N' g' r' => hx v H' (by rw [fl_fz r'.fz, lessL_nil]; exact N') (.fz g' r')) fun _ _ _ _ h => h⟩
/-- an expression with a frozen value -/
theorem yn_fz {e : Expr} {m : ME} (h : PE X e (SE C E m)) : PE X e (SN C E m) := PE.imp h SN.toE
def meltM (m : MN) : ME := fun ρ => m ρ >>= fun x => .ok (x.1.melt, x.2)
theorem SE.ofN {m : MN} : ∀ σ H Q, SE C E (meltM m) σ H Q → SN C E m σ H Q := fun σ H Q ⟨B, A, ρ, N, hm⟩ =>
  ⟨B, A, ρ, N, Rs.wp_mono (Rs.wp_bind hm) (fun x hx v H' N' n => by
    obtain ⟨N2, r⟩ := n.join N N'
    exact hx v H' N2 (n.gd N) r) fun _ _ _ _ h => h⟩
/-- a new value, given away -/
theorem y_newN {e : Expr} {m : MN} (h : PE X e (SN C E m)) : PE X e (SE C E (meltM m)) := PE.imp h SE.ofN
/-- name = a new value, which the def will change -/
def newT (i : Nat) (m : MN) : MS := fun ρ => m ρ >>= fun x => if freeS x.2 i = true ∧ x.1.isO = true then .ok (.nx (x.2.set i (some (.ob false x.1)))) else .bad
theorem ys_newT {i : Nat} {st : Stmt} {m : MN} (h : PS X st (tAsg (SN C E m) (gName i))) : PS X st (SS C E (newT i m)) := PS.imp h fun D σ H ⟨B, A, ρ, N, hm⟩ =>
  ⟨B, A, ρ, N, Rs.wp_mono (Rs.wp_bind hm) (fun x hx v H' N' n => by
    obtain ⟨⟨hf, ho⟩, hx⟩ := ite_bad hx
    exact hx _ _ H' (N'.own' hf ⟨ho, n.r, n.n, fun a ha z => z.2 ha⟩ (fun a ha => N.fe a (n.d a ha).1) fun a ha => (n.d a ha).2) (n.g N)) EXe.of⟩
/-! a new list -/
abbrev ML := En → Rs (List Val × En)
def ownL (m : ML) : MN := fun ρ => m ρ >>= fun x => .ok (.olst x.1, x.2)
def SF (C : Cn) (E : XK) (m : ML) : TE := SN C E (ownL m)
def listM (m : ML) : ME := fun ρ => m ρ >>= fun x => .ok (.lst (melts x.1), x.2)
theorem y_new {e : Expr} {m : ML} (h : PE X e (SF C E m)) : PE X e (SE C E (listM m)) := PE.imp h fun σ H Q ⟨B, A, ρ, N, hm⟩ => SE.ofN σ H Q ⟨B, A, ρ, N, by
  unfold meltM ownL
  unfold listM at hm
  have e : ∀ xs : List Val, (Val.olst xs).melt = .lst (melts xs) := fun xs => by unfold Val.melt; rfl
  exact Rs.bind_wp (Rs.bind_wp (Rs.wp_mono (Rs.wp_bind hm) (fun x hx v H' N' g' r' => hx v H' N' g' (by rw [← e]; exact r')) fun _ _ _ _ h => h))⟩
def newS (i : Nat) (m : ML) : MS := fun ρ => m ρ >>= fun x => if freeS x.2 i = true then .ok (.nx (x.2.set i (some (.ow false x.1)))) else .bad
theorem ys_new {i : Nat} {st : Stmt} {m : ML} (h : PS X st (tAsg (SF C E m) (gName i))) : PS X st (SS C E (newS i m)) := PS.imp (ys_newT h) fun D σ H ⟨B, A, ρ, N, hm⟩ =>
  ⟨B, A, ρ, N, by
    unfold newT ownL
    unfold newS at hm
    refine Rs.bind_wp (Rs.bind_wp (Rs.wp_mono (Rs.wp_bind hm) (fun x hx => ?_) fun _ _ _ _ h => h))
    obtain ⟨hf, hx⟩ := ite_bad hx
    show ((if freeS x.2 i = true ∧ (Val.olst x.1).isO = true then .ok (.nx (x.2.set i (some (.ob false (.olst x.1))))) else .bad : Rs Out)).wp _ _
    rw [if_pos ⟨hf, rfl⟩]
    exact hx⟩
theorem not_own_new (N : Now C B A H σ ρ) {p : Addr} {o : HO} (hp : H p = none) : ¬ OwnAt (upd H p o) σ ρ p := fun z => by
  obtain ⟨j, s, v, h1, h2, h3⟩ := z
  obtain ⟨_, e⟩ := N.env.frame (A' := A) (.same (same_new (o := o) hp)) fun a h => by
    obtain ⟨n, u, q1, q2⟩ := N.own h
    exact ⟨by rw [q1]; exact same_new hp a u q1, n⟩
  rw [e j s v h1 h2] at h3
  obtain ⟨_, u, e1, _⟩ := N.own ⟨j, s, v, h1, h2, h3⟩
  rw [hp] at e1; cases e1
theorem gn_new (N1 : Now C B A H1 σ ρ1) {z : List Val} {p : Addr} {vs : List V} (hp : H1 p = none) (r : reps C A H1 vs z) :
    fl (upd H1 p (.lst vs)) (.ref p) (.olst z) = [p] ∧ Now C B (lessL A (fl (upd H1 p (.lst vs)) (.ref p) (.olst z))) (upd H1 p (.lst vs)) σ ρ1 ∧ Gn C σ A H1 ρ1 (.ref p) (.olst z) (upd H1 p (.lst vs)) ρ1 := by
  have gp : Gr A H1 (A.less p) (upd H1 p (.lst vs)) := fun a u _ n h => ⟨⟨n, ne_of_none h hp⟩, same_new hp a u h⟩
  have r' := reps.gr gp r
  have ef : fl (upd H1 p (.lst vs)) (.ref p) (.olst z) = [p] := by rw [fl_olst upd_same, fls_fz r']
  have N2 := N1.cut (o := .lst vs) hp nt
  have g2 := Gd.same N1 (same_new (o := .lst vs) hp)
  refine ⟨ef, by rw [ef, ← less_eq]; exact N2, ⟨g2.o, g2.k, g2.f, by rw [ef, ← less_eq]; exact ro_olst.mpr ⟨p, vs, rfl, upd_same, r'.ros⟩, by rw [ef]; simp, fun a ha => ?_⟩⟩
  rw [ef] at ha
  rw [List.mem_singleton.mp ha]
  exact ⟨.of hp, not_own_new N1 hp⟩
/-- a new list of frozen values -/
theorem new_rd {z : List Val} {Q : VK} (N1 : Now C B A H1 σ ρ1) (g1 : Gd σ A H ρ H1 ρ1)
    (hz : ∀ v H', Now C B (lessL A (fl H' v (.olst z))) H' σ ρ1 → Gn C σ A H ρ v (.olst z) H' ρ1 → Q v H') : ∀ p vs, H1 p = none → reps C A H1 vs z → Q (.ref p) (upd H1 p (.lst vs)) := fun p vs hp r => by
  obtain ⟨_, N2, n⟩ := gn_new N1 hp r
  exact hz _ _ N2 (Gm.tr g1 n)
variable {e a b tg : Expr} {ma mb : ME} {ms mk : MS} {mi : MI} {es : List Expr} {ml : MA} {mf : ML} {pos : Pos}
theorem sf_of {m : ML} {σ : L2.St} {H : Hp} {Q : VK} (h : SF C E m σ H Q) : ∃ B A ρ, Now C B A H σ ρ ∧ (m ρ).wp (fun x => ∀ v H', Now C B (lessL A (fl H' v (.olst x.1))) H' σ x.2 → Gn C σ A H ρ v (.olst x.1) H' x.2 → Q v H') (EXe C E B A H σ ρ) := by
  obtain ⟨B, A, ρ, N, hm⟩ := h
  exact ⟨B, A, ρ, N, Rs.wp_bind hm⟩
def dispF (a : MA) : ML := fun ρ => a ρ >>= fun x => if x.1.length ≤ sizeLine then .ok (x.1, x.2) else .bad
theorem yf_lst (h : PA X es (SA C E ml)) : PE X (.List es pos) (SF C E (dispF ml)) := PE.imp (pe_lst h) fun σ H Q hs => by
  obtain ⟨B, A, ρ, N, hm⟩ := sf_of hs
  exact ⟨B, A, ρ, N, Rs.wp_mono (Rs.wp_bind hm) (fun x hx vs H1 N1 g1 r1 => by
    obtain ⟨hz, hx⟩ := ite_bad hx
    exact ⟨by rw [r1.len]; exact hz, fun p hp => new_rd N1 g1 hx p vs hp r1⟩) fun _ _ _ _ h => h⟩
/-- a built-in that gives a new list -/
def CfV (C : Cn) (r : List V → Hp → VK → Prop) (f : List Val → Option (List Val)) : Prop := ∀ (A : Rg) (H : Hp) (us : List V) (xs : List Val) (z : List Val), Fq A H → reps C A H us xs → f xs = some z → ∀ Q : VK, (∀ p vs, H p = none → reps C A H vs z → Q (.ref p) (upd H p (.lst vs))) → r us H Q
def cfM (f : List Val → Option (List Val)) (a : MA) : ML := fun ρ => a ρ >>= fun x => Rs.opt (f x.1) >>= fun z => .ok (z, x.2)
theorem cf_rd {r : List V → Hp → VK → Prop} {f : List Val → Option (List Val)} (hv : CfV C r f) : ∀ σ H Q, SF C E (cfM f ml) σ H Q → tCB r (SA C E ml) σ H Q := fun σ H Q hs => by
  obtain ⟨B, A, ρ, N, hm⟩ := sf_of hs
  exact ⟨B, A, ρ, N, Rs.wp_mono (Rs.wp_bind hm) (fun x hx us H1 N1 g1 r1 => by
    obtain ⟨z, e, hz⟩ := Rs.wp_opt (Rs.wp_bind hx)
    exact hv A H1 us x.1 z N1.fr r1 e Q (new_rd N1 g1 hz)) fun _ _ _ _ h => h⟩
/-- an operator that gives a new list -/
def OfV (C : Cn) (r : R2) (f : Val → Val → Option (List Val)) : Prop := ∀ (A : Rg) (H : Hp) (u v : V) (x y : Val) (z : List Val), Fq A H → rep C A H u x → rep C A H v y → f x y = some z → ∀ Q : VK, (∀ p vs, H p = none → reps C A H vs z → Q (.ref p) (upd H p (.lst vs))) → r u v H Q
def bfM (f : Val → Val → Option (List Val)) (a b : ME) : ML := fun ρ => a ρ >>= fun x => b x.2 >>= fun y => Rs.opt (f x.1 y.1) >>= fun z => .ok (z, y.2)
theorem bf_rd {r : R2} {f : Val → Val → Option (List Val)} (hv : OfV C r f) : ∀ σ H Q, SF C E (bfM f ma mb) σ H Q → tOp r (SE C E ma) (SE C E mb) σ H Q := fun σ H Q hs => by
  obtain ⟨B, A, ρ, N, hm⟩ := sf_of hs
  exact ⟨B, A, ρ, N, Rs.wp_mono (Rs.wp_bind hm) (fun x hx u H1 N1 g1 r1 => ⟨B, A, x.2, N1, Rs.wp_mono (Rs.wp_bind hx) (fun y hy v H2 N2 g2 r2 => by
    obtain ⟨z, e, hz⟩ := Rs.wp_opt (Rs.wp_bind hy)
    exact hv A H2 u v x.1 y.1 z N2.fr (rep.gr g2.g r1) r2 e Q (new_rd N2 (g1.trans g2) hz)) (EXe.tr g1)⟩) fun _ _ _ _ h => h⟩
/-! ### comprehensions -/
def noX {α : Type} (r : Rs α) : Rs α := match r with | .ok x => .ok x | _ => .bad
theorem noX_wp {α : Type} {r : Rs α} {Q : α → Prop} {E E' : XW} (h : (noX r).wp Q E) : r.wp Q E' := by
  cases r with
  | ok x => exact h
  | exc c ns vs ρ => exact h.elim
  | bad => exact h
def compL (vs : List Nat) (t : MT) (c : MB) (e : MN) : List Val → En → Rs (List Val × En)
  | [], ρ => .ok ([], ρ)
  | x :: xs, ρ => Rs.opt (t x (wipeE ρ vs)) >>= fun ρ1 => noX (c ρ1) >>= fun k =>
      if k.1 = true then noX (e k.2) >>= fun y => if vs.all (freeS y.2) = true then compL vs t c e xs (wipeE y.2 vs) >>= fun r => .ok (y.1 :: r.1, r.2) else .bad
      else if vs.all (freeS k.2) = true then compL vs t c e xs (wipeE k.2 vs) else .bad
def compF (vs : List Nat) (mi : MI) (t : MT) (c : MB) (e : MN) : ML := fun ρ => mi ρ >>= fun x => if x.1.length < sizeLine ∧ vs.all (freeS x.2) = true then compL vs t c e x.1 (wipeE x.2 vs) else .bad
def yesB : MB := fun ρ => .ok (true, ρ)
theorem sb_yes {E : XK} : ∀ σ H Q, SB C E yesB σ H Q → tYes σ H Q := fun σ H Q ⟨B, A, ρ, N, hm⟩ => hm H N (.refl _ _ _ _)
theorem compL_out {vs : List Nat} {t : MT} {c : MB} {e : MN} {E : XW} {Q : List Val × En → Prop} : ∀ {xs : List Val} {ρ : En}, (∀ i ∈ vs, ∀ s, ρ[i]? ≠ some (some s)) → (compL vs t c e xs ρ).wp Q E → (compL vs t c e xs ρ).wp (fun r => Q r ∧ ∀ i ∈ vs, ∀ s, r.2[i]? ≠ some (some s)) E
  | [], ρ, h, hw => ⟨hw, h⟩
  | x :: xs, ρ, h, hw => by
    unfold compL at hw ⊢
    refine Rs.bind_wp (Rs.wp_mono (Rs.wp_bind hw) (fun ρ1 h1 => Rs.bind_wp (Rs.wp_mono (Rs.wp_bind h1) (fun k hk => ?_) fun _ _ _ _ h => h)) fun _ _ _ _ h => h)
    by_cases hb : k.1 = true
    · rw [if_pos hb] at hk ⊢
      refine Rs.bind_wp (Rs.wp_mono (Rs.wp_bind hk) (fun y hy => ?_) fun _ _ _ _ h => h)
      obtain ⟨hf, hy⟩ := ite_bad hy
      rw [if_pos hf]
      exact Rs.bind_wp (Rs.wp_mono (compL_out (wipeE_no _) (Rs.wp_bind hy)) (fun r hr => hr) fun _ _ _ _ h => h)
    · rw [if_neg hb] at hk ⊢
      obtain ⟨hf, hk⟩ := ite_bad hk
      rw [if_pos hf]
      exact compL_out (wipeE_no _) hk
theorem wipe_off {σ σ2 : L2.St} {vs is : List Nat} {ρ ρ' : En} (o : Off is (L2.wipe σ vs) σ2 ρ ρ') (hs : ∀ i ∈ is, i ∈ vs) : L2.wipe σ2 vs = L2.wipe σ vs := by
  have w0 : ∀ {τ : L2.St} {i : Nat}, i ∈ vs → i < τ.length → (L2.wipe τ vs)[i]? = some none := fun {τ i} hi hl => by
    have hl' : i < (L2.wipe τ vs).length := by rw [L2.wipe_length]; exact hl
    cases e : (L2.wipe τ vs)[i]? with
    | none => rw [List.getElem?_eq_none_iff] at e; omega
    | some u =>
      cases u with
      | none => rfl
      | some v => exact absurd hi (wipe_some e).2
  apply List.ext_getElem?
  intro i
  have l2 : σ2.length = σ.length := by rw [o.len, L2.wipe_length]
  by_cases hi : i ∈ vs
  · by_cases hl : i < σ.length
    · rw [w0 hi (by omega), w0 hi hl]
    · rw [List.getElem?_eq_none (by rw [L2.wipe_length]; omega), List.getElem?_eq_none (by rw [L2.wipe_length]; omega)]
  · rw [wipe_out hi, o.out i (fun z => hi (hs i z))]
/-- what a turn leaves: nothing but own objects changed, own ones are old or new -/
structure Turn (σ : L2.St) (H : Hp) (ρ : En) (σ' : L2.St) (H' : Hp) (ρ' : En) : Prop where
  o : ∀ a, OwnAt H' σ' ρ' a → OwnAt H σ ρ a ∨ Fz H a
  k : ∀ a o, NT o → H a = some o → ¬ OwnAt H σ ρ a → H' a = some o
  f : ∀ a, Fz H' a → Fz H a
theorem Turn.trans {σ σ1 σ2 : L2.St} {H H1 H2 : Hp} {ρ ρ1 ρ2 : En} (a : Turn σ H ρ σ1 H1 ρ1) (b : Turn σ1 H1 ρ1 σ2 H2 ρ2) : Turn σ H ρ σ2 H2 ρ2 :=
  ⟨fun p h => (b.o p h).elim (a.o p) fun z => .inr (a.f p z), fun p o t h n => b.k p o t (a.k p o t h n) fun z => (a.o p z).elim n fun f => f.no h t, fun p h => a.f p (b.f p h)⟩
theorem Gd.turn {σ : L2.St} {A : Rg} {H H' : Hp} {ρ ρ' : En} (g : Gd σ A H ρ H' ρ') : Turn σ H ρ σ H' ρ' := ⟨g.o, g.k, g.f⟩
theorem Gm.turn {σ' : L2.St} (n : Gm C σ A H ρ v x σ' H' ρ') : Turn σ H ρ σ' H' ρ' := ⟨n.o, n.k, n.f⟩
theorem Turn.slots {σ σ' : L2.St} {H : Hp} {ρ ρ' : En} (h : ∀ a, OwnAt H σ' ρ' a → OwnAt H σ ρ a) : Turn σ H ρ σ' H ρ' := ⟨fun a z => .inl (h a z), fun _ _ _ h _ => h, fun _ h => h⟩
theorem fls_app {H : Hp} : ∀ {us : List V} {xs : List Val} {w : V} {y : Val}, us.length = xs.length → fls H (us ++ [w]) (xs ++ [y]) = fls H us xs ++ fl H w y
  | [], [], w, y, _ => by
    show fls H [w] [y] = fls H [] [] ++ fl H w y
    rw [fls_cons]
    have e : fls H ([] : List V) [] = [] := by unfold fls; rfl
    rw [e]; simp
  | u :: us, x :: xs, w, y, h => by
    show fls H (u :: (us ++ [w])) (x :: (xs ++ [y])) = _
    rw [fls_cons, fls_cons, fls_app (by simpa using h), List.append_assoc]
  | [], _ :: _, _, _, h => by cases h
  | _ :: _, [], _, _, h => by cases h
theorem ros_app {C : Cn} {A : Rg} {H : Hp} : ∀ {xs : List Val} {us : List V} {w : V} {y : Val}, ros C A H us xs → ro C A H w y → ros C A H (us ++ [w]) (xs ++ [y])
  | [], us, w, y, h, k => by unfold ros at h; subst h; exact ros_cons k ros_nil
  | x :: xs, us, w, y, h, k => by
    unfold ros at h
    obtain ⟨v, r, rfl, h1, h2⟩ := h
    exact ros_cons h1 (ros_app h2 k)
/-- a list that grows by a new value -/
theorem Gm.snoc {σ σ3 σw : L2.St} {H1 H' H4 H5 : Hp} {ρ0 ρ' ρ4 ρ5 : En} {D : Addr} {us : List V} {acc : List Val} {w : V} {y : Val} (fD : Fz B.H0 D) (N' : Now C B (lessL A (fl H' (.ref D) (.olst acc))) H' σw ρ') (n : Gm C σ A H1 ρ0 (.ref D) (.olst acc) σw H' ρ') (hD : H' D = some (.lst us)) (tn : Turn σw H' ρ' σ3 H4 ρ4)
    (N5 : Now C B (lessL (lessL A (fl H' (.ref D) (.olst acc))) (fl H5 w y)) H5 σ3 ρ5) (n5 : Gn C σ3 (lessL A (fl H' (.ref D) (.olst acc))) H4 ρ4 w y H5 ρ5) :
    H5 D = some (.lst us) ∧ Now C B (lessL A (fl (upd H5 D (.lst (us ++ [w]))) (.ref D) (.olst (acc ++ [y])))) (upd H5 D (.lst (us ++ [w]))) σ3 ρ5 ∧ Gm C σ A H1 ρ0 (.ref D) (.olst (acc ++ [y])) σ3 (upd H5 D (.lst (us ++ [w]))) ρ5 := by
  have eL : fl H' (.ref D) (.olst acc) = D :: fls H' us acc := fl_olst hD
  obtain ⟨a', vs', e1, e2, r0⟩ := ro_olst.mp n.r
  cases e1
  rw [hD] at e2; cases e2
  have t5 := tn.trans n5.turn
  have nown : ∀ a ∈ fl H' (.ref D) (.olst acc), ¬ OwnAt H5 σ3 ρ5 a := fun a ha z => by
    rcases t5.o a z with q | q
    · exact (n.d a ha).2 q
    · obtain ⟨u, q1, q2⟩ := ro.in n.r ha
      exact q.no q1 q2.1
  have keep5 : ∀ a ∈ fl H' (.ref D) (.olst acc), H5 a = H' a := fun a ha => by
    obtain ⟨u, q1, q2⟩ := ro.in n.r ha
    rw [q1]; exact t5.k a u q2.1 q1 (n.d a ha).2
  have mD : D ∈ fl H' (.ref D) (.olst acc) := by rw [eL]; exact .head _
  have hD5 : H5 D = some (.lst us) := by rw [keep5 D mD]; exact hD
  have oldnew : ∀ a ∈ fl H' (.ref D) (.olst acc), a ∉ fl H5 w y := fun a ha z => by
    obtain ⟨u, q1, q2⟩ := ro.in n.r ha
    exact (n5.d a z).1.no (tn.k a u q2.1 q1 (n.d a ha).2) q2.1
  have neA : ∀ a ∈ fls H' us acc, a ≠ D := fun a ha e => by
    have := n.n
    rw [eL, List.nodup_cons] at this
    exact this.1 (by rw [← e]; exact ha)
  have gU : Gr (lessL (lessL A (fl H' (.ref D) (.olst acc))) (fl H5 w y)) H5 (lessL (lessL A (fl H' (.ref D) (.olst acc))) (fl H5 w y)) (upd H5 D (.lst (us ++ [w]))) := fun a o _ h e => ⟨h, by rw [upd_ne fun z => h.1.2 (by rw [z]; exact mD)]; exact e⟩
  have g05 : Gr (lessL A (fl H' (.ref D) (.olst acc))) H' (lessL (lessL A (fl H' (.ref D) (.olst acc))) (fl H5 w y)) H5 := fun a o t h e => by
    have na : ¬ OwnAt H' σw ρ' a := fun z => (N'.own z).1 h
    exact ⟨⟨h, fun z => (n5.d a z).1.no (tn.k a o t e na) t⟩, t5.k a o t e na⟩
  obtain ⟨rs5, fs5⟩ := ros.frame g05 r0 fun a ha => keep5 a (by rw [eL]; exact .tail _ ha)
  obtain ⟨rs6, fs6⟩ := ros.frame gU rs5 fun a ha => by rw [upd_ne (neA a (by rw [← fs5]; exact ha))]
  have neM : ∀ a ∈ fl H5 w y, a ≠ D := fun a ha e => oldnew D mD (by rw [← e]; exact ha)
  obtain ⟨rw6, fw6⟩ := ro.frame gU n5.r fun a ha => by rw [upd_ne (neM a ha)]
  have eL6 : fl (upd H5 D (.lst (us ++ [w]))) (.ref D) (.olst (acc ++ [y])) = fl H' (.ref D) (.olst acc) ++ fl H5 w y := by
    rw [fl_olst upd_same, fls_app r0.len, fs6, fs5, fw6, eL]; rfl
  have eA : lessL A (fl (upd H5 D (.lst (us ++ [w]))) (.ref D) (.olst (acc ++ [y]))) = lessL (lessL A (fl H' (.ref D) (.olst acc))) (fl H5 w y) := by rw [eL6, lessL_app]
  have fz6 : ∀ a, Fz (upd H5 D (.lst (us ++ [w]))) a → Fz H5 a := fun a h => by
    have e : a ≠ D := fun z => by rw [z] at h; exact h.no upd_same nt
    exact fun u z => h u (by rw [upd_ne e]; exact z)
  have own6 : ∀ a, OwnAt H5 σ3 ρ5 a → (upd H5 D (.lst (us ++ [w]))) a = H5 a ∧ ¬ (lessL (lessL A (fl H' (.ref D) (.olst acc))) (fl H5 w y)) a := fun a z => ⟨by rw [upd_ne (fun e => nown D mD (by rw [← e]; exact z))], (N5.own z).1⟩
  obtain ⟨_, f6⟩ := N5.env.frame gU own6
  rw [eA]
  refine ⟨hD5, N5.frame gU own6 (fun q h => N5.fr q (fz6 q h)) N5.le (fun a o t z h => ?_) (tabs_put N5.tb hD5 nt (fun _ z => nomatch z)) (fun a h => N5.fe a (fz6 a h)), ⟨fun a h => ?_, fun a o t h z => ?_, fun a h => n.f a (t5.f a (fz6 a h)), ?_, ?_, fun a ha => ?_⟩⟩
  · rw [upd_ne (fun e => by rw [e] at h; exact fD.no h t)]
    exact N5.kp a o t z h
  · rcases t5.o a ((ownAt_eq f6).mp h) with q | q
    · exact n.o a q
    · exact .inr (n.f a q)
  · have na : ¬ OwnAt H' σw ρ' a := fun q => (n.o a q).elim z fun w => w.no h t
    rw [upd_ne (fun e => by rw [e] at h; exact (n.d D mD).1.no h t)]
    exact t5.k a o t (n.k a o t h z) na
  · rw [eA]
    exact ro_olst.mpr ⟨D, _, rfl, upd_same, ros_app rs6 rw6⟩
  · rw [eL6]
    exact List.nodup_append.mpr ⟨n.n, n5.n, fun a ha b hb e => oldnew a ha (by rw [e]; exact hb)⟩
  · rw [eL6] at ha
    rw [ownAt_eq f6]
    rcases List.mem_append.mp ha with ha | ha
    · exact ⟨(n.d a ha).1, nown a ha⟩
    · exact ⟨n.f a (tn.f a (n5.d a ha).1), (n5.d a ha).2⟩
theorem lc_rd {me : MN} {wi : TI} {vs is : List Nat} {t : MT} {c : MB} {tt : TT} (hs : ∀ i ∈ is, i ∈ vs) (hw : ∀ σ H R, SI C E mi σ H R → wi σ H R) (ht : ∀ σ H Q, SB C E0 c σ H Q → tt σ H Q) :
    ∀ σ H Q, SF C E (compF vs mi t c me) σ H Q → tLc wi (SG C is t) tt (SN C E0 me) vs σ H Q := fun σ H Q hsf => by
  obtain ⟨B, A, ρ, N, hm⟩ := sf_of hsf
  refine hw _ _ _ ⟨B, A, ρ, N, Rs.wp_mono (Rs.wp_bind hm) (fun x hx J H1 N1 g1 wk => ?_) fun _ _ _ _ h => h⟩
  obtain ⟨⟨hz, hf⟩, hx⟩ := ite_bad hx
  intro D hD
  have hx' := compL_out (wipeE_no _) hx
  have ww : ∀ τ : L2.St, L2.wipe (L2.wipe τ vs) vs = L2.wipe τ vs := fun τ => wipe_off (is := []) (ρ := []) (ρ' := []) ⟨rfl, fun _ _ => rfl, fun _ _ _ h => ⟨(fun z => nomatch z), h⟩⟩ fun _ h => nomatch h
  obtain ⟨ef0, N0, n0⟩ := gn_new N1 (z := []) hD reps_nil
  let Wd : Nat → Hp → Prop := fun i H' => ∃ ρ' us acc, Now C B (lessL A (fl H' (.ref D) (.olst acc))) H' (L2.wipe σ vs) ρ' ∧ Gm C σ A H1 x.2 (.ref D) (.olst acc) (L2.wipe σ vs) H' ρ' ∧ H' D = some (.lst us) ∧ us.length ≤ i ∧
    (compL vs t c me (x.1.drop i) ρ').wp (fun r => (∀ v H', Now C B (lessL A (fl H' v (.olst (acc ++ r.1)))) H' σ r.2 → Gn C σ A H ρ v (.olst (acc ++ r.1)) H' r.2 → Q v H') ∧ ∀ i ∈ vs, ∀ s, r.2[i]? ≠ some (some s)) (EXe C E B A H σ ρ)
  have start : Gm C σ A H1 x.2 (.ref D) (.olst []) (L2.wipe σ vs) (upd H1 D (.lst [])) (wipeE x.2 vs) := ⟨fun a h => n0.o a (own_wipe h), n0.k, n0.f, n0.r, n0.n, fun a h => ⟨(n0.d a h).1, fun z => (n0.d a h).2 (own_wipe z)⟩⟩
  refine ⟨fun i m H' => m = x.1.length - i ∧ i ≤ x.1.length ∧ Wd i H', ⟨x.1.length, by simp, Nat.zero_le _, wipeE x.2 vs, [], [], N0.wipe vs hf, start, upd_same, Nat.zero_le _, by rw [List.drop_zero]; simpa using hx'⟩, ?_⟩
  rintro i m H' ⟨rfl, hi, ρ', us, acc, N', n', hl, hu, hw'⟩
  obtain ⟨w1, w2⟩ := wk _ H' (n'.g N1) N'.fr
  by_cases hlt : i < x.1.length
  · obtain ⟨go, yl⟩ := w1 i x.1[i] (by simp [hlt])
    refine .inr ⟨go, Wd (i + 1), fun H2 w => ⟨x.1.length - (i + 1), by omega, rfl, hlt, w⟩, fun v H2 hy => ?_⟩
    obtain ⟨s2, rv⟩ := yl v H2 hy
    have N2 := N'.same s2
    have tn1 : Turn (L2.wipe σ vs) H' ρ' (L2.wipe σ vs) H2 ρ' := (Gd.same N' s2).turn
    rw [List.drop_eq_getElem_cons hlt] at hw'
    unfold compL at hw'
    obtain ⟨ρ1, e1, hb⟩ := Rs.wp_opt (Rs.wp_bind hw')
    have fr' : vs.all (freeS ρ') = true := by
      rw [List.all_eq_true]
      intro i hi
      have hne : ∀ s, ρ'[i]? ≠ some (some s) := fun s z => by
        obtain ⟨v, h1, _⟩ := N'.env.sl i s z
        exact (wipe_some h1).2 hi
      unfold freeS
      cases e : ρ'[i]? with
      | none =>
        rw [List.getElem?_eq_none_iff] at e
        have e2 := N'.env.len
        rw [L2.wipe_length] at e2
        have h3 := List.all_eq_true.mp hf i hi
        unfold freeS at h3
        have e3 := N1.env.len
        rw [List.getElem?_eq_none (show x.2.length ≤ i by omega)] at h3
        cases h3
      | some u =>
        cases u with
        | none => rfl
        | some s => exact absurd e (hne s)
    have N2w := N2.wipe vs fr'
    rw [ww] at N2w
    refine ⟨B, _, wipeE ρ' vs, x.1[i], ρ1, N2w, rv, e1, fun σ3 N3 o3 => ⟨wipe_off o3 hs, ht _ _ _ ⟨B, _, ρ1, N3, noX_wp (Rs.wp_mono (Rs.wp_bind hb) (fun k hk H4 N4 g4 => ?_) fun _ _ _ _ h => h)⟩⟩⟩
    have tn3 : Turn (L2.wipe σ vs) H' ρ' σ3 H4 k.2 := (tn1.trans (.slots fun a h => own_wipe (σ := L2.wipe σ vs) (by rw [ww]; exact o3.own h))).trans g4.turn
    have keepD : ∀ {H5 : Hp} {ρ5 : En}, Turn (L2.wipe σ vs) H' ρ' σ3 H5 ρ5 → H5 D = some (.lst us) := fun t => t.k D _ nt hl (n'.d D (by rw [fl_olst hl]; exact .head _)).2
    by_cases hk1 : k.1 = true
    · rw [if_pos hk1] at hk
      show if k.1 = true then _ else _
      rw [if_pos hk1]
      refine ⟨B, _, k.2, N4, noX_wp (Rs.wp_mono (Rs.wp_bind hk) (fun y hy w H5 N5 n5 => ?_) fun _ _ _ _ h => h)⟩
      obtain ⟨hf5, hy⟩ := ite_bad hy
      obtain ⟨hD5, N6, n6⟩ := Gm.snoc (N1.fe D (.of hD)) N' n' hl tn3 N5 n5
      refine ⟨us, hD5, by omega, wipeE y.2 vs, us ++ [w], acc ++ [y.1], ?_, ⟨fun a h => n6.o a (own_wipe (σ := σ3) (by rw [wipe_off o3 hs]; exact h)), n6.k, n6.f, n6.r, n6.n, fun a h => ⟨(n6.d a h).1, fun z => (n6.d a h).2 (own_wipe (σ := σ3) (by rw [wipe_off o3 hs]; exact z))⟩⟩, upd_same, by simp; omega, ?_⟩
      · have N7 := N6.wipe vs hf5
        rw [wipe_off o3 hs] at N7
        exact N7
      · exact Rs.wp_mono (Rs.wp_bind hy) (fun r hr => ⟨fun v H' a1 a2 => hr.1 v H' (by rw [List.append_assoc] at a1; exact a1) (by rw [List.append_assoc] at a2; exact a2), hr.2⟩) fun _ _ _ _ h => h
    · rw [if_neg hk1] at hk
      show if k.1 = true then _ else _
      rw [if_neg hk1]
      obtain ⟨hf5, hk⟩ := ite_bad hk
      have N6 := N4.wipe vs hf5
      rw [wipe_off o3 hs] at N6
      have t6 : Turn (L2.wipe σ vs) H' ρ' (L2.wipe σ vs) H4 (wipeE k.2 vs) := tn3.trans (.slots fun a h => own_wipe (σ := σ3) (by rw [wipe_off o3 hs]; exact h))
      have g6 : Gr (lessL A (fl H' (.ref D) (.olst acc))) H' (lessL A (fl H' (.ref D) (.olst acc))) H4 := fun a o t h e => ⟨h, t6.k a o t e fun z => (N'.own z).1 h⟩
      have k6 : ∀ a ∈ fl H' (.ref D) (.olst acc), H4 a = H' a := fun a ha => by
        obtain ⟨u, q1, q2⟩ := ro.in n'.r ha
        rw [q1]; exact t6.k a u q2.1 q1 (n'.d a ha).2
      obtain ⟨r6, e6⟩ := ro.frame g6 n'.r k6
      refine ⟨wipeE k.2 vs, us, acc, by rw [e6]; exact N6, ⟨fun a h => (t6.o a h).elim (n'.o a) fun z => .inr (n'.f a z), fun a o t h z => t6.k a o t (n'.k a o t h z) fun q => (n'.o a q).elim z fun w => w.no h t, fun a h => n'.f a (t6.f a h), by rw [e6]; exact r6, by rw [e6]; exact n'.n, fun a h => ?_⟩, keepD tn3, by omega, hk⟩
      rw [e6] at h
      refine ⟨(n'.d a h).1, fun z => ?_⟩
      rcases t6.o a z with q | q
      · exact (n'.d a h).2 q
      · obtain ⟨u, q1, q2⟩ := ro.in n'.r h
        exact q.no q1 q2.1
  · have e : i = x.1.length := by omega
    subst e
    rw [List.drop_length] at hw'
    obtain ⟨hq, hv⟩ : (∀ v H', Now C B (lessL A (fl H' v (.olst (acc ++ [])))) H' σ ρ' → Gn C σ A H ρ v (.olst (acc ++ [])) H' ρ' → Q v H') ∧ ∀ i ∈ vs, ∀ s, ρ'[i]? ≠ some (some s) := hw'
    rw [List.append_nil] at hq
    exact .inl ⟨w2, hq (.ref D) H' (N'.back hv) (Gm.tr g1 ⟨fun a h => n'.o a ((own_back hv).mpr h), n'.k, n'.f, n'.r, n'.n, fun a h => ⟨(n'.d a h).1, fun z => (n'.d a h).2 ((own_back hv).mpr z)⟩⟩)⟩
theorem y_lc {me : MN} {elt tg iter : Expr} {ifs : List Expr} {scope : Scope} {own : List (Str × Nat)} {pos : Pos} {is : List Nat} {t : MT} {c : MB} {tt : TT} (hc : X.calm = true) (hN : X.N.Nodup) (hi : PI X tg iter (SI C E mi)) (ok : BlkOk X.N X.env.scope scope own) (hs : ∀ i ∈ is, i ∈ own.map (·.2)) (htt : ∀ σ H Q, SB C E0 c σ H Q → tt σ H Q)
    (hg : ∀ (s : Shared) (H : Hp) (D : Addr) (cl : List (Str × Addr)) (fp : List Addr), PG (X.blk s H scope (compEnvC scope cl D X.env) fp) tg (SG C is t)) (ht : ∀ (s : Shared) (H : Hp) (D : Addr) (cl : List (Str × Addr)) (fp : List Addr), PTs (X.blk s H scope (compEnvC scope cl D X.env) fp) ifs tt)
    (he : ∀ (s : Shared) (H : Hp) (D : Addr) (cl : List (Str × Addr)) (fp : List Addr), PE (X.blk s H scope (compEnvC scope cl D X.env) fp) elt (SN C E0 me)) (hf : ∀ x, foldedSetIterable iter X.env x = pure x := by intro _; rfl) :
    PE X (.ListComp elt [⟨tg, iter, ifs, 0⟩] scope pos) (SF C E (compF (own.map (·.2)) mi t c me)) := PE.imp (pe_lc hc hN hi ok hg ht he hf) (lc_rd hs (fun _ _ _ h => h) htt)
end
end Y

set_option Elab.async false
set_option linter.all false
set_option maxRecDepth 100000
set_option maxHeartbeats 4000000
set_option autoImplicit false
/-! W7: own lists read and changed. -/
namespace Y
open PySem L2 Z
section
variable {X : Cx} {C : Cn} {E : XK} {e a b tg : Expr} {ma mb : ME} {ms mk : MS} {mi : MI} {es : List Expr} {ml : MA} {mf : ML} {pos : Pos}
theorem gr_put {A : Rg} {H : Hp} {l : Addr} {o : HO} (n : ¬ A l) : Gr A H A (upd H l o) := fun a u _ k h => ⟨k, by rw [upd_ne (fun z => n (by rw [← z]; exact k))]; exact h⟩
/-- an own list's slot -/
theorem Now.lst {B : Bs} {A : Rg} {H : Hp} {σ : L2.St} {ρ : En} {i : Nat} {p : Bool} {xs : List Val} (N : Now C B A H σ ρ) (h : ρ[i]? = some (some (.ow p xs))) : ∃ l vs, σ[i]? = some (some (.ref l)) ∧ H l = some (.lst vs) ∧ ros C A H vs xs ∧ slr C A H (.ref l) (.ow p xs) ∧ ¬ A l ∧ l ∉ fls H vs xs := by
  obtain ⟨v, h1, h2⟩ := N.slot h
  obtain ⟨o, r, n, d⟩ := h2
  obtain ⟨l, vs, rfl, k, rs⟩ := ro_olst.mp r
  have e := fl_olst (xs := xs) k
  refine ⟨l, vs, h1, k, rs, ⟨o, r, n, d⟩, d l (by rw [e]; exact .head _), ?_⟩
  rw [e] at n
  exact (List.nodup_cons.mp n).1
theorem fls_append {H : Hp} : ∀ {us ws : List V} {xs ys : List Val}, us.length = xs.length → fls H (us ++ ws) (xs ++ ys) = fls H us xs ++ fls H ws ys
  | [], ws, [], ys, _ => by
    have e : fls H ([] : List V) [] = [] := by unfold fls; rfl
    rw [e]; rfl
  | u :: us, ws, x :: xs, ys, h => by
    show fls H (u :: (us ++ ws)) (x :: (xs ++ ys)) = _
    rw [fls_cons, fls_cons, fls_append (by simpa using h), List.append_assoc]
  | [], _, _ :: _, _, h => by cases h
  | _ :: _, _, [], _, h => by cases h
theorem ros.append {A : Rg} {H : Hp} : ∀ {xs : List Val} {vs : List V} {ys : List Val} {ws : List V}, ros C A H vs xs → ros C A H ws ys → ros C A H (vs ++ ws) (xs ++ ys)
  | [], vs, _, _, h, k => by unfold ros at h; subst h; exact k
  | x :: xs, vs, _, _, h, k => by
    unfold ros at h
    obtain ⟨v, r, rfl, h1, h2⟩ := h
    exact ros_cons h1 (ros.append h2 k)
/-- the list of an own slot gets other elements, the own ones as they were -/
theorem Now.putL {B : Bs} {A : Rg} {H : Hp} {σ : L2.St} {ρ : En} {i : Nat} {p : Bool} {l : Addr} {xs ys : List Val} {vs ws : List V} (N : Now C B A H σ ρ) (h : ρ[i]? = some (some (.ow p xs))) (hσ : σ[i]? = some (some (.ref l))) (hl : H l = some (.lst vs)) (nl : l ∉ fls H vs xs) (s0 : slr C A H (.ref l) (.ow p xs))
    (r : ∀ H', (∀ a, a ≠ l → H' a = H a) → ros C A H' ws ys ∧ fls H' ws ys = fls H vs xs) : Now C B A (upd H l (.lst ws)) σ (ρ.set i (some (.ow p ys))) ∧ Gd σ A H ρ (upd H l (.lst ws)) (ρ.set i (some (.ow p ys))) := by
  obtain ⟨r1, r2⟩ := r (upd H l (.lst ws)) fun a n => upd_ne n
  have e0 : fl H (.ref l) (.olst xs) = l :: fls H vs xs := fl_olst hl
  have e1 : fl (upd H l (.lst ws)) (.ref l) (.olst ys) = fl H (.ref l) (.olst xs) := by rw [fl_olst upd_same, r2, e0]
  obtain ⟨_, _, n, d⟩ := s0
  refine N.put (s := .ow p xs) (s' := .ow p ys) (l := l) h hσ (by show l ∈ fl H (.ref l) (.olst xs); rw [e0]; exact .head _) nt rfl rfl ⟨rfl, ro_olst.mpr ⟨l, ws, rfl, upd_same, r1⟩, by rw [e1]; exact n, by rw [e1]; exact d⟩ e1
/-- what stays where the list itself changes -/
theorem ros.keep {A : Rg} {H H' : Hp} {l : Addr} {xs : List Val} {vs : List V} (nA : ¬ A l) (nl : l ∉ fls H vs xs) (k : ∀ a, a ≠ l → H' a = H a) (r : ros C A H vs xs) : ros C A H' vs xs ∧ fls H' vs xs = fls H vs xs :=
  ros.frame (fun a o _ h e => ⟨h, by rw [k a (fun z => nA (by rw [← z]; exact h))]; exact e⟩) r fun a ha => k a (fun z => nl (by rw [← z]; exact ha))
theorem rep.keep {A : Rg} {H H' : Hp} {l : Addr} {x : Val} {v : V} (nA : ¬ A l) (k : ∀ a, a ≠ l → H' a = H a) (r : rep C A H v x) : rep C A H' v x :=
  rep.gr (fun a o _ h e => ⟨h, by rw [k a (fun z => nA (by rw [← z]; exact h))]; exact e⟩) r
theorem reps.keep {A : Rg} {H H' : Hp} {l : Addr} {x : List Val} {v : List V} (nA : ¬ A l) (k : ∀ a, a ≠ l → H' a = H a) (r : reps C A H v x) : reps C A H' v x :=
  reps.gr (fun a o _ h e => ⟨h, by rw [k a (fun z => nA (by rw [← z]; exact h))]; exact e⟩) r
/-- x.append(e) -/
def appS (i : Nat) (m : ME) : MS := fun ρ => match ρ[i]? with
  | some (some (.ob _ (.olst _))) => m ρ >>= fun x => match x.2[i]? with
    | some (some (.ob p (.olst xs))) => if xs.length < sizeLine then .ok (.nx (x.2.set i (some (.ow p (xs ++ [x.1]))))) else .bad
    | _ => .bad
  | _ => .bad
theorem ys_app {i : Nat} {st : Stmt} (hK : X.K = C.K) (h : PS X st (tDrop (tBM X.K "list" rAppend (tVar i) (tCons (SE C E ma) tNil)))) : PS X st (SS C E (appS i ma)) := PS.imp h fun D σ H ⟨B, A, ρ, N, hm⟩ => by
  unfold appS at hm
  split at hm
  · rename_i p0 xs0 h0
    obtain ⟨l, vs, hσ, hl, _⟩ := N.lst h0
    refine ⟨_, hσ, .inl ⟨rfl, vs, SqL.of hl⟩, B, A, ρ, N, Rs.wp_mono (Rs.wp_bind hm) (fun x hx v H1 N1 g1 r1 => ?_) EXe.of⟩
    split at hx
    · rename_i p xs h1
      obtain ⟨hz, hx⟩ := ite_bad hx
      obtain ⟨l', ws, hσ', hl', rs, s0, nA, nl⟩ := N1.lst h1
      rw [hσ] at hσ'; cases hσ'
      refine ⟨l, ws, v, rfl, rfl, hl', by rw [rs.len]; exact hz, ?_⟩
      obtain ⟨N2, g2⟩ := N1.putL (ys := xs ++ [x.1]) (ws := ws ++ [v]) h1 hσ hl' nl s0 fun H' k => by
        obtain ⟨q1, q2⟩ := rs.keep nA nl k
        refine ⟨q1.append (ros_cons (rep.keep nA k r1).ro ros_nil), ?_⟩
        rw [fls_append rs.len, q2, fls_fz (reps_cons (rep.keep nA k r1) reps_nil), List.append_nil]
      exact hx A σ _ N2 (g1.g.trans g2.g)
    · exact hx.elim
  · exact hm.elim
/-- x.extend(e), e a list -/
def extS (i : Nat) (m : ME) : MS := fun ρ => match ρ[i]? with
  | some (some (.ob _ (.olst _))) => m ρ >>= fun x => match x.2[i]?, x.1 with
    | some (some (.ob p (.olst xs))), .lst ys => if xs.length + ys.length ≤ sizeLine then .ok (.nx (x.2.set i (some (.ow p (xs ++ ys))))) else .bad
    | _, _ => .bad
  | _ => .bad
theorem ys_ext {i : Nat} {st : Stmt} (hK : X.K = C.K) (h : PS X st (tDrop (tBM X.K "list" rExtend (tVar i) (tCons (SE C E ma) tNil)))) : PS X st (SS C E (extS i ma)) := PS.imp h fun D σ H ⟨B, A, ρ, N, hm⟩ => by
  unfold extS at hm
  split at hm
  · rename_i p0 xs0 h0
    obtain ⟨l, vs, hσ, hl, _⟩ := N.lst h0
    refine ⟨_, hσ, .inl ⟨rfl, vs, SqL.of hl⟩, B, A, ρ, N, Rs.wp_mono (Rs.wp_bind hm) (fun x hx v H1 N1 g1 r1 => ?_) EXe.of⟩
    split at hx
    · rename_i p xs ys h1 h2
      obtain ⟨hz, hx⟩ := ite_bad hx
      obtain ⟨l', ws, hσ', hl', rs, s0, nA, nl⟩ := N1.lst h1
      rw [hσ] at hσ'; cases hσ'
      rw [h2] at r1
      obtain ⟨b, us, rfl, nb, hb, rb⟩ := rep_lst.mp r1
      refine ⟨l, b, ws, us, rfl, rfl, hl', hb, by rw [rs.len, rb.len]; exact hz, ?_⟩
      obtain ⟨N2, g2⟩ := N1.putL (ys := xs ++ ys) (ws := ws ++ us) h1 hσ hl' nl s0 fun H' k => by
        obtain ⟨q1, q2⟩ := rs.keep nA nl k
        refine ⟨q1.append (reps.keep nA k rb).ros, ?_⟩
        rw [fls_append rs.len, q2, fls_fz (reps.keep nA k rb), List.append_nil]
      exact hx A σ _ N2 (g1.g.trans g2.g)
    · exact hx.elim
  · exact hm.elim
/-! x[k] = e, what stood there frozen -/
theorem ros.at {A : Rg} {H : Hp} : ∀ {xs : List Val} {vs : List V} {n : Nat} {x : Val}, ros C A H vs xs → xs[n]? = some x → ∃ v, vs[n]? = some v ∧ ro C A H v x
  | [], _, _, _, _, e => by simp at e
  | y :: ys, vs, n, x, k, e => by
    unfold ros at k
    obtain ⟨u, r, rfl, h1, h2⟩ := k
    cases n with
    | zero => simp at e; subst e; exact ⟨u, rfl, h1⟩
    | succ n => simpa using ros.at h2 (by simpa using e)
theorem ros.set {A : Rg} {H : Hp} {v : V} {x z : Val} (h : rep C A H v x) (hz : z.isO = false) : ∀ {xs : List Val} {vs : List V} {n : Nat}, ros C A H vs xs → xs[n]? = some z → ros C A H (vs.set n v) (xs.set n x) ∧ fls H (vs.set n v) (xs.set n x) = fls H vs xs
  | [], _, _, _, e => by simp at e
  | y :: ys, vs, n, k, e => by
    unfold ros at k
    obtain ⟨u, r, rfl, h1, h2⟩ := k
    cases n with
    | zero =>
      simp at e; subst e
      refine ⟨ros_cons h.ro h2, ?_⟩
      show fls H (v :: r) (x :: ys) = _
      rw [fls_cons, fls_cons, fl_fz h.fz, fl_fz hz]
    | succ n =>
      obtain ⟨q1, q2⟩ := ros.set h hz h2 (by simpa using e)
      refine ⟨ros_cons h1 q1, ?_⟩
      show fls H (u :: r.set n v) (y :: ys.set n x) = _
      rw [fls_cons, fls_cons, q2]
/-- x[k] = e -/
def setS (i : Nat) (mk : ME) (m : ME) : MS := fun ρ => m ρ >>= fun x => match x.2[i]? with
  | some (some (.ob _ (.olst _))) => mk x.2 >>= fun k => match k.2[i]?, k.1 with
    | some (some (.ob p (.olst xs))), .int j => match ixN xs.length j with
      | some n => match xs[n]? with
        | some z => if z.isO = false then .ok (.nx (k.2.set i (some (.ow p (xs.set n x.1))))) else .bad
        | none => .bad
      | none => .bad
    | _, _ => .bad
  | _ => .bad
theorem ys_set {i : Nat} {mk' : ME} {st : Stmt} (h : PS X st (tAsg (SE C E ma) (gSub (tVar i) (SE C E mk') rSetL))) : PS X st (SS C E (setS i mk' ma)) := PS.imp h fun D σ H ⟨B, A, ρ, N, hm⟩ =>
  ⟨B, A, ρ, N, Rs.wp_mono (Rs.wp_bind hm) (fun x hx v H1 N1 g1 r1 => by
    split at hx
    · rename_i p0 xs0 h0
      obtain ⟨l, vs, hσ, hl, _⟩ := N1.lst h0
      refine ⟨_, hσ, B, A, x.2, N1, Rs.wp_mono (Rs.wp_bind hx) (fun k hk u H2 N2 g2 r2 => ?_) (EXe.of)⟩
      split at hk
      · rename_i p xs j h1 h2
        split at hk
        · rename_i n hn
          split at hk
          · rename_i z hz
            obtain ⟨ho, hk⟩ := ite_bad hk
            obtain ⟨l', ws, hσ', hl', rs, s0, nA, nl⟩ := N2.lst h1
            rw [hσ] at hσ'; cases hσ'
            rw [h2] at r2
            refine ⟨l, ws, j, n, rfl, rep_int.mp r2, hl', by rw [rs.len]; exact hn, ?_⟩
            obtain ⟨N3, g3⟩ := N2.putL (ys := xs.set n x.1) (ws := ws.set n v) h1 hσ hl' nl s0 fun H' k => by
              obtain ⟨q1, q2⟩ := rs.keep nA nl k
              obtain ⟨q3, q4⟩ := ros.set (rep.keep nA k (rep.gr g2.g r1)) ho q1 hz
              exact ⟨q3, q4.trans q2⟩
            exact hk A σ _ N3 ((g1.trans g2).g.trans g3.g)
          · exact hk.elim
        · exact hk.elim
      · exact hk.elim
    · exact hx.elim) EXe.of⟩
theorem reps.at {A : Rg} {H : Hp} {xs : List Val} {vs : List V} {j : Int} {x : Val} (r : reps C A H vs xs) (h : atI xs j = some x) : ∃ v, atI vs j = some v ∧ rep C A H v x := by
  unfold atI at h ⊢
  rw [r.len]
  cases e : ixN xs.length j with
  | none => rw [e] at h; cases h
  | some n =>
    rw [e] at h
    exact wk_list.paired_at' r.pair h
theorem ros.atI {A : Rg} {H : Hp} {xs : List Val} {vs : List V} {j : Int} {x : Val} (r : ros C A H vs xs) (h : L2.atI xs j = some x) : ∃ v, L2.atI vs j = some v ∧ ro C A H v x := by
  unfold L2.atI at h ⊢
  rw [r.len]
  cases e : ixN xs.length j with
  | none => rw [e] at h; cases h
  | some n =>
    rw [e] at h
    exact ros.at r h
/-- x[k] of an own list: what stands there is frozen -/
def ixO (i : Nat) (mk : ME) : ME := fun ρ => match ρ[i]? with
  | some (some (.ob _ (.olst _))) => mk ρ >>= fun k => match k.2[i]?, k.1 with
    | some (some (.ob p (.olst xs))), .int j => Rs.opt (atI xs j) >>= fun z => if z.isO = false then .ok (z, k.2) else .bad
    | _, _ => .bad
  | _ => .bad
theorem y_ixO {i : Nat} (h : PE X e (tOp (rIx C.K) (tVar i) (SE C E mb))) : PE X e (SE C E (ixO i mb)) := PE.imp h fun σ H Q ⟨B, A, ρ, N, hm⟩ => by
  unfold ixO at hm
  split at hm
  · rename_i p0 xs0 h0
    obtain ⟨l, vs, hσ, hl, _⟩ := N.lst h0
    refine ⟨_, hσ, B, A, ρ, N, Rs.wp_mono (Rs.wp_bind hm) (fun k hk u H1 N1 g1 r1 => ?_) fun _ _ _ _ h => h⟩
    split at hk
    · rename_i p xs j h1 h2
      obtain ⟨z, e, hz⟩ := Rs.wp_opt (Rs.wp_bind hk)
      obtain ⟨ho, hz⟩ := ite_bad hz
      obtain ⟨l', ws, hσ', hl', rs, _⟩ := N1.lst h1
      rw [hσ] at hσ'; cases hσ'
      rw [h2] at r1
      obtain ⟨v, hv, rv⟩ := rs.atI e
      exact .inl ⟨l, ws, j, v, rfl, rep_int.mp r1, SqL.of hl', hv, hz v H1 N1 g1 ((ro_fz ho).mp rv)⟩
    · exact hk.elim
  · exact hm.elim
/-- len(x) of an own list -/
def lenO (i : Nat) : ME := fun ρ => match ρ[i]? with
  | some (some (.ob _ (.olst xs))) => .ok (.int xs.length, ρ)
  | _ => .bad
theorem y_lenO {i : Nat} (h : PE X e (tCB (fun xs H Q => ∃ p ys, xs = [.ref p] ∧ (SqL C.K H p ys ∨ SqT C.K H p ys) ∧ Q (.int ys.length) H) (tCons (tVar i) tNil))) : PE X e (SE C E (lenO i)) := PE.imp h fun σ H Q ⟨B, A, ρ, N, hm⟩ => by
  unfold lenO at hm
  split at hm
  · rename_i p0 xs0 h0
    obtain ⟨l, vs, hσ, hl, rs, _⟩ := N.lst h0
    exact ⟨_, hσ, l, vs, rfl, .inl (SqL.of hl), hm _ H N (.refl _ _ _ _) (rep_int.mpr (by rw [rs.len]))⟩
  · exact hm.elim
end
end Y

set_option Elab.async false
set_option linter.all false
set_option maxRecDepth 100000
set_option maxHeartbeats 4000000
set_option autoImplicit false
/-! W8: defs and their calls. -/
namespace Y
open PySem L2 Z
section
variable {X : Cx} {C : Cn} {E : XK} {e a b tg : Expr} {ma mb : ME} {ms mk : MS} {mi : MI} {es : List Expr} {ml : MA} {mf : ML} {pos : Pos}
/-! ### own values of frozen parts -/
def flatV : Val → Bool
  | .olst xs => xs.all fun x => !x.isO
  | .odic _ xs => xs.all fun x => !x.isO
  | .odit _ xs => xs.all fun x => !x.isO
  | .oins _ _ xs => xs.all fun x => !x.isO
  | _ => false
def SV.flat : SV → Bool | .fz _ => false | .ob _ x => flatV x
theorem ros.reps {A : Rg} {H : Hp} : ∀ {xs : List Val} {vs : List V}, (xs.all fun x => !x.isO) = true → ros C A H vs xs → Y.reps C A H vs xs
  | [], vs, _, h => by unfold ros at h; subst h; exact reps_nil
  | x :: xs, vs, k, h => by
    unfold ros at h
    obtain ⟨v, r, rfl, h1, h2⟩ := h
    rw [List.all_cons, Bool.and_eq_true] at k
    exact reps_cons ((ro_fz (by simpa using k.1)).mp h1) (ros.reps k.2 h2)
theorem fl_flat {A : Rg} {H : Hp} {x : Val} {v : V} (k : flatV x = true) (r : ro C A H v x) : ∃ l, v = .ref l ∧ fl H v x = [l] := by
  cases x with
  | olst xs => obtain ⟨l, vs, rfl, h, rs⟩ := ro_olst.mp r; exact ⟨l, rfl, by rw [fl_olst h, fls_fz (rs.reps k)]⟩
  | odic ks xs => obtain ⟨l, vs, rfl, h, hl, rs⟩ := ro_odic.mp r; exact ⟨l, rfl, by rw [fl_odic h (by rw [rs.len]; exact hl), fls_fz (rs.reps k)]⟩
  | odit ks xs => obtain ⟨l, vs, rfl, h, hl, rs⟩ := ro_odit.mp r; exact ⟨l, rfl, by rw [fl_odit h (by rw [rs.len]; exact hl), fls_fz (rs.reps k)]⟩
  | oins c ns xs => obtain ⟨l, dx, vs, rfl, n, h, h2, hl, rs⟩ := ro_oins.mp r; exact ⟨l, rfl, by rw [fl_oins h (by rw [rs.len]; exact hl), fls_fz (rs.reps k)]⟩
  | _ => cases k
/-! ### defs -/
def finM (o : Rs Out) : Rs (Val × En) := o >>= fun o => match o with | .nx ρ => .ok (.non, ρ) | .rt x ρ => .ok (x, ρ) | _ => .bad
def padE (ρ : En) (n : Nat) : En := ρ ++ List.replicate (n - ρ.length) none
/-- the slots that came in as own: as they are now -/
def ownAft (C : Cn) (A : Rg) (H H' : Hp) (vs : List V) (ρ ρ' : En) : Prop := ∀ (i : Nat) (s : SV), ρ[i]? = some (some s) → s.own = true → ∃ v s', vs[i]? = some v ∧ ρ'[i]? = some (some s') ∧ s'.own = true ∧ s'.pin = true ∧ (s'.flat = true → slr C A H' v s' ∧ ∀ a ∈ flS H' v s', a ∈ flS H v s)
structure Aft (C : Cn) (A : Rg) (vs : List V) (ρ : En) (H : Hp) (H' : Hp) (ρ' : En) : Prop where
  kp : ∀ a o, NT o → ¬ OwnAt H (vs.map some) ρ a → H a = some o → H' a = some o
  fe : ∀ a, Fz H' a → Fz H a
  tb : LamX.Tabs C.T H'
  ow : ownAft C A H H' vs ρ ρ'
def spF (C : Cn) (np n : Nat) (body : MS) : Sp := fun vs H Q E => ∃ A ρ, Fq A H ∧ LamX.Tabs C.T H ∧ vs.length = np ∧ np ≤ n ∧ EnvR C A H (vs.map some) ρ ∧ (∀ (i : Nat) (s : SV), ρ[i]? = some (some s) → s.own = true → s.pin = true) ∧
  (finM (body (padE ρ n))).wp (fun r => ∀ v H', Aft C A vs ρ H H' r.2 → rep C A H' v r.1 → Q v H')
    (fun c ns xs ρ' => ∀ d ws H', Aft C A vs ρ H H' ρ' → A d → H' d = some (.xd (ns.zip ws)) → ns.length = xs.length → reps C A H' ws xs → E (.ref (C.ca c)) (some d) H')
def pinsOf (vs : List V) (ρ : En) : List (Nat × Addr) := (List.range ρ.length).filterMap fun i => match (ρ[i]? : Option (Option SV)), (vs[i]? : Option V) with
  | some (some s), some (V.ref l) => if s.own = true then some (i, l) else none
  | _, _ => none
theorem mem_pins {vs : List V} {ρ : En} {i : Nat} {l : Addr} : (i, l) ∈ pinsOf vs ρ ↔ ∃ s, ρ[i]? = some (some s) ∧ s.own = true ∧ vs[i]? = some (.ref l) := by
  unfold pinsOf
  rw [List.mem_filterMap]
  constructor
  · rintro ⟨j, hj, h⟩
    split at h
    · rename_i s l' h1 h2
      split at h
      · rename_i o
        cases h
        exact ⟨s, h1, o, h2⟩
      · cases h
    · cases h
  · rintro ⟨s, h1, o, h2⟩
    refine ⟨i, List.mem_range.mpr (List.getElem?_eq_some_iff.mp h1).1, ?_⟩
    rw [h1, h2]
    simp [o]
theorem pad_get {ρ : En} {n i : Nat} {s : SV} : (padE ρ n)[i]? = some (some s) ↔ ρ[i]? = some (some s) := by
  unfold padE
  rw [List.getElem?_append]
  split
  · exact Iff.rfl
  · rename_i h
    rw [List.getElem?_eq_none (show ρ.length ≤ i by omega)]
    constructor
    · intro z
      rw [List.getElem?_replicate] at z
      split at z <;> cases z
    · intro z; cases z
theorem start_get {N : List Str} {vs : List V} {i : Nat} (h : i < vs.length) : (L2.start N vs)[i]? = (vs.map some)[i]? := by
  unfold L2.start
  rw [List.getElem?_append_left (by simpa using h)]
theorem flS_own {H : Hp} {v : V} {s : SV} {a : Addr} (h : a ∈ flS H v s) : s.own = true := by
  cases s with
  | fz x => cases h
  | ob p x => rfl
theorem slr.at {A : Rg} {H : Hp} {v : V} {s : SV} (h : slr C A H v s) (o : s.own = true) : ∃ l, v = .ref l ∧ ¬ A l ∧ l ∈ flS H v s := by
  cases s with
  | fz x => cases o
  | ob p x =>
    obtain ⟨k, r, n, d⟩ := h
    obtain ⟨l, u, e, _, _, _, _, m⟩ := ro.at r k
    exact ⟨l, e, d l m, m⟩
/-- where a def begins -/
abbrev bsOf (A : Rg) (H : Hp) (vs : List V) (ρ : En) : Bs := ⟨A, H, pinsOf vs ρ, fun a => OwnAt H (vs.map some) ρ a⟩
theorem now_start {A : Rg} {H : Hp} {vs : List V} {ρ : En} {N : List Str} (fr : Fq A H) (tb : LamX.Tabs C.T H) (env : EnvR C A H (vs.map some) ρ) (hp : ∀ (i : Nat) (s : SV), ρ[i]? = some (some s) → s.own = true → s.pin = true) :
    Now C (bsOf A H vs ρ) A H (L2.start N vs) (padE ρ N.length) := by
  have lρ : ρ.length = vs.length := by rw [← env.len, List.length_map]
  have at_ : ∀ {i : Nat} {s : SV}, ρ[i]? = some (some s) → i < vs.length := fun {i s} h => by rw [← lρ]; exact (List.getElem?_eq_some_iff.mp h).1
  refine ⟨⟨?_, fun i s h => ?_, fun i j s t u v ij hs ht hu hv => ?_⟩, fr, fr, fun a z => (env.own z).1, fun _ h => h, fun a o _ _ h => h, tb, fun _ h => h, fun i s v a h1 h2 h3 => ?_, fun i l h => ?_⟩
  · unfold L2.start padE
    rw [List.length_append, List.length_append, List.length_map, List.length_replicate, List.length_replicate, lρ]
  · have h' := pad_get.mp h
    obtain ⟨v, h1, h2⟩ := env.sl i s h'
    exact ⟨v, by rw [start_get (at_ h')]; exact h1, h2⟩
  · have hs' := pad_get.mp hs
    have ht' := pad_get.mp ht
    rw [start_get (at_ hs')] at hu
    rw [start_get (at_ ht')] at hv
    exact env.ne i j s t u v ij hs' ht' hu hv
  · have h' := pad_get.mp h1
    rw [start_get (at_ h')] at h2
    exact .inr ⟨⟨i, s, v, h', h2, h3⟩, hp i s h' (flS_own h3)⟩
  · obtain ⟨s, h1, h2, h3⟩ := mem_pins.mp h
    exact ⟨by rw [start_get (at_ h1), List.getElem?_map, h3]; rfl, s, pad_get.mpr h1, h2, hp i s h1 h2⟩
/-- where it ends -/
theorem now_aft {A A' : Rg} {H H' : Hp} {vs : List V} {ρ ρ' : En} {σ' : L2.St} (env : EnvR C A H (vs.map some) ρ) (N' : Now C (bsOf A H vs ρ) A' H' σ' ρ') : Aft C A vs ρ H H' ρ' := by
  refine ⟨fun a o t z h => N'.kp a o t z h, N'.fe, N'.tb, fun i s h o => ?_⟩
  obtain ⟨v, k1, k2⟩ := env.sl i s h
  obtain ⟨l, rfl, n, m⟩ := k2.at o
  have hv : vs[i]? = some (.ref l) := by
    rw [List.getElem?_map] at k1
    cases e2 : vs[i]? with
    | none => rw [e2] at k1; cases k1
    | some v => rw [e2] at k1; cases k1; rfl
  obtain ⟨q1, s', q2, q3, q4⟩ := N'.pn i l (mem_pins.mpr ⟨s, h, o, hv⟩)
  obtain ⟨u, q5, q6⟩ := N'.env.sl i s' q2
  rw [q1] at q5; cases q5
  refine ⟨_, s', hv, q2, q3, q4, fun hf => ?_⟩
  cases s' with
  | fz x => cases q3
  | ob p x =>
    obtain ⟨io, r, nd, d⟩ := q6
    obtain ⟨l', e, f⟩ := fl_flat (C := C) hf r
    cases e
    have g : Gr A' H' A H' := fun a o _ k e => ⟨N'.le a k, e⟩
    obtain ⟨r2, e2⟩ := ro.frame g r fun _ _ => rfl
    exact ⟨⟨io, r2, nd, fun a ha => by rw [f, List.mem_singleton] at ha; subst ha; exact n⟩, fun a ha => by
      have ha : a ∈ fl H' (V.ref l) x := ha
      rw [f, List.mem_singleton] at ha; subst ha; exact m⟩
theorem spF.rd {np : Nat} {N : List Str} {body : MS} {vs : List V} {H : Hp} {Q : VK} (h : spF C np N.length body vs H Q E) : SS C E body { nx := fun _ H' => Q .non H', rt := Q } (L2.start N vs) H := by
  obtain ⟨A, ρ, fr, tb, hl, hnp, env, hp, hw⟩ := h
  have N0 := now_start (N := N) fr tb env hp
  refine ⟨_, A, _, N0, ?_⟩
  unfold finM at hw
  have toA : ∀ {A' : Rg} {H' : Hp} {σ' : L2.St} {ρ' : En}, Now C (bsOf A H vs ρ) A' H' σ' ρ' → Gr A' H' A H' := fun N' a o _ k e => ⟨N'.le a k, e⟩
  refine Rs.wp_mono (Rs.wp_bind hw) (fun o ho => ?_) fun c ns xs ρ' ho => ?_
  · cases o with
    | nx ρ' => exact fun A' σ' H' N' _ => ho .non H' (now_aft env N') (rep_non.mpr rfl)
    | rt y ρ' => exact fun v A' σ' H' N' _ r => ho v H' (now_aft env N') (rep.gr (toA N') r)
    | bk ρ' => exact ho.elim
    | ct ρ' => exact ho.elim
  · exact fun d ws A' σ' H' N' hd h1 h2 h3 => ho d ws H' (now_aft env N') (N'.le d hd) h1 h2 (reps.gr (toA N') h3)
section
variable {P : Program} {w : World} {mg : Str → Option Value} {base : Heap} {x qual : Str} {st : Stmt} {f : Addr} {fd : FuncData} {N ps : List Str} {k : Nat} {body : MS}
/-- a def keeps its promise -/
theorem y_fn (F : Fun C.K x qual st f fd) (S : FnScope N ps (defScope st)) (hn : ps.length ≤ N.length)
    (hbody : ∀ (cdv : Value) (A : Around) (outer : List PySem.Env) (s : Shared) (H : Hp) (E : XK), Room k (A.deeper (PyProof.Rows.envOfC qual (defScope st) s.heap.objs.size f cdv)) → PSs (cxOf (L2.CX P w) P w C.K mg base N qual (defScope st) f cdv A outer s H E) (defBody st) (SS C E body)) :
    FnOk P w C.K mg base (L2.CX P w) (k + 1) f fd ps (spF C ps.length N.length body) :=
  F.okX S (fun vs H Q E h => h.choose_spec.choose_spec.2.2.1) fun cdv A0 outer s H vs Q E hr h => ⟨SS C E body, hbody cdv A0 outer s H E hr, h.rd⟩
/-- .. a def whose code object is told -/
theorem y_fnL {oc kV doc pm ct : Value} {od an : Option Addr} {osl : Array (Option Value)} {c : Addr} (lk : C.K.lookup f = some ⟨oc, od, .func (PySem.W.fnOf x qual (defArgs st) (defBody st) (defScope st) .none kV doc pm an (.ref c) ct), osl⟩) (hcd : PySem.W.codeIn C.K (.ref c) qual = true) (S : FnScope N ps (defScope st)) (hn : ps.length ≤ N.length)
    (hbody : ∀ (A : Around) (outer : List PySem.Env) (s : Shared) (H : Hp) (E : XK), Room k (A.deeper (PyProof.Rows.envOfC qual (defScope st) s.heap.objs.size f (.ref c))) → PSs (cxOf (L2.CX P w) P w C.K mg base N qual (defScope st) f (.ref c) A outer s H E) (defBody st) (SS C E body)) :
    FnOk P w C.K mg base (L2.CX P w) (k + 1) f (PySem.W.fnOf x qual (defArgs st) (defBody st) (defScope st) .none kV doc pm an (.ref c) ct) ps (spF C ps.length N.length body) :=
  fn_of lk hcd S (fun vs H Q E h => h.choose_spec.choose_spec.2.2.1) fun A0 outer s H vs Q E hr h => ⟨SS C E body, hbody A0 outer s H E hr, h.rd⟩
/-- a def that returns a new value -/
def spN (C : Cn) (np n : Nat) (m : MN) : Sp := fun vs H Q _ => ∃ A ρ, Fq A H ∧ LamX.Tabs C.T H ∧ vs.length = np ∧ np ≤ n ∧ EnvR C A H (vs.map some) ρ ∧ (∀ (i : Nat) (s : SV), ρ[i]? = some (some s) → s.own = true → s.pin = true) ∧
  (m (padE ρ n)).wp (fun r => ∀ v H', Aft C A vs ρ H H' r.2 → ro C (lessL A (fl H' v r.1)) H' v r.1 → (fl H' v r.1).Nodup → (∀ a ∈ fl H' v r.1, Fz H a) → Q v H') fun _ _ _ _ => False
theorem y_fnN {m : MN} {e : Expr} {pos : Pos} (F : Fun C.K x qual st f fd) (S : FnScope N ps (defScope st)) (hst : defBody st = [.Return (some e) pos])
    (hbody : ∀ (cdv : Value) (A : Around) (outer : List PySem.Env) (s : Shared) (H : Hp) (E : XK), Room k (A.deeper (PyProof.Rows.envOfC qual (defScope st) s.heap.objs.size f cdv)) → PE (cxOf (L2.CX P w) P w C.K mg base N qual (defScope st) f cdv A outer s H E) e (SN C E m)) :
    FnOk P w C.K mg base (L2.CX P w) (k + 1) f fd ps (spN C ps.length N.length m) := by
  refine F.okX S (fun vs H Q E h => h.choose_spec.choose_spec.2.2.1) fun cdv A0 outer s H vs Q E hr h => ⟨tRet (SN C E m), by rw [hst]; exact pss_one (ps_ret (hbody cdv A0 outer s H E hr)), ?_⟩
  obtain ⟨A, ρ, fr, tb, hl, hnp, env, hp, hw⟩ := h
  have N0 := now_start (N := N) fr tb env hp
  exact ⟨_, A, _, N0, Rs.wp_mono hw (fun r hr v H' N' g => hr v H' (now_aft env N') g.r g.n fun a ha => (g.d a ha).1) fun _ _ _ _ h => h.elim⟩
end
/-! ### calls -/
/-- a def as a function of frozen values -/
def runF (n : Nat) (body : MS) (xs : List Val) : Rs (Val × En) := finM (body (padE (xs.map fun x => some (.fz x)) n))
def reE {α : Type} (r : Rs α) (ρ : En) : Rs α := match r with | .exc c ns vs _ => .exc c ns vs ρ | .ok x => .ok x | .bad => .bad
/-- f(e, ..): no own argument -/
def callM (np n : Nat) (body : MS) (a : MA) : ME := fun ρ => a ρ >>= fun x => if x.1.length = np ∧ np ≤ n then reE (runF n body x.1) x.2 >>= fun r => .ok (r.1, x.2) else .bad
theorem env_fz {A : Rg} {H : Hp} {vs : List V} {xs : List Val} (r : reps C A H vs xs) : EnvR C A H (vs.map some) (xs.map fun x => some (.fz x)) := by
  refine ⟨by simp [r.len], fun i s h => ?_, fun i j s t u v _ hs _ _ _ a ha => ?_⟩
  · rw [List.getElem?_map] at h
    cases e : xs[i]? with
    | none => rw [e] at h; cases h
    | some x =>
      rw [e] at h; cases h
      obtain ⟨v, hv, rv⟩ := wk_list.paired_at' r.pair e
      exact ⟨v, by rw [List.getElem?_map, hv]; rfl, rv⟩
  · rw [List.getElem?_map] at hs
    cases e : xs[i]? with
    | none => rw [e] at hs; cases hs
    | some x => rw [e] at hs; cases hs; cases ha
theorem no_own {H : Hp} {vs : List V} {xs : List Val} {a : Addr} : ¬ OwnAt H (vs.map some) (xs.map fun x => some (.fz x)) a := fun ⟨i, s, v, h, _, ha⟩ => by
  rw [List.getElem?_map] at h
  cases e : xs[i]? with
  | none => rw [e] at h; cases h
  | some x => rw [e] at h; cases h; cases ha
theorem fz_pin {xs : List Val} : ∀ (i : Nat) (s : SV), (xs.map fun x => some (SV.fz x))[i]? = some (some s) → s.own = true → s.pin = true := fun i s h o => by
  rw [List.getElem?_map] at h
  cases e : xs[i]? with
  | none => rw [e] at h; cases h
  | some y => rw [e] at h; cases h; cases o
theorem call_core {np n : Nat} {body : MS} {B : Bs} {A : Rg} {H1 : Hp} {σ : L2.St} {ρ1 : En} {vs : List V} {xs : List Val} {Q : VK} (N1 : Now C B A H1 σ ρ1) (r1 : reps C A H1 vs xs)
    (hx : (if xs.length = np ∧ np ≤ n then reE (runF n body xs) ρ1 >>= fun r => .ok (r.1, ρ1) else .bad : Rs (Val × En)).wp (fun x => ∀ v H', Now C B A H' σ x.2 → Gd σ A H1 ρ1 H' x.2 → rep C A H' v x.1 → Q v H') (EXe C E B A H1 σ ρ1)) : spF C np n body vs H1 Q E := by
  obtain ⟨⟨hl, hn⟩, hx⟩ := ite_bad hx
  refine ⟨A, xs.map fun x => some (.fz x), N1.fr, N1.tb, by rw [r1.len]; exact hl, hn, env_fz r1, fz_pin, ?_⟩
  have hw := Rs.wp_bind hx
  unfold runF at hw
  have kp : ∀ {H' : Hp} {ρ' : En}, Aft C A vs (xs.map fun x => some (.fz x)) H1 H' ρ' → ∀ a o, NT o → H1 a = some o → H' a = some o := fun k a o t h => k.kp a o t no_own h
  cases e : finM (body (padE (xs.map fun x => some (.fz x)) n)) with
  | bad => rw [e] at hw; exact hw.elim
  | ok r =>
    rw [e] at hw
    exact fun v H' k rv => hw v H' (N1.kept (kp k) k.fe k.tb) (.kept N1 (kp k) k.fe) rv
  | exc c ns ys ρ' =>
    rw [e] at hw
    exact fun d ws H' k hd h1 h2 h3 => hw d ws H' (N1.kept (kp k) k.fe k.tb) (.kept N1 (kp k) k.fe) hd h1 h2 h3
theorem call_rd {np n : Nat} {body : MS} : ∀ σ H Q, SE C E (callM np n body ml) σ H Q → tCall (spF C np n body) [] E (SA C E ml) σ H Q := fun σ H Q ⟨B, A, ρ, N, hm⟩ =>
  ⟨B, A, ρ, N, Rs.wp_mono (Rs.wp_bind hm) (fun x hx vs H1 N1 g1 r1 => by
    show spF C np n body (vs ++ []) H1 Q E
    rw [List.append_nil]
    exact call_core N1 r1 (Rs.wp_mono hx (fun y hy v H2 N2 g2 r2 => hy v H2 N2 (g1.trans g2) r2) (EXe.tr g1))) fun _ _ _ _ h => h⟩
/-- f(..), f's answer a new value -/
def callN (np n : Nat) (m : MN) (a : MA) : MN := fun ρ => a ρ >>= fun x => if x.1.length = np ∧ np ≤ n then (match m (padE (x.1.map fun x => some (.fz x)) n) with | .ok r => .ok (r.1, x.2) | _ => .bad) else .bad
theorem callN_rd {np n : Nat} {m : MN} : ∀ σ H Q, SN C E (callN np n m ml) σ H Q → tCall (spN C np n m) [] E (SA C E ml) σ H Q := fun σ H Q ⟨B, A, ρ, N, hm⟩ =>
  ⟨B, A, ρ, N, Rs.wp_mono (Rs.wp_bind hm) (fun x hx vs H1 N1 g1 r1 => by
    show spN C np n m (vs ++ []) H1 Q E
    rw [List.append_nil]
    obtain ⟨⟨hl, hn⟩, hx⟩ := ite_bad hx
    refine ⟨A, x.1.map fun x => some (.fz x), N1.fr, N1.tb, by rw [r1.len]; exact hl, hn, env_fz r1, fz_pin, ?_⟩
    cases e : m (padE (x.1.map fun x => some (.fz x)) n) with
    | bad => rw [e] at hx; exact hx.elim
    | exc c ns ys ρ' => rw [e] at hx; exact hx.elim
    | ok r =>
      rw [e] at hx
      intro v H' af r' nd fz
      have kp : ∀ a o, NT o → H1 a = some o → H' a = some o := fun a o t h => af.kp a o t no_own h
      have N2 := N1.kept kp af.fe af.tb
      have g2 : Gd σ A H1 x.2 H' x.2 := .kept N1 kp af.fe
      have nown : ∀ a ∈ fl H' v r.1, ¬ OwnAt H' σ x.2 a := fun a ha z => by
        rcases g2.o a z with q | q
        · obtain ⟨_, u, h1, h2⟩ := N1.own q
          exact (fz a ha).no h1 h2.1
        · obtain ⟨_, u, h1, h2⟩ := N2.own z
          have := g2.o a z
          rcases this with y | y
          · obtain ⟨_, u', h3, h4⟩ := N1.own y
            exact q.no h3 h4.1
          · obtain ⟨j, s, w, k1, k2, k3⟩ := z
            obtain ⟨_, ee⟩ := N1.env.frame (A' := A) (g2.g) fun b hb => by
              obtain ⟨n, u, h1, h2⟩ := N1.own hb
              exact ⟨by rw [h1]; exact kp b u h2.1 h1, n⟩
            rw [ee j s w k1 k2] at k3
            obtain ⟨_, u', h3, h4⟩ := N1.own ⟨j, s, w, k1, k2, k3⟩
            exact q.no h3 h4.1
      have gl : Gr A H' (lessL A (fl H' v r.1)) H' → True := fun _ => trivial
      refine hx v H' ?_ (Gm.tr g1 ⟨g2.o, g2.k, g2.f, r', nd, fun a ha => ⟨fz a ha, nown a ha⟩⟩)
      have g : Gr A H1 (lessL A (fl H' v r.1)) H' := fun a o t n h => ⟨⟨n, fun z => (fz a z).no h t⟩, kp a o t h⟩
      refine N1.frame g (fun a h => ?_) (fun q h => ?_) (fun a h => N1.le a h.1) (fun a o t z h => kp a o t (N1.kp a o t z h)) af.tb fun a h => N1.fe a (af.fe a h)
      · obtain ⟨n, u, h1, h2⟩ := N1.own h
        exact ⟨by rw [h1]; exact kp a u h2.1 h1, fun z => n z.1⟩
      · refine ⟨N1.fr q (af.fe q h), fun z => ?_⟩
        obtain ⟨u, h1, h2⟩ := ro.in r' z
        exact h.no h1 h2.1) fun _ _ _ _ h => h⟩
/-! ### a call whose first argument is an own value -/
def SV.setPin (p : Bool) : SV → SV | .fz x => .fz x | .ob _ x => .ob p x
theorem setPin_own {s : SV} {p : Bool} : (s.setPin p).own = s.own := by cases s <;> rfl
theorem setPin_pin {s : SV} {p : Bool} (h : s.own = true) : (s.setPin p).pin = p := by cases s <;> first | rfl | cases h
theorem setPin_fl {H : Hp} {v : V} {s : SV} {p : Bool} : flS H v (s.setPin p) = flS H v s := by cases s <;> rfl
theorem slr_pin {A : Rg} {H : Hp} {v : V} {s : SV} {p : Bool} (h : slr C A H v s) : slr C A H v (s.setPin p) := by cases s <;> exact h
/-- a def as a function of an own value and frozen ones: the answer, the own value behind it -/
def runO (n : Nat) (body : MS) (s : SV) (xs : List Val) : Rs (Val × SV) := match finM (body (padE (some (s.setPin true) :: xs.map fun x => some (.fz x)) n)) with
  | .ok r => match r.2[0]? with | some (some s') => if s'.flat = true then .ok (r.1, s'.setPin s.pin) else .bad | _ => .bad
  | .exc c ns vs ρ => match ρ[0]? with | some (some s') => if s'.flat = true then .exc c ns vs [some (s'.setPin s.pin)] else .bad | _ => .bad
  | .bad => .bad
def callO (i np n : Nat) (body : MS) (a : MA) : ME := fun ρ => match ρ[i]? with
  | some (some s0) => if s0.own = true then a ρ >>= fun x => match x.2[i]? with
      | some (some s) => if s.own = true ∧ x.1.length + 1 = np ∧ np ≤ n then (match runO n body s x.1 with
          | .ok r => .ok (r.1, x.2.set i (some r.2))
          | .exc c ns vs ρ' => match ρ'[0]? with | some (some s') => .exc c ns vs (x.2.set i (some s')) | _ => .bad
          | .bad => .bad) else .bad
      | _ => .bad
    else .bad
  | _ => .bad
theorem callO_rd {i np n : Nat} {body : MS} : ∀ σ H Q, SE C E (callO i np n body ml) σ H Q → tCall (spF C np n body) [] E (tCons (tVar i) (SA C E ml)) σ H Q := fun σ H Q ⟨B, A, ρ, N, hm⟩ => by
  unfold callO at hm
  split at hm
  · rename_i s0 h0
    obtain ⟨o0, hm⟩ := ite_bad hm
    obtain ⟨v, hσ, hr0⟩ := N.slot h0
    obtain ⟨l, rfl, nA, _⟩ := hr0.at o0
    refine ⟨_, hσ, B, A, ρ, N, Rs.wp_mono (Rs.wp_bind hm) (fun x hx vs H1 N1 g1 r1 => ?_) fun _ _ _ _ h => h⟩
    show spF C np n body ((V.ref l :: vs) ++ []) H1 Q E
    rw [List.append_nil]
    split at hx
    · rename_i s hs
      obtain ⟨⟨os, hl, hn⟩, hx⟩ := ite_bad hx
      obtain ⟨v, hσ', hr⟩ := N1.slot hs
      rw [hσ] at hσ'; cases hσ'
      have ef := env_fz r1
      have env : EnvR C A H1 ((V.ref l :: vs).map some) (some (s.setPin true) :: x.1.map fun x => some (.fz x)) := by
        refine ⟨by simp [r1.len], fun j t h => ?_, fun j k t u v w jk hj hk ev ew a ha hb => ?_⟩
        · cases j with
          | zero => simp at h; subst h; exact ⟨_, rfl, slr_pin hr⟩
          | succ j => exact ef.sl j t (by simpa using h)
        · cases j with
          | zero =>
            cases k with
            | zero => exact absurd rfl jk
            | succ k => exact no_own (H := H1) (vs := vs) (xs := x.1) ⟨k, u, w, by simpa using hk, by simpa using ew, hb⟩
          | succ j => exact no_own (H := H1) (vs := vs) (xs := x.1) ⟨j, t, v, by simpa using hj, by simpa using ev, ha⟩
      have own1 : ∀ {a : Addr}, OwnAt H1 ((V.ref l :: vs).map some) (some (s.setPin true) :: x.1.map fun x => some (.fz x)) a → a ∈ flS H1 (.ref l) s := fun {a} => by
        rintro ⟨j, t, v, h1, h2, h3⟩
        cases j with
        | zero => simp at h1 h2; subst h1 h2; rw [setPin_fl] at h3; exact h3
        | succ j => exact (no_own (H := H1) (vs := vs) (xs := x.1) ⟨j, t, v, by simpa using h1, by simpa using h2, h3⟩).elim
      refine ⟨A, _, N1.fr, N1.tb, by rw [List.length_cons, r1.len]; exact hl, hn, env, fun j t h o => ?_, ?_⟩
      · cases j with
        | zero => simp at h; subst h; exact setPin_pin os
        | succ j => exact fz_pin j t (by simpa using h) o
      · have step : ∀ {H' : Hp} {ρ' : En} {s' : SV}, Aft C A (V.ref l :: vs) (some (s.setPin true) :: x.1.map fun x => some (.fz x)) H1 H' ρ' → ρ'[0]? = some (some s') → s'.flat = true →
            Now C B A H' σ (x.2.set i (some (s'.setPin s.pin))) ∧ Gd σ A H1 x.2 H' (x.2.set i (some (s'.setPin s.pin))) := fun {H' ρ' s'} af e2 hf => by
          obtain ⟨v, s2, e1, e3, o', p', r'⟩ := af.ow 0 _ rfl (by rw [setPin_own]; exact os)
          rw [e2] at e3; cases e3
          cases e1
          obtain ⟨r2, sub⟩ := r' hf
          exact N1.change hs hσ (fun a o t h nm => af.kp a o t (fun z => nm (own1 z)) h) af.fe af.tb (slr_pin r2) (by rw [setPin_own, o', os]) (setPin_pin o') fun a ha => .inl (by
            rw [setPin_fl] at ha
            have := sub a ha
            rw [setPin_fl] at this
            exact this)
        unfold runO at hx
        cases e : finM (body (padE (some (s.setPin true) :: x.1.map fun x => some (.fz x)) n)) with
        | bad => rw [e] at hx; exact hx.elim
        | ok r =>
          rw [e] at hx
          dsimp only at hx
          intro v H' af rv
          cases e2 : r.2[0]? with
          | none => rw [e2] at hx; exact hx.elim
          | some q =>
            cases q with
            | none => rw [e2] at hx; exact hx.elim
            | some s' =>
              rw [e2] at hx
              dsimp only at hx
              by_cases hf : s'.flat = true
              · rw [if_pos hf] at hx
                obtain ⟨N', g'⟩ := step af e2 hf
                exact hx v H' N' (g1.trans g') rv
              · rw [if_neg hf] at hx; exact hx.elim
        | exc c ns xs ρ' =>
          rw [e] at hx
          dsimp only at hx
          intro d ws H' af hd h1 h2 h3
          cases e2 : ρ'[0]? with
          | none => rw [e2] at hx; exact hx.elim
          | some q =>
            cases q with
            | none => rw [e2] at hx; exact hx.elim
            | some s' =>
              rw [e2] at hx
              dsimp only at hx
              by_cases hf : s'.flat = true
              · rw [if_pos hf] at hx
                obtain ⟨N', g'⟩ := step af e2 hf
                exact hx d ws H' N' (g1.trans g') hd h1 h2 h3
              · rw [if_neg hf] at hx; exact hx.elim
    · exact hx.elim
  · exact hm.elim
end
end Y

set_option Elab.async false
set_option linter.all false
set_option maxRecDepth 100000
set_option maxHeartbeats 4000000
set_option autoImplicit false
/-! W9: what operators and built-ins make of values. -/
namespace Y
open PySem L2 Z
/-! ### numbers -/
def addV : Val → Val → Option Val | .int i, .int j => some (.int (i + j)) | .str s, .str t => if s.length + t.length ≤ sizeLine then some (.str (s ++ t)) else none | _, _ => none
def subV : Val → Val → Option Val | .int i, .int j => some (.int (i - j)) | _, _ => none
def mulV : Val → Val → Option Val | .int i, .int j => if i.natAbs.log2 + j.natAbs.log2 < 134000000 then some (.int (i * j)) else none | _, _ => none
def divV : Val → Val → Option Val | .int i, .int j => if 0 < j ∧ j.natAbs.log2 < 9000 then some (.int (i / j)) else if j < 0 ∧ j.natAbs.log2 < 9000 then some (.int (i.fdiv j)) else none | _, _ => none
def modV : Val → Val → Option Val | .int i, .int j => if 0 < j then some (.int (i % j)) else if j ≠ 0 then some (.int (i.fmod j)) else none | _, _ => none
def powV : Val → Val → Option Val | .int i, .int j => if 0 ≤ j ∧ j ≤ 1000000 ∧ i.natAbs < 2 ^ 64 then some (.int (i ^ j.toNat)) else none | _, _ => none
def ltV : Val → Val → Option Val | .int i, .int j => some (.bl (decide (i < j))) | _, _ => none
def leV : Val → Val → Option Val | .int i, .int j => some (.bl (decide (i ≤ j))) | _, _ => none
def gtV : Val → Val → Option Val | .int i, .int j => some (.bl (decide (j < i))) | _, _ => none
def geV : Val → Val → Option Val | .int i, .int j => some (.bl (decide (j ≤ i))) | _, _ => none
def negV : Val → Option Val | .int i => some (.int (-i)) | _ => none
section
variable {X : Cx} {C : Cn}
theorem ov_ii {C0 : Int → Int → Prop} {g : Int → Int → V} {f : Val → Val → Option Val} (h : ∀ x y z, f x y = some z → ∃ i j, x = .int i ∧ y = .int j ∧ C0 i j ∧ ∀ A H, rep C A H (g i j) z) : OpV C (rI C0 g) f := fun A H u v x y z _ hu hv e Q q => by
  obtain ⟨i, j, rfl, rfl, c, r⟩ := h x y z e
  exact ⟨i, j, rep_int.mp hu, rep_int.mp hv, c, q _ H (Same.refl H) (r A H)⟩
theorem ov_i0 {g : Int → Int → V} {f : Val → Val → Option Val} (h : ∀ x y z, f x y = some z → ∃ i j, x = .int i ∧ y = .int j ∧ ∀ A H, rep C A H (g i j) z) : OpV C (rI0 g) f := fun A H u v x y z _ hu hv e Q q => by
  obtain ⟨i, j, rfl, rfl, r⟩ := h x y z e
  exact ⟨i, j, rep_int.mp hu, rep_int.mp hv, q _ H (Same.refl H) (r A H)⟩
abbrev rAddS : R2 := fun x y H Q => ∃ i j, x = .str i ∧ y = .str j ∧ i.length + j.length ≤ sizeLine ∧ Q (.str (i ++ j)) H
abbrev rAddA : R2 := fun x y H Q => rI0 (fun i j => .int (i + j)) x y H Q ∨ rAddS x y H Q
theorem oy_add : OpR X (binaryOp .Add) rAddA := op_add.or op_add_str
theorem ov_add : OpV C rAddA addV := fun A H u v x y z _ hu hv e Q q => by
  unfold addV at e
  split at e
  · cases e
    exact .inl ⟨_, _, rep_int.mp hu, rep_int.mp hv, q _ H (Same.refl H) (rep_int.mpr rfl)⟩
  · split at e
    · rename_i h
      cases e
      exact .inr ⟨_, _, rep_str.mp hu, rep_str.mp hv, h, q _ H (Same.refl H) (rep_str.mpr rfl)⟩
    · cases e
  · cases e
theorem ov_sub : OpV C (rI0 fun i j => .int (i - j)) subV := ov_i0 fun x y z e => by
  unfold subV at e
  split at e
  · cases e; exact ⟨_, _, rfl, rfl, fun _ _ => rep_int.mpr rfl⟩
  · cases e
/-- * of two factors of together less than the line's bits -/
def CMulA (i j : Int) : Prop := i.natAbs.log2 + j.natAbs.log2 < 134000000
theorem CMulA.ok {i j : Int} (h : CMulA i j) : IntMulOk i j := by
  have b : ∀ x : Int, Builtin.Int.intBits x ≤ x.natAbs.log2 + 1 := fun x => by
    unfold Builtin.Int.intBits
    split <;> omega
  have h1 := b i
  have h2 := b j
  have h3 : i.natAbs.log2 + j.natAbs.log2 < 134000000 := h
  have e : bitsLine = 134217728 := by decide
  intro z
  have z2 := of_decide_eq_true (Bool.and_eq_true_iff.mp z).2
  rw [e] at z2
  omega
theorem op_mulA : OpR X (binaryOp .Mult) (rI CMulA fun i j => .int (i * j)) := opI fun _ _ _ _ _ _ _ hc q => PyProof.Rows.mul_int q hc.ok
theorem ov_mul : OpV C (rI CMulA fun i j => .int (i * j)) mulV := ov_ii fun x y z e => by
  unfold mulV at e
  split at e
  · split at e
    · rename_i h; cases e; exact ⟨_, _, rfl, rfl, h, fun _ _ => rep_int.mpr rfl⟩
    · cases e
  · cases e
/-- // by what is not 0, below 2 ^ 9000 -/
def CDivA (_ j : Int) : Prop := j ≠ 0 ∧ j.natAbs.log2 < 9000
theorem op_fdivA : OpR X (binaryOp .FloorDiv) (rI CDivA fun i j => .int (i.fdiv j)) := opI fun _ _ _ _ _ _ _ hc q => PyProof.Rows.floordiv_int hc.1 q (.inl (PyProof.noPylong_of_log2 hc.2))
abbrev rDivA : R2 := fun x y H Q => rI CDivW (fun i j => .int (i / j)) x y H Q ∨ rI CDivA (fun i j => .int (i.fdiv j)) x y H Q
theorem oy_div : OpR X (binaryOp .FloorDiv) rDivA := op_fdivW.or op_fdivA
theorem ov_div : OpV C rDivA divV := fun A H u v x y z _ hu hv e Q q => by
  unfold divV at e
  split at e
  · split at e
    · rename_i h
      cases e
      exact .inl ⟨_, _, rep_int.mp hu, rep_int.mp hv, h, q _ H (Same.refl H) (rep_int.mpr rfl)⟩
    · split at e
      · rename_i h
        cases e
        exact .inr ⟨_, _, rep_int.mp hu, rep_int.mp hv, ⟨by omega, h.2⟩, q _ H (Same.refl H) (rep_int.mpr rfl)⟩
      · cases e
  · cases e
theorem ov_mod : OpV C (rI (fun _ j => j ≠ 0) fun i j => .int (i.fmod j)) modV := ov_ii fun x y z e => by
  unfold modV at e
  split at e
  · split at e
    · rename_i h; cases e; exact ⟨_, _, rfl, rfl, by omega, fun _ _ => rep_int.mpr (by rw [Int.fmod_eq_emod_of_nonneg _ (by omega)])⟩
    · split at e
      · rename_i h; cases e; exact ⟨_, _, rfl, rfl, h, fun _ _ => rep_int.mpr rfl⟩
      · cases e
  · cases e
theorem ov_pow : OpV C (rI CPow fun i j => .int (i ^ j.toNat)) powV := ov_ii fun x y z e => by
  unfold powV at e
  split at e
  · split at e
    · rename_i h; cases e; exact ⟨_, _, rfl, rfl, h, fun _ _ => rep_int.mpr rfl⟩
    · cases e
  · cases e
theorem ov_lt : OpV C (rI0 fun i j => .bl (decide (i < j))) ltV := ov_i0 fun x y z e => by
  unfold ltV at e
  split at e
  · cases e; exact ⟨_, _, rfl, rfl, fun _ _ => rep_bl.mpr rfl⟩
  · cases e
theorem ov_le : OpV C (rI0 fun i j => .bl (decide (i ≤ j))) leV := ov_i0 fun x y z e => by
  unfold leV at e
  split at e
  · cases e; exact ⟨_, _, rfl, rfl, fun _ _ => rep_bl.mpr rfl⟩
  · cases e
theorem ov_gt : OpV C (rI0 fun i j => .bl (decide (j < i))) gtV := ov_i0 fun x y z e => by
  unfold gtV at e
  split at e
  · cases e; exact ⟨_, _, rfl, rfl, fun _ _ => rep_bl.mpr rfl⟩
  · cases e
theorem ov_ge : OpV C (rI0 fun i j => .bl (decide (j ≤ i))) geV := ov_i0 fun x y z e => by
  unfold geV at e
  split at e
  · cases e; exact ⟨_, _, rfl, rfl, fun _ _ => rep_bl.mpr rfl⟩
  · cases e
theorem uv_neg : UnV C (rU fun i => .int (-i)) negV := fun A H u x z _ hu e Q q => by
  unfold negV at e
  split at e
  · cases e; exact ⟨_, rep_int.mp hu, q _ H (Same.refl H) (rep_int.mpr rfl)⟩
  · cases e
end
/-! ### == of data -/
mutual
def dat : Val → Option PyData
  | .non => some .none
  | .bl b => some (.bool b)
  | .int i => some (.int i)
  | .str s => some (.str s)
  | .tup xs => (dats xs).map .tuple
  | .lst xs => (dats xs).map .list
  | _ => none
def dats : List Val → Option (List PyData)
  | [] => some []
  | x :: xs => match dat x, dats xs with | some d, some ds => some (d :: ds) | _, _ => none
end
section
variable {X : Cx} {C : Cn} {A : Rg} {H : Hp}
mutual
theorem dat_dp : ∀ {x : Val} {v : V} {d : PyData}, rep C A H v x → dat x = some d → Dp C.K H v d
  | .non, _, _, r, e => by rw [rep_non.mp r]; unfold dat at e; cases e; exact .non
  | .bl _, _, _, r, e => by rw [rep_bl.mp r]; unfold dat at e; cases e; exact .bl _
  | .int _, _, _, r, e => by rw [rep_int.mp r]; unfold dat at e; cases e; exact .int _
  | .str _, _, _, r, e => by rw [rep_str.mp r]; unfold dat at e; cases e; exact .str _
  | .tup xs, v, d, r, e => by
    unfold dat at e
    obtain ⟨a, vs, rfl, h, rs⟩ := rep_tup.mp r
    cases e1 : dats xs with
    | none => rw [e1] at e; cases e
    | some ds => rw [e1] at e; cases e; exact .tup h.sq (dats_dp rs e1)
  | .lst xs, v, d, r, e => by
    unfold dat at e
    obtain ⟨a, vs, rfl, n, h, rs⟩ := rep_lst.mp r
    cases e1 : dats xs with
    | none => rw [e1] at e; cases e
    | some ds => rw [e1] at e; cases e; exact .lst (SqL.of h) (dats_dp rs e1)
  | .ty _, _, _, _, e => by unfold dat at e; cases e
  | .wr _, _, _, _, e => by unfold dat at e; cases e
  | .dic _ _, _, _, _, e => by unfold dat at e; cases e
  | .dit _ _, _, _, _, e => by unfold dat at e; cases e
  | .ins _ _ _, _, _, _, e => by unfold dat at e; cases e
  | .rng _ _, _, _, _, e | .scr _, _, _, _, e | .cl _, _, _, _, e | .err _ _ _, _, _, _, e | .olst _, _, _, _, e | .odic _ _, _, _, _, e | .odit _ _, _, _, _, e | .oins _ _ _, _, _, _, e => by unfold dat at e; cases e
theorem dats_dp : ∀ {xs : List Val} {vs : List V} {ds : List PyData}, reps C A H vs xs → dats xs = some ds → DpAll C.K H vs ds
  | [], vs, ds, r, e => by
    unfold reps at r; unfold dats at e; cases e; subst r; exact .nil
  | x :: xs, vs, ds, r, e => by
    unfold reps at r
    obtain ⟨v, r', rfl, h1, h2⟩ := r
    unfold dats at e
    split at e
    · rename_i d ds' e1 e2
      cases e
      exact .cons (dat_dp h1 e1) (dats_dp h2 e2)
    · cases e
end
end
def eqV : Val → Val → Option Val := fun x y => match dat x, dat y with
  | some d, some e => if SeqAt.shaped d = true ∧ SeqAt.shaped e = true then some (.bl (PyData.eqv d e)) else none
  | _, _ => none
def neV : Val → Val → Option Val := fun x y => match dat x, dat y with
  | some d, some e => if SeqAt.shaped d = true ∧ SeqAt.shaped e = true then some (.bl (!PyData.eqv d e)) else none
  | _, _ => none
section
variable {X : Cx} {C : Cn}
theorem ov_eq : OpV C (rEqD C.K) eqV := fun A H u v x y z _ hu hv e Q q => by
  unfold eqV at e
  split at e
  · rename_i d e' e1 e2
    split at e
    · rename_i h
      cases e
      exact ⟨d, e', dat_dp hu e1, dat_dp hv e2, h.1, h.2, q _ H (Same.refl H) (rep_bl.mpr rfl)⟩
    · cases e
  · cases e
theorem ov_ne : OpV C (rNeD C.K) neV := fun A H u v x y z _ hu hv e Q q => by
  unfold neV at e
  split at e
  · rename_i d e' e1 e2
    split at e
    · rename_i h
      cases e
      exact ⟨d, e', dat_dp hu e1, dat_dp hv e2, h.1, h.2, q _ H (Same.refl H) (rep_bl.mpr rfl)⟩
    · cases e
  · cases e
/-- is None, is True, is False -/
def isBV : Val → Val → Option Val | .bl a, .bl b => some (.bl (decide (a = b))) | _, _ => none
def isnotBV : Val → Val → Option Val | .bl a, .bl b => some (.bl (!decide (a = b))) | _, _ => none
theorem ov_isB : OpV C rIsB isBV := fun A H u v x y z _ hu hv e Q q => by
  unfold isBV at e
  split at e
  · cases e; exact ⟨_, _, rep_bl.mp hu, rep_bl.mp hv, q _ H (Same.refl H) (rep_bl.mpr rfl)⟩
  · cases e
theorem ov_isnotB : OpV C rNotB isnotBV := fun A H u v x y z _ hu hv e Q q => by
  unfold isnotBV at e
  split at e
  · cases e; exact ⟨_, _, rep_bl.mp hu, rep_bl.mp hv, q _ H (Same.refl H) (rep_bl.mpr rfl)⟩
  · cases e
/-! ### subscripts -/
def ixV : Val → Val → Option Val
  | .lst xs, .int i => atI xs i
  | .tup xs, .int i => atI xs i
  | .str s, .int i => if s.length ≤ sizeLine then (atI s.cps.toList i).map fun c => .str ⟨#[c]⟩ else none
  | _, _ => none
theorem ov_ix : OpV C (rIx C.K) ixV := fun A H u v x y z _ hu hv e Q q => by
  unfold ixV at e
  split at e
  · obtain ⟨a, vs, rfl, n, h, rs⟩ := rep_lst.mp hu
    obtain ⟨w, hw, rw'⟩ := rs.at e
    exact .inl ⟨a, vs, _, w, rfl, rep_int.mp hv, SqL.of h, hw, q w H (Same.refl H) rw'⟩
  · obtain ⟨a, vs, rfl, h, rs⟩ := rep_tup.mp hu
    obtain ⟨w, hw, rw'⟩ := rs.at e
    exact .inr (.inl ⟨a, vs, _, w, rfl, rep_int.mp hv, h.sq, hw, q w H (Same.refl H) rw'⟩)
  · split at e
    · rename_i s i hz
      cases e1 : atI s.cps.toList i with
      | none => rw [e1] at e; cases e
      | some c => rw [e1] at e; cases e; exact .inr (.inr ⟨s, i, c, rep_str.mp hu, rep_int.mp hv, hz, e1, q _ H (Same.refl H) (rep_str.mpr rfl)⟩)
    · cases e
  · cases e
/-! ### built-in calls -/
def f1 (f : Val → Option Val) : List Val → Option Val := fun xs => match xs with | [x] => f x | _ => none
theorem one_of {A : Rg} {H : Hp} {us : List V} {f : Val → Option Val} {xs : List Val} {z : Val} (r : reps C A H us xs) (e : f1 f xs = some z) : ∃ u x, us = [u] ∧ xs = [x] ∧ rep C A H u x ∧ f x = some z := by
  unfold f1 at e
  split at e
  · obtain ⟨v, rfl, rv⟩ := reps1 r
    exact ⟨v, _, rfl, rfl, rv, e⟩
  · cases e
def f2 (f : Val → Val → Option Val) : List Val → Option Val := fun xs => match xs with | [x, y] => f x y | _ => none
theorem two_of {A : Rg} {H : Hp} {us : List V} {f : Val → Val → Option Val} {xs : List Val} {z : Val} (r : reps C A H us xs) (e : f2 f xs = some z) : ∃ u w x y, us = [u, w] ∧ xs = [x, y] ∧ rep C A H u x ∧ rep C A H w y ∧ f x y = some z := by
  unfold f2 at e
  split at e
  · obtain ⟨v, w, rfl, rv, rw'⟩ := reps2 r
    exact ⟨v, w, _, _, rfl, rfl, rv, rw', e⟩
  · cases e
def intV : Val → Option Val | .int i => some (.int i) | .bl b => some (.int (if b = true then 1 else 0)) | _ => none
theorem cv_int : CbV C (fun xs H Q => (∃ i, xs = [.int i] ∧ Q (.int i) H) ∨ ∃ k, xs = [.bl k] ∧ Q (.int (if k then 1 else 0)) H) (f1 intV) := fun A H us xs z _ r e Q q => by
  obtain ⟨u, x, rfl, rfl, ru, e0⟩ := one_of r e
  clear e
  have e := e0
  clear e0
  unfold intV at e
  split at e
  · cases e; exact .inl ⟨_, by rw [rep_int.mp ru], q _ H (Same.refl H) (rep_int.mpr rfl)⟩
  · cases e; exact .inr ⟨_, by rw [rep_bl.mp ru], q _ H (Same.refl H) (rep_int.mpr rfl)⟩
  · cases e
def absVl : Val → Option Val | .int i => some (.int (if i < 0 then -i else i)) | _ => none
theorem cv_abs : CbV C (fun xs H Q => ∃ i, xs = [.int i] ∧ Q (.int (if i < 0 then -i else i)) H) (f1 absVl) := fun A H us xs z _ r e Q q => by
  obtain ⟨u, x, rfl, rfl, ru, e0⟩ := one_of r e
  clear e
  have e := e0
  clear e0
  unfold absVl at e
  split at e
  · cases e; exact ⟨_, by rw [rep_int.mp ru], q _ H (Same.refl H) (rep_int.mpr rfl)⟩
  · cases e
def lenV : Val → Option Val | .lst xs => some (.int xs.length) | .tup xs => some (.int xs.length) | .str s => if s.length ≤ sizeLine then some (.int s.length) else none | _ => none
abbrev rLenS : List V → Hp → VK → Prop := fun xs H Q => ∃ z, xs = [.str z] ∧ z.length ≤ sizeLine ∧ Q (.int z.length) H
abbrev rLenA (K : PySem.W.Frag) : List V → Hp → VK → Prop := fun xs H Q => (∃ p ys, xs = [.ref p] ∧ (SqL K H p ys ∨ SqT K H p ys) ∧ Q (.int ys.length) H) ∨ rLenS xs H Q
theorem cy_len : CallR X (.builtin "len") (rLenA X.K) := call_len_seq.or call_len_str
theorem cv_len : CbV C (rLenA C.K) (f1 lenV) := fun A H us xs z _ r e Q q => by
  obtain ⟨u, x, rfl, rfl, ru, e0⟩ := one_of r e
  clear e
  have e := e0
  clear e0
  unfold lenV at e
  split at e
  · cases e
    obtain ⟨a, vs, rfl, n, h, rs⟩ := rep_lst.mp ru
    exact .inl ⟨a, vs, rfl, .inl (SqL.of h), q _ H (Same.refl H) (rep_int.mpr (by rw [rs.len]))⟩
  · cases e
    obtain ⟨a, vs, rfl, h, rs⟩ := rep_tup.mp ru
    exact .inl ⟨a, vs, rfl, .inr h.sq, q _ H (Same.refl H) (rep_int.mpr (by rw [rs.len]))⟩
  · split at e
    · rename_i hz
      cases e
      exact .inr ⟨_, by rw [rep_str.mp ru], hz, q _ H (Same.refl H) (rep_int.mpr rfl)⟩
    · cases e
  · cases e
/-- list(x) -/
def listV : List Val → Option (List Val) | [.lst xs] => some xs | [.tup xs] => some xs | _ => none
theorem cv_list : CfV C (fun xs H Q => ∃ p ys, xs = [.ref p] ∧ (SqL C.K H p ys ∨ SqT C.K H p ys) ∧ ∀ l, H l = none → Q (.ref l) (upd H l (.lst ys))) listV := fun A H us xs z _ r e Q q => by
  unfold listV at e
  split at e
  · cases e
    obtain ⟨v, rfl, rv⟩ := reps1 r
    obtain ⟨a, vs, rfl, n, h, rs⟩ := rep_lst.mp rv
    exact ⟨a, vs, rfl, .inl (SqL.of h), fun l hl => q l vs hl rs⟩
  · cases e
    obtain ⟨v, rfl, rv⟩ := reps1 r
    obtain ⟨a, vs, rfl, h, rs⟩ := rep_tup.mp rv
    exact ⟨a, vs, rfl, .inr h.sq, fun l hl => q l vs hl rs⟩
  · cases e
/-- lists of ints, of truths -/
def intsOf : List Val → Option (List Int)
  | [] => some []
  | .int i :: xs => (intsOf xs).map (i :: ·)
  | _ :: _ => none
def blsOf : List Val → Option (List Bool)
  | [] => some []
  | .bl i :: xs => (blsOf xs).map (i :: ·)
  | _ :: _ => none
theorem ints_rep {A : Rg} {H : Hp} : ∀ {xs : List Val} {vs : List V} {ns : List Int}, reps C A H vs xs → intsOf xs = some ns → vs = ns.map V.int
  | [], vs, ns, r, e => by unfold reps at r; unfold intsOf at e; cases e; subst r; rfl
  | x :: xs, vs, ns, r, e => by
    unfold reps at r
    obtain ⟨v, r', rfl, h1, h2⟩ := r
    cases x with
    | int i =>
      unfold intsOf at e
      cases e1 : intsOf xs with
      | none => rw [e1] at e; cases e
      | some ms => rw [e1] at e; cases e; rw [ints_rep h2 e1, rep_int.mp h1]; rfl
    | _ => unfold intsOf at e; cases e
theorem bls_rep {A : Rg} {H : Hp} : ∀ {xs : List Val} {vs : List V} {ns : List Bool}, reps C A H vs xs → blsOf xs = some ns → vs = ns.map V.bl
  | [], vs, ns, r, e => by unfold reps at r; unfold blsOf at e; cases e; subst r; rfl
  | x :: xs, vs, ns, r, e => by
    unfold reps at r
    obtain ⟨v, r', rfl, h1, h2⟩ := r
    cases x with
    | bl i =>
      unfold blsOf at e
      cases e1 : blsOf xs with
      | none => rw [e1] at e; cases e
      | some ms => rw [e1] at e; cases e; rw [bls_rep h2 e1, rep_bl.mp h1]; rfl
    | _ => unfold blsOf at e; cases e
def allV : Val → Option Val | .lst xs => (blsOf xs).map fun bs => .bl (bs.all id) | _ => none
theorem cv_all : CbV C (rAll C.K) (f1 allV) := fun A H us xs z _ r e Q q => by
  obtain ⟨u, x, rfl, rfl, ru, e0⟩ := one_of r e
  clear e
  have e := e0
  clear e0
  unfold allV at e
  split at e
  · rename_i ys
    obtain ⟨a, vs, rfl, n, h, rs⟩ := rep_lst.mp ru
    cases e1 : blsOf ys with
    | none => rw [e1] at e; cases e
    | some bs =>
      rw [e1] at e; cases e
      exact ⟨a, bs, rfl, by rw [← bls_rep rs e1]; exact SqL.of h, q _ H (Same.refl H) (rep_bl.mpr rfl)⟩
  · cases e
def maxL : List Int → Option Int
  | [] => none
  | [x] => some x
  | x :: xs => (maxL xs).map fun m => max x m
theorem maxL_ok : ∀ {ns : List Int} {m : Int}, maxL ns = some m → m ∈ ns ∧ ∀ y ∈ ns, y ≤ m
  | [x], m, e => by cases e; simp
  | x :: y :: xs, m, e => by
    unfold maxL at e
    cases e1 : maxL (y :: xs) with
    | none => rw [e1] at e; cases e
    | some k =>
      rw [e1] at e; cases e
      obtain ⟨h1, h2⟩ := maxL_ok e1
      show max x k ∈ x :: y :: xs ∧ ∀ z ∈ x :: y :: xs, z ≤ max x k
      constructor
      · by_cases h : x ≤ k
        · rw [Int.max_eq_right h]; exact List.mem_cons_of_mem _ h1
        · rw [Int.max_eq_left (by omega)]; exact List.mem_cons_self
      · intro z hz
        rcases List.mem_cons.mp hz with rfl | hz
        · exact Int.le_max_left _ _
        · exact Int.le_trans (h2 z hz) (Int.le_max_right _ _)
def maxV : Val → Option Val | .lst xs => (intsOf xs).bind fun ns => (maxL ns).map .int | _ => none
theorem cv_max : CbV C (rMax C.K) (f1 maxV) := fun A H us xs z _ r e Q q => by
  obtain ⟨u, x, rfl, rfl, ru, e0⟩ := one_of r e
  clear e
  have e := e0
  clear e0
  unfold maxV at e
  split at e
  · rename_i ys
    obtain ⟨a, vs, rfl, n, h, rs⟩ := rep_lst.mp ru
    cases e1 : intsOf ys with
    | none => rw [e1] at e; cases e
    | some ns =>
      rw [e1] at e
      cases e2 : maxL ns with
      | none => simp only [Option.bind_some] at e; rw [e2] at e; cases e
      | some m =>
        simp only [Option.bind_some] at e
        rw [e2] at e; cases e
        obtain ⟨h1, h2⟩ := maxL_ok e2
        refine ⟨a, ns, rfl, by rw [← ints_rep rs e1]; exact SqL.of h, List.length_pos_iff.mpr (fun z => by subst z; cases h1), fun m' k1 k2 => ?_⟩
        have : m' = m := Int.le_antisymm (h2 m' k1) (k2 m h1)
        subst this
        exact q _ H (Same.refl H) (rep_int.mpr rfl)
  · cases e
def sumV : Val → Option Val | .lst xs => (intsOf xs).map fun ns => .int ns.sum | _ => none
theorem cv_sum : CbV C (rSum C.K) (f1 sumV) := fun A H us xs z _ r e Q q => by
  obtain ⟨u, x, rfl, rfl, ru, e0⟩ := one_of r e
  clear e
  have e := e0
  clear e0
  unfold sumV at e
  split at e
  · rename_i ys
    obtain ⟨a, vs, rfl, n, h, rs⟩ := rep_lst.mp ru
    cases e1 : intsOf ys with
    | none => rw [e1] at e; cases e
    | some bs =>
      rw [e1] at e; cases e
      exact ⟨a, bs, rfl, by rw [← ints_rep rs e1]; exact SqL.of h, q _ H (Same.refl H) (rep_int.mpr rfl)⟩
  · cases e
def gcdV : Val → Val → Option Val | .int a, .int b => some (.int ((Nat.gcd a.natAbs b.natAbs : Nat) : Int)) | _, _ => none
theorem cv_gcd : CbV C rGcd (f2 gcdV) := fun A H us xs z _ r e Q q => by
  obtain ⟨u, w, x, y, rfl, rfl, ru, rw', e⟩ := two_of r e
  unfold gcdV at e
  split at e
  · cases e
    exact ⟨_, _, by rw [rep_int.mp ru, rep_int.mp rw'], q _ H (Same.refl H) (rep_int.mpr rfl)⟩
  · cases e
/-! ### isinstance of built-in classes -/
def kindOf : Val → Option String
  | .non => some "NoneType" | .bl _ => some "bool" | .int _ => some "int" | .str _ => some "str" | .lst _ => some "list" | .tup _ => some "tuple" | .dic _ _ => some "dict" | .dit _ _ => some "dict" | _ => none
def subTy (a b : String) : Option Bool :=
  if a ∈ ["NoneType", "bool", "int", "str", "list", "tuple", "dict"] ∧ b ∈ ["bool", "int", "str", "list", "tuple", "dict"] then some (a == b || (a == "bool" && b == "int")) else none
theorem subTy_ok {a b : String} {r : Bool} (h : subTy a b = some r) : kitB a b = some r := by
  unfold subTy at h
  split at h
  · rename_i m
    cases h
    obtain ⟨m1, m2⟩ := m
    simp only [List.mem_cons, List.not_mem_nil, or_false] at m1 m2
    rcases m1 with rfl | rfl | rfl | rfl | rfl | rfl | rfl <;> rcases m2 with rfl | rfl | rfl | rfl | rfl | rfl <;> decide +kernel
  · cases h
theorem kind_ok {A : Rg} {H : Hp} {v : V} {x : Val} {s : String} (r : rep C A H v x) (e : kindOf x = some s) : TyX C.K H v (.type s) := by
  cases x with
  | non => cases e; rw [rep_non.mp r]; exact .base .non
  | bl b => cases e; rw [rep_bl.mp r]; exact .base (.bl b)
  | int b => cases e; rw [rep_int.mp r]; exact .base (.int b)
  | str b => cases e; rw [rep_str.mp r]; exact .base (.str b)
  | lst xs => cases e; obtain ⟨a, vs, rfl, n, h, rs⟩ := rep_lst.mp r; exact .base (.lst h)
  | tup xs =>
    cases e
    obtain ⟨a, vs, rfl, h, rs⟩ := rep_tup.mp r
    rcases h with ⟨_, h⟩ | ⟨o, its, n, h, c, _⟩
    · exact .base (.tup h)
    · exact .kTuple h c
  | dic ks xs => cases e; obtain ⟨a, vs, rfl, n, h, rs⟩ := rep_dic.mp r; exact .base (.dK h)
  | dit ks xs =>
    cases e
    unfold rep at r
    obtain ⟨a, vs, rfl, n, h, rs⟩ := r
    exact .base (.dT h)
  | _ => cases e
/-- of one class or of a tuple of classes -/
def isAny (s : String) : List Val → Option Bool
  | [] => some false
  | .ty t :: r => match subTy s t, isAny s r with | some b, some c => some (b || c) | _, _ => none
  | _ :: _ => none
def isiV : Val → Val → Option Val := fun x c => match kindOf x, c with
  | some s, .ty t => (subTy s t).map .bl
  | some s, .tup cs => (isAny s cs).map .bl
  | _, _ => none
abbrev rIsiA (K : PySem.W.Frag) : List V → Hp → VK → Prop := fun xs H Q => rIsi K xs H Q ∨ (rIsiT K xs H Q ∨ rIsiK K xs H Q)
theorem cy_isi : CallR X (.builtin "isinstance") (rIsiA X.K) := call_isi.or (call_isiT.or call_isiK)
theorem isAny_ok {A : Rg} {H : Hp} {s : String} : ∀ {cs : List Val} {vs : List V} {b : Bool}, reps C A H vs cs → isAny s cs = some b → ∃ us, Paired ClsV vs us ∧ PySem.W.kitAny C.K (.type s) us = some b
  | [], vs, b, r, e => by unfold reps at r; unfold isAny at e; cases e; subst r; exact ⟨[], .nil, kitAny_nil⟩
  | c :: cs, vs, b, r, e => by
    unfold reps at r
    obtain ⟨v, r', rfl, h1, h2⟩ := r
    cases c with
    | ty t =>
      unfold isAny at e
      split at e
      · rename_i b1 b2 e1 e2
        cases e
        obtain ⟨us, k1, k2⟩ := isAny_ok h2 e2
        rw [rep_ty.mp h1]
        exact ⟨.type t :: us, .cons (.ty t) k1, kitAny_cons (kit_ty (subTy_ok e1)) (fun h => by rw [h]; exact k2) (fun h => by rw [h]; rfl)⟩
      · cases e
    | _ => unfold isAny at e; cases e
theorem cv_isi : CbV C (rIsiA C.K) (f2 isiV) := fun A H us xs z _ r e0 Q q => by
  obtain ⟨u, w, x, y, rfl, rfl, ru, rw', e⟩ := two_of r e0
  clear e0
  unfold isiV at e
  cases e1 : kindOf x with
  | none => rw [e1] at e; cases e
  | some s =>
    rw [e1] at e
    cases y with
    | ty t =>
      dsimp only at e
      cases e2 : subTy s t with
      | none => rw [e2] at e; cases e
      | some b =>
        rw [e2] at e; cases e
        rw [rep_ty.mp rw']
        exact .inl ⟨u, _, _, _, b, rfl, .ty t, kind_ok ru e1, kit_ty (subTy_ok e2), q _ H (Same.refl H) (rep_bl.mpr rfl)⟩
    | tup cs =>
      dsimp only at e
      obtain ⟨a, vs, rfl, h, rs⟩ := rep_tup.mp rw'
      cases e2 : isAny s cs with
      | none => rw [e2] at e; cases e
      | some b =>
        rw [e2] at e; cases e
        obtain ⟨ws, k1, k2⟩ := isAny_ok rs e2
        rcases h with ⟨_, h⟩ | h
        · exact .inr (.inl ⟨u, a, vs, _, ws, b, rfl, h, k1, kind_ok ru e1, k2, q _ H (Same.refl H) (rep_bl.mpr rfl)⟩)
        · obtain ⟨⟨c, dd, da, sl⟩, its, n, hk, hc, hd, _, hv⟩ := h
          dsimp only at hc hd
          subst hc; subst hd
          exact .inr (.inr ⟨u, a, dd, its.toList, n, sl, _, b, rfl, by simpa using hk, kind_ok ru e1, by rw [ClsV.all k1 hv]; exact k2, q _ H (Same.refl H) (rep_bl.mpr rfl)⟩)
    | _ => cases e
end
end Y

set_option Elab.async false
set_option linter.all false
set_option maxRecDepth 100000
set_option maxHeartbeats 4000000
set_option autoImplicit false
/-! WA: raise, keywords; more that is walked, assigned, made; what is known of a def. -/
namespace Y
open PySem PySem.Spec PyProof.Rows L2 Z
section
variable {X : Cx} {C : Cn} {E : XK} {e a b tg : Expr} {ma mb : ME} {ms mk : MS} {mi : MI} {es : List Expr} {ml : MA} {mf : ML} {pos : Pos}
/-! ### an error with one field -/
def sp1 (K : PySem.W.Frag) (f : Str) : Sp := fun vs H Q _ => ∃ a C v, vs = [.ref a, v] ∧ OexC K C ∧ PySem.W.findIn K (.ref C) f = some none ∧ H a = some (exo a C none) ∧ ∀ dx, H dx = none → dx ≠ a → Q .non (upd (upd H dx (exd dx [(f, v)])) a (exo a C (some dx)))
theorem ok_init1 {P : Program} {w : World} {K : PySem.W.Frag} {mg : Str → Option Value} {base : Heap} {x qual p f : Str} {st : Stmt} {fa : Addr} {fd : FuncData} (F : Fun K x qual st fa fd) (S : FnScope [("self" : Str), p] [("self" : Str), p] (defScope st))
    (hb : ∀ X : Cx, X.N = [("self" : Str), p] → X.env.scope = defScope st → X.K = K → PSs X (defBody st) (tOst K f (tVar 0) (tVar 1))) : FnOk P w K mg base (L2.CX P w) 1 fa fd [("self" : Str), p] (sp1 K f) := by
  refine F.okX (k := 0) S (fun vs H Q E h => ?_) (fun cdv A0 outer s H vs Q E hr h => ⟨_, hb _ rfl rfl rfl, ?_⟩)
  · obtain ⟨a, C, v, rfl, _⟩ := h; rfl
  · obtain ⟨a, C, v, rfl, o, n, h1, h2⟩ := h
    exact ⟨v, rfl, _, rfl, a, C, rfl, o, n, .inl ⟨h1, fun dx hd ne => h2 dx hd ne⟩⟩
/-- raise C(e, ..) -/
def raiseS (c : Nat) (ns : List Str) (ml : MA) : MS := fun ρ => ml ρ >>= fun x => if x.1.length = ns.length then .exc c ns x.1 x.2 else .bad
theorem ys_raise1 {st : Stmt} {c : Nat} {f : Str} (h : PS X st (fun _ σ H => tMkO (C.ca c) (sp1 C.K f) [] (SA C E ml) σ H fun cls d H' => E cls d H')) (o : OexC C.K (C.ca c)) (n : PySem.W.findIn C.K (.ref (C.ca c)) f = some none) : PS X st (SS C E (raiseS c [f] ml)) := PS.imp h fun D σ H ⟨B, A, ρ, N, hm⟩ =>
  ⟨B, A, ρ, N, Rs.wp_mono (Rs.wp_bind hm) (fun x hx vs H1 N1 g1 r1 => by
    obtain ⟨hl, hx⟩ := ite_bad hx
    have hl1 : vs.length = 1 := by rw [r1.len]; exact hl
    refine ⟨by omega, fun a ha => ?_⟩
    obtain ⟨v, rfl⟩ : ∃ v, vs = [v] := List.length_eq_one_iff.mp hl1
    refine ⟨a, C.ca c, v, rfl, o, n, upd_same, fun dx hd ne => ⟨rfl, dx, [(f, v)], upd_same, by rw [upd_ne ne]; exact upd_same, by rw [upd_ne ne] at hd; exact hd, ?_⟩⟩
    have hd1 : H1 dx = none := by rw [upd_ne ne] at hd; exact hd
    have s1 : Same H1 (upd (del (upd (upd (upd H1 a (exo a (C.ca c) none)) dx (exd dx [(f, v)])) a (exo a (C.ca c) (some dx))) a) dx (.xd [(f, v)])) := fun b u hb => by
      have hba : b ≠ a := ne_of_none hb ha
      have hbd : b ≠ dx := ne_of_none hb hd1
      rw [upd_ne hbd, del_ne hba, upd_ne hba, upd_ne hbd, upd_ne hba]
      exact hb
    exact hx dx [v] A σ _ (N1.same s1) (N1.fr dx (.of hd1)) upd_same hl.symm (reps.gr (.same s1) r1)) EXe.of⟩
/-! ### f(k = v, ..) -/
/-- as callM, the values in another order -/
def permM (g : List Val → List Val) (a : MA) : MA := fun ρ => a ρ >>= fun x => .ok (g x.1, x.2)
def tCallK0 (sp : Sp) (n : Nat) (gV : List V → List V) (E : XK) (tk : TA) : TE := fun σ H Q => tk σ H fun zs H2 => zs.length = n ∧ sp (gV zs) H2 Q E
theorem pe_callK0 {CXT : CXT} {k : Nat} {f : Addr} {fd : FuncData} {ps ks : List Str} {sp : Sp} {x : Str} {p pos : Pos} {kws : List Keyword} {tk : TA} {g : List Value → List Value} {gV : List V → List V} (F : FnOk X.prog X.w X.K X.mg X.base CXT k f fd ps sp) (hr : Room k X.A) (hg : Gl X x) (hm : X.mg x = some (.ref f)) (hk : PySem.W.keepIn X.K (.ref f) = true)
    (hb : ∀ (s : Shared) (ws : List Value), X.K.In s.heap → ws.length = ks.length → BindsTo s fd ⟨[], ks.zip ws⟩ (ps.zip (g ws))) (hv : ∀ {zs : List V} {ws : List Value}, zs.length = ks.length → Vals zs ws → Vals (gV zs) (g ws)) (hx : Passes CXT X E) (hkw : PK X kws tk)
    (hall : (backToKw pos (keywordEach kws X.env)).all (·.1.isSome) = true := by rfl) (hks : (backToKw pos (keywordEach kws X.env)).filterMap (·.1) = ks := by rfl) (hdb : (x == ("__debug__" : Str)) = false := by decide)
    (hpl : ((backTo pos (starEach [] X.env)).any (·.1) || (backToKw pos (keywordEach kws X.env)).any (·.1.isNone)) = false := by rfl) : PE X (.Call (.Name x p) [] kws pos) (tCallK0 sp ks.length gV E tk) := by
  refine ⟨fun pins s σ H Q I h => ?_⟩
  refine wpAny_Call_Name_kw (ld_glob I hg hm ?_ hdb)
  refine PySem.W.callWith_KW0 (h₀ := X.base) I.ok.mod.kin hk hall ?_ hpl
  refine thn (hkw.run pos pins s σ H _ I h) fun ws s2 ⟨zs, H2, I2, rz, l2, q2⟩ => ⟨I2.kIn, ?_⟩
  rw [hks]
  have r2 := hv l2 rz
  have lw : ws.length = ks.length := by rw [← Paired.length rz]; exact l2
  refine wpAny_call (codeAny_mono (F.run X.A X.stack s2 H2 ⟨[], ks.zip ws⟩ (g ws) (gV zs) Q E hr I2.env0 (hb s2 ws I2.kIn lw) r2 q2) fun r s' hq => ?_)
  cases r with
  | error e => exact hx pins σ H2 s2 e s' I2 hq
  | ok fl =>
    cases fl with
    | ret u => exact I2.after hq
    | next => exact False.elim hq
    | brk => exact False.elim hq
    | cont => exact False.elim hq
/-- the values in the order of the parameters -/
def pick {α : Type} (is : List Nat) (l : List α) : List α := is.filterMap fun i => l[i]?
theorem pick_pair {α β : Type} {R : α → β → Prop} {l : List α} {m : List β} (p : Paired R l m) : ∀ is : List Nat, Paired R (pick is l) (pick is m)
  | [] => .nil
  | i :: is => by
    unfold pick
    rw [List.filterMap_cons, List.filterMap_cons]
    cases e : m[i]? with
    | none =>
      have h1 := Paired.length p
      rw [List.getElem?_eq_none_iff] at e
      rw [List.getElem?_eq_none (show l.length ≤ i by omega)]
      exact pick_pair p is
    | some y =>
      obtain ⟨x, hx, r⟩ := at_ p e
      rw [hx]
      exact .cons r (pick_pair p is)
where at_ {α β : Type} {R : α → β → Prop} : ∀ {l : List α} {m : List β} {j : Nat} {y : β}, Paired R l m → m[j]? = some y → ∃ x, l[j]? = some x ∧ R x y
  | _, _, _, _, .nil, e => by simp at e
  | _, _, 0, _, .cons r _, e => by simp at e; subst e; exact ⟨_, rfl, r⟩
  | _, _, j + 1, y, .cons _ t, e => by
    obtain ⟨v, h1, h2⟩ := at_ (j := j) (y := y) t (by simpa using e)
    exact ⟨v, by simpa using h1, h2⟩
def pickM (m : Nat) (is : List Nat) (a : MA) : MA := fun ρ => a ρ >>= fun x => if x.1.length = m then .ok (pick is x.1, x.2) else .bad
theorem callK_rd {np n m : Nat} {is : List Nat} {body : MS} : ∀ σ H Q, SE C E (callM np n body (pickM m is ml)) σ H Q → tCallK0 (spF C np n body) m (pick is) E (SA C E ml) σ H Q := fun σ H Q ⟨B, A, ρ, N, hm⟩ =>
  ⟨B, A, ρ, N, Rs.wp_mono (Rs.wp_bind (Rs.wp_bind hm)) (fun x hx vs H1 N1 g1 r1 => by
    obtain ⟨hl, hx⟩ := ite_bad hx
    refine ⟨by rw [r1.len]; exact hl, ?_⟩
    have r2 : reps C A H1 (pick is vs) (pick is x.1) := reps_of (pick_pair r1.pair is)
    exact call_core N1 r2 (Rs.wp_mono hx (fun y hy v H2 N2 g2 r3 => hy v H2 N2 (g1.trans g2) r3) (EXe.tr g1))) fun _ _ _ _ h => h⟩
/-- a list or a tuple -/
def iSeq (K : PySem.W.Frag) (tl : TE) : TI := fun σ H R => tl σ H fun x H1 => ∃ a, x = .ref a ∧ (((∃ xs, SqL K H1 a xs) ∧ R (Itl K a) H1) ∨ ((∃ xs, SqT K H1 a xs) ∧ R (Itt K a) H1))
theorem pi_seq {l : Expr} {tl : TE} (hl : PE X l tl) : PI X tg l (iSeq X.K tl) := by
  refine ⟨fun pins s σ H R I h => thn (hl.run pins s σ H _ I h) fun v s1 hq => ?_⟩
  obtain ⟨x, H1, I1, r1, a, rfl, q1⟩ := hq
  cases r1
  have fp : ∀ b ∈ [s1.heap.objs.size], FpOk X pins H1 b := fun b hb => by rw [List.mem_singleton.mp hb]; exact I1.fpOk (Nat.le_refl _) (I1.hok.fresh (Nat.le_refl _))
  rcases q1 with ⟨⟨xs, hs⟩, q⟩ | ⟨⟨xs, hs⟩, q⟩
  · obtain ⟨its, _, pl, _⟩ := I1.list hs
    exact wpAny_pyIter_list pl.isList ⟨_, [_], _, _, H1, rfl, I1.kept (t' := s1.toks) (fun b o e => Heap.get?_push_of_some _ e), turn_list a _, ⟨_, Heap.get?_push_size _ rfl, rfl, rfl⟩, fp, q⟩
  · obtain ⟨its, _, pl, _⟩ := I1.tuple hs
    exact wpAny_pyIter_tuple (show s1.heap.IsTuple a its.toArray from pl) ⟨_, [_], _, _, H1, rfl, I1.kept (t' := s1.toks) (fun b o e => Heap.get?_push_of_some _ e), turn_tuple a _, ⟨_, Heap.get?_push_size _ rfl, rfl, rfl⟩, fp, q⟩
theorem yi_seq (hK : X.K = C.K) (h : PE X e (SE C E ma)) : PI X tg e (SI C E (walkM seqV ma)) := PI.imp (pi_seq h) fun σ H R ⟨B, A, ρ, N, hm⟩ =>
  ⟨B, A, ρ, N, Rs.wp_mono (Rs.wp_bind hm) (fun x hx v H1 N1 g1 r1 => by
    obtain ⟨xs, e, hz⟩ := Rs.wp_opt (Rs.wp_bind hx)
    rw [hK]
    unfold seqV at e
    split at e
    · rename_i q
      cases e
      rw [q] at r1
      obtain ⟨a, vs, rfl, n, h, r⟩ := rep_lst.mp r1
      exact ⟨a, rfl, .inl ⟨⟨vs, SqL.of h⟩, hz _ H1 N1 g1 (wk_list n h r)⟩⟩
    · rename_i q
      cases e
      rw [q] at r1
      obtain ⟨a, vs, rfl, h, r⟩ := rep_tup.mp r1
      exact ⟨a, rfl, .inr ⟨⟨vs, h.sq⟩, hz _ H1 N1 g1 (wk_tup h r)⟩⟩
    · cases e) fun _ _ _ _ h => h⟩
/-- enumerate(list) -/
def enumL (n : Nat) : List Val → List Val
  | [] => []
  | x :: xs => .tup [.int n, x] :: enumL (n + 1) xs
theorem enumL_length : ∀ (xs : List Val) (n : Nat), (enumL n xs).length = xs.length
  | [], _ => rfl
  | _ :: xs, n => by show (enumL (n + 1) xs).length + 1 = xs.length + 1; rw [enumL_length]
theorem enumL_get : ∀ (xs : List Val) (n i : Nat), (enumL n xs)[i]? = (xs[i]?).map fun x => .tup [.int ((n + i : Nat) : Int), x]
  | [], _, _ => rfl
  | x :: xs, n, 0 => rfl
  | x :: xs, n, i + 1 => by
    show (enumL (n + 1) xs)[i]? = _
    rw [enumL_get xs (n + 1) i]
    rw [List.getElem?_cons_succ, show n + 1 + i = n + (i + 1) by omega]
def enumM (m : MA) : MI := fun ρ => m ρ >>= fun x => match x.1 with | [.lst xs] => .ok (enumL 0 xs, x.2) | _ => .bad
theorem wk_enum {A : Rg} {H : Hp} {a : Addr} {vs : List V} {xs : List Val} (n : A a) (h : H a = some (.lst vs)) (r : reps C A H vs xs) : Wk C A (Ite C.K a) H (enumL 0 xs) := fun A' H' g fr => by
  have h' : SqL C.K H' a vs := SqL.of (g a _ nt n h).2
  have r' := (reps.gr g r).pair
  refine ⟨fun i x hx => ?_, ⟨vs, h', by rw [enumL_length, r.len]; exact Nat.le_refl _⟩⟩
  rw [enumL_get] at hx
  cases e : xs[i]? with
  | none => rw [e] at hx; cases hx
  | some y =>
    rw [e] at hx
    cases hx
    obtain ⟨v, hv, rv⟩ := wk_list.paired_at' r' e
    refine ⟨⟨vs, v, h', hv⟩, fun v2 H2 ⟨T, z, e2, hT, e3, k⟩ => ?_⟩
    subst e2
    subst e3
    have hz := k vs h'
    rw [hv] at hz
    cases hz
    exact ⟨same_new hT, rep_tup.mpr ⟨T, _, rfl, .inl ⟨fr T (.of hT), upd_same⟩, reps_cons (rep_int.mpr (by simp)) (reps_cons (rep.gr (gr_new hT) rv) reps_nil)⟩⟩
theorem yi_enum (hK : X.K = C.K) (h : PI X tg e (iEnum X.K (SA C E ml))) : PI X tg e (SI C E (enumM ml)) := PI.imp h fun σ H R ⟨B, A, ρ, N, hm⟩ =>
  ⟨B, A, ρ, N, Rs.wp_mono (Rs.wp_bind hm) (fun x hx us H1 N1 g1 r1 => by
    split at hx
    · rename_i xs q
      rw [q] at r1
      obtain ⟨v, rfl, rv⟩ := reps1 r1
      obtain ⟨a, vs, rfl, n, h, r⟩ := rep_lst.mp rv
      rw [hK]
      exact ⟨a, vs, rfl, SqL.of h, hx _ H1 N1 g1 (wk_enum n h r)⟩
    · exact hx.elim) fun _ _ _ _ h => h⟩
/-- script[:k] -/
def scrF (k : Nat) (m : ME) : ML := fun ρ => m ρ >>= fun x => match x.1 with | .scr ns => .ok ((ns.take k).map .int, x.2) | _ => .bad
theorem reps_ints {A : Rg} {H : Hp} : ∀ ns : List Int, reps C A H (ns.map V.int) (ns.map .int)
  | [] => reps_nil
  | n :: ns => reps_cons (rep_int.mpr rfl) (reps_ints ns)
theorem cutV_take (xs : List Int) (k : Nat) : cutV (xs.map V.int) none (some (k : Int)) = (xs.take k).map V.int := by
  unfold cutV
  rw [HT.sIx_none, HT.sIx_nat, List.drop_zero, List.map_take, List.length_map, Nat.sub_zero, Nat.min_comm]
  by_cases h : xs.length ≤ k
  · rw [Nat.min_eq_left h, List.take_of_length_le (by rw [List.length_map]; omega), List.take_of_length_le (by rw [List.length_map]; exact h)]
  · rw [Nat.min_eq_right (by omega)]
theorem yf_scr {k : Nat} (hK : X.K = C.K) (h : PE X e (tSl (rSlL X.K) (SE C E ma) tNoPart (tPart (tC (.int (k : Int)))))) : PE X e (SF C E (scrF k ma)) := PE.imp h fun σ H Q hs => by
  obtain ⟨B, A, ρ, N, hm⟩ := sf_of hs
  exact ⟨B, A, ρ, N, Rs.wp_mono (Rs.wp_bind hm) (fun x hx v H1 N1 g1 r1 => by
    split at hx
    · rename_i ns q
      rw [q] at r1
      obtain ⟨a, rfl, h⟩ := rep_scr.mp r1
      refine ⟨(k : Int), rfl, a, _, rfl, by rw [hK]; exact h.sq, fun p hp => ?_⟩
      rw [cutV_take]
      exact new_rd N1 g1 hx p _ hp (reps_ints _)
    · exact hx.elim) fun _ _ _ _ h => h⟩
/-- {} -/
theorem y_dic0 : PE X (.Dict [] [] pos) (SE C E (cstM (.dic [] []))) := PE.imp pe_dnewK fun σ H Q ⟨B, A, ρ, N, hm⟩ => fun p hp => hm _ _ (N.new hp) (.same N (same_new hp)) (rep_dic.mpr ⟨p, [], rfl, N.fr p (.of hp), upd_same, rfl, reps_nil⟩)
/-- x, y = a, b -/
def parS (i j : Nat) (m : MA) : MS := fun ρ => m ρ >>= fun x => match x.1 with
  | [u, v] => if freeS x.2 i = true ∧ freeS (x.2.set i (some (.fz u))) j = true then .ok (.nx ((x.2.set i (some (.fz u))).set j (some (.fz v)))) else .bad
  | _ => .bad
theorem ys_par {i j : Nat} {st : Stmt} (h : PS X st (tPar i j (SA C E ml))) : PS X st (SS C E (parS i j ml)) := PS.imp h fun D σ H ⟨B, A, ρ, N, hm⟩ =>
  ⟨B, A, ρ, N, Rs.wp_mono (Rs.wp_bind hm) (fun x hx us H1 N1 g1 r1 => by
    split at hx
    · rename_i u v q
      obtain ⟨⟨f1, f2⟩, hx⟩ := ite_bad hx
      rw [q] at r1
      obtain ⟨p, w, rfl, rp, rw'⟩ := reps2 r1
      exact ⟨p, w, rfl, hx A _ H1 ((N1.set f1 rp).set f2 rw') g1.g⟩
    · exact hx.elim) EXe.of⟩
/-- targets = e -/
def asgT (t : MT) (m : ME) : MS := fun ρ => m ρ >>= fun x => Rs.opt (t x.1 x.2) >>= fun ρ' => .ok (.nx ρ')
theorem ys_asgT {t : MT} {is : List Nat} {st : Stmt} (h : PS X st (tAsg (SE C E ma) (SG C is t))) : PS X st (SS C E (asgT t ma)) := PS.imp h fun D σ H ⟨B, A, ρ, N, hm⟩ =>
  ⟨B, A, ρ, N, Rs.wp_mono (Rs.wp_bind hm) (fun x hx v H1 N1 g1 r1 => by
    obtain ⟨ρ', e1, hx⟩ := Rs.wp_opt (Rs.wp_bind hx)
    exact ⟨B, A, x.2, x.1, ρ', N1, r1, e1, fun σ' N' _ => hx A σ' H1 N' g1.g⟩) EXe.of⟩
end
/-- what is known of a def -/
structure Df (P : Program) (w : World) (C : Cn) (mg : Str → Option Value) (base : Heap) (nm : Str) (k : Nat) (ps : List Str) (kws : List (List Str × List Nat)) (sp : Sp) where
  f : Addr
  fd : FuncData
  ok : FnOk P w C.K mg base (L2.CX P w) k f fd ps sp
  mgf : mg nm = some (.ref f)
  kp : PySem.W.keepIn C.K (.ref f) = true
  b : Binds C.K fd ps []
  kw : ∀ q ∈ kws, ∀ (s : Shared) (ws : List Value), C.K.In s.heap → ws.length = q.1.length → BindsTo s fd ⟨[], q.1.zip ws⟩ (ps.zip (pick q.2 ws))
/-- an error's class with one field -/
structure Ex1 (P : Program) (w : World) (C : Cn) (mg : Str → Option Value) (base : Heap) (nm : Str) (c : Nat) (p f : Str) where
  fi : Addr
  fd : FuncData
  o : OexC C.K (C.ca c)
  n : PySem.W.findIn C.K (.ref (C.ca c)) f = some none
  i : PySem.W.findIn C.K (.ref (C.ca c)) "__init__" = some (some (.ref fi))
  t : PySem.W.typeIn C.K (.ref fi) = some (.type "function")
  ok : FnOk P w C.K mg base (L2.CX P w) 1 fi fd [("self" : Str), p] (sp1 C.K f)
  b : Binds C.K fd [("self" : Str), p] []
  mgf : mg nm = some (.ref (C.ca c))
end Y

set_option Elab.async false
set_option linter.all false
set_option maxRecDepth 100000
set_option maxHeartbeats 4000000
set_option autoImplicit false
/-! WB: what is heard of a call: try: ask() except .. as error: the field of the error. -/
namespace Y
open PySem PySem.Spec PyProof.Rows L2 Z
theorem takes_len {X : Cx} {W : WX} (t : Takes X W) : Takes X (fun cls d σ H => σ.length = X.N.length → W cls d σ H) := fun u s' ⟨a, B, sI, pins, σ, H, cls, d, e, I, nb, up, sky, na, os, ag, w⟩ =>
  t u s' ⟨a, B, sI, pins, σ, H, cls, d, e, I, nb, up, sky, na, os, ag, w I.len⟩
/-- isinstance(e, c) of the error that the suite holds, its own dict known -/
def rIsD (K : PySem.W.Frag) (a D : Addr) (cls : Value) (d : Option Addr) : List V → Hp → VK → Prop := fun xs H Q => cls = .ref D ∧ (∃ dd fs, d = some dd ∧ H dd = some (.xd fs)) ∧ ∃ (c : V) (cv : Value) (b : Bool), xs = [.ref a, c] ∧ (∀ u, RelV c u → u = cv) ∧ PySem.W.kitOne K (.ref D) cv = some b ∧ Q (.bl b) H
theorem call_isD {X : Cx} {a D : Addr} {oe : Obj} {cls : Value} {d : Option Addr} {pn : List (Addr × Obj)} (C : ExcC X.K D) (hz : Zc cls d oe) (hf : ∃ vs, oe.data = .fields vs) : CallR (X.suite a ((a, oe) :: pn)) (.builtin "isinstance") (rIsD X.K a D cls d) := by
  intro pins s σ H xs us Q I r h
  obtain ⟨rfl, ⟨dd, fs, rfl, hdd⟩, c, cv, b, rfl, hcv, e, q⟩ := h
  obtain ⟨u, w, rfl, ru, rw'⟩ := vals2 r
  cases ru
  have ec := hcv _ rw'
  subst ec
  obtain ⟨hget, _⟩ := I.pin (a, oe) (List.mem_append.mpr (.inl List.mem_cons_self))
  obtain ⟨vs, hv⟩ := hf
  obtain ⟨mA, hns, _⟩ : ObjOk X.prog X.w H s.heap dd (.xd fs) := I.hok dd _ hdd
  obtain ⟨od, ho, _⟩ := lookIn_ns hns
  have J : PySem.W.InstAt s.heap a oe D (some od) := ⟨hget, hz.1, by unfold PySem.W.notCls; rw [hv] <;> rfl, by rw [hz.2]; exact ho⟩
  obtain ⟨cdD, hcD, _⟩ := PySem.W.any_some C.hd
  exact PySem.W.kia_one (PySem.W.kitx_exc (by rw [hcD]; rfl) C.hg C.hk C.hs C.ha C.hn C.ht C.hm) I.kIn J e (fun z => nomatch z) fun tk => ⟨.bl b, H, I.kept (t' := tk) fun _ _ z => z, rfl, q⟩
/-- what is known of the error's class D, one of those that S names -/
structure Hd (K : PySem.W.Frag) (S D : Addr) (f : Str) : Prop where
  e : ExcC K D
  x : XfC K D
  n : PySem.W.findIn K (.ref D) f = some none
  te : PySem.W.exmOne K (.ref D) (.ref S) = some true
/-- heard: the field of an error of the class D; None where there is none -/
def TH (D : Addr) (f : Str) : (XK → Hp → VK → Prop) → Hp → VK → Prop := fun tl H Q =>
  tl (fun cls d H' => cls = .ref D ∧ ∃ (dd : Addr) (fs : List (Str × V)) (v : V), d = some dd ∧ H' dd = some (.xd fs) ∧ fs.lookup f = some v ∧ Q v H') H (fun _ H' => Q .non H')
def hearM (c : Nat) (f : Str) (m : ME) : ME := fun ρ => match m ρ with
  | .ok x => .ok (.non, x.2)
  | .exc c' ns vs ρ' => if c' = c ∧ ns = [f] then (match vs with | [v] => .ok (v, ρ') | _ => .bad) else .bad
  | .bad => .bad
/-- heard: the field of an error of the class D; the answer where there is none -/
def TH2 (D : Addr) (f : Str) : (XK → Hp → VK → Prop) → Hp → VK → Prop := fun tl H Q =>
  tl (fun cls d H' => cls = .ref D ∧ ∃ (dd : Addr) (fs : List (Str × V)) (v : V), d = some dd ∧ H' dd = some (.xd fs) ∧ fs.lookup f = some v ∧ Q v H') H (fun v H' => Q v H')
def hearM2 (c : Nat) (f : Str) (m : ME) : ME := fun ρ => match m ρ with
  | .ok x => .ok x
  | .exc c' ns vs ρ' => if c' = c ∧ ns = [f] then (match vs with | [v] => .ok (v, ρ') | _ => .bad) else .bad
  | .bad => .bad
section
variable {X : Cx} {C : Cn} {E : XK} {e : Expr} {ma : ME}
theorem y_hear {c : Nat} {f : Str} (h : PE X e (LamX.tLam C.T (TH (C.ca c) f) (fun E' => SE C E' ma))) : PE X e (SE C E (hearM c f ma)) := PE.imp h fun σ H Q ⟨B, A, ρ, N, hm⟩ => by
  refine ⟨N.tb, fun H1 ex t1 => ?_⟩
  have k : ∀ a o, NT o → H a = some o → H1 a = some o := fun a o n h => ex a o h n
  have N1 := N.kept k (fun a h => h.bk k) t1
  have g1 : Gd σ A H ρ H1 ρ := .kept N k (fun a h => h.bk k)
  refine ⟨B, A, ρ, N1, ?_⟩
  unfold hearM at hm
  cases e : ma ρ with
  | bad => rw [e] at hm; exact hm.elim
  | ok x =>
    rw [e] at hm
    exact fun v H' N' g' r' => hm .non H' N' (g1.trans g') (rep_non.mpr rfl)
  | exc c' ns vs ρ' =>
    rw [e] at hm
    dsimp only at hm
    obtain ⟨⟨rfl, rfl⟩, hm2⟩ := ite_bad hm
    clear hm
    cases vs with
    | nil => exact hm2.elim
    | cons v r =>
      cases r with
      | cons _ _ => exact hm2.elim
      | nil =>
        intro d ws H' N' g' hd h1 hl r
        obtain ⟨u, rfl, ru⟩ := reps1 r
        exact ⟨rfl, d, _, u, rfl, h1, by simp [List.lookup], hm2 u H' N' (g1.trans g') ru⟩
theorem y_hear2 {c : Nat} {f : Str} (h : PE X e (LamX.tLam C.T (TH2 (C.ca c) f) (fun E' => SE C E' ma))) : PE X e (SE C E (hearM2 c f ma)) := PE.imp h fun σ H Q ⟨B, A, ρ, N, hm⟩ => by
  refine ⟨N.tb, fun H1 ex t1 => ?_⟩
  have k : ∀ a o, NT o → H a = some o → H1 a = some o := fun a o n h => ex a o h n
  have N1 := N.kept k (fun a h => h.bk k) t1
  have g1 : Gd σ A H ρ H1 ρ := .kept N k (fun a h => h.bk k)
  refine ⟨B, A, ρ, N1, ?_⟩
  unfold hearM2 at hm
  cases e : ma ρ with
  | bad => rw [e] at hm; exact hm.elim
  | ok x =>
    rw [e] at hm
    exact fun v H' N' g' r' => hm v H' N' (g1.trans g') r'
  | exc c' ns vs ρ' =>
    rw [e] at hm
    dsimp only at hm
    obtain ⟨⟨rfl, rfl⟩, hm2⟩ := ite_bad hm
    clear hm
    cases vs with
    | nil => exact hm2.elim
    | cons v r =>
      cases r with
      | cons _ _ => exact hm2.elim
      | nil =>
        intro d ws H' N' g' hd h1 hl r
        obtain ⟨u, rfl, ru⟩ := reps1 r
        exact ⟨rfl, d, _, u, rfl, h1, by simp [List.lookup], hm2 u H' N' (g1.trans g') ru⟩
end
end Y

set_option Elab.async false
set_option linter.all false
set_option maxRecDepth 100000
set_option maxHeartbeats 4000000
set_option autoImplicit false
/-! WC: the def that hears. -/
namespace Y
open PySem PySem.Spec PyProof.Rows L2 Z
theorem heard_gives {X : Cx} {Ng : List Str} {x a h e q f W B s : Str} {sg : Scope} {g CS D : Addr} {cdg : Value} {j1 j2 : Nat} {p1 p2 p3 q1 q2 q3 q4 q5 q6 q7 q8 q9 q10 q11 q12 q13 q14 q15 q16 q17 q18 : Pos}
    (hNg : Ng = [a, h, e]) (hnd : Ng.Nodup) (hh : sg.names.lookup h = some .local) (he : sg.names.lookup e = some .local)
    (hW : sg.names.lookup W = some .globalImplicit) (hB : sg.names.lookup B = some .globalImplicit) (hI : sg.names.lookup ("isinstance" : Str) = some .globalImplicit)
    (mW : X.mg W = some (.ref CS)) (mB : X.mg B = some (.ref D)) (mI : X.mg ("isinstance" : Str) = none)
    (dW : (W == ("__debug__" : Str)) = false) (dB : (B == ("__debug__" : Str)) = false) (dh : (h == ("__debug__" : Str)) = false) (de : (e == ("__debug__" : Str)) = false) (ch : (h == ("__classdict__" : Str)) = false) (ce : (e == ("__classdict__" : Str)) = false)
    (C : Hd X.K CS D f) (hk : PySem.W.kitOne X.K (.ref D) (.ref D) = some true)
    (hat : ∀ env : PySem.Env, attributeBase (.Name e q10) f env (eval (.Name e q10) env) = eval (.Name e q10) env) :
    LamX.GivesTo X Ng x sg g cdg [.Assign [.Name h q1] (.Constant .none j1 q2) q3, .Try [.Expr (.Call (.Name a p1) [] [] p2) p3] [.ExceptHandler (some (.Name W q4)) (some e) [.Assign [.Name h q5] (.IfExp (.Call (.Name "isinstance" q6) [.Name e q7, .Name B q8] [] q9) (.Attribute (.Name e q10) f q11) (.Constant (.str s) j2 q12) q13) q14] q15] [] [] q16, .Return (some (.Name h q17)) q18] a q (TH D f) := by
  subst hNg
  intro fa c' st H Q tl act hc hq
  have lh : ([a, h, e] : List Str)[1]? = some h := rfl
  have le : ([a, h, e] : List Str)[2]? = some e := rfl
  refine ⟨_, pss_cons (ps_set (i := 1) hnd rfl (.inl hh) pe_non (hs := ?_) (hf := .inr hh)) (pss_cons (ps_try_as (c := .ref CS) (i := 2)
      (tb := fun W D' σ H => ∃ Ech : XK, (∀ cls d σ' H', σ'.length = 3 → Ech cls d H' → W cls d σ' H') ∧ σ[0]? = some (some (.ref fa)) ∧ H c' = some (LamX.CodeO c' q) ∧ tl Ech H (fun _ H1 => D'.nx σ H1))
      rfl rfl hnd rfl he ⟨hW, dW, .inl mW⟩ LamX.takes0 (fun W' pn xe tk _ => ?_)
      (fun a' oe cls d pn hz hf => pss_one (ps_set (i := 1) hnd rfl (.inl hh)
        (pe_ifExp (pt_val (pe_callB (call_isD C.e hz hf) hI mI rfl (pa_cons (pe_var (i := 2) le (.inl he) de ce) (pa_cons (pe_glob (v := .ref D) hB mB rfl dB) pa_nil))))
          (pe_xf C.x C.n hz hf (pe_var (i := 2) le (.inl he) de ce) (hat _)) pe_str) (hs := ?_) (hf := .inr hh))))
      (pss_one (ps_ret (pe_var (i := 1) lh (.inl hh) dh ch)))), ?_⟩
  · rfl
  · refine ⟨fun pins s' σ H' D' I h' => ?_⟩
    obtain ⟨Ech, hW', h1, h2, h3⟩ := h'
    have hp := act _ pn xe Ech p1 p2 (takes_len tk) (fun cls d σ' H' z l => hW' cls d σ' H' l z)
    exact (pss_one (ps_expr (pos := p3) hp)).run pins s' σ H' D' I ⟨h1, h2, h3⟩
  · rfl
  · show ∃ Ech : XK, _ ∧ _ ∧ _ ∧ _
    refine ⟨fun cls d H' => cls = .ref D ∧ ∃ (dd : Addr) (fs : List (Str × V)) (v : V), d = some dd ∧ H' dd = some (.xd fs) ∧ fs.lookup f = some v ∧ Q v H', ?_, rfl, hc, ?_⟩
    · rintro cls d σ' H' hl ⟨rfl, dd, fs, v, rfl, hd, hf, hv⟩
      match σ', hl with
      | [s0, s1, s2], _ =>
        exact ⟨true, C.te, fun _ a' na => ⟨_, rfl, rfl, ⟨dd, fs, rfl, hd⟩, .ref D, .ref D, true, rfl, fun _ r => r, hk, true, rfl, ⟨_, rfl, rfl, rfl, dd, fs, v, rfl, hd, hf, _, rfl, hv⟩⟩, fun z => nomatch z⟩
    · have e : (fun (_ : V) (H' : Hp) => Q .non H') = fun (_ : V) (H1 : Hp) => tRet (tVar 1) { nx := fun _ H' => Q .non H', rt := Q } ((L2.start [a, h, e] [V.ref fa]).set 1 (some .non)) H1 := by
        funext _ H1
        exact propext ⟨fun z => ⟨_, rfl, z⟩, fun ⟨v, e, z⟩ => by cases e; exact z⟩
      have hq' := hq
      unfold TH at hq'
      rw [e] at hq'
      exact hq'
theorem heard_gives2 {X : Cx} {Ng : List Str} {x a h e q f W B s : Str} {sg : Scope} {g CS D : Addr} {cdg : Value} {j1 j2 : Nat} {p1 p2 p3 q1 q2 q3 q4 q5 q6 q7 q8 q9 q10 q11 q12 q13 q14 q15 q16 q17 q18 q19 : Pos}
    (hNg : Ng = [a, h, e]) (hnd : Ng.Nodup) (hh : sg.names.lookup h = some .local) (he : sg.names.lookup e = some .local)
    (hW : sg.names.lookup W = some .globalImplicit) (hB : sg.names.lookup B = some .globalImplicit) (hI : sg.names.lookup ("isinstance" : Str) = some .globalImplicit)
    (mW : X.mg W = some (.ref CS)) (mB : X.mg B = some (.ref D)) (mI : X.mg ("isinstance" : Str) = none)
    (dW : (W == ("__debug__" : Str)) = false) (dB : (B == ("__debug__" : Str)) = false) (dh : (h == ("__debug__" : Str)) = false) (de : (e == ("__debug__" : Str)) = false) (ch : (h == ("__classdict__" : Str)) = false) (ce : (e == ("__classdict__" : Str)) = false)
    (C : Hd X.K CS D f) (hk : PySem.W.kitOne X.K (.ref D) (.ref D) = some true)
    (hat : ∀ env : PySem.Env, attributeBase (.Name e q10) f env (eval (.Name e q10) env) = eval (.Name e q10) env) :
    LamX.GivesTo X Ng x sg g cdg [.Assign [.Name h q1] (.Constant .none j1 q2) q3, .Try [.Assign [.Name h q19] (.Call (.Name a p1) [] [] p2) p3] [.ExceptHandler (some (.Name W q4)) (some e) [.Assign [.Name h q5] (.IfExp (.Call (.Name "isinstance" q6) [.Name e q7, .Name B q8] [] q9) (.Attribute (.Name e q10) f q11) (.Constant (.str s) j2 q12) q13) q14] q15] [] [] q16, .Return (some (.Name h q17)) q18] a q (TH2 D f) := by
  subst hNg
  intro fa c' st H Q tl act hc hq
  have lh : ([a, h, e] : List Str)[1]? = some h := rfl
  have le : ([a, h, e] : List Str)[2]? = some e := rfl
  refine ⟨_, pss_cons (ps_set (i := 1) hnd rfl (.inl hh) pe_non (hs := ?_) (hf := .inr hh)) (pss_cons (ps_try_as (c := .ref CS) (i := 2)
      (tb := fun W D' σ H => ∃ Ech : XK, (∀ cls d σ' H', σ'.length = 3 → Ech cls d H' → W cls d σ' H') ∧ σ[0]? = some (some (.ref fa)) ∧ H c' = some (LamX.CodeO c' q) ∧ tl Ech H (fun v H1 => D'.nx (σ.set 1 (some v)) H1))
      rfl rfl hnd rfl he ⟨hW, dW, .inl mW⟩ LamX.takes0 (fun W' pn xe tk _ => ?_)
      (fun a' oe cls d pn hz hf => pss_one (ps_set (i := 1) hnd rfl (.inl hh)
        (pe_ifExp (pt_val (pe_callB (call_isD C.e hz hf) hI mI rfl (pa_cons (pe_var (i := 2) le (.inl he) de ce) (pa_cons (pe_glob (v := .ref D) hB mB rfl dB) pa_nil))))
          (pe_xf C.x C.n hz hf (pe_var (i := 2) le (.inl he) de ce) (hat _)) pe_str) (hs := ?_) (hf := .inr hh))))
      (pss_one (ps_ret (pe_var (i := 1) lh (.inl hh) dh ch)))), ?_⟩
  · rfl
  · refine ⟨fun pins s' σ H' D' I h' => ?_⟩
    obtain ⟨Ech, hW', h1, h2, h3⟩ := h'
    have hp := act _ pn xe Ech p1 p2 (takes_len tk) (fun cls d σ' H' z l => hW' cls d σ' H' l z)
    exact (pss_one (ps_set (pos := p3) (i := 1) hnd rfl (.inl hh) hp (hs := rfl) (hf := .inr hh))).run pins s' σ H' D' I ⟨h1, h2, h3⟩
  · rfl
  · show ∃ Ech : XK, _ ∧ _ ∧ _ ∧ _
    refine ⟨fun cls d H' => cls = .ref D ∧ ∃ (dd : Addr) (fs : List (Str × V)) (v : V), d = some dd ∧ H' dd = some (.xd fs) ∧ fs.lookup f = some v ∧ Q v H', ?_, rfl, hc, ?_⟩
    · rintro cls d σ' H' hl ⟨rfl, dd, fs, v, rfl, hd, hf, hv⟩
      match σ', hl with
      | [s0, s1, s2], _ =>
        exact ⟨true, C.te, fun _ a' na => ⟨_, rfl, rfl, ⟨dd, fs, rfl, hd⟩, .ref D, .ref D, true, rfl, fun _ r => r, hk, true, rfl, ⟨_, rfl, rfl, rfl, dd, fs, v, rfl, hd, hf, _, rfl, hv⟩⟩, fun z => nomatch z⟩
    · have ee : (fun (v : V) (H1 : Hp) => tRet (tVar 1) { nx := fun _ H' => Q .non H', rt := Q } (((L2.start [a, h, e] [V.ref fa]).set 1 (some .non)).set 1 (some v)) H1) = Q := by
        funext v H1
        exact propext ⟨fun ⟨u, e, z⟩ => by cases e; exact z, fun z => ⟨_, rfl, z⟩⟩
      show tl _ H (fun (v : V) (H1 : Hp) => tRet (tVar 1) { nx := fun _ H' => Q .non H', rt := Q } (((L2.start [a, h, e] [V.ref fa]).set 1 (some .non)).set 1 (some v)) H1)
      rw [ee]
      exact hq
/-- a def that hears -/
structure Hear (C : Cn) (mg : Str → Option Value) (x a : Str) (c : Nat) (f : Str) (st : Stmt) (N : List Str) where
  g : Addr
  oc : Value
  cdv : Value
  kV : Value
  doc : Value
  pm : Value
  ct : Value
  od : Option Addr
  an : Option Addr
  osl : Array (Option Value)
  lk : C.K.lookup g = some ⟨oc, od, .func (PySem.W.fnOf x x (defArgs st) (defBody st) (defScope st) .none kV doc pm an cdv ct), osl⟩
  hcg : PySem.W.codeIn C.K cdv x = true
  mgf : mg x = some (.ref g)
  kp : PySem.W.keepIn C.K (.ref g) = true
  gives : ∀ X : Cx, X.K = C.K → X.mg = mg → ∀ q, LamX.GivesTo X N x (defScope st) g cdv (defBody st) a q (TH (C.ca c) f)
/-- a def in which lambdas are made: its code object and its table -/
structure LamD (C : Cn) (base : Heap) (mg : Str → Option Value) (c P : Addr) (q : Str) : Prop where
  tb : LamX.TabB base mg c P
  mem : (P, q) ∈ C.T
  un : ∀ p ∈ C.T, p.1 = P → p.2 = q
theorem y_lam {X : Cx} {C : Cn} {E : XK} {ma : ME} {x a : Str} {c : Nat} {f q : Str} {st : Stmt} {N : List Str} {cc P : Addr} {mg : Str → Option Value} {k : Nat} {params : Arguments} {body : Expr} {scope : Scope} {p lpos pos : Pos}
    (Hh : Hear C mg x a c f st N) (hK : X.K = C.K) (hmg : X.mg = mg) (hgl : Gl X x) (Sg : FnScope N [a] (defScope st)) (hN : N[0]? = some a) (hva : Vis (defScope st) a)
    (hb : ∀ us : List Value, us.length = 1 → bindArgs (PySem.W.fnOf x x (defArgs st) (defBody st) (defScope st) .none Hh.kV Hh.doc Hh.pm Hh.an Hh.cdv Hh.ct) ⟨us, []⟩ = pure (([a] : List Str).zip us))
    (D : LamD C X.base mg cc P q) (hcode : X.env.code = .ref cc) (hq : X.env.qual ++ "<lambda>" = q) (hr : Room (k + 2) X.A) (sc : Scope) (hsc : X.env.scope = sc) (L : LamX.LamS sc scope) (hdef : defaultsOf params X.env = ([], []))
    (hbind : ∀ (q : Str) (cl : List (Str × Addr)) (pm cv ctv : Value), bindArgs (PySem.W.kla_fn "<lambda>" q params body scope cl pm cv ctv) ⟨[], []⟩ = pure [])
    (hbody : ∀ (A : Around) (outer : List PySem.Env) (s : Shared) (H : Hp) (E : XK) (f c' : Addr), Room k (A.deeper (LamX.lamEnv X scope s.heap.objs.size f c')) → PE (LamX.lamCx X A outer s H E scope f c') body (SE C E ma))
    (hdb : (x == ("__debug__" : Str)) = false := by decide) (hd : (a == ("__debug__" : Str)) = false := by decide) (hcd : (a == ("__classdict__" : Str)) = false := by decide) :
    PE X (.Call (.Name x p) [.Lambda params body scope lpos] [] pos) (SE C E (hearM c f ma)) := by
  subst hmg hq hsc
  refine y_hear (LamX.pe_lamcall (T := C.T) (t := fun E' => SE C E' ma) hgl Hh.mgf (by rw [hK]; exact Hh.kp) (by rw [hK]; exact Hh.lk) (by rw [hK]; exact Hh.hcg) ?_ Sg hN hva (Hh.gives X hK rfl _) D.tb hcode D.mem D.un hr L hdef hbind hbody hdb hd hcd)
  exact Binds.all hb
/-- a def that hears -/
structure Hear2 (C : Cn) (mg : Str → Option Value) (x a : Str) (c : Nat) (f : Str) (st : Stmt) (N : List Str) where
  g : Addr
  oc : Value
  cdv : Value
  kV : Value
  doc : Value
  pm : Value
  ct : Value
  od : Option Addr
  an : Option Addr
  osl : Array (Option Value)
  lk : C.K.lookup g = some ⟨oc, od, .func (PySem.W.fnOf x x (defArgs st) (defBody st) (defScope st) .none kV doc pm an cdv ct), osl⟩
  hcg : PySem.W.codeIn C.K cdv x = true
  mgf : mg x = some (.ref g)
  kp : PySem.W.keepIn C.K (.ref g) = true
  gives : ∀ X : Cx, X.K = C.K → X.mg = mg → ∀ q, LamX.GivesTo X N x (defScope st) g cdv (defBody st) a q (TH2 (C.ca c) f)
theorem y_lam2 {X : Cx} {C : Cn} {E : XK} {ma : ME} {x a : Str} {c : Nat} {f q : Str} {st : Stmt} {N : List Str} {cc P : Addr} {mg : Str → Option Value} {k : Nat} {params : Arguments} {body : Expr} {scope : Scope} {p lpos pos : Pos}
    (Hh : Hear2 C mg x a c f st N) (hK : X.K = C.K) (hmg : X.mg = mg) (hgl : Gl X x) (Sg : FnScope N [a] (defScope st)) (hN : N[0]? = some a) (hva : Vis (defScope st) a)
    (hb : ∀ us : List Value, us.length = 1 → bindArgs (PySem.W.fnOf x x (defArgs st) (defBody st) (defScope st) .none Hh.kV Hh.doc Hh.pm Hh.an Hh.cdv Hh.ct) ⟨us, []⟩ = pure (([a] : List Str).zip us))
    (D : LamD C X.base mg cc P q) (hcode : X.env.code = .ref cc) (hq : X.env.qual ++ "<lambda>" = q) (hr : Room (k + 2) X.A) (sc : Scope) (hsc : X.env.scope = sc) (L : LamX.LamS sc scope) (hdef : defaultsOf params X.env = ([], []))
    (hbind : ∀ (q : Str) (cl : List (Str × Addr)) (pm cv ctv : Value), bindArgs (PySem.W.kla_fn "<lambda>" q params body scope cl pm cv ctv) ⟨[], []⟩ = pure [])
    (hbody : ∀ (A : Around) (outer : List PySem.Env) (s : Shared) (H : Hp) (E : XK) (f c' : Addr), Room k (A.deeper (LamX.lamEnv X scope s.heap.objs.size f c')) → PE (LamX.lamCx X A outer s H E scope f c') body (SE C E ma))
    (hdb : (x == ("__debug__" : Str)) = false := by decide) (hd : (a == ("__debug__" : Str)) = false := by decide) (hcd : (a == ("__classdict__" : Str)) = false := by decide) :
    PE X (.Call (.Name x p) [.Lambda params body scope lpos] [] pos) (SE C E (hearM2 c f ma)) := by
  subst hmg hq hsc
  refine y_hear2 (LamX.pe_lamcall (T := C.T) (t := fun E' => SE C E' ma) hgl Hh.mgf (by rw [hK]; exact Hh.kp) (by rw [hK]; exact Hh.lk) (by rw [hK]; exact Hh.hcg) ?_ Sg hN hva (Hh.gives X hK rfl _) D.tb hcode D.mem D.un hr L hdef hbind hbody hdb hd hcd)
  exact Binds.all hb
end Y

set_option Elab.async false
set_option linter.all false
set_option maxRecDepth 100000
set_option maxHeartbeats 4000000
set_option autoImplicit false
/-! WD: repr of data; defs that are called where no repr runs. -/
namespace Y
open PySem PySem.Spec PyProof.Rows L2 Z
/-! ### repr -/
def rRepr (K : PySem.W.Frag) : List V → Hp → VK → Prop := fun xs H Q => ∃ x d, xs = [x] ∧ Dp K H x d ∧ d.showable = true ∧ d.hasDict = false ∧ d.depth ≤ 40 ∧ d.shown.length ≤ sizeLine ∧ Q (.str d.shown) H
theorem call_repr_data {X : Cx} (hg : X.A.guards = some []) (hu : X.A.units + 64 < cLine) : CallR X (.builtin "repr") (rRepr X.K) := by
  intro pins s σ H xs us Q I r h
  obtain ⟨x, d, rfl, hd, hs, hn, hp, hz, q⟩ := h
  obtain ⟨u, rfl, ru⟩ := vals1 r
  obtain ⟨as, rd⟩ := Dp.reads I d x u hd ru
  have ref : ∀ a, u = .ref a → wpAny (model X.prog X.w) X.A (call (.builtin "repr") [u]) (EP X pins σ Q) X.xe s := fun a e => by
    subst e
    exact PySem.repr_of_reads' rd hs (fun e => by rw [hn] at e; cases e) hg (by omega) (fun _ _ e => e) (fun h' u tk hk => ⟨.str d.shown, H, I.kept (t' := tk) hk, ⟨u, rfl⟩, q⟩) hz
  cases rd with
  | none => exact PySem.P.repr_of_none ⟨.str _, H, I.tok _, ⟨_, rfl⟩, q⟩
  | bool b => exact PySem.P.repr_of_bool ⟨.str _, H, I.tok _, ⟨_, by cases b <;> rfl⟩, q⟩
  | int i t =>
    have hs' : i.natAbs.log2 < 1920 := by simpa [PyData.showable] using hs
    exact PySem.P.repr_of_int hs' ⟨.str _, H, I.tok _, ⟨_, rfl⟩, q⟩
  | str y t => exact PySem.P.repr_of_str ⟨.str _, H, I.tok _, ⟨_, rfl⟩, q⟩ hz
  | list _ _ _ _ => exact ref _ rfl
  | tuple _ _ _ _ => exact ref _ rfl
  | dict _ _ _ _ _ => cases hd
def reprV : Val → Option Val := fun x => match dat x with
  | some d => if d.showable = true ∧ d.hasDict = false ∧ d.depth ≤ 40 ∧ d.shown.length ≤ sizeLine then some (.str d.shown) else none
  | none => none
theorem cv_repr {C : Cn} : CbV C (rRepr C.K) (f1 reprV) := fun A H us xs z _ r e0 Q q => by
  obtain ⟨u, x, rfl, rfl, ru, e⟩ := one_of r e0
  unfold reprV at e
  split at e
  · rename_i d hd
    split at e
    · rename_i h
      cases e
      exact ⟨u, d, rfl, dat_dp ru hd, h.1, h.2.1, h.2.2.1, h.2.2.2, q _ H (Same.refl H) (rep_str.mpr rfl)⟩
    · cases e
  · cases e
/-! ### defs called where no repr runs -/
structure FnG (P : Program) (w : World) (K : PySem.W.Frag) (mg : Str → Option Value) (base : Heap) (k : Nat) (f : Addr) (fd : FuncData) (ps : List Str) (sp : Sp) : Prop where
  len : ∀ vs H Q E, sp vs H Q E → vs.length = ps.length
  run : ∀ (A : Around) (outer : List PySem.Env) (s : Shared) (H : Hp) (args : Args) (us : List Value) (vs : List V) (Q : VK) (E : XK), A.guards = some [] → Room k A → Env0 P w K mg base A outer s H → BindsTo s fd args (ps.zip us) → Vals vs us → sp vs H Q E →
    codeAny (model P w) A (.call (.ref f) args) (CR (L2.CX P w) outer P w H s Q E) s
theorem FnG.of {P : Program} {w : World} {K : PySem.W.Frag} {mg : Str → Option Value} {base : Heap} {k : Nat} {f : Addr} {fd : FuncData} {ps : List Str} {sp : Sp} (F : FnOk P w K mg base (L2.CX P w) k f fd ps sp) : FnG P w K mg base k f fd ps sp :=
  ⟨F.len, fun A outer s H args us vs Q E _ => F.run A outer s H args us vs Q E⟩
section
variable {X : Cx} {k : Nat} {f : Addr} {fd : FuncData} {ps : List Str} {sp : Sp} {E : XK} {x : Str} {p pos : Pos} {e : Expr} {es : List Expr} {t : TA}
theorem pe_callG (F : FnG X.prog X.w X.K X.mg X.base k f fd ps sp) (hgd : X.A.guards = some []) (hr : Room k X.A) (hg : Gl X x) (hm : X.mg x = some (.ref f)) (hk : PySem.W.keepIn X.K (.ref f) = true) (hb : Binds X.K fd ps []) (hx : Passes (L2.CX X.prog X.w) X E) (ha : PA X (e :: es) t)
    (hs : starEach (e :: es) X.env = (false, eval e X.env) :: starEach es X.env := by rfl) (hpl : (backTo pos (starEach es X.env)).any (·.1) = false := by rfl) (hdb : (x == ("__debug__" : Str)) = false := by decide) :
    PE X (.Call (.Name x p) (e :: es) [] pos) (tCall sp [] E t) := by
  refine ⟨fun pins s σ H Q I h => ?_⟩
  refine wpAny_Call_Name_kw (ld_glob I hg hm ?_ hdb)
  refine PySem.W.callWith_K (h₀ := X.base) I.ok.mod.kin hk ?_ hs hpl
  refine thn (ha.run pos pins s σ H _ I h) fun us s1 ⟨vs, H1, I1, r1, q1⟩ => ⟨I1.kIn, ?_⟩
  have q1' : sp vs H1 Q E := by
    have q2 : sp (vs ++ []) H1 Q E := q1
    rw [List.append_nil] at q2
    exact q2
  have hl : us.length = ps.length := by rw [← r1.length]; exact F.len _ _ _ _ q1'
  refine wpAny_call (codeAny_mono (F.run X.A X.stack s1 H1 ⟨us, []⟩ us vs Q E hgd hr I1.env0 (by have := hb s1 us I1.kIn (by rw [List.append_nil]; exact hl); rw [List.append_nil] at this; exact this) r1 q1') fun r s' hq => ?_)
  cases r with
  | error z => exact hx pins σ H1 s1 z s' I1 hq
  | ok fl =>
    cases fl with
    | ret u => exact I1.after hq
    | next => exact False.elim hq
    | brk => exact False.elim hq
    | cont => exact False.elim hq
end
section
variable {C : Cn} {P : Program} {w : World} {mg : Str → Option Value} {base : Heap} {x qual : Str} {st : Stmt} {f : Addr} {N ps : List Str} {k : Nat} {body : MS}
theorem y_fnG {oc kV doc pm ct cdv : Value} {od an : Option Addr} {osl : Array (Option Value)} (lk : C.K.lookup f = some ⟨oc, od, .func (PySem.W.fnOf x qual (defArgs st) (defBody st) (defScope st) .none kV doc pm an cdv ct), osl⟩) (hcd : PySem.W.codeIn C.K cdv qual = true) (S : FnScope N ps (defScope st)) (hn : ps.length ≤ N.length)
    (hbody : ∀ (A : Around) (outer : List PySem.Env) (s : Shared) (H : Hp) (E : XK), A.guards = some [] → Room k (A.deeper (PyProof.Rows.envOfC qual (defScope st) s.heap.objs.size f cdv)) → PSs (cxOf (L2.CX P w) P w C.K mg base N qual (defScope st) f cdv A outer s H E) (defBody st) (SS C E body)) :
    FnG P w C.K mg base (k + 1) f (PySem.W.fnOf x qual (defArgs st) (defBody st) (defScope st) .none kV doc pm an cdv ct) ps (spF C ps.length N.length body) :=
  ⟨fun vs H Q E h => h.choose_spec.choose_spec.2.2.1, fun A outer s H args us vs Q E hg hr e0 hb r h =>
    LamX.run_ofS lk hcd S hr e0 hb r h.choose_spec.choose_spec.2.2.1 fun hr' => ⟨SS C E body, hbody A outer s H E hg hr', h.rd⟩⟩
end
/-- what is known of a def that is called where no repr runs -/
structure DfG (P : Program) (w : World) (C : Cn) (mg : Str → Option Value) (base : Heap) (nm : Str) (k : Nat) (ps : List Str) (sp : Sp) where
  f : Addr
  fd : FuncData
  ok : FnG P w C.K mg base k f fd ps sp
  mgf : mg nm = some (.ref f)
  kp : PySem.W.keepIn C.K (.ref f) = true
  b : Binds C.K fd ps []
end Y

set_option Elab.async false
set_option linter.all false
set_option maxRecDepth 100000
set_option maxHeartbeats 4000000
set_option autoImplicit false
/-! WE: the end of a law whose call is known to run where no repr runs. -/
namespace Y
open PySem PySem.Spec PyProof.Rows L2 Z
/-- the tables, and the script where it is not of the written part -/
def endH (T : List Addr) (a : Addr) (k : Bool) (o : Obj) (xs : List V) : Hp := fun b => if b ∈ T then some (.tbl #[]) else if b = a ∧ k = true then some (.frz o (.lst xs)) else none
section
variable {T : List Addr} {a b : Addr} {k : Bool} {o : Obj} {xs : List V}
theorem endH_tab (h : b ∈ T) : endH T a k o xs b = some (.tbl #[]) := if_pos h
theorem endH_scr (h : a ∉ T) (hk : k = true) : endH T a k o xs a = some (.frz o (.lst xs)) := (if_neg h).trans (if_pos ⟨rfl, hk⟩)
theorem endH_none (h : b ∉ T) (h2 : b = a → k = false) : endH T a k o xs b = none := (if_neg h).trans (if_neg fun ⟨e, z⟩ => by rw [h2 e] at z; cases z)
theorem endH_cases {u : HO} (h : endH T a k o xs b = some u) : (b ∈ T ∧ u = .tbl #[]) ∨ (b ∉ T ∧ b = a ∧ k = true ∧ u = .frz o (.lst xs)) := by
  unfold endH at h
  by_cases m : b ∈ T
  · rw [if_pos m] at h; cases h; exact .inl ⟨m, rfl⟩
  · rw [if_neg m] at h
    by_cases m2 : b = a ∧ k = true
    · rw [if_pos m2] at h; cases h; exact .inr ⟨m, m2.1, m2.2, rfl⟩
    · rw [if_neg m2] at h; cases h
end
/-- what the head leaves, as the end wants it -/
structure Lft (w : World) (K : PySem.W.Frag) (mg : Str → Option Value) (s : Shared) (a : Addr) (vs : List Value) (ns : List Int) (cs : List (Addr × Addr)) : Prop where
  kx : K.In s.heap
  gns : s.heap.Ns mainGlobals mg
  bt : ∃ mb, s.heap.Ns builtinsNs mb ∧ ∀ x : Str, x ≠ "__name__" → mb x = bootBuiltins x
  nl : s.heap.NoLimit
  gn : s.gens = #[]
  tb : ∀ p ∈ cs, s.heap.get? p.2 = some { cls := .none, data := .fields #[] }
  nt : ∀ p ∈ cs, K.lookup p.2 = none
  cd : ∀ p ∈ cs, PySem.W.CodeHd s.heap p.1 p.2
  bm : ∃ (bm : Addr) (ob : Obj), mg "__builtins__" = some (.ref bm) ∧ bm ≠ builtinsNs ∧ s.heap.get? bm = some ob ∧ ob.cls = .type "module" ∧ ob.dict = some builtinsNs ∧ ob.data = .plain
  scr : s.heap.get? a = some { cls := .type "list", data := .seq vs.toArray }
  iar : IntsAre vs ns
  len : ns.length ≤ sizeLine
theorem endG {P : Program} {w : World} {K : PySem.W.Frag} {mg : Str → Option Value} {k : Nat} {fa a : Addr} {cs : List (Addr × Addr)} {fd : FuncData} {x : Str} {sp : Sp} {s : Shared} {vs : List Value} {ns : List Int} (L : Lft w K mg s a vs ns cs) (hr : Room k callerA)
    (F : ∀ base : Heap, K.In base → base.Ns mainGlobals mg → (∀ p ∈ cs, LamX.TabB base mg p.1 p.2) → FnG P w K mg base k fa fd [x] sp) (hbind : ∀ (s : Shared) (u : Value), BindsTo s fd ⟨[u], []⟩ [(x, u)])
    (hsp : ∀ H : Hp, (∀ p ∈ cs, H p.2 = some (.tbl #[])) → SqL K H a (ns.map V.int) → sp [.ref a] H (fun v _ => v = .bl true) fun _ _ _ => False)
    (hCX : ∀ (H : Hp) (e : Value) (s' : Shared), L2.CX P w [] H s (fun _ _ _ => False) e s' → False) :
    codeAny (model P w) callerA (.call (.ref fa) ⟨[.ref a], []⟩) (fun r s' => r = .ok (.ret (.bool true)) ∧ OldK s.heap s'.heap ∧ s'.os = s.os ∧ AllBare s'.gens) s := by
  -- the abstract heap
  obtain ⟨kb, hk1, hk2⟩ : ∃ kb : Bool, (kb = true → K.lookup a = none) ∧ (kb = false → ∃ o, K.lookup a = some o) := by
    cases e : K.lookup a with
    | none => exact ⟨true, fun _ => rfl, fun z => nomatch z⟩
    | some o => exact ⟨false, (fun z => nomatch z), fun _ => ⟨o, rfl⟩⟩
  have tabAt : ∀ b ∈ cs.map (·.2), s.heap.get? b = some { cls := .none, data := .fields #[] } ∧ K.lookup b = none := fun b hb => by
    obtain ⟨p, hp, rfl⟩ := List.mem_map.mp hb
    exact ⟨L.tb p hp, L.nt p hp⟩
  have scrT : a ∉ cs.map (·.2) := fun z => by
    have q := congrArg Obj.data (Option.some.inj (L.scr.symm.trans (tabAt a z).1))
    exact nomatch q
  generalize hO : ({ cls := .type "list", data := .seq vs.toArray } : Obj) = so
  have hscr : s.heap.get? a = some so := by rw [← hO]; exact L.scr
  obtain ⟨H, hH⟩ : ∃ H, H = endH (cs.map (·.2)) a kb so (ns.map V.int) := ⟨_, rfl⟩
  have Hn : ∀ {b : Addr} {o : Obj}, s.heap.get? b = some o → (∀ v n, o.data ≠ .seq v n) → o.data ≠ .fields #[] → H b = none := fun {b o} e h1 h2 => by
    rw [hH]
    refine endH_none (fun z => ?_) fun z => ?_
    · rw [(tabAt b z).1] at e; cases e; exact h2 rfl
    · subst z; rw [L.scr] at e; cases e; exact (h1 _ _ rfl).elim
  have keepNs : ∀ {b : Addr} {m : Str → Option Value}, s.heap.Ns b m → (hidT s.heap H).Ns b m := fun {b m} ⟨o, es, ep, e, d, r⟩ =>
    ⟨o, es, ep, hidT_get e (Hn e (fun v n z => by rw [d] at z; cases z) fun z => by rw [d] at z; cases z), d, r⟩
  have kin : K.In (hidT s.heap H) := fun b o e => by
    refine hidT_get (L.kx b o e) ?_
    rw [hH]
    refine endH_none (fun z => ?_) fun z => ?_
    · rw [(tabAt b z).2] at e; cases e
    · cases kb with
      | false => rfl
      | true => subst z; rw [hk1 rfl] at e; cases e
  have md : L2.Mod K mg (hidT s.heap H) := by
    obtain ⟨mb, h1, h2⟩ := L.bt
    obtain ⟨mc, h3, h4⟩ := L.nl
    exact ⟨kin, keepNs L.gns, ⟨mb, keepNs h1, h2⟩, mc, keepNs h3, h4⟩
  have tabs : ∀ p ∈ cs, LamX.TabB (hidT s.heap H) mg p.1 p.2 := fun p hp => by
    obtain ⟨o, us, file, tf, flags, tg, inF, text, tt, e1, r1, r2, r3, rest⟩ := L.cd p hp
    obtain ⟨bm, ob, b1, b2, b3, b4, b5, b6⟩ := L.bm
    obtain ⟨og, es, ep, g1, g2, _⟩ := L.gns
    refine ⟨⟨o, us, file, tf, flags, tg, inF, text, tt, hidT_get e1 (Hn e1 (fun v n z => ?_) fun z => ?_), r1, r2, r3, rest⟩, ⟨bm, ob, b1, b2, fun z => ?_, fun z => ?_, hidT_get b3 (Hn b3 (fun v n z => ?_) fun z => ?_), b4, b5, b6⟩, fun z => ?_⟩
    · rw [r2] at z; cases z
    · rw [r2] at z; cases z; simp at r3
    · rw [z, g1] at b3; cases b3; rw [g2] at b6; cases b6
    · rw [z, L.tb p hp] at b3; cases b3; cases b6
    · rw [b6] at z; cases z
    · rw [b6] at z; cases z
    · rw [z, L.tb p hp] at g1; cases g1; cases g2
  have rv := vals_ints L.iar
  have hok : HOk P w H s.heap := fun b u z => by
    rw [hH] at z
    rcases endH_cases z with ⟨m, rfl⟩ | ⟨_, rfl, _, rfl⟩
    · exact (tabAt b m).1
    · exact ⟨hscr, by rw [List.length_map]; exact L.len, vs, _, rv, hO ▸ hscr⟩
  have sq : SqL K H a (ns.map V.int) := by
    cases kb with
    | true => exact .inl (.inr ⟨so, by rw [hH]; exact endH_scr scrT rfl⟩)
    | false =>
      obtain ⟨o, e⟩ := hk2 rfl
      have q := L.kx a o e
      rw [L.scr] at q; cases q
      exact .inr ⟨_, vs.toArray, _, e, rfl, rfl, rfl, by rw [List.size_toArray, L.iar.length]; exact L.len, by simpa using rv⟩
  have tH : ∀ p ∈ cs, H p.2 = some (.tbl #[]) := fun p hp => by rw [hH]; exact endH_tab (List.mem_map.mpr ⟨p, hp, rfl⟩)
  have e0 : Env0 P w K mg (hidT s.heap H) callerA [] s H :=
    ⟨rfl, md, fun b o e => of_hidT e, Nat.le_of_eq (hidT_size _ _), trivial, (fun b hb => nomatch hb), hok, .of_eq L.gn⟩
  refine codeAny_mono ((F _ kin (keepNs L.gns) tabs).run callerA [] s H ⟨[.ref a], []⟩ [.ref a] [.ref a] _ _ rfl hr e0 (hbind s (.ref a)) (.cons rfl .nil) (hsp H tH sq)) fun r s' h => ?_
  cases r with
  | error e => exact (hCX H e s' h).elim
  | ok fl =>
    cases fl with
    | next => exact False.elim h
    | brk => exact False.elim h
    | cont => exact False.elim h
    | ret u =>
      obtain ⟨v, H', os, bare, un, hok', r', q⟩ := h
      have q' : v = .bl true := q
      subst q'
      obtain rfl : u = Value.bool true := r'
      -- what was there is there as it was, but for the tables
      have same : ∀ b o, b ∉ cs.map (·.2) → s.heap.get? b = some o → s'.heap.get? b = some o := fun b o nb e => by
        cases z : H b with
        | none => exact un.keep b o e z (fun z => nomatch z) (fun z => nomatch z)
        | some u =>
          rw [hH] at z
          rcases endH_cases z with ⟨m, _⟩ | ⟨_, _, _, rfl⟩
          · exact (nb m).elim
          · rw [← hH] at z
            have o1 := (hok b _ z).1
            have o2 := (hok' b _ (un.frzs b _ _ z)).1
            rw [e] at o1; cases o1
            exact o2
      have grow : ∀ b ∈ cs.map (·.2), ∃ p ∈ cs, p.2 = b ∧ ∃ more : Array Value, s'.heap.get? b = some { cls := .none, data := .fields more } := fun b hb => by
        obtain ⟨p, hp, rfl⟩ := List.mem_map.mp hb
        obtain ⟨more, z⟩ := un.tbls p.2 #[] (tH p hp)
        exact ⟨p, hp, rfl, _, hok' p.2 _ z⟩
      refine ⟨rfl, ⟨fun b o e => ?_, fun b o e => ?_⟩, os, bare⟩
      · by_cases hb : b ∈ cs.map (·.2)
        · obtain ⟨p, hp, rfl, more, hm⟩ := grow b hb
          rw [L.tb p hp] at e; cases e
          exact .inr (.inl ⟨((L.cd p hp).tab (L.tb p hp)).isCodeTable, rfl, #[], more, rfl, by rw [Array.empty_append]; exact hm⟩)
        · exact .inl (same b o hb e)
      · by_cases hb : b ∈ cs.map (·.2)
        · obtain ⟨_, _, _, _, hm⟩ := grow b hb
          exact ⟨_, hm⟩
        · exact ⟨o, same b o hb e⟩
/-- what is known of the law's promise at the head's heap -/
def LawAtG (l : PySem.W.OpenLaw) (w : World) (K : PySem.W.Frag) (k n : Nat) (x : Str) (mg : Str → Option Value) (fa : Addr) (h : Heap) : Prop :=
  ∃ (fd : FuncData) (cs : List (Addr × Addr)) (sp : Sp), (∀ p ∈ cs, h.get? p.2 = some { cls := .none, data := .fields #[] }) ∧ (∀ p ∈ cs, K.lookup p.2 = none) ∧ (∀ p ∈ cs, PySem.W.CodeHd h p.1 p.2) ∧ (∀ (s : Shared) (u : Value), BindsTo s fd ⟨[u], []⟩ [(x, u)]) ∧
    (∀ (H : Hp) (a : Addr) (ns : List Int), ns.length ≤ n → (∀ z ∈ ns, Builtin.Int.intBits z ≤ 1048576) → (∀ p ∈ cs, H p.2 = some (.tbl #[])) → SqL K H a (ns.map V.int) → sp [.ref a] H (fun v _ => v = .bl true) fun _ _ _ => False) ∧
    ∀ base : Heap, K.In base → base.Ns mainGlobals mg → (∀ p ∈ cs, LamX.TabB base mg p.1 p.2) → FnG l.prog w K mg base k fa fd [x] sp
theorem walkG {l : PySem.W.OpenLaw} {n k : Nat} {q : Program} {loose : List Str} {XP : (Str → Option Value) → Heap → Prop} {YP : World → Heap → Prop} {d : DefRec} {K : Params → PySem.W.Frag} {x : Str}
    (hn : l.most = some n) (hn2 : n ≤ sizeLine) (hdf : d.params.defaults = []) (hr : Room k callerA) (hY : ∀ (w : World) (h : Heap), YP w h → (K w.params).In h)
    (F : ∀ (w : World) (mg : Str → Option Value) (fa : Addr) (h : Heap), YP w h → (K w.params).In h → h.Ns mainGlobals mg → mg d.name = some (.ref fa) → LawAtG l w (K w.params) k n x mg fa h)
    (hCX : ∀ (w : World) (H : Hp) (s : Shared) (e : Value) (s' : Shared), L2.CX l.prog w [] H s (fun _ _ _ => False) e s' → False) :
    PySem.W.WalkO q loose XP YP l.row.toRowW d [] (fun f vs => PySem.call f vs) := by
  refine Att.attach_callB hn hdf fun w s₀ s₁ mg mb fa o pm cd doc a vs ns G Y ho hd hcd hmg hobj hints hlen hbits hg => ?_
  have KX := hY w _ Y
  obtain ⟨fd, cs, sp, hT, nT, hC, hb, hsp, hF⟩ := F w mg fa _ Y KX G.T.g hmg
  exact endG (w := w) ⟨KX, G.T.g, ⟨mb, G.T.b, G.T.builtins⟩, G.T.nolimit, hg, hT, nT, hC, G.T.bmain, hobj, hints, Nat.le_trans hlen hn2⟩ hr hF hb (fun H hH hS => hsp H a ns hlen hbits hH hS) fun H e s' => hCX w H s₁ e s'
end Y

set_option Elab.async false
set_option linter.all false
set_option maxRecDepth 100000
set_option maxHeartbeats 4000000
set_option autoImplicit false
/-! WZ: zip(reversed(list or tuple), list). -/
namespace Y
open PySem PySem.Spec PyProof.Rows L2 Z
section
variable {prog : Program} {w : World} {A : Around} {E : Value → Shared → Prop} {s : Shared} {Q : Value → Shared → Prop} {it l : Addr}
theorem nextOf_by {T id : String} {B : Builtin} (hT : s.TypeIs (.ref it) T) (sl : Slot T "__next__" id) (en : entryFor table id = some B) (ar : argsOk id ⟨[.ref it], []⟩)
    (hc : wpAny (model prog w) A.in1 (B ⟨[.ref it], []⟩) (fun fin s' => ∃ v, fin = .done (.ret v) ∧ Q v s') E s) : wpAny (model prog w) A (Builtin.SmallTypes.nextOf (.ref it)) Q E s := by
  unfold Builtin.SmallTypes.nextOf
  exact wpAny_bind (wpAny_callSpecial?_slot (name := Str.ofString "__next__") hT sl (wpAny_call_entry sl hT en (wpAny_mono hc (fun f s' ⟨v, e, q⟩ => ⟨v, e, wpAny_pure q⟩) fun _ _ e => e) ar))
/-- a StopIteration is raised -/
theorem stop_by {α : Type} {F : α → Shared → Prop} (hh : A.handled = none) (h : ∀ h' e, (∀ b o, s.heap.get? b = some o → h'.get? b = some o) → (∃ o, h'.get? e = some o ∧ o.cls = .type "StopIteration") → E (.ref e) { s with heap := h' }) : wpAny (model prog w) A (Builtin.SmallTypes.stopIteration (α := α)) F E s := by
  unfold Builtin.SmallTypes.stopIteration
  refine wpAny_bind ?_
  simp only [newExc, newTuple]
  refine wpAny_bind (wpAny_newObj_type (wpAny_bind (m := firstArgMember _ _) (wpAny_of_eq (a := Value.none) (by simp only [firstArgMember]; rfl) (wpAny_newObj_type ?_ (by size_fits)))) (by size_fits))
  simp only [raiseNew]
  refine wpAny_bind (wpAny_handled ?_)
  rw [hh]
  exact wpAny_bind (wpAny_pure (wpAny_throw (h _ _ (fun b o e => Heap.get?_push_of_some _ (Heap.get?_push_of_some _ e)) ⟨_, Heap.get?_push_size _ rfl, rfl⟩)))
theorem rev_item {i : Nat} {items : Array Value} {x : Value} (hit : s.heap.IsRevIter it l (i : Int)) (hl : s.heap.IsList l items) (hx : items[i]? = some x) (hQ : ∀ h', h'.IsRevIter it l ((i : Int) - 1) → Heap.SameBut it s.heap h' → Q x { s with heap := h' }) : wpAny (model prog w) A (Builtin.SmallTypes.nextOf (.ref it)) Q E s := by
  obtain ⟨o, ho, hc, hd⟩ := id hit
  obtain ⟨ol, hol, _, nl, hdl⟩ := hl
  refine nextOf_by hit.typeIs F.slot_lri_next F.entry_lri_next (F.args_lri_next_1 _) ?_
  unfold Builtin.«list_reverseiterator.__next__»
  refine wpAny_bind (wpAny_of_eq (a := (Value.ref it, [])) rfl (wpAny_bind (wpAny_field ho hd (x := rawInt (i : Int)) rfl ?_)))
  show wpAny _ _ (if (i : Int) < 0 then _ else _) _ _ s
  rw [if_neg (by omega)]
  refine wpAny_bind (wpAny_field ho hd (x := .ref l) rfl (wpAny_bind (wpAny_seqItems hol hdl ?_)))
  simp only [Int.toNat_natCast, hx]
  refine wpAny_bind (wpAny_setField ho hd (by simp) (wpAny_bind (wpAny_pure (wpAny_pure ⟨x, rfl, hQ _ ⟨_, Heap.get?_update_self _ ho (Obj.isFreed_of_fields (Obj.data_mapFields hd _)), (Obj.cls_mapFields ..).trans hc, ?_⟩ (Heap.SameBut.update ..)⟩))))
  rw [Obj.data_mapFields hd]; simp
theorem rev_end (hh : A.handled = none) (hit : s.heap.IsRevIter it l (-1)) (hE : ∀ h' e, Heap.ExtBut it s.heap h' → (∃ o, h'.get? e = some o ∧ o.cls = .type "StopIteration") → E (.ref e) { s with heap := h' }) : wpAny (model prog w) A (Builtin.SmallTypes.nextOf (.ref it)) Q E s := by
  obtain ⟨o, ho, hc, hd⟩ := id hit
  refine nextOf_by hit.typeIs F.slot_lri_next F.entry_lri_next (F.args_lri_next_1 _) ?_
  unfold Builtin.«list_reverseiterator.__next__»
  refine wpAny_bind (wpAny_of_eq (a := (Value.ref it, [])) rfl (wpAny_bind (wpAny_field ho hd (x := rawInt (-1)) rfl ?_)))
  show wpAny _ _ (if (-1 : Int) < 0 then _ else _) _ _ s
  rw [if_pos (by decide)]
  exact wpAny_bind (wpAny_rule (wpAny_bind (stop_by (A := A.in1) hh fun h' e k q => hE h' e (fun b o _ z => k b o z) q)))

theorem rt_item {i : Nat} {items : Array Value} {x : Value} (hit : RT.IsRt s.heap it l (i : Int)) (hl : IsTup s.heap l items) (hx : items[i]? = some x) (hsz : items.size ≤ sizeLine) (hQ : ∀ h', RT.IsRt h' it l ((i : Int) - 1) → Heap.SameBut it s.heap h' → Q x { s with heap := h', toks := s.toks + 1 }) : wpAny (model prog w) A (Builtin.SmallTypes.nextOf (.ref it)) Q E s := by
  obtain ⟨o, ho, hc, hd⟩ := id hit
  have hi : i < items.size := (Array.getElem?_eq_some_iff.mp hx).1
  have hT : s.TypeIs (.ref l) "tuple" := RT.IsTup.typeOf' hl
  rw [sizeLine_eq] at hsz
  refine nextOf_by hit.typeIs RT.slot_rt_next RT.entry_rt_next (RT.args_rt_next _) ?_
  unfold Builtin.«reversed.__next__»
  refine wpAny_bind (wpAny_of_eq (a := (Value.ref it, [])) rfl (wpAny_bind (wpAny_field ho hd (x := .ref l) rfl (wpAny_bind (wpAny_field ho hd (x := rawInt (i : Int)) rfl ?_)))))
  show wpAny _ _ (if (i : Int) < 0 then _ else _) _ _ s
  rw [if_neg (by omega)]
  refine wpAny_bind (wpAny_specialOf hT RT.get_tuple ?_)
  try dsimp only
  try rw [if_neg (by decide)]
  try dsimp only
  refine wpAny_bind (wpAny_mkInt (wpAny_bind (wpAny_attempt (PyProof.Rows.getItem_tuple (s := { s with toks := s.toks + 1 }) hl (by omega) (by omega) (seqIndex_of (by omega) (by omega)) hx ?_))))
  try dsimp only
  refine wpAny_bind (wpAny_field (s := { s with toks := s.toks + 1 }) ho hd (x := rawInt (i : Int)) rfl ?_)
  try dsimp only
  refine wpAny_bind (wpAny_setField (s := { s with toks := s.toks + 1 }) ho hd (by simp) (wpAny_pure ⟨x, rfl, hQ _ ⟨_, Heap.get?_update_self _ ho (Obj.isFreed_of_fields (Obj.data_mapFields hd _)), (Obj.cls_mapFields ..).trans hc, ?_⟩ (Heap.SameBut.update ..)⟩))
  rw [Obj.data_mapFields hd]; simp
theorem rt_end (hh : A.handled = none) (hit : RT.IsRt s.heap it l (-1)) (hE : ∀ h' e, Heap.ExtBut it s.heap h' → (∃ o, h'.get? e = some o ∧ o.cls = .type "StopIteration") → E (.ref e) { s with heap := h' }) : wpAny (model prog w) A (Builtin.SmallTypes.nextOf (.ref it)) Q E s := by
  obtain ⟨o, ho, hc, hd⟩ := id hit
  refine nextOf_by hit.typeIs RT.slot_rt_next RT.entry_rt_next (RT.args_rt_next _) ?_
  unfold Builtin.«reversed.__next__»
  refine wpAny_bind (wpAny_of_eq (a := (Value.ref it, [])) rfl (wpAny_bind (wpAny_field ho hd (x := .ref l) rfl (wpAny_bind (wpAny_field ho hd (x := rawInt (-1)) rfl ?_)))))
  show wpAny _ _ (if (-1 : Int) < 0 then _ else _) _ _ s
  rw [if_pos (by decide)]
  try dsimp only
  refine wpAny_bind (wpAny_rule (wpAny_bind ?_))
  wp_delta
  have ho2 := Heap.get?_update_self (Obj.mapFields (·.setIfInBounds 1 (rawInt (-1)))) ho (Obj.isFreed_of_fields (Obj.data_mapFields hd _))
  refine wpAny_bind (wpAny_setField ho hd (by simp) (wpAny_setField (s := { s with heap := s.heap.update it (Obj.mapFields (·.setIfInBounds 1 (rawInt (-1)))) }) ho2 (Obj.data_mapFields hd _) (by simp) ?_))
  refine wpAny_bind (stop_by (A := A.in1) hh fun h' e k q => hE h' e (fun b o hb z => k b o ?_) q)
  exact (Heap.get?_update_other _ _ (Ne.symm hb)).trans ((Heap.get?_update_other _ _ (Ne.symm hb)).trans z)
end
/-! ### as what is drawn -/
theorem draws_rev {prog : Program} {w : World} {A : Around} (hh : A.handled = none) (it l : Addr) (hne : l ≠ it) (items : Array Value) :
    Draws prog w A it [it, l] items.size (fun i v => items[items.size - 1 - i]? = some v) (fun i h => i ≤ items.size ∧ h.IsRevIter it l ((items.size : Int) - 1 - (i : Int)) ∧ h.IsList l items) where
  live := fun _ _ ⟨_, ⟨o, ho, _⟩, _⟩ => ⟨o, ho⟩
  frame := fun _ _ _ ⟨a, b, c⟩ hk => ⟨a, b.at fun o e => hk it (by simp) o e, c.at fun o e => hk l (by simp) o e⟩
  item := fun i s Q E hi ⟨_, hit, hl⟩ hQ => by
    have hx : items[items.size - 1 - i]? = some (items[items.size - 1 - i]'(by omega)) := Array.getElem?_eq_getElem (by omega)
    rw [show (items.size : Int) - 1 - (i : Int) = ((items.size - 1 - i : Nat) : Int) by omega] at hit
    refine rev_item hit hl hx fun h' hit' sb => hQ _ h' s.toks hx ⟨hi, ?_, hl.extBut sb.extBut hne⟩ sb
    rw [show (items.size : Int) - 1 - ((i + 1 : Nat) : Int) = ((items.size - 1 - i : Nat) : Int) - 1 by omega]
    exact hit'
  done := fun s Q E ⟨_, hit, _⟩ hE => by
    rw [show (items.size : Int) - 1 - (items.size : Int) = -1 by omega] at hit
    exact rev_end hh hit hE
theorem draws_rt {prog : Program} {w : World} {A : Around} (hh : A.handled = none) (it l : Addr) (hne : l ≠ it) (items : Array Value) (hsz : items.size ≤ sizeLine) :
    Draws prog w A it [it, l] items.size (fun i v => items[items.size - 1 - i]? = some v) (fun i h => i ≤ items.size ∧ RT.IsRt h it l ((items.size : Int) - 1 - (i : Int)) ∧ IsTup h l items) where
  live := fun _ _ ⟨_, ⟨o, ho, _⟩, _⟩ => ⟨o, ho⟩
  frame := fun _ _ _ ⟨a, b, ⟨o, ho, r⟩⟩ hk => ⟨a, b.at fun o e => hk it (by simp) o e, o, hk l (by simp) o ho, r⟩
  item := fun i s Q E hi ⟨_, hit, hl⟩ hQ => by
    have hx : items[items.size - 1 - i]? = some (items[items.size - 1 - i]'(by omega)) := Array.getElem?_eq_getElem (by omega)
    rw [show (items.size : Int) - 1 - (i : Int) = ((items.size - 1 - i : Nat) : Int) by omega] at hit
    refine rt_item hit hl hx hsz fun h' hit' sb => hQ _ h' (s.toks + 1) hx ⟨hi, ?_, ?_⟩ sb
    · rw [show (items.size : Int) - 1 - ((i + 1 : Nat) : Int) = ((items.size - 1 - i : Nat) : Int) - 1 by omega]
      exact hit'
    · obtain ⟨o, ho, r⟩ := hl
      exact ⟨o, (sb.2 l hne).trans ho, r⟩
  done := fun s Q E ⟨_, hit, _⟩ hE => by
    rw [show (items.size : Int) - 1 - (items.size : Int) = -1 by omega] at hit
    exact rt_end hh hit hE
end Y

set_option Elab.async false
set_option linter.all false
set_option maxRecDepth 100000
set_option maxHeartbeats 4000000
set_option autoImplicit false
/-! WY: zip(reversed(list or tuple), list), as what is walked. -/
namespace Y
open PySem PySem.Spec PyProof.Rows L2 Z
abbrev zr1 (h : Heap) (b : Addr) : Heap := h.push { cls := .type "list_iterator", data := .fields #[.ref b, .int 0 0] }
abbrev zr2 (h : Heap) (r b : Addr) : Heap := (zr1 h b).push { cls := .type "tuple", data := .seq #[.ref r, .ref h.objs.size] }
abbrev zr3 (h : Heap) (r b : Addr) : Heap := (zr2 h r b).push { cls := .type "tuple", data := .seq #[.none, .none] }
abbrev zr4 (h : Heap) (r b : Addr) : Heap := (zr3 h r b).push { cls := .type "zip", data := .fields #[.none, .bool false, .bool false, .ref (zr1 h b).objs.size, .ref (zr2 h r b).objs.size] }
theorem meets_zr_rev (r a b : Addr) (n : Int) (ys : Array Value) : Meets (Builtin.«zip.__new__» ⟨[.type "zip", .ref r, .ref b], []⟩) (fun _ R s => s.heap.IsRevIter r a n ∧ s.heap.IsList b ys ∧ R (.ok (.ret (.ref (zr3 s.heap r b).objs.size))) { s with heap := zr4 s.heap r b }) :=
  .of_wp fun prog w A R s h => by
    obtain ⟨hp, g, d, tk, os⟩ := s; obtain ⟨hr, hb, h⟩ := h
    have hsub := sub_zip
    have h1 : Heap.IsRevIter (Shared.heap ⟨hp, g, d, tk, os⟩) r a n := hr
    have h2 : Heap.IsList (Shared.heap ⟨hp, g, d, tk, os⟩) b ys := hb
    wp_walk using wpAny_pyIter_revIter h1, wpAny_pyIter_list h2
    exact ⟨_, rfl, h⟩
theorem meets_zr_rt (r a b : Addr) (n : Int) (ys : Array Value) : Meets (Builtin.«zip.__new__» ⟨[.type "zip", .ref r, .ref b], []⟩) (fun _ R s => RT.IsRt s.heap r a n ∧ s.heap.IsList b ys ∧ R (.ok (.ret (.ref (zr3 s.heap r b).objs.size))) { s with heap := zr4 s.heap r b }) :=
  .of_wp fun prog w A R s h => by
    obtain ⟨hp, g, d, tk, os⟩ := s; obtain ⟨hr, hb, h⟩ := h
    have hsub := sub_zip
    have h1 : RT.IsRt (Shared.heap ⟨hp, g, d, tk, os⟩) r a n := hr
    have h2 : Heap.IsList (Shared.heap ⟨hp, g, d, tk, os⟩) b ys := hb
    wp_walk using RT.iter_rt h1, wpAny_pyIter_list h2
    exact ⟨_, rfl, h⟩
section
variable {prog : Program} {w : World} {A : Around} {E : Value → Shared → Prop} {s : Shared} {Q : Value → Shared → Prop} {r a b : Addr}
/-- the heap behind zip(r, b) -/
structure Zr (h h' : Heap) (r b : Addr) : Prop where
  z : IsZip h' (h.objs.size + 3) (h.objs.size + 1) (h.objs.size + 2) .none
  ti : IsTupOf2 h' (h.objs.size + 1) (.ref r) (.ref h.objs.size)
  to : IsTupOf2 h' (h.objs.size + 2) .none .none
  li : h'.IsListIter h.objs.size b 0
  k : ∀ c o, h.get? c = some o → h'.get? c = some o
theorem zr_of (h : Heap) (r b : Addr) : (zr3 h r b).objs.size = h.objs.size + 3 ∧ Zr h (zr4 h r b) r b := by
  have z1 : (zr1 h b).objs.size = h.objs.size + 1 := Heap.size_push ..
  have z2 : (zr2 h r b).objs.size = h.objs.size + 2 := by rw [Heap.size_push, z1]
  have z3 : (zr3 h r b).objs.size = h.objs.size + 3 := by rw [Heap.size_push, z2]
  have p4 : (zr4 h r b).get? (zr3 h r b).objs.size = some _ := Heap.get?_push_size _ rfl
  have p3 : (zr4 h r b).get? (zr2 h r b).objs.size = some _ := Heap.get?_push_of_some _ (Heap.get?_push_size _ rfl)
  have p2 : (zr4 h r b).get? (zr1 h b).objs.size = some _ := Heap.get?_push_of_some _ (Heap.get?_push_of_some _ (Heap.get?_push_size _ rfl))
  have p1 : (zr4 h r b).get? h.objs.size = some _ := Heap.get?_push_of_some _ (Heap.get?_push_of_some _ (Heap.get?_push_of_some _ (Heap.get?_push_size _ rfl)))
  rw [z1, z2, z3] at p4
  rw [z2] at p3
  rw [z1] at p2
  exact ⟨z3, p4, p2, p3, ⟨_, p1, rfl, rfl⟩, fun c o e => Heap.get?_push_of_some _ (Heap.get?_push_of_some _ (Heap.get?_push_of_some _ (Heap.get?_push_of_some _ e)))⟩
theorem call_zr (h0 : (∃ n, s.heap.IsRevIter r a n) ∨ ∃ n, RT.IsRt s.heap r a n) {ys : Array Value} (hb : s.heap.IsList b ys) (h : ∀ h', Zr s.heap h' r b → Q (.ref (s.heap.objs.size + 3)) { s with heap := h' }) : wpAny (model prog w) A (call (.type "zip") [.ref r, .ref b]) Q E s := by
  obtain ⟨e, z⟩ := zr_of s.heap r b
  rcases h0 with ⟨n, h0⟩ | ⟨n, h0⟩
  · exact callType_new F.called_zip (by decide) (F.typeCall_zip_2 _ _) (F.newCall_zip_2 _ _) (fun obj => F.args_object_init_3 obj _ _) F.entry_zip_new (meets_zr_rev r a b n ys) ⟨h0, hb, by rw [e]; exact ⟨⟨_, z.z, rfl⟩, h _ z⟩⟩
  · exact callType_new F.called_zip (by decide) (F.typeCall_zip_2 _ _) (F.newCall_zip_2 _ _) (fun obj => F.args_object_init_3 obj _ _) F.entry_zip_new (meets_zr_rt r a b n ys) ⟨h0, hb, by rw [e]; exact ⟨⟨_, z.z, rfl⟩, h _ z⟩⟩
end
end Y

set_option Elab.async false
set_option linter.all false
set_option maxRecDepth 100000
set_option maxHeartbeats 4000000
set_option autoImplicit false
/-! WX: the turns of zip(reversed(list or tuple), list). -/
namespace Y
open PySem PySem.Spec PyProof.Rows L2 Z
/-- what reversed() goes back through -/
structure Src (P : Program) (w : World) (K : PySem.W.Frag) (Sq : Hp → Addr → List V → Prop) (Ho : Heap → Addr → Array Value → Prop) (Is : Heap → Addr → Addr → Int → Prop) : Prop where
  get : ∀ {X : Cx} {pins : List (Addr × Obj)} {σ : L2.St} {H : Hp} {s : Shared} {a : Addr} {xs : List V}, X.K = K → L2.Inv X pins σ H s → Sq H a xs → ∃ its : List Value, Vals xs its ∧ Ho s.heap a its.toArray ∧ xs.length ≤ sizeLine
  inj : ∀ {X : Cx} {pins : List (Addr × Obj)} {σ : L2.St} {H : Hp} {s : Shared} {a : Addr} {xs ys : List V}, X.K = K → L2.Inv X pins σ H s → Sq H a xs → Sq H a ys → xs = ys
  obj : ∀ {h : Heap} {it l : Addr} {i : Int}, Is h it l i → ∃ o, h.get? it = some o ∧ ∀ v, o.data ≠ .cell v
  at_ : ∀ {h h' : Heap} {it l : Addr} {i : Int}, Is h it l i → (∀ o, h.get? it = some o → h'.get? it = some o) → Is h' it l i
  dr : ∀ {A : Around}, A.handled = none → ∀ (it l : Addr), l ≠ it → ∀ items : Array Value, items.size ≤ sizeLine → Draws P w A it [it, l] items.size (fun i v => items[items.size - 1 - i]? = some v) (fun i h => i ≤ items.size ∧ Is h it l ((items.size : Int) - 1 - (i : Int)) ∧ Ho h l items)
theorem src_list {P : Program} {w : World} {K : PySem.W.Frag} : Src P w K (SqL K) (fun h a its => h.IsList a its) (fun h it l i => h.IsRevIter it l i) where
  get := fun hK I h => by
    subst hK
    obtain ⟨its, rv, p, hz⟩ := I.list h
    exact ⟨its, rv, p.isList, hz⟩
  inj := fun hK I h h' => by subst hK; exact I.list_inj h h'
  obj := fun ⟨o, e, _, d⟩ => ⟨o, e, fun v z => by rw [d] at z; cases z⟩
  at_ := fun h k => h.at k
  dr := fun hh it l hne items _ => draws_rev hh it l hne items
theorem src_tup {P : Program} {w : World} {K : PySem.W.Frag} : Src P w K (SqT K) IsTup RT.IsRt where
  get := fun hK I h => by
    subst hK
    obtain ⟨its, rv, p, hz⟩ := I.tuple h
    exact ⟨its, rv, p, hz⟩
  inj := fun hK I h h' => by subst hK; exact I.tuple_inj h h'
  obj := fun ⟨o, e, _, d⟩ => ⟨o, e, fun v z => by rw [d] at z; cases z⟩
  at_ := fun h k => h.at k
  dr := fun hh it l hne items hz => draws_rt hh it l hne items hz
def ItzR (Sq : Hp → Addr → List V → Prop) (K : PySem.W.Frag) (a b : Addr) (n : Nat) : It :=
  ⟨fun i H => ∃ (xs ys : List V) (x y : V), Sq H a xs ∧ xs.length = n ∧ SqL K H b ys ∧ i < n ∧ xs[n - 1 - i]? = some x ∧ ys[i]? = some y,
    fun i H v H' => ∃ T x y, v = .ref T ∧ H T = none ∧ H' = upd H T (.tup [x, y]) ∧ (∀ xs, Sq H a xs → xs[n - 1 - i]? = some x) ∧ ∀ ys, SqL K H b ys → ys[i]? = some y,
    fun i H => ∃ xs ys : List V, Sq H a xs ∧ xs.length = n ∧ SqL K H b ys ∧ i ≤ n ∧ i ≤ ys.length ∧ (n = i ∨ ys.length = i)⟩
theorem turn_zr {P : Program} {w : World} {K : PySem.W.Frag} {Sq : Hp → Addr → List V → Prop} {Ho : Heap → Addr → Array Value → Prop} {Is : Heap → Addr → Addr → Int → Prop} (S : Src P w K Sq Ho Is) {elts : List Expr} {kk n : Nat} {tpos : Pos} {a b z TI TO i1 i2 : Addr} (D : ZipSep2 z TI TO i1 i2 [i1, a] [i2, b]) (ha : a ≠ i1) (hb : b ≠ i2) :
    L2.Turn P w K (.Tuple elts kk tpos) (ItzR Sq K a b n) [z, TI, TO, i1, i2] z (fun i h => i ≤ n ∧ IsZip h z TI TO .none ∧ IsTupOf2 h TI (.ref i1) (.ref i2) ∧ (∃ x y, IsTupOf2 h TO x y) ∧ Is h i1 a ((n : Int) - 1 - (i : Nat)) ∧ h.IsListIter i2 b i) where
  mem := by simp
  obj := fun i h ⟨_, hz, hTI, ⟨x, y, hTO⟩, h1, ⟨o2, e2, _, d2⟩⟩ c hc => by
    simp only [List.mem_cons, List.not_mem_nil, or_false] at hc
    rcases hc with rfl | rfl | rfl | rfl | rfl
    · exact ⟨_, hz, fun v q => nomatch q⟩
    · exact ⟨_, hTI, fun v q => nomatch q⟩
    · exact ⟨_, hTO, fun v q => nomatch q⟩
    · exact S.obj h1
    · exact ⟨o2, e2, fun v q => by rw [d2] at q; cases q⟩
  keep := fun i h h' ⟨hi, hz, hTI, ⟨x, y, hTO⟩, h1, h2⟩ k => ⟨hi, k z (by simp) _ hz, k TI (by simp) _ hTI, ⟨x, y, k TO (by simp) _ hTO⟩, S.at_ h1 fun o q => k i1 (by simp) o q, h2.at fun o q => k i2 (by simp) o q⟩
  item := by
    intro X hP hw hK hc i pins s σ H E I hf ⟨hi, hz, hTI, ⟨x0, y0, hTO⟩, h1, h2⟩ ⟨xs, ys, x, y, hqx, hn, hqy, hin, hx, hy⟩
    obtain ⟨its, rv, p, hlx⟩ := S.get hK I hqx
    subst hP hw
    obtain ⟨its2, rv2, p2, _⟩ := I.list (by rw [hK]; exact hqy)
    obtain ⟨u2, hu2, ru2⟩ := rv2.get hy
    obtain ⟨u1, hu1, ru1⟩ := rv.get hx
    have e1 : its.toArray.size = n := by rw [List.size_toArray, ← rv.length]; exact hn
    have hh : X.A.in1.handled = none := I.ok.hd hc
    have l2 : i < its2.toArray.size := by rw [List.size_toArray, ← rv2.length]; exact (List.getElem?_eq_some_iff.mp hy).1
    have D1 := S.dr hh i1 a ha its.toArray (by rw [e1, ← hn]; exact hlx)
    have D2 := Draws.list (prog := X.prog) (w := X.w) hh i2 b hb its2.toArray
    have lt : ∀ {c o}, s.heap.get? c = some o → c < s.heap.objs.size := fun e => Heap.lt_size e
    have hzl := lt hz
    refine wpAny_pyNext_zipD2_item D D1 D2 (i := i) hz hTI hTO ⟨by rw [e1]; exact hi, by rw [e1]; exact h1, p⟩ ⟨h2, p2.isList⟩ (by rw [e1]; exact hin) l2 fun x1 x2 h' tk y1 y2 b1 b2 d1 d2 b5 b6 hk => ?_
    refine ⟨_, rfl, wpAny_letOwnedTupleGo_zip (s := { s with heap := h', toks := tk }) b1 fun h'' z'' sb => ?_⟩
    have hT2 : h''.get? s.heap.objs.size = some { cls := .type "tuple", data := .seq #[x1, x2] } := (sb.2 _ (Nat.ne_of_gt hzl)).trans b5
    have ex1 : x1 = u1 := by
      have q : its.toArray[n - 1 - i]? = some u1 := by simpa using hu1
      rw [e1, q] at y1; cases y1; rfl
    have ex2 : x2 = u2 := by
      have q : its2.toArray[i]? = some u2 := by simpa using hu2
      have y2' : its2.toArray[i]? = some x2 := y2
      rw [q] at y2'; cases y2'; rfl
    subst ex1 ex2
    have new : ObjOk X.prog X.w (upd H s.heap.objs.size (.tup [x, y])) h'' s.heap.objs.size (.tup [x, y]) := ⟨by show 2 ≤ sizeLine; decide, [x1, x2], .cons ru1 (.cons ru2 .nil), ⟨_, hT2, rfl, _, rfl⟩⟩
    have I1 : L2.Inv X pins σ (upd H s.heap.objs.size (.tup [x, y])) { s with heap := h'', toks := tk } :=
      I.turnedNew (t' := tk) (ch := [z, TI, TO, i1, i2]) (fun c o hb q => (sb.2 c (fun q' => hb (by simp [q']))).trans (hk c o (fun q' => hb (by simp [q'])) (fun q' => hb (by simp [q'])) (fun q' => hb (by simp [q'])) (fun q' => hb (by simp [q'])) q)) hf (Nat.le_refl _) new
    have i1' := D1.over d1 sb D.zf1
    have i2' := D2.over d2 sb D.zf2
    rw [e1] at i1'
    refine ⟨.ref s.heap.objs.size, _, I1, rfl, ⟨_, x, y, rfl, I.hok.fresh (Nat.le_refl _), rfl, fun l hl => by rw [S.inj hK I hl hqx]; exact hx, fun l hl => by rw [I.list_inj (show SqL X.K H b l by rw [hK]; exact hl) (show SqL X.K H b ys by rw [hK]; exact hqy)]; exact hy⟩, ⟨hin, z'', (sb.2 _ D.TIz).trans (hk _ _ D.TIz D.TITO D.TIi1 D.TIi2 hTI), ⟨x1, x2, (sb.2 _ D.TOz).trans b2⟩, i1'.2.1, i2'.1⟩, fun c hcm => ?_⟩
    have hlt : c < s.heap.objs.size := by
      obtain ⟨o1, e2, _⟩ := S.obj h1
      obtain ⟨o2, e3, _⟩ := h2
      simp only [List.mem_cons, List.not_mem_nil, or_false] at hcm
      rcases hcm with rfl | rfl | rfl | rfl | rfl
      · exact hzl
      · exact lt hTI
      · exact lt hTO
      · exact lt e2
      · exact lt e3
    rw [upd_ne (Nat.ne_of_lt hlt)]
    exact (hf c hcm).1
  done := by
    intro X hP hw hK hc i pins s σ H E I hf ⟨hi, hz, hTI, ⟨x0, y0, hTO⟩, h1, h2⟩ ⟨xs, ys, hqx, hn, hqy, hle1, hle2, hend⟩
    obtain ⟨its, rv, p, hlx⟩ := S.get hK I hqx
    subst hP hw
    obtain ⟨its2, rv2, p2, _⟩ := I.list (by rw [hK]; exact hqy)
    have e1 : its.toArray.size = n := by rw [List.size_toArray, ← rv.length]; exact hn
    have e2 : its2.toArray.size = ys.length := by rw [List.size_toArray, ← rv2.length]
    have hh : X.A.in1.handled = none := I.ok.hd hc
    exact wpAny_pyNext_zipD2_end D (S.dr hh i1 a ha its.toArray (by rw [e1, ← hn]; exact hlx)) (Draws.list (prog := X.prog) (w := X.w) hh i2 b hb its2.toArray) (i := i) hz hTI hTO ⟨by rw [e1]; exact hi, by rw [e1]; exact h1, p⟩ ⟨h2, p2.isList⟩ (by rw [e1]; exact hle1) (by rw [e2]; exact hle2)
      (hend.elim (fun q => .inl (by rw [e1]; exact q.symm)) fun q => .inr (by rw [e2]; exact q.symm)) fun h' tk hk => ⟨rfl, I.turnedL (t' := tk) (ch := [z, TI, TO, i1, i2]) (fun c o hb q =>
        hk c o (fun q' => hb (by simp [q'])) (fun q' => hb (by simp [q'])) (fun q' => hb (by simp [q'])) (fun q' => hb (by simp [q'])) q) hf⟩
  self := fun A i s Q E ⟨_, hz, _⟩ h => wpAny_pyIter_zip hz h
/-- zip(reversed(x), y) -/
def iZr (K : PySem.W.Frag) (tx ty : TE) : TI := fun σ H R => tx σ H fun x H1 => ∃ a xs, x = .ref a ∧ ((SqL K H1 a xs ∧ ty σ H1 fun y H2 => ∃ b ys, y = .ref b ∧ SqL K H2 a xs ∧ SqL K H2 b ys ∧ R (ItzR (SqL K) K a b xs.length) H2) ∨ (SqT K H1 a xs ∧ ty σ H1 fun y H2 => ∃ b ys, y = .ref b ∧ SqT K H2 a xs ∧ SqL K H2 b ys ∧ R (ItzR (SqT K) K a b xs.length) H2))
section
variable {X : Cx}
theorem apart_zr {a b r n : Nat} (ha : a < r) (hr : r < n) (hb : b < n) (br : r ≠ b) : ZipSep2 (n + 3 : Nat) (n + 1 : Nat) (n + 2 : Nat) r n [r, a] [n, b] := by
  have g1 : ∀ {x y : Nat}, x < y → x ≠ y := fun h => Nat.ne_of_lt h
  have g2 : ∀ {x y : Nat}, x < y → y ≠ x := fun h => Nat.ne_of_gt h
  have two : ∀ {x u v : Nat}, x ≠ u → x ≠ v → x ∉ [u, v] := fun h1 h2 z => by
    rcases List.mem_cons.mp z with e | z
    · exact h1 e
    · rcases List.mem_cons.mp z with e | z
      · exact h2 e
      · cases z
  exact ⟨g1 (by omega), g1 (by omega), g1 (by omega), g2 (by omega), .head _, two (g2 (by omega)) (g2 (by omega)), two (g2 (by omega)) (g2 (by omega)), g2 (by omega), .head _, two (g2 (by omega)) (g2 (by omega)), two (g2 (by omega)) (g2 (by omega)), two (g1 hr) br, two (g2 hr) (g2 (by omega))⟩
theorem pi_zr {ex ey : Expr} {tx ty : TE} {p p2 pos pos2 tpos : Pos} {elts : List Expr} {kk : Nat} (hg : Gl X "zip") (hm : X.mg "zip" = none) (hg2 : Gl X "reversed") (hm2 : X.mg "reversed" = none) (hx : PE X ex tx) (hy : PE X ey ty)
    (h1 : starEach [ex] X.env = (false, eval ex X.env) :: starEach [] X.env := by rfl)
    (h2 : starEach [.Call (.Name "reversed" p2) [ex] [] pos2, ey] X.env = (false, eval (.Call (.Name "reversed" p2) [ex] [] pos2) X.env) :: starEach [ey] X.env := by rfl)
    (h3 : starEach [ey] X.env = (false, eval ey X.env) :: starEach [] X.env := by rfl) (hpl : (backTo pos (starEach [ey] X.env)).any (·.1) = false := by rfl) :
    PI X (.Tuple elts kk tpos) (.Call (.Name "zip" p) [.Call (.Name "reversed" p2) [ex] [] pos2, ey] [] pos) (iZr X.K tx ty) := by
  refine ⟨fun pins s σ H R I h => ?_⟩
  refine Call_ (ld_blt I hg hm PyProof.Rows.boot_zip (PyProof.Rows.callWith_type1 (args_cons (Call_ (ld_blt I hg2 hm2 PyProof.Rows.boot_reversed (PyProof.Rows.callWith_type1 (args_cons (thn (hx.run pins s σ H _ I h) fun u s1 ⟨v, H1, I1, r1, q1⟩ => args_nil ?_) h1) h1 rfl))) h2) h2 hpl))
  obtain ⟨a, xs, rfl, q1⟩ := q1
  obtain rfl : u = Value.ref a := r1
  -- the second argument, behind reversed(..)
  have rest : ∀ {Sq : Hp → Addr → List V → Prop} {Ho : Heap → Addr → Array Value → Prop} {Is : Heap → Addr → Addr → Int → Prop}, Src X.prog X.w X.K Sq Ho Is → (∀ h it l i, Is h it l i → h.IsRevIter it l i ∨ RT.IsRt h it l i) → ∀ (o : Obj) (tk : Nat), o.isFreed = false → (∃ vs, o.data = .fields vs) → a < s1.heap.objs.size →
      (∀ h' : Heap, h'.get? s1.heap.objs.size = some o → Is h' s1.heap.objs.size a ((xs.length : Int) - 1)) → ty σ H1 (fun y H2 => ∃ b ys, y = .ref b ∧ Sq H2 a xs ∧ SqL X.K H2 b ys ∧ R (ItzR Sq X.K a b xs.length) H2) →
      wpAny (model X.prog X.w) X.A (spliced (backTo pos (starEach [ey] X.env))) (fun vs s₂ => wpAny (model X.prog X.w) X.A (call (.type "zip") (.ref s1.heap.objs.size :: vs)) (fun u s₁ => wpAny (model X.prog X.w) X.A (pyIter u) (PIE X pins σ (.Tuple elts kk tpos) R) X.xe s₁) X.xe s₂) X.xe { s1 with heap := s1.heap.push o, toks := tk } := fun {Sq Ho Is} S cases_ o tk hfr ⟨dv, hdv⟩ hlt hit hq => by
    have I2 := ClX.pin_new (t' := tk) I1 (fun b u e => Heap.get?_push_of_some o e) (Nat.le_refl _) (Heap.get?_push_size _ hfr) (fun v z => by rw [hdv] at z; cases z)
    refine args_cons (thn (hy.run _ _ σ H1 _ I2 hq) fun u2 s2 ⟨y, H2, I3, r2, q2⟩ => args_nil ?_) h3
    obtain ⟨b, ys, rfl, hqx, hqy, q⟩ := q2
    obtain rfl : u2 = Value.ref b := r2
    have er : s2.heap.get? s1.heap.objs.size = some o := ClX.pin_at I3
    have nr : H2 s1.heap.objs.size = none := ClX.pin_un I3
    have I4 := ClX.unpin I3
    obtain ⟨its, rv, p1, _⟩ := I4.list hqy
    have hr : s1.heap.objs.size < s2.heap.objs.size := Heap.lt_size er
    have hb : b < s2.heap.objs.size := p1.lt
    have br : s1.heap.objs.size ≠ b := fun z => by
      obtain ⟨o', n', e', _, _, d'⟩ := p1
      rw [← z, er] at e'; cases e'
      rw [hdv] at d'; cases d'
    have D := apart_zr hlt hr hb br
    refine call_zr (a := a) ((cases_ _ _ _ _ (hit s2.heap er)).elim (fun z => .inl ⟨_, z⟩) fun z => .inr ⟨_, z⟩) p1.isList fun h' z => wpAny_pyIter_zip z.z ?_
    have I5 : L2.Inv X pins σ H2 { s2 with heap := h' } := I4.kept (t' := s2.toks) z.k
    refine ⟨s2.heap.objs.size + 3, [s2.heap.objs.size + 3, s2.heap.objs.size + 1, s2.heap.objs.size + 2, s1.heap.objs.size, s2.heap.objs.size], _, _, H2, rfl, I5, turn_zr (n := xs.length) S D (Nat.ne_of_lt hlt) (Nat.ne_of_lt hb), ⟨Nat.zero_le _, z.z, z.ti, ⟨_, _, z.to⟩, ?_, z.li⟩, fun c hc => ?_, q⟩
    · have := hit h' (z.k _ _ er)
      simpa using this
    · by_cases e : c = s1.heap.objs.size
      · rw [e]; exact I1.fpOk (Nat.le_refl _) nr
      · have hle : s2.heap.objs.size ≤ c := by
          simp only [List.mem_cons, List.not_mem_nil, or_false] at hc
          rcases hc with rfl | rfl | rfl | rfl | rfl
          · exact Nat.le_add_right _ _
          · exact Nat.le_add_right _ _
          · exact Nat.le_add_right _ _
          · exact absurd rfl e
          · exact Nat.le_refl _
        exact I4.fpOk hle (I4.hok.fresh hle)
  rcases q1 with ⟨hq, q⟩ | ⟨hq, q⟩
  · obtain ⟨its, rv, p', hz⟩ := I1.list hq
    have e1 : ((its.toArray.size : Nat) : Int) - 1 = (xs.length : Int) - 1 := by rw [List.size_toArray, rv.length]
    refine call_reversed_list p'.isList (rest src_list (fun _ _ _ _ z => .inl z) (revObj a ((its.toArray.size : Int) - 1)) s1.toks rfl ⟨_, rfl⟩ p'.lt (fun h' e => ?_) q)
    rw [← e1]
    exact ⟨_, e, rfl, rfl⟩
  · obtain ⟨its, rv, p', hz⟩ := I1.tuple hq
    have hn := line63
    have hl := rv.length
    have e1 : ((its.toArray.size : Nat) : Int) - 1 = (xs.length : Int) - 1 := by rw [List.size_toArray, rv.length]
    have hlt : a < s1.heap.objs.size := by obtain ⟨_, e, _⟩ := id p'; exact Heap.lt_size e
    refine RT.call_reversed_tup p' (fun A E Q k => len_tuple p' (by simp only [List.size_toArray] <;> omega) k) (rest src_tup (fun _ _ _ _ z => .inr z) (RT.rtObj a ((its.toArray.size : Int) - 1)) (s1.toks + 1 + 1) rfl ⟨_, rfl⟩ hlt (fun h' e => ?_) q)
    rw [← e1]
    exact ⟨_, e, rfl, rfl⟩
end
end Y

set_option Elab.async false
set_option linter.all false
set_option maxRecDepth 100000
set_option maxHeartbeats 4000000
set_option autoImplicit false
/-! WV: list(reversed(list or tuple)). -/
namespace Y
open PySem PySem.Spec PyProof.Rows L2 Z
theorem nolen_rt : typeLookup (.type "reversed") "__len__" = pure none := by rw [typeLookup_type, builtinLookup_eq_fast]; kernel_rfl
theorem hint_rt : typeLookup (.type "reversed") "__length_hint__" = pure (some (.builtin "reversed.__length_hint__")) := by rw [typeLookup_type, builtinLookup_eq_fast]; kernel_rfl
theorem walks_rt {prog : Program} {w : World} {A : Around} (hh : A.handled = none) (it l : Addr) (hne : l ≠ it) (items : Array Value) (hsz : items.size ≤ sizeLine) :
    Walks prog w A it [it, l] [it] items.size (fun i v => items[items.size - 1 - i]? = some v) (fun i h => i ≤ items.size ∧ RT.IsRt h it l ((items.size : Int) - 1 - (i : Int)) ∧ IsTup h l items) where
  sub := fun b hb => by rw [List.mem_singleton.mp hb]; exact .head _
  frame := fun _ _ _ ⟨a, b, ⟨o, ho, r⟩⟩ hk => ⟨a, b.at fun o e => hk it (.head _) o e, o, hk l (.tail _ (.head _)) o ho, r⟩
  item := fun i s Q E hi ⟨_, hit, hl⟩ hQ => by
    have hx : items[items.size - 1 - i]? = some (items[items.size - 1 - i]'(by omega)) := Array.getElem?_eq_getElem (by omega)
    rw [show (items.size : Int) - 1 - (i : Int) = ((items.size - 1 - i : Nat) : Int) by omega] at hit
    refine RT.next_rt_item hit hl hx hsz fun h' hit' sb => hQ _ h' (s.toks + 1) hx ⟨hi, ?_, ?_⟩ fun b o hb e => sb.extBut b o (fun z => hb (by rw [z]; exact .head _)) e
    · rw [show (items.size : Int) - 1 - ((i + 1 : Nat) : Int) = ((items.size - 1 - i : Nat) : Int) - 1 by omega]
      exact hit'
    · obtain ⟨o, ho, r⟩ := hl
      exact ⟨o, (sb.2 l hne).trans ho, r⟩
  done := fun s Q E ⟨_, hit, _⟩ hQ => by
    rw [show (items.size : Int) - 1 - (items.size : Int) = -1 by omega] at hit
    exact RT.next_rt_end hh hit fun h' ex => hQ h' s.toks fun b o hb e => ex b o (fun z => hb (by rw [z]; exact .head _)) e
  self := fun _ _ _ _ ⟨_, hit, _⟩ hQ => RT.iter_rt hit hQ
section
variable {prog : Program} {w : World} {A : Around} {E : Value → Shared → Prop} {s : Shared} {it l : Addr}
theorem hint_rev {i : Int} {Q : Bool → Shared → Prop} (hit : s.heap.IsRevIter it l i) (h : Q false s) : wpAny (model prog w) A (Builtin.List.listLengthHint (.ref it)) Q E s := by
  have hT := hit.typeIs
  unfold Builtin.List.listLengthHint
  refine wpAny_bind (wpAny_specialOf hT RT.nolen_lri ?_)
  show wpAny _ _ (specialOf (Value.ref it) (Str.ofString "__length_hint__") >>= _) _ _ _
  refine wpAny_bind (wpAny_specialOf hT RT.hint_lri ?_)
  generalize hid : ("list_reverseiterator.__length_hint__" : String) = id0
  wp_delta
  rw [show splitId id0 = some ("list_reverseiterator", "__length_hint__") from by subst hid; decide +kernel]
  subst hid
  exact wpAny_bind (wpAny_isInstance (b := true) hT (by rw [isSubtype_type]; kernel_rfl) (wpAny_pure h))
theorem slot_rt_hint : Slot "reversed" "__length_hint__" "reversed.__length_hint__" :=
  .of (owner := "reversed") (n := "__length_hint__") hint_rt (by decide +kernel) (by decide +kernel) (by decide +kernel) (by first | exact .inl (by decide +kernel) | exact .inr (by decide +kernel)) (by rw [isSubtype_type]; kernel_rfl)
theorem entry_rt_hint : entryFor table "reversed.__length_hint__" = some Builtin.«reversed.__length_hint__» := entryFor_of_tree (by kernel_rfl)
theorem args_rt_hint (a : Value) : argsOk "reversed.__length_hint__" ⟨[a], []⟩ := by
  unfold argsOk; rw [signature?_of (id := "reversed.__length_hint__") (n := "__length_hint__".toList.reverse) (o := "reversed".toList.reverse) (by kernel_rfl) RT.owner_rt]; kernel_rfl
theorem hint_rt' {items : Array Value} {i : Nat} {Q : Bool → Shared → Prop} (hit : RT.IsRt s.heap it l ((items.size : Int) - 1)) (hl : IsTup s.heap l items) (hsz : items.size ≤ sizeLine) (h : ∀ b : Bool, Q b { s with toks := s.toks + 1 + 1 + 1 }) : wpAny (model prog w) A (Builtin.List.listLengthHint (.ref it)) Q E s := by
  have hT := hit.typeIs
  unfold Builtin.List.listLengthHint
  refine wpAny_bind (wpAny_specialOf hT nolen_rt ?_)
  show wpAny _ _ (specialOf (Value.ref it) (Str.ofString "__length_hint__") >>= _) _ _ _
  refine wpAny_bind (wpAny_specialOf hT hint_rt ?_)
  generalize hid : ("reversed.__length_hint__" : String) = id0
  wp_delta
  rw [show splitId id0 = some ("reversed", "__length_hint__") from by subst hid; decide +kernel]
  subst hid
  refine wpAny_bind (wpAny_isInstance (b := true) hT (by rw [isSubtype_type]; kernel_rfl) ?_)
  wp_walk
  refine wpAny_of_eq (slot_rt_hint.bind _) ?_
  dsimp only
  refine wpAny_bind (wpAny_attempt (wpAny_call_entry slot_rt_hint hT entry_rt_hint ?_ (args_rt_hint _)))
  obtain ⟨o, ho, hc, hd⟩ := id hit
  unfold Builtin.«reversed.__length_hint__»
  refine wpAny_bind (wpAny_of_eq (a := Value.ref it) rfl (wpAny_bind (wpAny_field ho hd (x := .ref l) rfl ?_)))
  dsimp only
  rw [if_neg (show ¬ ((Value.ref l == Value.none) = true) from Bool.false_ne_true)]
  have hn := line63
  rw [show (items.size : Int) - 1 = (items.size : Int) - 1 from rfl] at hd
  refine wpAny_bind (PyProof.Rows.len_tuple hl (by omega) ?_)
  refine wpAny_bind (wpAny_of_eq (a := some ((items.size : Nat) : Int)) rfl ?_)
  dsimp only
  refine wpAny_bind (wpAny_field (s := { s with toks := s.toks + 1 + 1 }) ho hd (x := rawInt ((items.size : Int) - 1)) rfl ?_)
  show wpAny _ _ (if ((items.size : Nat) : Int) < (items.size : Int) - 1 + 1 then _ else _) _ _ _
  rw [if_neg (by omega)]
  have e : ((items.size : Int) - 1 + 1) = (items.size : Int) := by omega
  rw [e]
  refine wpAny_bind (wpAny_mkInt (wpAny_pure ⟨_, rfl, ?_⟩))
  dsimp only
  have f1 : Builtin.List.listFitsIndex ((items.size : Nat) : Int) = true := by
    unfold Builtin.List.listFitsIndex
    rw [Bool.and_eq_true]
    have hz := hsz
    rw [sizeLine_eq] at hz
    exact ⟨decide_eq_true (by omega), decide_eq_true (by omega)⟩
  have f2 : Builtin.List.listTooLong ((items.size : Nat) : Int).toNat = false := by
    unfold Builtin.List.listTooLong
    rw [Int.toNat_natCast]
    exact decide_eq_false (by omega)
  have f3 : ¬ ((items.size : Nat) : Int) < 0 := by omega
  simp only [asInt?, pure_bind, f1, f2, Bool.not_true, Bool.false_eq_true, if_false, if_neg f3]
  exact wpAny_pure (h _)

/-- a list that is filled from an iterator -/
theorem fill_it {T : String} {n c₀ : Nat} {P : Nat → Value → Prop} {St : Nat → Heap → Prop} {S : Addr} {R : Result → Shared → Prop} (W : Walks prog w A.in1 it [it, l] [it] n P St) (hT : s.TypeIs (.ref it) T) (n1 : (Value.type T == Value.type "list") = false) (n2 : (Value.type T == Value.type "tuple") = false)
    (hint : ∀ Q : Bool → Shared → Prop, (∀ (b : Bool) (t : Nat), s.toks ≤ t → Q b { s with toks := t }) → wpAny (model prog w) A.in1 (Builtin.List.listLengthHint (.ref it)) Q (fun e s' => R (.error e) s') s)
    (hn : n ≤ sizeLine) (st : St 0 s.heap) (hSi : S ≠ it) (hSl : S ≠ l) (hS : s.heap.get? S = some { cls := .type "list", data := .seq #[] c₀ })
    (hR : ∀ (h' : Heap) (tk : Nat) (acc : Array Value) (c' : Nat), (∀ b o, b ≠ S → b ≠ it → s.heap.get? b = some o → h'.get? b = some o) → h'.get? S = some { cls := .type "list", dict := none, data := .seq acc c', slots := #[] } → ItemsOf P acc n → R (.ok (.ret .none)) { s with heap := h', toks := tk }) :
    wpAny (model prog w) A.in1 (Builtin.List.listExtendWith (.ref S) (.ref it) .none)
      (fun fin s' => match fin with | .done f => R (.ok f) s' | .again c' => c'.quiet = true ∧ codeAny (model prog w) A c' R s') (fun e s' => R (.error e) s') s := by
  have hSf : S ∉ [it, l] := by
    intro z
    rcases List.mem_cons.mp z with e | z
    · exact hSi e
    · exact hSl (List.mem_singleton.mp z)
  have fin : ∀ (h1 : Heap) (c1 t1 : Nat), s.toks ≤ t1 → (∀ b o, b ≠ S → s.heap.get? b = some o → h1.get? b = some o) → h1.get? S = some { cls := .type "list", dict := none, data := .seq #[] c1, slots := #[] } → codeAny (model prog w) A (.builtin "list.extend.loop" ⟨[.ref S, .ref it, .none], []⟩) R { s with heap := h1, toks := t1 } := fun h1 c1 t1 ht k hS1 => by
    refine codeAny_extend_loopS W.toS hn _ hSf _ n 0 _ _ _ rfl (Nat.zero_le _) (W.frame 0 _ _ st fun b hb o e => k b o (fun z => hSf (by rw [← z]; exact hb)) e) hS1 (ItemsOf.nil _) fun s' acc' c' hm hS' hacc => ?_
    rw [Moved.eq_with hm]
    refine hR s'.heap s'.toks acc' c' (fun b o n1 n2 e => hm.heap b o (fun z => ?_) (k b o n1 e)) hS' hacc
    rcases List.mem_cons.mp z with e | z
    · exact n1 e
    · exact n2 (List.mem_singleton.mp z)
  unfold Builtin.List.listExtendWith
  refine wpAny_bind (wpAny_typeOf hT ?_)
  have h1 : Builtin.List.listSameRef (.ref S) (.ref it) = false := by unfold Builtin.List.listSameRef; exact beq_eq_false_iff_ne.mpr hSi
  simp only [h1, n1, n2, Bool.or_false, Bool.false_eq_true, if_false]
  refine wpAny_bind (W.self 0 _ _ _ st (wpAny_bind (wpAny_holding (hint _ fun b t ht => ?_))))
  have touch : ∀ {Q : Unit → Shared → Prop} {E : Value → Shared → Prop}, (∀ h1 c1, (∀ b o, b ≠ S → s.heap.get? b = some o → h1.get? b = some o) → h1.get? S = some { cls := .type "list", dict := none, data := .seq #[] c1, slots := #[] } → Q () { s with heap := h1, toks := t }) → wpAny (model prog w) A.in1 (Builtin.List.listTouch (.ref S)) Q E { s with toks := t } := fun {Q E} k => by
    show wpAny _ A.in1 (updateSeq S (·.push .none) >>= fun _ => updateSeq S (·.pop)) _ _ _
    refine wpAny_bind (wpAny_updateSeq hS rfl ?_)
    have u2 := Heap.get?_update_self (Obj.mapSeq (·.push Value.none)) hS rfl
    refine wpAny_updateSeq (hz := by seq_fits) u2 rfl (k _ _ (fun b o hb e => (Heap.get?_update_other _ _ (Ne.symm hb)).trans ((Heap.get?_update_other _ _ (Ne.symm hb)).trans e)) (Heap.get?_update_self (Obj.mapSeq (·.pop)) u2 rfl))
  split
  · exact wpAny_bind (wpAny_rule (wpAny_bind (touch fun h1 c1 k hS1 => wpAny_pure ⟨plainId_quiet F.plain_extend_loop _, fin h1 c1 t ht k hS1⟩)))
  · exact wpAny_pure ⟨plainId_quiet F.plain_extend_loop _, fin s.heap _ t ht (fun _ _ _ e => e) hS⟩
/-- list(it) -/
theorem call_list_it {T : String} {n : Nat} {P : Nat → Value → Prop} {St : Nat → Heap → Prop} {Q : Value → Shared → Prop} (W : Walks prog w A.in1.in1 it [it, l] [it] n P St) (hT : ∀ s : Shared, St 0 s.heap → s.TypeIs (.ref it) T) (n1 : (Value.type T == Value.type "list") = false) (n2 : (Value.type T == Value.type "tuple") = false)
    (hint : ∀ (s : Shared) (E : Value → Shared → Prop) (Q : Bool → Shared → Prop), St 0 s.heap → (∀ (b : Bool) (t : Nat), s.toks ≤ t → Q b { s with toks := t }) → wpAny (model prog w) A.in1.in1 (Builtin.List.listLengthHint (.ref it)) Q E s)
    (hn : n ≤ sizeLine) (st : St 0 s.heap) (l1 : it < s.heap.objs.size) (l2 : l < s.heap.objs.size)
    (hQ : ∀ (h' : Heap) (tk : Nat) (acc : Array Value) (c' : Nat), (∀ b o, b ≠ it → s.heap.get? b = some o → h'.get? b = some o) → h'.get? s.heap.objs.size = some { cls := .type "list", dict := none, data := .seq acc c', slots := #[] } → ItemsOf P acc n → Q (.ref s.heap.objs.size) { s with heap := h', toks := tk }) :
    wpAny (model prog w) A (call (.type "list") [.ref it]) Q E s := by
  refine callType_codes (Q₁ := fun obj s₁ => obj = .ref s.heap.objs.size ∧ s₁ = { s with heap := s.heap.push { cls := .type "list", data := .seq #[] } }) F.called_list (F.typeCall_list_1 _) F.entry_list_init (code_list_new _ ⟨rfl, rfl⟩) fun obj s₁ h₁ => ?_
  obtain ⟨rfl, rfl⟩ := h₁
  have g0 : (s.heap.push { cls := .type "list", data := .seq #[] }).get? s.heap.objs.size = some { cls := .type "list", data := .seq #[] } := Heap.get?_push_size _ rfl
  refine ⟨⟨_, g0, rfl⟩, F.args_list_init_2 _ _, ?_⟩
  show wpAny _ A.in1.in1 (do let old ← Builtin.List.listItems (.ref s.heap.objs.size); Builtin.List.listUpdate (.ref s.heap.objs.size) (fun _ => #[]); letGo old.toList.reverse; Builtin.List.listExtendWith (.ref s.heap.objs.size) (.ref it) .none) _ _ _
  refine wpAny_bind ?_
  unfold Builtin.List.listItems
  refine wpAny_bind (wpAny_seqItems g0 rfl (wpAny_pure ?_))
  show wpAny _ A.in1.in1 (updateSeq s.heap.objs.size (fun _ => #[]) >>= fun _ => letGo (#[] : Array Value).toList.reverse >>= fun _ => Builtin.List.listExtendWith (.ref s.heap.objs.size) (.ref it) .none) _ _ _
  refine wpAny_bind (wpAny_updateSeq g0 rfl (wpAny_bind (wpAny_letGo ?_)))
  have g1 := Heap.get?_update_self (Obj.mapSeq (fun _ => (#[] : Array Value))) g0 rfl
  have k1 : ∀ b o, b ≠ s.heap.objs.size → (s.heap.push { cls := .type "list", data := .seq #[] }).get? b = some o → ((s.heap.push { cls := .type "list", data := .seq #[] }).update s.heap.objs.size (Obj.mapSeq (fun _ => (#[] : Array Value)))).get? b = some o := fun b o hb e => (Heap.get?_update_other _ _ (Ne.symm hb)).trans e
  have k0 : ∀ b o, s.heap.get? b = some o → ((s.heap.push { cls := .type "list", data := .seq #[] }).update s.heap.objs.size (Obj.mapSeq (fun _ => (#[] : Array Value)))).get? b = some o := fun b o e => k1 b o (Nat.ne_of_lt (Heap.lt_size e)) (Heap.get?_push_of_some _ e)
  have st1 := W.frame 0 _ _ st fun b _ o e => k0 b o e
  refine fill_it W (hT _ st1) n1 n2 (fun Q q => hint _ _ Q st1 q) hn st1 (Nat.ne_of_gt l1) (Nat.ne_of_gt l2) g1 fun h' tk acc c' k e hacc => ⟨rfl, hQ h' tk acc c' (fun b o hb eb => k b o (Nat.ne_of_lt (Heap.lt_size eb)) hb (k0 b o eb)) e hacc⟩
end
/-! ### over the layer -/
/-- list(reversed(x)), x a list or a tuple -/
def tListRev (K : PySem.W.Frag) (te : TE) : TE := fun σ H Q => te σ H fun v H1 => ∃ (a : Addr) (xs : List V), v = .ref a ∧ (SqL K H1 a xs ∨ SqT K H1 a xs) ∧ ∀ q, H1 q = none → Q (.ref q) (upd H1 q (.lst xs.reverse))
theorem pe_listRev {X : Cx} {e : Expr} {te : TE} {p p2 pos pos2 : Pos} (hc : X.calm = true) (hg : Gl X "list") (hm : X.mg "list" = none) (hg2 : Gl X "reversed") (hm2 : X.mg "reversed" = none) (he : PE X e te)
    (hs : starEach [e] X.env = (false, eval e X.env) :: starEach [] X.env := by rfl)
    (hs2 : starEach [.Call (.Name "reversed" p2) [e] [] pos2] X.env = (false, eval (.Call (.Name "reversed" p2) [e] [] pos2) X.env) :: starEach [] X.env := by rfl) :
    PE X (.Call (.Name "list" p) [.Call (.Name "reversed" p2) [e] [] pos2] [] pos) (tListRev X.K te) := by
  refine ⟨fun pins s σ H Q I h => ?_⟩
  refine Call_ (ld_blt I hg hm boot_list (PyProof.Rows.callWith_type1 (args_cons (Call_ (ld_blt I hg2 hm2 PyProof.Rows.boot_reversed (PyProof.Rows.callWith_type1 (args_cons (thn (he.run pins s σ H _ I h) fun u s1 ⟨v, H1, I1, r1, q1⟩ => args_nil ?_) hs) hs rfl))) hs2) hs2 rfl))
  obtain ⟨a, xs, rfl, hq, q⟩ := q1
  obtain rfl : u = Value.ref a := r1
  have hh := I1.ok.hd hc
  have fin : ∀ (its : List Value) (o : Obj) (h' : Heap) (tk' : Nat) (acc : Array Value) (c' : Nat), Vals xs its → xs.length ≤ sizeLine →
      (∀ b o', b ≠ s1.heap.objs.size → (s1.heap.push o).get? b = some o' → h'.get? b = some o') → h'.get? (s1.heap.push o).objs.size = some { cls := .type "list", dict := none, data := .seq acc c', slots := #[] } → ItemsOf (fun i v => its.toArray[its.toArray.size - 1 - i]? = some v) acc its.toArray.size →
      EP X pins σ Q (.ref (s1.heap.push o).objs.size) { s1 with heap := h', toks := tk' } := fun its o h' tk' acc c' rv hz k e hacc => by
    have hle : s1.heap.objs.size ≤ (s1.heap.push o).objs.size := by rw [Heap.size_push]; exact Nat.le_succ _
    refine ⟨.ref (s1.heap.push o).objs.size, upd H1 (s1.heap.push o).objs.size (.lst xs.reverse), I1.laid (t' := tk') (fun b o' eb => k b o' (Nat.ne_of_lt (Heap.lt_size eb)) (Heap.get?_push_of_some _ eb)) hle (show ObjOk X.prog X.w _ _ _ (.lst xs.reverse) from ⟨by rw [List.length_reverse]; exact hz, acc.toList, c', RT.vals_rev rv hacc, ?_⟩), rfl, q _ (I1.hok.fresh hle)⟩
    rw [Array.toArray_toList]
    exact e
  rcases hq with hq | hq
  · obtain ⟨its, rv, p', hz⟩ := I1.list hq
    have hn : its.toArray.size ≤ sizeLine := by rw [List.size_toArray, ← rv.length]; exact hz
    have hlt : a < s1.heap.objs.size := p'.lt
    refine call_reversed_list p'.isList (args_nil ?_)
    have er : (s1.heap.push (revObj a ((its.toArray.size : Int) - 1))).get? s1.heap.objs.size = some (revObj a ((its.toArray.size : Int) - 1)) := Heap.get?_push_size _ rfl
    refine call_list_it (s := { s1 with heap := s1.heap.push (revObj a ((its.toArray.size : Int) - 1)) }) (Walks.listRev (A := X.A.in1.in1) hh s1.heap.objs.size a (Nat.ne_of_lt hlt) its.toArray) (fun s st => st.2.1.typeIs) (by decide) (by decide) (fun s E Q st k => hint_rev st.2.1 (k false s.toks (Nat.le_refl _))) hn ⟨Nat.zero_le _, ?_, p'.isList.push _⟩ (by show _ < (s1.heap.push _).objs.size; rw [Heap.size_push]; exact Nat.lt_succ_self _) (by show _ < (s1.heap.push _).objs.size; rw [Heap.size_push]; exact Nat.lt_succ_of_lt hlt) fun h' tk acc c' k e hacc => fin its _ h' tk acc c' rv hz k e hacc
    rw [show (its.toArray.size : Int) - 1 - ((0 : Nat) : Int) = (its.toArray.size : Int) - 1 by omega]
    exact ⟨_, er, rfl, rfl⟩
  · obtain ⟨its, rv, p', hz⟩ := I1.tuple hq
    have hn : its.toArray.size ≤ sizeLine := by rw [List.size_toArray, ← rv.length]; exact hz
    have hlt : a < s1.heap.objs.size := by obtain ⟨_, e, _⟩ := id p'; exact Heap.lt_size e
    have l63 := line63
    have hl := rv.length
    refine RT.call_reversed_tup p' (fun A E Q k => len_tuple p' (by simp only [List.size_toArray] <;> omega) k) (args_nil ?_)
    have er : (s1.heap.push (RT.rtObj a ((its.toArray.size : Int) - 1))).get? s1.heap.objs.size = some (RT.rtObj a ((its.toArray.size : Int) - 1)) := Heap.get?_push_size _ rfl
    refine call_list_it (s := { s1 with heap := s1.heap.push (RT.rtObj a ((its.toArray.size : Int) - 1)), toks := s1.toks + 1 + 1 }) (walks_rt (A := X.A.in1.in1) hh s1.heap.objs.size a (Nat.ne_of_lt hlt) its.toArray hn) (fun s st => st.2.1.typeIs) (by decide) (by decide) (fun s E Q st k => hint_rt' (items := its.toArray) (i := 0) (by have := st.2.1; rw [show (its.toArray.size : Int) - 1 - ((0 : Nat) : Int) = (its.toArray.size : Int) - 1 by omega] at this; exact this) st.2.2 hn (fun b => k b _ (Nat.le_add_right _ 3))) hn ⟨Nat.zero_le _, ?_, ?_⟩ (by show _ < (s1.heap.push _).objs.size; rw [Heap.size_push]; exact Nat.lt_succ_self _) (by show _ < (s1.heap.push _).objs.size; rw [Heap.size_push]; exact Nat.lt_succ_of_lt hlt) fun h' tk acc c' k e hacc => fin its _ h' tk acc c' rv hz k e hacc
    · rw [show (its.toArray.size : Int) - 1 - ((0 : Nat) : Int) = (its.toArray.size : Int) - 1 by omega]
      exact ⟨_, er, rfl, rfl⟩
    · obtain ⟨o, ho, r⟩ := p'
      exact ⟨o, Heap.get?_push_of_some _ ho, r⟩
end Y

set_option Elab.async false
set_option linter.all false
set_option maxRecDepth 100000
set_option maxHeartbeats 4000000
set_option autoImplicit false
/-! WF: zip, reversed, slices, lists added and repeated, chains, None, own lists read by slices and views. -/
namespace Y
open PySem PySem.Spec PyProof.Rows L2 Z
section
variable {X : Cx} {C : Cn} {E : XK} {e a b tg : Expr} {ma mb mc : ME} {ms mk : MS} {mi : MI} {es : List Expr} {ml : MA} {mf : ML} {pos : Pos}
/-! ### zip -/
def pairV (x y : Val) : Val := .tup [x, y]
def zipV (xs ys : List Val) : List Val := List.zipWith pairV xs ys
theorem zipV_get {xs ys : List Val} {i : Nat} {z : Val} (h : (zipV xs ys)[i]? = some z) : ∃ x y, xs[i]? = some x ∧ ys[i]? = some y ∧ z = pairV x y := by
  unfold zipV at h
  rw [List.getElem?_zipWith] at h
  cases hx : xs[i]? with
  | none => rw [hx] at h; cases h
  | some x =>
    cases hy : ys[i]? with
    | none => rw [hx, hy] at h; cases h
    | some y => rw [hx, hy] at h; cases h; exact ⟨x, y, rfl, rfl, rfl⟩
theorem rep_pair {A : Rg} {H : Hp} {T : Addr} {v w : V} {x y : Val} (fr : Fq A H) (hT : H T = none) (r1 : rep C A H v x) (r2 : rep C A H w y) : rep C A (upd H T (.tup [v, w])) (.ref T) (pairV x y) :=
  rep_tup.mpr ⟨T, _, rfl, .inl ⟨fr T (.of hT), upd_same⟩, reps_cons (rep.gr (gr_new hT) r1) (reps_cons (rep.gr (gr_new hT) r2) reps_nil)⟩
theorem rev_at {α : Type} {xs : List α} {i : Nat} {x : α} (h : xs.reverse[i]? = some x) : i < xs.length ∧ xs[xs.length - 1 - i]? = some x := by
  have hi : i < xs.length := by
    have := (List.getElem?_eq_some_iff.mp h).1
    rw [List.length_reverse] at this
    exact this
  rw [List.getElem?_reverse hi] at h
  exact ⟨hi, h⟩
theorem zipV_length (xs ys : List Val) : (zipV xs ys).length = min xs.length ys.length := by unfold zipV; rw [List.length_zipWith]
theorem wk_zr {Sq : Hp → Addr → List V → Prop} {A : Rg} {H : Hp} {a b : Addr} {vs ws : List V} {xs ys : List Val} (hq : ∀ A' H', Gr A H A' H' → Sq H' a vs) (hk : ∀ A' H', Gr A H A' H' → SqL C.K H' b ws) (r : reps C A H vs xs) (s : reps C A H ws ys) : Wk C A (ItzR Sq C.K a b vs.length) H (zipV xs.reverse ys) := fun A' H' g fr => by
  have r' := (reps.gr g r).pair
  have s' := (reps.gr g s).pair
  refine ⟨fun i z hz => ?_, ⟨vs, ws, hq A' H' g, rfl, hk A' H' g, ?_⟩⟩
  · obtain ⟨x, y, hx, hy, rfl⟩ := zipV_get hz
    obtain ⟨hi, hx'⟩ := rev_at hx
    obtain ⟨v, hv, rv⟩ := wk_list.paired_at' r' hx'
    obtain ⟨w, hw, rw'⟩ := wk_list.paired_at' s' hy
    rw [← r.len] at hv hi
    refine ⟨⟨vs, ws, v, w, hq A' H' g, rfl, hk A' H' g, hi, hv, hw⟩, fun v2 H2 ⟨T, v3, w3, e, hT, e2, k1, k2⟩ => ?_⟩
    subst e e2
    have h1 := k1 vs (hq A' H' g)
    have h2 := k2 ws (hk A' H' g)
    rw [hv] at h1; cases h1
    rw [hw] at h2; cases h2
    exact ⟨same_new hT, rep_pair fr hT rv rw'⟩
  · rw [zipV_length, List.length_reverse, r.len, s.len]
    omega
theorem sq_same {A A' : Rg} {H H' : Hp} {a : Addr} {vs : List V} (g : Gr A H A' H') (h : TupAt C.K A H a vs) : SqT C.K H' a vs := (TupAt.gr g h).sq
def zrM (a b : ME) : MI := fun ρ => a ρ >>= fun x => Rs.opt (seqV x.1) >>= fun xs => b x.2 >>= fun y => Rs.opt (lstV y.1) >>= fun ys => .ok (zipV xs.reverse ys, y.2)
theorem sqL_of {A A' : Rg} {H H' : Hp} {a : Addr} {vs : List V} (g : Gr A H A' H') (n : A a) (h : H a = some (.lst vs)) : SqL C.K H' a vs := SqL.of (g a _ nt n h).2
theorem lstV_of {x : Val} {xs : List Val} (e : lstV x = some xs) : x = .lst xs := by
  unfold lstV at e
  split at e
  · cases e; rfl
  · cases e
theorem yi_zr (hK : X.K = C.K) (h : ∀ {tx ty : TE}, PE X a tx → PE X b ty → PI X tg e (iZr X.K tx ty)) (ha : PE X a (SE C E ma)) (hb : PE X b (SE C E mb)) : PI X tg e (SI C E (zrM ma mb)) := PI.imp (h ha hb) fun σ H R ⟨B, A, ρ, N, hm⟩ =>
  ⟨B, A, ρ, N, Rs.wp_mono (Rs.wp_bind hm) (fun x hx v H1 N1 g1 r1 => by
    obtain ⟨xs, ex, hx⟩ := Rs.wp_opt (Rs.wp_bind hx)
    rw [hK]
    have two : ∀ {vs : List V} {a : Addr} {Sq : Hp → Addr → List V → Prop}, reps C A H1 vs xs → (∀ A' H', Gr A H1 A' H' → Sq H' a vs) →
        SE C E mb σ H1 fun y H2 => ∃ b ys, y = .ref b ∧ Sq H2 a vs ∧ SqL C.K H2 b ys ∧ R (ItzR Sq C.K a b vs.length) H2 := fun {vs a Sq} r hq => ⟨B, A, x.2, N1, Rs.wp_mono (Rs.wp_bind hx) (fun y hy w H2 N2 g2 r2 => by
      obtain ⟨ys, ey, hz⟩ := Rs.wp_opt (Rs.wp_bind hy)
      rw [lstV_of ey] at r2
      obtain ⟨b, ws, rfl, nb, hb, rs⟩ := rep_lst.mp r2
      exact ⟨b, ws, rfl, hq A H2 g2.g, sqL_of (.refl _ _) nb hb, hz _ H2 N2 (g1.trans g2) (wk_zr (fun A' H' g => hq A' H' (g2.g.trans g)) (fun A' H' g => sqL_of g nb hb) (reps.gr g2.g r) rs)⟩) (EXe.tr g1)⟩
    unfold seqV at ex
    split at ex
    · rename_i q
      cases ex
      rw [q] at r1
      obtain ⟨a, vs, rfl, na, ha, r⟩ := rep_lst.mp r1
      exact ⟨a, vs, rfl, .inl ⟨sqL_of (.refl _ _) na ha, two r fun A' H' g => sqL_of g na ha⟩⟩
    · rename_i q
      cases ex
      rw [q] at r1
      obtain ⟨a, vs, rfl, ha, r⟩ := rep_tup.mp r1
      exact ⟨a, vs, rfl, .inr ⟨sq_same (.refl _ _) ha, two r fun A' H' g => sq_same g ha⟩⟩
    · cases ex) fun _ _ _ _ h => h⟩
/-- zip(x, y) of two lists or two tuples -/
def zipM (a : MA) : MI := fun ρ => a ρ >>= fun x => match x.1 with
  | [.lst xs, .lst ys] => .ok (zipV xs ys, x.2)
  | [.tup xs, .tup ys] => .ok (zipV xs ys, x.2)
  | _ => .bad
theorem wk_zip {A : Rg} {H : Hp} {J : It} {vs ws : List V} {xs ys : List Val} (r : reps C A H vs xs) (s : reps C A H ws ys)
    (hgo : ∀ A' H' i v w, Gr A H A' H' → vs[i]? = some v → ws[i]? = some w → J.go i H' ∧ ∀ u H2, J.yld i H' u H2 → ∃ T, u = .ref T ∧ H' T = none ∧ H2 = upd H' T (.tup [v, w])) (hst : ∀ A' H' i, Gr A H A' H' → (vs.length ≤ i ∨ ws.length ≤ i) → J.stop i H') : Wk C A J H (zipV xs ys) := fun A' H' g fr => by
  have r' := (reps.gr g r).pair
  have s' := (reps.gr g s).pair
  refine ⟨fun i z hz => ?_, hst A' H' _ g (by rw [zipV_length, r.len, s.len]; omega)⟩
  obtain ⟨x, y, hx, hy, rfl⟩ := zipV_get hz
  obtain ⟨v, hv, rv⟩ := wk_list.paired_at' r' hx
  obtain ⟨w, hw, rw'⟩ := wk_list.paired_at' s' hy
  obtain ⟨k1, k2⟩ := hgo A' H' i v w g hv hw
  refine ⟨k1, fun u H2 hy => ?_⟩
  obtain ⟨T, rfl, hT, rfl⟩ := k2 u H2 hy
  exact ⟨same_new hT, rep_pair fr hT rv rw'⟩
theorem yi_zip (hK : X.K = C.K) (h : PI X tg e (RZ.iZipA X.K (SA C E ml))) : PI X tg e (SI C E (zipM ml)) := PI.imp h fun σ H R ⟨B, A, ρ, N, hm⟩ =>
  ⟨B, A, ρ, N, Rs.wp_mono (Rs.wp_bind hm) (fun x hx us H1 N1 g1 r1 => by
    rw [hK]
    split at hx
    · rename_i xs ys q
      rw [q] at r1
      obtain ⟨u, w, rfl, ru, rw'⟩ := reps2 r1
      obtain ⟨a, vs, rfl, na, ha, r⟩ := rep_lst.mp ru
      obtain ⟨b, ws, rfl, nb, hb, s⟩ := rep_lst.mp rw'
      refine ⟨a, b, vs, ws, rfl, .inl ⟨SqL.of ha, SqL.of hb, hx _ H1 N1 g1 (wk_zip r s (fun A' H' i v w g hv hw => ⟨⟨vs, ws, v, w, sqL_of g na ha, sqL_of g nb hb, hv, hw⟩, fun u H2 ⟨T, x, y, e, hT, e2, k1, k2⟩ => ⟨T, e, hT, ?_⟩⟩) fun A' H' i g z => ⟨vs, ws, sqL_of g na ha, sqL_of g nb hb, z⟩)⟩⟩
      have h1 := k1 vs (sqL_of g na ha)
      have h2 := k2 ws (sqL_of g nb hb)
      rw [hv] at h1; cases h1
      rw [hw] at h2; cases h2
      exact e2
    · rename_i xs ys q
      rw [q] at r1
      obtain ⟨u, w, rfl, ru, rw'⟩ := reps2 r1
      obtain ⟨a, vs, rfl, ha, r⟩ := rep_tup.mp ru
      obtain ⟨b, ws, rfl, hb, s⟩ := rep_tup.mp rw'
      refine ⟨a, b, vs, ws, rfl, .inr ⟨ha.sq, hb.sq, hx _ H1 N1 g1 (wk_zip r s (fun A' H' i v w g hv hw => ⟨⟨vs, ws, v, w, sq_same g ha, sq_same g hb, hv, hw⟩, fun u H2 ⟨T, x, y, e, hT, e2, k1, k2⟩ => ⟨T, e, hT, ?_⟩⟩) fun A' H' i g z => ⟨vs, ws, sq_same g ha, sq_same g hb, z⟩)⟩⟩
      have h1 := k1 vs (sq_same g ha)
      have h2 := k2 ws (sq_same g hb)
      rw [hv] at h1; cases h1
      rw [hw] at h2; cases h2
      exact e2
    · exact hx.elim) fun _ _ _ _ h => h⟩
/-! ### reversed -/
theorem reps.rev {A : Rg} {H : Hp} {vs : List V} {xs : List Val} (r : reps C A H vs xs) : reps C A H vs.reverse xs.reverse := by
  have go : ∀ {vs : List V} {xs : List Val} {ws : List V} {ys : List Val}, reps C A H vs xs → reps C A H ws ys → reps C A H (vs.reverseAux ws) (xs.reverseAux ys) := by
    intro vs xs
    induction xs generalizing vs with
    | nil => intro ws ys r s; unfold reps at r; subst r; exact s
    | cons x xs ih =>
      intro ws ys r s
      unfold reps at r
      obtain ⟨v, vs', rfl, h1, h2⟩ := r
      exact ih (vs := vs') h2 (reps_cons h1 s)
  exact go r reps_nil
/-- list(reversed(x)) -/
def lrevF (m : ME) : ML := fun ρ => m ρ >>= fun x => Rs.opt (seqV x.1) >>= fun xs => .ok (xs.reverse, x.2)
theorem yf_lrev (hK : X.K = C.K) (h : PE X e (tListRev X.K (SE C E ma))) : PE X e (SF C E (lrevF ma)) := PE.imp h fun σ H Q hs => by
  obtain ⟨B, A, ρ, N, hm⟩ := sf_of hs
  exact ⟨B, A, ρ, N, Rs.wp_mono (Rs.wp_bind hm) (fun x hx v H1 N1 g1 r1 => by
    obtain ⟨xs, ex, hz⟩ := Rs.wp_opt (Rs.wp_bind hx)
    rw [hK]
    unfold seqV at ex
    split at ex
    · rename_i q
      cases ex
      rw [q] at r1
      obtain ⟨a, vs, rfl, na, ha, r⟩ := rep_lst.mp r1
      exact ⟨a, vs, rfl, .inl (SqL.of ha), fun p hp => new_rd N1 g1 hz p _ hp r.rev⟩
    · rename_i q
      cases ex
      rw [q] at r1
      obtain ⟨a, vs, rfl, ha, r⟩ := rep_tup.mp r1
      exact ⟨a, vs, rfl, .inr ha.sq, fun p hp => new_rd N1 g1 hz p _ hp r.rev⟩
    · cases ex) fun _ _ _ _ h => h⟩
/-- tuple(reversed(x)), x a list -/
def trevV : Val → Option Val | .lst xs => some (.tup xs.reverse) | _ => none
theorem y_trev (hK : X.K = C.K) (h : PE X e (RT.tTupRev X.K (SE C E ma))) : PE X e (SE C E (unM trevV ma)) := PE.imp h fun σ H Q ⟨B, A, ρ, N, hm⟩ =>
  ⟨B, A, ρ, N, Rs.wp_mono (Rs.wp_bind hm) (fun x hx v H1 N1 g1 r1 => by
    obtain ⟨z, e, hz⟩ := Rs.wp_opt (Rs.wp_bind hx)
    rw [hK]
    unfold trevV at e
    split at e
    · rename_i q
      cases e
      rw [q] at r1
      obtain ⟨a, vs, rfl, na, ha, r⟩ := rep_lst.mp r1
      exact ⟨a, vs, rfl, SqL.of ha, fun p hp => hz _ _ (N1.new hp) (g1.trans (.same N1 (same_new hp))) (rep_tup.mpr ⟨p, _, rfl, .inl ⟨N1.fr p (.of hp), upd_same⟩, reps.gr (gr_new hp) r.rev⟩)⟩
    · cases e) fun _ _ _ _ h => h⟩
/-! ### tuple(x) -/
def tupOfV : Val → Option Val | .lst xs => some (.tup xs) | .tup xs => some (.tup xs) | _ => none
theorem cv_tuple : CbV C (fun xs H Q => ∃ p ys, xs = [.ref p] ∧ ((SqL C.K H p ys ∧ ∀ l, H l = none → Q (.ref l) (upd H l (.tup ys))) ∨ (SqT C.K H p ys ∧ Q (.ref p) H))) (f1 tupOfV) := fun A H us xs z fr r e0 Q q => by
  obtain ⟨u, x, rfl, rfl, ru, e⟩ := one_of r e0
  unfold tupOfV at e
  split at e
  · cases e
    obtain ⟨a, vs, rfl, n, h, rs⟩ := rep_lst.mp ru
    exact ⟨a, vs, rfl, .inl ⟨SqL.of h, fun l hl => q _ _ (same_new hl) (rep_tup.mpr ⟨l, vs, rfl, .inl ⟨fr l (.of hl), upd_same⟩, reps.gr (gr_new hl) rs⟩)⟩⟩
  · cases e
    obtain ⟨a, vs, rfl, h, rs⟩ := rep_tup.mp ru
    exact ⟨a, vs, rfl, .inr ⟨h.sq, q _ H (Same.refl H) (rep_tup.mpr ⟨a, vs, rfl, h, rs⟩)⟩⟩
  · cases e
/-! ### lists added, repeated -/
def addV2 : Val → Val → Option Val := fun x y => match x, y with
  | .lst xs, .lst ys => if xs.length + ys.length ≤ sizeLine then some (.lst (xs ++ ys)) else none
  | _, _ => addV x y
abbrev rAdd2 : R2 := fun x y H Q => rAddA x y H Q ∨ rCat x y H Q
theorem oy_add2 : OpR X (binaryOp .Add) rAdd2 := oy_add.or op_cat
theorem reps.app {A : Rg} {H : Hp} : ∀ {xs : List Val} {vs : List V} {ys : List Val} {ws : List V}, reps C A H vs xs → reps C A H ws ys → reps C A H (vs ++ ws) (xs ++ ys)
  | [], vs, _, _, h, k => by unfold reps at h; subst h; exact k
  | x :: xs, vs, _, _, h, k => by
    unfold reps at h
    obtain ⟨v, r, rfl, h1, h2⟩ := h
    exact reps_cons h1 (reps.app h2 k)
theorem ov_add2 : OpV C rAdd2 addV2 := fun A H u v x y z fr hu hv e Q q => by
  unfold addV2 at e
  split at e
  · split at e
    · rename_i h
      cases e
      obtain ⟨a, vs, rfl, na, ha, r⟩ := rep_lst.mp hu
      obtain ⟨b, ws, rfl, nb, hb, s⟩ := rep_lst.mp hv
      exact .inr ⟨a, b, vs, ws, rfl, rfl, ha, hb, by rw [r.len, s.len]; exact h, fun p hp => q _ _ (same_new hp) (rep_lst.mpr ⟨p, _, rfl, fr p (.of hp), upd_same, reps.gr (gr_new hp) (r.app s)⟩)⟩
    · cases e
  · exact .inl (ov_add A H u v x y z fr hu hv e Q q)
/-- x * n, x a list -/
def repL {α : Type} (xs : List α) (n : Nat) : List α := (List.replicate n xs).flatten
abbrev rMulL (K : PySem.W.Frag) : R2 := fun x y H Q => ∃ (a : Addr) (xs : List V) (i : Int), x = .ref a ∧ y = .int i ∧ SqL K H a xs ∧ -(2 ^ 62) ≤ i ∧ i < 2 ^ 62 ∧ xs.length * i.toNat ≤ 1000 ∧ ∀ p, H p = none → Q (.ref p) (upd H p (.lst (repL xs i.toNat)))
theorem vals_rep {vs : List V} {us : List Value} (r : Vals vs us) : ∀ n : Nat, Vals (repL vs n) (repL us n)
  | 0 => .nil
  | n + 1 => by
    show Vals ((vs :: List.replicate n vs).flatten) ((us :: List.replicate n us).flatten)
    rw [List.flatten_cons, List.flatten_cons]
    exact r.append (vals_rep r n)
theorem repL_length {α : Type} (xs : List α) (n : Nat) : (repL xs n).length = xs.length * n := by
  unfold repL
  induction n with
  | zero => simp
  | succ n ih => rw [List.replicate_succ, List.flatten_cons, List.length_append, ih, Nat.mul_succ, Nat.add_comm]
theorem op_mulL : OpR X (binaryOp .Mult) (rMulL X.K) := by
  intro pins s σ H x y v u Q I rx ry h
  obtain ⟨a, xs, i, rfl, rfl, hs, lo, hi, hz, q⟩ := h
  obtain rfl : v = Value.ref a := rx
  obtain ⟨t, rfl⟩ : ∃ t, u = Value.int i t := ry
  obtain ⟨its, rv, ⟨⟨cls, dd, data, sl⟩, n, ho, hc, hdn, hd⟩, hlen⟩ := I.list hs
  have hc1 : cls = Value.type "list" := hc
  have hd1 : data = Data.seq its.toArray n := hd
  subst hc1 hd1
  have hz' : its.toArray.size * i.toNat ≤ 1000 := by rw [List.size_toArray, ← rv.length]; exact hz
  have hsl := sizeLine_eq
  refine wpAny_binaryOp_repeat_ref (T := "list") (U := "int") (by decide) ⟨_, ho, rfl⟩ (fun s' => typeIs_int s' i t) noFill_list_mul F.fills_int_mul F.slot_int_rmul repeat_list F.slot_int_index.lookup (call_meets F.slot_int_rmul (typeIs_int s i t) F.entry_int_rmul (F.args_int_rmul_2 _ _) (lm_int_rmul_list_any i t a its.toArray n dd sl)
    ⟨ho, rfl, ⟨_, ho, rfl⟩, call_meets F.slot_list_mul ⟨_, ho, rfl⟩ F.entry_list_mul (F.args_list_mul_2 _ _) (lm_list_mul_any a its.toArray n dd sl i t (by simp only [Builtin.List.listFitsIndex, Bool.not_eq_true', Bool.and_eq_false_iff, decide_eq_false_iff_not]; omega) (by omega) (by simp only [Builtin.List.listTooLong, decide_eq_true_eq]; omega)) ⟨ho, ?_⟩⟩)
  rw [listMul_foldl_if]
  refine ⟨.ref s.heap.objs.size, upd H s.heap.objs.size (.lst (repL xs i.toNat)), I.laid (t' := s.toks) (fun b o e => Heap.get?_push_of_some _ e) (Nat.le_refl _) ⟨by rw [repL_length]; omega, repL its i.toNat, 0, vals_rep rv _, Heap.get?_push_size _ rfl⟩, rfl, q _ (I.hok.fresh (Nat.le_refl _))⟩
theorem reps.repL {A : Rg} {H : Hp} {vs : List V} {xs : List Val} (r : reps C A H vs xs) : ∀ n : Nat, reps C A H (Y.repL vs n) (Y.repL xs n)
  | 0 => reps_nil
  | n + 1 => by
    show reps C A H ((vs :: List.replicate n vs).flatten) ((xs :: List.replicate n xs).flatten)
    rw [List.flatten_cons, List.flatten_cons]
    exact r.app (reps.repL r n)
def mulF : Val → Val → Option (List Val) := fun x y => match x, y with
  | .lst xs, .int i => if -(2 ^ 62) ≤ i ∧ i < 2 ^ 62 ∧ xs.length * i.toNat ≤ 1000 then some (repL xs i.toNat) else none
  | _, _ => none
theorem of_mulL : OfV C (rMulL C.K) mulF := fun A H u v x y z fr hu hv e Q q => by
  unfold mulF at e
  split at e
  · split at e
    · rename_i h
      cases e
      obtain ⟨a, vs, rfl, na, ha, r⟩ := rep_lst.mp hu
      exact ⟨a, vs, _, rfl, rep_int.mp hv, SqL.of ha, h.1, h.2.1, by rw [r.len]; exact h.2.2, fun p hp => q p _ hp (r.repL _)⟩
    · cases e
  · cases e
end
end Y

set_option Elab.async false
set_option linter.all false
set_option maxRecDepth 100000
set_option maxHeartbeats 4000000
set_option autoImplicit false
/-! WG: slices, chains, None, constants, x, y = new, e; views of own values. -/
namespace Y
open PySem PySem.Spec PyProof.Rows L2 Z
theorem PO.imp {X : Cx} {e : Option Expr} {t t' : TO} (h : PO X e t) (k : ∀ σ H Q, t' σ H Q → t σ H Q) : PO X e t' := ⟨fun pins s σ H Q I q => h.run pins s σ H Q I (k σ H Q q)⟩
abbrev MP := En → Rs (Option Int × En)
def noP : MP := fun ρ => .ok (none, ρ)
def parP (m : ME) : MP := fun ρ => m ρ >>= fun x => match x.1 with | .int i => .ok (some i, x.2) | _ => .bad
def SPt (C : Cn) (E : XK) (m : MP) : TO := fun σ H Q => ∃ B A ρ, Now C B A H σ ρ ∧ (m ρ).wp (fun x => ∀ H', Now C B A H' σ x.2 → Gd σ A H ρ H' x.2 → Q x.1 H') (EXe C E B A H σ ρ)
def cutX {α : Type} (xs : List α) (lo hi : Option Int) : List α := (xs.drop (HT.sIx xs.length 0 lo)).take (HT.sIx xs.length xs.length hi - HT.sIx xs.length 0 lo)
section
variable {X : Cx} {C : Cn} {E : XK} {e a b c tg : Expr} {ma mb mc : ME} {ms mk : MS} {mi : MI} {es : List Expr} {ml : MA} {mf : ML} {pos : Pos} {lo hi : Option Expr} {pl ph : MP}
theorem yp_no : PO X none (SPt C E noP) := PO.imp po_none fun σ H Q ⟨B, A, ρ, N, hm⟩ => hm H N (.refl _ _ _ _)
theorem yp_of (h : PE X e (SE C E ma)) : PO X (some e) (SPt C E (parP ma)) := PO.imp (po_some h) fun σ H Q ⟨B, A, ρ, N, hm⟩ =>
  ⟨B, A, ρ, N, Rs.wp_mono (Rs.wp_bind hm) (fun x hx v H1 N1 g1 r1 => by
    split at hx
    · rename_i i q
      rw [q] at r1
      exact ⟨i, rep_int.mp r1, hx H1 N1 g1⟩
    · exact hx.elim) fun _ _ _ _ h => h⟩
theorem reps.drop {A : Rg} {H : Hp} {vs : List V} : ∀ {xs : List Val} {n : Nat}, reps C A H vs xs → reps C A H (vs.drop n) (xs.drop n) := fun {xs n} r => by
  induction n generalizing vs xs with
  | zero => exact r
  | succ n ih =>
    cases xs with
    | nil => unfold reps at r; subst r; exact reps_nil
    | cons x xs =>
      unfold reps at r
      obtain ⟨v, vs', rfl, h1, h2⟩ := r
      exact ih h2
theorem reps.take {A : Rg} {H : Hp} {vs : List V} : ∀ {xs : List Val} {n : Nat}, reps C A H vs xs → reps C A H (vs.take n) (xs.take n) := fun {xs n} r => by
  induction n generalizing vs xs with
  | zero => exact reps_nil
  | succ n ih =>
    cases xs with
    | nil => unfold reps at r; subst r; exact reps_nil
    | cons x xs =>
      unfold reps at r
      obtain ⟨v, vs', rfl, h1, h2⟩ := r
      exact reps_cons h1 (ih h2)
theorem reps.cut {A : Rg} {H : Hp} {vs : List V} {xs : List Val} (r : reps C A H vs xs) (lo hi : Option Int) : reps C A H (cutV vs lo hi) (cutX xs lo hi) := by
  unfold cutV cutX
  rw [r.len]
  exact (r.drop).take
def slV (x : Val) (lo hi : Option Int) : Option Val := match x with
  | .lst xs => some (.lst (cutX xs lo hi))
  | .tup xs => some (.tup (cutX xs lo hi))
  | _ => none
abbrev rSl2 (K : PySem.W.Frag) : V → Option Int → Option Int → Hp → VK → Prop := fun x lo hi H Q => rSlL K x lo hi H Q ∨ rSlA K x lo hi H Q
theorem sl_2 : SlR X (rSl2 X.K) := fun pins s σ H x v vl vu lo hi sl Q I rx hs pl pu h => h.elim (sl_list pins s σ H x v vl vu lo hi sl Q I rx hs pl pu) (sl_tupA pins s σ H x v vl vu lo hi sl Q I rx hs pl pu)
theorem sIx_all {n : Nat} {lo hi : Option Int} (h : HT.sIx n 0 lo = 0 ∧ HT.sIx n n hi = n) {xs : List Val} (hn : xs.length = n) : cutX xs lo hi = xs := by
  subst hn
  unfold cutX
  rw [h.1, h.2, List.drop_zero, Nat.sub_zero, List.take_length]
def slM (m : ME) (lo hi : MP) : ME := fun ρ => m ρ >>= fun x => lo x.2 >>= fun l => hi l.2 >>= fun u => Rs.opt (slV x.1 l.1 u.1) >>= fun z => .ok (z, u.2)
theorem y_sl {p2 : Pos} (hK : X.K = C.K) (ha : PE X a (SE C E ma)) (hl : PO X lo (SPt C E pl)) (hh : PO X hi (SPt C E ph)) : PE X (.Subscript a (.Slice lo hi none p2) pos) (SE C E (slM ma pl ph)) := PE.imp (pe_slice sl_2 ha hl hh) fun σ H Q ⟨B, A, ρ, N, hm⟩ =>
  ⟨B, A, ρ, N, Rs.wp_mono (Rs.wp_bind hm) (fun x hx v H1 N1 g1 r1 => ⟨B, A, x.2, N1, Rs.wp_mono (Rs.wp_bind hx) (fun l hl H2 N2 g2 => ⟨B, A, l.2, N2, Rs.wp_mono (Rs.wp_bind hl) (fun u hu H3 N3 g3 => by
    obtain ⟨z, e, hz⟩ := Rs.wp_opt (Rs.wp_bind hu)
    rw [hK]
    have g := (g1.trans g2).trans g3
    have r3 := rep.gr g3.g (rep.gr g2.g r1)
    unfold slV at e
    split at e
    · rename_i xs q
      cases e
      rw [q] at r3
      obtain ⟨a, vs, rfl, na, ha, r⟩ := rep_lst.mp r3
      exact .inl ⟨a, vs, rfl, SqL.of ha, fun p hp => hz _ _ (N3.new hp) (g.trans (.same N3 (same_new hp))) (rep_lst.mpr ⟨p, _, rfl, N3.fr p (.of hp), upd_same, reps.gr (gr_new hp) (r.cut _ _)⟩)⟩
    · rename_i xs q
      cases e
      rw [q] at r3
      obtain ⟨a, vs, rfl, ha, r⟩ := rep_tup.mp r3
      refine .inr ⟨a, vs, rfl, ha.sq, fun h => hz _ _ N3 g ?_, fun _ p hp => hz _ _ (N3.new hp) (g.trans (.same N3 (same_new hp))) (rep_tup.mpr ⟨p, _, rfl, .inl ⟨N3.fr p (.of hp), upd_same⟩, reps.gr (gr_new hp) (r.cut _ _)⟩)⟩
      rw [sIx_all (by rw [← r.len]; exact h) rfl]
      exact rep_tup.mpr ⟨a, vs, rfl, ha, r⟩
    · cases e) (EXe.tr (g1.trans g2))⟩) (EXe.tr g1)⟩) fun _ _ _ _ h => h⟩
/-- a slice of an own list, all in it frozen -/
def slO (i : Nat) (lo hi : MP) : ML := fun ρ => lo ρ >>= fun l => hi l.2 >>= fun u => match u.2[i]? with
  | some (some (.ob _ (.olst xs))) => if (xs.all fun x => !x.isO) = true then .ok (cutX xs l.1 u.1, u.2) else .bad
  | _ => .bad
def slOM (i : Nat) (lo hi : MP) : ML := fun ρ => match ρ[i]? with | some (some (.ob _ (.olst _))) => slO i lo hi ρ | _ => .bad
theorem yf_slO {i : Nat} {p2 : Pos} (hK : X.K = C.K) (hv : PE X a (tVar i)) (hl : PO X lo (SPt C E pl)) (hh : PO X hi (SPt C E ph)) : PE X (.Subscript a (.Slice lo hi none p2) pos) (SF C E (slOM i pl ph)) := PE.imp (pe_slice sl_list hv hl hh) fun σ H Q hs => by
  obtain ⟨B, A, ρ, N, hm⟩ := sf_of hs
  unfold slOM at hm
  split at hm
  · rename_i p0 xs0 h0
    obtain ⟨l, vs, hσ, hL, _⟩ := N.lst h0
    unfold slO at hm
    refine ⟨_, hσ, B, A, ρ, N, Rs.wp_mono (Rs.wp_bind hm) (fun lo hlo H1 N1 g1 => ⟨B, A, lo.2, N1, Rs.wp_mono (Rs.wp_bind hlo) (fun u hu H2 N2 g2 => ?_) (EXe.tr g1)⟩) fun _ _ _ _ h => h⟩
    split at hu
    · rename_i p xs h1
      obtain ⟨hf, hu⟩ := ite_bad hu
      obtain ⟨l', ws, hσ', hl', rs, _⟩ := N2.lst h1
      rw [hσ] at hσ'; cases hσ'
      rw [hK]
      exact ⟨l, ws, rfl, SqL.of hl', fun p hp => new_rd N2 (g1.trans g2) hu p _ hp ((rs.reps hf).cut _ _)⟩
    · exact hu.elim
  · exact hm.elim
/-! ### a op b op' c, of comparisons -/
def chnM (f g : Val → Val → Option Val) (a b c : ME) : ME := fun ρ => a ρ >>= fun x => b x.2 >>= fun y => Rs.opt ((f x.1 y.1).bind blV) >>= fun k => if k = true then c y.2 >>= fun z => Rs.opt (g y.1 z.1) >>= fun w => .ok (w, z.2) else .ok (.bl false, y.2)
theorem chn_rd {r r' : R2} {f g : Val → Val → Option Val} (hv : OpV C r f) (hv' : OpV C r' g) : ∀ σ H Q, SE C E (chnM f g ma mb mc) σ H Q → tChain r r' (SE C E ma) (SE C E mb) (SE C E mc) σ H Q := fun σ H Q ⟨B, A, ρ, N, hm⟩ =>
  ⟨B, A, ρ, N, Rs.wp_mono (Rs.wp_bind hm) (fun x hx u H1 N1 g1 r1 => ⟨B, A, x.2, N1, Rs.wp_mono (Rs.wp_bind hx) (fun y hy v H2 N2 g2 r2 => by
    obtain ⟨k, ek, hk⟩ := Rs.wp_opt (Rs.wp_bind hy)
    cases ef : f x.1 y.1 with
    | none => rw [ef] at ek; cases ek
    | some z =>
      rw [ef] at ek
      refine hv A H2 u v x.1 y.1 z N2.fr (rep.gr g2.g r1) r2 ef _ fun w H3 s r3 => ⟨k, blV_rep ek r3, ?_⟩
      have N3 := N2.same s
      have g3 := (g1.trans g2).trans (.same N2 s)
      by_cases h : k = true
      · rw [if_pos h] at hk ⊢
        exact ⟨B, A, y.2, N3, Rs.wp_mono (Rs.wp_bind hk) (fun z' hz' w' H4 N4 g4 r4 => by
          obtain ⟨q, eq, hq⟩ := Rs.wp_opt (Rs.wp_bind hz')
          exact hv' A H4 v w' y.1 z'.1 q N4.fr (rep.gr g4.g (rep.gr (.same s) r2)) r4 eq Q fun w2 H5 s5 r5 => hq w2 H5 (N4.same s5) ((g3.trans g4).trans (.same N4 s5)) r5) (EXe.tr g3)⟩
      · rw [if_neg h] at hk ⊢
        exact hk _ H3 N3 g3 (rep_bl.mpr rfl)) (EXe.tr g1)⟩) fun _ _ _ _ h => h⟩
theorem y_chn {op op' : CmpOp} {r r' : R2} {f g : Val → Val → Option Val} (h : ∀ {ta tb tc : TE}, PE X a ta → PE X b tb → PE X c tc → PE X e (tChain r r' ta tb tc)) (hv : OpV C r f) (hv' : OpV C r' g) (ha : PE X a (SE C E ma)) (hb : PE X b (SE C E mb)) (hc : PE X c (SE C E mc)) : PE X e (SE C E (chnM f g ma mb mc)) := PE.imp (h ha hb hc) (chn_rd hv hv')
theorem yt_of (hK : X.K = C.K) (h : PT X e (tTest (SE C E ma))) : PT X e (SB C E (tstM blV ma)) := PT.imp h fun σ H Q ⟨B, A, ρ, N, hm⟩ =>
  ⟨B, A, ρ, N, Rs.wp_mono (Rs.wp_bind hm) (fun x hx v H' N' g' r' => by
    obtain ⟨k, e, hk⟩ := Rs.wp_opt (Rs.wp_bind hx)
    exact ⟨k, blV_rep e r', hk H' N' g'⟩) fun _ _ _ _ h => h⟩
theorem tst_chn {r r' : R2} {f g : Val → Val → Option Val} (hv : OpV C r f) (hv' : OpV C r' g) (h : PT X e (tTest (tChain r r' (SE C E ma) (SE C E mb) (SE C E mc)))) (hK : X.K = C.K) : PT X e (SB C E (tstM blV (chnM f g ma mb mc))) :=
  yt_of hK (PT.imp h fun σ H Q q => chn_rd hv hv' σ H _ q)
/-! ### is None -/
def noneV : Val → Option Bool | .non => some true | .bl _ => some false | .int _ => some false | .str _ => some false | .lst _ => some false | .tup _ => some false | .dic _ _ => some false | .ins _ _ _ => some false | .err _ _ _ => some false | _ => none
def isNV : Val → Val → Option Val := fun x y => match y with | .non => (noneV x).map .bl | _ => none
def isnotNV : Val → Val → Option Val := fun x y => match y with | .non => (noneV x).map fun b => .bl (!b) | _ => none
theorem noneV_ok {A : Rg} {H : Hp} {v : V} {x : Val} {b : Bool} (r : rep C A H v x) (e : noneV x = some b) : decide (v = V.non) = b := by
  cases x with
  | non => cases e; rw [rep_non.mp r]; simp
  | bl _ => cases e; rw [rep_bl.mp r]; simp
  | int _ => cases e; rw [rep_int.mp r]; simp
  | str _ => cases e; rw [rep_str.mp r]; simp
  | lst _ => cases e; obtain ⟨a, vs, rfl, _⟩ := rep_lst.mp r; simp
  | tup _ => cases e; obtain ⟨a, vs, rfl, _⟩ := rep_tup.mp r; simp
  | dic _ _ => cases e; obtain ⟨a, vs, rfl, _⟩ := rep_dic.mp r; simp
  | ins _ _ _ => cases e; obtain ⟨a, dx, vs, rfl, _⟩ := rep_ins.mp r; simp
  | err _ _ _ => cases e; obtain ⟨a, dx, vs, rfl, _⟩ := rep_err.mp r; simp
  | _ => cases e
theorem ov_isN : OpV C (fun x y H Q => y = .non ∧ Q (.bl (decide (x = .non))) H) isNV := fun A H u v x y z fr hu hv e Q q => by
  unfold isNV at e
  split at e
  · cases e1 : noneV x with
    | none => rw [e1] at e; cases e
    | some k =>
      rw [e1] at e; cases e
      exact ⟨rep_non.mp hv, by rw [noneV_ok hu e1]; exact q _ H (Same.refl H) (rep_bl.mpr rfl)⟩
  · cases e
theorem ov_isnotN : OpV C (fun x y H Q => y = .non ∧ Q (.bl (!decide (x = .non))) H) isnotNV := fun A H u v x y z fr hu hv e Q q => by
  unfold isnotNV at e
  split at e
  · cases e1 : noneV x with
    | none => rw [e1] at e; cases e
    | some k =>
      rw [e1] at e; cases e
      exact ⟨rep_non.mp hv, by rw [noneV_ok hu e1]; exact q _ H (Same.refl H) (rep_bl.mpr rfl)⟩
  · cases e
/-- a module's int -/
theorem y_gint {x : Str} {i : Int} {p : Pos} (hg : Gl X x) (hm : ∃ t, X.mg x = some (.int i t)) (hdb : (x == ("__debug__" : Str)) = false := by decide) : PE X (.Name x p) (SE C E (cstM (.int i))) := by
  obtain ⟨t, hm⟩ := hm
  exact y_cst (pe_glob (v := .int i) hg hm ⟨t, rfl⟩ hdb) fun _ _ => rep_int.mpr rfl
/-! ### a view: an own value read as a frozen one, the answer an atom -/
def Val.atom : Val → Bool | .non => true | .bl _ => true | .int _ => true | .str _ => true | _ => false
def alone (ρ : En) (i : Nat) : Bool := (ρ.set i none).all fun s => match s with | some (.ob _ _) => false | _ => true
def viewM (i : Nat) (m : ME) : ME := fun ρ => match ρ[i]? with
  | some (some (.ob false x)) => if alone ρ i = true then noX (m (ρ.set i (some (.fz x.melt)))) >>= fun r => if r.1.atom = true then .ok (r.1, ρ) else .bad else .bad
  | _ => .bad
theorem alone_no {ρ : En} {i : Nat} (h : alone ρ i = true) {H : Hp} {σ : L2.St} {x : Val} {a : Addr} : ¬ OwnAt H σ (ρ.set i (some (.fz x))) a := fun ⟨j, s, v, h1, _, h3⟩ => by
  cases s with
  | fz _ => cases h3
  | ob p y =>
    rcases getset h1 with ⟨_, e, _⟩ | ⟨n, h1⟩
    · cases e
    · unfold alone at h
      rw [List.all_eq_true] at h
      have h2 : (ρ.set i none)[j]? = some (some (.ob p y)) := by rw [List.getElem?_set_ne (Ne.symm n)]; exact h1
      have := h _ (List.mem_of_getElem? h2)
      cases this
theorem atom_rep {A A' : Rg} {H : Hp} {v : V} {x : Val} (h : x.atom = true) (r : rep C A' H v x) : rep C A H v x := by
  cases x with
  | non => exact rep_non.mpr (rep_non.mp r)
  | bl _ => exact rep_bl.mpr (rep_bl.mp r)
  | int _ => exact rep_int.mpr (rep_int.mp r)
  | str _ => exact rep_str.mpr (rep_str.mp r)
  | _ => cases h
theorem y_view {i : Nat} (h : PE X e (SE C E ma)) : PE X e (SE C E (viewM i ma)) := PE.imp h fun σ H Q ⟨B, A, ρ, N, hm⟩ => by
  unfold viewM at hm
  split at hm
  · rename_i x hx
    obtain ⟨ha, hm⟩ := ite_bad hm
    obtain ⟨v, hσ, _⟩ := N.slot hx
    refine ⟨B, _, _, N.melt hx hσ, noX_wp (Rs.wp_mono (Rs.wp_bind hm) (fun r hr w H' N' g' r' => ?_) fun _ _ _ _ h => h)⟩
    obtain ⟨hat, hr⟩ := ite_bad hr
    have kp : ∀ a o, NT o → H a = some o → H' a = some o := fun a o t e => g'.k a o t e (alone_no ha)
    exact hr w H' (N.kept kp g'.f N'.tb) (.kept N kp g'.f) (atom_rep hat r')
  · exact hm.elim
/-- x, y = a new value, e -/
def parNS (i j : Nat) (m1 : MN) (m2 : ME) : MS := fun ρ => m1 ρ >>= fun x => noX (m2 x.2) >>= fun y => if (freeS y.2 i = true ∧ x.1.isO = true) ∧ freeS (y.2.set i (some (.ob false x.1))) j = true then .ok (.nx ((y.2.set i (some (.ob false x.1))).set j (some (.fz y.1)))) else .bad
theorem ys_parN {i j : Nat} {m1 : MN} {m2 : ME} {st : Stmt} (h : PS X st (tPar i j (tCons (SN C E m1) (tCons (SE C E m2) tNil)))) : PS X st (SS C E (parNS i j m1 m2)) := PS.imp h fun D σ H ⟨B, A, ρ, N, hm⟩ =>
  ⟨B, A, ρ, N, Rs.wp_mono (Rs.wp_bind hm) (fun x hx v H1 N1 n1 => ⟨B, _, x.2, N1, noX_wp (Rs.wp_mono (Rs.wp_bind hx) (fun y hy w H2 N2 g2 r2 => by
    obtain ⟨⟨⟨hf, ho⟩, hf2⟩, hy⟩ := ite_bad hy
    have keep : ∀ a ∈ fl H1 v x.1, H2 a = H1 a := fun a ha => by
      obtain ⟨u, q1, q2⟩ := ro.in n1.r ha
      rw [q1]; exact g2.k a u q2.1 q1 (n1.d a ha).2
    obtain ⟨r', e'⟩ := ro.frame g2.g n1.r keep
    have N3 := N2.own' (x := x.1) (v := v) hf ⟨ho, r', by rw [e']; exact n1.n, fun a ha z => by rw [e'] at ha; exact z.2 ha⟩ (fun a ha => by rw [e'] at ha; exact N.fe a (n1.d a ha).1) fun a ha z => by
      rw [e'] at ha
      rcases g2.o a z with q | q
      · exact (n1.d a ha).2 q
      · obtain ⟨u, q1, q2⟩ := ro.in n1.r ha
        exact q.no q1 q2.1
    exact ⟨v, w, rfl, hy _ _ H2 (N3.set hf2 r2) ((n1.g N).trans g2.g)⟩) fun _ _ _ _ h => h)⟩) EXe.of⟩
end
end Y

set_option Elab.async false
set_option linter.all false
set_option maxRecDepth 100000
set_option maxHeartbeats 4000000
set_option autoImplicit false
/-! WH: name = [.. for ..]. -/
namespace Y
open PySem PySem.Spec PyProof.Rows L2 Z
section
variable {X : Cx} {C : Cn} {E E0 : XK} {mi : MI}
theorem ps_lcW {i : Nat} {y : Str} {py : Pos} {me : MN} {elt tg iter : Expr} {ifs : List Expr} {scope : Scope} {own : List (Str × Nat)} {pos spos : Pos} {is : List Nat} {t : MT} {c : MB} {tt : TT} (hc : X.calm = true) (hN : X.N.Nodup) (hy : X.N[i]? = some y) (hyl : X.env.scope.names.lookup y = some .local)
    (hsw : swapsWith (.ListComp elt [⟨tg, iter, ifs, 0⟩] scope pos) (some (.Name y py)) spos.line X.env = pure true) (hi : PI X tg iter (SI C E mi)) (ok : BlkOk X.N X.env.scope scope own) (hs : ∀ i ∈ is, i ∈ own.map (·.2)) (htt : ∀ σ H Q, SB C E0 c σ H Q → tt σ H Q)
    (hg : ∀ (s : Shared) (H : Hp) (D : Addr) (cl : List (Str × Addr)) (fp : List Addr), PG (X.blk s H scope (compEnvC scope cl D X.env) fp) tg (SG C is t)) (ht : ∀ (s : Shared) (H : Hp) (D : Addr) (cl : List (Str × Addr)) (fp : List Addr), PTs (X.blk s H scope (compEnvC scope cl D X.env) fp) ifs tt)
    (he : ∀ (s : Shared) (H : Hp) (D : Addr) (cl : List (Str × Addr)) (fp : List Addr), PE (X.blk s H scope (compEnvC scope cl D X.env) fp) elt (SN C E0 me)) (hf : ∀ x, foldedSetIterable iter X.env x = pure x := by intro _; rfl) :
    PS X (.Assign [.Name y py] (.ListComp elt [⟨tg, iter, ifs, 0⟩] scope pos) spos) (tAsg (SF C E (compF (own.map (·.2)) mi t c me)) (gName i)) := PS.imp (ps_setLc hc hN hy hyl hsw hi ok hg ht he hf) fun D σ H h => lc_rd hs (fun _ _ _ h => h) htt σ H _ h
/-- .. its value frozen -/
theorem ys_asgF {i : Nat} {st : Stmt} {m : ML} (h : PS X st (tAsg (SF C E m) (gName i))) : PS X st (SS C E (asgS i (listM m))) := ys_asg (PS.imp h fun D σ H ⟨B, A, ρ, N, hm⟩ => SE.ofN σ H _ ⟨B, A, ρ, N, by
  unfold meltM ownL
  unfold listM at hm
  have e : ∀ xs : List Val, (Val.olst xs).melt = .lst (melts xs) := fun xs => by unfold Val.melt; rfl
  exact Rs.bind_wp (Rs.bind_wp (Rs.wp_mono (Rs.wp_bind hm) (fun x hx v H' N' g' r' => hx v H' N' g' (by rw [← e]; exact r')) fun _ _ _ _ h => h))⟩)
end
end Y

set_option Elab.async false
set_option linter.all false
set_option maxRecDepth 100000
set_option maxHeartbeats 4000000
set_option autoImplicit false
namespace Y
open PySem PySem.Spec PyProof.Rows L2 Z
def top (i : Nat) : Stmt := PySem.Challenge.pw_littlewebs_k32_closed_walks_there_and_ba.main.body.getD i (.Pass ⟨0, 0, 0, 0⟩)
variable {P : Program} {w : World} {C : Cn} {mg : Str → Option Value} {base : Heap}
abbrev s__law_heard : Stmt := top 24
theorem sc__law_heard : FnScope ["ask", "found", "error"] ["ask"] (defScope s__law_heard) := ⟨rfl, rfl, rfl, by decide +kernel, rfl, by decide +kernel, by decide +kernel⟩
def b_is_integer : MS := (retS (andM (cbM (f2 isiV) (consA (varM 0) (consA (cstM (.ty "int")) nilA))) (unM notV (cbM (f2 isiV) (consA (varM 0) (consA (cstM (.ty "bool")) nilA))))))
abbrev s_is_integer : Stmt := top 1
theorem sc_is_integer : FnScope ["value"] ["value"] (defScope s_is_integer) := ⟨rfl, rfl, rfl, by decide +kernel, rfl, by decide +kernel, by decide +kernel⟩
def b_is_within : MS := (seqS (ifS (notB (tstM truV (callM 1 1 b_is_integer (consA (varM 0) nilA)))) (retS (cstM (.bl false))) nextS) (retS (andM (orM (binM isNV (varM 1) (cstM .non)) (binM leV (varM 1) (varM 0))) (orM (binM isNV (varM 2) (cstM .non)) (binM leV (varM 0) (varM 2))))))
abbrev s_is_within : Stmt := top 2
theorem sc_is_within : FnScope ["value", "least", "most"] ["value", "least", "most"] (defScope s_is_within) := ⟨rfl, rfl, rfl, by decide +kernel, rfl, by decide +kernel, by decide +kernel⟩
def b_are_numbers : MS := (retS (andM (cbM (f2 isiV) (consA (varM 0) (consA (tupM (consA (cstM (.ty "list")) (consA (cstM (.ty "tuple")) nilA))) nilA))) (cbM (f1 allV) (consA (listM (compF [1] (walkM seqV (varM 0)) (nameT 1) yesB (callM 1 1 b_is_integer (consA (varM 1) nilA)))) nilA))))
abbrev s_are_numbers : Stmt := top 3
theorem sc_are_numbers : FnScope ["value", "item"] ["value"] (defScope s_are_numbers) := ⟨rfl, rfl, rfl, by decide +kernel, rfl, by decide +kernel, by decide +kernel⟩
def b__joined : MS := (retS (cbM (f1 sumV) (consA (listM (compF [2, 3] (zrM (varM 0) (varM 1)) (tupT 2 (consT (nameT 2) (consT (nameT 3) nilT))) yesB (binM mulV (varM 2) (varM 3)))) nilA)))
abbrev s__joined : Stmt := top 11
theorem sc__joined : FnScope ["traces", "falling", "trace", "number"] ["traces", "falling"] (defScope s__joined) := ⟨rfl, rfl, rfl, by decide +kernel, rfl, by decide +kernel, by decide +kernel⟩
def b_traces_by : MS := (seqS (asgS 2 (listM (lrevF (varM 0)))) (seqS (newS 3 (dispF (consA (binM subV (cbM (f1 lenV) (consA (varM 0) nilA)) (cstM (.int 1))) nilA))) (seqS (forS (rng2M (consA (cstM (.int 1)) (consA (varM 1) nilA))) (nameT 4) (seqS (asgS 5 (ifM (tstM blV (binM ltV (varM 4) (cbM (f1 lenV) (consA (varM 2) nilA)))) (binM mulV (varM 4) (binM ixV (varM 2) (varM 4))) (cstM (.int 0)))) (appS 3 (binM subV (unM negV (varM 5)) (callM 2 4 b__joined (consA (listM (slOM 3 (parP (cstM (.int 1))) noP)) (consA (slM (varM 2) (parP (cstM (.int 1))) noP) nilA))))))) (retS (cbM (f1 tupOfV) (consA (listM (slOM 3 noP (parP (varM 1)))) nilA))))))
abbrev s_traces_by : Stmt := top 9
theorem sc_traces_by : FnScope ["polynomial", "many", "falling", "traces", "length", "told"] ["polynomial", "many"] (defScope s_traces_by) := ⟨rfl, rfl, rfl, by decide +kernel, rfl, by decide +kernel, by decide +kernel⟩
def b_polynomial_by : MS := (seqS (newS 1 (dispF (consA (cstM (.int 1)) nilA))) (seqS (forS (rng2M (consA (cstM (.int 1)) (consA (cbM (f1 lenV) (consA (varM 0) nilA)) nilA))) (nameT 2) (seqS (asgS 3 (viewM 1 (callM 2 4 b__joined (consA (slM (varM 0) (parP (cstM (.int 1))) (parP (binM addV2 (varM 2) (cstM (.int 1))))) (consA (varM 1) nilA))))) (seqS (ifS (tstM blV (binM neV (binM modV (varM 3) (varM 2)) (cstM (.int 0)))) (retS (cstM .non)) nextS) (appS 1 (binM divV (unM negV (varM 3)) (varM 2)))))) (meltS 1 (retS (unM trevV (varM 1))))))
abbrev s_polynomial_by : Stmt := top 10
theorem sc_polynomial_by : FnScope ["traces", "falling", "length", "told"] ["traces"] (defScope s_polynomial_by) := ⟨rfl, rfl, rfl, by decide +kernel, rfl, by decide +kernel, by decide +kernel⟩
def b__need_polynomial : MS := (ifS (orB (notB (tstM truV (callM 1 2 b_are_numbers (consA (varM 0) nilA)))) (orB (notB (tstM blV (chnM leV leV (cstM (.int 2)) (cbM (f1 lenV) (consA (varM 0) nilA)) (cstM (.int 25))))) (tstM blV (binM neV (binM ixV (varM 0) (unM negV (cstM (.int 1)))) (cstM (.int 1)))))) (raiseS 2 [("part" : Str)] (consA (cstM (.str ("polynomial" : Str))) nilA)) nextS)
abbrev s__need_polynomial : Stmt := top 17
theorem sc__need_polynomial : FnScope ["value"] ["value"] (defScope s__need_polynomial) := ⟨rfl, rfl, rfl, by decide +kernel, rfl, by decide +kernel, by decide +kernel⟩
def b_traces_from : MS := (seqS (dropS (callM 1 1 b__need_polynomial (consA (varM 0) nilA))) (seqS (ifS (notB (tstM truV (callM 3 3 b_is_within (consA (varM 1) (consA (cstM (.int 0)) (consA (cstM (.int 100)) nilA)))))) (raiseS 2 [("part" : Str)] (consA (cstM (.str ("many" : Str))) nilA)) nextS) (retS (callM 2 6 b_traces_by (consA (varM 0) (consA (varM 1) nilA))))))
abbrev s_traces_from : Stmt := top 15
theorem sc_traces_from : FnScope ["polynomial", "many"] ["polynomial", "many"] (defScope s_traces_from) := ⟨rfl, rfl, rfl, by decide +kernel, rfl, by decide +kernel, by decide +kernel⟩
def b_polynomial_from : MS := (seqS (ifS (orB (notB (tstM truV (callM 1 2 b_are_numbers (consA (varM 0) nilA)))) (orB (notB (tstM blV (chnM leV leV (cstM (.int 2)) (cbM (f1 lenV) (consA (varM 0) nilA)) (cstM (.int 25))))) (tstM blV (binM neV (binM ixV (varM 0) (cstM (.int 0))) (binM subV (cbM (f1 lenV) (consA (varM 0) nilA)) (cstM (.int 1))))))) (raiseS 2 [("part" : Str)] (consA (cstM (.str ("traces" : Str))) nilA)) nextS) (seqS (asgS 1 (callM 1 4 b_polynomial_by (consA (varM 0) nilA))) (seqS (ifS (tstM blV (binM isNV (varM 1) (cstM .non))) (raiseS 1 [("part" : Str)] (consA (cstM (.str ("traces" : Str))) nilA)) nextS) (retS (varM 1)))))
abbrev s_polynomial_from : Stmt := top 16
theorem sc_polynomial_from : FnScope ["traces", "polynomial"] ["traces"] (defScope s_polynomial_from) := ⟨rfl, rfl, rfl, by decide +kernel, rfl, by decide +kernel, by decide +kernel⟩
def n__law_jar : MN := ownL (dispF (consA (listM (compF [1] (walkM seqV (listM (scrF 58 (varM 0)))) (nameT 1) yesB (cbM (f1 intV) (consA (varM 1) nilA)))) (consA (cstM (.int 0)) (consA (cstM (.int 0)) nilA))))
abbrev s__law_jar : Stmt := top 19
theorem sc__law_jar : FnScope ["script", "cell"] ["script"] (defScope s__law_jar) := ⟨rfl, rfl, rfl, by decide +kernel, rfl, by decide +kernel, by decide +kernel⟩
def b__law_lot : MS := (seqS (ifS (tstM blV (binM gtV (ixO 0 (cstM (.int 2))) (cstM (.int 0)))) (seqS (asgS 2 (ixO 0 (cstM (.int 2)))) (seqS (setS 0 (cstM (.int 2)) (binM divV (cbM (f1 intV) (consA (varM 2) nilA)) (varM 1))) (retS (binM modV (cbM (f1 intV) (consA (varM 2) nilA)) (varM 1))))) nextS) (seqS (asgS 3 (ixO 0 (cstM (.int 1)))) (seqS (setS 0 (cstM (.int 1)) (binM addV2 (varM 3) (cstM (.int 1)))) (seqS (asgS 4 (binM addV2 (binM mulV (cstM (.int 61007)) (varM 3)) (cstM (.int 4007)))) (seqS (ifS (tstM blV (binM neV (ixO 0 (cstM (.int 0))) (lstM nilA))) (asgS 4 (binM ixV (ixO 0 (cstM (.int 0))) (binM modV (cbM (f1 intV) (consA (varM 3) nilA)) (cbM (f1 lenV) (consA (ixO 0 (cstM (.int 0))) nilA))))) nextS) (seqS (ifS (andB (tstM blV (binM ltV (varM 3) (cbM (f1 lenV) (consA (ixO 0 (cstM (.int 0))) nilA)))) (tstM blV (binM geV (cbM (f1 absVl) (consA (varM 4) nilA)) (binM powV (cstM (.int 10)) (cstM (.int 18)))))) (seqS (asgS 2 (binM addV2 (binM mulV (cstM (.int 2)) (binM subV (cbM (f1 absVl) (consA (varM 4) nilA)) (binM powV (cstM (.int 10)) (cstM (.int 18))))) (cbM (f1 intV) (consA (binM ltV (varM 4) (cstM (.int 0))) nilA)))) (seqS (setS 0 (cstM (.int 2)) (binM divV (cbM (f1 intV) (consA (varM 2) nilA)) (varM 1))) (retS (binM modV (cbM (f1 intV) (consA (varM 2) nilA)) (varM 1))))) nextS) (seqS (asgS 5 (binM modV (cbM (f1 intV) (consA (binM powV (binM addV2 (binM addV2 (binM modV (cbM (f1 intV) (consA (varM 4) nilA)) (cstM (.int 2147483563))) (binM mulV (cstM (.int 71023)) (varM 3))) (cstM (.int 4007))) (cstM (.int 5))) nilA)) (cstM (.int 2147483549)))) (seqS (asgS 5 (binM modV (cbM (f1 intV) (consA (binM powV (binM addV2 (binM addV2 (binM mulV (varM 5) (binM addV2 (binM mulV (cstM (.int 2)) (varM 3)) (cstM (.int 4007)))) (binM mulV (binM mulV (cstM (.int 61007)) (varM 3)) (varM 3))) (cstM (.int 71023))) (cstM (.int 3))) nilA)) (cstM (.int 2147483579)))) (retS (binM modV (cbM (f1 intV) (consA (binM divV (varM 5) (cstM (.int 32))) nilA)) (varM 1)))))))))))
abbrev s__law_lot : Stmt := top 20
theorem sc__law_lot : FnScope ["jar", "many", "rest", "turn", "cell", "mixed"] ["jar", "many"] (defScope s__law_lot) := ⟨rfl, rfl, rfl, by decide +kernel, rfl, by decide +kernel, by decide +kernel⟩
def b__law_take : MS := (retS (binM ixV (varM 1) (callO 0 2 6 b__law_lot (consA (cbM (f1 lenV) (consA (varM 1) nilA)) nilA))))
abbrev s__law_take : Stmt := top 21
theorem sc__law_take : FnScope ["jar", "some"] ["jar", "some"] (defScope s__law_take) := ⟨rfl, rfl, rfl, by decide +kernel, rfl, by decide +kernel, by decide +kernel⟩
def b__law_times : MS := (seqS (newS 2 (bfM mulF (lstM (consA (cstM (.int 0)) nilA)) (binM subV (binM addV2 (cbM (f1 lenV) (consA (varM 0) nilA)) (cbM (f1 lenV) (consA (varM 1) nilA))) (cstM (.int 1))))) (seqS (forS (enumM (consA (varM 0) nilA)) (tupT 2 (consT (nameT 3) (consT (nameT 4) nilT))) (forS (enumM (consA (varM 1) nilA)) (tupT 2 (consT (nameT 5) (consT (nameT 6) nilT))) (setS 2 (binM addV2 (varM 3) (varM 5)) (binM addV2 (ixO 2 (binM addV2 (varM 3) (varM 5))) (binM mulV (varM 4) (varM 6)))))) (meltS 2 (retS (varM 2)))))
abbrev s__law_times : Stmt := top 22
theorem sc__law_times : FnScope ["one", "other", "found", "at", "mine", "spot", "its"] ["one", "other"] (defScope s__law_times) := ⟨rfl, rfl, rfl, by decide +kernel, rfl, by decide +kernel, by decide +kernel⟩
def b__law_powers : MS := (seqS (parNS 2 3 (ownL (dispF nilA)) (listM (bfM mulF (lstM (consA (cstM (.int 1)) nilA)) (cbM (f1 lenV) (consA (varM 0) nilA))))) (seqS (forS (rng1M (consA (varM 1) nilA)) (nameT 4) (seqS (appS 2 (cbM (f1 sumV) (consA (varM 3) nilA))) (asgS 3 (listM (compF [5, 6] (zipM (consA (varM 3) (consA (varM 0) nilA))) (tupT 2 (consT (nameT 5) (consT (nameT 6) nilT))) yesB (binM mulV (varM 5) (varM 6))))))) (meltS 2 (retS (cbM (f1 tupOfV) (consA (varM 2) nilA))))))
abbrev s__law_powers : Stmt := top 23
theorem sc__law_powers : FnScope ["numbers", "many", "found", "now", "turn", "power", "number"] ["numbers", "many"] (defScope s__law_powers) := ⟨rfl, rfl, rfl, by decide +kernel, rfl, by decide +kernel, by decide +kernel⟩
def b__law_product_right : MS := (seqS (asgS 1 (listM (compF [2] (rng1M (consA (callO 0 2 2 b__law_take (consA (lstM (consA (cstM (.int 3)) (consA (cstM (.int 2)) (consA (cstM (.int 4)) (consA (cstM (.int 1)) (consA (cstM (.int 6)) (consA (cstM (.int 8)) nilA))))))) nilA)) nilA)) (nameT 2) yesB (binM subV (callO 0 2 6 b__law_lot (consA (cstM (.int 13)) nilA)) (cstM (.int 6)))))) (seqS (asgS 3 (lstM (consA (cstM (.int 1)) nilA))) (seqS (forS (walkM seqV (varM 1)) (nameT 4) (asgS 3 (callM 2 7 b__law_times (consA (varM 3) (consA (lstM (consA (unM negV (varM 4)) (consA (cstM (.int 1)) nilA))) nilA))))) (seqS (asgS 5 (binM addV2 (cbM (f1 lenV) (consA (varM 1) nilA)) (cstM (.int 6)))) (seqS (ifS (tstM blV (binM neV (cbM (f1 reprV) (consA (callM 2 2 b_traces_from (consA (varM 3) (consA (varM 5) nilA))) nilA)) (cbM (f1 reprV) (consA (callM 2 7 b__law_powers (consA (varM 1) (consA (varM 5) nilA))) nilA)))) (retS (cstM (.bl false))) nextS) (retS (binM eqV (cbM (f1 reprV) (consA (callM 1 2 b_polynomial_from (consA (listM (cfM listV (consA (callM 2 7 b__law_powers (consA (varM 1) (consA (binM addV2 (cbM (f1 lenV) (consA (varM 1) nilA)) (cstM (.int 1))) nilA))) nilA))) nilA)) nilA)) (cbM (f1 reprV) (consA (cbM (f1 tupOfV) (consA (varM 3) nilA)) nilA)))))))))
abbrev s__law_product_right : Stmt := top 25
theorem sc__law_product_right : FnScope ["jar", "numbers", "turn", "whole", "number", "many"] ["jar"] (defScope s__law_product_right) := ⟨rfl, rfl, rfl, by decide +kernel, rfl, by decide +kernel, by decide +kernel⟩
def b__law_any_right : MS := (seqS (asgS 1 (binM addV2 (listM (compF [2] (rng1M (consA (binM addV2 (cstM (.int 1)) (callO 0 2 6 b__law_lot (consA (cstM (.int 6)) nilA))) nilA)) (nameT 2) yesB (binM subV (callO 0 2 6 b__law_lot (consA (cstM (.int 41)) nilA)) (cstM (.int 20))))) (lstM (consA (cstM (.int 1)) nilA)))) (seqS (asgS 3 (binM addV2 (listM (compF [2] (rng1M (consA (binM addV2 (cstM (.int 1)) (callO 0 2 6 b__law_lot (consA (cstM (.int 4)) nilA))) nilA)) (nameT 2) yesB (binM subV (callO 0 2 6 b__law_lot (consA (cstM (.int 9)) nilA)) (cstM (.int 4))))) (lstM (consA (cstM (.int 1)) nilA)))) (seqS (forS (walkM seqV (tupM (consA (varM 1) (consA (varM 3) nilA)))) (nameT 4) (ifS (tstM blV (binM neV (callM 1 2 b_polynomial_from (consA (callM 2 2 b_traces_from (consA (varM 4) (consA (cbM (f1 lenV) (consA (varM 4) nilA)) nilA))) nilA)) (cbM (f1 tupOfV) (consA (varM 4) nilA)))) (retS (cstM (.bl false))) nextS)) (seqS (parS 5 6 (consA (callM 2 7 b__law_times (consA (varM 1) (consA (varM 3) nilA))) (consA (binM addV2 (binM addV2 (cbM (f1 lenV) (consA (varM 1) nilA)) (cbM (f1 lenV) (consA (varM 3) nilA))) (cstM (.int 3))) nilA))) (seqS (asgS 7 (cbM (f1 tupOfV) (consA (listM (compF [8, 9] (zipM (consA (callM 2 2 b_traces_from (consA (varM 1) (consA (varM 6) nilA))) (consA (callM 2 2 b_traces_from (consA (varM 3) (consA (varM 6) nilA))) nilA))) (tupT 2 (consT (nameT 8) (consT (nameT 9) nilT))) yesB (binM addV2 (varM 8) (varM 9)))) nilA))) (retS (andM (binM eqV (callM 2 2 b_traces_from (consA (varM 5) (consA (varM 6) nilA))) (varM 7)) (binM eqV (callM 2 2 b_traces_from (consA (cbM (f1 tupOfV) (consA (varM 5) nilA)) (consA (binM subV (varM 6) (cstM (.int 4))) nilA))) (slM (varM 7) noP (parP (binM subV (varM 6) (cstM (.int 4)))))))))))))
abbrev s__law_any_right : Stmt := top 26
theorem sc__law_any_right : FnScope ["jar", "one", "turn", "other", "polynomial", "both", "many", "due", "mine", "its"] ["jar"] (defScope s__law_any_right) := ⟨rfl, rfl, rfl, by decide +kernel, rfl, by decide +kernel, by decide +kernel⟩
def b__law_few_right : MS := (seqS (asgT (tupT 3 (consT (nameT 1) (consT (nameT 2) (consT (nameT 3) nilT)))) (tupM (consA (binM subV (callO 0 2 6 b__law_lot (consA (cstM (.int 9)) nilA)) (cstM (.int 4))) (consA (binM subV (callO 0 2 6 b__law_lot (consA (cstM (.int 19)) nilA)) (cstM (.int 9))) (consA (binM subV (callO 0 2 6 b__law_lot (consA (cstM (.int 41)) nilA)) (cstM (.int 20))) nilA))))) (seqS (parS 4 5 (consA (binM subV (binM mulV (varM 1) (varM 1)) (varM 2)) (consA (binM addV2 (binM subV (binM mulV (binM mulV (varM 1) (varM 1)) (varM 1)) (binM mulV (binM mulV (cstM (.int 3)) (varM 1)) (varM 2))) (binM mulV (cstM (.int 2)) (varM 3))) nilA))) (seqS (asgS 6 (ifM (tstM blV (binM eqV (binM modV (cbM (f1 intV) (consA (varM 4) nilA)) (cstM (.int 2))) (cstM (.int 0)))) (tupM (consA (cbM (f1 intV) (consA (binM divV (varM 4) (cstM (.int 2))) nilA)) (consA (unM negV (varM 1)) (consA (cstM (.int 1)) nilA)))) (cstM (.str ("traces" : Str))))) (seqS (ifS (orB (tstM blV (binM neV (hearM2 1 ("part" : Str) (callM 1 2 b_polynomial_from (consA (lstM (consA (cstM (.int 2)) (consA (varM 1) (consA (varM 2) nilA)))) nilA))) (varM 6))) (tstM blV (binM neV (callM 1 2 b_polynomial_from (consA (tupM (consA (cstM (.int 1)) (consA (varM 1) nilA))) nilA)) (tupM (consA (unM negV (varM 1)) (consA (cstM (.int 1)) nilA)))))) (retS (cstM (.bl false))) nextS) (seqS (asgS 7 (andM (binM eqV (binM modV (cbM (f1 intV) (consA (varM 4) nilA)) (cstM (.int 2))) (cstM (.int 0))) (binM eqV (binM modV (cbM (f1 intV) (consA (varM 5) nilA)) (cstM (.int 6))) (cstM (.int 0))))) (seqS (asgS 6 (ifM (tstM truV (varM 7)) (tupM (consA (unM negV (cbM (f1 intV) (consA (binM divV (varM 5) (cstM (.int 6))) nilA))) (consA (cbM (f1 intV) (consA (binM divV (varM 4) (cstM (.int 2))) nilA)) (consA (unM negV (varM 1)) (consA (cstM (.int 1)) nilA))))) (cstM (.str ("traces" : Str))))) (retS (binM eqV (hearM2 1 ("part" : Str) (callM 1 2 b_polynomial_from (consA (lstM (consA (cstM (.int 3)) (consA (varM 1) (consA (varM 2) (consA (varM 3) nilA))))) nilA))) (varM 6)))))))))
abbrev s__law_few_right : Stmt := top 27
theorem sc__law_few_right : FnScope ["jar", "one", "two", "three", "second", "third", "due", "is_one"] ["jar"] (defScope s__law_few_right) := ⟨rfl, rfl, rfl, by decide +kernel, rfl, by decide +kernel, by decide +kernel⟩
def b_law : MS := (seqS (newT 1 (callN 1 2 n__law_jar (consA (varM 0) nilA))) (seqS (forS (rng1M (consA (cstM (.int 4)) nilA)) (nameT 2) (seqS (ifS (orB (notB (tstM truV (callO 1 1 6 b__law_product_right nilA))) (orB (notB (tstM truV (callO 1 1 10 b__law_any_right nilA))) (notB (tstM truV (callO 1 1 8 b__law_few_right nilA))))) (retS (cstM (.bl false))) nextS) (seqS (asgS 3 (binM addV2 (lstM (consA (cstM (.int 4)) nilA)) (listM (compF [4] (rng1M (consA (cstM (.int 4)) nilA)) (nameT 4) yesB (binM subV (callO 1 2 6 b__law_lot (consA (cstM (.int 17)) nilA)) (cstM (.int 8))))))) (seqS (asgS 5 (hearM2 1 ("part" : Str) (callM 1 2 b_polynomial_from (consA (varM 3) nilA)))) (seqS (ifS (orB (andB (tstM truV (cbM (f2 isiV) (consA (varM 5) (consA (cstM (.ty "tuple")) nilA)))) (orB (tstM blV (binM neV (binM ixV (varM 5) (unM negV (cstM (.int 1)))) (cstM (.int 1)))) (tstM blV (binM neV (callM 2 2 b_traces_from (consA (varM 5) (consA (cstM (.int 5)) nilA))) (cbM (f1 tupOfV) (consA (varM 3) nilA)))))) (tstM blV (binM eqV (varM 5) (cstM (.str ("other" : Str)))))) (retS (cstM (.bl false))) nextS) (seqS (asgS 6 (lstM (consA (cstM (.int 4)) (consA (cstM (.int 0)) (consA (binM mulV (cstM (.int 2)) (callO 1 2 6 b__law_lot (consA (cstM (.int 5)) nilA))) (consA (cstM (.int 0)) nilA)))))) (ifS (tstM blV (binM eqV (hearM2 1 ("part" : Str) (callM 1 2 b_polynomial_from (consA (binM addV2 (varM 6) (lstM (consA (binM addV2 (binM divV (binM mulV (binM ixV (varM 6) (cstM (.int 2))) (binM ixV (varM 6) (cstM (.int 2)))) (cstM (.int 2))) (binM mulV (cstM (.int 4)) (callO 1 2 6 b__law_lot (consA (cstM (.int 3)) nilA)))) nilA))) nilA))) (cstM (.str ("traces" : Str))))) (retS (cstM (.bl false))) nextS))))))) (seqS (ifS (tstM blV (binM neV (callM 2 2 b_traces_from (consA (lstM (consA (cstM (.int 2)) (consA (unM negV (cstM (.int 1))) (consA (unM negV (cstM (.int 2))) (consA (cstM (.int 1)) nilA))))) (consA (cstM (.int 100)) nilA))) (callM 2 7 b__law_powers (consA (lstM (consA (cstM (.int 1)) (consA (unM negV (cstM (.int 1))) (consA (cstM (.int 2)) nilA)))) (consA (cstM (.int 100)) nilA))))) (retS (cstM (.bl false))) nextS) (retS (andM (binM eqV (binM ixV (callM 2 2 b_traces_from (consA (lstM (consA (unM negV (cstM (.int 1))) (consA (unM negV (cstM (.int 1))) (consA (cstM (.int 1)) nilA)))) (consA (cstM (.int 40)) nilA))) (cstM (.int 39))) (cstM (.int 141422324))) (binM eqV (callM 2 2 b_traces_from (consA (lstM (consA (cstM (.int 0)) (consA (cstM (.int 1)) nilA))) (consA (cstM (.int 3)) nilA))) (tupM (consA (cstM (.int 1)) (consA (cstM (.int 0)) (consA (cstM (.int 0)) nilA))))))))))
abbrev s_law : Stmt := top 28
theorem sc_law : FnScope ["script", "jar", "lap", "traces", "turn", "told", "one"] ["script"] (defScope s_law) := ⟨rfl, rfl, rfl, by decide +kernel, rfl, by decide +kernel, by decide +kernel⟩
theorem gv__law_heard {CS D g : Addr} {cdv : Value} (mW : mg "WebError" = some (.ref CS)) (mB : mg "Misfit" = some (.ref D)) (mI : mg "isinstance" = none) (hd : Hd C.K CS D "part") (hk : PySem.W.kitOne C.K (.ref D) (.ref D) = some true) : ∀ X : Cx, X.K = C.K → X.mg = mg → ∀ q, LamX.GivesTo X ["ask", "found", "error"] "_law_heard" (defScope s__law_heard) g cdv (defBody s__law_heard) "ask" q (TH2 D "part") := fun X hK hm q => by
  rw [← hK] at hd hk
  subst hm
  exact heard_gives2 rfl (by decide) rfl rfl rfl rfl rfl mW mB mI (by decide) (by decide) (by decide) (by decide) (by decide) (by decide) hd hk fun _ => rfl
theorem ok_is_integer {f : Addr} {fd : FuncData} (F : Fun C.K "is_integer" "is_integer" s_is_integer f fd) (g_int : mg "int" = none) (g_isinstance : mg "isinstance" = none) (g_bool : mg "bool" = none) : FnOk P w C.K mg base (L2.CX P w) 3 f fd ["value"] (spF C 1 1 b_is_integer) :=
  y_fn (C := C) (k := 2) F sc_is_integer (by decide) fun cdv A outer s H E hr => (ys_one (ys_ret (y_and (PE.imp (pe_callB cy_isi (by rfl) g_isinstance (by decide +kernel) (ya_cons (y_var (pv 0)) (ya_cons (y_cst (pe_bltn (v := .ty "int") (u := .type "int") (by rfl) g_int (by decide +kernel) rfl) fun _ _ => rep_ty.mpr rfl) ya_nil))) (cb_rd cv_isi)) (y_one (y_not (PE.imp (pe_callB cy_isi (by rfl) g_isinstance (by decide +kernel) (ya_cons (y_var (pv 0)) (ya_cons (y_cst (pe_bltn (v := .ty "bool") (u := .type "bool") (by rfl) g_bool (by decide +kernel) rfl) fun _ _ => rep_ty.mpr rfl) ya_nil))) (cb_rd cv_isi)))))))
theorem ok_is_within {f : Addr} {fd : FuncData} (F : Fun C.K "is_within" "is_within" s_is_within f fd) (d_is_integer : Df P w C mg base "is_integer" 3 ["value"] [] (spF C 1 1 b_is_integer)) : FnOk P w C.K mg base (L2.CX P w) 4 f fd ["value", "least", "most"] (spF C 3 3 b_is_within) :=
  y_fn (C := C) (k := 3) F sc_is_within (by decide) fun cdv A outer s H E hr => (ys_cons (ys_if (yt_not (yt_val rfl (PE.imp (pe_call d_is_integer.ok (hr.mono (by decide)) (by rfl) d_is_integer.mgf d_is_integer.kp d_is_integer.b .nil (passes_call (takes_of rfl rfl rfl rfl) fun _ _ _ _ h => h) (ya_cons (y_var (pv 0)) ya_nil)) call_rd) fun _ => rfl)) (ys_one (ys_ret y_bl)) ys_nil) (ys_one (ys_ret (y_and (y_or (y_cmp op_isN ov_isN (y_var (pv 1)) y_non (nomark _)) (y_one (y_cmp op_le ov_le (y_var (pv 1)) (y_var (pv 0)) (nomark _)))) (y_one (y_or (y_cmp op_isN ov_isN (y_var (pv 2)) y_non (nomark _)) (y_one (y_cmp op_le ov_le (y_var (pv 0)) (y_var (pv 2)) (nomark _)))))))))
theorem ok_are_numbers {f : Addr} {fd : FuncData} (F : Fun C.K "are_numbers" "are_numbers" s_are_numbers f fd) (g_list : mg "list" = none) (g_tuple : mg "tuple" = none) (g_isinstance : mg "isinstance" = none) (g_all : mg "all" = none) (d_is_integer : Df P w C mg base "is_integer" 3 ["value"] [] (spF C 1 1 b_is_integer)) : FnOk P w C.K mg base (L2.CX P w) 4 f fd ["value"] (spF C 1 2 b_are_numbers) :=
  y_fn (C := C) (k := 3) F sc_are_numbers (by decide) fun cdv A outer s H E hr => (ys_one (ys_ret (y_and (PE.imp (pe_callB cy_isi (by rfl) g_isinstance (by decide +kernel) (ya_cons (y_var (pv 0)) (ya_cons (y_tup (ya_cons (y_cst (pe_bltn (v := .ty "list") (u := .type "list") (by rfl) g_list (by decide +kernel) rfl) fun _ _ => rep_ty.mpr rfl) (ya_cons (y_cst (pe_bltn (v := .ty "tuple") (u := .type "tuple") (by rfl) g_tuple (by decide +kernel) rfl) fun _ _ => rep_ty.mpr rfl) ya_nil))) ya_nil))) (cb_rd cv_isi)) (y_one (PE.imp (pe_callB (cr_all rfl) (by rfl) g_all (by decide +kernel) (ya_cons (y_new (y_lc (E0 := fun _ _ _ => False) (own := [("item", 1)]) rfl sc_are_numbers.nd (yi_seq rfl (y_var (pv 0))) (blkOk_by (N := ["value", "item"]) (sc := defScope s_are_numbers) (by decide +kernel)) (by decide) sb_yes (fun _ _ _ _ _ => (yg_name (pg_name (i := 1) sc_are_numbers.nd rfl (Or.inl rfl)))) (fun _ _ _ _ _ => pts_nil) (fun _ _ _ _ _ => (yn_fz (PE.imp (pe_call d_is_integer.ok (hr.mono (by decide)) (by rfl) d_is_integer.mgf d_is_integer.kp d_is_integer.b .nil passL (ya_cons (y_var (pv 1)) ya_nil)) call_rd))))) ya_nil)) (cb_rd cv_all))))))
theorem ok__joined {f : Addr} {fd : FuncData} (F : Fun C.K "_joined" "_joined" s__joined f fd) (g_zip : mg "zip" = none) (g_reversed : mg "reversed" = none) (g_sum : mg "sum" = none) : FnOk P w C.K mg base (L2.CX P w) 3 f fd ["traces", "falling"] (spF C 2 4 b__joined) :=
  y_fn (C := C) (k := 2) F sc__joined (by decide) fun cdv A outer s H E hr => (ys_one (ys_ret (PE.imp (pe_callB (cr_sum rfl) (by rfl) g_sum (by decide +kernel) (ya_cons (y_new (y_lc (E0 := fun _ _ _ => False) (own := [("trace", 2), ("number", 3)]) rfl sc__joined.nd (yi_zr rfl (fun a b => pi_zr (by rfl) g_zip (by rfl) g_reversed a b) (y_var (pv 0)) (y_var (pv 1))) (blkOk_by (N := ["traces", "falling", "trace", "number"]) (sc := defScope s__joined) (by decide +kernel)) (by decide) sb_yes (fun _ _ _ _ _ => (yg_tup rfl (pg_tup rfl (ygs_cons (yg_name (pg_name (i := 2) sc__joined.nd rfl (Or.inl rfl))) (ygs_cons (yg_name (pg_name (i := 3) sc__joined.nd rfl (Or.inl rfl))) ygs_nil (fun a b => pgs_cons a b)) (fun a b => pgs_cons a b))))) (fun _ _ _ _ _ => pts_nil) (fun _ _ _ _ _ => (yn_fz (y_op op_mulA ov_mul (y_var (pv 2)) (y_var (pv 3))))))) ya_nil)) (cb_rd cv_sum))))
theorem ok_traces_by {f : Addr} {fd : FuncData} (F : Fun C.K "traces_by" "traces_by" s_traces_by f fd) (g_list : mg "list" = none) (g_reversed : mg "reversed" = none) (g_len : mg "len" = none) (g_range : mg "range" = none) (g_tuple : mg "tuple" = none) (d__joined : Df P w C mg base "_joined" 3 ["traces", "falling"] [] (spF C 2 4 b__joined)) : FnOk P w C.K mg base (L2.CX P w) 4 f fd ["polynomial", "many"] (spF C 2 6 b_traces_by) :=
  y_fn (C := C) (k := 3) F sc_traces_by (by decide) fun cdv A outer s H E hr => (ys_cons (ys_asg (ps_set (i := 2) sc_traces_by.nd rfl (Or.inl rfl) (y_new (yf_lrev rfl (pe_listRev rfl (by rfl) g_list (by rfl) g_reversed (y_var (pv 0))))))) (ys_cons (ys_new (ps_set (i := 3) sc_traces_by.nd rfl (Or.inl rfl) (yf_lst (ya_cons (y_op op_sub ov_sub (PE.imp (pe_callB cy_len (by rfl) g_len (by decide +kernel) (ya_cons (y_var (pv 0)) ya_nil)) (cb_rd cv_len)) y_int) ya_nil)))) (ys_cons (ys_for (ps_for (passes_of rfl) rfl (yi_rng2 (pi_range2 (by rfl) g_range (ya_cons y_int (ya_cons (y_var (pv 1)) ya_nil)))) (yg_name (pg_name (i := 4) sc_traces_by.nd rfl (Or.inl rfl))) (ys_cons (ys_asg (ps_set (i := 5) sc_traces_by.nd rfl (Or.inl rfl) (y_if (yt_cmp op_lt ov_lt (y_var (pv 4)) (PE.imp (pe_callB cy_len (by rfl) g_len (by decide +kernel) (ya_cons (y_var (pv 2)) ya_nil)) (cb_rd cv_len)) (nomark _)) (y_op op_mulA ov_mul (y_var (pv 4)) (y_ix ix_seq ov_ix (y_var (pv 2)) (y_var (pv 4)) (fun _ _ => rfl))) y_int))) (ys_one (ys_app rfl (ps_expr (pe_bm PySem.F.plainAttrs_list PySem.F.slot_list_append PySem.F.type_list_append mt_append (pv 3) (pa_cons (y_op op_sub ov_sub (y_un un_neg uv_neg (y_var (pv 5))) (PE.imp (pe_call d__joined.ok (hr.mono (by decide)) (by rfl) d__joined.mgf d__joined.kp d__joined.b .nil (passes_call (takes_of rfl rfl rfl rfl) fun _ _ _ _ h => h) (ya_cons (y_new (yf_slO rfl (pv 3) (yp_of y_int) yp_no)) (ya_cons (y_sl rfl (y_var (pv 2)) (yp_of y_int) yp_no) ya_nil))) call_rd)) pa_nil)))))))) (ys_one (ys_ret (PE.imp (pe_callTy call_tuple_of (by rfl) g_tuple (by decide +kernel) (ya_cons (y_new (yf_slO rfl (pv 3) yp_no (yp_of (y_var (pv 1))))) ya_nil)) (cb_rd cv_tuple)))))))
theorem ok_polynomial_by {f : Addr} {fd : FuncData} (F : Fun C.K "polynomial_by" "polynomial_by" s_polynomial_by f fd) (g_len : mg "len" = none) (g_range : mg "range" = none) (g_tuple : mg "tuple" = none) (g_reversed : mg "reversed" = none) (d__joined : Df P w C mg base "_joined" 3 ["traces", "falling"] [] (spF C 2 4 b__joined)) : FnOk P w C.K mg base (L2.CX P w) 4 f fd ["traces"] (spF C 1 4 b_polynomial_by) :=
  y_fn (C := C) (k := 3) F sc_polynomial_by (by decide) fun cdv A outer s H E hr => (ys_cons (ys_new (ps_set (i := 1) sc_polynomial_by.nd rfl (Or.inl rfl) (yf_lst (ya_cons y_int ya_nil)))) (ys_cons (ys_for (ps_for (passes_of rfl) rfl (yi_rng2 (pi_range2 (by rfl) g_range (ya_cons y_int (ya_cons (PE.imp (pe_callB cy_len (by rfl) g_len (by decide +kernel) (ya_cons (y_var (pv 0)) ya_nil)) (cb_rd cv_len)) ya_nil)))) (yg_name (pg_name (i := 2) sc_polynomial_by.nd rfl (Or.inl rfl))) (ys_cons (ys_asg (ps_set (i := 3) sc_polynomial_by.nd rfl (Or.inl rfl) (y_view (i := 1) (PE.imp (pe_call d__joined.ok (hr.mono (by decide)) (by rfl) d__joined.mgf d__joined.kp d__joined.b .nil (passes_call (takes_of rfl rfl rfl rfl) fun _ _ _ _ h => h) (ya_cons (y_sl rfl (y_var (pv 0)) (yp_of y_int) (yp_of (y_op oy_add2 ov_add2 (y_var (pv 2)) y_int))) (ya_cons (y_var (pv 1)) ya_nil))) call_rd)))) (ys_cons (ys_if (yt_cmp (op_neD hr.units) ov_ne (y_op op_modN ov_mod (y_var (pv 3)) (y_var (pv 2))) y_int (nomark _)) (ys_one (ys_ret y_non)) ys_nil) (ys_one (ys_app rfl (ps_expr (pe_bm PySem.F.plainAttrs_list PySem.F.slot_list_append PySem.F.type_list_append mt_append (pv 1) (pa_cons (y_op oy_div ov_div (y_un un_neg uv_neg (y_var (pv 3))) (y_var (pv 2))) pa_nil))))))))) (ys_melt (ys_one (ys_ret (y_trev rfl (RT.pe_tupRev rfl (by rfl) g_tuple (by rfl) g_reversed (y_var (pv 1)))))))))
theorem ok__need_polynomial {f : Addr} {fd : FuncData} (F : Fun C.K "_need_polynomial" "_need_polynomial" s__need_polynomial f fd) (g_len : mg "len" = none) (x_BadNumber : Ex1 P w C mg base "BadNumber" 2 "part" "part") (d_are_numbers : Df P w C mg base "are_numbers" 4 ["value"] [] (spF C 1 2 b_are_numbers)) (n_MOST_NUMBERS : ∃ t, mg "MOST_NUMBERS" = some (.int 25 t)) : FnOk P w C.K mg base (L2.CX P w) 5 f fd ["value"] (spF C 1 1 b__need_polynomial) :=
  y_fn (C := C) (k := 4) F sc__need_polynomial (by decide) fun cdv A outer s H E hr => (ys_one (ys_if (PW.pt (yw_or (yt_not (yt_val rfl (PE.imp (pe_call d_are_numbers.ok (hr.mono (by decide)) (by rfl) d_are_numbers.mgf d_are_numbers.kp d_are_numbers.b .nil (passes_call (takes_of rfl rfl rfl rfl) fun _ _ _ _ h => h) (ya_cons (y_var (pv 0)) ya_nil)) call_rd) fun _ => rfl)) (yw_or (yt_not (tst_chn ov_le ov_le (pt_chain op_le op_le y_int (PE.imp (pe_callB cy_len (by rfl) g_len (by decide +kernel) (ya_cons (y_var (pv 0)) ya_nil)) (cb_rd cv_len)) (y_gint (by rfl) n_MOST_NUMBERS)) rfl)) (yw_or1 (yt_cmp (op_neD hr.units) ov_ne (y_ix ix_seq ov_ix (y_var (pv 0)) (y_un un_neg uv_neg y_int) (fun _ _ => rfl)) y_int (nomark _)))))) (ys_one (ys_raise1 (ps_raise rfl (takes_of rfl rfl rfl rfl) (pmk_oex x_BadNumber.o x_BadNumber.i x_BadNumber.t x_BadNumber.ok (hr.mono (by decide)) x_BadNumber.b .nil passL (by rfl) x_BadNumber.mgf (ya_cons y_str ya_nil))) x_BadNumber.o x_BadNumber.n)) ys_nil))
theorem ok_traces_from {f : Addr} {fd : FuncData} (F : Fun C.K "traces_from" "traces_from" s_traces_from f fd) (x_BadNumber : Ex1 P w C mg base "BadNumber" 2 "part" "part") (d__need_polynomial : Df P w C mg base "_need_polynomial" 5 ["value"] [] (spF C 1 1 b__need_polynomial)) (d_is_within : Df P w C mg base "is_within" 4 ["value", "least", "most"] [] (spF C 3 3 b_is_within)) (d_traces_by : Df P w C mg base "traces_by" 4 ["polynomial", "many"] [] (spF C 2 6 b_traces_by)) (n_MOST_LENGTH : ∃ t, mg "MOST_LENGTH" = some (.int 100 t)) : FnOk P w C.K mg base (L2.CX P w) 6 f fd ["polynomial", "many"] (spF C 2 2 b_traces_from) :=
  y_fn (C := C) (k := 5) F sc_traces_from (by decide) fun cdv A outer s H E hr => (ys_cons (ys_drop (ps_expr (PE.imp (pe_call d__need_polynomial.ok (hr.mono (by decide)) (by rfl) d__need_polynomial.mgf d__need_polynomial.kp d__need_polynomial.b .nil (passes_call (takes_of rfl rfl rfl rfl) fun _ _ _ _ h => h) (ya_cons (y_var (pv 0)) ya_nil)) call_rd))) (ys_cons (ys_if (yt_not (yt_val rfl (PE.imp (pe_call d_is_within.ok (hr.mono (by decide)) (by rfl) d_is_within.mgf d_is_within.kp d_is_within.b .nil (passes_call (takes_of rfl rfl rfl rfl) fun _ _ _ _ h => h) (ya_cons (y_var (pv 1)) (ya_cons y_int (ya_cons (y_gint (by rfl) n_MOST_LENGTH) ya_nil)))) call_rd) fun _ => rfl)) (ys_one (ys_raise1 (ps_raise rfl (takes_of rfl rfl rfl rfl) (pmk_oex x_BadNumber.o x_BadNumber.i x_BadNumber.t x_BadNumber.ok (hr.mono (by decide)) x_BadNumber.b .nil passL (by rfl) x_BadNumber.mgf (ya_cons y_str ya_nil))) x_BadNumber.o x_BadNumber.n)) ys_nil) (ys_one (ys_ret (PE.imp (pe_call d_traces_by.ok (hr.mono (by decide)) (by rfl) d_traces_by.mgf d_traces_by.kp d_traces_by.b .nil (passes_call (takes_of rfl rfl rfl rfl) fun _ _ _ _ h => h) (ya_cons (y_var (pv 0)) (ya_cons (y_var (pv 1)) ya_nil))) call_rd)))))
theorem ok_polynomial_from {f : Addr} {fd : FuncData} (F : Fun C.K "polynomial_from" "polynomial_from" s_polynomial_from f fd) (g_len : mg "len" = none) (x_BadNumber : Ex1 P w C mg base "BadNumber" 2 "part" "part") (x_Misfit : Ex1 P w C mg base "Misfit" 1 "part" "part") (d_are_numbers : Df P w C mg base "are_numbers" 4 ["value"] [] (spF C 1 2 b_are_numbers)) (d_polynomial_by : Df P w C mg base "polynomial_by" 4 ["traces"] [] (spF C 1 4 b_polynomial_by)) (n_MOST_NUMBERS : ∃ t, mg "MOST_NUMBERS" = some (.int 25 t)) : FnOk P w C.K mg base (L2.CX P w) 5 f fd ["traces"] (spF C 1 2 b_polynomial_from) :=
  y_fn (C := C) (k := 4) F sc_polynomial_from (by decide) fun cdv A outer s H E hr => (ys_cons (ys_if (PW.pt (yw_or (yt_not (yt_val rfl (PE.imp (pe_call d_are_numbers.ok (hr.mono (by decide)) (by rfl) d_are_numbers.mgf d_are_numbers.kp d_are_numbers.b .nil (passes_call (takes_of rfl rfl rfl rfl) fun _ _ _ _ h => h) (ya_cons (y_var (pv 0)) ya_nil)) call_rd) fun _ => rfl)) (yw_or (yt_not (tst_chn ov_le ov_le (pt_chain op_le op_le y_int (PE.imp (pe_callB cy_len (by rfl) g_len (by decide +kernel) (ya_cons (y_var (pv 0)) ya_nil)) (cb_rd cv_len)) (y_gint (by rfl) n_MOST_NUMBERS)) rfl)) (yw_or1 (yt_cmp (op_neD hr.units) ov_ne (y_ix ix_seq ov_ix (y_var (pv 0)) y_int (fun _ _ => rfl)) (y_op op_sub ov_sub (PE.imp (pe_callB cy_len (by rfl) g_len (by decide +kernel) (ya_cons (y_var (pv 0)) ya_nil)) (cb_rd cv_len)) y_int) (nomark _)))))) (ys_one (ys_raise1 (ps_raise rfl (takes_of rfl rfl rfl rfl) (pmk_oex x_BadNumber.o x_BadNumber.i x_BadNumber.t x_BadNumber.ok (hr.mono (by decide)) x_BadNumber.b .nil passL (by rfl) x_BadNumber.mgf (ya_cons y_str ya_nil))) x_BadNumber.o x_BadNumber.n)) ys_nil) (ys_cons (ys_asg (ps_set (i := 1) sc_polynomial_from.nd rfl (Or.inl rfl) (PE.imp (pe_call d_polynomial_by.ok (hr.mono (by decide)) (by rfl) d_polynomial_by.mgf d_polynomial_by.kp d_polynomial_by.b .nil (passes_call (takes_of rfl rfl rfl rfl) fun _ _ _ _ h => h) (ya_cons (y_var (pv 0)) ya_nil)) call_rd))) (ys_cons (ys_if (yt_cmp op_isN ov_isN (y_var (pv 1)) y_non (nomark _)) (ys_one (ys_raise1 (ps_raise rfl (takes_of rfl rfl rfl rfl) (pmk_oex x_Misfit.o x_Misfit.i x_Misfit.t x_Misfit.ok (hr.mono (by decide)) x_Misfit.b .nil passL (by rfl) x_Misfit.mgf (ya_cons y_str ya_nil))) x_Misfit.o x_Misfit.n)) ys_nil) (ys_one (ys_ret (y_var (pv 1)))))))
theorem ok__law_jar {f : Addr} {fd : FuncData} (F : Fun C.K "_law_jar" "_law_jar" s__law_jar f fd) (g_int : mg "int" = none) : FnOk P w C.K mg base (L2.CX P w) 3 f fd ["script"] (spN C 1 2 n__law_jar) :=
  y_fnN (C := C) (k := 2) F sc__law_jar rfl fun cdv A outer s H E hr => (yf_lst (ya_cons (y_new (y_lc (E0 := fun _ _ _ => False) (own := [("cell", 1)]) rfl sc__law_jar.nd (yi_seq rfl (y_new (yf_scr (k := 58) rfl (pe_slice sl_list (y_var (pv 0)) po_none (po_some pe_int))))) (blkOk_by (N := ["script", "cell"]) (sc := defScope s__law_jar) (by decide +kernel)) (by decide) sb_yes (fun _ _ _ _ _ => (yg_name (pg_name (i := 1) sc__law_jar.nd rfl (Or.inl rfl)))) (fun _ _ _ _ _ => pts_nil) (fun _ _ _ _ _ => (yn_fz (PE.imp (pe_callTy call_int1 (by rfl) g_int (by decide +kernel) (ya_cons (y_var (pv 1)) ya_nil)) (cb_rd cv_int)))))) (ya_cons y_int (ya_cons y_int ya_nil))))
theorem ok__law_lot {f : Addr} {fd : FuncData} (F : Fun C.K "_law_lot" "_law_lot" s__law_lot f fd) (g_int : mg "int" = none) (g_len : mg "len" = none) (g_abs : mg "abs" = none) : FnOk P w C.K mg base (L2.CX P w) 3 f fd ["jar", "many"] (spF C 2 6 b__law_lot) :=
  y_fn (C := C) (k := 2) F sc__law_lot (by decide) fun cdv A outer s H E hr => (ys_cons (ys_if (yt_cmp op_gt ov_gt (y_ixO (pe_ix ix_seq (pv 0) y_int (fun _ _ => rfl))) y_int (nomark _)) (ys_cons (ys_asg (ps_set (i := 2) sc__law_lot.nd rfl (Or.inl rfl) (y_ixO (pe_ix ix_seq (pv 0) y_int (fun _ _ => rfl))))) (ys_cons (ys_set (ps_asg (y_op oy_div ov_div (PE.imp (pe_callTy call_int1 (by rfl) g_int (by decide +kernel) (ya_cons (y_var (pv 2)) ya_nil)) (cb_rd cv_int)) (y_var (pv 1))) (pg_sub (pv 0) y_int set_list))) (ys_one (ys_ret (y_op op_modN ov_mod (PE.imp (pe_callTy call_int1 (by rfl) g_int (by decide +kernel) (ya_cons (y_var (pv 2)) ya_nil)) (cb_rd cv_int)) (y_var (pv 1))))))) ys_nil) (ys_cons (ys_asg (ps_set (i := 3) sc__law_lot.nd rfl (Or.inl rfl) (y_ixO (pe_ix ix_seq (pv 0) y_int (fun _ _ => rfl))))) (ys_cons (ys_set (ps_asg (y_op oy_add2 ov_add2 (y_var (pv 3)) y_int) (pg_sub (pv 0) y_int set_list))) (ys_cons (ys_asg (ps_set (i := 4) sc__law_lot.nd rfl (Or.inl rfl) (y_op oy_add2 ov_add2 (y_op op_mulA ov_mul y_int (y_var (pv 3))) y_int))) (ys_cons (ys_if (yt_cmp (op_neD hr.units) ov_ne (y_ixO (pe_ix ix_seq (pv 0) y_int (fun _ _ => rfl))) (y_lst ya_nil) (nomark _)) (ys_one (ys_asg (ps_set (i := 4) sc__law_lot.nd rfl (Or.inl rfl) (y_ix ix_seq ov_ix (y_ixO (pe_ix ix_seq (pv 0) y_int (fun _ _ => rfl))) (y_op op_modN ov_mod (PE.imp (pe_callTy call_int1 (by rfl) g_int (by decide +kernel) (ya_cons (y_var (pv 3)) ya_nil)) (cb_rd cv_int)) (PE.imp (pe_callB cy_len (by rfl) g_len (by decide +kernel) (ya_cons (y_ixO (pe_ix ix_seq (pv 0) y_int (fun _ _ => rfl))) ya_nil)) (cb_rd cv_len))) (fun _ _ => rfl))))) ys_nil) (ys_cons (ys_if (PW.pt (yw_and (yt_cmp op_lt ov_lt (y_var (pv 3)) (PE.imp (pe_callB cy_len (by rfl) g_len (by decide +kernel) (ya_cons (y_ixO (pe_ix ix_seq (pv 0) y_int (fun _ _ => rfl))) ya_nil)) (cb_rd cv_len)) (nomark _)) (yw_and1 (yt_cmp op_ge ov_ge (PE.imp (pe_callB call_abs (by rfl) g_abs (by decide +kernel) (ya_cons (y_var (pv 4)) ya_nil)) (cb_rd cv_abs)) (y_op op_pow ov_pow y_int y_int) (nomark _))))) (ys_cons (ys_asg (ps_set (i := 2) sc__law_lot.nd rfl (Or.inl rfl) (y_op oy_add2 ov_add2 (y_op op_mulA ov_mul y_int (y_op op_sub ov_sub (PE.imp (pe_callB call_abs (by rfl) g_abs (by decide +kernel) (ya_cons (y_var (pv 4)) ya_nil)) (cb_rd cv_abs)) (y_op op_pow ov_pow y_int y_int))) (PE.imp (pe_callTy call_int1 (by rfl) g_int (by decide +kernel) (ya_cons (y_cmp op_lt ov_lt (y_var (pv 4)) y_int (nomark _)) ya_nil)) (cb_rd cv_int))))) (ys_cons (ys_set (ps_asg (y_op oy_div ov_div (PE.imp (pe_callTy call_int1 (by rfl) g_int (by decide +kernel) (ya_cons (y_var (pv 2)) ya_nil)) (cb_rd cv_int)) (y_var (pv 1))) (pg_sub (pv 0) y_int set_list))) (ys_one (ys_ret (y_op op_modN ov_mod (PE.imp (pe_callTy call_int1 (by rfl) g_int (by decide +kernel) (ya_cons (y_var (pv 2)) ya_nil)) (cb_rd cv_int)) (y_var (pv 1))))))) ys_nil) (ys_cons (ys_asg (ps_set (i := 5) sc__law_lot.nd rfl (Or.inl rfl) (y_op op_modN ov_mod (PE.imp (pe_callTy call_int1 (by rfl) g_int (by decide +kernel) (ya_cons (y_op op_pow ov_pow (y_op oy_add2 ov_add2 (y_op oy_add2 ov_add2 (y_op op_modN ov_mod (PE.imp (pe_callTy call_int1 (by rfl) g_int (by decide +kernel) (ya_cons (y_var (pv 4)) ya_nil)) (cb_rd cv_int)) y_int) (y_op op_mulA ov_mul y_int (y_var (pv 3)))) y_int) y_int) ya_nil)) (cb_rd cv_int)) y_int))) (ys_cons (ys_asg (ps_set (i := 5) sc__law_lot.nd rfl (Or.inl rfl) (y_op op_modN ov_mod (PE.imp (pe_callTy call_int1 (by rfl) g_int (by decide +kernel) (ya_cons (y_op op_pow ov_pow (y_op oy_add2 ov_add2 (y_op oy_add2 ov_add2 (y_op op_mulA ov_mul (y_var (pv 5)) (y_op oy_add2 ov_add2 (y_op op_mulA ov_mul y_int (y_var (pv 3))) y_int)) (y_op op_mulA ov_mul (y_op op_mulA ov_mul y_int (y_var (pv 3))) (y_var (pv 3)))) y_int) y_int) ya_nil)) (cb_rd cv_int)) y_int))) (ys_one (ys_ret (y_op op_modN ov_mod (PE.imp (pe_callTy call_int1 (by rfl) g_int (by decide +kernel) (ya_cons (y_op oy_div ov_div (y_var (pv 5)) y_int) ya_nil)) (cb_rd cv_int)) (y_var (pv 1)))))))))))))
theorem ok__law_take {f : Addr} {fd : FuncData} (F : Fun C.K "_law_take" "_law_take" s__law_take f fd) (g_len : mg "len" = none) (d__law_lot : Df P w C mg base "_law_lot" 3 ["jar", "many"] [] (spF C 2 6 b__law_lot)) : FnOk P w C.K mg base (L2.CX P w) 4 f fd ["jar", "some"] (spF C 2 2 b__law_take) :=
  y_fn (C := C) (k := 3) F sc__law_take (by decide) fun cdv A outer s H E hr => (ys_one (ys_ret (y_ix ix_seq ov_ix (y_var (pv 1)) (PE.imp (pe_call d__law_lot.ok (hr.mono (by decide)) (by rfl) d__law_lot.mgf d__law_lot.kp d__law_lot.b .nil (passes_call (takes_of rfl rfl rfl rfl) fun _ _ _ _ h => h) (pa_cons (pv 0) (ya_cons (PE.imp (pe_callB cy_len (by rfl) g_len (by decide +kernel) (ya_cons (y_var (pv 1)) ya_nil)) (cb_rd cv_len)) ya_nil))) callO_rd) (fun _ _ => rfl))))
theorem ok__law_times {f : Addr} {fd : FuncData} (F : Fun C.K "_law_times" "_law_times" s__law_times f fd) (g_len : mg "len" = none) (g_enumerate : mg "enumerate" = none) : FnOk P w C.K mg base (L2.CX P w) 3 f fd ["one", "other"] (spF C 2 7 b__law_times) :=
  y_fn (C := C) (k := 2) F sc__law_times (by decide) fun cdv A outer s H E hr => (ys_cons (ys_new (ps_set (i := 2) sc__law_times.nd rfl (Or.inl rfl) (PE.imp (pe_op op_mulL (y_lst (ya_cons y_int ya_nil)) (y_op op_sub ov_sub (y_op oy_add2 ov_add2 (PE.imp (pe_callB cy_len (by rfl) g_len (by decide +kernel) (ya_cons (y_var (pv 0)) ya_nil)) (cb_rd cv_len)) (PE.imp (pe_callB cy_len (by rfl) g_len (by decide +kernel) (ya_cons (y_var (pv 1)) ya_nil)) (cb_rd cv_len))) y_int)) (bf_rd of_mulL)))) (ys_cons (ys_for (ps_for (passes_of rfl) rfl (yi_enum rfl (pi_enum (by rfl) g_enumerate (ya_cons (y_var (pv 0)) ya_nil))) (yg_tup rfl (pg_tup rfl (ygs_cons (yg_name (pg_name (i := 3) sc__law_times.nd rfl (Or.inl rfl))) (ygs_cons (yg_name (pg_name (i := 4) sc__law_times.nd rfl (Or.inl rfl))) ygs_nil (fun a b => pgs_cons a b)) (fun a b => pgs_cons a b)))) (ys_one (ys_for (ps_for (passes_of rfl) rfl (yi_enum rfl (pi_enum (by rfl) g_enumerate (ya_cons (y_var (pv 1)) ya_nil))) (yg_tup rfl (pg_tup rfl (ygs_cons (yg_name (pg_name (i := 5) sc__law_times.nd rfl (Or.inl rfl))) (ygs_cons (yg_name (pg_name (i := 6) sc__law_times.nd rfl (Or.inl rfl))) ygs_nil (fun a b => pgs_cons a b)) (fun a b => pgs_cons a b)))) (ys_one (ys_set (ps_asg (y_op oy_add2 ov_add2 (y_ixO (pe_ix ix_seq (pv 2) (y_op oy_add2 ov_add2 (y_var (pv 3)) (y_var (pv 5))) (fun _ _ => rfl))) (y_op op_mulA ov_mul (y_var (pv 4)) (y_var (pv 6)))) (pg_sub (pv 2) (y_op oy_add2 ov_add2 (y_var (pv 3)) (y_var (pv 5))) set_list))))))))) (ys_melt (ys_one (ys_ret (y_var (pv 2)))))))
theorem ok__law_powers {f : Addr} {fd : FuncData} (F : Fun C.K "_law_powers" "_law_powers" s__law_powers f fd) (g_len : mg "len" = none) (g_range : mg "range" = none) (g_sum : mg "sum" = none) (g_zip : mg "zip" = none) (g_tuple : mg "tuple" = none) : FnOk P w C.K mg base (L2.CX P w) 3 f fd ["numbers", "many"] (spF C 2 7 b__law_powers) :=
  y_fn (C := C) (k := 2) F sc__law_powers (by decide) fun cdv A outer s H E hr => (ys_cons (ys_parN (i := 2) (j := 3) (ps_par rfl sc__law_powers.nd rfl rfl (by decide) rfl rfl (pa_cons (yf_lst ya_nil) (pa_cons (y_new (PE.imp (pe_op op_mulL (y_lst (ya_cons y_int ya_nil)) (PE.imp (pe_callB cy_len (by rfl) g_len (by decide +kernel) (ya_cons (y_var (pv 0)) ya_nil)) (cb_rd cv_len))) (bf_rd of_mulL))) pa_nil)) (by first | rfl | exact sw2_local rfl rfl rfl))) (ys_cons (ys_for (ps_for (passes_of rfl) rfl (yi_rng1 (pi_range1 (by rfl) g_range (ya_cons (y_var (pv 1)) ya_nil))) (yg_name (pg_name (i := 4) sc__law_powers.nd rfl (Or.inl rfl))) (ys_cons (ys_app rfl (ps_expr (pe_bm PySem.F.plainAttrs_list PySem.F.slot_list_append PySem.F.type_list_append mt_append (pv 2) (pa_cons (PE.imp (pe_callB (cr_sum rfl) (by rfl) g_sum (by decide +kernel) (ya_cons (y_var (pv 3)) ya_nil)) (cb_rd cv_sum)) pa_nil)))) (ys_one (ys_asgF (ps_lcW (i := 3) (E0 := fun _ _ _ => False) (own := [("power", 5), ("number", 6)]) rfl sc__law_powers.nd rfl rfl (sw_true rfl rfl rfl rfl) (yi_zip rfl (RZ.pi_zipA (by rfl) g_zip (ya_cons (y_var (pv 3)) (ya_cons (y_var (pv 0)) ya_nil)))) (blkOk_by (N := ["numbers", "many", "found", "now", "turn", "power", "number"]) (sc := defScope s__law_powers) (by decide +kernel)) (by decide) sb_yes (fun _ _ _ _ _ => (yg_tup rfl (pg_tup rfl (ygs_cons (yg_name (pg_name (i := 5) sc__law_powers.nd rfl (Or.inl rfl))) (ygs_cons (yg_name (pg_name (i := 6) sc__law_powers.nd rfl (Or.inl rfl))) ygs_nil (fun a b => pgs_cons a b)) (fun a b => pgs_cons a b))))) (fun _ _ _ _ _ => pts_nil) (fun _ _ _ _ _ => (yn_fz (y_op op_mulA ov_mul (y_var (pv 5)) (y_var (pv 6))))))))))) (ys_melt (ys_one (ys_ret (PE.imp (pe_callTy call_tuple_of (by rfl) g_tuple (by decide +kernel) (ya_cons (y_var (pv 2)) ya_nil)) (cb_rd cv_tuple)))))))
theorem ok__law_product_right {oc kV doc pm ct cdv : Value} {od an : Option Addr} {osl : Array (Option Value)} {f : Addr} (lk : C.K.lookup f = some ⟨oc, od, .func (PySem.W.fnOf "_law_product_right" "_law_product_right" (defArgs s__law_product_right) (defBody s__law_product_right) (defScope s__law_product_right) .none kV doc pm an cdv ct), osl⟩) (hcd : PySem.W.codeIn C.K cdv "_law_product_right" = true) (g_range : mg "range" = none) (g_len : mg "len" = none) (g_repr : mg "repr" = none) (g_list : mg "list" = none) (g_tuple : mg "tuple" = none) (d__law_take : Df P w C mg base "_law_take" 4 ["jar", "some"] [] (spF C 2 2 b__law_take)) (d__law_lot : Df P w C mg base "_law_lot" 3 ["jar", "many"] [] (spF C 2 6 b__law_lot)) (d__law_times : Df P w C mg base "_law_times" 3 ["one", "other"] [] (spF C 2 7 b__law_times)) (d_traces_from : Df P w C mg base "traces_from" 6 ["polynomial", "many"] [] (spF C 2 2 b_traces_from)) (d__law_powers : Df P w C mg base "_law_powers" 3 ["numbers", "many"] [] (spF C 2 7 b__law_powers)) (d_polynomial_from : Df P w C mg base "polynomial_from" 5 ["traces"] [] (spF C 1 2 b_polynomial_from)) : FnG P w C.K mg base 7 f (PySem.W.fnOf "_law_product_right" "_law_product_right" (defArgs s__law_product_right) (defBody s__law_product_right) (defScope s__law_product_right) .none kV doc pm an cdv ct) ["jar"] (spF C 1 6 b__law_product_right) :=
  y_fnG (C := C) (k := 6) lk hcd sc__law_product_right (by decide) fun A outer s H E hA hr => (ys_cons (ys_asgF (ps_lcW (i := 1) (E0 := fun _ _ _ => False) (own := [("turn", 2)]) rfl sc__law_product_right.nd rfl rfl (sw_true rfl rfl rfl rfl) (yi_rng1 (pi_range1 (by rfl) g_range (ya_cons (PE.imp (pe_call d__law_take.ok (hr.mono (by decide)) (by rfl) d__law_take.mgf d__law_take.kp d__law_take.b .nil (passes_call (takes_of rfl rfl rfl rfl) fun _ _ _ _ h => h) (pa_cons (pv 0) (ya_cons (y_lst (ya_cons y_int (ya_cons y_int (ya_cons y_int (ya_cons y_int (ya_cons y_int (ya_cons y_int ya_nil))))))) ya_nil))) callO_rd) ya_nil))) (blkOk_by (N := ["jar", "numbers", "turn", "whole", "number", "many"]) (sc := defScope s__law_product_right) (by decide +kernel)) (by decide) sb_yes (fun _ _ _ _ _ => (yg_name (pg_name (i := 2) sc__law_product_right.nd rfl (Or.inl rfl)))) (fun _ _ _ _ _ => pts_nil) (fun _ _ _ _ _ => (yn_fz (y_op op_sub ov_sub (PE.imp (pe_call d__law_lot.ok (hr.mono (by decide)) (by rfl) d__law_lot.mgf d__law_lot.kp d__law_lot.b .nil passL (pa_cons (pv 0) (ya_cons y_int ya_nil))) callO_rd) y_int))))) (ys_cons (ys_asg (ps_set (i := 3) sc__law_product_right.nd rfl (Or.inl rfl) (y_lst (ya_cons y_int ya_nil)))) (ys_cons (ys_for (ps_for (passes_of rfl) rfl (yi_seq rfl (y_var (pv 1))) (yg_name (pg_name (i := 4) sc__law_product_right.nd rfl (Or.inl rfl))) (ys_one (ys_asg (ps_set (i := 3) sc__law_product_right.nd rfl (Or.inl rfl) (PE.imp (pe_call d__law_times.ok (hr.mono (by decide)) (by rfl) d__law_times.mgf d__law_times.kp d__law_times.b .nil (passes_call (takes_of rfl rfl rfl rfl) fun _ _ _ _ h => h) (ya_cons (y_var (pv 3)) (ya_cons (y_lst (ya_cons (y_un un_neg uv_neg (y_var (pv 4))) (ya_cons y_int ya_nil))) ya_nil))) call_rd)))))) (ys_cons (ys_asg (ps_set (i := 5) sc__law_product_right.nd rfl (Or.inl rfl) (y_op oy_add2 ov_add2 (PE.imp (pe_callB cy_len (by rfl) g_len (by decide +kernel) (ya_cons (y_var (pv 1)) ya_nil)) (cb_rd cv_len)) y_int))) (ys_cons (ys_if (yt_cmp (op_neD hr.units) ov_ne (PE.imp (pe_callB (call_repr_data hA hr.units) (by rfl) g_repr (by decide +kernel) (ya_cons (PE.imp (pe_call d_traces_from.ok (hr.mono (by decide)) (by rfl) d_traces_from.mgf d_traces_from.kp d_traces_from.b .nil (passes_call (takes_of rfl rfl rfl rfl) fun _ _ _ _ h => h) (ya_cons (y_var (pv 3)) (ya_cons (y_var (pv 5)) ya_nil))) call_rd) ya_nil)) (cb_rd cv_repr)) (PE.imp (pe_callB (call_repr_data hA hr.units) (by rfl) g_repr (by decide +kernel) (ya_cons (PE.imp (pe_call d__law_powers.ok (hr.mono (by decide)) (by rfl) d__law_powers.mgf d__law_powers.kp d__law_powers.b .nil (passes_call (takes_of rfl rfl rfl rfl) fun _ _ _ _ h => h) (ya_cons (y_var (pv 1)) (ya_cons (y_var (pv 5)) ya_nil))) call_rd) ya_nil)) (cb_rd cv_repr)) (nomark _)) (ys_one (ys_ret y_bl)) ys_nil) (ys_one (ys_ret (y_cmp (op_eqD hr.units) ov_eq (PE.imp (pe_callB (call_repr_data hA hr.units) (by rfl) g_repr (by decide +kernel) (ya_cons (PE.imp (pe_call d_polynomial_from.ok (hr.mono (by decide)) (by rfl) d_polynomial_from.mgf d_polynomial_from.kp d_polynomial_from.b .nil (passes_call (takes_of rfl rfl rfl rfl) fun _ _ _ _ h => h) (ya_cons (y_new (PE.imp (pe_callTy call_list_of (by rfl) g_list (by decide +kernel) (ya_cons (PE.imp (pe_call d__law_powers.ok (hr.mono (by decide)) (by rfl) d__law_powers.mgf d__law_powers.kp d__law_powers.b .nil (passes_call (takes_of rfl rfl rfl rfl) fun _ _ _ _ h => h) (ya_cons (y_var (pv 1)) (ya_cons (y_op oy_add2 ov_add2 (PE.imp (pe_callB cy_len (by rfl) g_len (by decide +kernel) (ya_cons (y_var (pv 1)) ya_nil)) (cb_rd cv_len)) y_int) ya_nil))) call_rd) ya_nil)) (cf_rd cv_list))) ya_nil)) call_rd) ya_nil)) (cb_rd cv_repr)) (PE.imp (pe_callB (call_repr_data hA hr.units) (by rfl) g_repr (by decide +kernel) (ya_cons (PE.imp (pe_callTy call_tuple_of (by rfl) g_tuple (by decide +kernel) (ya_cons (y_var (pv 3)) ya_nil)) (cb_rd cv_tuple)) ya_nil)) (cb_rd cv_repr)) (nomark _)))))))))
theorem ok__law_any_right {f : Addr} {fd : FuncData} (F : Fun C.K "_law_any_right" "_law_any_right" s__law_any_right f fd) (g_range : mg "range" = none) (g_len : mg "len" = none) (g_tuple : mg "tuple" = none) (g_zip : mg "zip" = none) (d__law_lot : Df P w C mg base "_law_lot" 3 ["jar", "many"] [] (spF C 2 6 b__law_lot)) (d_polynomial_from : Df P w C mg base "polynomial_from" 5 ["traces"] [] (spF C 1 2 b_polynomial_from)) (d_traces_from : Df P w C mg base "traces_from" 6 ["polynomial", "many"] [] (spF C 2 2 b_traces_from)) (d__law_times : Df P w C mg base "_law_times" 3 ["one", "other"] [] (spF C 2 7 b__law_times)) : FnOk P w C.K mg base (L2.CX P w) 7 f fd ["jar"] (spF C 1 10 b__law_any_right) :=
  y_fn (C := C) (k := 6) F sc__law_any_right (by decide) fun cdv A outer s H E hr => (ys_cons (ys_asg (ps_set (i := 1) sc__law_any_right.nd rfl (Or.inl rfl) (y_op oy_add2 ov_add2 (y_new (y_lc (E0 := fun _ _ _ => False) (own := [("turn", 2)]) rfl sc__law_any_right.nd (yi_rng1 (pi_range1 (by rfl) g_range (ya_cons (y_op oy_add2 ov_add2 y_int (PE.imp (pe_call d__law_lot.ok (hr.mono (by decide)) (by rfl) d__law_lot.mgf d__law_lot.kp d__law_lot.b .nil (passes_call (takes_of rfl rfl rfl rfl) fun _ _ _ _ h => h) (pa_cons (pv 0) (ya_cons y_int ya_nil))) callO_rd)) ya_nil))) (blkOk_by (N := ["jar", "one", "turn", "other", "polynomial", "both", "many", "due", "mine", "its"]) (sc := defScope s__law_any_right) (by decide +kernel)) (by decide) sb_yes (fun _ _ _ _ _ => (yg_name (pg_name (i := 2) sc__law_any_right.nd rfl (Or.inl rfl)))) (fun _ _ _ _ _ => pts_nil) (fun _ _ _ _ _ => (yn_fz (y_op op_sub ov_sub (PE.imp (pe_call d__law_lot.ok (hr.mono (by decide)) (by rfl) d__law_lot.mgf d__law_lot.kp d__law_lot.b .nil passL (pa_cons (pv 0) (ya_cons y_int ya_nil))) callO_rd) y_int))))) (y_lst (ya_cons y_int ya_nil))))) (ys_cons (ys_asg (ps_set (i := 3) sc__law_any_right.nd rfl (Or.inl rfl) (y_op oy_add2 ov_add2 (y_new (y_lc (E0 := fun _ _ _ => False) (own := [("turn", 2)]) rfl sc__law_any_right.nd (yi_rng1 (pi_range1 (by rfl) g_range (ya_cons (y_op oy_add2 ov_add2 y_int (PE.imp (pe_call d__law_lot.ok (hr.mono (by decide)) (by rfl) d__law_lot.mgf d__law_lot.kp d__law_lot.b .nil (passes_call (takes_of rfl rfl rfl rfl) fun _ _ _ _ h => h) (pa_cons (pv 0) (ya_cons y_int ya_nil))) callO_rd)) ya_nil))) (blkOk_by (N := ["jar", "one", "turn", "other", "polynomial", "both", "many", "due", "mine", "its"]) (sc := defScope s__law_any_right) (by decide +kernel)) (by decide) sb_yes (fun _ _ _ _ _ => (yg_name (pg_name (i := 2) sc__law_any_right.nd rfl (Or.inl rfl)))) (fun _ _ _ _ _ => pts_nil) (fun _ _ _ _ _ => (yn_fz (y_op op_sub ov_sub (PE.imp (pe_call d__law_lot.ok (hr.mono (by decide)) (by rfl) d__law_lot.mgf d__law_lot.kp d__law_lot.b .nil passL (pa_cons (pv 0) (ya_cons y_int ya_nil))) callO_rd) y_int))))) (y_lst (ya_cons y_int ya_nil))))) (ys_cons (ys_for (ps_for (passes_of rfl) rfl (yi_seq rfl (y_tup (ya_cons (y_var (pv 1)) (ya_cons (y_var (pv 3)) ya_nil)))) (yg_name (pg_name (i := 4) sc__law_any_right.nd rfl (Or.inl rfl))) (ys_one (ys_if (yt_cmp (op_neD hr.units) ov_ne (PE.imp (pe_call d_polynomial_from.ok (hr.mono (by decide)) (by rfl) d_polynomial_from.mgf d_polynomial_from.kp d_polynomial_from.b .nil (passes_call (takes_of rfl rfl rfl rfl) fun _ _ _ _ h => h) (ya_cons (PE.imp (pe_call d_traces_from.ok (hr.mono (by decide)) (by rfl) d_traces_from.mgf d_traces_from.kp d_traces_from.b .nil (passes_call (takes_of rfl rfl rfl rfl) fun _ _ _ _ h => h) (ya_cons (y_var (pv 4)) (ya_cons (PE.imp (pe_callB cy_len (by rfl) g_len (by decide +kernel) (ya_cons (y_var (pv 4)) ya_nil)) (cb_rd cv_len)) ya_nil))) call_rd) ya_nil)) call_rd) (PE.imp (pe_callTy call_tuple_of (by rfl) g_tuple (by decide +kernel) (ya_cons (y_var (pv 4)) ya_nil)) (cb_rd cv_tuple)) (nomark _)) (ys_one (ys_ret y_bl)) ys_nil)))) (ys_cons (ys_par (i := 5) (j := 6) (ps_par rfl sc__law_any_right.nd rfl rfl (by decide) rfl rfl (ya_cons (PE.imp (pe_call d__law_times.ok (hr.mono (by decide)) (by rfl) d__law_times.mgf d__law_times.kp d__law_times.b .nil (passes_call (takes_of rfl rfl rfl rfl) fun _ _ _ _ h => h) (ya_cons (y_var (pv 1)) (ya_cons (y_var (pv 3)) ya_nil))) call_rd) (ya_cons (y_op oy_add2 ov_add2 (y_op oy_add2 ov_add2 (PE.imp (pe_callB cy_len (by rfl) g_len (by decide +kernel) (ya_cons (y_var (pv 1)) ya_nil)) (cb_rd cv_len)) (PE.imp (pe_callB cy_len (by rfl) g_len (by decide +kernel) (ya_cons (y_var (pv 3)) ya_nil)) (cb_rd cv_len))) y_int) ya_nil)) (by first | rfl | exact sw2_local rfl rfl rfl))) (ys_cons (ys_asg (ps_set (i := 7) sc__law_any_right.nd rfl (Or.inl rfl) (PE.imp (pe_callTy call_tuple_of (by rfl) g_tuple (by decide +kernel) (ya_cons (y_new (y_lc (E0 := fun _ _ _ => False) (own := [("mine", 8), ("its", 9)]) rfl sc__law_any_right.nd (yi_zip rfl (RZ.pi_zipA (by rfl) g_zip (ya_cons (PE.imp (pe_call d_traces_from.ok (hr.mono (by decide)) (by rfl) d_traces_from.mgf d_traces_from.kp d_traces_from.b .nil (passes_call (takes_of rfl rfl rfl rfl) fun _ _ _ _ h => h) (ya_cons (y_var (pv 1)) (ya_cons (y_var (pv 6)) ya_nil))) call_rd) (ya_cons (PE.imp (pe_call d_traces_from.ok (hr.mono (by decide)) (by rfl) d_traces_from.mgf d_traces_from.kp d_traces_from.b .nil (passes_call (takes_of rfl rfl rfl rfl) fun _ _ _ _ h => h) (ya_cons (y_var (pv 3)) (ya_cons (y_var (pv 6)) ya_nil))) call_rd) ya_nil)))) (blkOk_by (N := ["jar", "one", "turn", "other", "polynomial", "both", "many", "due", "mine", "its"]) (sc := defScope s__law_any_right) (by decide +kernel)) (by decide) sb_yes (fun _ _ _ _ _ => (yg_tup rfl (pg_tup rfl (ygs_cons (yg_name (pg_name (i := 8) sc__law_any_right.nd rfl (Or.inl rfl))) (ygs_cons (yg_name (pg_name (i := 9) sc__law_any_right.nd rfl (Or.inl rfl))) ygs_nil (fun a b => pgs_cons a b)) (fun a b => pgs_cons a b))))) (fun _ _ _ _ _ => pts_nil) (fun _ _ _ _ _ => (yn_fz (y_op oy_add2 ov_add2 (y_var (pv 8)) (y_var (pv 9))))))) ya_nil)) (cb_rd cv_tuple)))) (ys_one (ys_ret (y_and (y_cmp (op_eqD hr.units) ov_eq (PE.imp (pe_call d_traces_from.ok (hr.mono (by decide)) (by rfl) d_traces_from.mgf d_traces_from.kp d_traces_from.b .nil (passes_call (takes_of rfl rfl rfl rfl) fun _ _ _ _ h => h) (ya_cons (y_var (pv 5)) (ya_cons (y_var (pv 6)) ya_nil))) call_rd) (y_var (pv 7)) (nomark _)) (y_one (y_cmp (op_eqD hr.units) ov_eq (PE.imp (pe_call d_traces_from.ok (hr.mono (by decide)) (by rfl) d_traces_from.mgf d_traces_from.kp d_traces_from.b .nil (passes_call (takes_of rfl rfl rfl rfl) fun _ _ _ _ h => h) (ya_cons (PE.imp (pe_callTy call_tuple_of (by rfl) g_tuple (by decide +kernel) (ya_cons (y_var (pv 5)) ya_nil)) (cb_rd cv_tuple)) (ya_cons (y_op op_sub ov_sub (y_var (pv 6)) y_int) ya_nil))) call_rd) (y_sl rfl (y_var (pv 7)) yp_no (yp_of (y_op op_sub ov_sub (y_var (pv 6)) y_int))) (nomark _)))))))))))
theorem ok__law_few_right {oc kV doc pm ct : Value} {od an : Option Addr} {osl : Array (Option Value)} {f cc PP : Addr} (lk : C.K.lookup f = some ⟨oc, od, .func (PySem.W.fnOf "_law_few_right" "_law_few_right" (defArgs s__law_few_right) (defBody s__law_few_right) (defScope s__law_few_right) .none kV doc pm an (.ref cc) ct), osl⟩) (hcd : PySem.W.codeIn C.K (.ref cc) "_law_few_right" = true) (lD : LamD C base mg cc PP "_law_few_right.<locals>.<lambda>") (g_int : mg "int" = none) (d__law_lot : Df P w C mg base "_law_lot" 3 ["jar", "many"] [] (spF C 2 6 b__law_lot)) (d_polynomial_from : Df P w C mg base "polynomial_from" 5 ["traces"] [] (spF C 1 2 b_polynomial_from)) (h__law_heard : Hear2 C mg "_law_heard" "ask" 1 "part" s__law_heard ["ask", "found", "error"]) : FnOk P w C.K mg base (L2.CX P w) 8 f (PySem.W.fnOf "_law_few_right" "_law_few_right" (defArgs s__law_few_right) (defBody s__law_few_right) (defScope s__law_few_right) .none kV doc pm an (.ref cc) ct) ["jar"] (spF C 1 8 b__law_few_right) :=
  y_fnL (C := C) (k := 7) lk hcd sc__law_few_right (by decide) fun A outer s H E hr => (ys_cons (ys_asgT (ps_asg (y_tup (ya_cons (y_op op_sub ov_sub (PE.imp (pe_call d__law_lot.ok (hr.mono (by decide)) (by rfl) d__law_lot.mgf d__law_lot.kp d__law_lot.b .nil (passes_call (takes_of rfl rfl rfl rfl) fun _ _ _ _ h => h) (pa_cons (pv 0) (ya_cons y_int ya_nil))) callO_rd) y_int) (ya_cons (y_op op_sub ov_sub (PE.imp (pe_call d__law_lot.ok (hr.mono (by decide)) (by rfl) d__law_lot.mgf d__law_lot.kp d__law_lot.b .nil (passes_call (takes_of rfl rfl rfl rfl) fun _ _ _ _ h => h) (pa_cons (pv 0) (ya_cons y_int ya_nil))) callO_rd) y_int) (ya_cons (y_op op_sub ov_sub (PE.imp (pe_call d__law_lot.ok (hr.mono (by decide)) (by rfl) d__law_lot.mgf d__law_lot.kp d__law_lot.b .nil (passes_call (takes_of rfl rfl rfl rfl) fun _ _ _ _ h => h) (pa_cons (pv 0) (ya_cons y_int ya_nil))) callO_rd) y_int) ya_nil)))) (yg_tup rfl (pg_tup rfl (ygs_cons (yg_name (pg_name (i := 1) sc__law_few_right.nd rfl (Or.inr rfl))) (ygs_cons (yg_name (pg_name (i := 2) sc__law_few_right.nd rfl (Or.inr rfl))) (ygs_cons (yg_name (pg_name (i := 3) sc__law_few_right.nd rfl (Or.inr rfl))) ygs_nil (fun a b => pgs_cons a b)) (fun a b => pgs_cons a b)) (fun a b => pgs_cons a b)))))) (ys_cons (ys_par (i := 4) (j := 5) (ps_par rfl sc__law_few_right.nd rfl rfl (by decide) rfl rfl (ya_cons (y_op op_sub ov_sub (y_op op_mulA ov_mul (y_var (pv 1)) (y_var (pv 1))) (y_var (pv 2))) (ya_cons (y_op oy_add2 ov_add2 (y_op op_sub ov_sub (y_op op_mulA ov_mul (y_op op_mulA ov_mul (y_var (pv 1)) (y_var (pv 1))) (y_var (pv 1))) (y_op op_mulA ov_mul (y_op op_mulA ov_mul y_int (y_var (pv 1))) (y_var (pv 2)))) (y_op op_mulA ov_mul y_int (y_var (pv 3)))) ya_nil)) (by first | rfl | exact sw2_local rfl rfl rfl))) (ys_cons (ys_asg (ps_set (i := 6) sc__law_few_right.nd rfl (Or.inl rfl) (y_if (yt_cmp (op_eqD hr.units) ov_eq (y_op op_modN ov_mod (PE.imp (pe_callTy call_int1 (by rfl) g_int (by decide +kernel) (ya_cons (y_var (pv 4)) ya_nil)) (cb_rd cv_int)) y_int) y_int (nomark _)) (y_tup (ya_cons (PE.imp (pe_callTy call_int1 (by rfl) g_int (by decide +kernel) (ya_cons (y_op oy_div ov_div (y_var (pv 4)) y_int) ya_nil)) (cb_rd cv_int)) (ya_cons (y_un un_neg uv_neg (y_var (pv 1))) (ya_cons y_int ya_nil)))) y_str))) (ys_cons (ys_if (PW.pt (yw_or (yt_cmp (op_neD hr.units) ov_ne (y_lam2 (k := 5) h__law_heard rfl rfl (by rfl) sc__law_heard rfl (.inl rfl) (fun us hl => match us, hl with | [_], _ => rfl) lD rfl rfl (hr.mono (by decide)) (defScope s__law_few_right) rfl (LamX.lamS_by (by decide +kernel)) rfl (fun _ _ _ _ _ => rfl) fun _ _ _ _ E _ _ hr => (PE.imp (pe_call d_polynomial_from.ok (hr.mono (by decide)) (by rfl) d_polynomial_from.mgf d_polynomial_from.kp d_polynomial_from.b .nil (passes_call (takes_of rfl rfl rfl rfl) fun _ _ _ _ h => h) (ya_cons (y_lst (ya_cons y_int (ya_cons (y_var (pv 1)) (ya_cons (y_var (pv 2)) ya_nil)))) ya_nil)) call_rd)) (y_var (pv 6)) (nomark _)) (yw_or1 (yt_cmp (op_neD hr.units) ov_ne (PE.imp (pe_call d_polynomial_from.ok (hr.mono (by decide)) (by rfl) d_polynomial_from.mgf d_polynomial_from.kp d_polynomial_from.b .nil (passes_call (takes_of rfl rfl rfl rfl) fun _ _ _ _ h => h) (ya_cons (y_tup (ya_cons y_int (ya_cons (y_var (pv 1)) ya_nil))) ya_nil)) call_rd) (y_tup (ya_cons (y_un un_neg uv_neg (y_var (pv 1))) (ya_cons y_int ya_nil))) (nomark _))))) (ys_one (ys_ret y_bl)) ys_nil) (ys_cons (ys_asg (ps_set (i := 7) sc__law_few_right.nd rfl (Or.inl rfl) (y_and (y_cmp (op_eqD hr.units) ov_eq (y_op op_modN ov_mod (PE.imp (pe_callTy call_int1 (by rfl) g_int (by decide +kernel) (ya_cons (y_var (pv 4)) ya_nil)) (cb_rd cv_int)) y_int) y_int (nomark _)) (y_one (y_cmp (op_eqD hr.units) ov_eq (y_op op_modN ov_mod (PE.imp (pe_callTy call_int1 (by rfl) g_int (by decide +kernel) (ya_cons (y_var (pv 5)) ya_nil)) (cb_rd cv_int)) y_int) y_int (nomark _)))))) (ys_cons (ys_asg (ps_set (i := 6) sc__law_few_right.nd rfl (Or.inl rfl) (y_if (yt_val rfl (y_var (pv 7)) fun _ => rfl) (y_tup (ya_cons (y_un un_neg uv_neg (PE.imp (pe_callTy call_int1 (by rfl) g_int (by decide +kernel) (ya_cons (y_op oy_div ov_div (y_var (pv 5)) y_int) ya_nil)) (cb_rd cv_int))) (ya_cons (PE.imp (pe_callTy call_int1 (by rfl) g_int (by decide +kernel) (ya_cons (y_op oy_div ov_div (y_var (pv 4)) y_int) ya_nil)) (cb_rd cv_int)) (ya_cons (y_un un_neg uv_neg (y_var (pv 1))) (ya_cons y_int ya_nil))))) y_str))) (ys_one (ys_ret (y_cmp (op_eqD hr.units) ov_eq (y_lam2 (k := 5) h__law_heard rfl rfl (by rfl) sc__law_heard rfl (.inl rfl) (fun us hl => match us, hl with | [_], _ => rfl) lD rfl rfl (hr.mono (by decide)) (defScope s__law_few_right) rfl (LamX.lamS_by (by decide +kernel)) rfl (fun _ _ _ _ _ => rfl) fun _ _ _ _ E _ _ hr => (PE.imp (pe_call d_polynomial_from.ok (hr.mono (by decide)) (by rfl) d_polynomial_from.mgf d_polynomial_from.kp d_polynomial_from.b .nil (passes_call (takes_of rfl rfl rfl rfl) fun _ _ _ _ h => h) (ya_cons (y_lst (ya_cons y_int (ya_cons (y_var (pv 1)) (ya_cons (y_var (pv 2)) (ya_cons (y_var (pv 3)) ya_nil))))) ya_nil)) call_rd)) (y_var (pv 6)) (nomark _))))))))))
theorem ok_law {oc kV doc pm ct : Value} {od an : Option Addr} {osl : Array (Option Value)} {f cc PP : Addr} (lk : C.K.lookup f = some ⟨oc, od, .func (PySem.W.fnOf "law" "law" (defArgs s_law) (defBody s_law) (defScope s_law) .none kV doc pm an (.ref cc) ct), osl⟩) (hcd : PySem.W.codeIn C.K (.ref cc) "law" = true) (lD : LamD C base mg cc PP "law.<locals>.<lambda>") (g_range : mg "range" = none) (g_tuple : mg "tuple" = none) (g_isinstance : mg "isinstance" = none) (d__law_jar : Df P w C mg base "_law_jar" 3 ["script"] [] (spN C 1 2 n__law_jar)) (d__law_product_right : DfG P w C mg base "_law_product_right" 7 ["jar"] (spF C 1 6 b__law_product_right)) (d__law_any_right : Df P w C mg base "_law_any_right" 7 ["jar"] [] (spF C 1 10 b__law_any_right)) (d__law_few_right : Df P w C mg base "_law_few_right" 8 ["jar"] [] (spF C 1 8 b__law_few_right)) (d__law_lot : Df P w C mg base "_law_lot" 3 ["jar", "many"] [] (spF C 2 6 b__law_lot)) (d_polynomial_from : Df P w C mg base "polynomial_from" 5 ["traces"] [] (spF C 1 2 b_polynomial_from)) (d_traces_from : Df P w C mg base "traces_from" 6 ["polynomial", "many"] [] (spF C 2 2 b_traces_from)) (d__law_powers : Df P w C mg base "_law_powers" 3 ["numbers", "many"] [] (spF C 2 7 b__law_powers)) (h__law_heard : Hear2 C mg "_law_heard" "ask" 1 "part" s__law_heard ["ask", "found", "error"]) : FnG P w C.K mg base 9 f (PySem.W.fnOf "law" "law" (defArgs s_law) (defBody s_law) (defScope s_law) .none kV doc pm an (.ref cc) ct) ["script"] (spF C 1 7 b_law) :=
  y_fnG (C := C) (k := 8) lk hcd sc_law (by decide) fun A outer s H E hA hr => (ys_cons (ys_newT (ps_set (i := 1) sc_law.nd rfl (Or.inr rfl) (PE.imp (pe_call d__law_jar.ok (hr.mono (by decide)) (by rfl) d__law_jar.mgf d__law_jar.kp d__law_jar.b .nil (passes_call (takes_of rfl rfl rfl rfl) fun _ _ _ _ h => h) (ya_cons (y_var (pv 0)) ya_nil)) callN_rd))) (ys_cons (ys_for (ps_for (passes_of rfl) rfl (yi_rng1 (pi_range1 (by rfl) g_range (ya_cons y_int ya_nil))) (yg_name (pg_name (i := 2) sc_law.nd rfl (Or.inl rfl))) (ys_cons (ys_if (PW.pt (yw_or (yt_not (yt_val rfl (PE.imp (pe_callG d__law_product_right.ok hA (hr.mono (by decide)) (by rfl) d__law_product_right.mgf d__law_product_right.kp d__law_product_right.b (passes_call (takes_of rfl rfl rfl rfl) fun _ _ _ _ h => h) (pa_cons (pv 1) ya_nil)) callO_rd) fun _ => rfl)) (yw_or (yt_not (yt_val rfl (PE.imp (pe_call d__law_any_right.ok (hr.mono (by decide)) (by rfl) d__law_any_right.mgf d__law_any_right.kp d__law_any_right.b .nil (passes_call (takes_of rfl rfl rfl rfl) fun _ _ _ _ h => h) (pa_cons (pv 1) ya_nil)) callO_rd) fun _ => rfl)) (yw_or1 (yt_not (yt_val rfl (PE.imp (pe_call d__law_few_right.ok (hr.mono (by decide)) (by rfl) d__law_few_right.mgf d__law_few_right.kp d__law_few_right.b .nil (passes_call (takes_of rfl rfl rfl rfl) fun _ _ _ _ h => h) (pa_cons (pv 1) ya_nil)) callO_rd) fun _ => rfl)))))) (ys_one (ys_ret y_bl)) ys_nil) (ys_cons (ys_asg (ps_set (i := 3) sc_law.nd rfl (Or.inr rfl) (y_op oy_add2 ov_add2 (y_lst (ya_cons y_int ya_nil)) (y_new (y_lc (E0 := fun _ _ _ => False) (own := [("turn", 4)]) rfl sc_law.nd (yi_rng1 (pi_range1 (by rfl) g_range (ya_cons y_int ya_nil))) (blkOk_by (N := ["script", "jar", "lap", "traces", "turn", "told", "one"]) (sc := defScope s_law) (by decide +kernel)) (by decide) sb_yes (fun _ _ _ _ _ => (yg_name (pg_name (i := 4) sc_law.nd rfl (Or.inl rfl)))) (fun _ _ _ _ _ => pts_nil) (fun _ _ _ _ _ => (yn_fz (y_op op_sub ov_sub (PE.imp (pe_call d__law_lot.ok (hr.mono (by decide)) (by rfl) d__law_lot.mgf d__law_lot.kp d__law_lot.b .nil passL (pa_cons (pv 1) (ya_cons y_int ya_nil))) callO_rd) y_int)))))))) (ys_cons (ys_asg (ps_set (i := 5) sc_law.nd rfl (Or.inl rfl) (y_lam2 (k := 6) h__law_heard rfl rfl (by rfl) sc__law_heard rfl (.inl rfl) (fun us hl => match us, hl with | [_], _ => rfl) lD rfl rfl (hr.mono (by decide)) (defScope s_law) rfl (LamX.lamS_by (by decide +kernel)) rfl (fun _ _ _ _ _ => rfl) fun _ _ _ _ E _ _ hr => (PE.imp (pe_call d_polynomial_from.ok (hr.mono (by decide)) (by rfl) d_polynomial_from.mgf d_polynomial_from.kp d_polynomial_from.b .nil (passes_call (takes_of rfl rfl rfl rfl) fun _ _ _ _ h => h) (ya_cons (y_var (pv 3)) ya_nil)) call_rd)))) (ys_cons (ys_if (PW.pt (yw_or (PW.pt (yw_and (yt_val rfl (PE.imp (pe_callB cy_isi (by rfl) g_isinstance (by decide +kernel) (ya_cons (y_var (pv 5)) (ya_cons (y_cst (pe_bltn (v := .ty "tuple") (u := .type "tuple") (by rfl) g_tuple (by decide +kernel) rfl) fun _ _ => rep_ty.mpr rfl) ya_nil))) (cb_rd cv_isi)) fun _ => rfl) (yw_and1 (PW.pt (yw_or (yt_cmp (op_neD hr.units) ov_ne (y_ix ix_seq ov_ix (y_var (pv 5)) (y_un un_neg uv_neg y_int) (fun _ _ => rfl)) y_int (nomark _)) (yw_or1 (yt_cmp (op_neD hr.units) ov_ne (PE.imp (pe_call d_traces_from.ok (hr.mono (by decide)) (by rfl) d_traces_from.mgf d_traces_from.kp d_traces_from.b .nil (passes_call (takes_of rfl rfl rfl rfl) fun _ _ _ _ h => h) (ya_cons (y_var (pv 5)) (ya_cons y_int ya_nil))) call_rd) (PE.imp (pe_callTy call_tuple_of (by rfl) g_tuple (by decide +kernel) (ya_cons (y_var (pv 3)) ya_nil)) (cb_rd cv_tuple)) (nomark _)))))))) (yw_or1 (yt_cmp (op_eqD hr.units) ov_eq (y_var (pv 5)) y_str (nomark _))))) (ys_one (ys_ret y_bl)) ys_nil) (ys_cons (ys_asg (ps_set (i := 6) sc_law.nd rfl (Or.inr rfl) (y_lst (ya_cons y_int (ya_cons y_int (ya_cons (y_op op_mulA ov_mul y_int (PE.imp (pe_call d__law_lot.ok (hr.mono (by decide)) (by rfl) d__law_lot.mgf d__law_lot.kp d__law_lot.b .nil (passes_call (takes_of rfl rfl rfl rfl) fun _ _ _ _ h => h) (pa_cons (pv 1) (ya_cons y_int ya_nil))) callO_rd)) (ya_cons y_int ya_nil))))))) (ys_one (ys_if (yt_cmp (op_eqD hr.units) ov_eq (y_lam2 (k := 6) h__law_heard rfl rfl (by rfl) sc__law_heard rfl (.inl rfl) (fun us hl => match us, hl with | [_], _ => rfl) lD rfl rfl (hr.mono (by decide)) (defScope s_law) rfl (LamX.lamS_by (by decide +kernel)) rfl (fun _ _ _ _ _ => rfl) fun _ _ _ _ E _ _ hr => (PE.imp (pe_call d_polynomial_from.ok (hr.mono (by decide)) (by rfl) d_polynomial_from.mgf d_polynomial_from.kp d_polynomial_from.b .nil (passes_call (takes_of rfl rfl rfl rfl) fun _ _ _ _ h => h) (ya_cons (y_op oy_add2 ov_add2 (y_var (pv 6)) (y_lst (ya_cons (y_op oy_add2 ov_add2 (y_op oy_div ov_div (y_op op_mulA ov_mul (y_ix ix_seq ov_ix (y_var (pv 6)) y_int (fun _ _ => rfl)) (y_ix ix_seq ov_ix (y_var (pv 6)) y_int (fun _ _ => rfl))) y_int) (y_op op_mulA ov_mul y_int (PE.imp (pe_call d__law_lot.ok (hr.mono (by decide)) (by rfl) d__law_lot.mgf d__law_lot.kp d__law_lot.b .nil (passes_call (takes_of rfl rfl rfl rfl) fun _ _ _ _ h => h) (pa_cons (pv 1) (ya_cons y_int ya_nil))) callO_rd))) ya_nil))) ya_nil)) call_rd)) y_str (nomark _)) (ys_one (ys_ret y_bl)) ys_nil))))))))) (ys_cons (ys_if (yt_cmp (op_neD hr.units) ov_ne (PE.imp (pe_call d_traces_from.ok (hr.mono (by decide)) (by rfl) d_traces_from.mgf d_traces_from.kp d_traces_from.b .nil (passes_call (takes_of rfl rfl rfl rfl) fun _ _ _ _ h => h) (ya_cons (y_lst (ya_cons y_int (ya_cons (y_un un_neg uv_neg y_int) (ya_cons (y_un un_neg uv_neg y_int) (ya_cons y_int ya_nil))))) (ya_cons y_int ya_nil))) call_rd) (PE.imp (pe_call d__law_powers.ok (hr.mono (by decide)) (by rfl) d__law_powers.mgf d__law_powers.kp d__law_powers.b .nil (passes_call (takes_of rfl rfl rfl rfl) fun _ _ _ _ h => h) (ya_cons (y_lst (ya_cons y_int (ya_cons (y_un un_neg uv_neg y_int) (ya_cons y_int ya_nil)))) (ya_cons y_int ya_nil))) call_rd) (nomark _)) (ys_one (ys_ret y_bl)) ys_nil) (ys_one (ys_ret (y_and (y_cmp (op_eqD hr.units) ov_eq (y_ix ix_seq ov_ix (PE.imp (pe_call d_traces_from.ok (hr.mono (by decide)) (by rfl) d_traces_from.mgf d_traces_from.kp d_traces_from.b .nil (passes_call (takes_of rfl rfl rfl rfl) fun _ _ _ _ h => h) (ya_cons (y_lst (ya_cons (y_un un_neg uv_neg y_int) (ya_cons (y_un un_neg uv_neg y_int) (ya_cons y_int ya_nil)))) (ya_cons y_int ya_nil))) call_rd) y_int (fun _ _ => rfl)) y_int (nomark _)) (y_one (y_cmp (op_eqD hr.units) ov_eq (PE.imp (pe_call d_traces_from.ok (hr.mono (by decide)) (by rfl) d_traces_from.mgf d_traces_from.kp d_traces_from.b .nil (passes_call (takes_of rfl rfl rfl rfl) fun _ _ _ _ h => h) (ya_cons (y_lst (ya_cons y_int (ya_cons y_int ya_nil))) (ya_cons y_int ya_nil))) call_rd) (y_tup (ya_cons y_int (ya_cons y_int (ya_cons y_int ya_nil)))) (nomark _)))))))))
end Y

set_option Elab.async false
set_option linter.all false
set_option maxRecDepth 100000
set_option maxHeartbeats 4000000
set_option autoImplicit false
/-! WI: how mirrors are computed. -/
namespace Y
open PySem PySem.Spec PyProof.Rows L2 Z
/-- a def's value -/
def runV (n : Nat) (body : MS) (xs : List Val) : Rs Val := match runF n body xs with
  | .ok r => .ok r.1 | .exc c ns vs _ => .exc c ns vs [] | .bad => .bad
def liftV (r : Rs Val) (ρ : En) : Rs (Val × En) := match r with | .ok v => .ok (v, ρ) | .exc c ns vs _ => .exc c ns vs ρ | .bad => .bad
theorem callM_eq {np n : Nat} {body : MS} {a : MA} {ρ ρ1 : En} {xs : List Val} (h : a ρ = .ok (xs, ρ1)) (hl : xs.length = np) (hn : np ≤ n) : callM np n body a ρ = liftV (runV n body xs) ρ1 := by
  unfold callM runV
  rw [h, Rs.ok_bind]
  dsimp only
  rw [if_pos ⟨hl, hn⟩]
  cases runF n body xs <;> rfl
theorem small_sz {n : Nat} (h : Nat.ble n 100 = true) : n ≤ sizeLine := Nat.le_trans (Nat.le_of_ble_eq_true h) (by decide)
theorem small_lt {n : Nat} (h : Nat.ble n 100 = true) : n < sizeLine := Nat.lt_of_le_of_lt (Nat.le_of_ble_eq_true h) (by decide)
theorem sz_lt {n : Nat} (h : n ≤ 100000) : n < sizeLine := Nat.lt_of_le_of_lt h (by decide)
theorem sz_le {n : Nat} (h : n ≤ 100000) : n ≤ sizeLine := Nat.le_trans h (by decide)
theorem st0 {s v : Option SV} {r : En} : (v :: r).set 0 s = s :: r := rfl
theorem stS {s v : Option SV} {r r' : En} {i : Nat} (h : r.set i s = r') : (v :: r).set (i + 1) s = v :: r' := by rw [← h]; rfl
section
variable {ρ ρ1 ρ2 ρ3 : En} {x y z : Val} {i : Nat} {a b m : ME} {c d : MB} {al bl : MA} {xs ys : List Val} {k l : Bool} {f : Val → Val → Option Val} {g : Val → Option Val} {s t : MS} {R : Rs Out}
theorem e_var (h : ρ[i]? = some (some (.fz x))) : varM i ρ = .ok (x, ρ) := by unfold varM; rw [h]
theorem e_cst : cstM x ρ = .ok (x, ρ) := rfl
theorem e_bin (h1 : a ρ = .ok (x, ρ1)) (h2 : b ρ1 = .ok (y, ρ2)) (h3 : f x y = some z) : binM f a b ρ = .ok (z, ρ2) := by
  unfold binM; rw [h1, Rs.ok_bind]; dsimp only; rw [h2, Rs.ok_bind]; dsimp only; rw [h3]; rfl
theorem e_un (h1 : a ρ = .ok (x, ρ1)) (h3 : g x = some z) : unM g a ρ = .ok (z, ρ1) := by
  unfold unM; rw [h1, Rs.ok_bind]; dsimp only; rw [h3]; rfl
theorem e_tst {f : Val → Option Bool} (h1 : a ρ = .ok (x, ρ1)) (h3 : f x = some k) : tstM f a ρ = .ok (k, ρ1) := by
  unfold tstM; rw [h1, Rs.ok_bind]; dsimp only; rw [h3]; rfl
theorem e_tstX {f : Val → Option Bool} {cl : Nat} {ns : List Str} (h1 : a ρ = .exc cl ns xs ρ1) : tstM f a ρ = .exc cl ns xs ρ1 := by
  unfold tstM; rw [h1]; rfl
theorem e_andB (h1 : c ρ = .ok (k, ρ1)) (h2 : k = true → d ρ1 = .ok (l, ρ1)) : andB c d ρ = .ok (k && l, ρ1) := by
  unfold andB; rw [h1, Rs.ok_bind]
  cases k with
  | true => simpa using h2 rfl
  | false => rfl
theorem e_andT (h1 : c ρ = .ok (k, ρ1)) (hk : k = true) (h2 : d ρ1 = .ok (l, ρ2)) : andB c d ρ = .ok (l, ρ2) := by
  subst hk; unfold andB; rw [h1, Rs.ok_bind]; exact h2
theorem e_andF (h1 : c ρ = .ok (k, ρ1)) (hk : k = false) : andB c d ρ = .ok (false, ρ1) := by
  subst hk; unfold andB; rw [h1, Rs.ok_bind]; rfl
theorem e_orB (h1 : c ρ = .ok (k, ρ1)) (h2 : k = false → d ρ1 = .ok (l, ρ1)) : orB c d ρ = .ok (k || l, ρ1) := by
  unfold orB; rw [h1, Rs.ok_bind]
  cases k with
  | true => rfl
  | false => simpa using h2 rfl
theorem e_orF (h1 : c ρ = .ok (k, ρ1)) (hk : k = false) (h2 : d ρ1 = .ok (l, ρ2)) : orB c d ρ = .ok (l, ρ2) := by
  subst hk; unfold orB; rw [h1, Rs.ok_bind]; exact h2
theorem e_orT (h1 : c ρ = .ok (k, ρ1)) (hk : k = true) : orB c d ρ = .ok (true, ρ1) := by
  subst hk; unfold orB; rw [h1, Rs.ok_bind]; rfl
theorem e_notB (h1 : c ρ = .ok (k, ρ1)) : notB c ρ = .ok (!k, ρ1) := by unfold notB; rw [h1, Rs.ok_bind]
theorem e_andM (h1 : a ρ = .ok (.bl k, ρ1)) (h2 : k = true → b ρ1 = .ok (.bl l, ρ1)) : andM a b ρ = .ok (.bl (k && l), ρ1) := by
  unfold andM; rw [h1, Rs.ok_bind]
  cases k with
  | true => simpa [blV] using h2 rfl
  | false => rfl
theorem e_orM (h1 : a ρ = .ok (.bl k, ρ1)) (h2 : k = false → b ρ1 = .ok (.bl l, ρ1)) : orM a b ρ = .ok (.bl (k || l), ρ1) := by
  unfold orM; rw [h1, Rs.ok_bind]
  cases k with
  | true => rfl
  | false => simpa [blV] using h2 rfl
theorem e_ifM (h1 : c ρ = .ok (k, ρ1)) (h2 : (if k = true then a ρ1 else b ρ1) = .ok (x, ρ2)) : ifM c a b ρ = .ok (x, ρ2) := by unfold ifM; rw [h1, Rs.ok_bind]; exact h2
theorem e_ifMT (h1 : c ρ = .ok (k, ρ1)) (hk : k = true) (h2 : a ρ1 = .ok (x, ρ2)) : ifM c a b ρ = .ok (x, ρ2) := e_ifM h1 (by rw [if_pos hk]; exact h2)
theorem e_ifMF (h1 : c ρ = .ok (k, ρ1)) (hk : k = false) (h2 : b ρ1 = .ok (x, ρ2)) : ifM c a b ρ = .ok (x, ρ2) := e_ifM h1 (by rw [if_neg (by rw [hk]; exact fun z => nomatch z)]; exact h2)
theorem e_nilA : nilA ρ = .ok ([], ρ) := rfl
theorem e_consA (h1 : a ρ = .ok (x, ρ1)) (h2 : al ρ1 = .ok (xs, ρ2)) : consA a al ρ = .ok (x :: xs, ρ2) := by
  unfold consA; rw [h1, Rs.ok_bind]; dsimp only; rw [h2]; rfl
theorem e_tupM (h1 : al ρ = .ok (xs, ρ1)) (h2 : xs.length ≤ sizeLine) : tupM al ρ = .ok (.tup xs, ρ1) := by
  unfold tupM; rw [h1, Rs.ok_bind]; exact if_pos h2
theorem e_lstM (h1 : al ρ = .ok (xs, ρ1)) (h2 : xs.length ≤ sizeLine) : lstM al ρ = .ok (.lst xs, ρ1) := by
  unfold lstM; rw [h1, Rs.ok_bind]; exact if_pos h2
theorem e_dispF (h1 : al ρ = .ok (xs, ρ1)) (h2 : xs.length ≤ sizeLine) : dispF al ρ = .ok (xs, ρ1) := by
  unfold dispF; rw [h1, Rs.ok_bind]; exact if_pos h2
theorem e_cbM {f : List Val → Option Val} (h1 : al ρ = .ok (xs, ρ1)) (h2 : f xs = some z) : cbM f al ρ = .ok (z, ρ1) := by
  unfold cbM; rw [h1, Rs.ok_bind]; dsimp only; rw [h2]; rfl
theorem e_cfM {f : List Val → Option (List Val)} (h1 : al ρ = .ok (xs, ρ1)) (h2 : f xs = some ys) : cfM f al ρ = .ok (ys, ρ1) := by
  unfold cfM; rw [h1, Rs.ok_bind]; dsimp only; rw [h2]; rfl
theorem e_bfM {f : Val → Val → Option (List Val)} (h1 : a ρ = .ok (x, ρ1)) (h2 : b ρ1 = .ok (y, ρ2)) (h3 : f x y = some ys) : bfM f a b ρ = .ok (ys, ρ2) := by
  unfold bfM; rw [h1, Rs.ok_bind]; dsimp only; rw [h2, Rs.ok_bind]; dsimp only; rw [h3]; rfl
theorem e_ownL {mf : ML} (h1 : mf ρ = .ok (xs, ρ1)) : ownL mf ρ = .ok (.olst xs, ρ1) := by unfold ownL; rw [h1]; rfl
theorem melts_int : ∀ ns : List Int, melts (ns.map .int) = ns.map .int
  | [] => by unfold melts; rfl
  | n :: ns => by rw [List.map_cons]; unfold melts; rw [melts_int ns, melt_fz rfl]
theorem melts_all : ∀ {xs : List Val}, (xs.all fun x => !x.isO) = true → melts xs = xs
  | [], _ => by unfold melts; rfl
  | x :: xs, h => by rw [List.all_cons, Bool.and_eq_true] at h; unfold melts; rw [melts_all h.2, melt_fz (by simpa using h.1)]
theorem e_listM {mf : ML} (h1 : mf ρ = .ok (xs, ρ1)) (h2 : melts xs = ys) : listM mf ρ = .ok (.lst ys, ρ1) := by subst h2; unfold listM; rw [h1]; rfl
theorem e_listI {mf : ML} {ns : List Int} (h1 : mf ρ = .ok (ns.map .int, ρ1)) : listM mf ρ = .ok (.lst (ns.map .int), ρ1) := e_listM h1 (melts_int ns)
theorem e_walkM {f : Val → Option (List Val)} (h1 : a ρ = .ok (x, ρ1)) (h2 : f x = some xs) : walkM f a ρ = .ok (xs, ρ1) := by
  unfold walkM; rw [h1, Rs.ok_bind]; dsimp only; rw [h2]; rfl
theorem e_lrevF (h1 : a ρ = .ok (x, ρ1)) (h2 : seqV x = some xs) : lrevF a ρ = .ok (xs.reverse, ρ1) := by
  unfold lrevF; rw [h1, Rs.ok_bind]; dsimp only; rw [h2]; rfl
theorem e_zrM (h1 : a ρ = .ok (x, ρ1)) (h2 : seqV x = some xs) (h3 : b ρ1 = .ok (.lst ys, ρ2)) : zrM a b ρ = .ok (zipV xs.reverse ys, ρ2) := by
  unfold zrM; rw [h1, Rs.ok_bind]; dsimp only; rw [h2, Rs.opt_some, Rs.ok_bind, h3]; rfl
theorem e_zipL (h1 : al ρ = .ok ([.lst xs, .lst ys], ρ1)) : zipM al ρ = .ok (zipV xs ys, ρ1) := by unfold zipM; rw [h1]; rfl
theorem e_zipT (h1 : al ρ = .ok ([.tup xs, .tup ys], ρ1)) : zipM al ρ = .ok (zipV xs ys, ρ1) := by unfold zipM; rw [h1]; rfl
theorem e_enum (h1 : al ρ = .ok ([.lst xs], ρ1)) : enumM al ρ = .ok (enumL 0 xs, ρ1) := by unfold enumM; rw [h1]; rfl
theorem e_rng1 {j : Int} (h1 : al ρ = .ok ([.int j], ρ1)) (hj : -(2 ^ 62) ≤ j ∧ j < 2 ^ 62) : rng1M al ρ = .ok (iota 0 j.toNat, ρ1) := by
  unfold rng1M; rw [h1, Rs.ok_bind]; exact if_pos hj
theorem e_rng2 {i j : Int} (h1 : al ρ = .ok ([.int i, .int j], ρ1)) (hj : -(2 ^ 62) ≤ i ∧ i < 2 ^ 62 ∧ -(2 ^ 62) ≤ j ∧ j < 2 ^ 62) : rng2M al ρ = .ok (iota i (j - i).toNat, ρ1) := by
  unfold rng2M; rw [h1, Rs.ok_bind]; exact if_pos hj
theorem e_yesB : yesB ρ = .ok (true, ρ) := rfl
/-! slices -/
theorem e_noP : noP ρ = .ok (none, ρ) := rfl
theorem e_parP {j : Int} (h : a ρ = .ok (.int j, ρ1)) : parP a ρ = .ok (some j, ρ1) := by unfold parP; rw [h]; rfl
theorem e_sl {lo hi : MP} {u v : Option Int} (h1 : a ρ = .ok (x, ρ1)) (h2 : lo ρ1 = .ok (u, ρ2)) (h3 : hi ρ2 = .ok (v, ρ3)) (h4 : slV x u v = some z) : slM a lo hi ρ = .ok (z, ρ3) := by
  unfold slM; rw [h1, Rs.ok_bind]; dsimp only; rw [h2, Rs.ok_bind]; dsimp only; rw [h3, Rs.ok_bind]; dsimp only; rw [h4]; rfl
theorem e_slO {lo hi : MP} {u v : Option Int} {p q : Bool} {us : List Val} (h0 : ρ[i]? = some (some (.ow q us))) (h1 : lo ρ = .ok (u, ρ1)) (h2 : hi ρ1 = .ok (v, ρ2)) (h3 : ρ2[i]? = some (some (.ow p xs))) (h4 : (xs.all fun x => !x.isO) = true) (h5 : cutX xs u v = ys) : slOM i lo hi ρ = .ok (ys, ρ2) := by
  subst h5
  unfold slOM slO; rw [h0]; dsimp only; rw [h1, Rs.ok_bind]; dsimp only; rw [h2, Rs.ok_bind]; dsimp only; rw [h3]; exact if_pos h4
theorem e_chnT {f g : Val → Val → Option Val} (h1 : a ρ = .ok (x, ρ1)) (h2 : b ρ1 = .ok (y, ρ2)) (h3 : f x y = some (.bl true)) {c : ME} {w : Val} (h4 : c ρ2 = .ok (z, ρ3)) (h5 : g y z = some w) : chnM f g a b c ρ = .ok (w, ρ3) := by
  unfold chnM; rw [h1, Rs.ok_bind]; dsimp only; rw [h2, Rs.ok_bind]; dsimp only; rw [h3]; dsimp only [Option.bind, blV]; rw [Rs.opt_some, Rs.ok_bind, if_pos rfl, h4, Rs.ok_bind]; dsimp only; rw [h5]; rfl
theorem e_chnF {f g : Val → Val → Option Val} (h1 : a ρ = .ok (x, ρ1)) (h2 : b ρ1 = .ok (y, ρ2)) (h3 : f x y = some (.bl false)) {c : ME} : chnM f g a b c ρ = .ok (.bl false, ρ2) := by
  unfold chnM; rw [h1, Rs.ok_bind]; dsimp only; rw [h2, Rs.ok_bind]; dsimp only; rw [h3]; rfl
theorem e_view {i : Nat} (h0 : ρ[i]? = some (some (.ob false x))) (h1 : alone ρ i = true) (h2 : ρ.set i (some (.fz x.melt)) = ρ1) (h3 : m ρ1 = .ok (z, ρ2)) (h4 : z.atom = true) : viewM i m ρ = .ok (z, ρ) := by
  subst h2
  unfold viewM; rw [h0]; dsimp only; rw [if_pos h1, h3]; dsimp only [noX]; rw [Rs.ok_bind]; exact if_pos h4
/-! comprehensions -/
theorem e_compF {vs : List Nat} {mi : MI} {tg : MT} {cc : MB} {e : MN} (h1 : mi ρ = .ok (xs, ρ1)) (h2 : xs.length < sizeLine) (h3 : vs.all (freeS ρ1) = true) (h4 : compL vs tg cc e xs (wipeE ρ1 vs) = .ok (ys, ρ2)) : compF vs mi tg cc e ρ = .ok (ys, ρ2) := by
  unfold compF; rw [h1, Rs.ok_bind]; dsimp only; rw [if_pos ⟨h2, h3⟩]; exact h4
theorem e_cL0 {vs : List Nat} {tg : MT} {cc : MB} {e : MN} : compL vs tg cc e [] ρ = .ok ([], ρ) := rfl
/-- one turn, nothing asked -/
theorem e_cL {vs : List Nat} {tg : MT} {e : MN} (h0 : wipeE ρ vs = ρ) (h1 : tg x ρ = some ρ1) (h2 : e ρ1 = .ok (y, ρ2)) (h3 : vs.all (freeS ρ2) = true) {ρ4 : En} (h4 : wipeE ρ2 vs = ρ3) (h5 : compL vs tg yesB e xs ρ3 = .ok (ys, ρ4)) : compL vs tg yesB e (x :: xs) ρ = .ok (y :: ys, ρ4) := by
  unfold compL
  rw [h0, h1, Rs.opt_some, Rs.ok_bind, e_yesB]
  simp only [noX, Rs.ok_bind, if_true, h2, h3]
  rw [h4, h5]
  rfl
/-- a comprehension whose turns leave the slots as they were -/
theorem e_cLs {α : Type} {vs : List Nat} {tg : MT} {e : MN} {ρ : En} (F G : α → Val) (ρt : α → En) (hw : wipeE ρ vs = ρ) : ∀ xs : List α, (∀ x ∈ xs, tg (F x) ρ = some (ρt x) ∧ e (ρt x) = .ok (G x, ρt x) ∧ vs.all (freeS (ρt x)) = true ∧ wipeE (ρt x) vs = ρ) → compL vs tg yesB e (xs.map F) ρ = .ok (xs.map G, ρ)
  | [], _ => rfl
  | x :: xs, h => by
    obtain ⟨h1, h2, h4, h5⟩ := h x (.head _)
    exact e_cL hw h1 h2 h4 h5 (e_cLs F G ρt hw xs fun y hy => h y (.tail _ hy))
/-! statements -/
theorem e_seq (h1 : s ρ = .ok (.nx ρ1)) (h2 : t ρ1 = R) : seqS s t ρ = R := by unfold seqS; rw [h1]; exact h2
theorem e_seqR (h1 : s ρ = .ok (.rt x ρ1)) : seqS s t ρ = .ok (.rt x ρ1) := by unfold seqS; rw [h1]; rfl
theorem e_seqX {cl : Nat} {ns : List Str} (h1 : s ρ = .exc cl ns xs ρ1) : seqS s t ρ = .exc cl ns xs ρ1 := by unfold seqS; rw [h1]; rfl
theorem e_if (h1 : c ρ = .ok (k, ρ1)) (h2 : (if k = true then s ρ1 else t ρ1) = R) : ifS c s t ρ = R := by unfold ifS; rw [h1]; exact h2
theorem e_ifT (h1 : c ρ = .ok (k, ρ1)) (hk : k = true) (h2 : s ρ1 = R) : ifS c s t ρ = R := e_if h1 (by rw [if_pos hk]; exact h2)
theorem e_ifF (h1 : c ρ = .ok (k, ρ1)) (hk : k = false) (h2 : t ρ1 = R) : ifS c s t ρ = R := e_if h1 (by rw [if_neg (by rw [hk]; exact fun z => nomatch z)]; exact h2)
theorem e_next : nextS ρ = .ok (.nx ρ) := rfl
theorem e_asg (h1 : m ρ = .ok (x, ρ1)) (h2 : freeS ρ1 i = true) (h3 : ρ1.set i (some (.fz x)) = ρ2) : asgS i m ρ = .ok (.nx ρ2) := by
  subst h3; unfold asgS; rw [h1, Rs.ok_bind]; exact if_pos h2
theorem e_ret (h1 : m ρ = .ok (x, ρ1)) : retS m ρ = .ok (.rt x ρ1) := by unfold retS; rw [h1]; rfl
theorem e_retX {cl : Nat} {ns : List Str} (h1 : m ρ = .exc cl ns xs ρ1) : retS m ρ = .exc cl ns xs ρ1 := by unfold retS; rw [h1]; rfl
theorem e_drop (h1 : m ρ = .ok (x, ρ1)) : dropS m ρ = .ok (.nx ρ1) := by unfold dropS; rw [h1]; rfl
theorem e_dropX {cl : Nat} {ns : List Str} (h1 : m ρ = .exc cl ns xs ρ1) : dropS m ρ = .exc cl ns xs ρ1 := by unfold dropS; rw [h1]; rfl
theorem e_raise {cl : Nat} {ns : List Str} (h1 : al ρ = .ok (xs, ρ1)) (h2 : xs.length = ns.length) : raiseS cl ns al ρ = .exc cl ns xs ρ1 := by
  unfold raiseS; rw [h1, Rs.ok_bind]; exact if_pos h2
theorem e_new {mf : ML} (h1 : mf ρ = .ok (xs, ρ1)) (h2 : freeS ρ1 i = true) (h3 : ρ1.set i (some (.ow false xs)) = ρ2) : newS i mf ρ = .ok (.nx ρ2) := by
  subst h3; unfold newS; rw [h1, Rs.ok_bind]; exact if_pos h2
theorem e_newT {mn : MN} (h1 : mn ρ = .ok (x, ρ1)) (h2 : freeS ρ1 i = true) (ho : x.isO = true) (h3 : ρ1.set i (some (.ob false x)) = ρ2) : newT i mn ρ = .ok (.nx ρ2) := by
  subst h3; unfold newT; rw [h1, Rs.ok_bind]; exact if_pos ⟨h2, ho⟩
theorem e_par {i j : Nat} {u v : Val} (h1 : al ρ = .ok ([u, v], ρ1)) (h2 : freeS ρ1 i = true) (h4 : ρ1.set i (some (.fz u)) = ρ2) (h3 : freeS ρ2 j = true) (h5 : ρ2.set j (some (.fz v)) = ρ3) : parS i j al ρ = .ok (.nx ρ3) := by
  subst h4 h5; unfold parS; rw [h1, Rs.ok_bind]; exact if_pos ⟨h2, h3⟩
theorem e_parNS {i j : Nat} {u v : Val} {m1 : MN} {m2 : ME} {ρ4 : En} (h0 : m1 ρ = .ok (u, ρ1)) (h1 : m2 ρ1 = .ok (v, ρ2)) (h2 : freeS ρ2 i = true) (ho : u.isO = true) (h4 : ρ2.set i (some (.ob false u)) = ρ3) (h3 : freeS ρ3 j = true) (h5 : ρ3.set j (some (.fz v)) = ρ4) : parNS i j m1 m2 ρ = .ok (.nx ρ4) := by
  subst h4 h5; unfold parNS; rw [h0, Rs.ok_bind]; dsimp only; rw [h1]; dsimp only [noX]; rw [Rs.ok_bind]; exact if_pos ⟨⟨h2, ho⟩, h3⟩
theorem e_asgT {tg : MT} (h1 : m ρ = .ok (x, ρ1)) (h2 : tg x ρ1 = some ρ2) : asgT tg m ρ = .ok (.nx ρ2) := by
  unfold asgT; rw [h1, Rs.ok_bind]; dsimp only; rw [h2]; rfl
theorem t_name (h : freeS ρ i = true) (h2 : ρ.set i (some (.fz x)) = ρ1) : nameT i x ρ = some ρ1 := by subst h2; exact if_pos h
theorem t_tup2 {i j : MT} (h1 : i x ρ = some ρ1) (h2 : j y ρ1 = some ρ2) : tupT 2 (consT i (consT j nilT)) (.tup [x, y]) ρ = some ρ2 := by
  show (i x ρ).bind (consT j nilT [y]) = _
  rw [h1]
  show (j y ρ1).bind (nilT []) = _
  rw [h2]
  rfl
theorem t_tup3 {i j k : MT} {z : Val} (h1 : i x ρ = some ρ1) (h2 : j y ρ1 = some ρ2) (h3 : k z ρ2 = some ρ3) : tupT 3 (consT i (consT j (consT k nilT))) (.tup [x, y, z]) ρ = some ρ3 := by
  show (i x ρ).bind (consT j (consT k nilT) [y, z]) = _
  rw [h1]
  show (j y ρ1).bind (consT k nilT [z]) = _
  rw [h2]
  show (k z ρ2).bind (nilT []) = _
  rw [h3]
  rfl
theorem e_ixO {p : Bool} {us us' : List Val} {p' : Bool} {j : Int} (h0 : ρ[i]? = some (some (.ow p us))) (h1 : m ρ = .ok (.int j, ρ1)) (h2 : ρ1[i]? = some (some (.ow p' us'))) (h3 : atI us' j = some z) (h4 : z.isO = false) : ixO i m ρ = .ok (z, ρ1) := by
  unfold ixO; rw [h0]; dsimp only; rw [h1, Rs.ok_bind]; dsimp only; rw [h2]; dsimp only; rw [h3, Rs.opt_some, Rs.ok_bind]; exact if_pos h4
theorem e_setS {mk : ME} {p p' : Bool} {us us' : List Val} {j : Int} {n : Nat} (h1 : m ρ = .ok (x, ρ1)) (h2 : ρ1[i]? = some (some (.ow p us))) (h3 : mk ρ1 = .ok (.int j, ρ2)) (h4 : ρ2[i]? = some (some (.ow p' us'))) (h5 : ixN us'.length j = some n) (h6 : us'[n]? = some z) (h7 : z.isO = false) (h8 : ρ2.set i (some (.ow p' (us'.set n x))) = ρ3) : setS i mk m ρ = .ok (.nx ρ3) := by
  subst h8
  unfold setS; rw [h1, Rs.ok_bind]; dsimp only; rw [h2]; dsimp only; rw [h3, Rs.ok_bind]; dsimp only; rw [h4]; dsimp only; rw [h5]; dsimp only; rw [h6]; exact if_pos h7
theorem e_app {p p' : Bool} {us us' : List Val} (h0 : ρ[i]? = some (some (.ow p us))) (h1 : m ρ = .ok (x, ρ1)) (h2 : ρ1[i]? = some (some (.ow p' us'))) (h3 : us'.length < sizeLine) (h4 : ρ1.set i (some (.ow p' (us' ++ [x]))) = ρ2) : appS i m ρ = .ok (.nx ρ2) := by
  subst h4
  unfold appS; rw [h0]; dsimp only; rw [h1, Rs.ok_bind]; dsimp only; rw [h2]; exact if_pos h3
theorem e_melt (h0 : ρ[i]? = some (some (.ow false xs))) (h1 : melts xs = ys) (h2 : ρ.set i (some (.fz (.lst ys))) = ρ1) (h : s ρ1 = R) : meltS i s ρ = R := by
  subst h1 h2
  unfold meltS; rw [h0]; unfold Val.melt; exact h
/-! calls -/
theorem e_callM {np n : Nat} {body : MS} (h : al ρ = .ok (xs, ρ1)) (h2 : runV n body xs = .ok x) (hl : xs.length = np := by rfl) (hn : np ≤ n := by decide) : callM np n body al ρ = .ok (x, ρ1) := by
  rw [callM_eq h hl hn, h2]; rfl
theorem e_callX {np n cl : Nat} {ns : List Str} {body : MS} {ρ0 : En} (h : al ρ = .ok (xs, ρ1)) (h2 : runV n body xs = .exc cl ns ys ρ0) (hl : xs.length = np := by rfl) (hn : np ≤ n := by decide) : callM np n body al ρ = .exc cl ns ys ρ1 := by
  rw [callM_eq h hl hn, h2]; rfl
theorem e_callN {np n : Nat} {mn : MN} {ρ0 ρ2 : En} (h : al ρ = .ok (xs, ρ1)) (h0 : padE (xs.map fun x => some (.fz x)) n = ρ0) (h2 : mn ρ0 = .ok (x, ρ2)) (hl : xs.length = np := by rfl) (hn : np ≤ n := by decide) : callN np n mn al ρ = .ok (x, ρ1) := by
  subst h0
  unfold callN
  rw [h, Rs.ok_bind]
  dsimp only
  rw [if_pos ⟨hl, hn⟩, h2]
theorem e_hearX {cl : Nat} {f : Str} (h : m ρ = .exc cl [f] [x] ρ1) : hearM2 cl f m ρ = .ok (x, ρ1) := by
  unfold hearM2; rw [h]; exact if_pos ⟨rfl, rfl⟩
theorem e_hearN {cl : Nat} {f : Str} (h : m ρ = .ok (x, ρ1)) : hearM2 cl f m ρ = .ok (x, ρ1) := by unfold hearM2; rw [h]
theorem e_run {n : Nat} {body : MS} (h : body (padE (xs.map fun x => some (.fz x)) n) = .ok (.rt x ρ1)) : runV n body xs = .ok x := by
  unfold runV runF finM; rw [h]; rfl
theorem e_run' {n : Nat} {body : MS} (ρ0 : En) (h0 : padE (xs.map fun x => some (.fz x)) n = ρ0) (h : body ρ0 = .ok (.rt x ρ1)) : runV n body xs = .ok x := by subst h0; exact e_run h
theorem e_runN {n : Nat} {body : MS} (ρ0 : En) (h0 : padE (xs.map fun x => some (.fz x)) n = ρ0) (h : body ρ0 = .ok (.nx ρ1)) : runV n body xs = .ok .non := by
  subst h0; unfold runV runF finM; rw [h]; rfl
theorem e_runX {n cl : Nat} {ns : List Str} {body : MS} (ρ0 : En) (h0 : padE (xs.map fun x => some (.fz x)) n = ρ0) (h : body ρ0 = .exc cl ns ys ρ1) : runV n body xs = .exc cl ns ys [] := by
  subst h0; unfold runV runF finM; rw [h]; rfl
theorem e_runO {n : Nat} {body : MS} {s0 s1 : SV} (ρ0 : En) {ρ1 : En} (h0 : padE (some (s0.setPin true) :: xs.map fun x => some (.fz x)) n = ρ0) (h : body ρ0 = .ok (.rt x ρ1)) (h2 : ρ1[0]? = some (some s1)) (h3 : s1.flat = true) : runO n body s0 xs = .ok (x, s1.setPin s0.pin) := by
  subst h0
  unfold runO finM; rw [h, Rs.ok_bind]; dsimp only; rw [h2]; exact if_pos h3
theorem e_callO {np n : Nat} {body : MS} {s0 s1 s2 : SV} (h0 : ρ[i]? = some (some s0)) (o0 : s0.own = true) (h1 : al ρ = .ok (xs, ρ1)) (h2 : ρ1[i]? = some (some s1)) (o1 : s1.own = true) (hr : runO n body s1 xs = .ok (x, s2)) (h3 : ρ1.set i (some s2) = ρ2) (hl : xs.length + 1 = np := by rfl) (hn : np ≤ n := by decide) : callO i np n body al ρ = .ok (x, ρ2) := by
  subst h3
  unfold callO; rw [h0]; dsimp only; rw [if_pos o0, h1, Rs.ok_bind]; dsimp only; rw [h2]; dsimp only; rw [if_pos ⟨o1, hl, hn⟩, hr]
theorem e_forS {mi : MI} {tg : MT} (h1 : mi ρ = .ok (xs, ρ1)) (h2 : forL tg s xs ρ1 = R) : forS mi tg s ρ = R := by unfold forS; rw [h1]; exact h2
theorem e_forL_nil {tg : MT} : forL tg s [] ρ = .ok (.nx ρ) := rfl
theorem e_forL {tg : MT} (h1 : tg x ρ = some ρ1) (h2 : s ρ1 = .ok (.nx ρ2)) (h3 : forL tg s xs ρ2 = R) : forL tg s (x :: xs) ρ = R := by
  unfold forL; rw [h1, Rs.opt_some, Rs.ok_bind, h2]; exact h3
end
/-- a loop with an invariant -/
theorem e_loop {α : Type} {tg : MT} {s : MS} (F : α → Val) (I : Nat → En → Prop) : ∀ (as : List α) (n : Nat) (ρ : En), I n ρ → (∀ j a ρ, as[j]? = some a → I (n + j) ρ → ∃ ρ1 ρ2, tg (F a) ρ = some ρ1 ∧ s ρ1 = .ok (.nx ρ2) ∧ I (n + j + 1) ρ2) → ∃ ρ', forL tg s (as.map F) ρ = .ok (.nx ρ') ∧ I (n + as.length) ρ'
  | [], n, ρ, h0, _ => ⟨ρ, rfl, h0⟩
  | a :: as, n, ρ, h0, h => by
    obtain ⟨ρ1, ρ2, h1, h2, h3⟩ := h 0 a ρ rfl h0
    obtain ⟨ρ', k1, k2⟩ := e_loop F I as (n + 1) ρ2 h3 fun j b ρ hb hi => by
      have := h (j + 1) b ρ (by simpa using hb) (by rw [show n + (j + 1) = n + 1 + j by omega]; exact hi)
      rw [show n + 1 + j = n + (j + 1) by omega]; exact this
    refine ⟨ρ', e_forL h1 h2 k1, ?_⟩
    rw [show n + (a :: as).length = n + 1 + as.length by simp; omega]
    exact k2
/-- .. over a range -/
theorem e_loopR {tg : MT} {s : MS} (I : Int → En → Prop) : ∀ (n : Nat) (lo : Int) (ρ : En), I lo ρ → (∀ i ρ, lo ≤ i → i < lo + n → I i ρ → ∃ ρ1 ρ2, tg (.int i) ρ = some ρ1 ∧ s ρ1 = .ok (.nx ρ2) ∧ I (i + 1) ρ2) → ∃ ρ', forL tg s (iota lo n) ρ = .ok (.nx ρ') ∧ I (lo + n) ρ'
  | 0, lo, ρ, h0, _ => ⟨ρ, rfl, by rw [show lo + ((0 : Nat) : Int) = lo by omega]; exact h0⟩
  | n + 1, lo, ρ, h0, h => by
    obtain ⟨ρ1, ρ2, h1, h2, h3⟩ := h lo ρ (by omega) (by omega) h0
    obtain ⟨ρ', k1, k2⟩ := e_loopR I n (lo + 1) ρ2 h3 fun i ρ a b hi => h i ρ (by omega) (by omega) hi
    exact ⟨ρ', e_forL h1 h2 k1, by rw [show lo + ((n + 1 : Nat) : Int) = lo + 1 + n by omega]; exact k2⟩
theorem e_forL_rt {tg : MT} {s : MS} {x y : Val} {xs : List Val} {ρ ρ1 ρ2 : En} (h1 : tg x ρ = some ρ1) (h2 : s ρ1 = .ok (.rt y ρ2)) : forL tg s (x :: xs) ρ = .ok (.rt y ρ2) := by
  unfold forL; rw [h1, Rs.opt_some, Rs.ok_bind, h2]; rfl
/-- .. that may end with an answer -/
theorem e_loopE {tg : MT} {s : MS} (I : Int → En → Prop) (J : Val → Prop) : ∀ (n : Nat) (lo : Int) (ρ : En), I lo ρ → (∀ i ρ, lo ≤ i → i < lo + n → I i ρ → ∃ ρ1, tg (.int i) ρ = some ρ1 ∧ ((∃ ρ2, s ρ1 = .ok (.nx ρ2) ∧ I (i + 1) ρ2) ∨ ∃ x ρ2, s ρ1 = .ok (.rt x ρ2) ∧ J x)) →
    (∃ ρ', forL tg s (iota lo n) ρ = .ok (.nx ρ') ∧ I (lo + n) ρ') ∨ ∃ x ρ', forL tg s (iota lo n) ρ = .ok (.rt x ρ') ∧ J x
  | 0, lo, ρ, h0, _ => .inl ⟨ρ, rfl, by rw [show lo + ((0 : Nat) : Int) = lo by omega]; exact h0⟩
  | n + 1, lo, ρ, h0, h => by
    obtain ⟨ρ1, h1, ⟨ρ2, h2, h3⟩ | ⟨x, ρ2, h2, h3⟩⟩ := h lo ρ (by omega) (by omega) h0
    · rcases e_loopE I J n (lo + 1) ρ2 h3 fun i ρ a b hi => h i ρ (by omega) (by omega) hi with ⟨ρ', k1, k2⟩ | ⟨x, ρ', k1, k2⟩
      · exact .inl ⟨ρ', e_forL h1 h2 k1, by rw [show lo + ((n + 1 : Nat) : Int) = lo + 1 + n by omega]; exact k2⟩
      · exact .inr ⟨x, ρ', e_forL h1 h2 k1, k2⟩
    · exact .inr ⟨x, ρ2, e_forL_rt h1 h2, h3⟩
/-- a slot that may be set -/
def Fr (u : Option SV) : Prop := match u with | some s => s.pin = false | none => True
theorem Fr.fz {x : Val} : Fr (some (.fz x)) := rfl
theorem Fr.none : Fr none := trivial
theorem fs0 {u : Option SV} {r : En} (h : Fr u) : freeS (u :: r) 0 = true := by
  cases u with
  | none => rfl
  | some s => show (!s.pin) = true; rw [show s.pin = false from h]; rfl
theorem fsS {u : Option SV} {r : En} {i : Nat} (h : freeS r i = true) : freeS (u :: r) (i + 1) = true := by
  unfold freeS at h ⊢; simpa using h
theorem e_as {α : Type} {r : Rs α} {v w : α} (h : r = .ok v) (e : v = w) : r = .ok w := by rw [h, e]
/-! values -/
def Bd (k : Nat) (x : Int) : Prop := x.natAbs < 2 ^ k
theorem Bd.mono {k l : Nat} {x : Int} (h : Bd k x) (e : k ≤ l) : Bd l x := Nat.lt_of_lt_of_le h (Nat.pow_le_pow_right (by decide) e)
theorem Bd.sm {k : Nat} {x : Int} (h : x.natAbs < 2 ^ 60) (e : 60 ≤ k) : Bd k x := Nat.lt_of_lt_of_le h (Nat.pow_le_pow_right (by decide) e)
theorem Bd.add {k : Nat} {x y : Int} (h : Bd k x) (g : Bd k y) : Bd (k + 1) (x + y) := by unfold Bd at *; rw [Nat.pow_succ]; omega
theorem Bd.sub {k : Nat} {x y : Int} (h : Bd k x) (g : Bd k y) : Bd (k + 1) (x - y) := by unfold Bd at *; rw [Nat.pow_succ]; omega
theorem Bd.neg {k : Nat} {x : Int} (h : Bd k x) : Bd k (-x) := by unfold Bd at *; omega
theorem Bd.mul {k l : Nat} {x y : Int} (h : Bd k x) (g : Bd l y) : Bd (k + l) (x * y) := by
  unfold Bd at *; rw [Int.natAbs_mul, Nat.pow_add]; exact Nat.mul_lt_mul'' h g
theorem Bd.log {k : Nat} {x : Int} (h : Bd k x) (k0 : 0 < k) : x.natAbs.log2 < k := PySem.Flt.log2_lt_of k0 h
theorem mulV_bd {i j : Int} (hi : Bd 8000 i) (hj : Bd 8000 j) : mulV (.int i) (.int j) = some (.int (i * j)) := by
  have h1 := hi.log (by decide)
  have h2 := hj.log (by decide)
  exact if_pos (by omega)
theorem mulV_big {i j : Int} (hi : Bd 60 i) (hj : j.natAbs.log2 < 100000000) : mulV (.int i) (.int j) = some (.int (i * j)) := by
  have h1 := hi.log (by decide)
  exact if_pos (by omega)
theorem divV_pos {i j : Int} (h : 0 < j) (hj : Bd 60 j) : divV (.int i) (.int j) = some (.int (i / j)) := if_pos ⟨h, by have := hj.log (by decide); omega⟩
theorem modV_pos {i j : Int} (h : 0 < j) : modV (.int i) (.int j) = some (.int (i % j)) := if_pos h
theorem powV_nat {i j : Int} (h0 : 0 ≤ j) (h1 : j ≤ 1000000) (h : i.natAbs < 2 ^ 64) : powV (.int i) (.int j) = some (.int (i ^ j.toNat)) := if_pos ⟨h0, h1, h⟩
theorem shp_int (i : Int) : SeqAt.shaped (.int i) = true := by simp [SeqAt.shaped, PyData.canLay0, PyData.depth]
theorem eqV_int (i j : Int) : eqV (.int i) (.int j) = some (.bl (decide (i = j))) := by
  unfold eqV
  simp only [dat]
  rw [if_pos ⟨shp_int i, shp_int j⟩]
  simp only [PyData.eqv]
  by_cases h : i = j <;> simp [h]
theorem neV_int (i j : Int) : neV (.int i) (.int j) = some (.bl (!decide (i = j))) := by
  unfold neV
  simp only [dat]
  rw [if_pos ⟨shp_int i, shp_int j⟩]
  simp only [PyData.eqv]
  by_cases h : i = j <;> simp [h]
theorem dats_ints : ∀ cs : List Int, dats (cs.map .int) = some (cs.map .int)
  | [] => by simp only [List.map_nil, dats]
  | c :: cs => by simp only [List.map_cons, dats, dat, dats_ints cs]
theorem lay_ints : ∀ cs : List Int, PyData.canLayAll0 (cs.map .int) = true
  | [] => by simp [PyData.canLayAll0]
  | c :: cs => by simp only [List.map_cons, PyData.canLayAll0, PyData.canLay0, Bool.true_and]; exact lay_ints cs
theorem dep_ints : ∀ cs : List Int, PyData.depthAll (cs.map .int) = 0
  | [] => by simp [PyData.depthAll]
  | c :: cs => by simp only [List.map_cons, PyData.depthAll, PyData.depth, dep_ints cs]; rfl
theorem shp_lst (cs : List Int) : SeqAt.shaped (.list (cs.map .int)) = true := by
  unfold SeqAt.shaped
  simp only [PyData.canLay0, PyData.depth, lay_ints, dep_ints]
  rfl
theorem shp_tup (cs : List Int) : SeqAt.shaped (.tuple (cs.map .int)) = true := by
  unfold SeqAt.shaped
  simp only [PyData.canLay0, PyData.depth, lay_ints, dep_ints]
  rfl
theorem eqv_ints : ∀ cs ds : List Int, PyData.eqvAll (cs.map .int) (ds.map .int) = decide (cs = ds)
  | [], [] => by simp [PyData.eqvAll]
  | [], d :: ds => by simp [PyData.eqvAll]
  | c :: cs, [] => by simp [PyData.eqvAll]
  | c :: cs, d :: ds => by
    simp only [List.map_cons, PyData.eqvAll, PyData.eqv, eqv_ints cs ds]
    by_cases h : c = d <;> by_cases k : cs = ds <;> simp [h, k]
theorem eqV_lst (cs ds : List Int) : eqV (.lst (cs.map .int)) (.lst (ds.map .int)) = some (.bl (decide (cs = ds))) := by
  simp only [eqV, dat, dats_ints, Option.map_some]
  rw [if_pos ⟨shp_lst cs, shp_lst ds⟩]
  simp only [PyData.eqv, eqv_ints]
theorem neV_lst (cs ds : List Int) : neV (.lst (cs.map .int)) (.lst (ds.map .int)) = some (.bl (!decide (cs = ds))) := by
  simp only [neV, dat, dats_ints, Option.map_some]
  rw [if_pos ⟨shp_lst cs, shp_lst ds⟩]
  simp only [PyData.eqv, eqv_ints]
theorem eqV_tup (cs ds : List Int) : eqV (.tup (cs.map .int)) (.tup (ds.map .int)) = some (.bl (decide (cs = ds))) := by
  simp only [eqV, dat, dats_ints, Option.map_some]
  rw [if_pos ⟨shp_tup cs, shp_tup ds⟩]
  simp only [PyData.eqv, eqv_ints]
theorem neV_tup (cs ds : List Int) : neV (.tup (cs.map .int)) (.tup (ds.map .int)) = some (.bl (!decide (cs = ds))) := by
  simp only [neV, dat, dats_ints, Option.map_some]
  rw [if_pos ⟨shp_tup cs, shp_tup ds⟩]
  simp only [PyData.eqv, eqv_ints]
theorem intsOf_map : ∀ ns : List Int, intsOf (ns.map .int) = some ns
  | [] => rfl
  | n :: ns => by show (intsOf (ns.map .int)).map (n :: ·) = _; rw [intsOf_map ns]; rfl
theorem sumV_ints (ns : List Int) : sumV (.lst (ns.map .int)) = some (.int ns.sum) := by
  show (intsOf (ns.map .int)).map (fun ns => Val.int ns.sum) = _; rw [intsOf_map]; rfl
theorem lenV_ints (ns : List Int) : lenV (.lst (ns.map .int)) = some (.int ns.length) := by
  show some (Val.int ((ns.map Val.int).length : Int)) = _; rw [List.length_map]
theorem lenV_tints (ns : List Int) : lenV (.tup (ns.map .int)) = some (.int ns.length) := by
  show some (Val.int ((ns.map Val.int).length : Int)) = _; rw [List.length_map]
theorem absVl_int (i : Int) : absVl (.int i) = some (.int (if i < 0 then -i else i)) := rfl
theorem e_runE {n : Nat} {body : MS} {xs : List Val} {x v : Val} {ρ1 : En} (ρ0 : En) (h0 : padE (xs.map fun x => some (.fz x)) n = ρ0) (h : body ρ0 = .ok (.rt v ρ1)) (e : v = x) : runV n body xs = .ok x := by subst h0 e; exact e_run h
theorem e_runOE {n : Nat} {body : MS} {xs : List Val} {x v : Val} {s0 s1 s2 : SV} (ρ0 : En) {ρ1 : En} (h0 : padE (some (s0.setPin true) :: xs.map fun x => some (.fz x)) n = ρ0) (h : body ρ0 = .ok (.rt v ρ1)) (hv : v = x) (h2 : ρ1[0]? = some (some s1)) (h3 : s1.flat = true) (h4 : s1.setPin s0.pin = s2) : runO n body s0 xs = .ok (x, s2) := by
  subst hv h4; exact e_runO ρ0 h0 h h2 h3
theorem bd_lit {k : Nat} {i : Int} (h : i.natAbs < 2 ^ 60) (e : 60 ≤ k) : Bd k i := .sm h e
theorem bd_mod {k : Nat} {z m : Int} (h0 : 0 < m) (h : m < 2 ^ 60) (e : 60 ≤ k) : Bd k (z % m) := .sm (by
  have := Int.emod_nonneg z (show m ≠ 0 by omega)
  have := Int.emod_lt_of_pos z h0
  omega) e
/-! step by step -/
theorem f1_of {g : Val → Option Val} {x z : Val} (h : g x = some z) : f1 g [x] = some z := h
theorem f2_of {g : Val → Val → Option Val} {x y z : Val} (h : g x y = some z) : f2 g [x, y] = some z := h
theorem ite_T {α : Type} {k : Bool} {A B R : α} (hk : k = true) (h : A = R) : (if k = true then A else B) = R := by rw [if_pos hk]; exact h
theorem ite_F {α : Type} {k : Bool} {A B R : α} (hk : k = false) (h : B = R) : (if k = true then A else B) = R := by rw [if_neg (by rw [hk]; exact fun z => nomatch z)]; exact h
theorem pr_ints (as bs : List Int) : zipV (as.map .int) (bs.map .int) = (as.zip bs).map fun p => pairV (.int p.1) (.int p.2) := by
  unfold zipV
  rw [List.zipWith_map, List.zip_eq_zipWith, List.map_zipWith]
theorem wp0 {ρ : En} : wipeE ρ [] = ρ := rfl
theorem wpS {ρ ρ1 ρ2 : En} {i : Nat} {is : List Nat} (h : wipeE ρ is = ρ1) (k : ρ1.set i none = ρ2) : wipeE ρ (i :: is) = ρ2 := by subst h; exact k
theorem e_or {ρ ρ1 : En} {c d : MB} {k : Bool} {R : Rs (Bool × En)} (h1 : c ρ = .ok (k, ρ1)) (h2 : (if k = true then .ok (true, ρ1) else d ρ1) = R) : orB c d ρ = R := by unfold orB; rw [h1]; exact h2
theorem e_and {ρ ρ1 : En} {c d : MB} {k : Bool} {R : Rs (Bool × En)} (h1 : c ρ = .ok (k, ρ1)) (h2 : (if k = true then d ρ1 else .ok (false, ρ1)) = R) : andB c d ρ = R := by unfold andB; rw [h1]; exact h2
theorem e_orV {ρ ρ1 : En} {a b : ME} {k : Bool} {R : Rs (Val × En)} (h1 : a ρ = .ok (.bl k, ρ1)) (h2 : (if k = true then .ok (.bl true, ρ1) else b ρ1) = R) : orM a b ρ = R := by unfold orM; rw [h1]; exact h2
theorem e_andV {ρ ρ1 : En} {a b : ME} {k : Bool} {R : Rs (Val × En)} (h1 : a ρ = .ok (.bl k, ρ1)) (h2 : (if k = true then b ρ1 else .ok (.bl false, ρ1)) = R) : andM a b ρ = R := by unfold andM; rw [h1]; exact h2
theorem e_ife {ρ ρ1 : En} {c : MB} {a b : ME} {k : Bool} {R : Rs (Val × En)} (h1 : c ρ = .ok (k, ρ1)) (h2 : (if k = true then a ρ1 else b ρ1) = R) : ifM c a b ρ = R := by unfold ifM; rw [h1]; exact h2
end Y

set_option autoImplicit false
/-! the numbers of closed walks of a polynomial -/
namespace Y
/-! ### products of sequences -/
def conv (f g : Nat → Int) : Nat → Int
  | 0 => f 0 * g 0
  | n + 1 => f 0 * g (n + 1) + conv (fun i => f (i + 1)) g n
theorem conv_add_left (f f' g : Nat → Int) : ∀ n, conv (fun i => f i + f' i) g n = conv f g n + conv f' g n := by
  intro n
  induction n generalizing f f' with
  | zero => simp only [conv]; grind
  | succ n ih => simp only [conv]; rw [ih (fun i => f (i + 1)) (fun i => f' (i + 1))]; grind
theorem conv_smul_left (c : Int) (f g : Nat → Int) : ∀ n, conv (fun i => c * f i) g n = c * conv f g n := by
  intro n
  induction n generalizing f with
  | zero => simp only [conv]; grind
  | succ n ih => simp only [conv]; rw [ih (fun i => f (i + 1))]; grind
theorem conv_add_right (f g g' : Nat → Int) : ∀ n, conv f (fun i => g i + g' i) n = conv f g n + conv f g' n := by
  intro n
  induction n generalizing f with
  | zero => simp only [conv]; grind
  | succ n ih => simp only [conv]; rw [ih]; grind
theorem conv_congr {f f' g g' : Nat → Int} : ∀ n, (∀ i, i ≤ n → f i = f' i) → (∀ i, i ≤ n → g i = g' i) → conv f g n = conv f' g' n := by
  intro n
  induction n generalizing f f' with
  | zero => intro h k; simp only [conv]; rw [h 0 (Nat.le_refl _), k 0 (Nat.le_refl _)]
  | succ n ih =>
    intro h k
    simp only [conv]
    rw [h 0 (Nat.zero_le _), k (n + 1) (Nat.le_refl _), ih (fun i hi => h (i + 1) (by omega)) fun i hi => k i (by omega)]
theorem conv_assoc (f g h : Nat → Int) : ∀ n, conv (conv f g) h n = conv f (conv g h) n := by
  intro n
  induction n generalizing f with
  | zero => simp only [conv]; grind
  | succ n ih =>
    have e : (fun i => conv f g (i + 1)) = fun i => (f 0 * g (i + 1)) + conv (fun j => f (j + 1)) g i := by funext i; simp only [conv]
    show conv f g 0 * h (n + 1) + conv (fun i => conv f g (i + 1)) h n = f 0 * conv g h (n + 1) + conv (fun i => f (i + 1)) (conv g h) n
    rw [e, conv_add_left (fun i => f 0 * g (i + 1)) (fun i => conv (fun j => f (j + 1)) g i), conv_smul_left (f 0) (fun i => g (i + 1))]
    have := ih (fun i => f (i + 1))
    simp only [conv] at this ⊢
    have e2 : conv (fun i => conv (fun j => f (j + 1)) g i) h n = conv (fun i => f (i + 1)) (fun i => conv g h i) n := this
    have e3 : conv (fun i => f (i + 1)) (conv g h) n = conv (fun i => f (i + 1)) (fun i => conv g h i) n := rfl
    rw [e2, e3]
    grind
theorem conv_step (f g : Nat → Int) : ∀ n, conv f g (n + 1) = conv f (fun i => g (i + 1)) n + f (n + 1) * g 0 := by
  intro n
  induction n generalizing f with
  | zero => simp only [conv]
  | succ n ih =>
    have := ih (fun i => f (i + 1))
    show f 0 * g (n + 1 + 1) + conv (fun i => f (i + 1)) g (n + 1) = f 0 * g (n + 1 + 1) + conv (fun i => f (i + 1)) (fun i => g (i + 1)) n + f (n + 1 + 1) * g 0
    rw [this]; grind
theorem conv_comm (f g : Nat → Int) : ∀ n, conv f g n = conv g f n := by
  intro n
  induction n generalizing f g with
  | zero => simp only [conv]; grind
  | succ n ih =>
    rw [conv_step g f, ← ih]
    simp only [conv]; grind
/-- the sequence times its places -/
def th (f : Nat → Int) : Nat → Int := fun i => (i : Int) * f i
theorem th_conv (f g : Nat → Int) : ∀ n, conv (th f) g n + conv f (th g) n = (n : Int) * conv f g n := by
  intro n
  induction n generalizing f with
  | zero => simp only [conv, th]; grind
  | succ n ih =>
    have e : (fun i => th f (i + 1)) = fun i => th (fun j => f (j + 1)) i + (fun j => f (j + 1)) i := by
      funext i; simp only [th]; push_cast; grind
    have e1 : conv (th f) g (n + 1) = conv (th fun j => f (j + 1)) g n + conv (fun j => f (j + 1)) g n := by
      show th f 0 * g (n + 1) + conv (fun i => th f (i + 1)) g n = _
      rw [e, conv_add_left]
      simp only [th]; grind
    have e2 : conv f (th g) (n + 1) = f 0 * (((n + 1 : Nat) : Int) * g (n + 1)) + conv (fun i => f (i + 1)) (th g) n := rfl
    have := ih (fun j => f (j + 1))
    rw [e1, e2]
    simp only [conv]
    push_cast
    grind
/-- S: what F's numbers of closed walks are, from the length 1 on -/
def Tr (F S : Nat → Int) (N : Nat) : Prop := ∀ n, n < N → conv F S n = -(((n + 1 : Nat) : Int) * F (n + 1))
theorem conv_last (F S S' : Nat → Int) : ∀ n, (∀ m, m < n → S m = S' m) → conv F S n - F 0 * S n = conv F S' n - F 0 * S' n := by
  intro n h
  cases n with
  | zero => simp only [conv]; grind
  | succ n =>
    simp only [conv]
    rw [conv_congr (g' := S') n (fun _ _ => rfl) fun i hi => h i (by omega)]
    grind
theorem Tr.uniq {F S S' : Nat → Int} {N : Nat} (h0 : F 0 = 1) (h : Tr F S N) (h' : Tr F S' N) : ∀ n, n < N → S n = S' n := by
  intro n
  induction n using Nat.strongRecOn with
  | ind n ih =>
    intro hn
    have e := conv_last F S S' n fun m hm => ih m hm (by omega)
    rw [h n hn, h' n hn, h0] at e
    grind
theorem Tr.conv {F G S T : Nat → Int} {N : Nat} (h : Tr F S N) (k : Tr G T N) : Tr (conv F G) (fun i => S i + T i) N := by
  intro n hn
  rw [conv_add_right]
  -- (FG)S = G(FS), (FG)T = F(GT)
  have e1 : Y.conv (Y.conv F G) S n = Y.conv G (Y.conv F S) n := by
    rw [show Y.conv F G = Y.conv G F from funext (conv_comm F G), conv_assoc]
  have e2 : Y.conv (Y.conv F G) T n = Y.conv F (Y.conv G T) n := conv_assoc F G T n
  have e3 : Y.conv G (Y.conv F S) n = Y.conv G (fun i => -(((i + 1 : Nat) : Int) * F (i + 1))) n := conv_congr n (fun _ _ => rfl) fun i hi => h i (by omega)
  have e4 : Y.conv F (Y.conv G T) n = Y.conv F (fun i => -(((i + 1 : Nat) : Int) * G (i + 1))) n := conv_congr n (fun _ _ => rfl) fun i hi => k i (by omega)
  have t := th_conv F G (n + 1)
  -- the shifted products
  have s1 : Y.conv (th F) G (n + 1) = Y.conv G (fun i => ((i + 1 : Nat) : Int) * F (i + 1)) n := by
    rw [conv_comm, conv_step]
    simp only [th]
    grind
  have s2 : Y.conv F (th G) (n + 1) = Y.conv F (fun i => ((i + 1 : Nat) : Int) * G (i + 1)) n := by
    rw [conv_step]
    simp only [th]
    grind
  have n1 : ∀ (A B : Nat → Int), Y.conv A (fun i => -(B i)) n = -(Y.conv A B n) := by
    intro A B
    have := conv_smul_left (-1) B A n
    rw [conv_comm A, conv_comm A B, show (fun i => -(B i)) = fun i => -1 * B i from by funext i; grind, this]
    grind
  rw [e1, e2, e3, e4, n1 G (fun i => ((i + 1 : Nat) : Int) * F (i + 1)), n1 F (fun i => ((i + 1 : Nat) : Int) * G (i + 1)), ← s1, ← s2]
  grind
end Y

set_option autoImplicit false
namespace Y
def gd (xs : List Int) : Nat → Int := fun i => xs.getD i 0
theorem gd_lt {xs : List Int} {i : Nat} (h : i < xs.length) : gd xs i = xs[i] := by unfold gd; simp [List.getD, h]
theorem gd_ge {xs : List Int} {i : Nat} (h : xs.length ≤ i) : gd xs i = 0 := by unfold gd; simp [List.getD, h]
theorem gd_get {xs : List Int} {i : Nat} (h : i < xs.length) : xs[i]? = some (gd xs i) := by rw [gd_lt h]; simp [h]
theorem ext_gd {xs ys : List Int} (h : xs.length = ys.length) (k : ∀ i, i < xs.length → gd xs i = gd ys i) : xs = ys := by
  apply List.ext_getElem h
  intro i h1 h2
  have := k i h1
  rw [gd_lt h1, gd_lt h2] at this
  exact this
theorem gd_app1 {xs ys : List Int} {i : Nat} (h : i < xs.length) : gd (xs ++ ys) i = gd xs i := by unfold gd; simp [List.getD, List.getElem?_append_left h]
theorem gd_app2 {xs ys : List Int} {i : Nat} : gd (xs ++ ys) (xs.length + i) = gd ys i := by unfold gd List.getD; rw [List.getElem?_append_right (Nat.le_add_right _ _), Nat.add_sub_cancel_left]
theorem gd_last {xs : List Int} {x : Int} : gd (xs ++ [x]) xs.length = x := by
  have := gd_app2 (xs := xs) (ys := [x]) (i := 0)
  rw [Nat.add_zero] at this
  rw [this]; rfl
theorem gd_cons {x : Int} {xs : List Int} : (fun i => gd (x :: xs) (i + 1)) = gd xs := by funext i; unfold gd; simp [List.getD]
theorem gd_drop {xs : List Int} {n i : Nat} : gd (xs.drop n) i = gd xs (n + i) := by unfold gd; simp [List.getD]
theorem gd_drop1 {xs : List Int} {i : Nat} : gd (xs.drop 1) i = gd xs (i + 1) := by rw [gd_drop, Nat.add_comm]
theorem gd_take {xs : List Int} {n i : Nat} (h : i < n) : gd (xs.take n) i = gd xs i := by unfold gd; simp [List.getD, List.getElem?_take, h]
theorem gd_rev {xs : List Int} {i : Nat} (h : i < xs.length) : gd xs.reverse i = gd xs (xs.length - 1 - i) := by
  rw [gd_lt (by simpa using h), gd_lt (by omega), List.getElem_reverse]
theorem gd_map {n i : Nat} {f : Nat → Int} (h : i < n) : gd ((List.range n).map f) i = f i := by
  rw [gd_lt (by simpa using h)]; simp
/-! ### a finite sum -/
def sm : Nat → (Nat → Int) → Int
  | 0, _ => 0
  | n + 1, f => sm n f + f n
theorem sm_congr {f g : Nat → Int} : ∀ n, (∀ i, i < n → f i = g i) → sm n f = sm n g := by
  intro n
  induction n with
  | zero => intro _; rfl
  | succ n ih => intro h; simp only [sm]; rw [ih fun i hi => h i (by omega), h n (by omega)]
theorem sm_zero {f : Nat → Int} : ∀ n, (∀ i, i < n → f i = 0) → sm n f = 0 := by
  intro n
  induction n with
  | zero => intro _; rfl
  | succ n ih => intro h; simp only [sm]; rw [ih fun i hi => h i (by omega), h n (by omega)]; rfl
theorem sm_head (f : Nat → Int) : ∀ n, sm (n + 1) f = f 0 + sm n (fun i => f (i + 1)) := by
  intro n
  induction n with
  | zero => simp only [sm]; omega
  | succ n ih => rw [sm, ih]; simp only [sm]; omega
theorem sm_rev (f : Nat → Int) : ∀ n, sm n (fun i => f (n - 1 - i)) = sm n f := by
  intro n
  induction n with
  | zero => rfl
  | succ n ih =>
    rw [sm_head]
    have : sm n (fun i => f (n + 1 - 1 - (i + 1))) = sm n (fun i => f (n - 1 - i)) := sm_congr n fun i _ => by congr 1; omega
    rw [this, ih]
    simp only [sm]
    have : n + 1 - 1 - 0 = n := by omega
    rw [this]; omega
theorem sm_pick (B : Nat → Int) (c : Int) (k : Nat) : ∀ q, sm q (fun j => if j = k then c * B j else 0) = if k < q then c * B k else 0 := by
  intro q
  induction q with
  | zero => simp [sm]
  | succ q ih =>
    simp only [sm]
    rw [ih]
    by_cases h : q = k
    · subst h; simp
    · by_cases h2 : k < q
      · rw [if_pos h2, if_neg h, if_pos (by omega)]; omega
      · rw [if_neg h2, if_neg h, if_neg (by omega)]; rfl
def dd (A B : Nat → Int) (p q k : Nat) : Int := sm p fun i => sm q fun j => if i + j = k then A i * B j else 0
theorem conv_zero {A B : Nat → Int} (h : ∀ i, A i = 0) : ∀ n, conv A B n = 0 := by
  intro n
  induction n generalizing A with
  | zero => simp only [conv]; rw [h]; grind
  | succ n ih => simp only [conv]; rw [h, ih fun i => h (i + 1)]; grind
theorem conv_dd {B : Nat → Int} {q : Nat} (hB : ∀ j, q ≤ j → B j = 0) : ∀ (p : Nat) (A : Nat → Int), (∀ i, p ≤ i → A i = 0) → ∀ k, conv A B k = dd A B p q k := by
  intro p
  induction p with
  | zero => intro A hA k; rw [conv_zero fun i => hA i (Nat.zero_le _)]; rfl
  | succ p ih =>
    intro A hA k
    have first : sm q (fun j => if 0 + j = k then A 0 * B j else 0) = A 0 * B k := by
      have e : (fun j => if 0 + j = k then A 0 * B j else 0) = fun j => if j = k then A 0 * B j else 0 := by funext j; rw [Nat.zero_add]
      rw [e, sm_pick]
      by_cases h : k < q
      · rw [if_pos h]
      · rw [if_neg h, hB k (by omega)]; grind
    unfold dd
    rw [sm_head, first]
    cases k with
    | zero =>
      have : sm p (fun i => sm q fun j => if i + 1 + j = 0 then A (i + 1) * B j else 0) = 0 := sm_zero _ fun i _ => sm_zero _ fun j _ => if_neg (by omega)
      rw [this]; simp only [conv]; omega
    | succ k =>
      have := ih (fun i => A (i + 1)) (fun i hi => hA (i + 1) (by omega)) k
      simp only [conv]
      rw [this]
      unfold dd
      congr 1
      refine sm_congr _ fun i _ => sm_congr _ fun j _ => ?_
      by_cases h : i + j = k
      · rw [if_pos h, if_pos (by omega)]
      · rw [if_neg h, if_neg (by omega)]
theorem conv_vanish {A B : Nat → Int} {p q : Nat} (hA : ∀ i, p ≤ i → A i = 0) (hB : ∀ j, q ≤ j → B j = 0) {k : Nat} (h : p + q ≤ k + 1) : conv A B k = 0 := by
  rw [conv_dd hB p A hA]
  exact sm_zero _ fun i hi => sm_zero _ fun j hj => if_neg (by omega)
/-! ### the product of two polynomials -/
def tm (a b : List Int) : List Int := (List.range (a.length + b.length - 1)).map (conv (gd a) (gd b))
theorem tm_length (a b : List Int) : (tm a b).length = a.length + b.length - 1 := by unfold tm; simp
theorem gd_tm {a b : List Int} : gd (tm a b) = conv (gd a) (gd b) := by
  funext k
  by_cases h : k < a.length + b.length - 1
  · unfold tm; rw [gd_map h]
  · rw [gd_ge (by rw [tm_length]; omega), conv_vanish (p := a.length) (q := b.length) (fun i hi => gd_ge hi) (fun i hi => gd_ge hi) (by omega)]
theorem tm_rev {a b : List Int} (ha : a ≠ []) (hb : b ≠ []) : (tm a b).reverse = tm a.reverse b.reverse := by
  have la := List.length_pos_iff.mpr ha
  have lb := List.length_pos_iff.mpr hb
  refine ext_gd (by simp [tm_length]) fun k hk => ?_
  rw [List.length_reverse, tm_length] at hk
  rw [gd_rev (by rw [tm_length]; exact hk), gd_tm, gd_tm, tm_length, conv_dd (fun j hj => gd_ge hj) a.length (gd a) (fun i hi => gd_ge hi), conv_dd (q := b.length) (fun j hj => gd_ge (by simpa using hj)) a.length (gd a.reverse) (fun i hi => gd_ge (by simpa using hi))]
  unfold dd
  rw [← sm_rev _ a.length]
  refine sm_congr _ fun i hi => ?_
  rw [← sm_rev _ b.length]
  refine sm_congr _ fun j hj => ?_
  dsimp only
  rw [gd_rev hi, gd_rev hj]
  by_cases h : i + j = k
  · rw [if_pos h, if_pos (by omega)]
  · rw [if_neg h, if_neg (by omega)]
/-! ### as the law's loops make it -/
def row (A B : Nat → Int) (q i j k : Nat) : Int := (sm i fun i' => sm q fun j' => if i' + j' = k then A i' * B j' else 0) + sm j fun j' => if i + j' = k then A i * B j' else 0
theorem row_start (A B : Nat → Int) (q k : Nat) : row A B q 0 0 k = 0 := rfl
theorem row_next (A B : Nat → Int) (q i k : Nat) : row A B q i q k = row A B q (i + 1) 0 k := by unfold row; simp only [sm]; omega
theorem row_end {A B : Nat → Int} {p q k : Nat} (hA : ∀ i, p ≤ i → A i = 0) (hB : ∀ j, q ≤ j → B j = 0) : row A B q p 0 k = conv A B k := by
  rw [conv_dd hB p A hA]; unfold row dd; simp only [sm]; omega
theorem row_put (A B : Nat → Int) (q N i j : Nat) (h : i + j < N) : ((List.range N).map (row A B q i j)).set (i + j) (row A B q i j (i + j) + A i * B j) = (List.range N).map (row A B q i (j + 1)) := by
  apply List.ext_getElem (by simp)
  intro k h1 h2
  rw [List.getElem_set]
  simp only [List.getElem_map, List.getElem_range]
  have e : ∀ k, row A B q i (j + 1) k = row A B q i j k + if i + j = k then A i * B j else 0 := fun k => by unfold row; simp only [sm]; omega
  rw [e k]
  by_cases hk : i + j = k
  · subst hk; rw [if_pos rfl, if_pos rfl]
  · rw [if_neg hk, if_neg hk]; omega
/-! ### there and back -/
def jn (ts fs : List Int) : Int := (List.zipWith (· * ·) ts.reverse fs).sum
theorem jn_nil (fs : List Int) : jn [] fs = 0 := by simp [jn]
theorem jn_conv : ∀ (fs ts : List Int) (k : Nat), ts.length = k + 1 → jn ts fs = conv (gd fs) (gd ts) k := by
  intro fs
  induction fs with
  | nil => intro ts k _; rw [conv_zero fun i => gd_ge (by simp)]; simp [jn]
  | cons f fs ih =>
    intro ts k hk
    obtain ⟨ini, z, rfl⟩ : ∃ ini z, ts = ini ++ [z] := ⟨ts.dropLast, ts.getLast (by intro e; rw [e] at hk; cases hk), (List.dropLast_concat_getLast _).symm⟩
    have hl : ini.length = k := by simpa using hk
    have e : jn (ini ++ [z]) (f :: fs) = z * f + jn ini fs := by unfold jn; simp [List.reverse_append]
    have f0 : gd (f :: fs) 0 = f := rfl
    have zl : gd (ini ++ [z]) k = z := by rw [← hl]; exact gd_last
    rw [e]
    cases k with
    | zero =>
      have : ini = [] := List.length_eq_zero_iff.mp hl
      subst this
      rw [jn_nil]
      show z * f + 0 = gd (f :: fs) 0 * gd ([] ++ [z]) 0
      rw [f0, zl]; grind
    | succ k =>
      rw [ih ini k hl]
      show z * f + conv (gd fs) (gd ini) k = gd (f :: fs) 0 * gd (ini ++ [z]) (k + 1) + conv (fun i => gd (f :: fs) (i + 1)) (gd (ini ++ [z])) k
      rw [f0, zl, gd_cons, conv_congr (g' := gd ini) k (fun _ _ => rfl) fun i hi => gd_app1 (by omega)]
      grind
/-- the numbers of closed walks of the lengths 0 to k, by the falling polynomial -/
def tr (f : List Int) (n : Int) : Nat → List Int
  | 0 => [n]
  | k + 1 => tr f n k ++ [-(if k + 1 < f.length then ((k + 1 : Nat) : Int) * gd f (k + 1) else 0) - jn ((tr f n k).drop 1) (f.drop 1)]
theorem tr_length (f : List Int) (n : Int) : ∀ k, (tr f n k).length = k + 1 := by
  intro k
  induction k with
  | zero => rfl
  | succ k ih => simp only [tr, List.length_append, ih]; rfl
theorem tr_keep (f : List Int) (n : Int) (i : Nat) : ∀ k, i ≤ k → gd (tr f n k) i = gd (tr f n i) i := by
  intro k
  induction k with
  | zero => intro h; rw [Nat.le_zero.mp h]
  | succ k ih =>
    intro h
    by_cases e : i = k + 1
    · rw [e]
    · rw [← ih (by omega)]; simp only [tr]; exact gd_app1 (by rw [tr_length]; omega)
theorem tr_zero (f : List Int) (n : Int) (k : Nat) : gd (tr f n k) 0 = n := by rw [tr_keep f n 0 k (Nat.zero_le _)]; rfl
theorem tr_at (f : List Int) (n : Int) (k : Nat) : gd (tr f n (k + 1)) (k + 1) = -(((k + 1 : Nat) : Int) * gd f (k + 1)) - jn ((tr f n k).drop 1) (f.drop 1) := by
  have e : gd (tr f n (k + 1)) (k + 1) = -(if k + 1 < f.length then ((k + 1 : Nat) : Int) * gd f (k + 1) else 0) - jn ((tr f n k).drop 1) (f.drop 1) := by
    have := gd_last (xs := tr f n k) (x := -(if k + 1 < f.length then ((k + 1 : Nat) : Int) * gd f (k + 1) else 0) - jn ((tr f n k).drop 1) (f.drop 1))
    rw [tr_length] at this
    exact this
  rw [e]
  by_cases h : k + 1 < f.length
  · rw [if_pos h]
  · rw [if_neg h, gd_ge (by omega)]; grind
theorem tr_Tr {f : List Int} {n : Int} (h0 : gd f 0 = 1) (K : Nat) : Tr (gd f) (fun i => gd (tr f n K) (i + 1)) K := by
  intro k hk
  have sk : ∀ i, i ≤ k → (fun i => gd (tr f n K) (i + 1)) i = (fun i => gd (tr f n (k + 1)) (i + 1)) i := fun i hi => by
    show gd (tr f n K) (i + 1) = gd (tr f n (k + 1)) (i + 1)
    rw [tr_keep f n (i + 1) K (by omega), tr_keep f n (i + 1) (k + 1) (by omega)]
  rw [conv_congr k (fun _ _ => rfl) sk]
  have last := tr_at f n k
  cases k with
  | zero =>
    have : (tr f n 0).drop 1 = [] := rfl
    rw [this, jn_nil] at last
    show gd f 0 * gd (tr f n (0 + 1)) (0 + 1) = _
    rw [h0, last]; grind
  | succ k =>
    have e : jn ((tr f n (k + 1)).drop 1) (f.drop 1) = conv (fun i => gd f (i + 1)) (fun i => gd (tr f n (k + 1 + 1)) (i + 1)) k := by
      rw [jn_conv _ _ k (by rw [List.length_drop, tr_length]; omega)]
      refine conv_congr k (fun i _ => gd_drop1) fun i hi => ?_
      rw [gd_drop1]
      rw [tr_keep f n (i + 1) (k + 1) (by omega), tr_keep f n (i + 1) (k + 1 + 1) (by omega)]
    show gd f 0 * gd (tr f n (k + 1 + 1)) (k + 1 + 1) + conv (fun i => gd f (i + 1)) (fun i => gd (tr f n (k + 1 + 1)) (i + 1)) k = _
    rw [h0, last, e]; grind
/-- two lists of numbers of closed walks -/
theorem tr_is {f : List Int} {n : Int} {K : Nat} {t : List Int} (h0 : gd f 0 = 1) (hl : t.length = K + 1) (hn : gd t 0 = n) (h : Tr (gd f) (fun i => gd t (i + 1)) K) : tr f n K = t := by
  refine ext_gd (by rw [tr_length, hl]) fun i hi => ?_
  rw [tr_length] at hi
  cases i with
  | zero => rw [tr_zero, hn]
  | succ i => exact Tr.uniq h0 (tr_Tr h0 K) h i (by omega)
/-- the falling polynomial of the lengths to k, by the numbers -/
def flp (t : List Int) : Nat → Option (List Int)
  | 0 => some [1]
  | k + 1 => (flp t k).bind fun f => if jn ((t.drop 1).take (k + 1)) f % ((k + 1 : Nat) : Int) = 0 then some (f ++ [-(jn ((t.drop 1).take (k + 1)) f) / ((k + 1 : Nat) : Int)]) else none
theorem jn_at {t f : List Int} {k : Nat} (ht : k + 1 < t.length) (hf : f.length = k + 1) : jn ((t.drop 1).take (k + 1)) f = conv (gd f) (fun i => gd t (i + 1)) k := by
  rw [jn_conv _ _ k (by rw [List.length_take, List.length_drop]; omega)]
  refine conv_congr k (fun _ _ => rfl) fun i hi => ?_
  rw [gd_take (by omega), gd_drop1]
theorem flp_sound {t : List Int} : ∀ {k : Nat} {f : List Int}, k < t.length → flp t k = some f → f.length = k + 1 ∧ gd f 0 = 1 ∧ Tr (gd f) (fun i => gd t (i + 1)) k := by
  intro k
  induction k with
  | zero => intro f _ h; cases h; exact ⟨rfl, rfl, fun n hn => absurd hn (Nat.not_lt_zero _)⟩
  | succ k ih =>
    intro f hk h
    simp only [flp] at h
    cases e : flp t k with
    | none => rw [e] at h; cases h
    | some g =>
      rw [e] at h
      simp only [Option.bind_some] at h
      obtain ⟨gl, g0, gt⟩ := ih (by omega) e
      have ej := jn_at (k := k) hk gl
      split at h
      · rename_i hm
        cases h
        refine ⟨by simp [gl], by rw [gd_app1 (by omega)]; exact g0, fun n hn => ?_⟩
        have cc : ∀ m, m ≤ k → conv (gd (g ++ [-(jn ((t.drop 1).take (k + 1)) g) / ((k + 1 : Nat) : Int)])) (fun i => gd t (i + 1)) m = conv (gd g) (fun i => gd t (i + 1)) m := fun m hm => conv_congr m (fun i hi => gd_app1 (by omega)) fun _ _ => rfl
        rw [cc n (by omega)]
        by_cases hnk : n = k
        · subst hnk
          have last : gd (g ++ [-(jn ((t.drop 1).take (n + 1)) g) / ((n + 1 : Nat) : Int)]) (n + 1) = -(jn ((t.drop 1).take (n + 1)) g) / ((n + 1 : Nat) : Int) := by rw [← gl]; exact gd_last
          rw [last, ← ej]
          have hd := Int.dvd_of_emod_eq_zero hm
          rw [Int.neg_ediv_of_dvd hd]
          have := Int.mul_ediv_cancel' hd
          grind
        · rw [gt n (by omega), gd_app1 (by omega)]
      · cases h
theorem flp_full {t f : List Int} {d : Nat} (hf : f.length = d + 1) (h0 : gd f 0 = 1) (ht : t.length = d + 1) (h : Tr (gd f) (fun i => gd t (i + 1)) d) : ∀ k, k ≤ d → flp t k = some (f.take (k + 1)) := by
  intro k
  induction k with
  | zero =>
    intro _
    have : f.take 1 = [1] := by
      cases f with
      | nil => cases hf
      | cons x xs => have : x = 1 := h0; rw [this]; rfl
    rw [this]; rfl
  | succ k ih =>
    intro hk
    have len : (f.take (k + 1)).length = k + 1 := by rw [List.length_take]; omega
    have ej := jn_at (t := t) (f := f.take (k + 1)) (k := k) (by omega) len
    rw [conv_congr (f' := gd f) k (fun i hi => gd_take (by omega)) (fun _ _ => rfl), h k (by omega)] at ej
    simp only [flp]
    rw [ih (by omega)]
    simp only [Option.bind_some]
    rw [ej]
    have dv : ((k + 1 : Nat) : Int) ∣ -(((k + 1 : Nat) : Int) * gd f (k + 1)) := Int.dvd_neg.mpr (Int.dvd_mul_right _ _)
    rw [if_pos (Int.emod_eq_zero_of_dvd dv), Int.neg_neg, Int.mul_ediv_cancel_left _ (by omega)]
    congr 1
    refine ext_gd (by simp [len]; omega) fun i hi => ?_
    have hi' : i < k + 2 := by simpa [len] using hi
    by_cases e : i = k + 1
    · rw [e, gd_take (by omega)]
      have := gd_last (xs := f.take (k + 1)) (x := gd f (k + 1))
      rw [len] at this
      exact this
    · rw [gd_app1 (by omega), gd_take (by omega), gd_take (by omega)]
end Y

set_option autoImplicit false
namespace Y
def mon (p : List Int) : Prop := gd p.reverse 0 = 1
theorem mon_ne {p : List Int} (h : mon p) : p ≠ [] := fun e => by subst e; unfold mon at h; rw [List.reverse_nil] at h; exact absurd (h : (0:Int) = 1) (by decide)
def traces (p : List Int) (many : Nat) : List Int := tr p.reverse ((p.length : Int) - 1) (many - 1)
def polyOf (t : List Int) : Option (List Int) := (flp t (t.length - 1)).map List.reverse
theorem traces_length {p : List Int} {m : Nat} (h : 1 ≤ m) : (traces p m).length = m := by unfold traces; rw [tr_length]; omega
theorem traces_zero (p : List Int) (m : Nat) : gd (traces p m) 0 = (p.length : Int) - 1 := tr_zero _ _ _
theorem back {p : List Int} (h : mon p) : polyOf (traces p p.length) = some p := by
  have lp := List.length_pos_iff.mpr (mon_ne h)
  have lt : (traces p p.length).length = p.length := traces_length lp
  unfold polyOf
  rw [lt]
  show Option.map List.reverse (flp (tr p.reverse ((p.length : Int) - 1) (p.length - 1)) (p.length - 1)) = some p
  rw [flp_full (f := p.reverse) (d := p.length - 1) (by rw [List.length_reverse]; omega) h (by rw [tr_length]) (tr_Tr h _) (p.length - 1) (Nat.le_refl _)]
  rw [List.take_of_length_le (by rw [List.length_reverse]; omega)]
  simp
theorem forth {t p : List Int} (h0 : gd t 0 = (t.length : Int) - 1) (ht : t ≠ []) (h : polyOf t = some p) : mon p ∧ p.length = t.length ∧ traces p t.length = t := by
  have lt := List.length_pos_iff.mpr ht
  unfold polyOf at h
  cases e : flp t (t.length - 1) with
  | none => rw [e] at h; cases h
  | some f =>
    rw [e] at h
    simp only [Option.map_some, Option.some.injEq] at h
    subst h
    obtain ⟨l, f0, ft⟩ := flp_sound (by omega) e
    refine ⟨by unfold mon; rw [List.reverse_reverse]; exact f0, by rw [List.length_reverse, l]; omega, ?_⟩
    unfold traces
    rw [List.reverse_reverse, List.length_reverse]
    exact tr_is f0 (by omega) (by rw [h0, l]; omega) ft
/-! products -/
theorem mon_tm {a b : List Int} (ha : mon a) (hb : mon b) : mon (tm a b) := by
  unfold mon
  rw [tm_rev (mon_ne ha) (mon_ne hb), gd_tm]
  show gd a.reverse 0 * gd b.reverse 0 = 1
  rw [ha, hb]; rfl
theorem Tr_tm {a b : List Int} (ha : mon a) (hb : mon b) {S T : Nat → Int} {N : Nat} (h : Tr (gd a.reverse) S N) (k : Tr (gd b.reverse) T N) : Tr (gd (tm a b).reverse) (fun i => S i + T i) N := by
  rw [tm_rev (mon_ne ha) (mon_ne hb), gd_tm]
  exact h.conv k
theorem traces_tm {a b : List Int} (ha : mon a) (hb : mon b) {m : Nat} (hm : 1 ≤ m) : traces (tm a b) m = List.zipWith (· + ·) (traces a m) (traces b m) := by
  have la := List.length_pos_iff.mpr (mon_ne ha)
  have lb := List.length_pos_iff.mpr (mon_ne hb)
  have at_ : ∀ i, i < m → gd (List.zipWith (· + ·) (traces a m) (traces b m)) i = gd (traces a m) i + gd (traces b m) i := fun i hi => by
    rw [gd_lt (by rw [List.length_zipWith, traces_length hm, traces_length hm]; omega), gd_lt (by rw [traces_length hm]; exact hi), gd_lt (by rw [traces_length hm]; exact hi), List.getElem_zipWith]
  unfold traces at at_ ⊢
  refine tr_is (K := m - 1) (mon_tm ha hb) (by rw [List.length_zipWith, tr_length, tr_length]; omega) (by rw [at_ 0 (by omega), tr_zero, tr_zero, tm_length]; omega) ?_
  have := Tr_tm ha hb (tr_Tr (n := (a.length : Int) - 1) ha (m - 1)) (tr_Tr (n := (b.length : Int) - 1) hb (m - 1))
  intro n hn
  rw [← this n hn]
  exact conv_congr n (fun _ _ => rfl) fun i hi => at_ (i + 1) (by omega)
theorem traces_take {p : List Int} {m k : Nat} (hm : 1 ≤ m) (hk : m ≤ k) : (traces p k).take m = traces p m := by
  refine ext_gd (by rw [List.length_take, traces_length (by omega), traces_length hm]; omega) fun i hi => ?_
  rw [List.length_take, traces_length (by omega)] at hi
  rw [gd_take (by omega)]
  unfold traces
  rw [tr_keep _ _ i (k - 1) (by omega), tr_keep _ _ i (m - 1) (by omega)]
/-! powers -/
def pw (as : List Int) (k : Nat) : Int := (as.map (· ^ k)).sum
theorem pw_zero : ∀ as : List Int, pw as 0 = as.length
  | [] => rfl
  | a :: as => by
    have := pw_zero as
    unfold pw at this ⊢
    simp only [List.map_cons, List.sum_cons, List.length_cons]
    rw [this]; push_cast; simp; omega
def powers (as : List Int) (many : Nat) : List Int := (List.range many).map (pw as)
def whole (w : List Int) (as : List Int) : List Int := as.foldl (fun w a => tm w [-a, 1]) w
theorem mon_lin (a : Int) : mon [-a, 1] := rfl
theorem Tr_lin (a : Int) (N : Nat) : Tr (gd [-a, 1].reverse) (fun i => a ^ (i + 1)) N := by
  intro n _
  have e : gd [-a, 1].reverse = fun i => if i = 0 then 1 else if i = 1 then -a else 0 := by
    funext i
    match i with
    | 0 => rfl
    | 1 => rfl
    | i + 2 => rw [gd_ge (by simp)]; simp
  rw [e]
  cases n with
  | zero => simp [conv]; grind
  | succ n =>
    have z : conv (fun i => if i + 1 = 0 then (1 : Int) else if i + 1 = 1 then -a else 0) (fun i => a ^ (i + 1)) n = -a * a ^ (n + 1) := by
      cases n with
      | zero => simp [conv]
      | succ n =>
        have q : conv (fun i => if i + 1 + 1 = 0 then (1 : Int) else if i + 1 + 1 = 1 then -a else 0) (fun i => a ^ (i + 1)) n = 0 := conv_zero (fun i => by simp) n
        show (if 0 + 1 = 0 then (1 : Int) else if 0 + 1 = 1 then -a else 0) * a ^ (n + 1 + 1) + conv (fun i => if i + 1 + 1 = 0 then (1 : Int) else if i + 1 + 1 = 1 then -a else 0) (fun i => a ^ (i + 1)) n = _
        rw [q]; simp
    show (if 0 = 0 then (1 : Int) else if 0 = 1 then -a else 0) * a ^ (n + 1 + 1) + conv (fun i => if i + 1 = 0 then (1 : Int) else if i + 1 = 1 then -a else 0) (fun i => a ^ (i + 1)) n = _
    rw [z]
    simp only [if_true]
    rw [Int.pow_succ]
    have : ¬ (n + 1 + 1 = 0) ∧ ¬ (n + 1 + 1 = 1) := by omega
    rw [if_neg this.1, if_neg this.2]; grind
theorem whole_Tr (N : Nat) : ∀ (as : List Int) (w : List Int) (S : Nat → Int), mon w → Tr (gd w.reverse) S N → mon (whole w as) ∧ (whole w as).length = w.length + as.length ∧ Tr (gd (whole w as).reverse) (fun i => S i + pw as (i + 1)) N := by
  intro as
  induction as with
  | nil => intro w S hw h; exact ⟨hw, rfl, by simpa [pw, whole] using h⟩
  | cons a as ih =>
    intro w S hw h
    have lw := List.length_pos_iff.mpr (mon_ne hw)
    obtain ⟨m, l, t⟩ := ih (tm w [-a, 1]) _ (mon_tm hw (mon_lin a)) (Tr_tm hw (mon_lin a) h (Tr_lin a N))
    refine ⟨m, ?_, ?_⟩
    · show (whole (tm w [-a, 1]) as).length = _
      rw [l, tm_length]; simp; omega
    · have e : (fun i => S i + pw (a :: as) (i + 1)) = fun i => S i + a ^ (i + 1) + pw as (i + 1) := by funext i; simp [pw]; omega
      rw [e]; exact t
theorem one_Tr (N : Nat) : Tr (gd [1].reverse) (fun _ => 0) N := by
  intro n _
  have e : gd [1].reverse = fun i => if i = 0 then 1 else 0 := by
    funext i
    match i with
    | 0 => rfl
    | i + 1 => rw [gd_ge (by simp)]; simp
  rw [e]
  have : ∀ n, conv (fun i => if i = 0 then (1 : Int) else 0) (fun _ => 0) n = 0 := fun n => by rw [conv_comm]; exact conv_zero (fun _ => rfl) n
  rw [this]; simp
theorem traces_whole (as : List Int) {m : Nat} (hm : 1 ≤ m) : mon (whole [1] as) ∧ (whole [1] as).length = as.length + 1 ∧ traces (whole [1] as) m = powers as m := by
  obtain ⟨h1, h2, h3⟩ := whole_Tr (m - 1) as [1] (fun _ => 0) rfl (one_Tr _)
  have p0 := pw_zero as
  refine ⟨h1, by rw [h2]; simp; omega, ?_⟩
  unfold traces
  refine tr_is (K := m - 1) h1 (by unfold powers; simp; omega) (by unfold powers; rw [gd_map (by omega), p0, h2]; simp; omega) ?_
  intro n hn
  rw [← h3 n hn]
  exact conv_congr n (fun _ _ => rfl) fun i hi => by unfold powers; rw [gd_map (by omega)]; simp
end Y

set_option Elab.async false
set_option linter.all false
set_option maxRecDepth 100000
set_option maxHeartbeats 400000
set_option autoImplicit false
namespace Y
open PySem PySem.Spec PyProof.Rows L2 Z
local macro_rules | `(tactic| infer_instance) => `(tactic| first | (show _ = _; with_reducible assumption) | (show Bd _ _; with_reducible assumption) | (show _ < _; with_reducible assumption) | (show _ ≤ _; with_reducible assumption) | (show Fr _; first | with_reducible assumption | with_reducible exact Fr.fz | with_reducible exact Fr.none) | with_reducible exact (eqV_int _ _) | with_reducible exact (neV_int _ _) | with_reducible exact (eqV_lst _ _) | with_reducible exact (neV_lst _ _) | with_reducible exact (eqV_tup _ _) | with_reducible exact (neV_tup _ _) | with_reducible exact (sumV_ints _) | with_reducible exact (lenV_ints _) | with_reducible exact (lenV_tints _) | with_reducible exact (absVl_int _) | with_reducible exact wp0 | with_reducible exact st0 | with_reducible exact (small_sz rfl) | with_reducible exact (small_lt rfl) | with_reducible exact (melts_int _) | with_reducible exact e_cst | with_reducible exact e_nilA | with_reducible exact e_next | with_reducible exact e_yesB | with_reducible exact e_noP | with_reducible exact e_cL0 | with_reducible exact e_forL_nil | with_reducible apply e_var | with_reducible apply e_bin | with_reducible apply e_un | with_reducible apply e_tst | with_reducible apply e_or | with_reducible apply e_and | with_reducible apply e_orV | with_reducible apply e_andV | with_reducible apply e_ife | with_reducible apply e_if | with_reducible apply e_notB | with_reducible apply e_consA | with_reducible apply e_tupM | with_reducible apply e_lstM | with_reducible apply e_dispF | with_reducible apply e_cbM | with_reducible apply e_cfM | with_reducible apply e_bfM | with_reducible apply e_ownL | with_reducible apply e_listI | with_reducible apply e_walkM | with_reducible apply e_lrevF | with_reducible apply e_zrM | with_reducible apply e_enum | with_reducible apply e_rng1 | with_reducible apply e_rng2 | with_reducible apply e_parP | with_reducible apply e_sl | with_reducible apply e_slO | with_reducible apply e_view | with_reducible apply e_zipL | with_reducible apply e_chnT | with_reducible apply e_seq | with_reducible apply e_forS | with_reducible apply e_asg | with_reducible apply e_ret | with_reducible apply e_drop | with_reducible apply e_raise | with_reducible apply e_new | with_reducible apply e_newT | with_reducible apply e_par | with_reducible apply e_parNS | with_reducible apply e_asgT | with_reducible apply t_tup2 | with_reducible apply t_tup3 | with_reducible apply t_name | with_reducible apply e_ixO | with_reducible apply e_setS | with_reducible apply e_app | with_reducible apply e_melt | with_reducible apply e_callM | with_reducible apply e_callO | with_reducible apply wpS | with_reducible apply stS | with_reducible apply mulV_bd | with_reducible apply divV_pos | with_reducible apply modV_pos | with_reducible apply f1_of | with_reducible apply f2_of | (with_reducible apply ite_T; first | (show _ = _; with_reducible assumption) | rfl | (apply decide_eq_true; omega)) | (with_reducible apply ite_F; first | (show _ = _; with_reducible assumption) | rfl | (apply decide_eq_false; omega)) | exact rfl | decide | (show _ ∧ _; omega) | with_reducible exact bd_lit (by decide) (by decide) | with_reducible exact bd_mod (by decide) (by decide) (by decide) | with_reducible apply powV_nat | (show _ < _; omega) | (show _ ≤ _; omega) | (with_reducible apply fs0; assumption) | with_reducible apply fsS)
local macro_rules | `(tactic| ac_rfl) => `(tactic| repeat' (first | infer_instance | fail))
theorem v_is_integer (i : Int) : runV 1 b_is_integer [.int i] = .ok (.bl true) := by
  apply e_runE [some (.fz (.int i))] rfl
  unfold b_is_integer
  ac_rfl
  ac_rfl
local macro_rules | `(tactic| infer_instance) => `(tactic| with_reducible exact v_is_integer _)
theorem v_is_within {i l m : Int} (h1 : l ≤ i) (h2 : i ≤ m) : runV 3 b_is_within [.int i, .int l, .int m] = .ok (.bl true) := by
  have d1 : decide (l ≤ i) = true := decide_eq_true h1
  have d2 : decide (i ≤ m) = true := decide_eq_true h2
  apply e_runE [some (.fz (.int i)), some (.fz (.int l)), some (.fz (.int m))] rfl
  · unfold b_is_within
    ac_rfl
  · rw [d2]
/-- a list or a tuple of numbers -/
structure Nums (x : Val) (ns : List Int) : Prop where
  is : x = .lst (ns.map .int) ∨ x = .tup (ns.map .int)
theorem Nums.lst (ns : List Int) : Nums (.lst (ns.map .int)) ns := ⟨.inl rfl⟩
theorem Nums.tup (ns : List Int) : Nums (.tup (ns.map .int)) ns := ⟨.inr rfl⟩
section
variable {x : Val} {ns : List Int}
theorem Nums.sq (h : Nums x ns) : seqV x = some (ns.map .int) := by rcases h.is with rfl | rfl <;> rfl
theorem Nums.ln (h : Nums x ns) : f1 lenV [x] = some (.int ns.length) := by rcases h.is with rfl | rfl <;> first | exact lenV_ints _ | exact lenV_tints _
theorem Nums.isi (h : Nums x ns) : f2 isiV [x, .tup [.ty "list", .ty "tuple"]] = some (.bl true) := by rcases h.is with rfl | rfl <;> rfl
theorem atI_ok {ns : List Int} {j : Int} {i : Nat} (hi : i < ns.length) (e : ixN ns.length j = some i) : atI (ns.map Val.int) j = some (.int (gd ns i)) := by
  unfold atI
  rw [List.length_map, e]
  simp [gd_get hi]
theorem ixN_pos {n i : Nat} (h : i < n) : ixN n (i : Int) = some i := by
  unfold ixN
  simp [h]
theorem ixN_neg {n i : Nat} (h : i < n) : ixN n ((i : Int) - n) = some i := by
  unfold ixN
  rw [if_neg (by omega), if_pos (by omega)]
  congr 1; omega
theorem Nums.ix {j : Int} {i : Nat} (h : Nums x ns) (hi : i < ns.length) (e : ixN ns.length j = some i) : ixV x (.int j) = some (.int (gd ns i)) := by
  rcases h.is with rfl | rfl <;> exact atI_ok hi e
theorem Nums.tu (h : Nums x ns) : f1 tupOfV [x] = some (.tup (ns.map .int)) := by rcases h.is with rfl | rfl <;> rfl
end
theorem blsOf_map : ∀ ns : List Int, blsOf (ns.map fun _ => Val.bl true) = some (ns.map fun _ => true)
  | [] => rfl
  | n :: ns => by show (blsOf (ns.map fun _ => Val.bl true)).map (true :: ·) = _; rw [blsOf_map ns]; rfl
theorem allV_map (ns : List Int) : allV (.lst (ns.map fun _ => Val.bl true)) = some (.bl true) := by
  show (blsOf (ns.map fun _ => Val.bl true)).map (fun bs => Val.bl (bs.all id)) = _
  rw [blsOf_map]; simp
theorem v_are_numbers {x : Val} {ns : List Int} (h : Nums x ns) (hl : ns.length ≤ 1000) : runV 2 b_are_numbers [x] = .ok (.bl true) := by
  have h1 := h.sq
  have h2 := h.isi
  have cl : compL [1] (nameT 1) yesB (callM 1 1 b_is_integer (consA (varM 1) nilA)) (ns.map .int) [some (.fz x), none] = .ok (ns.map fun _ => Val.bl true, [some (.fz x), none]) :=
    e_cLs Val.int (fun _ => .bl true) (fun i => [some (.fz x), some (.fz (.int i))]) rfl ns fun i hi => ⟨rfl, by ac_rfl, rfl, rfl⟩
  have lst : listM (compF [1] (walkM seqV (varM 0)) (nameT 1) yesB (callM 1 1 b_is_integer (consA (varM 1) nilA))) [some (.fz x), none] = .ok (.lst (ns.map fun _ => Val.bl true), [some (.fz x), none]) :=
    e_listM (e_compF (e_walkM (e_var rfl) h1) (by rw [List.length_map]; exact sz_lt (by omega)) rfl cl) (melts_all (by simp [Val.isO]))
  have al := allV_map ns
  apply e_runE [some (.fz x), none] rfl
  · unfold b_are_numbers
    ac_rfl
  · rfl
theorem v_joined {x : Val} {ts fs : List Int} (hx : Nums x ts) (hl : ts.length ≤ 1000) (ht : ∀ t ∈ ts, Bd 8000 t) (hf : ∀ f ∈ fs, Bd 8000 f) : runV 4 b__joined [x, .lst (fs.map .int)] = .ok (.int (jn ts fs)) := by
  have h1 := hx.sq
  have zr : zrM (varM 0) (varM 1) [some (.fz x), some (.fz (.lst (fs.map .int))), none, none] = .ok ((ts.reverse.zip fs).map fun p => pairV (.int p.1) (.int p.2), [some (.fz x), some (.fz (.lst (fs.map .int))), none, none]) := by
    refine e_as (e_zrM (e_var rfl) h1 (e_var rfl)) ?_
    rw [← List.map_reverse, pr_ints]
  have cl : compL [2, 3] (tupT 2 (consT (nameT 2) (consT (nameT 3) nilT))) yesB (binM mulV (varM 2) (varM 3)) ((ts.reverse.zip fs).map fun p => pairV (.int p.1) (.int p.2)) [some (.fz x), some (.fz (.lst (fs.map .int))), none, none] = .ok ((ts.reverse.zip fs).map fun p => .int (p.1 * p.2), [some (.fz x), some (.fz (.lst (fs.map .int))), none, none]) :=
    e_cLs (α := Int × Int) (fun p => pairV (.int p.1) (.int p.2)) (fun p => .int (p.1 * p.2)) (fun p => [some (.fz x), some (.fz (.lst (fs.map .int))), some (.fz (.int p.1)), some (.fz (.int p.2))]) rfl _ fun p hp => by
      have b1 := ht p.1 (List.mem_reverse.mp (List.of_mem_zip hp).1)
      have b2 := hf p.2 (List.of_mem_zip hp).2
      exact ⟨rfl, by ac_rfl, rfl, rfl⟩
  have e : (ts.reverse.zip fs).map (fun p => Val.int (p.1 * p.2)) = (List.zipWith (· * ·) ts.reverse fs).map .int := by
    rw [List.zip_eq_zipWith, List.map_zipWith, List.map_zipWith]
  rw [e] at cl
  have lst : listM (compF [2, 3] (zrM (varM 0) (varM 1)) (tupT 2 (consT (nameT 2) (consT (nameT 3) nilT))) yesB (binM mulV (varM 2) (varM 3))) [some (.fz x), some (.fz (.lst (fs.map .int))), none, none] = .ok (.lst ((List.zipWith (· * ·) ts.reverse fs).map .int), [some (.fz x), some (.fz (.lst (fs.map .int))), none, none]) :=
    e_listI (e_compF zr (by rw [List.length_map, List.length_zip, List.length_reverse]; exact sz_lt (by omega)) rfl cl)
  apply e_runE [some (.fz x), some (.fz (.lst (fs.map .int))), none, none] rfl
  · unfold b__joined
    ac_rfl
  · rfl
end Y

set_option Elab.async false
set_option linter.all false
set_option maxRecDepth 100000
set_option maxHeartbeats 400000
set_option autoImplicit false
namespace Y
open PySem PySem.Spec PyProof.Rows L2 Z
local macro_rules | `(tactic| infer_instance) => `(tactic| first | (show _ = _; with_reducible assumption) | (show Bd _ _; with_reducible assumption) | (show _ < _; with_reducible assumption) | (show _ ≤ _; with_reducible assumption) | (show Fr _; first | with_reducible assumption | with_reducible exact Fr.fz | with_reducible exact Fr.none) | with_reducible exact (eqV_int _ _) | with_reducible exact (neV_int _ _) | with_reducible exact (eqV_lst _ _) | with_reducible exact (neV_lst _ _) | with_reducible exact (eqV_tup _ _) | with_reducible exact (neV_tup _ _) | with_reducible exact (sumV_ints _) | with_reducible exact (lenV_ints _) | with_reducible exact (lenV_tints _) | with_reducible exact (absVl_int _) | with_reducible exact wp0 | with_reducible exact st0 | with_reducible exact (small_sz rfl) | with_reducible exact (small_lt rfl) | with_reducible exact (melts_int _) | with_reducible exact e_cst | with_reducible exact e_nilA | with_reducible exact e_next | with_reducible exact e_yesB | with_reducible exact e_noP | with_reducible exact e_cL0 | with_reducible exact e_forL_nil | with_reducible apply e_var | with_reducible apply e_bin | with_reducible apply e_un | with_reducible apply e_tst | with_reducible apply e_or | with_reducible apply e_and | with_reducible apply e_orV | with_reducible apply e_andV | with_reducible apply e_ife | with_reducible apply e_if | with_reducible apply e_notB | with_reducible apply e_consA | with_reducible apply e_tupM | with_reducible apply e_lstM | with_reducible apply e_dispF | with_reducible apply e_cbM | with_reducible apply e_cfM | with_reducible apply e_bfM | with_reducible apply e_ownL | with_reducible apply e_listI | with_reducible apply e_walkM | with_reducible apply e_lrevF | with_reducible apply e_zrM | with_reducible apply e_enum | with_reducible apply e_rng1 | with_reducible apply e_rng2 | with_reducible apply e_parP | with_reducible apply e_sl | with_reducible apply e_slO | with_reducible apply e_view | with_reducible apply e_zipL | with_reducible apply e_chnT | with_reducible apply e_seq | with_reducible apply e_forS | with_reducible apply e_asg | with_reducible apply e_ret | with_reducible apply e_drop | with_reducible apply e_raise | with_reducible apply e_new | with_reducible apply e_newT | with_reducible apply e_par | with_reducible apply e_parNS | with_reducible apply e_asgT | with_reducible apply t_tup2 | with_reducible apply t_tup3 | with_reducible apply t_name | with_reducible apply e_ixO | with_reducible apply e_setS | with_reducible apply e_app | with_reducible apply e_melt | with_reducible apply e_callM | with_reducible apply e_callO | with_reducible apply wpS | with_reducible apply stS | with_reducible apply mulV_bd | with_reducible apply divV_pos | with_reducible apply modV_pos | with_reducible apply f1_of | with_reducible apply f2_of | (with_reducible apply ite_T; first | (show _ = _; with_reducible assumption) | rfl | (apply decide_eq_true; omega)) | (with_reducible apply ite_F; first | (show _ = _; with_reducible assumption) | rfl | (apply decide_eq_false; omega)) | exact rfl | decide | (show _ ∧ _; omega) | with_reducible exact bd_lit (by decide) (by decide) | with_reducible exact bd_mod (by decide) (by decide) (by decide) | with_reducible apply powV_nat | (show _ < _; omega) | (show _ ≤ _; omega) | (with_reducible apply fs0; assumption) | with_reducible apply fsS)
local macro_rules | `(tactic| ac_rfl) => `(tactic| repeat' (first | infer_instance | fail))
local macro_rules | `(tactic| infer_instance) => `(tactic| with_reducible exact v_is_integer _)
/-! bounds -/
theorem sum_bd {M : Nat} : ∀ l : List Int, (∀ x ∈ l, x.natAbs ≤ M) → l.sum.natAbs ≤ l.length * M
  | [], _ => by simp
  | x :: l, h => by
    have h1 := h x (.head _)
    have h2 := sum_bd l fun y hy => h y (.tail _ hy)
    rw [List.sum_cons, List.length_cons, Nat.succ_mul]
    omega
theorem jn_bd {a b n : Nat} {ts fs : List Int} (ht : ∀ t ∈ ts, Bd a t) (hf : ∀ f ∈ fs, Bd b f) (hn : fs.length ≤ n) : (jn ts fs).natAbs ≤ n * 2 ^ (a + b) := by
  unfold jn
  refine Nat.le_trans (sum_bd (M := 2 ^ (a + b)) _ fun x hx => ?_) (Nat.mul_le_mul_right _ (by rw [List.length_zipWith]; omega))
  rw [← List.map_uncurry_zip_eq_zipWith] at hx
  obtain ⟨p, hp, rfl⟩ := List.mem_map.mp hx
  have := (ht p.1 (List.mem_reverse.mp (List.of_mem_zip hp).1)).mul (hf p.2 (List.of_mem_zip hp).2)
  exact Nat.le_of_lt this
theorem gd_bd {b : Nat} {f : List Int} (hf : ∀ x ∈ f, Bd b x) (i : Nat) : Bd b (gd f i) := by
  by_cases h : i < f.length
  · rw [gd_lt h]; exact hf _ (List.getElem_mem h)
  · rw [gd_ge (by omega)]; unfold Bd; exact Nat.pow_pos (by decide)
theorem pow_sm {a b : Nat} (h : 5 ≤ a) : 32 * 2 ^ b ≤ 2 ^ (a + b) := by
  rw [Nat.pow_add]
  exact Nat.mul_le_mul_right _ (Nat.le_trans (by decide : 32 ≤ 2 ^ 5) (Nat.pow_le_pow_right (by decide) h))
theorem tr_bd {b : Nat} {f : List Int} {n : Int} (hf : ∀ x ∈ f, Bd b x) (hl : f.length ≤ 32) (hn : Bd 5 n) : ∀ k, ∀ x ∈ tr f n k, Bd (5 + k * (b + 6)) x
  | 0, x, hx => by
    unfold tr at hx
    rw [List.mem_singleton] at hx
    subst hx
    exact hn.mono (by omega)
  | k + 1, x, hx => by
    unfold tr at hx
    have le : 5 + k * (b + 6) + (b + 6) = 5 + (k + 1) * (b + 6) := by rw [Nat.succ_mul]; omega
    rcases List.mem_append.mp hx with h | h
    · exact (tr_bd hf hl hn k x h).mono (by omega)
    · rw [List.mem_singleton] at h
      subst h
      have j := jn_bd (ts := (tr f n k).drop 1) (fs := f.drop 1) (n := 31) (fun t ht => tr_bd hf hl hn k t (List.mem_of_mem_drop ht)) (fun g hg => hf g (List.mem_of_mem_drop hg)) (by rw [List.length_drop]; omega)
      have t : (if k + 1 < f.length then ((k + 1 : Nat) : Int) * gd f (k + 1) else 0).natAbs ≤ 32 * 2 ^ b := by
        split
        · rename_i h
          rw [Int.natAbs_mul]
          exact Nat.mul_le_mul (by omega) (Nat.le_of_lt (gd_bd hf _))
        · exact Nat.zero_le _
      have p := pow_sm (a := 5 + k * (b + 6)) (b := b) (by omega)
      rw [← le]
      unfold Bd
      generalize (if k + 1 < f.length then ((k + 1 : Nat) : Int) * gd f (k + 1) else 0) = told at *
      generalize jn ((tr f n k).drop 1) (f.drop 1) = q at *
      have e : 2 ^ (5 + k * (b + 6) + (b + 6)) = 64 * 2 ^ (5 + k * (b + 6) + b) := by
        rw [show 5 + k * (b + 6) + (b + 6) = (5 + k * (b + 6) + b) + 6 by omega, Nat.pow_add _ _ 6]; omega
      rw [e]
      have z : 0 < 2 ^ (5 + k * (b + 6) + b) := Nat.pow_pos (by decide)
      generalize 2 ^ (5 + k * (b + 6) + b) = Z at *
      generalize 2 ^ b = Y at *
      omega
theorem flp_none {t : List Int} {k : Nat} (h : flp t k = none) : ∀ j, flp t (k + j) = none
  | 0 => h
  | j + 1 => by show (flp t (k + j)).bind _ = none; rw [flp_none h j]; rfl
theorem flp_bd {c : Nat} {t : List Int} (ht : ∀ x ∈ t, Bd c x) : ∀ k f, k ≤ 30 → flp t k = some f → f.length = k + 1 ∧ ∀ x ∈ f, Bd (1 + k * (c + 5)) x
  | 0, f, _, h => by
    cases h
    exact ⟨rfl, fun x hx => by rw [List.mem_singleton] at hx; subst hx; exact (show Bd 1 1 by unfold Bd; decide).mono (by omega)⟩
  | k + 1, f, hk, h => by
    have h : (flp t k).bind (fun f => if jn ((t.drop 1).take (k + 1)) f % ((k + 1 : Nat) : Int) = 0 then some (f ++ [-(jn ((t.drop 1).take (k + 1)) f) / ((k + 1 : Nat) : Int)]) else none) = some f := h
    obtain ⟨g, hg, h⟩ := Option.bind_eq_some_iff.mp h
    split at h
    · cases h
      obtain ⟨l, bg⟩ := flp_bd ht k g (by omega) hg
      refine ⟨by rw [List.length_append, l]; rfl, fun x hx => ?_⟩
      have le : 1 + k * (c + 5) + (c + 5) = 1 + (k + 1) * (c + 5) := by rw [Nat.succ_mul]; omega
      rw [← le]
      rcases List.mem_append.mp hx with h | h
      · exact (bg x h).mono (by omega)
      · rw [List.mem_singleton] at h
        subst h
        have j := jn_bd (ts := (t.drop 1).take (k + 1)) (fs := g) (n := 31) (fun t h => ht t (List.mem_of_mem_drop (List.mem_of_mem_take h))) bg (by omega)
        have d := Int.natAbs_ediv_le_natAbs (-(jn ((t.drop 1).take (k + 1)) g)) ((k + 1 : Nat) : Int)
        rw [Int.natAbs_neg] at d
        unfold Bd
        have e : 2 ^ (1 + k * (c + 5) + (c + 5)) = 32 * 2 ^ (c + (1 + k * (c + 5))) := by
          rw [show 1 + k * (c + 5) + (c + 5) = (c + (1 + k * (c + 5))) + 5 by omega, Nat.pow_add _ _ 5]; omega
        rw [e]
        have z : 0 < 2 ^ (c + (1 + k * (c + 5))) := Nat.pow_pos (by decide)
        omega
    · cases h
/-! slices -/
theorem sx_nat (n d k : Nat) : HT.sIx n d (some (k : Int)) = min k n := by
  unfold HT.sIx
  dsimp only
  rw [if_neg (by omega)]
  rfl
theorem cut_drop {α : Type} (xs : List α) : cutX xs (some 1) none = xs.drop 1 := by
  unfold cutX
  rw [show HT.sIx xs.length 0 (some 1) = min 1 xs.length from sx_nat _ _ 1, show HT.sIx xs.length xs.length none = xs.length from rfl]
  cases xs with
  | nil => rfl
  | cons x xs =>
    rw [show min 1 (x :: xs).length = 1 by simp]
    exact List.take_of_length_le (by simp)
theorem cut_take {α : Type} (xs : List α) (m : Nat) (h : m ≤ xs.length) : cutX xs none (some (m : Int)) = xs.take m := by
  unfold cutX
  rw [sx_nat, show HT.sIx xs.length 0 none = 0 from rfl, List.drop_zero, show min m xs.length - 0 = m by omega]
theorem cut_mid {α : Type} (xs : List α) (m : Nat) (h : m + 1 ≤ xs.length) : cutX xs (some 1) (some ((m + 1 : Nat) : Int)) = (xs.drop 1).take m := by
  unfold cutX
  rw [sx_nat, show HT.sIx xs.length 0 (some 1) = min 1 xs.length from sx_nat _ _ 1, show min 1 xs.length = 1 by omega, show min (m + 1) xs.length - 1 = m by omega]
theorem all_int (ns : List Int) : ((ns.map Val.int).all fun x => !x.isO) = true := by simp [Val.isO]
theorem map_take (ns : List Int) (n : Nat) : (ns.map Val.int).take n = (ns.take n).map .int := by rw [List.map_take]
theorem map_drop (ns : List Int) (n : Nat) : (ns.map Val.int).drop n = (ns.drop n).map .int := by rw [List.map_drop]
/-! traces_by -/
theorem v_traces_by {x : Val} {p : List Int} {b m : Nat} (hx : Nums x p) (h2 : p.length ≤ 32) (hb : ∀ a ∈ p, Bd b a) (b70 : b ≤ 70) (m1 : 1 ≤ m) (m2 : m ≤ 100) (p1 : 1 ≤ p.length) : runV 6 b_traces_by [x, .int m] = .ok (.tup ((traces p m).map .int)) := by
  have h1 := hx.sq
  have hln := hx.ln
  have hf : ∀ a ∈ p.reverse, Bd b a := fun a ha => hb a (List.mem_reverse.mp ha)
  have hn : Bd 5 ((p.length : Int) - 1) := by unfold Bd; omega
  have tb : ∀ k, k ≤ 100 → ∀ t ∈ tr p.reverse ((p.length : Int) - 1) k, Bd 8000 t := fun k hk t ht =>
    (tr_bd hf (by rw [List.length_reverse]; exact h2) hn k t ht).mono (Nat.le_trans (Nat.add_le_add_left (Nat.mul_le_mul hk (show b + 6 ≤ 76 by omega)) 5) (by decide))
  obtain ⟨ρ', k1, u', v', -, -, -, k2⟩ := e_loopR (tg := nameT 4) (s := seqS (asgS 5 (ifM (tstM blV (binM ltV (varM 4) (cbM (f1 lenV) (consA (varM 2) nilA)))) (binM mulV (varM 4) (binM ixV (varM 2) (varM 4))) (cstM (.int 0)))) (appS 3 (binM subV (unM negV (varM 5)) (callM 2 4 b__joined (consA (listM (slOM 3 (parP (cstM (.int 1))) noP)) (consA (slM (varM 2) (parP (cstM (.int 1))) noP) nilA))))))
    (fun i ρ => ∃ u v, Fr u ∧ Fr v ∧ 1 ≤ i ∧ ρ = [some (.fz x), some (.fz (.int m)), some (.fz (.lst (p.reverse.map .int))), some (.ow false ((tr p.reverse ((p.length : Int) - 1) (i - 1).toNat).map .int)), u, v])
    ((m : Int) - 1).toNat 1 [some (.fz x), some (.fz (.int m)), some (.fz (.lst (p.reverse.map .int))), some (.ow false [.int ((p.length : Int) - 1)]), none, none] ⟨none, none, .none, .none, by decide, rfl⟩
    fun i ρ lo hi ⟨u, v, fu, fv, _, e⟩ => by
      subst e
      obtain ⟨k, rfl⟩ : ∃ k : Nat, i = (k : Int) + 1 := ⟨(i - 1).toNat, by omega⟩
      have ek : ((k : Int) + 1 - 1).toNat = k := by omega
      have ek2 : ((k : Int) + 1 + 1 - 1).toNat = k + 1 := by omega
      rw [ek]
      have kb := tb k (by omega)
      have jb := v_joined (x := .lst (((tr p.reverse ((p.length : Int) - 1) k).drop 1).map .int)) (ts := (tr p.reverse ((p.length : Int) - 1) k).drop 1) (fs := p.reverse.drop 1) (.lst _) (by rw [List.length_drop, tr_length]; omega) (fun t ht => kb t (List.mem_of_mem_drop ht)) (fun t ht => (hf t (List.mem_of_mem_drop ht)).mono (by omega))
      have ll := lenV_ints p.reverse
      have t1 : ifM (tstM blV (binM ltV (varM 4) (cbM (f1 lenV) (consA (varM 2) nilA)))) (binM mulV (varM 4) (binM ixV (varM 2) (varM 4))) (cstM (.int 0)) [some (.fz x), some (.fz (.int m)), some (.fz (.lst (p.reverse.map .int))), some (.ow false ((tr p.reverse ((p.length : Int) - 1) k).map .int)), some (.fz (.int ((k : Int) + 1))), v] = .ok (.int (if k + 1 < p.reverse.length then ((k + 1 : Nat) : Int) * gd p.reverse (k + 1) else 0), [some (.fz x), some (.fz (.int m)), some (.fz (.lst (p.reverse.map .int))), some (.ow false ((tr p.reverse ((p.length : Int) - 1) k).map .int)), some (.fz (.int ((k : Int) + 1))), v]) := by
        by_cases h : k + 1 < p.reverse.length
        · rw [if_pos h]
          have ix : ixV (.lst (p.reverse.map .int)) (.int ((k : Int) + 1)) = some (.int (gd p.reverse (k + 1))) := (Nums.lst p.reverse).ix h (ixN_pos h)
          have b1 : Bd 8000 ((k : Int) + 1) := .sm (by omega) (by decide)
          have b2 : Bd 8000 (gd p.reverse (k + 1)) := (gd_bd hf _).mono (by omega)
          have mm : mulV (.int ((k : Int) + 1)) (.int (gd p.reverse (k + 1))) = some (.int (((k + 1 : Nat) : Int) * gd p.reverse (k + 1))) := mulV_bd b1 b2
          have d : decide ((k : Int) + 1 < (p.reverse.length : Int)) = true := by apply decide_eq_true; omega
          apply e_ife
          · ac_rfl
          · apply ite_T d
            ac_rfl
        · rw [if_neg h]
          have d : decide ((k : Int) + 1 < (p.reverse.length : Int)) = false := by apply decide_eq_false; omega
          apply e_ife
          · ac_rfl
          · apply ite_F d
            ac_rfl
      have c1 : cutX ((tr p.reverse ((p.length : Int) - 1) k).map Val.int) (some 1) none = ((tr p.reverse ((p.length : Int) - 1) k).drop 1).map .int := by rw [cut_drop, map_drop]
      have c2 : slV (.lst (p.reverse.map Val.int)) (some 1) none = some (.lst ((p.reverse.drop 1).map .int)) := by show some (Val.lst (cutX (p.reverse.map Val.int) (some 1) none)) = _; rw [cut_drop, map_drop]
      have a1 := all_int (tr p.reverse ((p.length : Int) - 1) k)
      have l1 : ((tr p.reverse ((p.length : Int) - 1) k).map Val.int).length < sizeLine := by rw [List.length_map, tr_length]; exact sz_lt (by omega)
      refine ⟨_, _, t_name (fsS (fsS (fsS (fsS (fs0 fu))))) rfl, ?_, some (.fz (.int ((k : Int) + 1))), some (.fz (.int (if k + 1 < p.reverse.length then ((k + 1 : Nat) : Int) * gd p.reverse (k + 1) else 0))), .fz, .fz, by omega, rfl⟩
      rw [ek2]
      show seqS _ _ [some (.fz x), some (.fz (.int m)), some (.fz (.lst (p.reverse.map .int))), some (.ow false ((tr p.reverse ((p.length : Int) - 1) k).map .int)), some (.fz (.int ((k : Int) + 1))), v] = _
      rw [show (tr p.reverse ((p.length : Int) - 1) (k + 1)).map Val.int = (tr p.reverse ((p.length : Int) - 1) k).map Val.int ++ [.int (-(if k + 1 < p.reverse.length then ((k + 1 : Nat) : Int) * gd p.reverse (k + 1) else 0) - jn ((tr p.reverse ((p.length : Int) - 1) k).drop 1) (p.reverse.drop 1))] by simp only [tr, List.map_append, List.map_cons, List.map_nil]]
      ac_rfl
  subst k2
  have em : (1 + (((m : Int) - 1).toNat : Int) - 1).toNat = m - 1 := by omega
  rw [em] at k1
  have c3 : cutX ((tr p.reverse ((p.length : Int) - 1) (m - 1)).map Val.int) none (some (m : Int)) = (tr p.reverse ((p.length : Int) - 1) (m - 1)).map .int := by
    rw [cut_take _ _ (by rw [List.length_map, tr_length]; omega)]
    exact List.take_of_length_le (by rw [List.length_map, tr_length]; omega)
  have a3 := all_int (tr p.reverse ((p.length : Int) - 1) (m - 1))
  have e1 : f1 tupOfV [.lst ((tr p.reverse ((p.length : Int) - 1) (m - 1)).map .int)] = some (.tup ((tr p.reverse ((p.length : Int) - 1) (m - 1)).map .int)) := rfl
  have rv : lrevF (varM 0) [some (.fz x), some (.fz (.int m)), none, none, none, none] = .ok (p.reverse.map .int, [some (.fz x), some (.fz (.int m)), none, none, none, none]) := by
    refine e_as (e_lrevF (e_var rfl) h1) ?_
    rw [List.map_reverse]
  apply e_runE [some (.fz x), some (.fz (.int m)), none, none, none, none] rfl
  · unfold b_traces_by
    ac_rfl
  · unfold traces; rfl
end Y

set_option Elab.async false
set_option linter.all false
set_option maxRecDepth 100000
set_option maxHeartbeats 400000
set_option autoImplicit false
namespace Y
open PySem PySem.Spec PyProof.Rows L2 Z
local macro_rules | `(tactic| infer_instance) => `(tactic| first | (show _ = _; with_reducible assumption) | (show Bd _ _; with_reducible assumption) | (show _ < _; with_reducible assumption) | (show _ ≤ _; with_reducible assumption) | (show Fr _; first | with_reducible assumption | with_reducible exact Fr.fz | with_reducible exact Fr.none) | with_reducible exact (eqV_int _ _) | with_reducible exact (neV_int _ _) | with_reducible exact (eqV_lst _ _) | with_reducible exact (neV_lst _ _) | with_reducible exact (eqV_tup _ _) | with_reducible exact (neV_tup _ _) | with_reducible exact (sumV_ints _) | with_reducible exact (lenV_ints _) | with_reducible exact (lenV_tints _) | with_reducible exact (absVl_int _) | with_reducible exact wp0 | with_reducible exact st0 | with_reducible exact (small_sz rfl) | with_reducible exact (small_lt rfl) | with_reducible exact (melts_int _) | with_reducible exact e_cst | with_reducible exact e_nilA | with_reducible exact e_next | with_reducible exact e_yesB | with_reducible exact e_noP | with_reducible exact e_cL0 | with_reducible exact e_forL_nil | with_reducible apply e_var | with_reducible apply e_bin | with_reducible apply e_un | with_reducible apply e_tst | with_reducible apply e_or | with_reducible apply e_and | with_reducible apply e_orV | with_reducible apply e_andV | with_reducible apply e_ife | with_reducible apply e_if | with_reducible apply e_notB | with_reducible apply e_consA | with_reducible apply e_tupM | with_reducible apply e_lstM | with_reducible apply e_dispF | with_reducible apply e_cbM | with_reducible apply e_cfM | with_reducible apply e_bfM | with_reducible apply e_ownL | with_reducible apply e_listI | with_reducible apply e_walkM | with_reducible apply e_lrevF | with_reducible apply e_zrM | with_reducible apply e_enum | with_reducible apply e_rng1 | with_reducible apply e_rng2 | with_reducible apply e_parP | with_reducible apply e_sl | with_reducible apply e_slO | with_reducible apply e_view | with_reducible apply e_zipL | with_reducible apply e_chnT | with_reducible apply e_seq | with_reducible apply e_forS | with_reducible apply e_asg | with_reducible apply e_ret | with_reducible apply e_drop | with_reducible apply e_raise | with_reducible apply e_new | with_reducible apply e_newT | with_reducible apply e_par | with_reducible apply e_parNS | with_reducible apply e_asgT | with_reducible apply t_tup2 | with_reducible apply t_tup3 | with_reducible apply t_name | with_reducible apply e_ixO | with_reducible apply e_setS | with_reducible apply e_app | with_reducible apply e_melt | with_reducible apply e_callM | with_reducible apply e_callO | with_reducible apply wpS | with_reducible apply stS | with_reducible apply mulV_bd | with_reducible apply divV_pos | with_reducible apply modV_pos | with_reducible apply f1_of | with_reducible apply f2_of | (with_reducible apply ite_T; first | (show _ = _; with_reducible assumption) | rfl | (apply decide_eq_true; omega)) | (with_reducible apply ite_F; first | (show _ = _; with_reducible assumption) | rfl | (apply decide_eq_false; omega)) | exact rfl | decide | (show _ ∧ _; omega) | with_reducible exact bd_lit (by decide) (by decide) | with_reducible exact bd_mod (by decide) (by decide) (by decide) | with_reducible apply powV_nat | (show _ < _; omega) | (show _ ≤ _; omega) | (with_reducible apply fs0; assumption) | with_reducible apply fsS)
local macro_rules | `(tactic| ac_rfl) => `(tactic| repeat' (first | infer_instance | fail))
local macro_rules | `(tactic| infer_instance) => `(tactic| with_reducible exact v_is_integer _)
theorem Nums.sl {x : Val} {t : List Int} (h : Nums x t) (m : Nat) (hm : m + 1 ≤ t.length) : ∃ y, Nums y ((t.drop 1).take m) ∧ slV x (some 1) (some ((m : Int) + 1)) = some y := by
  have c : cutX (t.map Val.int) (some 1) (some ((m : Int) + 1)) = ((t.drop 1).take m).map .int := by
    rw [show (m : Int) + 1 = ((m + 1 : Nat) : Int) from rfl, cut_mid _ _ (by rw [List.length_map]; exact hm), map_drop, map_take]
  rcases h.is with rfl | rfl
  · exact ⟨_, .lst _, by show some (Val.lst (cutX (t.map Val.int) (some 1) (some ((m : Int) + 1)))) = _; rw [c]⟩
  · exact ⟨_, .tup _, by show some (Val.tup (cutX (t.map Val.int) (some 1) (some ((m : Int) + 1)))) = _; rw [c]⟩
def polyV (t : List Int) : Val := match polyOf t with | some p => .tup (p.map .int) | none => .non
theorem poly_turn {x : Val} {t : List Int} {c : Nat} (hx : Nums x t) (h2 : t.length ≤ 25) (hc : ∀ a ∈ t, Bd c a) (c250 : c ≤ 250) {f : List Int} {k : Nat} (hk : k + 1 < t.length) (hf : flp t k = some f) {v : Option SV} (hv : v = none ∨ ∃ y, v = some (.fz y)) :
    (∃ g, flp t (k + 1) = some g ∧ seqS (asgS 3 (viewM 1 (callM 2 4 b__joined (consA (slM (varM 0) (parP (cstM (.int 1))) (parP (binM addV2 (varM 2) (cstM (.int 1))))) (consA (varM 1) nilA))))) (seqS (ifS (tstM blV (binM neV (binM modV (varM 3) (varM 2)) (cstM (.int 0)))) (retS (cstM .non)) nextS) (appS 1 (binM divV (unM negV (varM 3)) (varM 2)))) [some (.fz x), some (.ow false (f.map .int)), some (.fz (.int ((k : Int) + 1))), v] = .ok (.nx [some (.fz x), some (.ow false (g.map .int)), some (.fz (.int ((k : Int) + 1))), some (.fz (.int (jn ((t.drop 1).take (k + 1)) f)))])) ∨
    (flp t (k + 1) = none ∧ seqS (asgS 3 (viewM 1 (callM 2 4 b__joined (consA (slM (varM 0) (parP (cstM (.int 1))) (parP (binM addV2 (varM 2) (cstM (.int 1))))) (consA (varM 1) nilA))))) (seqS (ifS (tstM blV (binM neV (binM modV (varM 3) (varM 2)) (cstM (.int 0)))) (retS (cstM .non)) nextS) (appS 1 (binM divV (unM negV (varM 3)) (varM 2)))) [some (.fz x), some (.ow false (f.map .int)), some (.fz (.int ((k : Int) + 1))), v] = .ok (.rt .non [some (.fz x), some (.ow false (f.map .int)), some (.fz (.int ((k : Int) + 1))), some (.fz (.int (jn ((t.drop 1).take (k + 1)) f)))])) := by
  obtain ⟨y, ny, sl⟩ := hx.sl (k + 1) (by omega)
  obtain ⟨lf, bf⟩ := flp_bd hc k f (by omega) hf
  have jb := v_joined (x := y) (ts := (t.drop 1).take (k + 1)) (fs := f) ny (by rw [List.length_take]; omega) (fun t ht => (hc t (List.mem_of_mem_drop (List.mem_of_mem_take ht))).mono (by omega)) (fun g hg => (bf g hg).mono (by
    have := Nat.mul_le_mul (show k ≤ 24 by omega) (show c + 5 ≤ 255 by omega)
    omega))
  have kp : 0 < (k : Int) + 1 := by omega
  have b60 : Bd 60 ((k : Int) + 1) := .sm (by omega) (by decide)
  have al : alone [some (.fz x), some (.ow false (f.map .int)), some (.fz (.int ((k : Int) + 1))), v] 1 = true := by rcases hv with rfl | ⟨y, rfl⟩ <;> rfl
  have fv : Fr v := by rcases hv with rfl | ⟨y, rfl⟩ <;> first | exact .none | exact .fz
  have me : Val.melt (.olst (f.map .int)) = .lst (f.map .int) := by unfold Val.melt; rw [melts_int]
  have vw : viewM 1 (callM 2 4 b__joined (consA (slM (varM 0) (parP (cstM (.int 1))) (parP (binM addV2 (varM 2) (cstM (.int 1))))) (consA (varM 1) nilA))) [some (.fz x), some (.ow false (f.map .int)), some (.fz (.int ((k : Int) + 1))), v] = .ok (.int (jn ((t.drop 1).take (k + 1)) f), [some (.fz x), some (.ow false (f.map .int)), some (.fz (.int ((k : Int) + 1))), v]) := by
    refine e_view (ρ1 := [some (.fz x), some (.fz (.lst (f.map .int))), some (.fz (.int ((k : Int) + 1))), v]) rfl al (by rw [me]; rfl) (ρ2 := [some (.fz x), some (.fz (.lst (f.map .int))), some (.fz (.int ((k : Int) + 1))), v]) ?_ rfl
    have sl' : slV x (some 1) (some ((k : Int) + 1 + 1)) = some y := sl
    ac_rfl
  have fe : flp t (k + 1) = if jn ((t.drop 1).take (k + 1)) f % ((k : Int) + 1) = 0 then some (f ++ [-(jn ((t.drop 1).take (k + 1)) f) / ((k : Int) + 1)]) else none := by
    show (flp t k).bind _ = _
    rw [hf]; rfl
  have ls : (f.map Val.int).length < sizeLine := by rw [List.length_map]; exact sz_lt (by omega)
  by_cases h0 : jn ((t.drop 1).take (k + 1)) f % ((k : Int) + 1) = 0
  · rw [if_pos h0] at fe
    have d : (!decide (jn ((t.drop 1).take (k + 1)) f % ((k : Int) + 1) = 0)) = false := by rw [decide_eq_true h0]; rfl
    refine .inl ⟨_, fe, ?_⟩
    rw [show (f ++ [-(jn ((t.drop 1).take (k + 1)) f) / ((k : Int) + 1)]).map Val.int = f.map Val.int ++ [.int (-(jn ((t.drop 1).take (k + 1)) f) / ((k : Int) + 1))] by simp]
    ac_rfl
  · rw [if_neg h0] at fe
    have d : (!decide (jn ((t.drop 1).take (k + 1)) f % ((k : Int) + 1) = 0)) = true := by rw [decide_eq_false h0]; rfl
    refine .inr ⟨fe, ?_⟩
    apply e_seq
    · ac_rfl
    · apply e_seqR
      ac_rfl
theorem v_polynomial_by {x : Val} {t : List Int} {c : Nat} (hx : Nums x t) (h1 : 1 ≤ t.length) (h2 : t.length ≤ 25) (hc : ∀ a ∈ t, Bd c a) (c250 : c ≤ 250) : runV 4 b_polynomial_by [x] = .ok (polyV t) := by
  have hln := hx.ln
  have key := e_loopE (tg := nameT 2) (s := seqS (asgS 3 (viewM 1 (callM 2 4 b__joined (consA (slM (varM 0) (parP (cstM (.int 1))) (parP (binM addV2 (varM 2) (cstM (.int 1))))) (consA (varM 1) nilA))))) (seqS (ifS (tstM blV (binM neV (binM modV (varM 3) (varM 2)) (cstM (.int 0)))) (retS (cstM .non)) nextS) (appS 1 (binM divV (unM negV (varM 3)) (varM 2)))))
    (fun i ρ => ∃ u v f, Fr u ∧ (v = none ∨ ∃ y, v = some (.fz y)) ∧ 1 ≤ i ∧ flp t (i - 1).toNat = some f ∧ ρ = [some (.fz x), some (.ow false (f.map .int)), u, v])
    (fun y => y = .non ∧ flp t (t.length - 1) = none) ((t.length : Int) - 1).toNat 1 [some (.fz x), some (.ow false [.int 1]), none, none] ⟨none, none, [1], .none, .inl rfl, by decide, rfl, rfl⟩
    fun i ρ lo hi ⟨u, v, f, fu, hv, _, hf, e⟩ => by
      subst e
      obtain ⟨k, rfl⟩ : ∃ k : Nat, i = (k : Int) + 1 := ⟨(i - 1).toNat, by omega⟩
      have ek : ((k : Int) + 1 - 1).toNat = k := by omega
      have ek2 : ((k : Int) + 1 + 1 - 1).toNat = k + 1 := by omega
      rw [ek] at hf
      refine ⟨_, t_name (fsS (fsS (fs0 fu))) rfl, ?_⟩
      rcases poly_turn hx h2 hc c250 (k := k) (by omega) hf hv with ⟨g, q1, q2⟩ | ⟨q1, q2⟩
      · exact .inl ⟨_, q2, _, _, g, .fz, .inr ⟨_, rfl⟩, by omega, by rw [ek2]; exact q1, rfl⟩
      · refine .inr ⟨_, _, q2, rfl, ?_⟩
        have := flp_none q1 (t.length - 1 - (k + 1))
        rw [show k + 1 + (t.length - 1 - (k + 1)) = t.length - 1 by omega] at this
        exact this
  rcases key with ⟨ρ', k1, u, v, f, fu, hv, _, hf, e⟩ | ⟨y, ρ', k1, rfl, k2⟩
  · subst e
    rw [show (1 + (((t.length : Int) - 1).toNat : Int) - 1).toNat = t.length - 1 by omega] at hf
    have tv : trevV (.lst (f.map .int)) = some (.tup (f.reverse.map .int)) := by show some (Val.tup (f.map Val.int).reverse) = _; rw [List.map_reverse]
    apply e_runE [some (.fz x), none, none, none] rfl
    · unfold b_polynomial_by
      ac_rfl
    · unfold polyV polyOf; rw [hf]; rfl
  · apply e_runE [some (.fz x), none, none, none] rfl
    · unfold b_polynomial_by
      apply e_seq
      · ac_rfl
      · apply e_seqR
        ac_rfl
    · unfold polyV polyOf; rw [k2]; rfl
end Y

set_option Elab.async false
set_option linter.all false
set_option maxRecDepth 100000
set_option maxHeartbeats 400000
set_option autoImplicit false
namespace Y
open PySem PySem.Spec PyProof.Rows L2 Z
local macro_rules | `(tactic| infer_instance) => `(tactic| first | (show _ = _; with_reducible assumption) | (show Bd _ _; with_reducible assumption) | (show _ < _; with_reducible assumption) | (show _ ≤ _; with_reducible assumption) | (show Fr _; first | with_reducible assumption | with_reducible exact Fr.fz | with_reducible exact Fr.none) | with_reducible exact (eqV_int _ _) | with_reducible exact (neV_int _ _) | with_reducible exact (eqV_lst _ _) | with_reducible exact (neV_lst _ _) | with_reducible exact (eqV_tup _ _) | with_reducible exact (neV_tup _ _) | with_reducible exact (sumV_ints _) | with_reducible exact (lenV_ints _) | with_reducible exact (lenV_tints _) | with_reducible exact (absVl_int _) | with_reducible exact wp0 | with_reducible exact st0 | with_reducible exact (small_sz rfl) | with_reducible exact (small_lt rfl) | with_reducible exact (melts_int _) | with_reducible exact e_cst | with_reducible exact e_nilA | with_reducible exact e_next | with_reducible exact e_yesB | with_reducible exact e_noP | with_reducible exact e_cL0 | with_reducible exact e_forL_nil | with_reducible apply e_var | with_reducible apply e_bin | with_reducible apply e_un | with_reducible apply e_tst | with_reducible apply e_or | with_reducible apply e_and | with_reducible apply e_orV | with_reducible apply e_andV | with_reducible apply e_ife | with_reducible apply e_if | with_reducible apply e_notB | with_reducible apply e_consA | with_reducible apply e_tupM | with_reducible apply e_lstM | with_reducible apply e_dispF | with_reducible apply e_cbM | with_reducible apply e_cfM | with_reducible apply e_bfM | with_reducible apply e_ownL | with_reducible apply e_listI | with_reducible apply e_walkM | with_reducible apply e_lrevF | with_reducible apply e_zrM | with_reducible apply e_enum | with_reducible apply e_rng1 | with_reducible apply e_rng2 | with_reducible apply e_parP | with_reducible apply e_sl | with_reducible apply e_slO | with_reducible apply e_view | with_reducible apply e_zipL | with_reducible apply e_chnT | with_reducible apply e_seq | with_reducible apply e_forS | with_reducible apply e_asg | with_reducible apply e_ret | with_reducible apply e_drop | with_reducible apply e_raise | with_reducible apply e_new | with_reducible apply e_newT | with_reducible apply e_par | with_reducible apply e_parNS | with_reducible apply e_asgT | with_reducible apply t_tup2 | with_reducible apply t_tup3 | with_reducible apply t_name | with_reducible apply e_ixO | with_reducible apply e_setS | with_reducible apply e_app | with_reducible apply e_melt | with_reducible apply e_callM | with_reducible apply e_callO | with_reducible apply wpS | with_reducible apply stS | with_reducible apply mulV_bd | with_reducible apply divV_pos | with_reducible apply modV_pos | with_reducible apply f1_of | with_reducible apply f2_of | (with_reducible apply ite_T; first | (show _ = _; with_reducible assumption) | rfl | (apply decide_eq_true; omega)) | (with_reducible apply ite_F; first | (show _ = _; with_reducible assumption) | rfl | (apply decide_eq_false; omega)) | exact rfl | decide | (show _ ∧ _; omega) | with_reducible exact bd_lit (by decide) (by decide) | with_reducible exact bd_mod (by decide) (by decide) (by decide) | with_reducible apply powV_nat | (show _ < _; omega) | (show _ ≤ _; omega) | (with_reducible apply fs0; assumption) | with_reducible apply fsS)
local macro_rules | `(tactic| ac_rfl) => `(tactic| repeat' (first | infer_instance | fail))
/-! draws -/
def CupV (cs : List Int) (t r : Int) : List Val := [.lst (cs.map .int), .int t, .int r]
structure Cup (k : Nat) (s : SV) : Prop where
  ex : ∃ (p : Bool) (cs : List Int) (t r : Int), s = .ow p (CupV cs t r) ∧ 0 ≤ t ∧ t ≤ k ∧ 0 ≤ r ∧ ∀ c ∈ cs, c.natAbs.log2 < 50000000
theorem Cup.own {k : Nat} {s : SV} (h : Cup k s) : s.own = true := by
  obtain ⟨p, cs, t, r, rfl, _⟩ := h.ex; rfl
theorem Cup.flat {k : Nat} {s : SV} (h : Cup k s) : s.flat = true := by
  obtain ⟨p, cs, t, r, rfl, _⟩ := h.ex; rfl
theorem Cup.setPin {k : Nat} {s : SV} {q : Bool} (h : Cup k s) : Cup k (s.setPin q) := by
  obtain ⟨p, cs, t, r, rfl, h'⟩ := h.ex
  exact ⟨q, cs, t, r, rfl, h'⟩
theorem Cup.le {k l : Nat} {s : SV} (h : Cup k s) (e : k ≤ l) : Cup l s := by
  obtain ⟨p, cs, t, r, rfl, h1, h2, h3⟩ := h.ex
  exact ⟨p, cs, t, r, rfl, h1, by omega, h3⟩
theorem log2_mono {a b : Nat} (h : a ≤ b) : a.log2 ≤ b.log2 := by
  by_cases ha : a = 0
  · subst ha; simp
  · exact (Nat.le_log2 (by omega)).mpr (Nat.le_trans (Nat.log2_self_le ha) h)
theorem atI_mem {xs : List Val} {t : Int} (h0 : 0 ≤ t) (h1 : t < xs.length) : ∃ x, x ∈ xs ∧ atI xs t = some x := by
  obtain ⟨n, rfl⟩ := Int.eq_ofNat_of_zero_le h0
  have hn : n < xs.length := by omega
  refine ⟨xs[n], List.getElem_mem hn, ?_⟩
  unfold atI
  rw [ixN_pos hn]
  exact List.getElem?_eq_getElem hn
theorem pow18 : powV (.int 10) (.int 18) = some (.int 1000000000000000000) := by
  unfold powV
  dsimp only
  rw [if_pos ⟨by decide, by decide, by decide⟩]
  rfl
theorem lot_ok {k : Nat} {s : SV} {many : Int} (h : Cup k s) (hk : k ≤ 1000) (h1 : 1 ≤ many) (hm : many ≤ 1000) : ∃ v s', runO 6 b__law_lot s [.int many] = .ok (.int v, s') ∧ 0 ≤ v ∧ v < many ∧ Cup (k + 1) s' := by
  obtain ⟨p, cs, t, r, rfl, ht0, htk, hr0, hc⟩ := h.ex
  have mp : 0 < many := by omega
  have mb : Bd 60 many := .sm (by omega) (by decide)
  have md : ∀ z : Int, 0 ≤ z % many ∧ z % many < many := fun z => ⟨Int.emod_nonneg _ (by omega), Int.emod_lt_of_pos _ mp⟩
  have p18 := pow18
  by_cases hr : 0 < r
  · have d : decide (0 < r) = true := decide_eq_true hr
    refine ⟨r % many, .ow p (CupV cs t (r / many)), ?_, (md _).1, (md _).2, p, cs, t, r / many, rfl, ht0, by omega, Int.ediv_nonneg hr0 (by omega), hc⟩
    apply e_runOE [some (.ow true (CupV cs t r)), some (.fz (.int many)), none, none, none, none] rfl
    · unfold b__law_lot
      apply e_seqR
      ac_rfl
    all_goals rfl
  · have d : decide (0 < r) = false := decide_eq_false hr
    have bt : Bd 8000 t := .sm (by omega) (by decide)
    have ll := lenV_ints cs
    -- the cell
    obtain ⟨c, hcell, hbig⟩ : ∃ c : Int, ifS (tstM blV (binM neV (ixO 0 (cstM (.int 0))) (lstM nilA))) (asgS 4 (binM ixV (ixO 0 (cstM (.int 0))) (binM modV (cbM (f1 intV) (consA (varM 3) nilA)) (cbM (f1 lenV) (consA (ixO 0 (cstM (.int 0))) nilA))))) nextS [some (.ow true (CupV cs (t + 1) r)), some (.fz (.int many)), none, some (.fz (.int t)), some (.fz (.int (61007 * t + 4007))), none] =
        .ok (.nx [some (.ow true (CupV cs (t + 1) r)), some (.fz (.int many)), none, some (.fz (.int t)), some (.fz (.int c)), none]) ∧ (t < cs.length → c.natAbs.log2 < 50000000) := by
      have ne : neV (.lst (cs.map .int)) (.lst []) = some (.bl (!decide (cs = []))) := neV_lst cs []
      by_cases hcs : cs = []
      · have d2 : (!decide (cs = [])) = false := by rw [decide_eq_true hcs]; rfl
        refine ⟨61007 * t + 4007, ?_, fun z => ?_⟩
        · ac_rfl
        · subst hcs; simp at z; omega
      · have d2 : (!decide (cs = [])) = true := by rw [decide_eq_false hcs]; rfl
        have hl : 0 < cs.length := List.length_pos_iff.mpr hcs
        have hl2 : (0 : Int) < cs.length := by omega
        obtain ⟨x, hx, ex⟩ := atI_mem (xs := cs.map Val.int) (t := t % cs.length) (Int.emod_nonneg _ (by omega)) (by rw [List.length_map]; exact Int.emod_lt_of_pos _ (by omega))
        obtain ⟨c, hcm, rfl⟩ := List.mem_map.mp hx
        have ix : ixV (.lst (cs.map .int)) (.int (t % cs.length)) = some (.int c) := ex
        refine ⟨c, ?_, fun _ => hc c hcm⟩
        ac_rfl
    have hA : (if c < 0 then -c else c) = (c.natAbs : Int) := by split <;> omega
    by_cases hb : t < cs.length ∧ 1000000000000000000 ≤ (if c < 0 then -c else c)
    · have hlg : ((if c < 0 then -c else c) - 1000000000000000000 : Int).natAbs.log2 < 100000000 := by
        have h1 := hbig hb.1
        have h2 : ((if c < 0 then -c else c) - 1000000000000000000 : Int).natAbs ≤ c.natAbs := by omega
        have h3 := log2_mono h2
        omega
      have mm := mulV_big (i := 2) (j := (if c < 0 then -c else c) - 1000000000000000000) (bd_lit (by decide) (by decide)) hlg
      have d3 : decide (t < (cs.length : Int)) = true := decide_eq_true hb.1
      have d4 : decide (1000000000000000000 ≤ (if c < 0 then -c else c)) = true := decide_eq_true hb.2
      refine ⟨(2 * ((if c < 0 then -c else c) - 1000000000000000000) + (if decide (c < 0) = true then 1 else 0)) % many, .ow p (CupV cs (t + 1) ((2 * ((if c < 0 then -c else c) - 1000000000000000000) + (if decide (c < 0) = true then 1 else 0)) / many)), ?_, (md _).1, (md _).2, p, cs, t + 1, _, rfl, by omega, by omega, Int.ediv_nonneg (by
          have : (0 : Int) ≤ if decide (c < 0) = true then 1 else 0 := by split <;> omega
          omega) (by omega), hc⟩
      apply e_runOE [some (.ow true (CupV cs t r)), some (.fz (.int many)), none, none, none, none] rfl
      · unfold b__law_lot
        apply e_seq
        · ac_rfl
        apply e_seq
        · ac_rfl
        apply e_seq
        · ac_rfl
        apply e_seq
        · ac_rfl
        apply e_seq
        · exact hcell
        apply e_seqR
        ac_rfl
      all_goals rfl
    · have d34 : decide (t < (cs.length : Int)) = true → decide (1000000000000000000 ≤ (if c < 0 then -c else c)) = false := fun z => decide_eq_false fun y => hb ⟨of_decide_eq_true z, y⟩
      have m31 : ∀ z : Int, Bd 31 (z % 2147483549) := fun z => by unfold Bd; omega
      have bt10 : Bd 10 t := by unfold Bd; omega
      have b1 : Bd 8000 (2 * t + 4007) := .sm (by omega) (by decide)
      have b2 : Bd 8000 (61007 * t) := .sm (by omega) (by decide)
      have p3 : ∀ z : Int, (z % 2147483549 * (2 * t + 4007) + 61007 * t * t + 71023).natAbs < 2 ^ 64 := fun z => by
        have q1 := (m31 z).mul (show Bd 13 (2 * t + 4007) by unfold Bd; omega)
        have q2 := (show Bd 26 (61007 * t) by unfold Bd; omega).mul bt10
        unfold Bd at q1 q2
        omega
      have p3' := p3 ((c % 2147483563 + 71023 * t + 4007) ^ (5 : Int).toNat)
      have b3 : Bd 8000 (61007 * t * t) := (((show Bd 26 (61007 * t) by unfold Bd; omega).mul bt10)).mono (by decide)
      have test : andB (tstM blV (binM ltV (varM 3) (cbM (f1 lenV) (consA (ixO 0 (cstM (.int 0))) nilA)))) (tstM blV (binM geV (cbM (f1 absVl) (consA (varM 4) nilA)) (binM powV (cstM (.int 10)) (cstM (.int 18))))) [some (.ow true (CupV cs (t + 1) r)), some (.fz (.int many)), none, some (.fz (.int t)), some (.fz (.int c)), none] = .ok (false, [some (.ow true (CupV cs (t + 1) r)), some (.fz (.int many)), none, some (.fz (.int t)), some (.fz (.int c)), none]) := by
        by_cases h : t < cs.length
        · have d3 : decide (t < (cs.length : Int)) = true := decide_eq_true h
          have d4 := d34 d3
          apply e_and
          · ac_rfl
          · apply ite_T d3
            rw [← d4]
            ac_rfl
        · have d3 : decide (t < (cs.length : Int)) = false := decide_eq_false h
          ac_rfl
      refine ⟨(((c % 2147483563 + 71023 * t + 4007) ^ (5 : Int).toNat % 2147483549 * (2 * t + 4007) + 61007 * t * t + 71023) ^ (3 : Int).toNat % 2147483579 / 32) % many, .ow p (CupV cs (t + 1) r), ?_, (md _).1, (md _).2, p, cs, t + 1, r, rfl, by omega, by omega, hr0, hc⟩
      apply e_runOE [some (.ow true (CupV cs t r)), some (.fz (.int many)), none, none, none, none] rfl
      · unfold b__law_lot
        apply e_seq
        · ac_rfl
        apply e_seq
        · ac_rfl
        apply e_seq
        · ac_rfl
        apply e_seq
        · ac_rfl
        apply e_seq
        · exact hcell
        apply e_seq
        · apply e_if test
          ac_rfl
        ac_rfl
      all_goals rfl
end Y

set_option Elab.async false
set_option linter.all false
set_option maxRecDepth 100000
set_option maxHeartbeats 400000
set_option autoImplicit false
namespace Y
open PySem PySem.Spec PyProof.Rows L2 Z
local macro_rules | `(tactic| infer_instance) => `(tactic| first | (show _ = _; with_reducible assumption) | (show Bd _ _; with_reducible assumption) | (show _ < _; with_reducible assumption) | (show _ ≤ _; with_reducible assumption) | (show Fr _; first | with_reducible assumption | with_reducible exact Fr.fz | with_reducible exact Fr.none) | with_reducible exact (eqV_int _ _) | with_reducible exact (neV_int _ _) | with_reducible exact (eqV_lst _ _) | with_reducible exact (neV_lst _ _) | with_reducible exact (eqV_tup _ _) | with_reducible exact (neV_tup _ _) | with_reducible exact (sumV_ints _) | with_reducible exact (lenV_ints _) | with_reducible exact (lenV_tints _) | with_reducible exact (absVl_int _) | with_reducible exact wp0 | with_reducible exact st0 | with_reducible exact (small_sz rfl) | with_reducible exact (small_lt rfl) | with_reducible exact (melts_int _) | with_reducible exact e_cst | with_reducible exact e_nilA | with_reducible exact e_next | with_reducible exact e_yesB | with_reducible exact e_noP | with_reducible exact e_cL0 | with_reducible exact e_forL_nil | with_reducible apply e_var | with_reducible apply e_bin | with_reducible apply e_un | with_reducible apply e_tst | with_reducible apply e_or | with_reducible apply e_and | with_reducible apply e_orV | with_reducible apply e_andV | with_reducible apply e_ife | with_reducible apply e_if | with_reducible apply e_notB | with_reducible apply e_consA | with_reducible apply e_tupM | with_reducible apply e_lstM | with_reducible apply e_dispF | with_reducible apply e_cbM | with_reducible apply e_cfM | with_reducible apply e_bfM | with_reducible apply e_ownL | with_reducible apply e_listI | with_reducible apply e_walkM | with_reducible apply e_lrevF | with_reducible apply e_zrM | with_reducible apply e_enum | with_reducible apply e_rng1 | with_reducible apply e_rng2 | with_reducible apply e_parP | with_reducible apply e_sl | with_reducible apply e_slO | with_reducible apply e_view | with_reducible apply e_zipL | with_reducible apply e_chnT | with_reducible apply e_seq | with_reducible apply e_forS | with_reducible apply e_asg | with_reducible apply e_ret | with_reducible apply e_drop | with_reducible apply e_raise | with_reducible apply e_new | with_reducible apply e_newT | with_reducible apply e_par | with_reducible apply e_parNS | with_reducible apply e_asgT | with_reducible apply t_tup2 | with_reducible apply t_tup3 | with_reducible apply t_name | with_reducible apply e_ixO | with_reducible apply e_setS | with_reducible apply e_app | with_reducible apply e_melt | with_reducible apply e_callM | with_reducible apply e_callO | with_reducible apply wpS | with_reducible apply stS | with_reducible apply mulV_bd | with_reducible apply divV_pos | with_reducible apply modV_pos | with_reducible apply f1_of | with_reducible apply f2_of | ((with_reducible apply ite_T); first | (show _ = _; with_reducible assumption) | exact rfl | (apply decide_eq_true; omega)) | ((with_reducible apply ite_F); first | (show _ = _; with_reducible assumption) | exact rfl | (apply decide_eq_false; omega)) | exact rfl | decide | (show _ ∧ _; omega) | with_reducible exact bd_lit (by decide) (by decide) | with_reducible exact bd_mod (by decide) (by decide) (by decide) | with_reducible apply powV_nat | (show _ < _; omega) | (show _ ≤ _; omega) | (with_reducible apply fs0; assumption) | with_reducible apply fsS)
local macro_rules | `(tactic| ac_rfl) => `(tactic| repeat' (first | infer_instance | fail))
local macro_rules | `(tactic| infer_instance) => `(tactic| with_reducible exact v_is_integer _)
theorem le2 {n : Int} (h : 2 ≤ n) : leV (.int 2) (.int n) = some (.bl true) := by show some (Val.bl (decide (2 ≤ n))) = _; rw [decide_eq_true h]
theorem Nums.last {x : Val} {p : List Int} (hx : Nums x p) (hm : mon p) : ixV x (.int (-1)) = some (.int 1) := by
  have lp := List.length_pos_iff.mpr (mon_ne hm)
  have h : gd p (p.length - 1) = 1 := by
    have : gd p.reverse 0 = 1 := hm
    rw [gd_rev lp] at this
    exact this
  rw [hx.ix (i := p.length - 1) (by omega) (by have := ixN_neg (n := p.length) (i := p.length - 1) (by omega); rw [show ((p.length - 1 : Nat) : Int) - p.length = -1 by omega] at this; exact this), h]
theorem v_need {x : Val} {p : List Int} (hx : Nums x p) (hm : mon p) (h2 : 2 ≤ p.length) (h25 : p.length ≤ 25) : runV 1 b__need_polynomial [x] = .ok .non := by
  have ln := hx.ln
  have an := v_are_numbers hx (by omega)
  have c2 := le2 (n := p.length) (by omega)
  have la := hx.last hm
  have d : (!decide ((p.length : Int) ≤ 25)) = false := by rw [decide_eq_true (by omega)]; rfl
  apply e_runN [some (.fz x)] rfl
  unfold b__need_polynomial
  ac_rfl
theorem v_traces_from {x : Val} {p : List Int} {b m : Nat} (hx : Nums x p) (hm : mon p) (h2 : 2 ≤ p.length) (h25 : p.length ≤ 25) (hb : ∀ a ∈ p, Bd b a) (b70 : b ≤ 70) (m1 : 1 ≤ m) (m2 : m ≤ 100) : runV 2 b_traces_from [x, .int m] = .ok (.tup ((traces p m).map .int)) := by
  have nd := v_need hx hm h2 h25
  have wi := v_is_within (i := m) (l := 0) (m := 100) (by omega) (by omega)
  have tb := v_traces_by hx (by omega) hb b70 m1 m2 (by omega)
  apply e_runE [some (.fz x), some (.fz (.int m))] rfl
  · unfold b_traces_from
    ac_rfl
  · rfl
theorem v_polynomial_from {x : Val} {t : List Int} {c : Nat} (hx : Nums x t) (h2 : 2 ≤ t.length) (h25 : t.length ≤ 25) (h0 : gd t 0 = (t.length : Int) - 1) (hc : ∀ a ∈ t, Bd c a) (c250 : c ≤ 250) : runV 2 b_polynomial_from [x] = match polyOf t with | some p => .ok (.tup (p.map .int)) | none => .exc 1 ["part"] [.str "traces"] [] := by
  have ln := hx.ln
  have an := v_are_numbers hx (by omega)
  have c2 := le2 (n := t.length) (by omega)
  have pb := v_polynomial_by hx (by omega) h25 hc c250
  have ix := hx.ix (j := 0) (i := 0) (by omega) (by simpa using ixN_pos (n := t.length) (i := 0) (by omega))
  have d : (!decide ((t.length : Int) ≤ 25)) = false := by rw [decide_eq_true (by omega)]; rfl
  have d2 : (!decide (gd t 0 = (t.length : Int) - 1)) = false := by rw [decide_eq_true h0]; rfl
  unfold polyV at pb
  cases hp : polyOf t with
  | some p =>
    rw [hp] at pb
    apply e_runE [some (.fz x), none] rfl
    · unfold b_polynomial_from
      ac_rfl
    · rfl
  | none =>
    rw [hp] at pb
    apply e_runX [some (.fz x), none] rfl
    unfold b_polynomial_from
    apply e_seq
    · ac_rfl
    apply e_seq
    · ac_rfl
    apply e_seqX
    ac_rfl
theorem take_ok {k : Nat} {s : SV} {xs : List Val} (h : Cup k s) (hk : k ≤ 1000) (h0 : 0 < xs.length) (hl : xs.length ≤ 1000) : ∃ x s', x ∈ xs ∧ runO 2 b__law_take s [.lst xs] = .ok (x, s') ∧ Cup (k + 1) s' := by
  obtain ⟨v, s1, e1, v0, v1, c1⟩ := lot_ok (many := xs.length) (h.setPin (q := true)) hk (by omega) (by omega)
  obtain ⟨x, hx, ex⟩ := atI_mem v0 v1
  have ix : ixV (.lst xs) (.int v) = some x := ex
  have ow := h.setPin (q := true) |>.own
  have ln : lenV (.lst xs) = some (.int xs.length) := rfl
  refine ⟨x, s1.setPin s.pin, hx, ?_, c1.setPin⟩
  apply e_runOE [some (s.setPin true), some (.fz (.lst xs))] rfl
  · unfold b__law_take
    ac_rfl
  · rfl
  · rfl
  · exact c1.flat
  · rfl
/-! products -/
theorem enum_ints (a : List Int) : enumL 0 (a.map Val.int) = (List.range a.length).map fun i => .tup [.int (i : Int), .int (gd a i)] := by
  apply List.ext_getElem?
  intro i
  rw [enumL_get, List.getElem?_map, List.getElem?_map]
  by_cases h : i < a.length
  · rw [gd_get h, List.getElem?_range h]; simp
  · rw [List.getElem?_eq_none (by omega), List.getElem?_eq_none (by simp; omega)]; rfl
/-- what is found after i rows and j places -/
def fnd (a b : List Int) (i j : Nat) : List Int := (List.range (a.length + b.length - 1)).map (row (gd a) (gd b) b.length i j)
theorem fnd_length (a b : List Int) (i j : Nat) : (fnd a b i j).length = a.length + b.length - 1 := by unfold fnd; simp
theorem fnd_end (a b : List Int) : fnd a b a.length 0 = tm a b := by
  unfold fnd tm
  refine List.map_congr_left fun k _ => ?_
  exact row_end (fun i h => gd_ge h) (fun j h => gd_ge h)
theorem fnd_next (a b : List Int) (i : Nat) : fnd a b i b.length = fnd a b (i + 1) 0 := by
  unfold fnd
  exact List.map_congr_left fun k _ => row_next _ _ _ _ _
theorem times_cell {a b : List Int} (ha : ∀ x ∈ a, Bd 8000 x) (hb : ∀ x ∈ b, Bd 8000 x) {i j : Nat} (hi : i < a.length) (hj : j < b.length) {u v : Option SV} (fu : Fr u) (fv : Fr v) :
    ∃ ρ1, tupT 2 (consT (nameT 5) (consT (nameT 6) nilT)) (.tup [.int (j : Int), .int (gd b j)]) [some (.fz (.lst (a.map .int))), some (.fz (.lst (b.map .int))), some (.ow false ((fnd a b i j).map .int)), some (.fz (.int i)), some (.fz (.int (gd a i))), u, v] = some ρ1 ∧
      setS 2 (binM addV2 (varM 3) (varM 5)) (binM addV2 (ixO 2 (binM addV2 (varM 3) (varM 5))) (binM mulV (varM 4) (varM 6))) ρ1 = .ok (.nx [some (.fz (.lst (a.map .int))), some (.fz (.lst (b.map .int))), some (.ow false ((fnd a b i (j + 1)).map .int)), some (.fz (.int i)), some (.fz (.int (gd a i))), some (.fz (.int j)), some (.fz (.int (gd b j)))]) := by
  have hN : i + j < (fnd a b i j).length := by rw [fnd_length]; omega
  have hN2 : i + j < ((fnd a b i j).map Val.int).length := by rw [List.length_map]; exact hN
  have ba : Bd 8000 (gd a i) := gd_bd ha i
  have bb : Bd 8000 (gd b j) := gd_bd hb j
  have ix : ixN ((fnd a b i j).map Val.int).length ((i : Int) + (j : Int)) = some (i + j) := ixN_pos hN2
  have gt : ((fnd a b i j).map Val.int)[i + j]? = some (.int (row (gd a) (gd b) b.length i j (i + j))) := by
    rw [List.getElem?_map, gd_get hN]
    unfold fnd
    rw [gd_map (by rw [fnd_length] at hN; exact hN)]
    rfl
  have at_ : atI ((fnd a b i j).map Val.int) ((i : Int) + (j : Int)) = some (.int (row (gd a) (gd b) b.length i j (i + j))) := by
    unfold atI; rw [ix]; exact gt
  have st : ((fnd a b i j).map Val.int).set (i + j) (.int (row (gd a) (gd b) b.length i j (i + j) + gd a i * gd b j)) = (fnd a b i (j + 1)).map .int := by
    rw [← List.map_set]
    unfold fnd
    rw [row_put _ _ _ _ _ _ (by rw [fnd_length] at hN; exact hN)]
  refine ⟨[some (.fz (.lst (a.map .int))), some (.fz (.lst (b.map .int))), some (.ow false ((fnd a b i j).map .int)), some (.fz (.int i)), some (.fz (.int (gd a i))), some (.fz (.int j)), some (.fz (.int (gd b j)))], ?_, ?_⟩
  · ac_rfl
  · rw [← st]
    ac_rfl
theorem times_row {a b : List Int} (ha : ∀ x ∈ a, Bd 8000 x) (hb : ∀ x ∈ b, Bd 8000 x) {i : Nat} (hi : i < a.length) {u v : Option SV} (fu : Fr u) (fv : Fr v) (lb : b.length ≤ 1000) : ∃ u' v', Fr u' ∧ Fr v' ∧
    forS (enumM (consA (varM 1) nilA)) (tupT 2 (consT (nameT 5) (consT (nameT 6) nilT))) (setS 2 (binM addV2 (varM 3) (varM 5)) (binM addV2 (ixO 2 (binM addV2 (varM 3) (varM 5))) (binM mulV (varM 4) (varM 6)))) [some (.fz (.lst (a.map .int))), some (.fz (.lst (b.map .int))), some (.ow false ((fnd a b i 0).map .int)), some (.fz (.int i)), some (.fz (.int (gd a i))), u, v] =
      .ok (.nx [some (.fz (.lst (a.map .int))), some (.fz (.lst (b.map .int))), some (.ow false ((fnd a b (i + 1) 0).map .int)), some (.fz (.int i)), some (.fz (.int (gd a i))), u', v']) := by
  obtain ⟨ρ', k1, u', v', fu', fv', k2⟩ := e_loop (tg := tupT 2 (consT (nameT 5) (consT (nameT 6) nilT))) (s := setS 2 (binM addV2 (varM 3) (varM 5)) (binM addV2 (ixO 2 (binM addV2 (varM 3) (varM 5))) (binM mulV (varM 4) (varM 6)))) (fun j : Nat => .tup [.int (j : Int), .int (gd b j)])
    (fun j ρ => ∃ u v, Fr u ∧ Fr v ∧ ρ = [some (.fz (.lst (a.map .int))), some (.fz (.lst (b.map .int))), some (.ow false ((fnd a b i j).map .int)), some (.fz (.int i)), some (.fz (.int (gd a i))), u, v]) (List.range b.length) 0 _ ⟨u, v, fu, fv, rfl⟩
    fun j x ρ hj ⟨u, v, fu, fv, e⟩ => by
      subst e
      obtain ⟨h1, h2⟩ := List.getElem?_eq_some_iff.mp hj
      rw [List.length_range] at h1
      rw [List.getElem_range] at h2
      subst h2
      obtain ⟨ρ1, q1, q2⟩ := times_cell ha hb hi (j := j) h1 fu fv
      rw [Nat.zero_add]
      exact ⟨ρ1, _, q1, q2, _, _, .fz, .fz, rfl⟩
  subst k2
  rw [List.length_range, Nat.zero_add, fnd_next] at k1
  rw [← enum_ints] at k1
  exact ⟨u', v', fu', fv', e_forS (e_enum (e_consA (e_var rfl) e_nilA)) k1⟩
theorem v_times {a b : List Int} (ha : ∀ x ∈ a, Bd 8000 x) (hb : ∀ x ∈ b, Bd 8000 x) (la : a.length ≤ 300) (lb : b.length ≤ 300) (a1 : 1 ≤ a.length) : runV 7 b__law_times [.lst (a.map .int), .lst (b.map .int)] = .ok (.lst ((tm a b).map .int)) := by
  obtain ⟨ρ', k1, t, r, u, v, ft, fr, fu, fv, k2⟩ := e_loop (tg := tupT 2 (consT (nameT 3) (consT (nameT 4) nilT))) (s := forS (enumM (consA (varM 1) nilA)) (tupT 2 (consT (nameT 5) (consT (nameT 6) nilT))) (setS 2 (binM addV2 (varM 3) (varM 5)) (binM addV2 (ixO 2 (binM addV2 (varM 3) (varM 5))) (binM mulV (varM 4) (varM 6))))) (fun i : Nat => .tup [.int (i : Int), .int (gd a i)])
    (fun i ρ => ∃ t r u v, Fr t ∧ Fr r ∧ Fr u ∧ Fr v ∧ ρ = [some (.fz (.lst (a.map .int))), some (.fz (.lst (b.map .int))), some (.ow false ((fnd a b i 0).map .int)), t, r, u, v]) (List.range a.length) 0 _ ⟨none, none, none, none, .none, .none, .none, .none, rfl⟩
    fun i x ρ hi ⟨t, r, u, v, ft, fr, fu, fv, e⟩ => by
      subst e
      obtain ⟨h1, h2⟩ := List.getElem?_eq_some_iff.mp hi
      rw [List.length_range] at h1
      rw [List.getElem_range] at h2
      subst h2
      rw [Nat.zero_add]
      obtain ⟨u', v', fu', fv', q⟩ := times_row ha hb (i := i) h1 fu fv (by omega)
      refine ⟨[some (.fz (.lst (a.map .int))), some (.fz (.lst (b.map .int))), some (.ow false ((fnd a b i 0).map .int)), some (.fz (.int i)), some (.fz (.int (gd a i))), u, v], _, ?_, q, _, _, u', v', .fz, .fz, fu', fv', rfl⟩
      ac_rfl
  subst k2
  rw [List.length_range, Nat.zero_add, fnd_end, ← enum_ints] at k1
  have l1 := lenV_ints a
  have l2 := lenV_ints b
  have mf : mulF (.lst [.int 0]) (.int ((a.length : Int) + (b.length : Int) - 1)) = some ((fnd a b 0 0).map .int) := by
    unfold mulF
    dsimp only
    rw [if_pos ⟨by omega, by omega, by show 1 * _ ≤ 1000; omega⟩]
    congr 1
    apply List.ext_getElem?
    intro i
    unfold repL
    rw [show ((a.length : Int) + b.length - 1).toNat = a.length + b.length - 1 by omega]
    have fl1 : ∀ n : Nat, (List.replicate n [Val.int 0]).flatten = List.replicate n (.int 0) := fun n => by
      induction n with
      | zero => rfl
      | succ n ih => rw [List.replicate_succ, List.flatten_cons, ih]; rfl
    rw [fl1]
    have fl2 : (fnd a b 0 0) = List.replicate (a.length + b.length - 1) 0 := by
      unfold fnd
      exact (List.map_congr_left (g := fun _ => (0 : Int)) fun k _ => row_start _ _ _ _).trans (by rw [List.map_const', List.length_range])
    rw [fl2]; simp
  have m1 := melts_int (tm a b)
  apply e_runE [some (.fz (.lst (a.map .int))), some (.fz (.lst (b.map .int))), none, none, none, none, none] rfl
  · unfold b__law_times
    ac_rfl
  · rfl
end Y

set_option Elab.async false
set_option linter.all false
set_option maxRecDepth 100000
set_option maxHeartbeats 400000
set_option autoImplicit false
namespace Y
open PySem PySem.Spec PyProof.Rows L2 Z
local macro_rules | `(tactic| infer_instance) => `(tactic| first | (show _ = _; with_reducible assumption) | (show Bd _ _; with_reducible assumption) | (show _ < _; with_reducible assumption) | (show _ ≤ _; with_reducible assumption) | (show Fr _; first | with_reducible assumption | with_reducible exact Fr.fz | with_reducible exact Fr.none) | with_reducible exact (eqV_int _ _) | with_reducible exact (neV_int _ _) | with_reducible exact (eqV_lst _ _) | with_reducible exact (neV_lst _ _) | with_reducible exact (eqV_tup _ _) | with_reducible exact (neV_tup _ _) | with_reducible exact (sumV_ints _) | with_reducible exact (lenV_ints _) | with_reducible exact (lenV_tints _) | with_reducible exact (absVl_int _) | with_reducible exact wp0 | with_reducible exact st0 | with_reducible exact (small_sz rfl) | with_reducible exact (small_lt rfl) | with_reducible exact (melts_int _) | with_reducible exact e_cst | with_reducible exact e_nilA | with_reducible exact e_next | with_reducible exact e_yesB | with_reducible exact e_noP | with_reducible exact e_cL0 | with_reducible exact e_forL_nil | with_reducible apply e_var | with_reducible apply e_bin | with_reducible apply e_un | with_reducible apply e_tst | with_reducible apply e_or | with_reducible apply e_and | with_reducible apply e_orV | with_reducible apply e_andV | with_reducible apply e_ife | with_reducible apply e_if | with_reducible apply e_notB | with_reducible apply e_consA | with_reducible apply e_tupM | with_reducible apply e_lstM | with_reducible apply e_dispF | with_reducible apply e_cbM | with_reducible apply e_cfM | with_reducible apply e_bfM | with_reducible apply e_ownL | with_reducible apply e_listI | with_reducible apply e_walkM | with_reducible apply e_lrevF | with_reducible apply e_zrM | with_reducible apply e_enum | with_reducible apply e_rng1 | with_reducible apply e_rng2 | with_reducible apply e_parP | with_reducible apply e_sl | with_reducible apply e_slO | with_reducible apply e_view | with_reducible apply e_zipL | with_reducible apply e_chnT | with_reducible apply e_seq | with_reducible apply e_forS | with_reducible apply e_asg | with_reducible apply e_ret | with_reducible apply e_drop | with_reducible apply e_raise | with_reducible apply e_new | with_reducible apply e_newT | with_reducible apply e_par | with_reducible apply e_parNS | with_reducible apply e_asgT | with_reducible apply t_tup2 | with_reducible apply t_tup3 | with_reducible apply t_name | with_reducible apply e_ixO | with_reducible apply e_setS | with_reducible apply e_app | with_reducible apply e_melt | with_reducible apply e_callM | with_reducible apply e_callO | with_reducible apply wpS | with_reducible apply stS | with_reducible apply mulV_bd | with_reducible apply divV_pos | with_reducible apply modV_pos | with_reducible apply f1_of | with_reducible apply f2_of | ((with_reducible apply ite_T); first | (show _ = _; with_reducible assumption) | exact rfl | (apply decide_eq_true; omega)) | ((with_reducible apply ite_F); first | (show _ = _; with_reducible assumption) | exact rfl | (apply decide_eq_false; omega)) | exact rfl | decide | (show _ ∧ _; omega) | with_reducible exact bd_lit (by decide) (by decide) | with_reducible exact bd_mod (by decide) (by decide) (by decide) | with_reducible apply powV_nat | (show _ < _; omega) | (show _ ≤ _; omega) | (with_reducible apply fs0; assumption) | with_reducible apply fsS)
local macro_rules | `(tactic| ac_rfl) => `(tactic| repeat' (first | infer_instance | fail))
/-! repr of a row of numbers -/
theorem weight_ints : ∀ ns : List Int, (∀ n ∈ ns, n.natAbs < 10 ^ 12) → PyData.weightAll (ns.map .int) ≤ 62 * ns.length
  | [], _ => by simp [PyData.weightAll]
  | n :: ns, h => by
    have := weight_ints ns fun m hm => h m (.tail _ hm)
    have h1 : n.natAbs.log2 < 60 := PySem.Flt.log2_lt_of (by decide) (Nat.lt_trans (h n (.head _)) (by decide))
    simp only [List.map_cons, PyData.weightAll, PyData.weight, List.length_cons]
    split <;> omega
theorem show_ints : ∀ ns : List Int, (∀ n ∈ ns, n.natAbs < 10 ^ 12) → PyData.showableAll (ns.map .int) = true
  | [], _ => by simp [PyData.showableAll]
  | n :: ns, h => by
    have h1 : n.natAbs.log2 < 60 := PySem.Flt.log2_lt_of (by decide) (Nat.lt_trans (h n (.head _)) (by decide))
    simp only [List.map_cons, PyData.showableAll, PyData.showable, Bool.and_eq_true, decide_eq_true_iff]
    exact ⟨by omega, show_ints ns fun m hm => h m (.tail _ hm)⟩
theorem dict_ints : ∀ ns : List Int, PyData.hasDictAll (ns.map .int) = false
  | [] => by simp [PyData.hasDictAll]
  | n :: ns => by simp only [List.map_cons, PyData.hasDictAll, PyData.hasDict, Bool.false_or]; exact dict_ints ns
theorem reprV_tup {ns : List Int} (h : ∀ n ∈ ns, n.natAbs < 10 ^ 12) (hl : ns.length ≤ 1000) : reprV (.tup (ns.map .int)) = some (.str (PyData.shown (.tuple (ns.map .int)))) := by
  unfold reprV
  simp only [dat, dats_ints, Option.map_some]
  rw [if_pos]
  refine ⟨by simp only [PyData.showable]; exact show_ints ns h, by simp only [PyData.hasDict]; exact dict_ints ns, by simp only [PyData.depth, dep_ints]; decide, PyData.shown_fits_of_layable0 (B := 13) (by decide) (by decide) ?_ ?_⟩
  · unfold PyData.layable0
    simp only [PyData.canLay0, lay_ints, PyData.depth, dep_ints, PyData.weight, Bool.and_eq_true, decide_eq_true_iff, Bool.true_and]
    have := weight_ints ns h
    exact ⟨by decide, decide_eq_true (Nat.le_trans (show _ ≤ 62000 by omega) (by decide))⟩
  · simp only [PyData.intsShort]
    exact PyData.intsShortAll_ints ns h
theorem ok_of (s : String) : PyData.strOk (Str.ofString s) = true := by
  unfold PyData.strOk
  rw [Str.ofString_eq_toList]
  simp only [List.all_toArray, List.all_map, List.all_eq_true, Function.comp_apply, decide_eq_true_iff]
  intro c _
  rcases c.valid with h | h
  · exact Nat.lt_trans (show c.toNat < 0xd800 from h) (by decide)
  · exact h.2
theorem ok_app {a b : Str} (ha : PyData.strOk a = true) (hb : PyData.strOk b = true) : PyData.strOk (a ++ b) = true := by
  show (a.cps ++ b.cps).all _ = true
  rw [Array.all_append, Bool.and_eq_true]
  exact ⟨ha, hb⟩
theorem ok_join {p : Str} (hp : PyData.strOk p = true) : ∀ ts : List Str, (∀ t ∈ ts, PyData.strOk t = true) → PyData.strOk (Str.join p ts) = true
  | [], _ => by simp [Str.join, Str.empty, PyData.strOk]
  | [x], h => h x (.head _)
  | x :: y :: r, h => ok_app (ok_app (h x (.head _)) hp) (ok_join hp (y :: r) fun t ht => h t (.tail _ ht))
theorem ok_shown : ∀ ns : List Int, ∀ t ∈ PyData.shownAll (ns.map .int), PyData.strOk t = true
  | [], t, h => by simp [PyData.shownAll] at h
  | n :: ns, t, h => by
    simp only [List.map_cons, PyData.shownAll, List.mem_cons] at h
    rcases h with rfl | h
    · simp only [PyData.shown]; exact ok_of _
    · exact ok_shown ns t h
theorem ok_tup (ns : List Int) : PyData.strOk (PyData.shown (.tuple (ns.map .int))) = true := by
  simp only [PyData.shown]
  unfold tupleText
  exact ok_app (ok_app (ok_of _) (ok_join (ok_of _) _ (ok_shown ns))) (ok_of _)
theorem shp_str {s : Str} (h : PyData.strOk s = true) : SeqAt.shaped (.str s) = true := by simp [SeqAt.shaped, PyData.canLay0, PyData.depth, h]
theorem neV_same {s : Str} (h : PyData.strOk s = true) : neV (.str s) (.str s) = some (.bl false) := by
  unfold neV
  simp only [dat]
  rw [if_pos ⟨shp_str h, shp_str h⟩]
  simp [PyData.eqv]
theorem eqV_same {s : Str} (h : PyData.strOk s = true) : eqV (.str s) (.str s) = some (.bl true) := by
  unfold eqV
  simp only [dat]
  rw [if_pos ⟨shp_str h, shp_str h⟩]
  simp [PyData.eqv]
/-! powers -/
theorem bd_pow {b : Nat} {a : Int} (h : Bd b a) : ∀ i : Nat, Bd (b * i + 1) (a ^ i)
  | 0 => by unfold Bd; simp
  | i + 1 => by
    rw [Int.pow_succ]
    exact ((bd_pow h i).mul h).mono (by rw [Nat.mul_succ]; omega)
theorem zip_pow (i : Nat) : ∀ ns : List Int, ((ns.map (· ^ i)).zip ns).map (fun p => Val.int (p.1 * p.2)) = (ns.map (· ^ (i + 1))).map .int
  | [] => rfl
  | n :: ns => by
    have := zip_pow i ns
    simp only [List.map_cons, List.zip_cons_cons, this, Int.pow_succ]
theorem v_powers {ns : List Int} {b many : Nat} (hb : ∀ a ∈ ns, Bd b a) (b70 : b ≤ 70) (hm : many ≤ 100) (hl : ns.length ≤ 1000) : runV 7 b__law_powers [.lst (ns.map .int), .int many] = .ok (.tup ((powers ns many).map .int)) := by
  obtain ⟨ρ', k1, u, fu, -, k2⟩ := e_loopR (tg := nameT 4) (s := seqS (appS 2 (cbM (f1 sumV) (consA (varM 3) nilA))) (asgS 3 (listM (compF [5, 6] (zipM (consA (varM 3) (consA (varM 0) nilA))) (tupT 2 (consT (nameT 5) (consT (nameT 6) nilT))) yesB (binM mulV (varM 5) (varM 6))))))
    (fun i ρ => ∃ u, Fr u ∧ 0 ≤ i ∧ ρ = [some (.fz (.lst (ns.map .int))), some (.fz (.int many)), some (.ow false ((powers ns i.toNat).map .int)), some (.fz (.lst ((ns.map (· ^ i.toNat)).map .int))), u, none, none])
    ((many : Int)).toNat 0 [some (.fz (.lst (ns.map .int))), some (.fz (.int many)), some (.ow false []), some (.fz (.lst ((ns.map (· ^ 0)).map .int))), none, none, none] ⟨none, .none, by decide, rfl⟩
    fun i ρ lo hi ⟨u, fu, _, e⟩ => by
      subst e
      obtain ⟨k, rfl⟩ := Int.eq_ofNat_of_zero_le lo
      have ek2 : ((k : Int) + 1).toNat = k + 1 := by omega
      have hk : b * k + 1 ≤ 8000 := by have := Nat.mul_le_mul b70 (show k ≤ 100 by omega); omega
      rw [show ((k : Int)).toNat = k from rfl]
      have sm : sumV (.lst ((ns.map (· ^ k)).map .int)) = some (.int (pw ns k)) := sumV_ints _
      have ls : ((powers ns k).map Val.int).length < sizeLine := by unfold powers; simp; exact sz_lt (by omega)
      have zp : zipM (consA (varM 3) (consA (varM 0) nilA)) [some (.fz (.lst (ns.map .int))), some (.fz (.int many)), some (.ow false ((powers ns (k + 1)).map .int)), some (.fz (.lst ((ns.map (· ^ k)).map .int))), some (.fz (.int k)), none, none] = .ok (((ns.map (· ^ k)).zip ns).map fun p => pairV (.int p.1) (.int p.2), [some (.fz (.lst (ns.map .int))), some (.fz (.int many)), some (.ow false ((powers ns (k + 1)).map .int)), some (.fz (.lst ((ns.map (· ^ k)).map .int))), some (.fz (.int k)), none, none]) := by
        rw [← pr_ints]
        ac_rfl
      have cl : compL [5, 6] (tupT 2 (consT (nameT 5) (consT (nameT 6) nilT))) yesB (binM mulV (varM 5) (varM 6)) (((ns.map (· ^ k)).zip ns).map fun p => pairV (.int p.1) (.int p.2)) [some (.fz (.lst (ns.map .int))), some (.fz (.int many)), some (.ow false ((powers ns (k + 1)).map .int)), some (.fz (.lst ((ns.map (· ^ k)).map .int))), some (.fz (.int k)), none, none] = .ok (((ns.map (· ^ k)).zip ns).map fun p => .int (p.1 * p.2), [some (.fz (.lst (ns.map .int))), some (.fz (.int many)), some (.ow false ((powers ns (k + 1)).map .int)), some (.fz (.lst ((ns.map (· ^ k)).map .int))), some (.fz (.int k)), none, none]) :=
        e_cLs (α := Int × Int) (fun p => pairV (.int p.1) (.int p.2)) (fun p => .int (p.1 * p.2)) (fun p => [some (.fz (.lst (ns.map .int))), some (.fz (.int many)), some (.ow false ((powers ns (k + 1)).map .int)), some (.fz (.lst ((ns.map (· ^ k)).map .int))), some (.fz (.int k)), some (.fz (.int p.1)), some (.fz (.int p.2))]) rfl _ fun p hp => by
          have b1 : Bd 8000 p.1 := by
            obtain ⟨a, ha, e⟩ := List.mem_map.mp (List.of_mem_zip hp).1
            rw [← e]; exact (bd_pow (hb a ha) k).mono hk
          have b2 : Bd 8000 p.2 := (hb p.2 (List.of_mem_zip hp).2).mono (by omega)
          exact ⟨rfl, by ac_rfl, rfl, rfl⟩
      rw [zip_pow] at cl
      have lst : listM (compF [5, 6] (zipM (consA (varM 3) (consA (varM 0) nilA))) (tupT 2 (consT (nameT 5) (consT (nameT 6) nilT))) yesB (binM mulV (varM 5) (varM 6))) [some (.fz (.lst (ns.map .int))), some (.fz (.int many)), some (.ow false ((powers ns (k + 1)).map .int)), some (.fz (.lst ((ns.map (· ^ k)).map .int))), some (.fz (.int k)), none, none] = .ok (.lst ((ns.map (· ^ (k + 1))).map .int), [some (.fz (.lst (ns.map .int))), some (.fz (.int many)), some (.ow false ((powers ns (k + 1)).map .int)), some (.fz (.lst ((ns.map (· ^ k)).map .int))), some (.fz (.int k)), none, none]) :=
        e_listI (e_compF zp (by rw [List.length_map, List.length_zip, List.length_map]; exact sz_lt (by omega)) rfl cl)
      have pe : (powers ns (k + 1)).map Val.int = (powers ns k).map Val.int ++ [.int (pw ns k)] := by
        unfold powers; rw [List.range_succ]; simp
      rw [pe] at lst
      refine ⟨_, _, t_name (fsS (fsS (fsS (fsS (fs0 fu))))) rfl, ?_, some (.fz (.int k)), .fz, by omega, rfl⟩
      rw [ek2, pe]
      show seqS _ _ [some (.fz (.lst (ns.map .int))), some (.fz (.int many)), some (.ow false ((powers ns k).map .int)), some (.fz (.lst ((ns.map (· ^ k)).map .int))), some (.fz (.int k)), none, none] = _
      ac_rfl
  subst k2
  rw [show (0 + (((many : Int).toNat : Nat) : Int)).toNat = many by omega] at k1
  have m1 := melts_int (powers ns many)
  have l1 := lenV_ints ns
  have mf : mulF (.lst [.int 1]) (.int (ns.length : Int)) = some ((ns.map (· ^ 0)).map .int) := by
    unfold mulF
    dsimp only
    rw [if_pos ⟨by omega, by omega, by show 1 * _ ≤ 1000; omega⟩]
    congr 1
    unfold repL
    rw [show ((ns.length : Int)).toNat = ns.length by omega]
    have fl1 : ∀ n : Nat, (List.replicate n [Val.int 1]).flatten = List.replicate n (.int 1) := fun n => by
      induction n with
      | zero => rfl
      | succ n ih => rw [List.replicate_succ, List.flatten_cons, ih]; rfl
    rw [fl1, List.map_map]
    exact ((List.map_congr_left (g := fun _ => Val.int 1) fun x _ => by show Val.int (x ^ 0) = _; rw [Int.pow_zero]).trans (by rw [List.map_const'])).symm
  apply e_runE [some (.fz (.lst (ns.map .int))), some (.fz (.int many)), none, none, none, none, none] rfl
  · unfold b__law_powers
    ac_rfl
  · rfl
end Y

set_option Elab.async false
set_option linter.all false
set_option maxRecDepth 100000
set_option maxHeartbeats 400000
set_option autoImplicit false
namespace Y
open PySem PySem.Spec PyProof.Rows L2 Z
local macro_rules | `(tactic| infer_instance) => `(tactic| first | (show _ = _; with_reducible assumption) | (show Bd _ _; with_reducible assumption) | (show _ < _; with_reducible assumption) | (show _ ≤ _; with_reducible assumption) | (show Fr _; first | with_reducible assumption | with_reducible exact Fr.fz | with_reducible exact Fr.none) | with_reducible exact (eqV_int _ _) | with_reducible exact (neV_int _ _) | with_reducible exact (eqV_lst _ _) | with_reducible exact (neV_lst _ _) | with_reducible exact (eqV_tup _ _) | with_reducible exact (neV_tup _ _) | with_reducible exact (sumV_ints _) | with_reducible exact (lenV_ints _) | with_reducible exact (lenV_tints _) | with_reducible exact (absVl_int _) | with_reducible exact wp0 | with_reducible exact st0 | with_reducible exact (small_sz rfl) | with_reducible exact (small_lt rfl) | with_reducible exact (melts_int _) | with_reducible exact e_cst | with_reducible exact e_nilA | with_reducible exact e_next | with_reducible exact e_yesB | with_reducible exact e_noP | with_reducible exact e_cL0 | with_reducible exact e_forL_nil | with_reducible apply e_var | with_reducible apply e_bin | with_reducible apply e_un | with_reducible apply e_tst | with_reducible apply e_or | with_reducible apply e_and | with_reducible apply e_orV | with_reducible apply e_andV | with_reducible apply e_ife | with_reducible apply e_if | with_reducible apply e_notB | with_reducible apply e_consA | with_reducible apply e_tupM | with_reducible apply e_lstM | with_reducible apply e_dispF | with_reducible apply e_cbM | with_reducible apply e_cfM | with_reducible apply e_bfM | with_reducible apply e_ownL | with_reducible apply e_listI | with_reducible apply e_walkM | with_reducible apply e_lrevF | with_reducible apply e_zrM | with_reducible apply e_enum | with_reducible apply e_rng1 | with_reducible apply e_rng2 | with_reducible apply e_parP | with_reducible apply e_sl | with_reducible apply e_slO | with_reducible apply e_view | with_reducible apply e_zipL | with_reducible apply e_chnT | with_reducible apply e_seq | with_reducible apply e_forS | with_reducible apply e_asg | with_reducible apply e_ret | with_reducible apply e_drop | with_reducible apply e_raise | with_reducible apply e_new | with_reducible apply e_newT | with_reducible apply e_par | with_reducible apply e_parNS | with_reducible apply e_asgT | with_reducible apply t_tup2 | with_reducible apply t_tup3 | with_reducible apply t_name | with_reducible apply e_ixO | with_reducible apply e_setS | with_reducible apply e_app | with_reducible apply e_melt | with_reducible apply e_callM | with_reducible apply e_callO | with_reducible apply wpS | with_reducible apply stS | with_reducible apply mulV_bd | with_reducible apply divV_pos | with_reducible apply modV_pos | with_reducible apply f1_of | with_reducible apply f2_of | ((with_reducible apply ite_T); first | (show _ = _; with_reducible assumption) | exact rfl | (apply decide_eq_true; omega)) | ((with_reducible apply ite_F); first | (show _ = _; with_reducible assumption) | exact rfl | (apply decide_eq_false; omega)) | exact rfl | decide | (show _ ∧ _; omega) | with_reducible exact bd_lit (by decide) (by decide) | with_reducible exact bd_mod (by decide) (by decide) (by decide) | with_reducible apply powV_nat | (show _ < _; omega) | (show _ ≤ _; omega) | (with_reducible apply fs0; assumption) | with_reducible apply fsS)
local macro_rules | `(tactic| ac_rfl) => `(tactic| repeat' (first | infer_instance | fail))
local macro_rules | `(tactic| infer_instance) => `(tactic| with_reducible exact v_is_integer _)
theorem draws {t : Nat} {e : MN} {many off : Int} (R : SV → En) (R1 : Val → SV → En) (h1 : 1 ≤ many) (hm : many ≤ 1000) (hw : ∀ s, wipeE (R s) [t] = R s) (hn : ∀ s x, nameT t x (R s) = some (R1 x s))
    (he : ∀ s s' x v, s.own = true → s'.own = true → runO 6 b__law_lot s [.int many] = .ok (.int v, s') → e (R1 x s) = .ok (.int (v - off), R1 x s')) (hf : ∀ s x, [t].all (freeS (R1 x s)) = true) (hv : ∀ s x, wipeE (R1 x s) [t] = R s) :
    ∀ (n : Nat) (lo : Int) (k : Nat) (s : SV), Cup k s → k + n ≤ 1000 → ∃ (ns : List Int) (s' : SV), compL [t] (nameT t) yesB e (iota lo n) (R s) = .ok (ns.map .int, R s') ∧ ns.length = n ∧ (∀ x ∈ ns, -off ≤ x ∧ x < many - off) ∧ Cup (k + n) s'
  | 0, lo, k, s, h, _ => ⟨[], s, rfl, rfl, (fun x hx => nomatch hx), h⟩
  | n + 1, lo, k, s, h, hk => by
    obtain ⟨v, s1, e1, v0, v1, c1⟩ := lot_ok h (by omega) h1 hm
    obtain ⟨ns, s2, e2, l2, b2, c2⟩ := draws R R1 h1 hm hw hn he hf hv n (lo + 1) (k + 1) s1 c1 (by omega)
    refine ⟨(v - off) :: ns, s2, ?_, by simp [l2], fun x hx => ?_, by rw [show k + (n + 1) = k + 1 + n by omega]; exact c2⟩
    · exact e_cL (hw s) (hn s _) (he s s1 _ v h.own c1.own e1) (hf _ _) (hv _ _) e2
    · rcases List.mem_cons.mp hx with rfl | hx
      · omega
      · exact b2 x hx
/-! bounds of products -/
theorem conv_bd {a b : Nat} : ∀ (n : Nat) {A B : Nat → Int}, (∀ i, Bd a (A i)) → (∀ i, Bd b (B i)) → (conv A B n).natAbs ≤ (n + 1) * 2 ^ (a + b)
  | 0, A, B, h, k => by
    have := (h 0).mul (k 0)
    unfold Bd at this
    show (A 0 * B 0).natAbs ≤ _
    omega
  | n + 1, A, B, h, k => by
    have h1 := (h 0).mul (k (n + 1))
    have h2 := conv_bd n (fun i => h (i + 1)) k
    unfold Bd at h1
    show (A 0 * B (n + 1) + conv (fun i => A (i + 1)) B n).natAbs ≤ _
    rw [Nat.succ_mul]
    omega
theorem tm_bd {a b : Nat} {p q : List Int} (hp : ∀ x ∈ p, Bd a x) (hq : ∀ x ∈ q, Bd b x) (hl : p.length + q.length ≤ 33) : ∀ x ∈ tm p q, Bd (a + b + 6) x := fun x hx => by
  unfold tm at hx
  obtain ⟨n, hn, rfl⟩ := List.mem_map.mp hx
  have := conv_bd n (gd_bd hp) (gd_bd hq)
  rw [List.mem_range] at hn
  unfold Bd
  rw [show a + b + 6 = (a + b) + 6 from rfl, Nat.pow_add _ _ 6]
  have h32 : (n + 1) * 2 ^ (a + b) ≤ 32 * 2 ^ (a + b) := Nat.mul_le_mul_right _ (by omega)
  have : 0 < 2 ^ (a + b) := Nat.pow_pos (by decide)
  omega
theorem conv_one (B : Nat → Int) : ∀ n, conv (gd [1]) B n = B n
  | 0 => by show gd [1] 0 * B 0 = _; rw [show gd [1] 0 = 1 from rfl]; omega
  | n + 1 => by
    show gd [1] 0 * B (n + 1) + conv (fun i => gd [1] (i + 1)) B n = _
    rw [gd_cons, conv_zero (A := gd []) (fun i => rfl) n, show gd [1] 0 = 1 from rfl]
    omega
theorem lin_bd {b : Nat} {w : List Int} {a : Int} (hw : ∀ x ∈ w, Bd b x) (ha : a.natAbs ≤ 6) : ∀ x ∈ tm w [-a, 1], Bd (b + 3) x := fun x hx => by
  unfold tm at hx
  obtain ⟨n, hn, rfl⟩ := List.mem_map.mp hx
  rw [conv_comm]
  have g := gd_bd hw
  have m : ∀ i, (-a * gd w i).natAbs ≤ 6 * 2 ^ b := fun i => by
    rw [Int.natAbs_mul]
    exact Nat.mul_le_mul (by omega) (Nat.le_of_lt (g i))
  unfold Bd at g ⊢
  rw [Nat.pow_add]
  have z : 0 < 2 ^ b := Nat.pow_pos (by decide)
  cases n with
  | zero =>
    show (gd [-a, 1] 0 * gd w 0).natAbs < _
    have := m 0
    rw [show gd [-a, 1] 0 = -a from rfl]
    omega
  | succ n =>
    show (gd [-a, 1] 0 * gd w (n + 1) + conv (fun i => gd [-a, 1] (i + 1)) (gd w) n).natAbs < _
    have h1 := m (n + 1)
    have h2 := g n
    rw [gd_cons, conv_one, show gd [-a, 1] 0 = -a from rfl]
    omega
theorem whole_bd : ∀ (as : List Int) (w : List Int) (b : Nat), (∀ a ∈ as, a.natAbs ≤ 6) → (∀ x ∈ w, Bd b x) → ∀ x ∈ whole w as, Bd (b + 3 * as.length) x
  | [], w, b, _, h => h
  | a :: as, w, b, ha, h => by
    have := whole_bd as (tm w [-a, 1]) (b + 3) (fun c hc => ha c (.tail _ hc)) (lin_bd h (ha a (.head _)))
    rw [show b + 3 * (a :: as).length = b + 3 + 3 * as.length by rw [List.length_cons]; omega]
    exact this
theorem whole_next (as : List Int) {i : Nat} (h : i < as.length) : whole [1] (as.take (i + 1)) = tm (whole [1] (as.take i)) [-as[i], 1] := by
  unfold whole
  rw [List.take_succ_eq_append_getElem h, List.foldl_append]
  rfl
theorem pw_bd {as : List Int} (ha : ∀ a ∈ as, a.natAbs ≤ 6) (i : Nat) : (pw as i).natAbs ≤ as.length * 6 ^ i := by
  unfold pw
  have := sum_bd (M := 6 ^ i) (as.map (· ^ i)) fun x hx => by
    obtain ⟨a, h, rfl⟩ := List.mem_map.mp hx
    rw [Int.natAbs_pow]
    exact Nat.pow_le_pow_left (ha a h) i
  rwa [List.length_map] at this
theorem powers_bd {as : List Int} (ha : ∀ a ∈ as, a.natAbs ≤ 6) (hl : as.length ≤ 8) {m : Nat} (hm : m ≤ 14) : ∀ x ∈ powers as m, x.natAbs < 10 ^ 12 := fun x hx => by
  unfold powers at hx
  obtain ⟨i, hi, rfl⟩ := List.mem_map.mp hx
  rw [List.mem_range] at hi
  refine Nat.lt_of_le_of_lt (Nat.le_trans (pw_bd ha i) (Nat.mul_le_mul hl (Nat.pow_le_pow_right (by decide) (show i ≤ 13 by omega)))) (by decide)
/-! products are right -/
theorem pr_draw {k : Nat} {s : SV} (h : Cup k s) (hk : k + 9 ≤ 1000) : ∃ (ns : List Int) (s' : SV), ns.length ≤ 8 ∧ 1 ≤ ns.length ∧ (∀ x ∈ ns, x.natAbs ≤ 6) ∧ Cup (k + 9) s' ∧
    asgS 1 (listM (compF [2] (rng1M (consA (callO 0 2 2 b__law_take (consA (lstM (consA (cstM (.int 3)) (consA (cstM (.int 2)) (consA (cstM (.int 4)) (consA (cstM (.int 1)) (consA (cstM (.int 6)) (consA (cstM (.int 8)) nilA))))))) nilA)) nilA)) (nameT 2) yesB (binM subV (callO 0 2 6 b__law_lot (consA (cstM (.int 13)) nilA)) (cstM (.int 6))))) [some s, none, none, none, none, none] = .ok (.nx [some s', some (.fz (.lst (ns.map .int))), none, none, none, none]) := by
  obtain ⟨x, s1, hx, e1, c1⟩ := take_ok (xs := [.int 3, .int 2, .int 4, .int 1, .int 6, .int 8]) h (by omega) (by decide) (by decide)
  obtain ⟨n, rfl, n1, n8⟩ : ∃ n : Nat, x = .int n ∧ 1 ≤ n ∧ n ≤ 8 := by
    simp only [List.mem_cons, List.not_mem_nil, or_false] at hx
    rcases hx with rfl | rfl | rfl | rfl | rfl | rfl
    · exact ⟨3, rfl, by decide, by decide⟩
    · exact ⟨2, rfl, by decide, by decide⟩
    · exact ⟨4, rfl, by decide, by decide⟩
    · exact ⟨1, rfl, by decide, by decide⟩
    · exact ⟨6, rfl, by decide, by decide⟩
    · exact ⟨8, rfl, by decide, by decide⟩
  obtain ⟨ns, s2, e2, l2, b2, c2⟩ := draws (t := 2) (e := binM subV (callO 0 2 6 b__law_lot (consA (cstM (.int 13)) nilA)) (cstM (.int 6))) (many := 13) (off := 6) (fun s => [some s, none, none, none, none, none]) (fun x s => [some s, none, some (.fz x), none, none, none]) (by decide) (by decide) (fun _ => rfl) (fun _ _ => rfl)
    (fun s s' x v o o' e => by ac_rfl) (fun _ _ => rfl) (fun _ _ => rfl) n 0 (k + 1) s1 c1 (by omega)
  have o := h.own
  have o1 := h.own
  refine ⟨ns, s2, by omega, by omega, fun x hx => by have := b2 x hx; omega, c2.le (by omega), ?_⟩
  apply e_asg
  · apply e_listI
    apply e_compF
    · show _ = Rs.ok (iota 0 ((n : Int)).toNat, [some s1, none, none, none, none, none])
      ac_rfl
    · rw [iota_length]; exact sz_lt (by omega)
    · rfl
    · exact e2
  · rfl
  · rfl
end Y

set_option Elab.async false
set_option linter.all false
set_option maxRecDepth 100000
set_option maxHeartbeats 400000
set_option autoImplicit false
namespace Y
open PySem PySem.Spec PyProof.Rows L2 Z
local macro_rules | `(tactic| infer_instance) => `(tactic| first | (show _ = _; with_reducible assumption) | (show Bd _ _; with_reducible assumption) | (show _ < _; with_reducible assumption) | (show _ ≤ _; with_reducible assumption) | (show Fr _; first | with_reducible assumption | with_reducible exact Fr.fz | with_reducible exact Fr.none) | with_reducible exact (eqV_int _ _) | with_reducible exact (neV_int _ _) | with_reducible exact (eqV_lst _ _) | with_reducible exact (neV_lst _ _) | with_reducible exact (eqV_tup _ _) | with_reducible exact (neV_tup _ _) | with_reducible exact (sumV_ints _) | with_reducible exact (lenV_ints _) | with_reducible exact (lenV_tints _) | with_reducible exact (absVl_int _) | with_reducible exact wp0 | with_reducible exact st0 | with_reducible exact (small_sz rfl) | with_reducible exact (small_lt rfl) | with_reducible exact (melts_int _) | with_reducible exact e_cst | with_reducible exact e_nilA | with_reducible exact e_next | with_reducible exact e_yesB | with_reducible exact e_noP | with_reducible exact e_cL0 | with_reducible exact e_forL_nil | with_reducible apply e_var | with_reducible apply e_bin | with_reducible apply e_un | with_reducible apply e_tst | with_reducible apply e_or | with_reducible apply e_and | with_reducible apply e_orV | with_reducible apply e_andV | with_reducible apply e_ife | with_reducible apply e_if | with_reducible apply e_notB | with_reducible apply e_consA | with_reducible apply e_tupM | with_reducible apply e_lstM | with_reducible apply e_dispF | with_reducible apply e_cbM | with_reducible apply e_cfM | with_reducible apply e_bfM | with_reducible apply e_ownL | with_reducible apply e_listI | with_reducible apply e_walkM | with_reducible apply e_lrevF | with_reducible apply e_zrM | with_reducible apply e_enum | with_reducible apply e_rng1 | with_reducible apply e_rng2 | with_reducible apply e_parP | with_reducible apply e_sl | with_reducible apply e_slO | with_reducible apply e_view | with_reducible apply e_zipL | with_reducible apply e_chnT | with_reducible apply e_seq | with_reducible apply e_forS | with_reducible apply e_asg | with_reducible apply e_ret | with_reducible apply e_drop | with_reducible apply e_raise | with_reducible apply e_new | with_reducible apply e_newT | with_reducible apply e_par | with_reducible apply e_parNS | with_reducible apply e_asgT | with_reducible apply t_tup2 | with_reducible apply t_tup3 | with_reducible apply t_name | with_reducible apply e_ixO | with_reducible apply e_setS | with_reducible apply e_app | with_reducible apply e_melt | with_reducible apply e_callM | with_reducible apply e_callO | with_reducible apply wpS | with_reducible apply stS | with_reducible apply mulV_bd | with_reducible apply divV_pos | with_reducible apply modV_pos | with_reducible apply f1_of | with_reducible apply f2_of | ((with_reducible apply ite_T); first | (show _ = _; with_reducible assumption) | exact rfl | (apply decide_eq_true; omega)) | ((with_reducible apply ite_F); first | (show _ = _; with_reducible assumption) | exact rfl | (apply decide_eq_false; omega)) | exact rfl | decide | (show _ ∧ _; omega) | with_reducible exact bd_lit (by decide) (by decide) | with_reducible exact bd_mod (by decide) (by decide) (by decide) | with_reducible apply powV_nat | (show _ < _; omega) | (show _ ≤ _; omega) | (with_reducible apply fs0; assumption) | with_reducible apply fsS)
local macro_rules | `(tactic| ac_rfl) => `(tactic| repeat' (first | infer_instance | fail))
local macro_rules | `(tactic| infer_instance) => `(tactic| with_reducible exact v_is_integer _)
theorem pr_whole {s : SV} {ns : List Int} (hl : ns.length ≤ 8) (hb : ∀ x ∈ ns, x.natAbs ≤ 6) : ∃ u, Fr u ∧
    forS (walkM seqV (varM 1)) (nameT 4) (asgS 3 (callM 2 7 b__law_times (consA (varM 3) (consA (lstM (consA (unM negV (varM 4)) (consA (cstM (.int 1)) nilA))) nilA)))) [some s, some (.fz (.lst (ns.map .int))), none, some (.fz (.lst [.int 1])), none, none] = .ok (.nx [some s, some (.fz (.lst (ns.map .int))), none, some (.fz (.lst ((whole [1] ns).map .int))), u, none]) := by
  obtain ⟨ρ', k1, u, fu, k2⟩ := e_loop (tg := nameT 4) (s := asgS 3 (callM 2 7 b__law_times (consA (varM 3) (consA (lstM (consA (unM negV (varM 4)) (consA (cstM (.int 1)) nilA))) nilA)))) Val.int
    (fun i ρ => ∃ u, Fr u ∧ ρ = [some s, some (.fz (.lst (ns.map .int))), none, some (.fz (.lst ((whole [1] (ns.take i)).map .int))), u, none]) ns 0 [some s, some (.fz (.lst (ns.map .int))), none, some (.fz (.lst [.int 1])), none, none] ⟨none, .none, rfl⟩
    fun i a ρ hi ⟨u, fu, e⟩ => by
      subst e
      rw [Nat.zero_add]
      obtain ⟨h1, h2⟩ := List.getElem?_eq_some_iff.mp hi
      have wb := whole_bd (ns.take i) [1] 1 (fun c hc => hb c (List.mem_of_mem_take hc)) (fun x hx => by rw [List.mem_singleton] at hx; subst hx; unfold Bd; decide)
      have wl := (traces_whole (ns.take i) (m := 1) (by decide)).2.1
      rw [List.length_take] at wl wb
      have ab : a.natAbs ≤ 6 := by rw [← h2]; exact hb _ (List.getElem_mem h1)
      have tv := v_times (a := whole [1] (ns.take i)) (b := [-a, 1]) (fun x hx => (wb x hx).mono (by omega)) (fun x hx => by
        rcases List.mem_cons.mp hx with rfl | hx
        · exact .sm (by omega) (by decide)
        · rw [List.mem_singleton] at hx; subst hx; exact .sm (by decide) (by decide)) (by omega) (show 2 ≤ 300 by decide) (by omega)
      have wn := whole_next ns h1
      rw [h2] at wn
      rw [← wn] at tv
      refine ⟨[some s, some (.fz (.lst (ns.map .int))), none, some (.fz (.lst ((whole [1] (ns.take i)).map .int))), some (.fz (.int a)), none], [some s, some (.fz (.lst (ns.map .int))), none, some (.fz (.lst ((whole [1] (ns.take (i + 1))).map .int))), some (.fz (.int a)), none], ?_, ?_, _, .fz, rfl⟩
      · ac_rfl
      · apply e_asg
        · exact e_callM (e_consA (e_var rfl) (e_consA (e_lstM (e_consA (e_un (e_var rfl) rfl) (e_consA e_cst e_nilA)) (small_sz rfl)) e_nilA)) tv
        · rfl
        · rfl
  subst k2
  rw [Nat.zero_add, List.take_length] at k1
  exact ⟨u, fu, e_forS (e_walkM (e_var rfl) rfl) k1⟩
theorem pr_ok {k : Nat} {s : SV} (h : Cup k s) (hk : k + 9 ≤ 1000) : ∃ s', runO 6 b__law_product_right s [] = .ok (.bl true, s') ∧ Cup (k + 9) s' := by
  obtain ⟨ns, s1, l8, l1, hb, c1, e1⟩ := pr_draw (h.setPin (q := true)) hk
  obtain ⟨u, fu, e2⟩ := pr_whole (s := s1) l8 hb
  have wb := whole_bd ns [1] 1 hb (fun x hx => by rw [List.mem_singleton] at hx; subst hx; unfold Bd; decide)
  obtain ⟨wm, wl, wt⟩ := traces_whole ns (m := ns.length + 6) (by omega)
  obtain ⟨-, -, wt2⟩ := traces_whole ns (m := ns.length + 1) (by omega)
  have wb25 : ∀ x ∈ whole [1] ns, Bd 25 x := fun x hx => (wb x hx).mono (by omega)
  have pb1 := powers_bd hb l8 (m := ns.length + 6) (by omega)
  have pb2 := powers_bd hb l8 (m := ns.length + 1) (by omega)
  have pl : ∀ m, (powers ns m).length = m := fun m => by unfold powers; simp
  have t1 := v_traces_from (Nums.lst (whole [1] ns)) wm (by omega) (by omega) wb25 (by decide) (m := ns.length + 6) (by omega) (by omega)
  rw [wt] at t1
  have t1 : runV 2 b_traces_from [.lst ((whole [1] ns).map .int), .int ((ns.length : Int) + 6)] = .ok (.tup ((powers ns (ns.length + 6)).map .int)) := t1
  have nb : ∀ a ∈ ns, Bd 3 a := fun a ha => by unfold Bd; have := hb a ha; omega
  have p1 := v_powers nb (by decide) (many := ns.length + 6) (by omega) (by omega)
  have p2 := v_powers nb (by decide) (many := ns.length + 1) (by omega) (by omega)
  have p1 : runV 7 b__law_powers [.lst (ns.map .int), .int ((ns.length : Int) + 6)] = .ok (.tup ((powers ns (ns.length + 6)).map .int)) := p1
  have p2 : runV 7 b__law_powers [.lst (ns.map .int), .int ((ns.length : Int) + 1)] = .ok (.tup ((powers ns (ns.length + 1)).map .int)) := p2
  have bk : polyOf (powers ns (ns.length + 1)) = some (whole [1] ns) := by
    rw [← wt2, ← wl]
    exact back wm
  have f1 := v_polynomial_from (Nums.lst (powers ns (ns.length + 1))) (c := 60) (by rw [pl]; omega) (by rw [pl]; omega) (by rw [pl]; unfold powers; rw [gd_map (by omega), pw_zero]; omega) (fun a ha => .sm (Nat.lt_trans (pb2 a ha) (by decide)) (by decide)) (by decide)
  rw [bk] at f1
  dsimp only at f1
  have r1 := reprV_tup pb1 (by rw [pl]; omega)
  have r2 := reprV_tup (ns := whole [1] ns) (fun x hx => Nat.lt_trans (wb25 x hx) (by decide)) (by rw [wl]; omega)
  have n1 := neV_same (ok_tup (powers ns (ns.length + 6)))
  have q1 := eqV_same (ok_tup (whole [1] ns))
  have ln := lenV_ints ns
  have o1 := c1.own
  refine ⟨s1.setPin s.pin, ?_, c1.setPin⟩
  apply e_runOE [some (s.setPin true), none, none, none, none, none] rfl
  · unfold b__law_product_right
    apply e_seq e1
    apply e_seq
    · ac_rfl
    apply e_seq e2
    ac_rfl
  · rfl
  · rfl
  · exact c1.flat
  · rfl
end Y

set_option Elab.async false
set_option linter.all false
set_option maxRecDepth 100000
set_option maxHeartbeats 400000
set_option autoImplicit false
namespace Y
open PySem PySem.Spec PyProof.Rows L2 Z
local macro_rules | `(tactic| infer_instance) => `(tactic| first | (show _ = _; with_reducible assumption) | (show Bd _ _; with_reducible assumption) | (show _ < _; with_reducible assumption) | (show _ ≤ _; with_reducible assumption) | (show Fr _; first | with_reducible assumption | with_reducible exact Fr.fz | with_reducible exact Fr.none) | with_reducible exact (eqV_int _ _) | with_reducible exact (neV_int _ _) | with_reducible exact (eqV_lst _ _) | with_reducible exact (neV_lst _ _) | with_reducible exact (eqV_tup _ _) | with_reducible exact (neV_tup _ _) | with_reducible exact (sumV_ints _) | with_reducible exact (lenV_ints _) | with_reducible exact (lenV_tints _) | with_reducible exact (absVl_int _) | with_reducible exact wp0 | with_reducible exact st0 | with_reducible exact (small_sz rfl) | with_reducible exact (small_lt rfl) | with_reducible exact (melts_int _) | with_reducible exact e_cst | with_reducible exact e_nilA | with_reducible exact e_next | with_reducible exact e_yesB | with_reducible exact e_noP | with_reducible exact e_cL0 | with_reducible exact e_forL_nil | with_reducible apply e_var | with_reducible apply e_bin | with_reducible apply e_un | with_reducible apply e_tst | with_reducible apply e_or | with_reducible apply e_and | with_reducible apply e_orV | with_reducible apply e_andV | with_reducible apply e_ife | with_reducible apply e_if | with_reducible apply e_notB | with_reducible apply e_consA | with_reducible apply e_tupM | with_reducible apply e_lstM | with_reducible apply e_dispF | with_reducible apply e_cbM | with_reducible apply e_cfM | with_reducible apply e_bfM | with_reducible apply e_ownL | with_reducible apply e_listI | with_reducible apply e_walkM | with_reducible apply e_lrevF | with_reducible apply e_zrM | with_reducible apply e_enum | with_reducible apply e_rng1 | with_reducible apply e_rng2 | with_reducible apply e_parP | with_reducible apply e_sl | with_reducible apply e_slO | with_reducible apply e_view | with_reducible apply e_zipL | with_reducible apply e_chnT | with_reducible apply e_seq | with_reducible apply e_forS | with_reducible apply e_asg | with_reducible apply e_ret | with_reducible apply e_drop | with_reducible apply e_raise | with_reducible apply e_new | with_reducible apply e_newT | with_reducible apply e_par | with_reducible apply e_parNS | with_reducible apply e_asgT | with_reducible apply t_tup2 | with_reducible apply t_tup3 | with_reducible apply t_name | with_reducible apply e_ixO | with_reducible apply e_setS | with_reducible apply e_app | with_reducible apply e_melt | with_reducible apply e_callM | with_reducible apply e_callO | with_reducible apply wpS | with_reducible apply stS | with_reducible apply mulV_bd | with_reducible apply divV_pos | with_reducible apply modV_pos | with_reducible apply f1_of | with_reducible apply f2_of | ((with_reducible apply ite_T); first | (show _ = _; with_reducible assumption) | exact rfl | (apply decide_eq_true; omega)) | ((with_reducible apply ite_F); first | (show _ = _; with_reducible assumption) | exact rfl | (apply decide_eq_false; omega)) | exact rfl | decide | (show _ ∧ _; omega) | with_reducible exact bd_lit (by decide) (by decide) | with_reducible exact bd_mod (by decide) (by decide) (by decide) | with_reducible apply powV_nat | (show _ < _; omega) | (show _ ≤ _; omega) | (with_reducible apply fs0; assumption) | with_reducible apply fsS)
local macro_rules | `(tactic| ac_rfl) => `(tactic| repeat' (first | infer_instance | fail))
local macro_rules | `(tactic| infer_instance) => `(tactic| with_reducible exact v_is_integer _)
theorem mon_app (ns : List Int) : mon (ns ++ [1]) := by unfold mon; rw [List.reverse_append]; rfl
theorem add_ints {a b : List Int} (h : a.length + b.length ≤ 1000) : addV2 (.lst (a.map .int)) (.lst (b.map .int)) = some (.lst ((a ++ b).map .int)) := by
  unfold addV2
  dsimp only
  rw [if_pos (by rw [List.length_map, List.length_map]; exact sz_le (by omega)), List.map_append]
/-- a polynomial drawn -/
theorem any_one {k : Nat} {s : SV} (h : Cup k s) (hk : k + 8 ≤ 1000) : ∃ (ns : List Int) (s' : SV), ns.length ≤ 6 ∧ 1 ≤ ns.length ∧ (∀ x ∈ ns, Bd 5 x) ∧ Cup (k + 8) s' ∧
    asgS 1 (binM addV2 (listM (compF [2] (rng1M (consA (binM addV2 (cstM (.int 1)) (callO 0 2 6 b__law_lot (consA (cstM (.int 6)) nilA))) nilA)) (nameT 2) yesB (binM subV (callO 0 2 6 b__law_lot (consA (cstM (.int 41)) nilA)) (cstM (.int 20))))) (lstM (consA (cstM (.int 1)) nilA))) [some s, none, none, none, none, none, none, none, none, none] =
      .ok (.nx [some s', some (.fz (.lst ((ns ++ [1]).map .int))), none, none, none, none, none, none, none, none]) := by
  obtain ⟨v, s1, e1, v0, v1, c1⟩ := lot_ok (many := 6) h (by omega) (by decide) (by decide)
  obtain ⟨ns, s2, e2, l2, b2, c2⟩ := draws (t := 2) (e := binM subV (callO 0 2 6 b__law_lot (consA (cstM (.int 41)) nilA)) (cstM (.int 20))) (many := 41) (off := 20) (fun s => [some s, none, none, none, none, none, none, none, none, none]) (fun x s => [some s, none, some (.fz x), none, none, none, none, none, none, none]) (by decide) (by decide) (fun _ => rfl) (fun _ _ => rfl)
    (fun s s' x v o o' e => by ac_rfl) (fun _ _ => rfl) (fun _ _ => rfl) (1 + v).toNat 0 (k + 1) s1 c1 (by omega)
  have o := h.own
  have ad := add_ints (a := ns) (b := [1]) (by rw [l2]; show _ + 1 ≤ 1000; omega)
  refine ⟨ns, s2, by omega, by omega, fun x hx => by have := b2 x hx; unfold Bd; omega, c2.le (by omega), ?_⟩
  apply e_asg
  · apply e_bin
    · apply e_listI
      apply e_compF
      · show _ = Rs.ok (iota 0 (1 + v).toNat, [some s1, none, none, none, none, none, none, none, none, none])
        ac_rfl
      · rw [iota_length]; exact sz_lt (by omega)
      · rfl
      · exact e2
    · exact e_lstM (e_consA e_cst e_nilA) (small_sz rfl)
    · exact ad
  · rfl
  · rfl
theorem any_other {k : Nat} {s : SV} {o : Val} (h : Cup k s) (hk : k + 8 ≤ 1000) : ∃ (ns : List Int) (s' : SV), ns.length ≤ 4 ∧ 1 ≤ ns.length ∧ (∀ x ∈ ns, Bd 5 x) ∧ Cup (k + 8) s' ∧
    asgS 3 (binM addV2 (listM (compF [2] (rng1M (consA (binM addV2 (cstM (.int 1)) (callO 0 2 6 b__law_lot (consA (cstM (.int 4)) nilA))) nilA)) (nameT 2) yesB (binM subV (callO 0 2 6 b__law_lot (consA (cstM (.int 9)) nilA)) (cstM (.int 4))))) (lstM (consA (cstM (.int 1)) nilA))) [some s, some (.fz o), none, none, none, none, none, none, none, none] =
      .ok (.nx [some s', some (.fz o), none, some (.fz (.lst ((ns ++ [1]).map .int))), none, none, none, none, none, none]) := by
  obtain ⟨v, s1, e1, v0, v1, c1⟩ := lot_ok (many := 4) h (by omega) (by decide) (by decide)
  obtain ⟨ns, s2, e2, l2, b2, c2⟩ := draws (t := 2) (e := binM subV (callO 0 2 6 b__law_lot (consA (cstM (.int 9)) nilA)) (cstM (.int 4))) (many := 9) (off := 4) (fun s => [some s, some (.fz o), none, none, none, none, none, none, none, none]) (fun x s => [some s, some (.fz o), some (.fz x), none, none, none, none, none, none, none]) (by decide) (by decide) (fun _ => rfl) (fun _ _ => rfl)
    (fun s s' x v o o' e => by ac_rfl) (fun _ _ => rfl) (fun _ _ => rfl) (1 + v).toNat 0 (k + 1) s1 c1 (by omega)
  have ow := h.own
  have ad := add_ints (a := ns) (b := [1]) (by rw [l2]; show _ + 1 ≤ 1000; omega)
  refine ⟨ns, s2, by omega, by omega, fun x hx => by have := b2 x hx; unfold Bd; omega, c2.le (by omega), ?_⟩
  apply e_asg
  · apply e_bin
    · apply e_listI
      apply e_compF
      · show _ = Rs.ok (iota 0 (1 + v).toNat, [some s1, some (.fz o), none, none, none, none, none, none, none, none])
        ac_rfl
      · rw [iota_length]; exact sz_lt (by omega)
      · rfl
      · exact e2
    · exact e_lstM (e_consA e_cst e_nilA) (small_sz rfl)
    · exact ad
  · rfl
  · rfl
theorem tr_c {p : List Int} {m : Nat} (hb : ∀ x ∈ p, Bd 14 x) (hl : p.length ≤ 25) (hp : 1 ≤ p.length) (hm : m ≤ 12) : ∀ x ∈ traces p m, Bd 250 x := fun x hx => by
  unfold traces at hx
  refine (tr_bd (fun y hy => hb y (List.mem_reverse.mp hy)) (by rw [List.length_reverse]; omega) (show Bd 5 ((p.length : Int) - 1) by unfold Bd; omega) (m - 1) x hx).mono ?_
  have := Nat.mul_le_mul_right (14 + 6) (show m - 1 ≤ 11 by omega)
  omega
/-- there and back, once -/
theorem any_back {s : SV} {p : List Int} {o1 o3 : Val} (hm : mon p) (h2 : 2 ≤ p.length) (h25 : p.length ≤ 12) (hb : ∀ x ∈ p, Bd 14 x) :
    ifS (tstM blV (binM neV (callM 1 2 b_polynomial_from (consA (callM 2 2 b_traces_from (consA (varM 4) (consA (cbM (f1 lenV) (consA (varM 4) nilA)) nilA))) nilA)) (cbM (f1 tupOfV) (consA (varM 4) nilA)))) (retS (cstM (.bl false))) nextS [some s, some (.fz o1), none, some (.fz o3), some (.fz (.lst (p.map .int))), none, none, none, none, none] =
      .ok (.nx [some s, some (.fz o1), none, some (.fz o3), some (.fz (.lst (p.map .int))), none, none, none, none, none]) := by
  have ln := lenV_ints p
  have tl := traces_length (p := p) (m := p.length) (by omega)
  have t1 := v_traces_from (Nums.lst p) hm h2 (by omega) hb (by decide) (m := p.length) (by omega) (by omega)
  have g1 := v_polynomial_from (Nums.tup (traces p p.length)) (c := 250) (by rw [tl]; exact h2) (by omega) (by rw [tl]; exact traces_zero _ _) (tr_c hb (by omega) (by omega) h25) (by decide)
  rw [back hm] at g1
  dsimp only at g1
  have tu : f1 tupOfV [.lst (p.map .int)] = some (.tup (p.map .int)) := rfl
  have d : (!decide (p = p)) = false := by rw [decide_eq_true rfl]; rfl
  ac_rfl
theorem any_due {s : SV} {a b : List Int} {o4 o5 : Val} {m : Nat} {M : Int} (eM : M = m) (ma : mon a) (mb : mon b) (a2 : 2 ≤ a.length) (b2 : 2 ≤ b.length) (a25 : a.length ≤ 12) (b25 : b.length ≤ 12) (ba : ∀ x ∈ a, Bd 14 x) (bb : ∀ x ∈ b, Bd 14 x) (m1 : 1 ≤ m) (m100 : m ≤ 100) :
    asgS 7 (cbM (f1 tupOfV) (consA (listM (compF [8, 9] (zipM (consA (callM 2 2 b_traces_from (consA (varM 1) (consA (varM 6) nilA))) (consA (callM 2 2 b_traces_from (consA (varM 3) (consA (varM 6) nilA))) nilA))) (tupT 2 (consT (nameT 8) (consT (nameT 9) nilT))) yesB (binM addV2 (varM 8) (varM 9)))) nilA)) [some s, some (.fz (.lst (a.map .int))), none, some (.fz (.lst (b.map .int))), some (.fz o4), some (.fz o5), some (.fz (.int M)), none, none, none] =
      .ok (.nx [some s, some (.fz (.lst (a.map .int))), none, some (.fz (.lst (b.map .int))), some (.fz o4), some (.fz o5), some (.fz (.int M)), some (.fz (.tup ((traces (tm a b) m).map .int))), none, none]) := by
  subst eM
  have t1 := v_traces_from (Nums.lst a) ma a2 (by omega) ba (by decide) m1 m100
  have t2 := v_traces_from (Nums.lst b) mb b2 (by omega) bb (by decide) m1 m100
  have zp : zipM (consA (callM 2 2 b_traces_from (consA (varM 1) (consA (varM 6) nilA))) (consA (callM 2 2 b_traces_from (consA (varM 3) (consA (varM 6) nilA))) nilA)) [some s, some (.fz (.lst (a.map .int))), none, some (.fz (.lst (b.map .int))), some (.fz o4), some (.fz o5), some (.fz (.int m)), none, none, none] = .ok (((traces a m).zip (traces b m)).map fun p => pairV (.int p.1) (.int p.2), [some s, some (.fz (.lst (a.map .int))), none, some (.fz (.lst (b.map .int))), some (.fz o4), some (.fz o5), some (.fz (.int m)), none, none, none]) := by
    rw [← pr_ints]
    apply e_zipT
    ac_rfl
  have cl : compL [8, 9] (tupT 2 (consT (nameT 8) (consT (nameT 9) nilT))) yesB (binM addV2 (varM 8) (varM 9)) (((traces a m).zip (traces b m)).map fun p => pairV (.int p.1) (.int p.2)) [some s, some (.fz (.lst (a.map .int))), none, some (.fz (.lst (b.map .int))), some (.fz o4), some (.fz o5), some (.fz (.int m)), none, none, none] = .ok (((traces a m).zip (traces b m)).map fun p => .int (p.1 + p.2), [some s, some (.fz (.lst (a.map .int))), none, some (.fz (.lst (b.map .int))), some (.fz o4), some (.fz o5), some (.fz (.int m)), none, none, none]) :=
    e_cLs (α := Int × Int) (fun p => pairV (.int p.1) (.int p.2)) (fun p => .int (p.1 + p.2)) (fun p => [some s, some (.fz (.lst (a.map .int))), none, some (.fz (.lst (b.map .int))), some (.fz o4), some (.fz o5), some (.fz (.int m)), none, some (.fz (.int p.1)), some (.fz (.int p.2))]) rfl _ fun p hp => ⟨rfl, by ac_rfl, rfl, rfl⟩
  have e : ((traces a m).zip (traces b m)).map (fun p => Val.int (p.1 + p.2)) = (traces (tm a b) m).map .int := by
    rw [traces_tm ma mb m1, List.zip_eq_zipWith, List.map_zipWith, List.map_zipWith]
  rw [e] at cl
  apply e_asg
  · exact e_cbM (e_consA (e_listI (e_compF zp (by rw [List.length_map, List.length_zip, traces_length m1]; exact sz_lt (by omega)) rfl cl)) e_nilA) rfl
  · rfl
  · rfl
theorem any_ok {k : Nat} {s : SV} (h : Cup k s) (hk : k + 16 ≤ 1000) : ∃ s', runO 10 b__law_any_right s [] = .ok (.bl true, s') ∧ Cup (k + 16) s' := by
  obtain ⟨as, s1, al, al1, ab, c1, e1⟩ := any_one (h.setPin (q := true)) (by omega)
  obtain ⟨bs, s2, bl, bl1, bb, c2, e2⟩ := any_other (o := .lst ((as ++ [1]).map .int)) c1 (by omega)
  have ma := mon_app as
  have mb := mon_app bs
  have la : (as ++ [1]).length = as.length + 1 := by simp
  have lb : (bs ++ [1]).length = bs.length + 1 := by simp
  have ba : ∀ x ∈ as ++ [1], Bd 4 x ∨ Bd 5 x := fun x hx => by
    rcases List.mem_append.mp hx with h | h
    · exact .inr (ab x h)
    · rw [List.mem_singleton] at h; subst h; exact .inl (by unfold Bd; decide)
  have ba : ∀ x ∈ as ++ [1], Bd 5 x := fun x hx => (ba x hx).elim (fun h => h.mono (by decide)) id
  have bb : ∀ x ∈ bs ++ [1], Bd 5 x := fun x hx => by
    rcases List.mem_append.mp hx with h | h
    · exact bb x h
    · rw [List.mem_singleton] at h; subst h; unfold Bd; decide
  generalize as ++ [1] = a at *
  generalize bs ++ [1] = b at *
  have ba14 : ∀ x ∈ a, Bd 14 x := fun x hx => (ba x hx).mono (by decide)
  have bb14 : ∀ x ∈ b, Bd 14 x := fun x hx => (bb x hx).mono (by decide)
  have k1 := any_back (s := s2) (o1 := .lst (a.map .int)) (o3 := .lst (b.map .int)) ma (by omega) (by omega) ba14
  have k2 := any_back (s := s2) (o1 := .lst (a.map .int)) (o3 := .lst (b.map .int)) mb (by omega) (by omega) bb14
  have tv := v_times (fun x hx => (ba x hx).mono (show 5 ≤ 8000 by decide)) (fun x hx => (bb x hx).mono (show 5 ≤ 8000 by decide)) (by omega) (by omega) (by omega)
  have dd := any_due (s := s2) (o4 := .lst (b.map .int)) (o5 := .lst ((tm a b).map .int)) (m := a.length + b.length + 3) (M := (a.length : Int) + b.length + 3) rfl ma mb (by omega) (by omega) (by omega) (by omega) ba14 bb14 (by omega) (by omega)
  have tb := tm_bd ba bb (by omega)
  have tl := tm_length a b
  have t1 : runV 2 b_traces_from [.lst ((tm a b).map .int), .int ((a.length : Int) + b.length + 3)] = .ok (.tup ((traces (tm a b) (a.length + b.length + 3)).map .int)) := v_traces_from (Nums.lst (tm a b)) (mon_tm ma mb) (by omega) (by omega) tb (by decide) (m := a.length + b.length + 3) (by omega) (by omega)
  have t2 : runV 2 b_traces_from [.tup ((tm a b).map .int), .int ((a.length : Int) + b.length + 3 - 4)] = .ok (.tup ((traces (tm a b) (a.length + b.length - 1)).map .int)) := by
    rw [show (a.length : Int) + b.length + 3 - 4 = ((a.length + b.length - 1 : Nat) : Int) by omega]
    exact v_traces_from (Nums.tup (tm a b)) (mon_tm ma mb) (by omega) (by omega) tb (by decide) (by omega) (by omega)
  have sl : slV (.tup ((traces (tm a b) (a.length + b.length + 3)).map .int)) none (some ((a.length : Int) + b.length + 3 - 4)) = some (.tup ((traces (tm a b) (a.length + b.length - 1)).map .int)) := by
    rw [show (a.length : Int) + b.length + 3 - 4 = ((a.length + b.length - 1 : Nat) : Int) by omega]
    show some (Val.tup (cutX ((traces (tm a b) (a.length + b.length + 3)).map Val.int) none (some ((a.length + b.length - 1 : Nat) : Int)))) = _
    rw [cut_take _ _ (by rw [List.length_map, traces_length (by omega)]; omega), map_take, traces_take (by omega) (by omega)]
  have l1 := lenV_ints a
  have l2 := lenV_ints b
  have q1 : eqV (.tup ((traces (tm a b) (a.length + b.length + 3)).map .int)) (.tup ((traces (tm a b) (a.length + b.length + 3)).map .int)) = some (.bl true) := by rw [eqV_tup, decide_eq_true rfl]
  have q2 : eqV (.tup ((traces (tm a b) (a.length + b.length - 1)).map .int)) (.tup ((traces (tm a b) (a.length + b.length - 1)).map .int)) = some (.bl true) := by rw [eqV_tup, decide_eq_true rfl]
  refine ⟨s2.setPin s.pin, ?_, c2.setPin⟩
  apply e_runOE [some (s.setPin true), none, none, none, none, none, none, none, none, none] rfl
  · unfold b__law_any_right
    apply e_seq e1
    apply e_seq e2
    apply e_seq
    · apply e_forS
      · ac_rfl
      · apply e_forL
        · ac_rfl
        · exact k1
        · apply e_forL
          · ac_rfl
          · exact k2
          · exact e_forL_nil
    apply e_seq
    · ac_rfl
    apply e_seq dd
    ac_rfl
  · rfl
  · rfl
  · exact c2.flat
  · rfl
end Y

set_option Elab.async false
set_option linter.all false
set_option maxRecDepth 100000
set_option maxHeartbeats 400000
set_option autoImplicit false
namespace Y
open PySem PySem.Spec PyProof.Rows L2 Z
local macro_rules | `(tactic| infer_instance) => `(tactic| first | (show _ = _; with_reducible assumption) | (show Bd _ _; with_reducible assumption) | (show _ < _; with_reducible assumption) | (show _ ≤ _; with_reducible assumption) | (show Fr _; first | with_reducible assumption | with_reducible exact Fr.fz | with_reducible exact Fr.none) | with_reducible exact (eqV_int _ _) | with_reducible exact (neV_int _ _) | with_reducible exact (eqV_lst _ _) | with_reducible exact (neV_lst _ _) | with_reducible exact (eqV_tup _ _) | with_reducible exact (neV_tup _ _) | with_reducible exact (sumV_ints _) | with_reducible exact (lenV_ints _) | with_reducible exact (lenV_tints _) | with_reducible exact (absVl_int _) | with_reducible exact wp0 | with_reducible exact st0 | with_reducible exact (small_sz rfl) | with_reducible exact (small_lt rfl) | with_reducible exact (melts_int _) | with_reducible exact e_cst | with_reducible exact e_nilA | with_reducible exact e_next | with_reducible exact e_yesB | with_reducible exact e_noP | with_reducible exact e_cL0 | with_reducible exact e_forL_nil | with_reducible apply e_var | with_reducible apply e_bin | with_reducible apply e_un | with_reducible apply e_tst | with_reducible apply e_or | with_reducible apply e_and | with_reducible apply e_orV | with_reducible apply e_andV | with_reducible apply e_ife | with_reducible apply e_if | with_reducible apply e_notB | with_reducible apply e_consA | with_reducible apply e_tupM | with_reducible apply e_lstM | with_reducible apply e_dispF | with_reducible apply e_cbM | with_reducible apply e_cfM | with_reducible apply e_bfM | with_reducible apply e_ownL | with_reducible apply e_listI | with_reducible apply e_walkM | with_reducible apply e_lrevF | with_reducible apply e_zrM | with_reducible apply e_enum | with_reducible apply e_rng1 | with_reducible apply e_rng2 | with_reducible apply e_parP | with_reducible apply e_sl | with_reducible apply e_slO | with_reducible apply e_view | with_reducible apply e_zipL | with_reducible apply e_chnT | with_reducible apply e_seq | with_reducible apply e_forS | with_reducible apply e_asg | with_reducible apply e_ret | with_reducible apply e_drop | with_reducible apply e_raise | with_reducible apply e_new | with_reducible apply e_newT | with_reducible apply e_par | with_reducible apply e_parNS | with_reducible apply e_asgT | with_reducible apply t_tup2 | with_reducible apply t_tup3 | with_reducible apply t_name | with_reducible apply e_ixO | with_reducible apply e_setS | with_reducible apply e_app | with_reducible apply e_melt | with_reducible apply e_callM | with_reducible apply e_callO | with_reducible apply wpS | with_reducible apply stS | with_reducible apply mulV_bd | with_reducible apply divV_pos | with_reducible apply modV_pos | with_reducible apply f1_of | with_reducible apply f2_of | ((with_reducible apply ite_T); first | (show _ = _; with_reducible assumption) | exact rfl | (apply decide_eq_true; omega)) | ((with_reducible apply ite_F); first | (show _ = _; with_reducible assumption) | exact rfl | (apply decide_eq_false; omega)) | exact rfl | decide | (show _ ∧ _; omega) | with_reducible exact bd_lit (by decide) (by decide) | with_reducible exact bd_mod (by decide) (by decide) (by decide) | with_reducible apply powV_nat | (show _ < _; omega) | (show _ ≤ _; omega) | (with_reducible apply fs0; assumption) | with_reducible apply fsS)
local macro_rules | `(tactic| ac_rfl) => `(tactic| repeat' (first | infer_instance | fail))
/-! few numbers -/
theorem flp_step {t f : List Int} {k : Nat} {q : Int} (h : flp t k = some f) (j : jn ((t.drop 1).take (k + 1)) f = q) : flp t (k + 1) = if q % ((k + 1 : Nat) : Int) = 0 then some (f ++ [-q / ((k + 1 : Nat) : Int)]) else none := by
  subst j
  show (flp t k).bind _ = _
  rw [h]; rfl
theorem flp1 {a x : Int} {r : List Int} : flp (a :: x :: r) 1 = some [1, -x] := by
  have := flp_step (t := a :: x :: r) (k := 0) (f := [1]) (q := x) rfl (by simp [jn])
  rw [this, if_pos (by omega)]
  show some ([1] ++ [-x / 1]) = _
  rw [Int.ediv_one]; rfl
theorem flp2 {a x y : Int} {r : List Int} : flp (a :: x :: y :: r) 2 = if (x * x - y) % 2 = 0 then some [1, -x, (x * x - y) / 2] else none := by
  have := flp_step (t := a :: x :: y :: r) (k := 1) (f := [1, -x]) (q := y - x * x) flp1 (by simp [jn]; grind)
  rw [this]
  show (if (y - x * x) % 2 = 0 then some [1, -x, -(y - x * x) / 2] else none) = _
  generalize x * x = q
  by_cases h : (q - y) % 2 = 0
  · rw [if_pos h, if_pos (by omega), show -(y - q) / 2 = (q - y) / 2 by omega]
  · rw [if_neg h, if_neg (by omega)]
theorem flp3 {a x y z : Int} {r : List Int} : flp (a :: x :: y :: z :: r) 3 = if (x * x - y) % 2 = 0 ∧ (x * x * x - 3 * x * y + 2 * z) % 6 = 0 then some [1, -x, (x * x - y) / 2, -((x * x * x - 3 * x * y + 2 * z) / 6)] else none := by
  have f2 := flp2 (a := a) (x := x) (y := y) (r := z :: r)
  by_cases h : (x * x - y) % 2 = 0
  · rw [if_pos h] at f2
    generalize hh : (x * x - y) / 2 = w at *
    have hw : x * x - y = 2 * w := by omega
    have e1 : x * x * x - 3 * x * y + 2 * z = 2 * (z - x * y + x * w) := by
      have : x * (x * x - y) = x * (2 * w) := by rw [hw]
      grind
    have := flp_step (t := a :: x :: y :: z :: r) (k := 2) (q := z - x * y + x * w) f2 (by simp [jn]; grind)
    rw [this, e1]
    generalize z - x * y + x * w = q
    show (if q % 3 = 0 then some [1, -x, w, -q / 3] else none) = _
    by_cases h3 : (2 * q) % 6 = 0
    · rw [if_pos (by omega), if_pos ⟨h, h3⟩, show -q / 3 = -(2 * q / 6) by omega]
    · rw [if_neg (by omega), if_neg (fun z => h3 z.2)]
  · rw [if_neg h] at f2
    rw [if_neg (fun z => h z.1)]
    exact flp_none f2 1
theorem poly1 (x : Int) : polyOf [1, x] = some [-x, 1] := by
  unfold polyOf
  show (flp [1, x] 1).map _ = _
  rw [flp1]; rfl
theorem poly2 (x y : Int) : polyOf [2, x, y] = if (x * x - y) % 2 = 0 then some [(x * x - y) / 2, -x, 1] else none := by
  unfold polyOf
  show (flp [2, x, y] 2).map _ = _
  rw [flp2]
  by_cases h : (x * x - y) % 2 = 0
  · rw [if_pos h, if_pos h]; rfl
  · rw [if_neg h, if_neg h]; rfl
theorem poly3 (x y z : Int) : polyOf [3, x, y, z] = if (x * x - y) % 2 = 0 ∧ (x * x * x - 3 * x * y + 2 * z) % 6 = 0 then some [-((x * x * x - 3 * x * y + 2 * z) / 6), (x * x - y) / 2, -x, 1] else none := by
  unfold polyOf
  show (flp [3, x, y, z] 3).map _ = _
  rw [flp3]
  by_cases h : (x * x - y) % 2 = 0 ∧ (x * x * x - 3 * x * y + 2 * z) % 6 = 0
  · rw [if_pos h, if_pos h]; rfl
  · rw [if_neg h, if_neg h]; rfl
/-- what is heard of it -/
def hdV (t : List Int) : Val := match polyOf t with | some p => .tup (p.map .int) | none => .str "traces"
theorem heard {x : Val} {t : List Int} {c : Nat} {al : MA} {ρ ρ1 : En} (hx : Nums x t) (h2 : 2 ≤ t.length) (h25 : t.length ≤ 25) (h0 : gd t 0 = (t.length : Int) - 1) (hc : ∀ a ∈ t, Bd c a) (c250 : c ≤ 250) (ha : al ρ = .ok ([x], ρ1)) : hearM2 1 ("part" : Str) (callM 1 2 b_polynomial_from al) ρ = .ok (hdV t, ρ1) := by
  have v := v_polynomial_from hx h2 h25 h0 hc c250
  unfold hdV
  cases e : polyOf t with
  | some p => rw [e] at v; exact e_hearN (e_callM ha v)
  | none => rw [e] at v; exact e_hearX (e_callX ha v)
def sxV (x y : Int) : Int := x * x - y
def txV (x y z : Int) : Int := x * x * x - 3 * x * y + 2 * z
theorem hd2 (x y : Int) : hdV [2, x, y] = if sxV x y % 2 = 0 then .tup [.int (sxV x y / 2), .int (-x), .int 1] else .str "traces" := by
  unfold hdV sxV
  rw [poly2]
  by_cases h : (x * x - y) % 2 = 0
  · rw [if_pos h, if_pos h]; rfl
  · rw [if_neg h, if_neg h]
theorem hd3 (x y z : Int) : hdV [3, x, y, z] = if sxV x y % 2 = 0 ∧ txV x y z % 6 = 0 then .tup [.int (-(txV x y z / 6)), .int (sxV x y / 2), .int (-x), .int 1] else .str "traces" := by
  unfold hdV sxV txV
  rw [poly3]
  by_cases h : (x * x - y) % 2 = 0 ∧ (x * x * x - 3 * x * y + 2 * z) % 6 = 0
  · rw [if_pos h, if_pos h]; rfl
  · rw [if_neg h, if_neg h]
theorem hd_self (t : List Int) : neV (hdV t) (hdV t) = some (.bl false) ∧ eqV (hdV t) (hdV t) = some (.bl true) := by
  unfold hdV
  cases polyOf t with
  | some p => exact ⟨by rw [neV_tup, decide_eq_true rfl]; rfl, by rw [eqV_tup, decide_eq_true rfl]⟩
  | none => exact ⟨neV_same (ok_of _), eqV_same (ok_of _)⟩
theorem few_ok {k : Nat} {s : SV} (h : Cup k s) (hk : k + 3 ≤ 1000) : ∃ s', runO 8 b__law_few_right s [] = .ok (.bl true, s') ∧ Cup (k + 3) s' := by
  have h := h.setPin (q := true)
  obtain ⟨v1, s1, e1, a1, b1, c1⟩ := lot_ok (many := 9) h (by omega) (by decide) (by decide)
  obtain ⟨v2, s2, e2, a2, b2, c2⟩ := lot_ok (many := 19) c1 (by omega) (by decide) (by decide)
  obtain ⟨v3, s3, e3, a3, b3, c3⟩ := lot_ok (many := 41) c2 (by omega) (by decide) (by decide)
  have o0 := h.own
  have o1 := c1.own
  have o2 := c2.own
  have bx : Bd 60 (v1 - 4) := .sm (by omega) (by decide)
  have bx8 : Bd 8000 (v1 - 4) := bx.mono (by decide)
  have by_ : Bd 60 (v2 - 9) := .sm (by omega) (by decide)
  have by8 : Bd 8000 (v2 - 9) := by_.mono (by decide)
  have bz : Bd 60 (v3 - 20) := .sm (by omega) (by decide)
  have bz8 : Bd 8000 (v3 - 20) := bz.mono (by decide)
  have d0 : asgT (tupT 3 (consT (nameT 1) (consT (nameT 2) (consT (nameT 3) nilT)))) (tupM (consA (binM subV (callO 0 2 6 b__law_lot (consA (cstM (.int 9)) nilA)) (cstM (.int 4))) (consA (binM subV (callO 0 2 6 b__law_lot (consA (cstM (.int 19)) nilA)) (cstM (.int 9))) (consA (binM subV (callO 0 2 6 b__law_lot (consA (cstM (.int 41)) nilA)) (cstM (.int 20))) nilA)))) [some (s.setPin true), none, none, none, none, none, none, none] =
      .ok (.nx [some s3, some (.fz (.int (v1 - 4))), some (.fz (.int (v2 - 9))), some (.fz (.int (v3 - 20))), none, none, none, none]) := by ac_rfl
  generalize v1 - 4 = x at *
  generalize v2 - 9 = y at *
  generalize v3 - 20 = z at *
  have mxx : Bd 8000 (x * x) := (bx.mul bx).mono (by decide)
  have mxxx : Bd 8000 (x * x * x) := ((bx.mul bx).mul bx).mono (by decide)
  have m3 : Bd 60 3 := .sm (by decide) (by decide)
  have m3x : Bd 8000 (3 * x) := (m3.mul bx).mono (by decide)
  have d1 : parS 4 5 (consA (binM subV (binM mulV (varM 1) (varM 1)) (varM 2)) (consA (binM addV2 (binM subV (binM mulV (binM mulV (varM 1) (varM 1)) (varM 1)) (binM mulV (binM mulV (cstM (.int 3)) (varM 1)) (varM 2))) (binM mulV (cstM (.int 2)) (varM 3))) nilA)) [some s3, some (.fz (.int x)), some (.fz (.int y)), some (.fz (.int z)), none, none, none, none] =
      .ok (.nx [some s3, some (.fz (.int x)), some (.fz (.int y)), some (.fz (.int z)), some (.fz (.int (sxV x y))), some (.fz (.int (txV x y z))), none, none]) := by
    unfold sxV txV
    ac_rfl
  have b4 : ∀ a ∈ [3, x, y, z], Bd 60 a := fun a ha => by
    simp only [List.mem_cons, List.not_mem_nil, or_false] at ha
    rcases ha with rfl | rfl | rfl | rfl <;> first | assumption
  have b3 : ∀ a ∈ [2, x, y], Bd 60 a := fun a ha => by
    simp only [List.mem_cons, List.not_mem_nil, or_false] at ha
    rcases ha with rfl | rfl | rfl
    · exact .sm (by decide) (by decide)
    · exact bx
    · exact by_
  have b2' : ∀ a ∈ [1, x], Bd 60 a := fun a ha => by
    simp only [List.mem_cons, List.not_mem_nil, or_false] at ha
    rcases ha with rfl | rfl
    · exact .sm (by decide) (by decide)
    · exact bx
  have d2 : asgS 6 (ifM (tstM blV (binM eqV (binM modV (cbM (f1 intV) (consA (varM 4) nilA)) (cstM (.int 2))) (cstM (.int 0)))) (tupM (consA (cbM (f1 intV) (consA (binM divV (varM 4) (cstM (.int 2))) nilA)) (consA (unM negV (varM 1)) (consA (cstM (.int 1)) nilA)))) (cstM (.str ("traces" : Str)))) [some s3, some (.fz (.int x)), some (.fz (.int y)), some (.fz (.int z)), some (.fz (.int (sxV x y))), some (.fz (.int (txV x y z))), none, none] =
      .ok (.nx [some s3, some (.fz (.int x)), some (.fz (.int y)), some (.fz (.int z)), some (.fz (.int (sxV x y))), some (.fz (.int (txV x y z))), some (.fz (hdV [2, x, y])), none]) := by
    rw [hd2]
    by_cases q : sxV x y % 2 = 0
    · rw [if_pos q]
      have d := decide_eq_true q
      have t2 : Bd 60 2 := .sm (by decide) (by decide)
      have z2 : (0 : Int) < 2 := by decide
      ac_rfl
    · rw [if_neg q]
      have d := decide_eq_false q
      ac_rfl
  have p1 : runV 2 b_polynomial_from [.tup [.int 1, .int x]] = .ok (.tup [.int (-x), .int 1]) := by
    have := v_polynomial_from (Nums.tup [1, x]) (by show 2 ≤ 2; decide) (by show 2 ≤ 25; decide) rfl b2' (by decide)
    rw [poly1] at this
    exact this
  have q1 : neV (.tup [.int (-x), .int 1]) (.tup [.int (-x), .int 1]) = some (.bl false) := by
    have := neV_tup [-x, 1] [-x, 1]
    rw [decide_eq_true rfl] at this
    exact this
  have n2 := (hd_self [2, x, y]).1
  have n3 := (hd_self [3, x, y, z]).2
  have hd2' : hearM2 1 ("part" : Str) (callM 1 2 b_polynomial_from (consA (lstM (consA (cstM (.int 2)) (consA (varM 1) (consA (varM 2) nilA)))) nilA)) [some s3, some (.fz (.int x)), some (.fz (.int y)), some (.fz (.int z)), some (.fz (.int (sxV x y))), some (.fz (.int (txV x y z))), some (.fz (hdV [2, x, y])), none] = .ok (hdV [2, x, y], [some s3, some (.fz (.int x)), some (.fz (.int y)), some (.fz (.int z)), some (.fz (.int (sxV x y))), some (.fz (.int (txV x y z))), some (.fz (hdV [2, x, y])), none]) :=
    heard (Nums.lst [2, x, y]) (by show 2 ≤ 3; decide) (by show 3 ≤ 25; decide) rfl b3 (by decide) (e_consA (e_lstM (e_consA e_cst (e_consA (e_var rfl) (e_consA (e_var rfl) e_nilA))) (small_sz rfl)) e_nilA)
  have d3 : ∃ w, asgS 7 (andM (binM eqV (binM modV (cbM (f1 intV) (consA (varM 4) nilA)) (cstM (.int 2))) (cstM (.int 0))) (binM eqV (binM modV (cbM (f1 intV) (consA (varM 5) nilA)) (cstM (.int 6))) (cstM (.int 0)))) [some s3, some (.fz (.int x)), some (.fz (.int y)), some (.fz (.int z)), some (.fz (.int (sxV x y))), some (.fz (.int (txV x y z))), some (.fz (hdV [2, x, y])), none] = .ok (.nx [some s3, some (.fz (.int x)), some (.fz (.int y)), some (.fz (.int z)), some (.fz (.int (sxV x y))), some (.fz (.int (txV x y z))), some (.fz (hdV [2, x, y])), some (.fz (.bl w))]) ∧
      asgS 6 (ifM (tstM truV (varM 7)) (tupM (consA (unM negV (cbM (f1 intV) (consA (binM divV (varM 5) (cstM (.int 6))) nilA))) (consA (cbM (f1 intV) (consA (binM divV (varM 4) (cstM (.int 2))) nilA)) (consA (unM negV (varM 1)) (consA (cstM (.int 1)) nilA))))) (cstM (.str ("traces" : Str)))) [some s3, some (.fz (.int x)), some (.fz (.int y)), some (.fz (.int z)), some (.fz (.int (sxV x y))), some (.fz (.int (txV x y z))), some (.fz (hdV [2, x, y])), some (.fz (.bl w))] = .ok (.nx [some s3, some (.fz (.int x)), some (.fz (.int y)), some (.fz (.int z)), some (.fz (.int (sxV x y))), some (.fz (.int (txV x y z))), some (.fz (hdV [3, x, y, z])), some (.fz (.bl w))]) := by
    rw [hd3]
    have t2 : Bd 60 2 := .sm (by decide) (by decide)
    have t6 : Bd 60 6 := .sm (by decide) (by decide)
    have z2 : (0 : Int) < 2 := by decide
    have z6 : (0 : Int) < 6 := by decide
    by_cases q : sxV x y % 2 = 0
    · have d := decide_eq_true q
      by_cases r : txV x y z % 6 = 0
      · rw [if_pos ⟨q, r⟩]
        have d' := decide_eq_true r
        refine ⟨true, ?_, ?_⟩
        · rw [← d']; ac_rfl
        · ac_rfl
      · rw [if_neg (fun z => r z.2)]
        have d' := decide_eq_false r
        refine ⟨false, ?_, ?_⟩
        · rw [← d']; ac_rfl
        · ac_rfl
    · rw [if_neg (fun z => q z.1)]
      have d := decide_eq_false q
      refine ⟨false, ?_, ?_⟩
      · ac_rfl
      · ac_rfl
  obtain ⟨w, d3, d4⟩ := d3
  have hd3' : hearM2 1 ("part" : Str) (callM 1 2 b_polynomial_from (consA (lstM (consA (cstM (.int 3)) (consA (varM 1) (consA (varM 2) (consA (varM 3) nilA))))) nilA)) [some s3, some (.fz (.int x)), some (.fz (.int y)), some (.fz (.int z)), some (.fz (.int (sxV x y))), some (.fz (.int (txV x y z))), some (.fz (hdV [3, x, y, z])), some (.fz (.bl w))] = .ok (hdV [3, x, y, z], [some s3, some (.fz (.int x)), some (.fz (.int y)), some (.fz (.int z)), some (.fz (.int (sxV x y))), some (.fz (.int (txV x y z))), some (.fz (hdV [3, x, y, z])), some (.fz (.bl w))]) :=
    heard (Nums.lst [3, x, y, z]) (by show 2 ≤ 4; decide) (by show 4 ≤ 25; decide) rfl b4 (by decide) (e_consA (e_lstM (e_consA e_cst (e_consA (e_var rfl) (e_consA (e_var rfl) (e_consA (e_var rfl) e_nilA)))) (small_sz rfl)) e_nilA)
  refine ⟨s3.setPin s.pin, ?_, c3.setPin⟩
  apply e_runOE [some (s.setPin true), none, none, none, none, none, none, none] rfl
  · unfold b__law_few_right
    apply e_seq d0
    apply e_seq d1
    apply e_seq d2
    apply e_seq
    · ac_rfl
    apply e_seq d3
    apply e_seq d4
    ac_rfl
  · rfl
  · rfl
  · exact c3.flat
  · rfl
end Y

set_option Elab.async false
set_option linter.all false
set_option maxRecDepth 100000
set_option maxHeartbeats 400000
set_option autoImplicit false
namespace Y
open PySem PySem.Spec PyProof.Rows L2 Z
local macro_rules | `(tactic| infer_instance) => `(tactic| first | (show _ = _; with_reducible assumption) | (show Bd _ _; with_reducible assumption) | (show _ < _; with_reducible assumption) | (show _ ≤ _; with_reducible assumption) | (show Fr _; first | with_reducible assumption | with_reducible exact Fr.fz | with_reducible exact Fr.none) | with_reducible exact (eqV_int _ _) | with_reducible exact (neV_int _ _) | with_reducible exact (eqV_lst _ _) | with_reducible exact (neV_lst _ _) | with_reducible exact (eqV_tup _ _) | with_reducible exact (neV_tup _ _) | with_reducible exact (sumV_ints _) | with_reducible exact (lenV_ints _) | with_reducible exact (lenV_tints _) | with_reducible exact (absVl_int _) | with_reducible exact wp0 | with_reducible exact st0 | with_reducible exact (small_sz rfl) | with_reducible exact (small_lt rfl) | with_reducible exact (melts_int _) | with_reducible exact e_cst | with_reducible exact e_nilA | with_reducible exact e_next | with_reducible exact e_yesB | with_reducible exact e_noP | with_reducible exact e_cL0 | with_reducible exact e_forL_nil | with_reducible apply e_var | with_reducible apply e_bin | with_reducible apply e_un | with_reducible apply e_tst | with_reducible apply e_or | with_reducible apply e_and | with_reducible apply e_orV | with_reducible apply e_andV | with_reducible apply e_ife | with_reducible apply e_if | with_reducible apply e_notB | with_reducible apply e_consA | with_reducible apply e_tupM | with_reducible apply e_lstM | with_reducible apply e_dispF | with_reducible apply e_cbM | with_reducible apply e_cfM | with_reducible apply e_bfM | with_reducible apply e_ownL | with_reducible apply e_listI | with_reducible apply e_walkM | with_reducible apply e_lrevF | with_reducible apply e_zrM | with_reducible apply e_enum | with_reducible apply e_rng1 | with_reducible apply e_rng2 | with_reducible apply e_parP | with_reducible apply e_sl | with_reducible apply e_slO | with_reducible apply e_view | with_reducible apply e_zipL | with_reducible apply e_chnT | with_reducible apply e_seq | with_reducible apply e_forS | with_reducible apply e_asg | with_reducible apply e_ret | with_reducible apply e_drop | with_reducible apply e_raise | with_reducible apply e_new | with_reducible apply e_newT | with_reducible apply e_par | with_reducible apply e_parNS | with_reducible apply e_asgT | with_reducible apply t_tup2 | with_reducible apply t_tup3 | with_reducible apply t_name | with_reducible apply e_ixO | with_reducible apply e_setS | with_reducible apply e_app | with_reducible apply e_melt | with_reducible apply e_callM | with_reducible apply e_callO | with_reducible apply wpS | with_reducible apply stS | with_reducible apply mulV_bd | with_reducible apply divV_pos | with_reducible apply modV_pos | with_reducible apply f1_of | with_reducible apply f2_of | ((with_reducible apply ite_T); first | (show _ = _; with_reducible assumption) | exact rfl | (apply decide_eq_true; omega)) | ((with_reducible apply ite_F); first | (show _ = _; with_reducible assumption) | exact rfl | (apply decide_eq_false; omega)) | exact rfl | decide | (show _ ∧ _; omega) | with_reducible exact bd_lit (by decide) (by decide) | with_reducible exact bd_mod (by decide) (by decide) (by decide) | with_reducible apply powV_nat | (show _ < _; omega) | (show _ ≤ _; omega) | (with_reducible apply fs0; assumption) | with_reducible apply fsS)
local macro_rules | `(tactic| ac_rfl) => `(tactic| repeat' (first | infer_instance | fail))
theorem jar_made (ns : List Int) (hl : ns.length ≤ 63) : n__law_jar [some (.fz (.scr ns)), none] = .ok (.olst (CupV (ns.take 58) 0 0), [some (.fz (.scr ns)), none]) := by
  have sc : scrF 58 (varM 0) [some (.fz (.scr ns)), none] = .ok ((ns.take 58).map .int, [some (.fz (.scr ns)), none]) := by unfold scrF; rw [e_var rfl]; rfl
  have cl : compL [1] (nameT 1) yesB (cbM (f1 intV) (consA (varM 1) nilA)) ((ns.take 58).map .int) [some (.fz (.scr ns)), none] = .ok ((ns.take 58).map .int, [some (.fz (.scr ns)), none]) :=
    e_cLs Val.int Val.int (fun i => [some (.fz (.scr ns)), some (.fz (.int i))]) rfl _ fun i hi => ⟨rfl, by ac_rfl, rfl, rfl⟩
  have lst : listM (compF [1] (walkM seqV (listM (scrF 58 (varM 0)))) (nameT 1) yesB (cbM (f1 intV) (consA (varM 1) nilA))) [some (.fz (.scr ns)), none] = .ok (.lst ((ns.take 58).map .int), [some (.fz (.scr ns)), none]) :=
    e_listI (e_compF (e_walkM (e_listI sc) rfl) (by rw [List.length_map, List.length_take]; exact sz_lt (by omega)) rfl cl)
  unfold n__law_jar CupV
  ac_rfl
theorem bits_log {z : Int} (h : Builtin.Int.intBits z ≤ 1048576) : z.natAbs.log2 < 50000000 := by
  unfold Builtin.Int.intBits at h
  split at h
  · rename_i e
    have e : z.natAbs = 0 := by simpa using e
    rw [e]
    decide
  · omega
/-! a lap -/
theorem eqV_off (ns : List Int) {s : Str} (h : PyData.strOk s = true) : eqV (.tup (ns.map .int)) (.str s) = some (.bl false) := by
  simp only [eqV, dat, dats_ints, Option.map_some]
  rw [if_pos ⟨shp_tup ns, shp_str h⟩]
  simp [PyData.eqv]
theorem poly_even (c d : Int) : polyOf [4, 0, 2 * c, 0, 2 * c * (2 * c) / 2 + 4 * d] = some [-d, 0, -c, 0, 1] := by
  have f3 := flp3 (a := 4) (x := 0) (y := 2 * c) (z := 0) (r := [2 * c * (2 * c) / 2 + 4 * d])
  rw [if_pos ⟨by omega, by omega⟩] at f3
  have e1 : (0 * 0 - 2 * c) / 2 = -c := by omega
  have e2 : -((0 * 0 * 0 - 3 * 0 * (2 * c) + 2 * 0) / 6) = (0 : Int) := by omega
  rw [e1, e2] at f3
  have e3 : 2 * c * (2 * c) / 2 = 2 * (c * c) := by
    rw [show 2 * c * (2 * c) = 2 * (2 * (c * c)) by grind]; omega
  have f4 := flp_step (k := 3) (q := 4 * d) f3 (by rw [e3]; simp [jn]; grind)
  unfold polyOf
  show (flp _ 4).map _ = _
  rw [f4]
  show (if (4 * d) % 4 = 0 then some ([1, -0, -c, 0] ++ [-(4 * d) / 4]) else none).map _ = _
  rw [if_pos (by omega), show -(4 * d) / 4 = -d by omega]
  rfl
theorem poly_c {t p : List Int} {c : Nat} (h : polyOf t = some p) (ht : ∀ x ∈ t, Bd c x) (hl : t.length ≤ 5) (hc : c ≤ 8) : ∀ x ∈ p, Bd 70 x := fun x hx => by
  unfold polyOf at h
  obtain ⟨f, e1, e2⟩ := Option.map_eq_some_iff.mp h
  subst e2
  refine ((flp_bd ht _ f (by omega) e1).2 x (List.mem_reverse.mp hx)).mono ?_
  have := Nat.mul_le_mul (show t.length - 1 ≤ 4 by omega) (show c + 5 ≤ 13 by omega)
  omega
section
variable {u0 u2 u3 u5 u6 : Option SV} {s : SV} {k : Nat}
theorem lap_rights (h : Cup k s) (hk : k + 28 ≤ 1000) : ∃ s', Cup (k + 28) s' ∧ ifS (orB (notB (tstM truV (callO 1 1 6 b__law_product_right nilA))) (orB (notB (tstM truV (callO 1 1 10 b__law_any_right nilA))) (notB (tstM truV (callO 1 1 8 b__law_few_right nilA))))) (retS (cstM (.bl false))) nextS [u0, some s, u2, u3, none, u5, u6] = .ok (.nx [u0, some s', u2, u3, none, u5, u6]) := by
  obtain ⟨s1, e1, c1⟩ := pr_ok h (by omega)
  obtain ⟨s2, e2, c2⟩ := any_ok c1 (by omega)
  obtain ⟨s3, e3, c3⟩ := few_ok c2 (by omega)
  have o0 := h.own
  have o1 := c1.own
  have o2 := c2.own
  refine ⟨s3, c3.le (by omega), ?_⟩
  ac_rfl
theorem lap_draw (f3 : Fr u3) (h : Cup k s) (hk : k + 4 ≤ 1000) : ∃ (ns : List Int) (s' : SV), Cup (k + 4) s' ∧ ns.length = 4 ∧ (∀ x ∈ ns, Bd 4 x) ∧
    asgS 3 (binM addV2 (lstM (consA (cstM (.int 4)) nilA)) (listM (compF [4] (rng1M (consA (cstM (.int 4)) nilA)) (nameT 4) yesB (binM subV (callO 1 2 6 b__law_lot (consA (cstM (.int 17)) nilA)) (cstM (.int 8)))))) [u0, some s, u2, u3, none, u5, u6] = .ok (.nx [u0, some s', u2, some (.fz (.lst ((4 :: ns).map .int))), none, u5, u6]) := by
  obtain ⟨ns, s2, e2, l2, b2, c2⟩ := draws (t := 4) (e := binM subV (callO 1 2 6 b__law_lot (consA (cstM (.int 17)) nilA)) (cstM (.int 8))) (many := 17) (off := 8) (fun s => [u0, some s, u2, u3, none, u5, u6]) (fun x s => [u0, some s, u2, u3, some (.fz x), u5, u6]) (by decide) (by decide) (fun _ => rfl) (fun _ _ => rfl)
    (fun s s' x v o o' e => by ac_rfl) (fun _ _ => rfl) (fun _ _ => rfl) 4 0 k s h (by omega)
  have ad := add_ints (a := [4]) (b := ns) (by rw [l2]; decide)
  refine ⟨ns, s2, c2, l2, fun x hx => by have := b2 x hx; unfold Bd; omega, ?_⟩
  apply e_asg
  · apply e_bin
    · exact e_lstM (e_consA e_cst e_nilA) (small_sz rfl)
    · apply e_listI
      apply e_compF
      · show _ = Rs.ok (iota 0 ((4 : Int)).toNat, [u0, some s, u2, u3, none, u5, u6])
        ac_rfl
      · rw [iota_length]; exact sz_lt (by decide)
      · rfl
      · exact e2
    · exact ad
  · exact fsS (fsS (fsS (fs0 f3)))
  · rfl
theorem lap_back {t : List Int} (f5 : Fr u5) (hl : t.length = 5) (h0 : gd t 0 = 4) (hb : ∀ x ∈ t, Bd 4 x) : ∃ y, 
    asgS 5 (hearM2 1 ("part" : Str) (callM 1 2 b_polynomial_from (consA (varM 3) nilA))) [u0, some s, u2, some (.fz (.lst (t.map .int))), none, u5, u6] = .ok (.nx [u0, some s, u2, some (.fz (.lst (t.map .int))), none, some (.fz y), u6]) ∧
    ifS (orB (andB (tstM truV (cbM (f2 isiV) (consA (varM 5) (consA (cstM (.ty "tuple")) nilA)))) (orB (tstM blV (binM neV (binM ixV (varM 5) (unM negV (cstM (.int 1)))) (cstM (.int 1)))) (tstM blV (binM neV (callM 2 2 b_traces_from (consA (varM 5) (consA (cstM (.int 5)) nilA))) (cbM (f1 tupOfV) (consA (varM 3) nilA)))))) (tstM blV (binM eqV (varM 5) (cstM (.str ("other" : Str)))))) (retS (cstM (.bl false))) nextS [u0, some s, u2, some (.fz (.lst (t.map .int))), none, some (.fz y), u6] = .ok (.nx [u0, some s, u2, some (.fz (.lst (t.map .int))), none, some (.fz y), u6]) := by
  refine ⟨hdV t, ?_, ?_⟩
  · apply e_asg
    · exact heard (Nums.lst t) (by omega) (by omega) (by rw [h0, hl]; rfl) hb (by decide) (e_consA (e_var rfl) e_nilA)
    · exact fsS (fsS (fsS (fsS (fsS (fs0 f5)))))
    · rfl
  · unfold hdV
    cases e : polyOf t with
    | some p =>
      obtain ⟨m, pl, tp⟩ := forth (by rw [h0, hl]; rfl) (by intro z; subst z; cases hl) e
      have la := (Nums.tup p).last m
      have pb := poly_c e hb (by omega) (by decide)
      have t1 : runV 2 b_traces_from [.tup (p.map .int), .int 5] = .ok (.tup (t.map .int)) := by
        have := v_traces_from (Nums.tup p) m (by omega) (by omega) pb (by decide) (m := t.length) (by omega) (by omega)
        rw [tp, hl] at this
        exact this
      have d : (!decide (t = t)) = false := by rw [decide_eq_true rfl]; rfl
      have eo := eqV_off p (ok_of "other")
      have tu : f1 tupOfV [.lst (t.map .int)] = some (.tup (t.map .int)) := rfl
      dsimp only
      ac_rfl
    | none =>
      have eo : eqV (.str ("traces" : Str)) (.str ("other" : Str)) = some (.bl false) := by
        simp only [eqV, dat]
        rw [if_pos ⟨shp_str (ok_of _), shp_str (ok_of _)⟩]
        simp only [PyData.eqv]
        congr 2
      dsimp only
      ac_rfl
theorem lap_even (f6 : Fr u6) (h : Cup k s) (hk : k + 2 ≤ 1000) : ∃ s' y, Cup (k + 2) s' ∧
    seqS (asgS 6 (lstM (consA (cstM (.int 4)) (consA (cstM (.int 0)) (consA (binM mulV (cstM (.int 2)) (callO 1 2 6 b__law_lot (consA (cstM (.int 5)) nilA))) (consA (cstM (.int 0)) nilA)))))) (ifS (tstM blV (binM eqV (hearM2 1 ("part" : Str) (callM 1 2 b_polynomial_from (consA (binM addV2 (varM 6) (lstM (consA (binM addV2 (binM divV (binM mulV (binM ixV (varM 6) (cstM (.int 2))) (binM ixV (varM 6) (cstM (.int 2)))) (cstM (.int 2))) (binM mulV (cstM (.int 4)) (callO 1 2 6 b__law_lot (consA (cstM (.int 3)) nilA)))) nilA))) nilA))) (cstM (.str ("traces" : Str))))) (retS (cstM (.bl false))) nextS) [u0, some s, u2, u3, none, u5, u6] = .ok (.nx [u0, some s', u2, u3, none, u5, some (.fz y)]) := by
  obtain ⟨c, s1, e1, a1, b1, c1⟩ := lot_ok (many := 5) h (by omega) (by decide) (by decide)
  obtain ⟨d, s2, e2, a2, b2, c2⟩ := lot_ok (many := 3) c1 (by omega) (by decide) (by decide)
  have o0 := h.own
  have o1 := c1.own
  have bc : Bd 8000 c := .sm (by omega) (by decide)
  have bd : Bd 8000 d := .sm (by omega) (by decide)
  have b2c : Bd 60 (2 * c) := .sm (by omega) (by decide)
  have b2c8 : Bd 8000 (2 * c) := b2c.mono (by decide)
  have z2 : (0 : Int) < 2 := by decide
  have t2 : Bd 60 2 := .sm (by decide) (by decide)
  have cc : c * c ≤ 16 := by
    have := Int.mul_le_mul (show c ≤ 4 by omega) (show c ≤ 4 by omega) a1 (by decide)
    omega
  have cc0 : 0 ≤ c * c := Int.mul_nonneg a1 a1
  have e3 : 2 * c * (2 * c) / 2 = 2 * (c * c) := by
    rw [show 2 * c * (2 * c) = 2 * (2 * (c * c)) by grind]; omega
  have ad : addV2 (.lst [.int 4, .int 0, .int (2 * c), .int 0]) (.lst [.int (2 * c * (2 * c) / 2 + 4 * d)]) = some (.lst ([4, 0, 2 * c, 0, 2 * c * (2 * c) / 2 + 4 * d].map .int)) := add_ints (a := [4, 0, 2 * c, 0]) (b := [2 * c * (2 * c) / 2 + 4 * d]) (by show 5 ≤ 1000; decide)
  have args : consA (binM addV2 (varM 6) (lstM (consA (binM addV2 (binM divV (binM mulV (binM ixV (varM 6) (cstM (.int 2))) (binM ixV (varM 6) (cstM (.int 2)))) (cstM (.int 2))) (binM mulV (cstM (.int 4)) (callO 1 2 6 b__law_lot (consA (cstM (.int 3)) nilA)))) nilA))) nilA [u0, some s1, u2, u3, none, u5, some (.fz (.lst [.int 4, .int 0, .int (2 * c), .int 0]))] = .ok ([.lst ([4, 0, 2 * c, 0, 2 * c * (2 * c) / 2 + 4 * d].map .int)], [u0, some s2, u2, u3, none, u5, some (.fz (.lst [.int 4, .int 0, .int (2 * c), .int 0]))]) := by ac_rfl
  have hd := heard (t := [4, 0, 2 * c, 0, 2 * c * (2 * c) / 2 + 4 * d]) (c := 60) (Nums.lst _) (by show 2 ≤ 5; decide) (by show 5 ≤ 25; decide) rfl (fun a ha => by
    rw [e3] at ha
    simp only [List.mem_cons, List.not_mem_nil, or_false] at ha
    rcases ha with rfl | rfl | rfl | rfl | rfl <;> exact .sm (by omega) (by decide)) (by decide) args
  unfold hdV at hd
  rw [poly_even] at hd
  dsimp only at hd
  have eo := eqV_off [-d, 0, -c, 0, 1] (ok_of "traces")
  refine ⟨s2, .lst [.int 4, .int 0, .int (2 * c), .int 0], c2, ?_⟩
  ac_rfl
/-- one lap -/
theorem lap_ok {x : Val} (fr2 : Fr u2) (fr3 : Fr u3) (fr5 : Fr u5) (fr6 : Fr u6) (h : Cup k s) (hk : k + 34 ≤ 1000) {body : MS} (hb : body = seqS (ifS (orB (notB (tstM truV (callO 1 1 6 b__law_product_right nilA))) (orB (notB (tstM truV (callO 1 1 10 b__law_any_right nilA))) (notB (tstM truV (callO 1 1 8 b__law_few_right nilA))))) (retS (cstM (.bl false))) nextS) (seqS (asgS 3 (binM addV2 (lstM (consA (cstM (.int 4)) nilA)) (listM (compF [4] (rng1M (consA (cstM (.int 4)) nilA)) (nameT 4) yesB (binM subV (callO 1 2 6 b__law_lot (consA (cstM (.int 17)) nilA)) (cstM (.int 8))))))) (seqS (asgS 5 (hearM2 1 ("part" : Str) (callM 1 2 b_polynomial_from (consA (varM 3) nilA)))) (seqS (ifS (orB (andB (tstM truV (cbM (f2 isiV) (consA (varM 5) (consA (cstM (.ty "tuple")) nilA)))) (orB (tstM blV (binM neV (binM ixV (varM 5) (unM negV (cstM (.int 1)))) (cstM (.int 1)))) (tstM blV (binM neV (callM 2 2 b_traces_from (consA (varM 5) (consA (cstM (.int 5)) nilA))) (cbM (f1 tupOfV) (consA (varM 3) nilA)))))) (tstM blV (binM eqV (varM 5) (cstM (.str ("other" : Str)))))) (retS (cstM (.bl false))) nextS) (seqS (asgS 6 (lstM (consA (cstM (.int 4)) (consA (cstM (.int 0)) (consA (binM mulV (cstM (.int 2)) (callO 1 2 6 b__law_lot (consA (cstM (.int 5)) nilA))) (consA (cstM (.int 0)) nilA)))))) (ifS (tstM blV (binM eqV (hearM2 1 ("part" : Str) (callM 1 2 b_polynomial_from (consA (binM addV2 (varM 6) (lstM (consA (binM addV2 (binM divV (binM mulV (binM ixV (varM 6) (cstM (.int 2))) (binM ixV (varM 6) (cstM (.int 2)))) (cstM (.int 2))) (binM mulV (cstM (.int 4)) (callO 1 2 6 b__law_lot (consA (cstM (.int 3)) nilA)))) nilA))) nilA))) (cstM (.str ("traces" : Str))))) (retS (cstM (.bl false))) nextS)))))) :
    ∃ ρ1 ρ2 s' v2 v3 v5 v6, nameT 2 x [u0, some s, u2, u3, none, u5, u6] = some ρ1 ∧ body ρ1 = .ok (.nx ρ2) ∧ ρ2 = [u0, some s', v2, v3, none, v5, v6] ∧ Cup (k + 34) s' ∧ Fr v2 ∧ Fr v3 ∧ Fr v5 ∧ Fr v6 := by
  subst hb
  obtain ⟨s1, c1, e1⟩ := lap_rights (u0 := u0) (u2 := some (.fz x)) (u3 := u3) (u5 := u5) (u6 := u6) h (by omega)
  obtain ⟨ns, s2, c2, l2, b2, e2⟩ := lap_draw (u0 := u0) (u2 := some (.fz x)) (u5 := u5) (u6 := u6) fr3 c1 (by omega)
  obtain ⟨y, e3, e4⟩ := lap_back (u0 := u0) (u2 := some (.fz x)) (s := s2) (u6 := u6) (t := 4 :: ns) fr5 (by rw [List.length_cons, l2]) rfl (fun x hx => by
    rcases List.mem_cons.mp hx with rfl | hx
    · unfold Bd; decide
    · exact b2 x hx)
  obtain ⟨s3, z, c3, e5⟩ := lap_even (u0 := u0) (u2 := some (.fz x)) (u3 := some (.fz (.lst ((4 :: ns).map .int)))) (u5 := some (.fz y)) fr6 c2 (by omega)
  exact ⟨_, _, s3, some (.fz x), some (.fz (.lst ((4 :: ns).map .int))), some (.fz y), some (.fz z), t_name (fsS (fsS (fs0 fr2))) rfl, e_seq e1 (e_seq e2 (e_seq e3 (e_seq e4 e5))), rfl, c3, .fz, .fz, .fz, .fz⟩
end
theorem law_math (ns : List Int) (hl : ns.length ≤ 63) (hb : ∀ z ∈ ns, Builtin.Int.intBits z ≤ 1048576) : ∃ ρ', b_law [some (.fz (.scr ns)), none, none, none, none, none, none] = .ok (.rt (.bl true) ρ') := by
  have h0 : Cup 0 (.ow false (CupV (ns.take 58) 0 0)) := ⟨false, _, 0, 0, rfl, by decide, by decide, by decide, fun c hc => bits_log (hb c (List.mem_of_mem_take hc))⟩
  have jm : newT 1 (callN 1 2 n__law_jar (consA (varM 0) nilA)) [some (.fz (.scr ns)), none, none, none, none, none, none] = .ok (.nx [some (.fz (.scr ns)), some (.ow false (CupV (ns.take 58) 0 0)), none, none, none, none, none]) :=
    e_newT (e_callN (e_consA (e_var rfl) e_nilA) rfl (jar_made ns hl)) rfl rfl rfl
  have lp := e_loopR (tg := nameT 2) (s := seqS (ifS (orB (notB (tstM truV (callO 1 1 6 b__law_product_right nilA))) (orB (notB (tstM truV (callO 1 1 10 b__law_any_right nilA))) (notB (tstM truV (callO 1 1 8 b__law_few_right nilA))))) (retS (cstM (.bl false))) nextS) (seqS (asgS 3 (binM addV2 (lstM (consA (cstM (.int 4)) nilA)) (listM (compF [4] (rng1M (consA (cstM (.int 4)) nilA)) (nameT 4) yesB (binM subV (callO 1 2 6 b__law_lot (consA (cstM (.int 17)) nilA)) (cstM (.int 8))))))) (seqS (asgS 5 (hearM2 1 ("part" : Str) (callM 1 2 b_polynomial_from (consA (varM 3) nilA)))) (seqS (ifS (orB (andB (tstM truV (cbM (f2 isiV) (consA (varM 5) (consA (cstM (.ty "tuple")) nilA)))) (orB (tstM blV (binM neV (binM ixV (varM 5) (unM negV (cstM (.int 1)))) (cstM (.int 1)))) (tstM blV (binM neV (callM 2 2 b_traces_from (consA (varM 5) (consA (cstM (.int 5)) nilA))) (cbM (f1 tupOfV) (consA (varM 3) nilA)))))) (tstM blV (binM eqV (varM 5) (cstM (.str ("other" : Str)))))) (retS (cstM (.bl false))) nextS) (seqS (asgS 6 (lstM (consA (cstM (.int 4)) (consA (cstM (.int 0)) (consA (binM mulV (cstM (.int 2)) (callO 1 2 6 b__law_lot (consA (cstM (.int 5)) nilA))) (consA (cstM (.int 0)) nilA)))))) (ifS (tstM blV (binM eqV (hearM2 1 ("part" : Str) (callM 1 2 b_polynomial_from (consA (binM addV2 (varM 6) (lstM (consA (binM addV2 (binM divV (binM mulV (binM ixV (varM 6) (cstM (.int 2))) (binM ixV (varM 6) (cstM (.int 2)))) (cstM (.int 2))) (binM mulV (cstM (.int 4)) (callO 1 2 6 b__law_lot (consA (cstM (.int 3)) nilA)))) nilA))) nilA))) (cstM (.str ("traces" : Str))))) (retS (cstM (.bl false))) nextS))))))
    (fun i ρ => ∃ (s : SV) (u2 u3 u5 u6 : Option SV), 0 ≤ i ∧ Cup (34 * i.toNat) s ∧ Fr u2 ∧ Fr u3 ∧ Fr u5 ∧ Fr u6 ∧ ρ = [some (.fz (.scr ns)), some s, u2, u3, none, u5, u6])
    ((4 : Int)).toNat 0 _ ⟨_, none, none, none, none, by decide, h0, .none, .none, .none, .none, rfl⟩ fun i ρ lo hi ⟨s, u2, u3, u5, u6, i0, c, f2, f3, f5, f6, e⟩ => by
      subst e
      have i4 : i < 4 := hi
      obtain ⟨ρ1, ρ2, s', v2, v3, v5, v6, q1, q2, q3, q4, g2, g3, g5, g6⟩ := lap_ok (u0 := some (.fz (.scr ns))) (x := .int i) f2 f3 f5 f6 c (by omega) rfl
      exact ⟨ρ1, ρ2, q1, q2, s', v2, v3, v5, v6, by omega, by rw [show 34 * (i + 1).toNat = 34 * i.toNat + 34 by omega]; exact q4, g2, g3, g5, g6, q3⟩
  obtain ⟨ρ', k1, s, u2, u3, u5, u6, -, c, -, -, -, -, e⟩ := lp
  subst e
  -- what stands fast
  obtain ⟨wm, wl, wt⟩ := traces_whole [1, -1, 2] (m := 100) (by decide)
  have we : whole [1] [1, -1, 2] = [2, -1, -2, 1] := by decide +kernel
  rw [we] at wm wt
  have b4 : ∀ a ∈ [2, -1, -2, 1], Bd 70 a := fun a ha => by
    simp only [List.mem_cons, List.not_mem_nil, or_false] at ha
    rcases ha with rfl | rfl | rfl | rfl <;> exact .sm (by decide) (by decide)
  have t1 : runV 2 b_traces_from [.lst [.int 2, .int (-1), .int (-2), .int 1], .int 100] = .ok (.tup ((powers [1, -1, 2] 100).map .int)) := by
    rw [← wt]
    exact v_traces_from (Nums.lst [2, -1, -2, 1]) wm (by show 2 ≤ 4; decide) (by show 4 ≤ 25; decide) b4 (by decide) (m := 100) (by decide) (by decide)
  have p1 : runV 7 b__law_powers [.lst [.int 1, .int (-1), .int 2], .int 100] = .ok (.tup ((powers [1, -1, 2] 100).map .int)) :=
    v_powers (ns := [1, -1, 2]) (b := 70) (many := 100) (fun a ha => by
      simp only [List.mem_cons, List.not_mem_nil, or_false] at ha
      rcases ha with rfl | rfl | rfl <;> exact .sm (by decide) (by decide)) (by decide) (by decide) (by show 3 ≤ 1000; decide)
  have n1 : neV (.tup ((powers [1, -1, 2] 100).map .int)) (.tup ((powers [1, -1, 2] 100).map .int)) = some (.bl false) := by rw [neV_tup, decide_eq_true rfl]; rfl
  have t2 : runV 2 b_traces_from [.lst [.int (-1), .int (-1), .int 1], .int 40] = .ok (.tup ((traces [-1, -1, 1] 40).map .int)) :=
    v_traces_from (Nums.lst [-1, -1, 1]) rfl (by show 2 ≤ 3; decide) (by show 3 ≤ 25; decide) (b := 70) (fun a ha => by
      simp only [List.mem_cons, List.not_mem_nil, or_false] at ha
      rcases ha with rfl | rfl | rfl <;> exact .sm (by decide) (by decide)) (by decide) (m := 40) (by decide) (by decide)
  have g39 : gd (traces [-1, -1, 1] 40) 39 = 141422324 := by decide +kernel
  have ix : ixV (.tup ((traces [-1, -1, 1] 40).map .int)) (.int 39) = some (.int 141422324) := by
    have := (Nums.tup (traces [-1, -1, 1] 40)).ix (j := 39) (i := 39) (by rw [traces_length (by decide)]; decide) (ixN_pos (i := 39) (by rw [traces_length (by decide)]; decide))
    rw [g39] at this
    exact this
  have t3 : runV 2 b_traces_from [.lst [.int 0, .int 1], .int 3] = .ok (.tup [.int 1, .int 0, .int 0]) := by
    have := v_traces_from (Nums.lst [0, 1]) rfl (by show 2 ≤ 2; decide) (by show 2 ≤ 25; decide) (b := 70) (fun a ha => by
      simp only [List.mem_cons, List.not_mem_nil, or_false] at ha
      rcases ha with rfl | rfl <;> exact .sm (by decide) (by decide)) (by decide) (m := 3) (by decide) (by decide)
    rw [show traces [0, 1] 3 = [1, 0, 0] by decide +kernel] at this
    exact this
  have q3 : eqV (.tup [.int 1, .int 0, .int 0]) (.tup [.int 1, .int 0, .int 0]) = some (.bl true) := by
    have := eqV_tup [1, 0, 0] [1, 0, 0]
    rw [decide_eq_true rfl] at this
    exact this
  have q2 : eqV (.int 141422324) (.int 141422324) = some (.bl true) := by
    have := eqV_int 141422324 141422324
    rw [decide_eq_true rfl] at this
    exact this
  refine ⟨[some (.fz (.scr ns)), some s, u2, u3, none, u5, u6], ?_⟩
  unfold b_law
  apply e_seq jm
  apply e_seq
  · exact e_forS (e_rng1 (e_consA e_cst e_nilA) (by decide)) k1
  ac_rfl
end Y

set_option Elab.async false
set_option linter.all false
set_option maxRecDepth 100000
set_option maxHeartbeats 4000000
set_option autoImplicit false
namespace Y
open PySem PySem.Spec PyProof.Rows L2 Z
def s_i_Misfit : Stmt := match top 7 with | .ClassDef _ _ _ body .. => body.getD 0 (.Pass ⟨0, 0, 0, 0⟩) | s => s
theorem sc_i_Misfit : FnScope [("self" : Str), "part"] [("self" : Str), "part"] (defScope s_i_Misfit) := ⟨rfl, rfl, rfl, by decide +kernel, rfl, by decide +kernel, by decide +kernel⟩
theorem ok_i_Misfit {P : Program} {w : World} {K : PySem.W.Frag} {mg : Str → Option Value} {base : Heap} {fa : Addr} {fd : FuncData} (F : Fun K "__init__" "Misfit.__init__" s_i_Misfit fa fd) : FnOk P w K mg base (L2.CX P w) 1 fa fd [("self" : Str), "part"] (sp1 K "part") :=
  ok_init1 F sc_i_Misfit fun X hN hs hK => by
    subst hK
    exact pss_one (ps_ost (pe_var (i := 0) (by rw [hN]; rfl) (by unfold Vis; rw [hs]; exact .inl rfl)) (pe_var (i := 1) (by rw [hN]; rfl) (by unfold Vis; rw [hs]; exact .inl rfl)))
def s_i_BadNumber : Stmt := match top 6 with | .ClassDef _ _ _ body .. => body.getD 0 (.Pass ⟨0, 0, 0, 0⟩) | s => s
theorem sc_i_BadNumber : FnScope [("self" : Str), "part"] [("self" : Str), "part"] (defScope s_i_BadNumber) := ⟨rfl, rfl, rfl, by decide +kernel, rfl, by decide +kernel, by decide +kernel⟩
theorem ok_i_BadNumber {P : Program} {w : World} {K : PySem.W.Frag} {mg : Str → Option Value} {base : Heap} {fa : Addr} {fd : FuncData} (F : Fun K "__init__" "BadNumber.__init__" s_i_BadNumber fa fd) : FnOk P w K mg base (L2.CX P w) 1 fa fd [("self" : Str), "part"] (sp1 K "part") :=
  ok_init1 F sc_i_BadNumber fun X hN hs hK => by
    subst hK
    exact pss_one (ps_ost (pe_var (i := 0) (by rw [hN]; rfl) (by unfold Vis; rw [hs]; exact .inl rfl)) (pe_var (i := 1) (by rw [hN]; rfl) (by unfold Vis; rw [hs]; exact .inl rfl)))
theorem law_at {l : PySem.W.OpenLaw} {w : World} {K : PySem.W.Frag} {h : Heap} {mg : Str → Option Value} {fa : Addr} {f_is_integer : Addr} {od_is_integer an_is_integer : Option Addr} {sl_is_integer : Array (Option Value)} {oc_is_integer kV_is_integer dc_is_integer pm_is_integer ct_is_integer : Value} {cd_is_integer : Value} {f_is_within : Addr} {od_is_within an_is_within : Option Addr} {sl_is_within : Array (Option Value)} {oc_is_within kV_is_within dc_is_within pm_is_within ct_is_within : Value} {cd_is_within : Value} {f_are_numbers : Addr} {od_are_numbers an_are_numbers : Option Addr} {sl_are_numbers : Array (Option Value)} {oc_are_numbers kV_are_numbers dc_are_numbers pm_are_numbers ct_are_numbers : Value} {cd_are_numbers : Value} {f__joined : Addr} {od__joined an__joined : Option Addr} {sl__joined : Array (Option Value)} {oc__joined kV__joined dc__joined pm__joined ct__joined : Value} {cd__joined : Value} {f_traces_by : Addr} {od_traces_by an_traces_by : Option Addr} {sl_traces_by : Array (Option Value)} {oc_traces_by kV_traces_by dc_traces_by pm_traces_by ct_traces_by : Value} {cd_traces_by : Value} {f_polynomial_by : Addr} {od_polynomial_by an_polynomial_by : Option Addr} {sl_polynomial_by : Array (Option Value)} {oc_polynomial_by kV_polynomial_by dc_polynomial_by pm_polynomial_by ct_polynomial_by : Value} {cd_polynomial_by : Value} {f__need_polynomial : Addr} {od__need_polynomial an__need_polynomial : Option Addr} {sl__need_polynomial : Array (Option Value)} {oc__need_polynomial kV__need_polynomial dc__need_polynomial pm__need_polynomial ct__need_polynomial : Value} {cd__need_polynomial : Value} {f_traces_from : Addr} {od_traces_from an_traces_from : Option Addr} {sl_traces_from : Array (Option Value)} {oc_traces_from kV_traces_from dc_traces_from pm_traces_from ct_traces_from : Value} {cd_traces_from : Value} {f_polynomial_from : Addr} {od_polynomial_from an_polynomial_from : Option Addr} {sl_polynomial_from : Array (Option Value)} {oc_polynomial_from kV_polynomial_from dc_polynomial_from pm_polynomial_from ct_polynomial_from : Value} {cd_polynomial_from : Value} {f__law_jar : Addr} {od__law_jar an__law_jar : Option Addr} {sl__law_jar : Array (Option Value)} {oc__law_jar kV__law_jar dc__law_jar pm__law_jar ct__law_jar : Value} {cd__law_jar : Value} {f__law_lot : Addr} {od__law_lot an__law_lot : Option Addr} {sl__law_lot : Array (Option Value)} {oc__law_lot kV__law_lot dc__law_lot pm__law_lot ct__law_lot : Value} {cd__law_lot : Value} {f__law_take : Addr} {od__law_take an__law_take : Option Addr} {sl__law_take : Array (Option Value)} {oc__law_take kV__law_take dc__law_take pm__law_take ct__law_take : Value} {cd__law_take : Value} {f__law_times : Addr} {od__law_times an__law_times : Option Addr} {sl__law_times : Array (Option Value)} {oc__law_times kV__law_times dc__law_times pm__law_times ct__law_times : Value} {cd__law_times : Value} {f__law_powers : Addr} {od__law_powers an__law_powers : Option Addr} {sl__law_powers : Array (Option Value)} {oc__law_powers kV__law_powers dc__law_powers pm__law_powers ct__law_powers : Value} {cd__law_powers : Value} {f__law_product_right : Addr} {od__law_product_right an__law_product_right : Option Addr} {sl__law_product_right : Array (Option Value)} {oc__law_product_right kV__law_product_right dc__law_product_right pm__law_product_right ct__law_product_right : Value} {cd__law_product_right : Value} {f__law_any_right : Addr} {od__law_any_right an__law_any_right : Option Addr} {sl__law_any_right : Array (Option Value)} {oc__law_any_right kV__law_any_right dc__law_any_right pm__law_any_right ct__law_any_right : Value} {cd__law_any_right : Value} {cc__law_few_right P__law_few_right : Addr} {f__law_few_right : Addr} {od__law_few_right an__law_few_right : Option Addr} {sl__law_few_right : Array (Option Value)} {oc__law_few_right kV__law_few_right dc__law_few_right pm__law_few_right ct__law_few_right : Value} {cc_law P_law : Addr} {f_law : Addr} {od_law an_law : Option Addr} {sl_law : Array (Option Value)} {oc_law kV_law dc_law pm_law ct_law : Value} {f__law_heard : Addr} {od__law_heard an__law_heard : Option Addr} {sl__law_heard : Array (Option Value)} {oc__law_heard kV__law_heard dc__law_heard pm__law_heard ct__law_heard : Value} {cd__law_heard : Value} {t_MOST_NUMBERS : Tok} {t_MOST_LENGTH : Tok} {D_Misfit fi_Misfit : Addr} {nm_Misfit qn_Misfit : Str} {N_Misfit : Addr} {bs_Misfit bm_Misfit sub_Misfit : List Value} {sn_Misfit : List Str} {ab_Misfit : Bool} {col_Misfit : Option Bool} {dd_Misfit : Option Addr} {m0_Misfit m1_Misfit m2_Misfit m3_Misfit m5_Misfit : Option Value} {odi_Misfit ani_Misfit : Option Addr} {sli_Misfit : Array (Option Value)} {oci_Misfit kVi_Misfit dci_Misfit pmi_Misfit cdi_Misfit cti_Misfit : Value} {CS_Misfit : Addr} {D_BadNumber fi_BadNumber : Addr} {nm_BadNumber qn_BadNumber : Str} {N_BadNumber : Addr} {bs_BadNumber bm_BadNumber sub_BadNumber : List Value} {sn_BadNumber : List Str} {ab_BadNumber : Bool} {col_BadNumber : Option Bool} {dd_BadNumber : Option Addr} {m0_BadNumber m1_BadNumber m2_BadNumber m3_BadNumber m5_BadNumber : Option Value} {odi_BadNumber ani_BadNumber : Option Addr} {sli_BadNumber : Array (Option Value)} {oci_BadNumber kVi_BadNumber dci_BadNumber pmi_BadNumber cdi_BadNumber cti_BadNumber : Value} {CS_BadNumber : Addr} (X : K.In h) (G : h.Ns mainGlobals mg) (hfa : mg "law" = some (.ref fa))
    (ax_is_integer : PySem.W.nsIn K mainGlobals "is_integer" = some (some (.ref f_is_integer)))
    (lx_is_integer : K.lookup f_is_integer = some ⟨oc_is_integer, od_is_integer, .func (PySem.W.fnOf "is_integer" "is_integer" (defArgs s_is_integer) (defBody s_is_integer) (defScope s_is_integer) .none kV_is_integer dc_is_integer pm_is_integer an_is_integer cd_is_integer ct_is_integer), sl_is_integer⟩)
    (cx_is_integer : PySem.W.codeIn K cd_is_integer "is_integer" = true)
    (kx_is_integer : PySem.W.keepIn K (.ref f_is_integer) = true)
    (ax_is_within : PySem.W.nsIn K mainGlobals "is_within" = some (some (.ref f_is_within)))
    (lx_is_within : K.lookup f_is_within = some ⟨oc_is_within, od_is_within, .func (PySem.W.fnOf "is_within" "is_within" (defArgs s_is_within) (defBody s_is_within) (defScope s_is_within) .none kV_is_within dc_is_within pm_is_within an_is_within cd_is_within ct_is_within), sl_is_within⟩)
    (cx_is_within : PySem.W.codeIn K cd_is_within "is_within" = true)
    (kx_is_within : PySem.W.keepIn K (.ref f_is_within) = true)
    (ax_are_numbers : PySem.W.nsIn K mainGlobals "are_numbers" = some (some (.ref f_are_numbers)))
    (lx_are_numbers : K.lookup f_are_numbers = some ⟨oc_are_numbers, od_are_numbers, .func (PySem.W.fnOf "are_numbers" "are_numbers" (defArgs s_are_numbers) (defBody s_are_numbers) (defScope s_are_numbers) .none kV_are_numbers dc_are_numbers pm_are_numbers an_are_numbers cd_are_numbers ct_are_numbers), sl_are_numbers⟩)
    (cx_are_numbers : PySem.W.codeIn K cd_are_numbers "are_numbers" = true)
    (kx_are_numbers : PySem.W.keepIn K (.ref f_are_numbers) = true)
    (ax__joined : PySem.W.nsIn K mainGlobals "_joined" = some (some (.ref f__joined)))
    (lx__joined : K.lookup f__joined = some ⟨oc__joined, od__joined, .func (PySem.W.fnOf "_joined" "_joined" (defArgs s__joined) (defBody s__joined) (defScope s__joined) .none kV__joined dc__joined pm__joined an__joined cd__joined ct__joined), sl__joined⟩)
    (cx__joined : PySem.W.codeIn K cd__joined "_joined" = true)
    (kx__joined : PySem.W.keepIn K (.ref f__joined) = true)
    (ax_traces_by : PySem.W.nsIn K mainGlobals "traces_by" = some (some (.ref f_traces_by)))
    (lx_traces_by : K.lookup f_traces_by = some ⟨oc_traces_by, od_traces_by, .func (PySem.W.fnOf "traces_by" "traces_by" (defArgs s_traces_by) (defBody s_traces_by) (defScope s_traces_by) .none kV_traces_by dc_traces_by pm_traces_by an_traces_by cd_traces_by ct_traces_by), sl_traces_by⟩)
    (cx_traces_by : PySem.W.codeIn K cd_traces_by "traces_by" = true)
    (kx_traces_by : PySem.W.keepIn K (.ref f_traces_by) = true)
    (ax_polynomial_by : PySem.W.nsIn K mainGlobals "polynomial_by" = some (some (.ref f_polynomial_by)))
    (lx_polynomial_by : K.lookup f_polynomial_by = some ⟨oc_polynomial_by, od_polynomial_by, .func (PySem.W.fnOf "polynomial_by" "polynomial_by" (defArgs s_polynomial_by) (defBody s_polynomial_by) (defScope s_polynomial_by) .none kV_polynomial_by dc_polynomial_by pm_polynomial_by an_polynomial_by cd_polynomial_by ct_polynomial_by), sl_polynomial_by⟩)
    (cx_polynomial_by : PySem.W.codeIn K cd_polynomial_by "polynomial_by" = true)
    (kx_polynomial_by : PySem.W.keepIn K (.ref f_polynomial_by) = true)
    (ax__need_polynomial : PySem.W.nsIn K mainGlobals "_need_polynomial" = some (some (.ref f__need_polynomial)))
    (lx__need_polynomial : K.lookup f__need_polynomial = some ⟨oc__need_polynomial, od__need_polynomial, .func (PySem.W.fnOf "_need_polynomial" "_need_polynomial" (defArgs s__need_polynomial) (defBody s__need_polynomial) (defScope s__need_polynomial) .none kV__need_polynomial dc__need_polynomial pm__need_polynomial an__need_polynomial cd__need_polynomial ct__need_polynomial), sl__need_polynomial⟩)
    (cx__need_polynomial : PySem.W.codeIn K cd__need_polynomial "_need_polynomial" = true)
    (kx__need_polynomial : PySem.W.keepIn K (.ref f__need_polynomial) = true)
    (ax_traces_from : PySem.W.nsIn K mainGlobals "traces_from" = some (some (.ref f_traces_from)))
    (lx_traces_from : K.lookup f_traces_from = some ⟨oc_traces_from, od_traces_from, .func (PySem.W.fnOf "traces_from" "traces_from" (defArgs s_traces_from) (defBody s_traces_from) (defScope s_traces_from) .none kV_traces_from dc_traces_from pm_traces_from an_traces_from cd_traces_from ct_traces_from), sl_traces_from⟩)
    (cx_traces_from : PySem.W.codeIn K cd_traces_from "traces_from" = true)
    (kx_traces_from : PySem.W.keepIn K (.ref f_traces_from) = true)
    (ax_polynomial_from : PySem.W.nsIn K mainGlobals "polynomial_from" = some (some (.ref f_polynomial_from)))
    (lx_polynomial_from : K.lookup f_polynomial_from = some ⟨oc_polynomial_from, od_polynomial_from, .func (PySem.W.fnOf "polynomial_from" "polynomial_from" (defArgs s_polynomial_from) (defBody s_polynomial_from) (defScope s_polynomial_from) .none kV_polynomial_from dc_polynomial_from pm_polynomial_from an_polynomial_from cd_polynomial_from ct_polynomial_from), sl_polynomial_from⟩)
    (cx_polynomial_from : PySem.W.codeIn K cd_polynomial_from "polynomial_from" = true)
    (kx_polynomial_from : PySem.W.keepIn K (.ref f_polynomial_from) = true)
    (ax__law_jar : PySem.W.nsIn K mainGlobals "_law_jar" = some (some (.ref f__law_jar)))
    (lx__law_jar : K.lookup f__law_jar = some ⟨oc__law_jar, od__law_jar, .func (PySem.W.fnOf "_law_jar" "_law_jar" (defArgs s__law_jar) (defBody s__law_jar) (defScope s__law_jar) .none kV__law_jar dc__law_jar pm__law_jar an__law_jar cd__law_jar ct__law_jar), sl__law_jar⟩)
    (cx__law_jar : PySem.W.codeIn K cd__law_jar "_law_jar" = true)
    (kx__law_jar : PySem.W.keepIn K (.ref f__law_jar) = true)
    (ax__law_lot : PySem.W.nsIn K mainGlobals "_law_lot" = some (some (.ref f__law_lot)))
    (lx__law_lot : K.lookup f__law_lot = some ⟨oc__law_lot, od__law_lot, .func (PySem.W.fnOf "_law_lot" "_law_lot" (defArgs s__law_lot) (defBody s__law_lot) (defScope s__law_lot) .none kV__law_lot dc__law_lot pm__law_lot an__law_lot cd__law_lot ct__law_lot), sl__law_lot⟩)
    (cx__law_lot : PySem.W.codeIn K cd__law_lot "_law_lot" = true)
    (kx__law_lot : PySem.W.keepIn K (.ref f__law_lot) = true)
    (ax__law_take : PySem.W.nsIn K mainGlobals "_law_take" = some (some (.ref f__law_take)))
    (lx__law_take : K.lookup f__law_take = some ⟨oc__law_take, od__law_take, .func (PySem.W.fnOf "_law_take" "_law_take" (defArgs s__law_take) (defBody s__law_take) (defScope s__law_take) .none kV__law_take dc__law_take pm__law_take an__law_take cd__law_take ct__law_take), sl__law_take⟩)
    (cx__law_take : PySem.W.codeIn K cd__law_take "_law_take" = true)
    (kx__law_take : PySem.W.keepIn K (.ref f__law_take) = true)
    (ax__law_times : PySem.W.nsIn K mainGlobals "_law_times" = some (some (.ref f__law_times)))
    (lx__law_times : K.lookup f__law_times = some ⟨oc__law_times, od__law_times, .func (PySem.W.fnOf "_law_times" "_law_times" (defArgs s__law_times) (defBody s__law_times) (defScope s__law_times) .none kV__law_times dc__law_times pm__law_times an__law_times cd__law_times ct__law_times), sl__law_times⟩)
    (cx__law_times : PySem.W.codeIn K cd__law_times "_law_times" = true)
    (kx__law_times : PySem.W.keepIn K (.ref f__law_times) = true)
    (ax__law_powers : PySem.W.nsIn K mainGlobals "_law_powers" = some (some (.ref f__law_powers)))
    (lx__law_powers : K.lookup f__law_powers = some ⟨oc__law_powers, od__law_powers, .func (PySem.W.fnOf "_law_powers" "_law_powers" (defArgs s__law_powers) (defBody s__law_powers) (defScope s__law_powers) .none kV__law_powers dc__law_powers pm__law_powers an__law_powers cd__law_powers ct__law_powers), sl__law_powers⟩)
    (cx__law_powers : PySem.W.codeIn K cd__law_powers "_law_powers" = true)
    (kx__law_powers : PySem.W.keepIn K (.ref f__law_powers) = true)
    (ax__law_product_right : PySem.W.nsIn K mainGlobals "_law_product_right" = some (some (.ref f__law_product_right)))
    (lx__law_product_right : K.lookup f__law_product_right = some ⟨oc__law_product_right, od__law_product_right, .func (PySem.W.fnOf "_law_product_right" "_law_product_right" (defArgs s__law_product_right) (defBody s__law_product_right) (defScope s__law_product_right) .none kV__law_product_right dc__law_product_right pm__law_product_right an__law_product_right cd__law_product_right ct__law_product_right), sl__law_product_right⟩)
    (cx__law_product_right : PySem.W.codeIn K cd__law_product_right "_law_product_right" = true)
    (kx__law_product_right : PySem.W.keepIn K (.ref f__law_product_right) = true)
    (ax__law_any_right : PySem.W.nsIn K mainGlobals "_law_any_right" = some (some (.ref f__law_any_right)))
    (lx__law_any_right : K.lookup f__law_any_right = some ⟨oc__law_any_right, od__law_any_right, .func (PySem.W.fnOf "_law_any_right" "_law_any_right" (defArgs s__law_any_right) (defBody s__law_any_right) (defScope s__law_any_right) .none kV__law_any_right dc__law_any_right pm__law_any_right an__law_any_right cd__law_any_right ct__law_any_right), sl__law_any_right⟩)
    (cx__law_any_right : PySem.W.codeIn K cd__law_any_right "_law_any_right" = true)
    (kx__law_any_right : PySem.W.keepIn K (.ref f__law_any_right) = true)
    (ax__law_few_right : PySem.W.nsIn K mainGlobals "_law_few_right" = some (some (.ref f__law_few_right)))
    (lx__law_few_right : K.lookup f__law_few_right = some ⟨oc__law_few_right, od__law_few_right, .func (PySem.W.fnOf "_law_few_right" "_law_few_right" (defArgs s__law_few_right) (defBody s__law_few_right) (defScope s__law_few_right) .none kV__law_few_right dc__law_few_right pm__law_few_right an__law_few_right (.ref cc__law_few_right) ct__law_few_right), sl__law_few_right⟩)
    (cx__law_few_right : PySem.W.codeIn K (.ref cc__law_few_right) "_law_few_right" = true)
    (kx__law_few_right : PySem.W.keepIn K (.ref f__law_few_right) = true)
    (tx__law_few_right : PySem.W.codeHdIn K cc__law_few_right P__law_few_right = true)
    (ux__law_few_right : K.lookup P__law_few_right = none)
    (ax_law : PySem.W.nsIn K mainGlobals "law" = some (some (.ref f_law)))
    (lx_law : K.lookup f_law = some ⟨oc_law, od_law, .func (PySem.W.fnOf "law" "law" (defArgs s_law) (defBody s_law) (defScope s_law) .none kV_law dc_law pm_law an_law (.ref cc_law) ct_law), sl_law⟩)
    (cx_law : PySem.W.codeIn K (.ref cc_law) "law" = true)
    (kx_law : PySem.W.keepIn K (.ref f_law) = true)
    (tx_law : PySem.W.codeHdIn K cc_law P_law = true)
    (ux_law : K.lookup P_law = none)
    (ax__law_heard : PySem.W.nsIn K mainGlobals "_law_heard" = some (some (.ref f__law_heard)))
    (lx__law_heard : K.lookup f__law_heard = some ⟨oc__law_heard, od__law_heard, .func (PySem.W.fnOf "_law_heard" "_law_heard" (defArgs s__law_heard) (defBody s__law_heard) (defScope s__law_heard) .none kV__law_heard dc__law_heard pm__law_heard an__law_heard cd__law_heard ct__law_heard), sl__law_heard⟩)
    (cx__law_heard : PySem.W.codeIn K cd__law_heard "_law_heard" = true)
    (kx__law_heard : PySem.W.keepIn K (.ref f__law_heard) = true)
    (z_int : PySem.W.nsIn K mainGlobals "int" = some none)
    (z_isinstance : PySem.W.nsIn K mainGlobals "isinstance" = some none)
    (z_bool : PySem.W.nsIn K mainGlobals "bool" = some none)
    (z_list : PySem.W.nsIn K mainGlobals "list" = some none)
    (z_tuple : PySem.W.nsIn K mainGlobals "tuple" = some none)
    (z_all : PySem.W.nsIn K mainGlobals "all" = some none)
    (z_zip : PySem.W.nsIn K mainGlobals "zip" = some none)
    (z_reversed : PySem.W.nsIn K mainGlobals "reversed" = some none)
    (z_sum : PySem.W.nsIn K mainGlobals "sum" = some none)
    (z_len : PySem.W.nsIn K mainGlobals "len" = some none)
    (z_range : PySem.W.nsIn K mainGlobals "range" = some none)
    (z_abs : PySem.W.nsIn K mainGlobals "abs" = some none)
    (z_enumerate : PySem.W.nsIn K mainGlobals "enumerate" = some none)
    (z_repr : PySem.W.nsIn K mainGlobals "repr" = some none)
    (nx_MOST_NUMBERS : PySem.W.nsIn K mainGlobals "MOST_NUMBERS" = some (some (.int 25 t_MOST_NUMBERS)))
    (nx_MOST_LENGTH : PySem.W.nsIn K mainGlobals "MOST_LENGTH" = some (some (.int 100 t_MOST_LENGTH)))
    (aC_Misfit : PySem.W.nsIn K mainGlobals "Misfit" = some (some (.ref D_Misfit)))
    (xL_Misfit : K.lookup D_Misfit = some (excClassObj nm_Misfit qn_Misfit D_Misfit N_Misfit bs_Misfit bm_Misfit true sn_Misfit sub_Misfit ab_Misfit col_Misfit dd_Misfit m0_Misfit m1_Misfit m2_Misfit m3_Misfit m5_Misfit "ValueError.__new__"))
    (bV_Misfit : PySem.HandSPX.refsVE bm_Misfit = true)
    (sa_Misfit : PySem.W.findIn K (.ref D_Misfit) "__setattr__" = some (some (.builtin "object.__setattr__")))
    (eC_Misfit : PySem.W.subIn K (.ref D_Misfit) (.type "BaseException") = some true)
    (tC_Misfit : PySem.W.typeIn K (.ref D_Misfit) = some (.type "type"))
    (kC_Misfit : PySem.W.keepIn K (.ref D_Misfit) = true)
    (nb_Misfit : PySem.W.findIn K (.ref D_Misfit) "part" = some none)
    (ii_Misfit : PySem.W.findIn K (.ref D_Misfit) "__init__" = some (some (.ref fi_Misfit)))
    (ti_Misfit : PySem.W.typeIn K (.ref fi_Misfit) = some (.type "function"))
    (li_Misfit : K.lookup fi_Misfit = some ⟨oci_Misfit, odi_Misfit, .func (PySem.W.fnOf "__init__" "Misfit.__init__" (defArgs s_i_Misfit) (defBody s_i_Misfit) (defScope s_i_Misfit) .none kVi_Misfit dci_Misfit pmi_Misfit ani_Misfit cdi_Misfit cti_Misfit), sli_Misfit⟩)
    (ci_Misfit : PySem.W.codeIn K cdi_Misfit "Misfit.__init__" = true)
    (ki_Misfit : PySem.W.keepIn K (.ref fi_Misfit) = true)
    (ga_Misfit : PySem.W.findIn K (.ref D_Misfit) "__getattribute__" = some (some (.builtin "BaseException.__getattribute__")))
    (gg_Misfit : PySem.W.findIn K (.ref D_Misfit) "__getattr__" = some none)
    (hC_Misfit : PySem.W.hasDictIn K D_Misfit = true)
    (ca_Misfit : PySem.W.findIn K (.ref D_Misfit) "__class__" = some (some (.builtin "object.__class__")))
    (hn_Misfit : PySem.W.specialIn K (.builtin "object.__class__") "__get__" = some (some (.builtin "getset_descriptor.__get__")))
    (ht_Misfit : PySem.W.takesIn K (.builtin "object.__class__") = some true)
    (hm_Misfit : PySem.W.mroIn K D_Misfit (.type "object") = some true)
    (aS_Misfit : PySem.W.nsIn K mainGlobals "WebError" = some (some (.ref CS_Misfit)))
    (te_Misfit : PySem.W.exmOne K (.ref D_Misfit) (.ref CS_Misfit) = some true)
    (kk_Misfit : PySem.W.kitOne K (.ref D_Misfit) (.ref D_Misfit) = some true)
    (aC_BadNumber : PySem.W.nsIn K mainGlobals "BadNumber" = some (some (.ref D_BadNumber)))
    (xL_BadNumber : K.lookup D_BadNumber = some (excClassObj nm_BadNumber qn_BadNumber D_BadNumber N_BadNumber bs_BadNumber bm_BadNumber true sn_BadNumber sub_BadNumber ab_BadNumber col_BadNumber dd_BadNumber m0_BadNumber m1_BadNumber m2_BadNumber m3_BadNumber m5_BadNumber "ValueError.__new__"))
    (bV_BadNumber : PySem.HandSPX.refsVE bm_BadNumber = true)
    (sa_BadNumber : PySem.W.findIn K (.ref D_BadNumber) "__setattr__" = some (some (.builtin "object.__setattr__")))
    (eC_BadNumber : PySem.W.subIn K (.ref D_BadNumber) (.type "BaseException") = some true)
    (tC_BadNumber : PySem.W.typeIn K (.ref D_BadNumber) = some (.type "type"))
    (kC_BadNumber : PySem.W.keepIn K (.ref D_BadNumber) = true)
    (nb_BadNumber : PySem.W.findIn K (.ref D_BadNumber) "part" = some none)
    (ii_BadNumber : PySem.W.findIn K (.ref D_BadNumber) "__init__" = some (some (.ref fi_BadNumber)))
    (ti_BadNumber : PySem.W.typeIn K (.ref fi_BadNumber) = some (.type "function"))
    (li_BadNumber : K.lookup fi_BadNumber = some ⟨oci_BadNumber, odi_BadNumber, .func (PySem.W.fnOf "__init__" "BadNumber.__init__" (defArgs s_i_BadNumber) (defBody s_i_BadNumber) (defScope s_i_BadNumber) .none kVi_BadNumber dci_BadNumber pmi_BadNumber ani_BadNumber cdi_BadNumber cti_BadNumber), sli_BadNumber⟩)
    (ci_BadNumber : PySem.W.codeIn K cdi_BadNumber "BadNumber.__init__" = true)
    (ki_BadNumber : PySem.W.keepIn K (.ref fi_BadNumber) = true)
    (ga_BadNumber : PySem.W.findIn K (.ref D_BadNumber) "__getattribute__" = some (some (.builtin "BaseException.__getattribute__")))
    (gg_BadNumber : PySem.W.findIn K (.ref D_BadNumber) "__getattr__" = some none)
    (hC_BadNumber : PySem.W.hasDictIn K D_BadNumber = true)
    (ca_BadNumber : PySem.W.findIn K (.ref D_BadNumber) "__class__" = some (some (.builtin "object.__class__")))
    (hn_BadNumber : PySem.W.specialIn K (.builtin "object.__class__") "__get__" = some (some (.builtin "getset_descriptor.__get__")))
    (ht_BadNumber : PySem.W.takesIn K (.builtin "object.__class__") = some true)
    (hm_BadNumber : PySem.W.mroIn K D_BadNumber (.type "object") = some true)
    (aS_BadNumber : PySem.W.nsIn K mainGlobals "WebError" = some (some (.ref CS_BadNumber)))
    (te_BadNumber : PySem.W.exmOne K (.ref D_BadNumber) (.ref CS_BadNumber) = some true)
    (kk_BadNumber : PySem.W.kitOne K (.ref D_BadNumber) (.ref D_BadNumber) = some true)
    (hP__law_few_right : h.get? P__law_few_right = some (PySem.W.tabObj #[]))
    (hP_law : h.get? P_law = some (PySem.W.tabObj #[]))
    (nP : P__law_few_right ≠ P_law) :
    LawAtG l w K 9 63 "script" mg fa h := by
  have e := hfa.symm.trans (PySem.W.mg_of X G ax_law)
  cases e
  have g_int : mg "int" = none := PySem.W.mg_none_of X G z_int
  have g_isinstance : mg "isinstance" = none := PySem.W.mg_none_of X G z_isinstance
  have g_bool : mg "bool" = none := PySem.W.mg_none_of X G z_bool
  have g_list : mg "list" = none := PySem.W.mg_none_of X G z_list
  have g_tuple : mg "tuple" = none := PySem.W.mg_none_of X G z_tuple
  have g_all : mg "all" = none := PySem.W.mg_none_of X G z_all
  have g_zip : mg "zip" = none := PySem.W.mg_none_of X G z_zip
  have g_reversed : mg "reversed" = none := PySem.W.mg_none_of X G z_reversed
  have g_sum : mg "sum" = none := PySem.W.mg_none_of X G z_sum
  have g_len : mg "len" = none := PySem.W.mg_none_of X G z_len
  have g_range : mg "range" = none := PySem.W.mg_none_of X G z_range
  have g_abs : mg "abs" = none := PySem.W.mg_none_of X G z_abs
  have g_enumerate : mg "enumerate" = none := PySem.W.mg_none_of X G z_enumerate
  have g_repr : mg "repr" = none := PySem.W.mg_none_of X G z_repr
  have oC_Misfit : OexC K D_Misfit := ⟨⟨_, _, _, _, _, _, _, _, _, _, _, _, _, _, _, xL_Misfit, bV_Misfit⟩, sa_Misfit, eC_Misfit, tC_Misfit, kC_Misfit⟩
  have hd_Misfit : Hd K CS_Misfit D_Misfit "part" := ⟨⟨ga_Misfit, gg_Misfit, eC_Misfit, hC_Misfit, ca_Misfit, hn_Misfit, ht_Misfit, hm_Misfit⟩, ⟨ga_Misfit, gg_Misfit, eC_Misfit, hC_Misfit⟩, nb_Misfit, te_Misfit⟩
  have oC_BadNumber : OexC K D_BadNumber := ⟨⟨_, _, _, _, _, _, _, _, _, _, _, _, _, _, _, xL_BadNumber, bV_BadNumber⟩, sa_BadNumber, eC_BadNumber, tC_BadNumber, kC_BadNumber⟩
  have hd_BadNumber : Hd K CS_BadNumber D_BadNumber "part" := ⟨⟨ga_BadNumber, gg_BadNumber, eC_BadNumber, hC_BadNumber, ca_BadNumber, hn_BadNumber, ht_BadNumber, hm_BadNumber⟩, ⟨ga_BadNumber, gg_BadNumber, eC_BadNumber, hC_BadNumber⟩, nb_BadNumber, te_BadNumber⟩
  have n_MOST_NUMBERS : ∃ t, mg "MOST_NUMBERS" = some (.int 25 t) := ⟨_, PySem.W.mg_of X G nx_MOST_NUMBERS⟩
  have n_MOST_LENGTH : ∃ t, mg "MOST_LENGTH" = some (.int 100 t) := ⟨_, PySem.W.mg_of X G nx_MOST_LENGTH⟩
  refine ⟨PySem.W.fnOf "law" "law" (defArgs s_law) (defBody s_law) (defScope s_law) .none kV_law dc_law pm_law an_law (.ref cc_law) ct_law, [(cc__law_few_right, P__law_few_right), (cc_law, P_law)], spF ({ K := K, ca := fun n => match n with | 2 => D_BadNumber | _ => D_Misfit, wa := fun _ => .non, T := [(P__law_few_right, ("_law_few_right.<locals>.<lambda>" : Str)), (P_law, ("law.<locals>.<lambda>" : Str))] } : Cn) 1 7 b_law, ?_, ?_, ?_, fun s v => .of_eq rfl, ?_, ?_⟩
  · exact (List.forall_mem_cons.mpr ⟨hP__law_few_right, (List.forall_mem_cons.mpr ⟨hP_law, (fun _ z => nomatch z)⟩)⟩)
  · exact (List.forall_mem_cons.mpr ⟨ux__law_few_right, (List.forall_mem_cons.mpr ⟨ux_law, (fun _ z => nomatch z)⟩)⟩)
  · exact (List.forall_mem_cons.mpr ⟨PySem.W.codeHd_of_K X tx__law_few_right, (List.forall_mem_cons.mpr ⟨PySem.W.codeHd_of_K X tx_law, (fun _ z => nomatch z)⟩)⟩)
  · intro H a ns hl hb hT hS
    obtain ⟨ρ', e⟩ := law_math ns hl hb
    refine ⟨fun _ => True, [some (.fz (.scr ns))], fun _ _ => trivial, ?_, rfl, by decide, env_fz (vs := [.ref a]) (xs := [.scr ns]) (reps_cons (rep_scr.mpr ⟨a, rfl, ?_⟩) reps_nil), fun i s h o => ?_, ?_⟩
    · exact (List.forall_mem_cons.mpr ⟨.nil (hT _ (.head _)), (List.forall_mem_cons.mpr ⟨.nil (hT _ (.tail _ (.head _))), (fun _ z => nomatch z)⟩)⟩)
    · rcases hS with z | z
      · exact .inl ⟨trivial, z⟩
      · exact .inr z
    · cases i with
      | zero => cases h; cases o
      | succ i => cases h
    · show (finM (b_law [some (.fz (.scr ns)), none, none, none, none, none, none])).wp _ _
      unfold finM
      rw [e]
      exact fun v H' _ r => rep_bl.mp r
  · intro base KX GX TX
    let C : Cn := ({ K := K, ca := fun n => match n with | 2 => D_BadNumber | _ => D_Misfit, wa := fun _ => .non, T := [(P__law_few_right, ("_law_few_right.<locals>.<lambda>" : Str)), (P_law, ("law.<locals>.<lambda>" : Str))] } : Cn)
    have fi := fun_mk (st := s_i_Misfit) li_Misfit ci_Misfit ki_Misfit
    have x_Misfit : Ex1 l.prog w C mg base "Misfit" 1 "part" "part" := ⟨fi_Misfit, _, oC_Misfit, nb_Misfit, ii_Misfit, ti_Misfit, ok_i_Misfit fi, fi.binds (ps := [("self" : Str), "part"]) fun _ _ _ _ _ _ us hl => match us, hl with | [_, _], _ => rfl, PySem.W.mg_of X G aC_Misfit⟩
    have fi := fun_mk (st := s_i_BadNumber) li_BadNumber ci_BadNumber ki_BadNumber
    have x_BadNumber : Ex1 l.prog w C mg base "BadNumber" 2 "part" "part" := ⟨fi_BadNumber, _, oC_BadNumber, nb_BadNumber, ii_BadNumber, ti_BadNumber, ok_i_BadNumber fi, fi.binds (ps := [("self" : Str), "part"]) fun _ _ _ _ _ _ us hl => match us, hl with | [_, _], _ => rfl, PySem.W.mg_of X G aC_BadNumber⟩
    have h__law_heard : Hear2 C mg "_law_heard" "ask" 1 "part" s__law_heard ["ask", "found", "error"] := ⟨f__law_heard, _, _, _, _, _, _, _, _, _, lx__law_heard, cx__law_heard, PySem.W.mg_of X G ax__law_heard, kx__law_heard, gv__law_heard (C := C) (PySem.W.mg_of X G aS_Misfit) (PySem.W.mg_of X G aC_Misfit) g_isinstance hd_Misfit kk_Misfit⟩
    have l__law_few_right : LamD C base mg cc__law_few_right P__law_few_right ("_law_few_right.<locals>.<lambda>" : Str) := ⟨TX (cc__law_few_right, P__law_few_right) (.head _), (.head _), fun p hp e => by rcases hp with _ | ⟨_, _ | ⟨_, h⟩⟩ <;> first | rfl | exact absurd e (Ne.symm nP) | cases h⟩
    have l_law : LamD C base mg cc_law P_law ("law.<locals>.<lambda>" : Str) := ⟨TX (cc_law, P_law) (.tail _ (.head _)), (.tail _ (.head _)), fun p hp e => by rcases hp with _ | ⟨_, _ | ⟨_, h⟩⟩ <;> first | rfl | exact absurd e nP | cases h⟩
    have F_is_integer := fun_mk (st := s_is_integer) lx_is_integer cx_is_integer kx_is_integer
    have d_is_integer : Df l.prog w C mg base "is_integer" 3 ["value"] [] (spF C 1 1 b_is_integer) := ⟨f_is_integer, _, (ok_is_integer (C := C) F_is_integer (g_int := g_int) (g_isinstance := g_isinstance) (g_bool := g_bool)), PySem.W.mg_of X G ax_is_integer, kx_is_integer, F_is_integer.binds (ps := ["value"]) fun _ _ _ _ _ _ us hl => match us, hl with | [_], _ => rfl, fun _ z => nomatch z⟩
    have F_is_within := fun_mk (st := s_is_within) lx_is_within cx_is_within kx_is_within
    have d_is_within : Df l.prog w C mg base "is_within" 4 ["value", "least", "most"] [] (spF C 3 3 b_is_within) := ⟨f_is_within, _, (ok_is_within (C := C) F_is_within (d_is_integer := d_is_integer)), PySem.W.mg_of X G ax_is_within, kx_is_within, F_is_within.binds (ps := ["value", "least", "most"]) fun _ _ _ _ _ _ us hl => match us, hl with | [_, _, _], _ => rfl, fun _ z => nomatch z⟩
    have F_are_numbers := fun_mk (st := s_are_numbers) lx_are_numbers cx_are_numbers kx_are_numbers
    have d_are_numbers : Df l.prog w C mg base "are_numbers" 4 ["value"] [] (spF C 1 2 b_are_numbers) := ⟨f_are_numbers, _, (ok_are_numbers (C := C) F_are_numbers (g_list := g_list) (g_tuple := g_tuple) (g_isinstance := g_isinstance) (g_all := g_all) (d_is_integer := d_is_integer)), PySem.W.mg_of X G ax_are_numbers, kx_are_numbers, F_are_numbers.binds (ps := ["value"]) fun _ _ _ _ _ _ us hl => match us, hl with | [_], _ => rfl, fun _ z => nomatch z⟩
    have F__joined := fun_mk (st := s__joined) lx__joined cx__joined kx__joined
    have d__joined : Df l.prog w C mg base "_joined" 3 ["traces", "falling"] [] (spF C 2 4 b__joined) := ⟨f__joined, _, (ok__joined (C := C) F__joined (g_zip := g_zip) (g_reversed := g_reversed) (g_sum := g_sum)), PySem.W.mg_of X G ax__joined, kx__joined, F__joined.binds (ps := ["traces", "falling"]) fun _ _ _ _ _ _ us hl => match us, hl with | [_, _], _ => rfl, fun _ z => nomatch z⟩
    have F_traces_by := fun_mk (st := s_traces_by) lx_traces_by cx_traces_by kx_traces_by
    have d_traces_by : Df l.prog w C mg base "traces_by" 4 ["polynomial", "many"] [] (spF C 2 6 b_traces_by) := ⟨f_traces_by, _, (ok_traces_by (C := C) F_traces_by (g_list := g_list) (g_reversed := g_reversed) (g_len := g_len) (g_range := g_range) (g_tuple := g_tuple) (d__joined := d__joined)), PySem.W.mg_of X G ax_traces_by, kx_traces_by, F_traces_by.binds (ps := ["polynomial", "many"]) fun _ _ _ _ _ _ us hl => match us, hl with | [_, _], _ => rfl, fun _ z => nomatch z⟩
    have F_polynomial_by := fun_mk (st := s_polynomial_by) lx_polynomial_by cx_polynomial_by kx_polynomial_by
    have d_polynomial_by : Df l.prog w C mg base "polynomial_by" 4 ["traces"] [] (spF C 1 4 b_polynomial_by) := ⟨f_polynomial_by, _, (ok_polynomial_by (C := C) F_polynomial_by (g_len := g_len) (g_range := g_range) (g_tuple := g_tuple) (g_reversed := g_reversed) (d__joined := d__joined)), PySem.W.mg_of X G ax_polynomial_by, kx_polynomial_by, F_polynomial_by.binds (ps := ["traces"]) fun _ _ _ _ _ _ us hl => match us, hl with | [_], _ => rfl, fun _ z => nomatch z⟩
    have F__need_polynomial := fun_mk (st := s__need_polynomial) lx__need_polynomial cx__need_polynomial kx__need_polynomial
    have d__need_polynomial : Df l.prog w C mg base "_need_polynomial" 5 ["value"] [] (spF C 1 1 b__need_polynomial) := ⟨f__need_polynomial, _, (ok__need_polynomial (C := C) F__need_polynomial (n_MOST_NUMBERS := n_MOST_NUMBERS) (g_len := g_len) (x_BadNumber := x_BadNumber) (d_are_numbers := d_are_numbers)), PySem.W.mg_of X G ax__need_polynomial, kx__need_polynomial, F__need_polynomial.binds (ps := ["value"]) fun _ _ _ _ _ _ us hl => match us, hl with | [_], _ => rfl, fun _ z => nomatch z⟩
    have F_traces_from := fun_mk (st := s_traces_from) lx_traces_from cx_traces_from kx_traces_from
    have d_traces_from : Df l.prog w C mg base "traces_from" 6 ["polynomial", "many"] [] (spF C 2 2 b_traces_from) := ⟨f_traces_from, _, (ok_traces_from (C := C) F_traces_from (n_MOST_LENGTH := n_MOST_LENGTH) (x_BadNumber := x_BadNumber) (d__need_polynomial := d__need_polynomial) (d_is_within := d_is_within) (d_traces_by := d_traces_by)), PySem.W.mg_of X G ax_traces_from, kx_traces_from, F_traces_from.binds (ps := ["polynomial", "many"]) fun _ _ _ _ _ _ us hl => match us, hl with | [_, _], _ => rfl, fun _ z => nomatch z⟩
    have F_polynomial_from := fun_mk (st := s_polynomial_from) lx_polynomial_from cx_polynomial_from kx_polynomial_from
    have d_polynomial_from : Df l.prog w C mg base "polynomial_from" 5 ["traces"] [] (spF C 1 2 b_polynomial_from) := ⟨f_polynomial_from, _, (ok_polynomial_from (C := C) F_polynomial_from (n_MOST_NUMBERS := n_MOST_NUMBERS) (g_len := g_len) (x_BadNumber := x_BadNumber) (x_Misfit := x_Misfit) (d_are_numbers := d_are_numbers) (d_polynomial_by := d_polynomial_by)), PySem.W.mg_of X G ax_polynomial_from, kx_polynomial_from, F_polynomial_from.binds (ps := ["traces"]) fun _ _ _ _ _ _ us hl => match us, hl with | [_], _ => rfl, fun _ z => nomatch z⟩
    have F__law_jar := fun_mk (st := s__law_jar) lx__law_jar cx__law_jar kx__law_jar
    have d__law_jar : Df l.prog w C mg base "_law_jar" 3 ["script"] [] (spN C 1 2 n__law_jar) := ⟨f__law_jar, _, (ok__law_jar (C := C) F__law_jar (g_int := g_int)), PySem.W.mg_of X G ax__law_jar, kx__law_jar, F__law_jar.binds (ps := ["script"]) fun _ _ _ _ _ _ us hl => match us, hl with | [_], _ => rfl, fun _ z => nomatch z⟩
    have F__law_lot := fun_mk (st := s__law_lot) lx__law_lot cx__law_lot kx__law_lot
    have d__law_lot : Df l.prog w C mg base "_law_lot" 3 ["jar", "many"] [] (spF C 2 6 b__law_lot) := ⟨f__law_lot, _, (ok__law_lot (C := C) F__law_lot (g_int := g_int) (g_len := g_len) (g_abs := g_abs)), PySem.W.mg_of X G ax__law_lot, kx__law_lot, F__law_lot.binds (ps := ["jar", "many"]) fun _ _ _ _ _ _ us hl => match us, hl with | [_, _], _ => rfl, fun _ z => nomatch z⟩
    have F__law_take := fun_mk (st := s__law_take) lx__law_take cx__law_take kx__law_take
    have d__law_take : Df l.prog w C mg base "_law_take" 4 ["jar", "some"] [] (spF C 2 2 b__law_take) := ⟨f__law_take, _, (ok__law_take (C := C) F__law_take (g_len := g_len) (d__law_lot := d__law_lot)), PySem.W.mg_of X G ax__law_take, kx__law_take, F__law_take.binds (ps := ["jar", "some"]) fun _ _ _ _ _ _ us hl => match us, hl with | [_, _], _ => rfl, fun _ z => nomatch z⟩
    have F__law_times := fun_mk (st := s__law_times) lx__law_times cx__law_times kx__law_times
    have d__law_times : Df l.prog w C mg base "_law_times" 3 ["one", "other"] [] (spF C 2 7 b__law_times) := ⟨f__law_times, _, (ok__law_times (C := C) F__law_times (g_len := g_len) (g_enumerate := g_enumerate)), PySem.W.mg_of X G ax__law_times, kx__law_times, F__law_times.binds (ps := ["one", "other"]) fun _ _ _ _ _ _ us hl => match us, hl with | [_, _], _ => rfl, fun _ z => nomatch z⟩
    have F__law_powers := fun_mk (st := s__law_powers) lx__law_powers cx__law_powers kx__law_powers
    have d__law_powers : Df l.prog w C mg base "_law_powers" 3 ["numbers", "many"] [] (spF C 2 7 b__law_powers) := ⟨f__law_powers, _, (ok__law_powers (C := C) F__law_powers (g_len := g_len) (g_range := g_range) (g_sum := g_sum) (g_zip := g_zip) (g_tuple := g_tuple)), PySem.W.mg_of X G ax__law_powers, kx__law_powers, F__law_powers.binds (ps := ["numbers", "many"]) fun _ _ _ _ _ _ us hl => match us, hl with | [_, _], _ => rfl, fun _ z => nomatch z⟩
    have F__law_product_right := fun_mk (st := s__law_product_right) lx__law_product_right cx__law_product_right kx__law_product_right
    have d__law_product_right : DfG l.prog w C mg base "_law_product_right" 7 ["jar"] (spF C 1 6 b__law_product_right) := ⟨f__law_product_right, _, (ok__law_product_right (C := C) lx__law_product_right cx__law_product_right (g_range := g_range) (g_len := g_len) (g_repr := g_repr) (g_list := g_list) (g_tuple := g_tuple) (d__law_take := d__law_take) (d__law_lot := d__law_lot) (d__law_times := d__law_times) (d_traces_from := d_traces_from) (d__law_powers := d__law_powers) (d_polynomial_from := d_polynomial_from)), PySem.W.mg_of X G ax__law_product_right, kx__law_product_right, F__law_product_right.binds (ps := ["jar"]) fun _ _ _ _ _ _ us hl => match us, hl with | [_], _ => rfl⟩
    have F__law_any_right := fun_mk (st := s__law_any_right) lx__law_any_right cx__law_any_right kx__law_any_right
    have d__law_any_right : Df l.prog w C mg base "_law_any_right" 7 ["jar"] [] (spF C 1 10 b__law_any_right) := ⟨f__law_any_right, _, (ok__law_any_right (C := C) F__law_any_right (g_range := g_range) (g_len := g_len) (g_tuple := g_tuple) (g_zip := g_zip) (d__law_lot := d__law_lot) (d_polynomial_from := d_polynomial_from) (d_traces_from := d_traces_from) (d__law_times := d__law_times)), PySem.W.mg_of X G ax__law_any_right, kx__law_any_right, F__law_any_right.binds (ps := ["jar"]) fun _ _ _ _ _ _ us hl => match us, hl with | [_], _ => rfl, fun _ z => nomatch z⟩
    have F__law_few_right := fun_mk (st := s__law_few_right) lx__law_few_right cx__law_few_right kx__law_few_right
    have d__law_few_right : Df l.prog w C mg base "_law_few_right" 8 ["jar"] [] (spF C 1 8 b__law_few_right) := ⟨f__law_few_right, _, (ok__law_few_right (C := C) lx__law_few_right cx__law_few_right l__law_few_right (g_int := g_int) (d__law_lot := d__law_lot) (d_polynomial_from := d_polynomial_from) (h__law_heard := h__law_heard)), PySem.W.mg_of X G ax__law_few_right, kx__law_few_right, F__law_few_right.binds (ps := ["jar"]) fun _ _ _ _ _ _ us hl => match us, hl with | [_], _ => rfl, fun _ z => nomatch z⟩
    have F_law := fun_mk (st := s_law) lx_law cx_law kx_law
    exact (ok_law (C := C) lx_law cx_law l_law (g_range := g_range) (g_tuple := g_tuple) (g_isinstance := g_isinstance) (d__law_jar := d__law_jar) (d__law_product_right := d__law_product_right) (d__law_any_right := d__law_any_right) (d__law_few_right := d__law_few_right) (d__law_lot := d__law_lot) (d_polynomial_from := d_polynomial_from) (d_traces_from := d_traces_from) (d__law_powers := d__law_powers) (h__law_heard := h__law_heard))
end Y

open PySem PySem.W PyProof.Rows in
set_option maxRecDepth 100000 in
set_option maxHeartbeats 0 in
theorem PySem.Challenge.cw_littlewebs_k32_closed_walks_there_and_ba_holds : PySem.Challenge.rw_littlewebs_k32_closed_walks_there_and_ba.Holds := by
  w_on; o_law; k_head; (case hw => w_witness2)
  k_fill
  refine Y.walkG (l := PySem.Challenge.rw_littlewebs_k32_closed_walks_there_and_ba) (n := 63) (k := 9) (x := "script") rfl (by decide) rfl ⟨rfl, by decide, by decide⟩ (fun w h Y => PySem.W.km_in_of Y) ?F ?X
  case X =>
    intro w H s e s' z
    obtain ⟨_, _, _, _, _, _, _, _, _, _, _, _, z⟩ := z
    exact z
  case F =>
    intro w mg fa h Y0 KX G hmg
    have hT := PySem.W.km_tabs_of Y0
    refine' Y.law_at (P__law_few_right := 174) (P_law := 181) KX G hmg ?ax_is_integer ?lx_is_integer ?cx_is_integer ?kx_is_integer ?ax_is_within ?lx_is_within ?cx_is_within ?kx_is_within ?ax_are_numbers ?lx_are_numbers ?cx_are_numbers ?kx_are_numbers ?ax__joined ?lx__joined ?cx__joined ?kx__joined ?ax_traces_by ?lx_traces_by ?cx_traces_by ?kx_traces_by ?ax_polynomial_by ?lx_polynomial_by ?cx_polynomial_by ?kx_polynomial_by ?ax__need_polynomial ?lx__need_polynomial ?cx__need_polynomial ?kx__need_polynomial ?ax_traces_from ?lx_traces_from ?cx_traces_from ?kx_traces_from ?ax_polynomial_from ?lx_polynomial_from ?cx_polynomial_from ?kx_polynomial_from ?ax__law_jar ?lx__law_jar ?cx__law_jar ?kx__law_jar ?ax__law_lot ?lx__law_lot ?cx__law_lot ?kx__law_lot ?ax__law_take ?lx__law_take ?cx__law_take ?kx__law_take ?ax__law_times ?lx__law_times ?cx__law_times ?kx__law_times ?ax__law_powers ?lx__law_powers ?cx__law_powers ?kx__law_powers ?ax__law_product_right ?lx__law_product_right ?cx__law_product_right ?kx__law_product_right ?ax__law_any_right ?lx__law_any_right ?cx__law_any_right ?kx__law_any_right ?ax__law_few_right ?lx__law_few_right ?cx__law_few_right ?kx__law_few_right ?tx__law_few_right ?ux__law_few_right ?ax_law ?lx_law ?cx_law ?kx_law ?tx_law ?ux_law ?ax__law_heard ?lx__law_heard ?cx__law_heard ?kx__law_heard ?z_int ?z_isinstance ?z_bool ?z_list ?z_tuple ?z_all ?z_zip ?z_reversed ?z_sum ?z_len ?z_range ?z_abs ?z_enumerate ?z_repr ?nx_MOST_NUMBERS ?nx_MOST_LENGTH ?aC_Misfit ?xL_Misfit ?bV_Misfit ?sa_Misfit ?eC_Misfit ?tC_Misfit ?kC_Misfit ?nb_Misfit ?ii_Misfit ?ti_Misfit ?li_Misfit ?ci_Misfit ?ki_Misfit ?ga_Misfit ?gg_Misfit ?hC_Misfit ?ca_Misfit ?hn_Misfit ?ht_Misfit ?hm_Misfit ?aS_Misfit ?te_Misfit ?kk_Misfit ?aC_BadNumber ?xL_BadNumber ?bV_BadNumber ?sa_BadNumber ?eC_BadNumber ?tC_BadNumber ?kC_BadNumber ?nb_BadNumber ?ii_BadNumber ?ti_BadNumber ?li_BadNumber ?ci_BadNumber ?ki_BadNumber ?ga_BadNumber ?gg_BadNumber ?hC_BadNumber ?ca_BadNumber ?hn_BadNumber ?ht_BadNumber ?hm_BadNumber ?aS_BadNumber ?te_BadNumber ?kk_BadNumber (hT 174 (by k_mem)) (hT 181 (by k_mem)) (by decide)
    (case ax_is_integer => first | k_is | rfl)
    (case lx_is_integer => first | k_is | rfl)
    (case cx_is_integer => first | k_is | rfl)
    (case kx_is_integer => first | k_is | rfl)
    (case ax_is_within => first | k_is | rfl)
    (case lx_is_within => first | k_is | rfl)
    (case cx_is_within => first | k_is | rfl)
    (case kx_is_within => first | k_is | rfl)
    (case ax_are_numbers => first | k_is | rfl)
    (case lx_are_numbers => first | k_is | rfl)
    (case cx_are_numbers => first | k_is | rfl)
    (case kx_are_numbers => first | k_is | rfl)
    (case ax__joined => first | k_is | rfl)
    (case lx__joined => first | k_is | rfl)
    (case cx__joined => first | k_is | rfl)
    (case kx__joined => first | k_is | rfl)
    (case ax_traces_by => first | k_is | rfl)
    (case lx_traces_by => first | k_is | rfl)
    (case cx_traces_by => first | k_is | rfl)
    (case kx_traces_by => first | k_is | rfl)
    (case ax_polynomial_by => first | k_is | rfl)
    (case lx_polynomial_by => first | k_is | rfl)
    (case cx_polynomial_by => first | k_is | rfl)
    (case kx_polynomial_by => first | k_is | rfl)
    (case ax__need_polynomial => first | k_is | rfl)
    (case lx__need_polynomial => first | k_is | rfl)
    (case cx__need_polynomial => first | k_is | rfl)
    (case kx__need_polynomial => first | k_is | rfl)
    (case ax_traces_from => first | k_is | rfl)
    (case lx_traces_from => first | k_is | rfl)
    (case cx_traces_from => first | k_is | rfl)
    (case kx_traces_from => first | k_is | rfl)
    (case ax_polynomial_from => first | k_is | rfl)
    (case lx_polynomial_from => first | k_is | rfl)
    (case cx_polynomial_from => first | k_is | rfl)
    (case kx_polynomial_from => first | k_is | rfl)
    (case ax__law_jar => first | k_is | rfl)
    (case lx__law_jar => first | k_is | rfl)
    (case cx__law_jar => first | k_is | rfl)
    (case kx__law_jar => first | k_is | rfl)
    (case ax__law_lot => first | k_is | rfl)
    (case lx__law_lot => first | k_is | rfl)
    (case cx__law_lot => first | k_is | rfl)
    (case kx__law_lot => first | k_is | rfl)
    (case ax__law_take => first | k_is | rfl)
    (case lx__law_take => first | k_is | rfl)
    (case cx__law_take => first | k_is | rfl)
    (case kx__law_take => first | k_is | rfl)
    (case ax__law_times => first | k_is | rfl)
    (case lx__law_times => first | k_is | rfl)
    (case cx__law_times => first | k_is | rfl)
    (case kx__law_times => first | k_is | rfl)
    (case ax__law_powers => first | k_is | rfl)
    (case lx__law_powers => first | k_is | rfl)
    (case cx__law_powers => first | k_is | rfl)
    (case kx__law_powers => first | k_is | rfl)
    (case ax__law_product_right => first | k_is | rfl)
    (case lx__law_product_right => first | k_is | rfl)
    (case cx__law_product_right => first | k_is | rfl)
    (case kx__law_product_right => first | k_is | rfl)
    (case ax__law_any_right => first | k_is | rfl)
    (case lx__law_any_right => first | k_is | rfl)
    (case cx__law_any_right => first | k_is | rfl)
    (case kx__law_any_right => first | k_is | rfl)
    (case ax__law_few_right => first | k_is | rfl)
    (case lx__law_few_right => first | k_is | rfl)
    (case cx__law_few_right => first | k_is | rfl)
    (case kx__law_few_right => first | k_is | rfl)
    (case tx__law_few_right => first | k_is | rfl)
    (case ux__law_few_right => first | k_is | rfl)
    (case ax_law => first | k_is | rfl)
    (case lx_law => first | k_is | rfl)
    (case cx_law => first | k_is | rfl)
    (case kx_law => first | k_is | rfl)
    (case tx_law => first | k_is | rfl)
    (case ux_law => first | k_is | rfl)
    (case ax__law_heard => first | k_is | rfl)
    (case lx__law_heard => first | k_is | rfl)
    (case cx__law_heard => first | k_is | rfl)
    (case kx__law_heard => first | k_is | rfl)
    (case z_int => first | k_is | rfl)
    (case z_isinstance => first | k_is | rfl)
    (case z_bool => first | k_is | rfl)
    (case z_list => first | k_is | rfl)
    (case z_tuple => first | k_is | rfl)
    (case z_all => first | k_is | rfl)
    (case z_zip => first | k_is | rfl)
    (case z_reversed => first | k_is | rfl)
    (case z_sum => first | k_is | rfl)
    (case z_len => first | k_is | rfl)
    (case z_range => first | k_is | rfl)
    (case z_abs => first | k_is | rfl)
    (case z_enumerate => first | k_is | rfl)
    (case z_repr => first | k_is | rfl)
    (case nx_MOST_NUMBERS => first | k_is | rfl)
    (case nx_MOST_LENGTH => first | k_is | rfl)
    (case aC_Misfit => first | k_is | rfl)
    (case xL_Misfit => first | k_is | rfl)
    (case bV_Misfit => first | k_is | rfl)
    (case sa_Misfit => first | k_is | rfl)
    (case eC_Misfit => first | k_is | rfl)
    (case tC_Misfit => first | k_is | rfl)
    (case kC_Misfit => first | k_is | rfl)
    (case nb_Misfit => first | k_is | rfl)
    (case ii_Misfit => first | k_is | rfl)
    (case ti_Misfit => first | k_is | rfl)
    (case li_Misfit => first | k_is | rfl)
    (case ci_Misfit => first | k_is | rfl)
    (case ki_Misfit => first | k_is | rfl)
    (case ga_Misfit => first | k_is | rfl)
    (case gg_Misfit => first | k_is | rfl)
    (case hC_Misfit => first | k_is | rfl)
    (case ca_Misfit => first | k_is | rfl)
    (case hn_Misfit => first | k_is | rfl)
    (case ht_Misfit => first | k_is | rfl)
    (case hm_Misfit => first | k_is | rfl)
    (case aS_Misfit => first | k_is | rfl)
    (case te_Misfit => first | k_is | rfl)
    (case kk_Misfit => first | k_is | rfl)
    (case aC_BadNumber => first | k_is | rfl)
    (case xL_BadNumber => first | k_is | rfl)
    (case bV_BadNumber => first | k_is | rfl)
    (case sa_BadNumber => first | k_is | rfl)
    (case eC_BadNumber => first | k_is | rfl)
    (case tC_BadNumber => first | k_is | rfl)
    (case kC_BadNumber => first | k_is | rfl)
    (case nb_BadNumber => first | k_is | rfl)
    (case ii_BadNumber => first | k_is | rfl)
    (case ti_BadNumber => first | k_is | rfl)
    (case li_BadNumber => first | k_is | rfl)
    (case ci_BadNumber => first | k_is | rfl)
    (case ki_BadNumber => first | k_is | rfl)
    (case ga_BadNumber => first | k_is | rfl)
    (case gg_BadNumber => first | k_is | rfl)
    (case hC_BadNumber => first | k_is | rfl)
    (case ca_BadNumber => first | k_is | rfl)
    (case hn_BadNumber => first | k_is | rfl)
    (case ht_BadNumber => first | k_is | rfl)
    (case hm_BadNumber => first | k_is | rfl)
    (case aS_BadNumber => first | k_is | rfl)
    (case te_BadNumber => first | k_is | rfl)
    (case kk_BadNumber => first | k_is | rfl)

